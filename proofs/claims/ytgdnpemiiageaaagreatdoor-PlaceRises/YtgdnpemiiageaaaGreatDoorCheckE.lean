/-
  A part of the proof.
-/
import Derived.Test.YtgdnpemiiageaaaGreatDoorCheckA
import Derived.Test.YtgdnpemiiageaaaGreatDoorUnionA
import Derived.Test.YtgdnpemiiageaaaGreatDoorBindC
set_option maxHeartbeats 16000000
set_option maxRecDepth 100000
namespace Go.Proofs.YtgdnpemiiageaaaGreatDoor
open Go.RowKit Go.Maps
section
variable {w0 w:World} {c:M.Cx} {pb lb mb qb:Nat} {nv yv fv:Value} {mn:Int} {Z:List M.Ty} {ofs:List Int}
def Far (pb:Nat) (w:World) (v:Value):Prop:=∀ov,w.cell? (aD pb 6)=some ov->∀g,v.ownBlock=some g->ov.ownBlock≠some g
theorem Cst.ov (h:Cst w0 w c pb lb mb qb nv yv mn fv Z ofs):∃ov D,w.cell? (aD pb 6)=some ov/\w.heap[pb]? =some (.cells (pcs c nv yv mn lb qb fv ov) 51 (0,0))/\w.ownsRow w0.heap.size 3 1 ov ofs.length (C7 ofs)/\Sho w lb mb 4000 (tl c Z) D (fun g=>ov.ownBlock≠some g)/\∀g,w.heap.size<=g->ov.ownBlock≠some g:=by
 obtain⟨ov,D,h1,h2,h3⟩:=h.st;refine⟨ov,D,cr h1 rfl,h1,h2,h3,fun g hg e=> ?_⟩;have:=(h2.lt g e).2;omega
theorem Cst.far {w1:World} (h:Cst w0 w c pb lb mb qb nv yv mn fv Z ofs) (hc:KG w w1) {v:Value} (hv:∀g,v.ownBlock=some g->w.heap.size<=g):Far pb w1 v:=by
 obtain⟨ov,D,h1,h2,h3,h4,h5⟩:=h.ov;intro ov' e g hg;have hb:=hc.2 _ _ _ _ h2 (by decide) (by decide);have:ov'=ov:=by
  rw[cell_of_row w1 pb 6 _ _ _ hb]at e;exact(Option.some.inj e).symm
 subst this;exact h5 g (hv g hg)
theorem W4c {T:List M.Ty} {t:M.Ty} (h:Fw T) (ht:t.list.length<=100000000/\t.fields.length<=2001):Fw (T++[t]):=by
 intro i hi;by_cases hil:i<T.length
 · rw[List.getElem_append_left hil];exact h i hil
 · have e:i=T.length:=by simp at hi;omega
   subst e;simp only[List.getElem_concat_length];exact ht
theorem H7c (h:Cst w0 w c pb lb mb qb nv yv mn fv Z ofs) (t:M.Ty) (fa la:Option Addr) (fn fc ln lc:Nat) (hfo:w.ownsRow 0 126 2 (.slice fa fn fc) t.fields.length (F6 t.fields)) (hlo:w.ownsRow 0 3 1 (.slice la ln lc) t.list.length (C7 t.list)) (f1:Far pb w (.slice fa fn fc)) (f2:Far pb w (.slice la ln lc)) (hk:M.TyOk t (tl c Z).length) (hf:t.list.length<=100000000/\t.fields.length<=2001) (hN:(tl c Z).length+1<=4000):
 Calls Tryz.prog 17 #[pV lb,.agg #[iV t.kind,.slice fa fn fc,.slice la ln lc,iV t.of']] w fun e w'=>e= .returned (iV ((tl c Z).length:Int))/\Cst w0 w' c pb lb mb qb nv yv mn fv (Z++[t]) ofs/\KG w w':=by
 obtain⟨ov,D,h1,h2,h3,h4,h5⟩:=h.ov;refine(Q5a w h4 t fa la fn fc ln lc ⟨_,_,rfl,hfo,hlo,fun g hg=>f1 ov h1 g hg,fun g hg=>f2 ov h1 g hg⟩ hk hN).mono ?_;rintro e w' ⟨rfl,⟨v,hv,hc⟩,hs⟩;obtain⟨k1,k2⟩:=h.grow hv hc h2 h3 hs (W4c h.few hf);exact⟨rfl,k1,k2⟩
theorem S0c (h:Cst w0 w c pb lb mb qb nv yv mn fv Z ofs) (ls:List Int) (hls:∀x∈ls,0<=x/\x<((tl c Z).length:Int)) (hne:ls≠[]) (la:Option Addr) (lc:Nat) (hol:w.ownsRow 0 3 1 (.slice la ls.length lc) ls.length (C7 ls)) (hn:ls.length<=2001) (hwg:M.wgL (ls.map (trx (tl c Z)))<=200000000) (hN:(tl c Z).length+1<=4000):
 Calls Tryz.prog 94 #[pV lb,.slice la ls.length lc] w fun e w'=>∃(r:Nat) (X:List M.Ty),e= .returned (iV (r:Int))/\X.length<=1/\r<(tl c (Z++X)).length/\M.tr (tl c (Z++X)) r=M.Y2 (ls.map (trx (tl c Z)))/\Cst w0 w' c pb lb mb qb nv yv mn fv (Z++X) ofs/\KG w w':=by
 obtain⟨ov,D,h1,h2,h3,h4,h5⟩:=h.ov;refine(Q4b w h4 h5 h.few ls hls hne la lc hol hn hwg hN).mono ?_;rintro e w' ⟨r,X,rfl,hX,hr,hs,hf,ht,v,hv,hc⟩;obtain⟨k1,k2⟩:=h.grow hv hc h2 h3 hs hf;rw[Z5]at hr ht;exact⟨r,X,rfl,hX,hr,ht,k1,k2⟩
end
open Go.RowKit Go.Maps
section
variable {w0 w:World} {c:M.Cx} {pb lb mb qb:Nat} {nv yv fv:Value} {mn:Int} {Z:List M.Ty} {ofs:List Int} {of:M.Of}
theorem G1b (h:Cst w0 w c pb lb mb qb nv yv mn fv Z ofs) (hN:(tl c Z).length+1<=4000):
 Calls Tryz.prog 94 #[pV lb,sN] w fun e w'=>∃(r:Nat) (X:List M.Ty),e= .returned (iV (r:Int))/\X.length<=1/\r<(tl c (Z++X)).length/\M.tr (tl c (Z++X)) r=M.Y2 []/\Cst w0 w' c pb lb mb qb nv yv mn fv (Z++X) ofs/\KG w w':=by
 obtain⟨ov,D,h1,h2,h3,h4,h5⟩:=h.ov;refine(Q3b w h4 h.few hN).mono ?_;rintro e w' ⟨r,X,rfl,hX,hr,hs,hf,ht,v,hv,hc⟩;obtain⟨k1,k2⟩:=h.grow hv hc h2 h3 hs hf;rw[Z5]at hr ht;exact⟨r,X,rfl,hX,hr,ht,k1,k2⟩
def GrQ (w0 w:World) (c:M.Cx) (pb lb mb qb:Nat) (nv yv:Value) (mn:Int) (fv:Value) (Z:List M.Ty) (ofs:List Int) (t:M.Tr) (e:Ending) (w':World):Prop:=
 ∃(x:Nat) (X:List M.Ty),e= .returned (iV (x:Int))/\X.length<=2/\x<(tl c (Z++X)).length/\M.tr (tl c (Z++X)) x=t/\Cst w0 w' c pb lb mb qb nv yv mn fv (Z++X) ofs/\KG w w'
theorem Z4c (h:Cst w0 w c pb lb mb qb nv yv mn fv Z ofs) (nd:M.Nd) (hls:∀x∈nd.list,Lk c Z ofs of x) (hn:nd.list.length<=1200) (la:Option Addr) (lc:Nat) (hlo:w.ownsRow 0 3 1 (.slice la nd.list.length lc) nd.list.length (C7 nd.list)) (hwg:M.wgL (nd.list.map (M.ofA of))<=25000000) (hN:(tl c Z).length+2<=4000):
 Calls Tryz.prog 63 #[pV pb,nvl nd la lc] w (GrQ w0 w c pb lb mb qb nv yv mn fv Z ofs (M.Q5c of nd)):=by
 unfold M.Q5c nvl;obtain⟨kd,va,vb,vc,ls,tx,vn,vt,vp⟩:=nd;simp only at *;obtain⟨oa,oc,hpb,fz,q0,q1,q2,q3,q4,q5,q6,qp,qo⟩:=h.cell;have hT:=h.ts;obtain⟨i0,hi0,hz0,hz1,hz2⟩:=info_parts Tryz.infoInt;have HQO:=A0 qo;have HQ3:=A0 q3;have H0:=A0 h;have HO:=A0 hlo;have HL:=A0 hls;have hnum:∀x∈ls,0<=ofs.getD x.toNat 0/\ofs.getD x.toNat 0<((tl c Z).length:Int)/\trx (tl c Z) (ofs.getD x.toNat 0)=M.ofA of x:=fun x hx=>by
  obtain⟨p,r,hp,e,hr,hrl,htr⟩:=hls x hx;have e2:ofs.getD x.toNat 0=(r:Int):=by rw[e,Int.toNat_natCast,List.getD_eq_getElem?_getD,List.getElem?_eq_getElem hp];exact hr
  rw[e2];refine⟨by omega,by omega, ?_⟩;unfold trx;rw[Int.toNat_natCast];exact htr
 have HNM:=A0 hnum;have hml:(ls.map fun x=>ofs.getD x.toNat 0).map (trx (tl c Z))=ls.map (M.ofA of):=by
  rw[List.map_map];exact List.map_congr_left fun x hx=>(hnum x hx).2.2
 have HU:Hid (∀(u:World) (ad:Option Addr) (ac:Nat),Chg No w u->(ls=[]->ad=none/\ac=0)->u.ownsRow w.heap.size 3 1 (.slice ad ls.length ac) ls.length (C7 (ls.map fun x=>ofs.getD x.toNat 0))->Calls Tryz.prog 94 #[pV lb,.slice ad ls.length ac] u fun e w'=>∃(r:Nat) (X:List M.Ty),e= .returned (iV (r:Int))/\X.length<=1/\r<(tl c (Z++X)).length/\M.tr (tl c (Z++X)) r=M.Y2 (ls.map (M.ofA of))/\Cst w0 w' c pb lb mb qb nv yv mn fv (Z++X) ofs/\KG u w'):=fun u ad ac hu hnil hown=>by
  by_cases hl:ls=[]
  · obtain⟨rfl,rfl⟩:=hnil hl;subst hl;exact G1b (h.still hu) (by omega)
  · have:=S0c (h.still hu) (ls.map fun x=>ofs.getD x.toNat 0) (fun x hx=>by
     obtain⟨y,hy,rfl⟩:=List.mem_map.1 hx;exact⟨(hnum y hy).1,(hnum y hy).2.1⟩) (by simpa using hl) ad ac (by rw[List.length_map];exact C9 hown (Nat.zero_le _)) (by rw[List.length_map];omega) (by rw[hml];omega) (by omega)
    rw[hml,List.length_map]at this;exact this
 have HPU:Hid (∀(u:World) (X:List M.Ty) (r:Nat),Cst w0 u c pb lb mb qb nv yv mn fv (Z++X) ofs->X.length<=1->r<(tl c (Z++X)).length->_):=fun u X r hu hX hr=>H7c hu ⟨8,[],[],(r:Int)⟩ none none 0 0 0 0 (World.ownsRow_nil _ _ _ _) (World.ownsRow_nil _ _ _ _) (fun _ _ g hg=>by simp[Value.ownBlock]at hg) (fun _ _ g hg=>by simp[Value.ownBlock]at hg) (.inr (.inr (.inl ⟨rfl,rfl,rfl,Int.natCast_nonneg r,Int.ofNat_lt.2 hr⟩))) ⟨by simp,by simp⟩ (by rw[M3]at hN⊢;rw[List.length_append];omega);simp only at HPU;have A1:=Chg.alloc No w (ndC kd va vb vc (.slice la ls.length lc) tx vn vt vp);have A1h:=A0 A1;clear h hlo hls hnum hml qp qo q0 q1 q2 q4 q5 fz A1 hT;go_enter Tryz.func63,Tryz.ntmps63;go_wp2_with fail
 go_loopw [11,5] (fun v u wr=>∃(j:Nat) (ad:Option Addr) (ac:Nat),j<=ls.length/\v=iV (j:Int)/\u= .slice ad j ac/\Hid (j=0->ad=none/\ac=0)/\Hid (Chg No w wr)/\Hid (wr.ownsRow w.heap.size 3 1 (.slice ad j ac) j (C7 ((ls.take j).map fun x=>ofs.getD x.toNat 0)))) (fun v _ _=>ls.length - (intOf v).toNat)
 case atStart=>exact⟨0,none,0,Nat.zero_le _,rfl,rfl,fun _=>⟨rfl,rfl⟩,A1h.out,World.ownsRow_nil _ _ _ _⟩
 case round=>
  obtain⟨j,ad,ac,hj,rfl,rfl,NR,CR,OR⟩:=hrel;have q6':=A4 CR.out q6;have hwr:w.heap.size<=wr.heap.size:=CR.out.size;by_cases hjl:j<ls.length
  · obtain⟨g2,hla,hg2,hl1,hl2,v0⟩:=D7 (A8 HO.out CR.out (fun _ _ x=>x)) hjl;subst hla;obtain⟨p,r,hp,e,hr,hrl,htr⟩:=HL.out ls[j] (List.getElem_mem hjl);obtain⟨go,hoa,ho0,ho1,ho2,ho3,y0,-⟩:=HQO.out p hp;subst hoa;rw[hr]at y0;have y0':=A4 CR.out y0;have HT:Hid ((ls.take (j+1)).map (fun x=>ofs.getD x.toNat 0)=(ls.take j).map (fun x=>ofs.getD x.toNat 0)++[(r:Int)]):=by
     show _=_;rw[List.take_succ_eq_append_getElem hjl,List.map_append,List.map_singleton,e,Int.toNat_natCast,List.getD_eq_getElem?_getD,List.getElem?_eq_getElem hp,hr];rfl
    obtain⟨acc,hacc⟩:∃acc,acc=(ls.take j).map (fun x=>ofs.getD x.toNat 0):=⟨_,rfl⟩;rw[<-hacc]at OR HT;clear hacc;rw[e]at v0;have hgow:=blt y0';have hpbw:=blt q6';simp only at hgow hpbw;have hp':(p:Int)<(ofs.length:Int):=by omega
    unfold maxLen at hl2 ho3;have HO4:=A0 (OR.out.alloc (.cells #[iV (r:Int)] 3));clear e hr htr y0;go_wp2_with (at_builtin;refine wpList_append_own _ rfl _ _ 48 rfl w.heap.size 3 i0 (iV 0) 1 8 Tryz.underlying48 hi0 hz0 hz1 hz2 rfl (by decide) _ _ _ rfl HO4.out (aD wr.heap.size 0) 1 1 [iV (r:Int)] rfl rfl ?c1 ?c2 ?c3 ?c4 ?c5 ?_)
    case c1=>
     intro i u hu;match i,hu with
     |0,hu=>simp at hu;subst hu;simp[Addr.add]
    case c2=>intro u hu;simp at hu;subst hu;rfl
    case c3=>simp only[maxLen];omega
    case c4=>omega
    case c5=>simp;omega
    intro v' w4 hown4 hg4 _;obtain⟨ad4,c4,rfl⟩:=B6 hown4;have HOW:=A0 hown4;have hcb:Chg (fun k=>w.heap.size<=k) wr w4:=(Chg.alloc (fun k=>w.heap.size<=k) wr (.cells #[iV (r:Int)] 3)).trans (Chg.grown hg4) (fun k hk x=>(A9 HO4.out k x.symm).1);have HC4:Hid (Chg No w w4):=((CR.out.mono (S':=fun k=>w.heap.size<=k) (fun _ _ x=>x.elim)).trans hcb (fun _ _ x=>x)).mono (fun k hk x=>by omega);clear hown4 hg4 hcb;go_wp2_with fail
    go_roundw
    case rel=>exact⟨j+1,ad4,c4,by omega,by go_num,rfl,fun e=>by omega,HC4.out,(show World.ownsRow _ _ _ _ _ _ _ from by rw[HT.out,J9];exact HOW.out)⟩
    case measure=>simp[intOf];omega
  · have hje:j=ls.length:=by omega
    subst hje;rw[List.take_length]at OR;have NN:Hid (ls=[]->ad=none/\ac=0):=fun e=>NR.out (by rw[e];rfl);have q3':=A4 CR.out HQ3.out;have hpbw:=blt q3';simp only at hpbw;clear NR q6 q6';go_wp2_with fail
    go_region_with (first
     |(go_at_call 94;refine(HU.out _ ad ac (C8 CR.out (Chg.drewN _ _ 1)) NN.out (A8 OR.out (Chg.drewN No _ 1) (fun _ _ x=>x))).mono ?_;rintro e w5 ⟨r,X,rfl,hX,hr,ht,hC,hk⟩;have q35:w5.cell? (aD pb 3)=some (pV lb):=by (obtain⟨_,_,_,_,_,_,_,q,_⟩:=hC.cell;exact q))
     |(go_at_call 17;refine(HPU.out _ X r hC hX hr).mono ?_;rintro e w6 ⟨rfl,hC6,hk6⟩))
    all_goals
     have HQ:Hid (GrQ w0 w c pb lb mb qb nv yv mn fv Z ofs (.nd 8 [] [M.Y2 (ls.map (M.ofA of))]) (.returned (iV ((tl c (Z++X)).length:Int))) w6):=by
      have e1:Z++(X++[⟨8,[],[],(r:Int)⟩])=(Z++X)++[⟨8,[],[],(r:Int)⟩]:=(List.append_assoc _ _ _).symm;have htt:=M.I2a hC.ts (t:=⟨8,[],[],(r:Int)⟩) (.inr (.inr (.inl ⟨rfl,rfl,rfl,Int.natCast_nonneg r,Int.ofNat_lt.2 hr⟩)));refine⟨(tl c (Z++X)).length,X++[⟨8,[],[],(r:Int)⟩],rfl, ?_, ?_, ?_, ?_,((KG.still (C8 CR.out (Chg.drewN _ _ 1))).trans hk).trans hk6⟩
      · rw[List.length_append,List.length_singleton];omega
      · rw[e1,M3,M3,List.length_append,List.length_append,List.length_append,List.length_singleton];omega
      · rw[e1,<-Z5,htt];simp[ht]
      · rw[e1];exact hC6
     clear hC hk hC6 hk6 ht;go_wp2_with fail
     go_ret;exact HQ.out
end
open Go.RowKit Go.Maps
def KQ (a b:World):Prop:=a.heap.size<=b.heap.size/\∀(q:Nat) (cs:Array Value) (e:TypeId) (fz:Nat×Nat),a.heap[q]? =some (.cells cs e fz)->e≠101->e≠68->e≠3->e≠51->b.heap[q]? =some (.cells cs e fz)
theorem KQ.refl (a:World):KQ a a:=⟨Nat.le_refl _,fun _ _ _ _ h _ _ _ _=>h⟩
theorem KQ.trans {a b c:World} (h:KQ a b) (k:KQ b c):KQ a c:=⟨Nat.le_trans h.1 k.1,fun q cs e fz x h1 h2 h3 h4=>k.2 q cs e fz (h.2 q cs e fz x h1 h2 h3 h4) h1 h2 h3 h4⟩
theorem KQ.kg {a b:World} (h:KG a b):KQ a b:=⟨h.1,fun q cs e fz x h1 h2 _ _=>h.2 q cs e fz x h1 h2⟩
theorem KQ.still {a b:World} (h:Chg No a b):KQ a b:= .kg (.still h)
section
variable {w0 w:World} {c:M.Cx} {pb lb mb qb:Nat} {nv yv fv:Value} {mn:Int} {Z:List M.Ty} {ofs:List Int} {of:M.Of}
theorem Cst.push {w1 w2:World} {x:Int} {ov ov':Value} (h:Cst w0 w c pb lb mb qb nv yv mn fv Z ofs) (hov:w.cell? (aD pb 6)=some ov) (h1:Chg No w w1) (hg:w1.grownBy w2 ov.ownBlock) (ho:w2.ownsRow w0.heap.size 3 1 ov' (ofs.length+1) (C7 ofs++[iV x])) {s:Nat} (hat:ov'.ownBlock=ov.ownBlock\/ov'.ownBlock=some s) (hsz:w.heap.size<=s):
 w2.cell? (aD pb 6)=some ov/\w2.frozen? (aD pb 6)=false/\pb<w2.heap.size/\Cst w0 (w2.setCell (aD pb 6) ov') c pb lb mb qb nv yv mn fv Z (ofs++[x])/\KQ w (w2.setCell (aD pb 6) ov'):=by
 obtain⟨hc,⟨ov0,D,hb,hr,hs⟩,hf⟩:=h;have e:ov0=ov:=by
  rw[cell_of_row w pb 6 _ _ _ hb]at hov;exact Option.some.inj hov
 subst e;have hr1:w1.ownsRow w0.heap.size 3 1 ov0 ofs.length (C7 ofs):=A8 hr h1 (fun _ _ x=>x);have nobk:∀{k:Nat} {cs:Array Value} {e:TypeId} {fz:Nat×Nat},w.heap[k]? =some (.cells cs e fz)->e≠3->some k≠ov0.ownBlock:=fun {k cs e fz} hk he hx=>by
  obtain⟨_,cur,hh⟩:=A9 hr k hx.symm;rw[hk]at hh;simp only[Option.some.injEq,Obj.cells.injEq]at hh;exact he hh.2.1
 have C2:Chg (fun k=>some k=ov0.ownBlock) w w2:=(h1.mono (fun _ _ x=>x.elim)).trans (Chg.grown hg) (fun _ _ x=>x);have hb2:w2.heap[pb]? =some (.cells (pcs c nv yv mn lb qb fv ov0) 51 (0,0)):=by
  rw[C2.block pb (ltG hb) (nobk hb (by decide))];exact hb
 have C3:Chg (fun k=>some k=ov0.ownBlock\/k=pb) w (w2.setCell (aD pb 6) ov'):=(C2.mono fun _ _ x=> .inl x).trans (Chg.set _ _ _) (fun _ _ x=> .inr x);have hkq:KQ w (w2.setCell (aD pb 6) ov'):=⟨C3.size,fun q cs e fz hq _ _ h3 h4=>by
  rw[C3.block q (ltG hq) ?_]
  · exact hq
  · rintro(hx|rfl)
    · exact nobk hq h3 hx
    · rw[hq]at hb;simp only[Option.some.injEq,Obj.cells.injEq]at hb;exact h4 hb.2.1⟩
 have hmb:¬(some mb=ov0.ownBlock\/mb=pb):=by
  rintro(hx|hx)
  · obtain⟨_,cur,hh⟩:=A9 hr mb hx.symm;exact hs.mst.tag _ _ _ hh
  · subst hx;exact hs.mst.tag _ _ _ hb
 have hok:∀g,ov0.ownBlock≠some g->g<w.heap.size->ov'.ownBlock≠some g:=fun g hg1 hg2 hx=>by
  rcases hat with hat|hat
  · exact hg1 (hat.symm.trans hx)
  · rw[hat]at hx;have:=Option.some.inj hx;omega
 refine⟨cr hb2 rfl,frozen_of_row w2 pb 6 _ _ hb2,(ltG hb2),⟨?_,⟨ov',D, ?_, ?_, ?_⟩,hf⟩,hkq⟩
 · refine hc.trans C3 ?_;rintro k hk (hx|rfl)
   · have:=(A9 hr k hx.symm).1;omega
   · exact .inl rfl
 · rw[heap_setCell_same w2 pb 6 _ _ _ hb2];rfl
 · have:w2.ownsRow w0.heap.size 3 1 ov' (ofs++[x]).length (C7 (ofs++[x])):=by
    rw[List.length_append,List.length_singleton,J9];exact ho
   refine A8 this (Chg.set _ _ _) fun g hgg hx=> ?_;have hx':g=pb:=hx;subst hx';obtain⟨_,cur,hh⟩:=A9 this g hgg;rw[hb2]at hh;simp only[Option.some.injEq,Obj.cells.injEq]at hh;exact absurd hh.2.1 (by decide)
 · refine hs.chg C3 (hs.mst.chg C3 hmb) ?_ hok;rintro k cur e hk he (hx|rfl)
   · rcases he with rfl|rfl|⟨_,hok⟩
     · exact nobk hk (by decide) hx
     · exact nobk hk (by decide) hx
     · exact hok hx.symm
   · rw[hk]at hb;simp only[Option.some.injEq,Obj.cells.injEq]at hb;obtain⟨_,rfl,_⟩:=hb;revert he;simp
theorem Cst.set (h:Cst w0 w c pb lb mb qb nv yv mn fv Z ofs) {oc g:Nat} (hov:w.cell? (aD pb 6)=some (.slice (some (aD g 0)) ofs.length oc)) (i:Nat) (x:Int):
 Cst w0 (w.setCell (aD g i) (iV x)) c pb lb mb qb nv yv mn fv Z (ofs.set i x)/\KQ w (w.setCell (aD g i) (iV x)):=by
 obtain⟨hc,⟨ov0,D,hb,hr,hs⟩,hf⟩:=h;have e:ov0= .slice (some (aD g 0)) ofs.length oc:=by
  rw[cell_of_row w pb 6 _ _ _ hb]at hov;exact Option.some.inj hov
 subst e;obtain⟨hgl,cur,hh⟩:=A9 hr g rfl;have C3:Chg (fun k=>k=g) w (w.setCell (aD g i) (iV x)):=Chg.set w (aD g i) (iV x);have ne:∀{k:Nat} {cs:Array Value} {e:TypeId} {fz:Nat×Nat},w.heap[k]? =some (.cells cs e fz)->e≠3->k≠g:=fun {k cs e fz} hk he hx=>by
  subst hx;rw[hk]at hh;simp only[Option.some.injEq,Obj.cells.injEq]at hh;exact he hh.2.1
 refine⟨⟨hc.trans C3 (fun k hk hx=>by have hx':k=g:=hx;omega),⟨.slice (some (aD g 0)) ofs.length oc,D, ?_, ?_, ?_⟩,hf⟩,C3.size,fun q cs e fz hq _ _ h3 _=>by rw[C3.block q (ltG hq) (ne hq h3)];exact hq⟩
 · rw[C3.block pb (ltG hb) (ne hb (by decide))];exact hb
 · rw[List.length_set];exact D7a hr i x
 · refine hs.chg C3 (hs.mst.chg C3 (fun hx=> ?_)) ?_ (fun _ x _=>x)
   · subst hx;exact hs.mst.tag _ _ _ hh
   · rintro k cur e hk he hx;rcases he with rfl|rfl|⟨_,hok⟩
     · exact ne hk (by decide) hx
     · exact ne hk (by decide) hx
     · exact hok (by rw[show k=g from hx];rfl)
end
end Go.Proofs.YtgdnpemiiageaaaGreatDoor
