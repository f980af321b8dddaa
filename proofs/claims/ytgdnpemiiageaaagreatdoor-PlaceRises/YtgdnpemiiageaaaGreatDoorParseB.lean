/-
  A part of the proof.
-/
import Derived.Test.YtgdnpemiiageaaaGreatDoorParseA
import Derived.Deep.RegionHeld3
import Derived.Deep.RegionLaw
import Derived.Deep.AppendLies
set_option maxHeartbeats 16000000
set_option maxRecDepth 100000
namespace Go.Proofs.YtgdnpemiiageaaaGreatDoor
open Go.RowKit
theorem Tryz.infoTy:(Tryz.prog.info? 68).map (fun i=>(i.zero,i.size,i.bytes))=some (some (.agg #[iV 0,sN,sN,iV 0]),4,64):=by kernel_rfl
section
variable {w:World} {B pb:Nat} {tv:Value} {L:List M.Tk} {ok:Nat->Prop} {d:Nat} {s:M.St}
theorem B6a (w:World) (a b:Obj):((w.alloc a).alloc b).drew.heap[w.heap.size+1]? =some b:=by
 have:=heap_alloc_new (w.alloc a) b;simp only[World.size_alloc]at this;exact this
theorem F9 {w:World} {o:Obj} {b j:Nat} {v:Value} (hb:b<w.heap.size) (h:w.cell? (aD b j)=some v):(w.alloc o).cell? (aD b j)=some v:=by
 rw[World.cell?_of_block (Below.heap_alloc w o b hb)];exact h
theorem P8 {w:World} {o:Obj} {b j:Nat} (hb:b<w.heap.size) (h:w.frozen? (aD b j)=false):(w.alloc o).frozen? (aD b j)=false:=by
 rw[World.frozen?_of_block (Below.heap_alloc w o b hb)];exact h
theorem Pst.pushT {w w1 w2:World} {B pb:Nat} {tv:Value} {L:List M.Tk} {ok:Nat->Prop} {d:Nat} {s:M.St} {nv:Value} {nx yx:List Value} {ad:Option Addr} {c g cap:Nat} {t:M.Ty} {fv lv:Value} (hlow:B<=pb) (hat:s.i<L.length) (hfew:s.N.length<=s.i) (hf:s.T.length+1<=s.i)
 (htoks:w.ownsRow 0 119 3 tv L.length (B0a L)) (hb:w.heap[pb]? =some (.cells #[tv,iV (s.i:Int),iV (d:Int),nv,.slice ad s.T.length c] 96 (0,0)))
 (hn:w.ownsRow B 72 9 nv s.N.length nx) (hy:w.ownsRow B 68 4 (.slice ad s.T.length c) s.T.length yx) (hrn:Rws (NdV w ok) s.N nx) (hry:Rws (TyV w ok) s.T yx) (ht:TyV w ok t [iV t.kind,fv,lv,iV t.of']) (hok:ok pb/\(∀g,nv.ownBlock=some g->ok g)/\(∀g,Value.ownBlock (.slice ad s.T.length c)=some g->ok g)) (hgok:ok g)
 (h1:Chg No w w1) (hg:w1.grownBy w2 (Value.ownBlock (.slice ad s.T.length c))) (ho:w2.ownsRow B 68 4 (.slice (some (aD g 0)) (s.T.length+1) cap) (s.T.length+1) (yx++[iV t.kind,fv,lv,iV t.of'])):
 Kept B ok w (w2.setCell (aD pb 4) (.slice (some (aD g 0)) (s.T.length+1) cap))/\Pst (w2.setCell (aD pb 4) (.slice (some (aD g 0)) (s.T.length+1) cap)) B pb tv L ok d ⟨s.i,s.N,s.T++[t]⟩:=by
 have hlt:=(ltG hb);have hb1:w1.heap[pb]? =w.heap[pb]? :=h1.block pb hlt (fun x=>x);have hy1:w1.ownsRow B 68 4 (.slice ad s.T.length c) s.T.length yx:=A8 hy h1 (fun _ _ x=>x);have hne:some pb≠Value.ownBlock (.slice ad s.T.length c):=by
  intro hx;obtain⟨_,cur,hh⟩:=A9 hy1 pb hx.symm;rw[hb1,hb]at hh;simp only[Option.some.injEq,Obj.cells.injEq]at hh;exact absurd hh.2.1 (by decide)
 have hb2:w2.heap[pb]? =some (.cells #[tv,iV (s.i:Int),iV (d:Int),nv,.slice ad s.T.length c] 96 (0,0)):=by rw[hg.block pb (Nat.lt_of_lt_of_le hlt h1.size) hne,hb1,hb]
 have hc2:Chg (fun k=>some k=Value.ownBlock (.slice ad s.T.length c)) w w2:=(h1.mono fun _ _ x=>x.elim).trans (Chg.grown hg) (fun _ _ x=>x);have hc3:Chg (fun k=>some k=Value.ownBlock (.slice ad s.T.length c)\/k=pb) w (w2.setCell (aD pb 4) (.slice (some (aD g 0)) (s.T.length+1) cap)):=(hc2.mono fun _ _ x=> .inl x).trans (Chg.set _ _ _) (fun _ _ x=> .inr x);have hno:∀{base:Nat} {e:TypeId} {size:Nat} {v:Value} {n:Nat} {xs:List Value},w.ownsRow base e size v n xs->e≠96->e≠68->∀k,v.ownBlock=some k->¬(some k=Value.ownBlock (.slice ad s.T.length c)\/k=pb):=by
  intro base e size v n xs hw he he2 k hk hx;obtain⟨_,cur,hh⟩:=A9 hw k hk;rcases hx with hx|rfl
  · obtain⟨_,cur2,hh2⟩:=A9 hy k hx.symm;rw[hh]at hh2;simp only[Option.some.injEq,Obj.cells.injEq]at hh2;exact he2 hh2.2.1
  · rw[hb]at hh;simp only[Option.some.injEq,Obj.cells.injEq]at hh;exact he hh.2.1.symm
 have key:∀k,ok k->k<w.heap.size->(some k=Value.ownBlock (.slice ad s.T.length c)\/k=pb)->(∃cur e,w.heap[k]? =some (.cells cur e (0,0))/\(e=126\/e=3))->False:=by
  rintro k _ _ hx ⟨cur,e,hh,he⟩;rcases hx with hx|rfl
  · obtain⟨_,cur2,hh2⟩:=A9 hy k hx.symm;rw[hh]at hh2;simp only[Option.some.injEq,Obj.cells.injEq]at hh2;rcases he with rfl|rfl<;>exact absurd hh2.2.1 (by decide)
  · rw[hb]at hh;simp only[Option.some.injEq,Obj.cells.injEq]at hh;rcases he with rfl|rfl<;>exact absurd hh.2.1 (by decide)
 have hb3:(w2.setCell (aD pb 4) (.slice (some (aD g 0)) (s.T.length+1) cap)).heap[pb]? =some (.cells #[tv,iV (s.i:Int),iV (d:Int),nv,.slice (some (aD g 0)) (s.T.length+1) cap] 96 (0,0)):=by rw[heap_setCell_same w2 pb 4 _ _ _ hb2];rfl
 refine⟨hc3.mono fun k hk hx=> ?_,hlow,hat,⟨hfew,by simp;omega⟩,A8 htoks hc3 (hno htoks (by decide) (by decide)),⟨hok.1,fun u g' hu hg'=> ?_,fun u g' hu hg'=> ?_⟩,nv,_,nx,_,hb3,A8 hn hc3 (hno hn (by decide) (by decide)), ?_,hrn.imp (NdV.chg hc3 key (fun _ x _=>x)),(hry.imp (TyV.chg hc3 key (fun _ x _=>x))).snoc (TyV.chg hc3 key (fun _ x _=>x) _ _ ht)⟩
 · rcases hx with hx|rfl
   · obtain⟨hk1,cur2,hh2⟩:=A9 hy k hx.symm;exact⟨hk1,⟨_,_,_,hh2,.inr (.inr rfl)⟩,hok.2.2 _ hx.symm⟩
   · exact⟨hlow,⟨_,_,_,hb,.inl rfl⟩,hok.1⟩
 · rw[cell_of_row _ pb 3 _ _ _ hb3]at hu;cases hu;exact hok.2.1 _ hg'
 · rw[cell_of_row _ pb 4 _ _ _ hb3]at hu;cases hu;have hg2:some g=some g':=hg';cases hg2;exact hgok
 · have:=A8 ho (Chg.set w2 (aD pb 4) (.slice (some (aD g 0)) (s.T.length+1) cap)) (fun k hk hx=>by
    have hx':k=pb:=hx;subst hx';obtain⟨_,cur2,hh2⟩:=A9 ho k hk;rw[hb2]at hh2;simp only[Option.some.injEq,Obj.cells.injEq]at hh2;exact absurd hh2.2.1 (by decide))
   simpa using this
theorem X7 (hL : LOk L) (h : Pst w B pb tv L ok d s) (t : M.Ty) (fa la : Option Addr) (fn fc ln lc : Nat) (ht : TyV w ok t [iV t.kind, .slice fa fn fc, .slice la ln lc, iV t.of']) (hf : s.T.length + 1 <= s.i) (hB : B <= w.heap.size) (hok : ∀ g, w.heap.size <= g -> ok g) :
    Calls Tryz.prog 179 #[pV pb,.agg #[iV t.kind,.slice fa fn fc,.slice la ln lc,iV t.of']] w fun e w'=>e= .returned (iV (s.T.length:Int))/\Kept B ok w w'/\Pst w' B pb tv L ok d ⟨s.i,s.N,s.T++[t]⟩:=by
  obtain⟨hlow,hat,hfew,htoks,hoks,nv,yv,nx,yx,hb,hn,hy,hrn,hry⟩:=h
  obtain⟨ad,c,rfl⟩:=B6 hy
  have hs:=hL.short
  have hlt:=(ltG hb)
  have c4:w.cell? (aD pb 4)=some (.slice ad s.T.length c):=cr hb rfl
  have fz:∀o,w.frozen? (aD pb o)=false:=fun o=>frozen_of_row w pb o _ _ hb
  have hoks2:ok pb/\(∀g,nv.ownBlock=some g->ok g)/\(∀g,Value.ownBlock (.slice ad s.T.length c)=some g->ok g):=⟨hoks.1,fun g hg=>hoks.2.1 _ g (cr hb rfl) hg,fun g hg=>hoks.2.2 _ g c4 hg⟩
  have HP:=A0 (fun (w1 w2:World) (g cap:Nat)=>Pst.pushT (w1:=w1) (w2:=w2) (g:=g) (cap:=cap) hlow hat hfew.1 hf htoks hb hn hy hrn hry ht hoks2)
  have HG:=A0 (fun (g:Nat) (hg:Value.ownBlock (.slice ad s.T.length c)=some g\/g=w.heap.size+2)=>show ok g from by rcases hg with hg|hg;exact hoks2.2.2 g hg;exact hok g (by omega))
  clear hoks hoks2
  have hne:Value.ownBlock (.slice ad s.T.length c)≠some pb:=by
    intro hx
    obtain⟨_,cur,hh⟩:=A9 hy pb hx
    rw[hb]at hh
    simp only[Option.some.injEq,Obj.cells.injEq]at hh
    exact absurd hh.2.1 (by decide)
  have hne2:Value.ownBlock (.slice ad s.T.length c)≠some w.heap.size:=by
    intro hx
    have:=(hy.lt _ hx).2
    omega
  have HY:=A0 hy
  obtain⟨i0,hi,hz0,hz1,hz2⟩:=info_parts Tryz.infoTy
  clear ht htoks hb hn hy hrn hry
  go_enter Tryz.func179,Tryz.ntmps179
  go_wp2_with fail
  go_region_law ((refine step_append_lies _ (by rfl) _ _ _ (by rfl) B 68 i0 _ 4 64 Tryz.underlying44 hi hz0 hz1 hz2 rfl (by omega) (.slice ad s.T.length c) s.T.length yx (by rfl) (((HY.out.alloc _).alloc _).drew) (aD (w.heap.size + 1) 0) 1 1 [iV t.kind, .slice fa fn fc, .slice la ln lc, iV t.of'] (by rfl) (by rfl) (World.news_of_block (cs := #[iV t.kind, .slice fa fn fc, .slice la ln lc, iV t.of']) (t := 68) (fr := (0, 0)) (B6a w _ _)) (by simp [Value.oneCell']) (by omega) (by simp only [maxLen]; omega) (by omega) (by simp; omega) (w.heap.size + 2) (by simp) ?_
                  intro gg cap w1 hown1 hgrow hat1 hlt1
                  have z4:w1.cell? (aD pb 4)=some (.slice ad s.T.length c):=by rw[hgrow.cell_far _ (by simp;omega) (Ne.symm hne)];exact F9 (by simp;omega) (F9 hlt c4)
                  have y4:w1.frozen? (aD pb 4)=false:=by rw[hgrow.frozen_far _ (by simp;omega) (Ne.symm hne)];exact P8 (by simp;omega) (P8 hlt (fz 4))))
  all_goals
    have HQ:=A0 (HP.out _ _ gg cap (HG.out gg hat1) (((Chg.alloc No w _).trans (Chg.alloc No _ _) (fun _ _ x=>x)).trans (Chg.drewN No _ 1) (fun _ _ x=>x)) hgrow hown1)
    clear hgrow hown1 HP HY
    go_wp2
    go_ret
    exact⟨J0 (by omega),HQ.out.1,HQ.out.2⟩
end
open Go.RowKit
def D6 (s s':M.St):Prop:=s.i<s'.i/\s'.N.length+s.i<=s.N.length+s'.i/\s'.T.length+s.i<=s.T.length+s'.i/\s.N.length<=s'.N.length
def R0c (w:World) (B pb:Nat) (tv:Value) (L:List M.Tk) (ok:Nat->Prop) (d:Nat) (s:M.St) (φ:M.Sp->Option (M.Out Int)) (e:Ending) (w':World):Prop:=
 Kept B ok w w'/\∃o,M.Ev L φ o/\match o with
  | .ok s' x=>e= .returned (iV x)/\Pst w' B pb tv L ok d s'/\D6 s s'
  | .fail er p=>e=gu er p/\er≠0
def Con (B pb:Nat) (tv:Value) (L:List M.Tk) (K:Nat) (φ:Nat->M.St->M.Sp->Option (M.Out Int)) (m:Nat):Prop:=
 ∀(w:World) (ok:Nat->Prop) (d:Nat) (s:M.St),L.length - s.i<=m->(∀g,w.heap.size<=g->ok g)->B<=w.heap.size->Pst w B pb tv L ok d s->
  Calls Tryz.prog K #[pV pb] w (R0c w B pb tv L ok d s (φ d s))
section
variable {w:World} {B pb:Nat} {tv:Value} {L:List M.Tk} {ok:Nat->Prop} {d:Nat} {s:M.St}
theorem N0a (hL:LOk L) (h:Pst w B pb tv L ok d s):
 Calls Tryz.prog 140 #[pV pb] w fun e w'=>Kept B ok w w'/\
  ((M.tk L s.i).kind=1/\e= .returned (.string ⟨(M.tk L s.i).text.toArray⟩)/\Pst w' B pb tv L ok d s.nx\/(M.tk L s.i).kind≠1/\e=gu 1 ((M.tk L s.i).at':Int)):=by
 have H:=R6 hL h;have HF:=fun w1 (h1:Pst w1 B pb tv L ok d s)=>S8 hL h1 1;have HT:=fun w1 (h1:Pst w1 B pb tv L ok d s)=>Z6 hL h1;have HS:=A0 (fun w1 (hc:Chg No w w1)=>h.still hc);have hf0:=T9;have hf1:=S7;generalize M.tk L s.i=tk at *;obtain⟨kd,tx,pl⟩:=tk;simp only[tkv]at H HT HF⊢;generalize (⟨tx.toArray⟩:ByteArray)=bx at *;clear h;go_enter Tryz.func140,Tryz.ntmps140;go_wp2_with fail
 refine H.mono ?_;clear H;rintro e w1 ⟨rfl,hc⟩;have HP:=A0 (HS.out w1 hc);have HK:=A0 (B8 (B:=B) (ok:=ok) hc);clear hc HS;by_cases hk:kd=1
 · subst hk;go_wp2_with fail
   refine(HT _ HP.out (by decide)).mono ?_;clear HT;rintro e w2 ⟨rfl,hk2,hp2⟩;have H2:=A0 (HK.out.trans hk2);have H3:=A0 hp2;clear hk2 hp2;go_wp2;go_ret;exact⟨H2.out,rfl,H3.out⟩
 · have hk':(kd==1)=false:=by simp[hk]
   go_wp2_with fail
   refine(HF _ HP.out).mono ?_;rintro e w2 ⟨rfl,hc⟩;exact⟨rfl,HK.out.trans (B8 hc),.inr ⟨hk,rfl⟩⟩
theorem W7a (w:World) (t:List UInt8):
 Calls Tryz.prog 188 #[.string ⟨t.toArray⟩] w fun e w'=>e= .returned (iV (M.I2 t))/\w'=w:=by
 go_enter Tryz.func188,Tryz.ntmps188;go_wp2;all_goals go_ret
 all_goals exact⟨J0 (by simp_all [M.I2]),rfl⟩
theorem G0a {α:Type} {L:List M.Tk} {φ:M.Sp->Option (M.Out α)} {i:Nat} {e:Int} (h:∀r,φ r=M.flt L i e):M.Ev L φ (.fail e ((M.tk L i).at':Int)):=M.Ev.pure.eq h
theorem N3a (hL:LOk L) (m:Nat) (φ:Nat->M.St->M.Sp->Option (M.Out Int)) (hU:Con B pb tv L 174 φ m) (b:Bool) (hm:L.length - s.i<=m) (hok:∀g,w.heap.size<=g->ok g) (hB:B<=w.heap.size) (h:Pst w B pb tv L ok d s):
 Calls Tryz.prog 90 #[pV pb,.bool b,.func (.func 174) #[pV pb] #[]] w (R0c w B pb tv L ok d s (fun r=>M.inside L b d s (fun d s=>φ d s r))):=by
 obtain⟨g,c,nv,yv,-,-,-,-,hlt,-,c1,c2,-,-,fz,-⟩:=h.cell;have HF:=fun er=>S8 hL h er;have HP:=A0 h;clear h;cases b
 · go_enter Tryz.func90,Tryz.ntmps90;go_wp2_with fail
   refine(HF 1).mono ?_;rintro e w2 ⟨rfl,hc⟩;exact⟨rfl,B8 hc,_,G0a (e:=1) (i:=s.i) (fun r=>by simp[M.inside]),rfl,by decide⟩
 · by_cases hd:20<=d
   · have hd':(20:Int)<=(d:Int):=by omega
     go_enter Tryz.func90,Tryz.ntmps90;go_wp2_with fail
     refine(HF 8).mono ?_;rintro e w2 ⟨rfl,hc⟩;exact⟨rfl,B8 hc,_,G0a (e:=8) (i:=s.i) (fun r=>by simp[M.inside,hd]),rfl,by decide⟩
   · have hd':¬(20:Int)<=(d:Int):=by omega
     have HD:=A0 hd;clear hd;go_enter Tryz.func90,Tryz.ntmps90;go_wp2_with fail
     refine(hU _ ok (d+1) s hm (by simpa using hok) (by simpa using hB) (by simpa using HP.out.deeper (d+1))).mono ?_;rintro e w2 ⟨hk,o,hev,hpost⟩;have HK:=A0 ((HP.out.keptSet 2 _).trans hk);have HE:=A0 (hev.eq (ψ:=fun r=>M.inside L true d s (fun d s=>φ d s r)) (fun r=>by simp[M.inside,HD.out]));cases o with
     |fail er p=>
      obtain⟨rfl,he⟩:=hpost;exact⟨rfl,HK.out,_,HE.out,rfl,he⟩
     |ok s' x=>
      obtain⟨rfl,hp,hg⟩:=hpost;have HP2:=A0 hp;have HG:=A0 hg;obtain⟨g',c',nv',yv',-,-,-,-,hlt',-,-,c2',-,-,fz',-⟩:=hp.cell;clear hp hg hev hk HF hU;go_wp2_with fail
      go_ret;exact⟨HK.out.trans (HP2.out.keptSet _ _),_,HE.out,rfl,HP2.out.deeper d,HG.out⟩
def M4a (ms:List (List UInt8)):Array Value:=(ms.map fun m=>Value.string ⟨m.toArray⟩).toArray
theorem U6 (w:World) (ms:List (List UInt8)) (t:TypeId):Strs (w.alloc (.cells (M4a ms) t)) w.heap.size ms:=by
 refine⟨by simp,fun j hj=> ?_⟩;rw[World.cell?_alloc_new];simp[M4a,hj]
theorem S2c (hL:LOk L) (m:Nat) (hU:Con B pb tv L 174 (fun d s r=>r.union d s) m):Con B pb tv L 166 (fun d s r=>r.typ d s) m:=by
 intro w ok d s hm hok hB h;have HI:=fun w1 (hc:Chg No w w1) (b:Bool)=>N3a (w:=w1) (ok:=ok) hL m _ hU b hm (fun g hg=>hok g (Nat.le_trans hc.size hg)) (Nat.le_trans hB hc.size) (h.still hc);have HS:=C3a hL (h.alloc (.cells (M4a M.Z4) 9)) w.heap.size 9 M.Z4 (U6 _ _ _) (by decide);clear hU;have HE:=A0 (fun b (hb:b=M.isM L s.i M.Z4) o (ho:M.Ev L (fun r=>M.inside L b d s (fun d s=>r.union d s)) o)=>(M.Ev.step (φ:=fun r=>r.typ d s) (ho.eq (fun r=>by rw[hb];rfl))));generalize M.isM L s.i M.Z4=b at *;go_enter Tryz.func166,Tryz.ntmps166;go_wp2_with fail
 refine HS.mono ?_;clear HS;rintro e w1 ⟨rfl,hc⟩;have HC:=A0 ((Chg.alloc No w _).trans hc (fun _ _ x=>x));clear hc;go_wp2_with fail
 refine(HI w1 HC.out b).mono ?_;clear HI;rintro e w2 ⟨hk,o,hev,hpost⟩;have HK:=A0 ((B8 HC.out).trans hk);have HV:=A0 (HE.out b rfl o hev);clear hk hev HE;cases o with
 |fail er p=>
  obtain⟨rfl,he⟩:=hpost;exact⟨rfl,HK.out,_,HV.out,rfl,he⟩
 |ok s' x=>
  obtain⟨rfl,hp,hg⟩:=hpost;have HP2:=A0 hp;have HG:=A0 hg;clear hp hg;go_wp2_with fail
  go_ret;exact⟨HK.out,_,HV.out,rfl,HP2.out,HG.out⟩
end
open Go.RowKit
section
variable {w:World} {B pb:Nat} {tv:Value} {L:List M.Tk} {ok:Nat->Prop} {d:Nat} {s:M.St}
theorem I1 {φ:M.Sp->Option (M.Out Int)} {w':World} {er p:Int} (hk:Kept B ok w w') (hev:M.Ev L φ (.fail er p)) (he:er≠0):R0c w B pb tv L ok d s φ (gu er p) w':=⟨hk,_,hev,rfl,he⟩
theorem W6 {φ:M.Sp->Option (M.Out Int)} {w':World} {s':M.St} {x:Int} (hk:Kept B ok w w') (hev:M.Ev L φ (.ok s' x)) (hp:Pst w' B pb tv L ok d s') (hg:D6 s s'):R0c w B pb tv L ok d s φ (.returned (iV x)) w':=⟨hk,_,hev,rfl,hp,hg⟩
theorem Y4a (w:World) (ok:Nat->Prop) (k o:Int):TyV w ok ⟨k,[],[],o⟩ [iV k,sN,sN,iV o]:=
 ⟨_,_,rfl,World.ownsRow_nil _ _ _ _,World.ownsRow_nil _ _ _ _,by simp[Value.ownBlock],by simp[Value.ownBlock]⟩
def K5a (L:List M.Tk) (s:M.St):Option (M.Out Int):=if (M.tk L s.i).kind=2/\M.I2 (M.tk L s.i).text≠0 then M.addT s.nx ⟨M.I2 (M.tk L s.i).text,[],[],0⟩ else M.flt L s.i 1
theorem W6a (hL:LOk L) (hB:B<=w.heap.size) (hok:∀g,w.heap.size<=g->ok g) (h:Pst w B pb tv L ok d s):
 Calls Tryz.prog 184 #[pV pb] w (R0c w B pb tv L ok d s (fun _=>K5a L s)):=by
 have H:=fun w1 (h1:Pst w1 B pb tv L ok d s)=>R6 hL h1;have HF:=fun w1 (h1:Pst w1 B pb tv L ok d s)=>S8 hL h1 1;have HA:=fun w1 (h1:Pst w1 B pb tv L ok d s.nx) (hs:w.heap.size<=w1.heap.size) (k:Int)=>X7 hL h1 ⟨k,[],[],0⟩ none none 0 0 0 0 (Y4a w1 ok k 0) (by show s.T.length+1<=s.i+1;have:=h.few;omega) (Nat.le_trans hB hs) (fun g hg=>hok g (Nat.le_trans hs hg));have hf0:=T9;have hf1:=S7;have hs:=hL.short;have hi:=h.at';have HN:=A0 (fun (hk:(M.tk L s.i).kind=2)=>show s.i+1<L.length by
  have h1:=hL.last s.i hi;by_cases h2:s.i+1=L.length
  · have:=h1.2 h2;omega
  · omega)
 have HV:=A0 (show K5a L s=if (M.tk L s.i).kind=2/\M.I2 (M.tk L s.i).text≠0 then M.addT s.nx ⟨M.I2 (M.tk L s.i).text,[],[],0⟩ else some (.fail 1 ((M.tk L s.i).at':Int)) from rfl);have HP:=A0 h;clear h;generalize K5a L s=V at *;generalize M.tk L s.i=tk at *;obtain⟨kd,tx,pl⟩:=tk;simp only[tkv]at H HF HN HV;have HPK:=fun w1=>W7a w1 tx;generalize M.I2 tx=pk at *;generalize (⟨tx.toArray⟩:ByteArray)=bx at *;go_enter Tryz.func184,Tryz.ntmps184;go_wp2_with fail
 refine(H _ HP.out).mono ?_;rintro e w1 ⟨rfl,hc⟩;have HP1:=A0 (HP.out.still hc);have HC1:=A0 hc;clear hc;by_cases hk:kd=2
 · subst hk;go_wp2_with fail
   refine(H _ HP1.out).mono ?_;clear H;rintro e w2 ⟨rfl,hc⟩;have HP2:=A0 (HP1.out.still hc);have HC2:=A0 (HC1.out.trans hc (fun _ _ x=>x));clear hc HP1 HC1;go_wp2_with fail
   refine(HPK _).mono ?_;clear HPK;rintro e w3 ⟨rfl,rfl⟩;by_cases hp:pk=0
   · subst hp;go_wp2_with fail
     refine(HF _ HP2.out).mono ?_;clear HF;rintro e w4 ⟨rfl,hc⟩;exact⟨rfl,I1 ((B8 HC2.out).trans (B8 hc)) (M.Ev.pure.eq (fun _=>by rw[HV.out];simp)) (by decide)⟩
   · have hp':(pk==0)=false:=by simp[hp]
     obtain⟨g',c',nv',yv',-,-,-,-,hlt',-,c1',-,-,-,fz',-⟩:=HP2.out.cell;have HN2:=A0 (HP2.out.next (HN.out trivial));have HK2:=A0 ((B8 HC2.out).trans (HP2.out.keptSet 1 (iV ((s.i:Int)+1))));go_wp2_with fail
     refine(HA _ HN2.out (by have:=HC2.out.size;simp;omega) pk).mono ?_;clear HA;rintro e w4 ⟨rfl,hk4,hp4⟩;have HK4:=A0 (HK2.out.trans hk4);have HP4:=A0 hp4;clear hk4 hp4 HN2 HK2;go_wp2_with fail
     go_ret;exact W6 HK4.out (M.Ev.pure.eq (fun _=>by rw[HV.out];simp[hp,M.addT])) HP4.out (by simp[D6,M.St.nx];omega)
 · have hk':(kd==2)=false:=by simp[hk]
   go_wp2_with fail
   refine(HF _ HP1.out).mono ?_;clear HF;rintro e w4 ⟨rfl,hc⟩;exact⟨rfl,I1 ((B8 HC1.out).trans (B8 hc)) (M.Ev.pure.eq (fun _=>by rw[HV.out];simp[hk])) (by decide)⟩
theorem Q8a {s s':M.St} (h:D6 s.nx s'):D6 s s':=by
 obtain⟨h1,h2,h3,h4⟩:=h;simp only[M.St.nx]at h1 h2 h3 h4;exact⟨by omega,by omega,by omega,by omega⟩
theorem Q2b (hL:LOk L) (m:Nat) (hTyp:∀m',m'<m->Con B pb tv L 166 (fun d s r=>r.typ d s) m')
 (hObj:∀m',m'<m->Con B pb tv L 182 (fun d s r=>r.objL d s []) m') (hFob:∀m',m'<m->Con B pb tv L 183 (fun d s r=>r.fob d s) m'):
 Con B pb tv L 178 (fun d s r=>r.member d s) m:=by
 intro w ok d s hm hok hB h;have hi:=h.at';have hs:=hL.short;have HT:=fun w1 (h1:Pst w1 B pb tv L ok d s) mk=>F5 hL h1 mk;have HPl:=fun w1 (h1:Pst w1 B pb tv L ok d s) (hb:w.heap.size<=w1.heap.size)=>W6a hL (Nat.le_trans hB hb) (fun g hg=>hok g (Nat.le_trans hb hg)) h1;have HO:=fun w1 (h1:Pst w1 B pb tv L ok d s.nx) (hb:w.heap.size<=w1.heap.size)=>hObj (L.length - (s.i+1)) (by omega) w1 ok d s.nx (Nat.le_refl _) (fun g hg=>hok g (Nat.le_trans hb hg)) (Nat.le_trans hB hb) h1;have HB:=fun w1 (h1:Pst w1 B pb tv L ok d s.nx) (hb:w.heap.size<=w1.heap.size)=>hFob (L.length - (s.i+1)) (by omega) w1 ok d s.nx (Nat.le_refl _) (fun g hg=>hok g (Nat.le_trans hb hg)) (Nat.le_trans hB hb) h1;have HY:=fun w1 (h1:Pst w1 B pb tv L ok d s.nx) (hb:w.heap.size<=w1.heap.size)=>hTyp (L.length - (s.i+1)) (by omega) w1 ok d s.nx (Nat.le_refl _) (fun g hg=>hok g (Nat.le_trans hb hg)) (Nat.le_trans hB hb) h1;have HN:=fun w1 s1 (h1:Pst w1 B pb tv L ok d s1)=>G5 hL h1 [93];have HA:=fun w1 (s1:M.St) (h1:Pst w1 B pb tv L ok d s1) (hs:w.heap.size<=w1.heap.size) (hq:s1.T.length+1<=s1.i) (k:Int)=>X7 hL h1 ⟨8,[],[],k⟩ none none 0 0 0 0 (Y4a w1 ok 8 k) hq (Nat.le_trans hB hs) (fun g hg=>hok g (Nat.le_trans hs hg));have HV:Hid (∀o,M.Ev L (fun r=>if M.isM L s.i [[123]] then r.objL d s.nx [] else if M.isM L s.i [[91]] then M.A3 (r.typ d s.nx) fun s x=>M.A3 (M.need L s [93]) fun s _=>M.addT s ⟨8,[],[],x⟩
  else if M.isM L s.i [[40]] then r.fob d s.nx else K5a L s) o->M.Ev L (fun r=>r.member d s) o):=fun o ho=>M.Ev.step (ho.eq (fun r=>rfl))
 have HF:=A0 h.few;have HP:=A0 h;clear h hTyp hObj hFob;have H1:=HT w HP.out [123];have H2:=fun w1 (h1:Pst w1 B pb tv L ok d s)=>HT w1 h1 [91];have H3:=fun w1 (h1:Pst w1 B pb tv L ok d s)=>HT w1 h1 [40];clear HT;generalize M.isM L s.i [[123]]=b1 at *;generalize M.isM L s.i [[91]]=b2 at *;generalize M.isM L s.i [[40]]=b3 at *;generalize K5a L s=V at *;go_enter Tryz.func178,Tryz.ntmps178;go_wp2_with fail
 refine H1.mono ?_;clear H1;rintro e w1 ⟨rfl,hk,hp⟩;have K1:=A0 hk;have P1:=A0 hp;clear hk hp;cases b1
 · go_wp2_with fail
   refine(H2 _ (by simpa using P1.out)).mono ?_;clear H2;rintro e w2 ⟨rfl,hk,hp⟩;have K2:=A0 (K1.out.trans hk);have P2:=A0 hp;clear hk hp P1 K1;cases b2
   · go_wp2_with fail
     refine(H3 _ (by simpa using P2.out)).mono ?_;clear H3;rintro e w3 ⟨rfl,hk,hp⟩;have K3:=A0 (K2.out.trans hk);have P3:=A0 hp;clear hk hp P2 K2;cases b3
     · go_wp2_with fail
       refine(HPl _ (by simpa using P3.out) K3.out.size).mono ?_;rintro e w4 ⟨hk,o,hev,hpost⟩;have K4:=A0 (K3.out.trans hk);have E4:=A0 (HV.out o (hev.eq (fun r=>by simp)));clear hk hev;cases o with
       |fail er p=>
        obtain⟨rfl,he⟩:=hpost;exact⟨rfl,I1 K4.out E4.out he⟩
       |ok s' x=>
        obtain⟨rfl,hp,hg⟩:=hpost;have P4:=A0 hp;have G4:=A0 hg;clear hp hg;go_wp2_with fail
        go_ret;exact W6 K4.out E4.out P4.out G4.out
     · go_wp2_with fail
       refine(HB _ (by simpa using P3.out) K3.out.size).mono ?_;rintro e w4 ⟨hk,o,hev,hpost⟩;have K4:=A0 (K3.out.trans hk);have E4:=A0 (HV.out o (hev.eq (fun r=>by simp)));clear hk hev;cases o with
       |fail er p=>
        obtain⟨rfl,he⟩:=hpost;exact⟨rfl,I1 K4.out E4.out he⟩
       |ok s' x=>
        obtain⟨rfl,hp,hg⟩:=hpost;have P4:=A0 hp;have G4:=A0 (Q8a hg);clear hp hg;go_wp2_with fail
        go_ret;exact W6 K4.out E4.out P4.out G4.out
   · go_wp2_with fail
     refine(HY _ (by simpa using P2.out) K2.out.size).mono ?_;rintro e w4 ⟨hk,o,hev,hpost⟩;have K4:=A0 (K2.out.trans hk);have E4:=A0 hev;clear hk hev;cases o with
     |fail er p=>
      obtain⟨rfl,he⟩:=hpost;exact⟨rfl,I1 K4.out (HV.out _ ((M.Ev.bad E4.out).eq (fun r=>by simp;rfl))) he⟩
     |ok s' x=>
      obtain⟨rfl,hp,hg⟩:=hpost;have P4:=A0 hp;have G4:=A0 (Q8a hg);clear hp hg;go_wp2_with fail
      refine(HN _ _ P4.out).mono ?_;rintro e w5 ⟨hk,hr⟩;have K5:=A0 (K4.out.trans hk);clear hk;rcases hr with ⟨hb,rfl,hp⟩|⟨hb,rfl⟩
      · have P5:=A0 hp;have B5:=A0 hb;clear hp hb;go_wp2_with fail
        refine(HA _ _ P5.out K5.out.size (by have:=P4.out.few;simp[M.St.nx];omega) x).mono ?_;rintro e w6 ⟨rfl,hk,hp⟩;have K6:=A0 (K5.out.trans hk);have P6:=A0 hp;clear hk hp;go_wp2_with fail
        go_ret;refine W6 K6.out (HV.out _ (M.Ev.eq (M.Ev.bind E4.out (k:=fun _ s x=>M.A3 (M.need L s [93]) fun s _=>M.addT s ⟨8,[],[],x⟩) (M.Ev.pure.eq (fun r=> ?_))) (fun r=>by simp))) P6.out ?_
        · simp[M.need,B5.out,M.A3,M.addT]
        · have:=G4.out;simp only[D6,M.St.nx,List.length_append,List.length_cons,List.length_nil]at this⊢;omega
      · refine⟨rfl,I1 K5.out (HV.out _ (M.Ev.eq (M.Ev.bind E4.out (k:=fun _ s x=>M.A3 (M.need L s [93]) fun s _=>M.addT s ⟨8,[],[],x⟩) (M.Ev.pure.eq (fun r=> ?_))) (fun r=>by simp))) (by decide)⟩;simp[M.need,hb,M.A3,M.flt]
 · go_wp2_with fail
   refine(HO _ (by simpa using P1.out) K1.out.size).mono ?_;rintro e w4 ⟨hk,o,hev,hpost⟩;have K4:=A0 (K1.out.trans hk);have E4:=A0 (HV.out o (hev.eq (fun r=>by simp)));clear hk hev;cases o with
   |fail er p=>
    obtain⟨rfl,he⟩:=hpost;exact⟨rfl,I1 K4.out E4.out he⟩
   |ok s' x=>
    obtain⟨rfl,hp,hg⟩:=hpost;have P4:=A0 hp;have G4:=A0 (Q8a hg);clear hp hg;go_wp2_with fail
    go_ret;exact W6 K4.out E4.out P4.out G4.out
end
open Go.RowKit
section
variable {w:World} {B pb:Nat} {tv:Value} {L:List M.Tk} {ok:Nat->Prop} {d:Nat} {s:M.St}
theorem Tryz.infoInt:(Tryz.prog.info? 3).map (fun i=>(i.zero,i.size,i.bytes))=some (some (iV 0),1,8):=by kernel_rfl
theorem Pst.grown {w w':World} {base size n:Nat} {e:TypeId} {v v':Value} {xs:List Value} (h:Pst w B pb tv L (fun g=>ok g/\some g≠v.ownBlock) d s) (ho:w.ownsRow base e size v n xs) (he:e=3\/e=126) (hg:w.grownBy w' v.ownBlock)
 (hat:v'.ownBlock=v.ownBlock\/v'.ownBlock=some w.heap.size):Pst w' B pb tv L (fun g=>ok g/\some g≠v'.ownBlock) d s:=by
 refine h.chg (Chg.grown hg) (fun k cur e' hk hx=> ?_) (fun g hg hl=> ?_)
 · obtain⟨_,cur2,hh⟩:=A9 ho k hx.symm;rw[hk]at hh;simp only[Option.some.injEq,Obj.cells.injEq]at hh;obtain⟨_,rfl,_⟩:=hh;refine⟨by rcases he with rfl|rfl<;>decide,by rcases he with rfl|rfl<;>decide,by rcases he with rfl|rfl<;>decide,fun ht=> ?_,fun _ hx2=>hx2.2 hx⟩;obtain⟨_,cur3,hh3⟩:=A9 h.toks k ht;rw[hk]at hh3;simp only[Option.some.injEq,Obj.cells.injEq]at hh3;obtain⟨_,rfl,_⟩:=hh3;rcases he with he|he<;>exact absurd he (by decide)
 · refine⟨hg.1,fun hx=> ?_⟩;rcases hat with h1|h1
   · exact hg.2 (by rw[<-h1];exact hx)
   · rw[h1]at hx;simp only[Option.some.injEq]at hx;omega
theorem Kept.grown {ok:Nat->Prop} {w0 w w':World} {size n:Nat} {e:TypeId} {v:Value} {xs:List Value} (hk:Kept B ok w0 w) (ho:w.ownsRow w0.heap.size e size v n xs) (hg:w.grownBy w' v.ownBlock):Kept B ok w0 w':=
 hk.trans' (Chg.grown hg) (fun i hi hx=>by have:=(A9 ho i hx.symm).1;omega)
theorem I4c (w:World) (base:Nat) (hb:base<=w.heap.size) (x:Int):(w.alloc (.cells #[iV x] 3)).ownsRow base 3 1 (.slice (some (aD w.heap.size 0)) 1 1) 1 (C7 [x]):=
 ⟨rfl,.inr ⟨w.heap.size,1,#[iV x],rfl,hb,heap_alloc_new w _,by omega,by simp[maxLen],rfl,rfl⟩⟩
def nxt (w:World) (pb:Nat):Nat:=(intOf ((w.cell? (aD pb 1)).getD (iV 0))).toNat
theorem Pst.nxt (h:Pst w B pb tv L ok d s):nxt w pb=s.i:=by
 obtain⟨g,c,nv,yv,-,-,-,-,-,-,c1,-⟩:=h.cell;simp[YtgdnpemiiageaaaGreatDoor.nxt,c1,intOf]
theorem Y7b (hL:LOk L) (m:Nat) (hMem:∀m',m'<=m->Con B pb tv L 178 (fun d s r=>r.member d s) m'):
 Con B pb tv L 174 (fun d s r=>r.union d s) m:=by
 intro w ok d s hm hok hB h;have hi:=h.at';have hs:=hL.short;have H1:=hMem m (Nat.le_refl _) w ok d s hm hok hB h;have HF:=A0 h.few.2;have HV:Hid (∀o,M.Ev L (fun r=>M.A3 (r.member d s) fun s x=>if M.isM L s.i [[124]] then M.A3 (r.unionL d s [x]) fun s l=>M.addT s ⟨10,[],l,0⟩ else some (.ok s x)) o->M.Ev L (fun r=>r.union d s) o):=fun o ho=>M.Ev.step (ho.eq (fun r=>rfl));clear h;go_enter Tryz.func174,Tryz.ntmps174;go_wp2_with fail
 refine H1.mono ?_;clear H1;rintro e w1 ⟨hk,o,hev,hpost⟩;have K1:=A0 hk;have E1:=A0 hev;clear hk hev;cases o with
 |fail er p=>
  obtain⟨rfl,he⟩:=hpost;exact⟨rfl,I1 K1.out (HV.out _ (M.Ev.bad E1.out)) he⟩
 |ok s1 x=>
  obtain⟨rfl,hp,hg⟩:=hpost;have P1:=A0 hp;have G1:=A0 hg;have HI:=C3a hL (hp.alloc (.cells (M4a [[124]]) 9)) w1.heap.size 1 [[124]] (U6 _ _ _) (by decide);clear hp hg;have HV2:=A0 (fun o ho=>HV.out o (M.Ev.bind E1.out ho));clear HV E1;generalize hb:M.isM L s1.i [[124]]=b at *;have B1:=A0 hb;clear hb;go_wp2_with fail
  refine HI.mono ?_;clear HI;rintro e w2 ⟨rfl,hc⟩;have P2:=A0 ((P1.out.alloc _).still hc);have K2:=A0 (K1.out.trans (((Kept.refl B ok w1).alloc _).trans (B8 hc)));clear hc P1 K1;cases b
  · go_wp2_with fail
    go_ret;exact W6 K2.out (HV2.out _ (M.Ev.pure.eq (fun r=>by simp))) P2.out G1.out
  · have HB:=A0 B1.out;go_wp2_with fail
    go_loopw [4] (fun v wr=>∃(acc:List Int) (s':M.St) (ad:Option Addr) (c:Nat),v= .slice ad acc.length c/\acc.length<=s'.i/\Hid (M.isM L s'.i [[124]]=true\/s'.T.length+1+s.i<=s.T.length+s'.i)/\Hid (Kept B ok w wr)/\Hid (D6 s s')/\Hid (wr.ownsRow w.heap.size 3 1 (.slice ad acc.length c) acc.length (C7 acc))/\
     Hid (Pst wr B pb tv L (fun g=>ok g/\some g≠Value.ownBlock (.slice ad acc.length c)) d s')/\Hid (∀o,M.Ev L (fun r=>M.A3 (r.unionL d s' acc) fun s l=>M.addT s ⟨10,[],l,0⟩) o->M.Ev L (fun r=>r.union d s) o)) (fun _ wr=>L.length - nxt wr pb)
    case atStart=>
     refine⟨[x],s1,_,1,rfl,by have:=G1.out.1;simp;omega,.inl B1.out,K2.out.alloc _,G1.out,I4c w2 _ K2.out.size x,P2.out.chg (Chg.alloc No _ _) (fun _ _ _ _ x=>x.elim) (fun g hg hl=>⟨hg,by simp[Value.ownBlock];omega⟩),fun o ho=>HV2.out o (ho.eq (fun r=>by simp))⟩
    case round=>
     clear HV2 P2 K2 G1;obtain⟨acc,s',ad,c,rfl,hacc,SR,KR,GR,OR,PR,VR⟩:=hrel;have HT:=F5 hL PR.out [124];have hi':=PR.out.at';have hnx:=PR.out.nxt;generalize hq:M.isM L s'.i [[124]]=q at *;have Q1:=A0 hq;clear hq;go_wp2_with fail
     refine HT.mono ?_;clear HT;rintro e w3 ⟨rfl,hk,hp⟩;have K3:=A0 (KR.out.trans (hk.mono fun _ h=>h.1));have P3:=A0 hp;have O3:=A0 (D9 OR.out hk (by decide));clear hk hp OR PR KR;cases q
     · have S2:s'.T.length+1+s.i<=s.T.length+s'.i:=by
        rcases SR.out with h1|h1
        · cases h1
        · exact h1
       have hT:=HF.out;have PY:Pst w3 B pb tv L (fun g=>ok g/\some g≠Value.ownBlock (.slice ad acc.length c)) d s':=by simpa using P3.out
       have PX:Pst w3 B pb tv L ok d s':=PY.mono (fun g hg _=>hg.1);have HA:=X7 hL PX ⟨10,[],acc,0⟩ none ad 0 0 acc.length c ⟨_,_,rfl,World.ownsRow_nil _ _ _ _,C9 O3.out (Nat.zero_le _),by simp[Value.ownBlock],fun g hg=>hok g (A9 O3.out g hg).1⟩ (by omega) (Nat.le_trans hB K3.out.size) (fun g hg=>hok g (Nat.le_trans K3.out.size hg));have EV:=A0 (VR.out _ (M.Ev.bind (s:=s') (x:=acc) (k:=fun _ s l=>M.addT s ⟨10,[],l,0⟩) (M.Ev.step (M.Ev.pure.eq (fun r=>by show (if M.isM L s'.i [[124]] then _ else _)=_;rw[Q1.out];rfl))) M.Ev.pure));have GX:=A0 (show D6 s ⟨s'.i,s'.N,s'.T++[⟨10,[],acc,0⟩]⟩ by
        have h2:=GR.out;simp only[D6,List.length_append,List.length_cons,List.length_nil]at h2⊢
        omega)
       clear VR O3 P3 PX PY GR;go_wp2_with fail
       refine HA.mono ?_;clear HA;rintro e w4 ⟨rfl,hk,hp⟩;have K4:=A0 (K3.out.trans hk);have P4:=A0 hp;clear hk hp;go_wp2_with fail
       go_ret;exact W6 K4.out EV.out P4.out GX.out
     · have PX:Pst w3 B pb tv L (fun g=>ok g/\some g≠Value.ownBlock (.slice ad acc.length c)) d s'.nx:=by simpa using P3.out
       have hi2:=PX.at';have hj:s.i<s'.i:=GR.out.1;have HM:=hMem (L.length - s'.nx.i) (by simp only[M.St.nx];omega) w3 _ d s'.nx (Nat.le_refl _) (fun g hg=>⟨hok g (Nat.le_trans K3.out.size hg),fun hx=>by have:=(O3.out.lt g hx.symm).2;omega⟩) (Nat.le_trans hB K3.out.size) PX;clear P3 PX;go_wp2_with fail
       refine HM.mono ?_;clear HM;rintro e w4 ⟨hk,o,hev,hpost⟩;have K4:=A0 (K3.out.trans (hk.mono fun _ h=>h.1));have O4:=A0 (D9 O3.out hk (by decide));have E4:=A0 hev;clear hk hev K3 O3;cases o with
       |fail er p=>
        obtain⟨rfl,he⟩:=hpost;exact⟨rfl,I1 K4.out (VR.out _ (M.Ev.bad (M.Ev.step ((M.Ev.bad E4.out).eq (fun r=>by show (if M.isM L s'.i [[124]] then _ else _)=_;rw[Q1.out];rfl))))) he⟩
       |ok s4 y=>
        obtain⟨rfl,hp,hg⟩:=hpost;have P4:=A0 hp;have G4:=A0 hg;have hi4:=hp.at';clear hp hg;have VN:=A0 (fun o (ho:M.Ev L (fun r=>M.A3 (r.unionL d s4 (acc++[y])) fun s l=>M.addT s ⟨10,[],l,0⟩) o)=>VR.out o (by
         obtain⟨f1,h1⟩:=E4.out;obtain⟨f2,h2⟩:=ho;refine⟨f1+f2+1,fun f hf=> ?_⟩;obtain⟨g,rfl⟩:∃g,f=g+1:=⟨f - 1,by omega⟩;have a1:(M.sp' L g).member d s'.nx=some (.ok s4 y):=h1 g (by omega);have a2:=h2 g (by omega);show M.A3 (if M.isM L s'.i [[124]] then M.A3 ((M.sp' L g).member d s'.nx) fun s x=>(M.sp' L g).unionL d s (acc++[x]) else some (.ok s' acc)) _=some o;rw[Q1.out,if_pos rfl,a1];exact a2))
        clear VR;obtain⟨i0,hi0,hz0,hz1,hz2⟩:=info_parts Tryz.infoInt;have hw3:=A0 (O4.out.alloc (.cells #[iV y] 3));go_wp2_with (at_builtin;refine wpList_append_own_at _ rfl _ _ 48 rfl w.heap.size 3 i0 (iV 0) 1 8 Tryz.underlying48 hi0 hz0 hz1 hz2 rfl (by decide) _ _ _ rfl hw3.out (aD w4.heap.size 0) 1 1 [iV y] rfl rfl ?c1 ?c2 ?c3 ?c4 ?c5 ?_)
        case c1=>exact cell_one_new _ _ _
        case c2=>intro u hu;simp at hu;rcases hu with rfl;rfl
        case c3=>simp only[maxLen];omega
        case c4=>omega
        case c5=>have:=K4.out.size;simp;omega
        · intro v' w5 hown2 hg2 _ hat;obtain⟨ad2,c2,hv2⟩:=B6 hown2;rw[hv2]at hown2 hat⊢;have PG:=A0 ((P4.out.alloc (.cells #[iV y] 3)).grown (v:= .slice ad acc.length c) (v':= .slice ad2 (acc.length+1) c2) (O4.out.alloc _) (.inl rfl) hg2 (by simpa using hat));have KG:=A0 ((K4.out.alloc (.cells #[iV y] 3)).grown (O4.out.alloc _) hg2);have OG:=A0 hown2;clear hown2 hg2 hat hw3 P4 O4 K4 hv2;go_wp2_with fail
          go_roundw
          case rel=>
           have h1:=GR.out;have h2:=G4.out;simp only[D6,M.St.nx]at h1 h2;refine⟨acc++[y],s4,ad2,c2,by simp,by simp;omega,.inr (by omega),KG.out,⟨by omega,by omega,by omega,by omega⟩, ?_, ?_,VN.out⟩
           · have:=OG.out;show World.ownsRow _ _ _ _ _ _ _;rw[J9];simpa using this
           · have:=PG.out;show Pst _ _ _ _ _ _ _ _;simpa using this
          case measure=>
           have h2:=G4.out;have h3:=PG.out.nxt;simp only[D6,M.St.nx]at h2;rw[h3,hnx];omega
end
end Go.Proofs.YtgdnpemiiageaaaGreatDoor
