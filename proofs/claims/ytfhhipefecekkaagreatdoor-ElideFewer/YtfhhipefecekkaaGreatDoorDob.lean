/-
  A part of the proof.
-/
import Derived.Test.YtfhhipefecekkaaGreatDoorUnionA
set_option maxHeartbeats 16000000
set_option maxRecDepth 100000
namespace Go.Proofs.YtfhhipefecekkaaGreatDoor
open Go.Proofs.Tryz
open Go.RowKit Go.Maps
section
variable{w0 w:World}{c:M.Cx}{pb lb mb qb:Nat}{nv yv fv:Value}{mn:Int}{Z:List M.Ty}{ofs:List Int}{of:M.Of}
def fdw(c:M.Cx)(ofs:List Int)(x:Int):List UInt8×Int:=((M.ndx c.N x).text,ofs.getD (M.ndx c.N x).a.toNat 0)
theorem K2c(hB:Cbs w0 c pb lb mb qb nv fv)(h:Cst w0 w c pb lb mb qb nv yv mn fv Z ofs)(nd:M.Nd)(hps:∀x∈nd.list,∃j:Nat,x=(j:Int)/\∃hj:j<c.N.length,Lk c Z ofs of c.N[j].a/\M.L9 c.N[j].text)(hnd:(nd.list.map λx=>(M.ndx c.N x).text).Nodup)(hn:nd.list.length<=1200)(la:Option Addr)(lc:Nat)(hlo:w.ownsRow 0 3 1 (.slice la nd.list.length lc) nd.list.length (B8 nd.list))(hN:(tl c Z).length+1<=4000):
 Calls prog 78 #[pV pb,nvl nd la lc] w (GrQ w0 w c pb lb mb qb nv yv mn fv Z ofs (M.K3c c.N of nd)):=by
 unfold M.K3c nvl;obtain⟨kd,va,vb,vc,ls,tx,vn,vt,vp⟩:=nd;simp only at *;obtain⟨i0,hi0,hz0,hz1,hz2⟩:=info_parts Tryz.infoField;have hT:=h.ts;have H0:=A0 h;have HO:=A0 hlo;have HL:=A0 hps;have hnum:∀x∈ls,0<=(fdw c ofs x).2/\(fdw c ofs x).2<((tl c Z).length:Int)/\M.tr (tl c Z) (fdw c ofs x).2.toNat=M.ofA of (M.ndx c.N x).a/\M.L9 (fdw c ofs x).1:=λx hx=>by
  obtain⟨j,rfl,hj,⟨p,r,hp,e,hr,hrl,htr⟩,hnm⟩:=hps x hx;have e1:M.ndx c.N (j:Int)=c.N[j]:=M.D3 hj;have e2:(fdw c ofs (j:Int)).2=(r:Int):=by
   unfold fdw;rw[e1,e];show ofs.getD (Int.toNat (p:Int)) 0=_;rw[tQ,lQ,gQ hp];exact hr
  refine⟨by omega,by omega, ?_, ?_⟩
  · rw[e2,tQ,e1];exact htr
  · unfold fdw;rw[e1];exact hnm
 have HTY:Hid (M.TyOk ⟨7,ls.map (fdw c ofs),[],0⟩ (tl c Z).length):= .inr (.inl ⟨rfl,rfl,by rw[List.map_map];exact hnd,λp hp=>by
  obtain⟨x,hx,rfl⟩:=List.mem_map.1 hp;obtain⟨a1,a2,_,a4⟩:=hnum x hx;exact⟨a4,a1,a2⟩⟩)
 have HTR:Hid (M.tr (tl c Z++[⟨7,ls.map (fdw c ofs),[],0⟩]) (tl c Z).length= .nd 7 (ls.map λx=>(M.ndx c.N x).text) (ls.map λx=>M.ofA of (M.ndx c.N x).a)):=by
  show _=_;rw[M.H7a hT HTY.out];have e1:(ls.map (fdw c ofs)).map (λp=>M.tr (tl c Z) p.2.toNat)=ls.map λx=>M.ofA of (M.ndx c.N x).a:=by
   rw[List.map_map];exact List.map_congr_left λx hx=>(hnum x hx).2.2.1
  have e2:(ls.map (fdw c ofs)).map (·.1)=ls.map λx=>(M.ndx c.N x).text:=by
   rw[List.map_map];rfl
  simp only[e1,e2];simp
 obtain⟨oa,oc,hpb,fz,q0,q1,q2,q3,q4,q5,q6,qp,qo⟩:=h.cell;have HQ3:=A0 q3;have HQO:=A0 qo;have HNR:=A0 (hB.nrow h.chg);have hlen:=hB.ok.lenN;have A1:=Chg.alloc No w (ndC kd va vb vc (.slice la ls.length lc) tx vn vt vp);have nb:=heap_alloc_new w (ndC kd va vb vc (.slice la ls.length lc) tx vn vt vp);have n4:(w.alloc (ndC kd va vb vc (.slice la ls.length lc) tx vn vt vp)).cell? (aD w.heap.size 4)=some (.slice la ls.length lc):=cr nb rfl;have A1h:=A0 A1;have HQ0:=A0 q0;have HQ6:=A0 q6;have HSW:Hid (Chg (SW w0 pb lb mb) w0 w):=h.chg;clear h hlo hps hnum qp qo q1 q2 q3 q4 q5 fz A1 nb hT q0 q6 hnd;go_enter func78,ntmps78;go_wp2_with fail
 have hz:=heap_alloc_new (w.alloc (ndC kd va vb vc (.slice la ls.length lc) tx vn vt vp)) (.cells #[iV 7,sN,sN,iV 0] 66);have Z0:=A0 hz;have C3:=A0 (B9 A1h.out (Chg.alloc No (w.alloc (ndC kd va vb vc (.slice la ls.length lc) tx vn vt vp)) (.cells #[iV 7,sN,sN,iV 0] 66)));simp only[Array.size_push,World.alloc]at Z0;clear hz A1h;go_loopw [13] (λv wr=>∃(j:Nat) (xa:Option Addr) (xc:Nat),j<=ls.length/\v=iV (j:Int)/\Hid (Chg No w wr)/\Hid (wr.heap[w.heap.size+1]? =some (.cells #[iV 7,.slice xa j xc,sN,iV 0] 66 (0,0)))/\Hid (wr.ownsRow w.heap.size 121 2 (.slice xa j xc) j (F5 ((ls.take j).map (fdw c ofs))))) (λv _=>ls.length - (intOf v).toNat)
 case atStart=>exact⟨0,none,0,wQ _,rfl,C3.out,Z0.out,kW _ _ _ _⟩
 case round=>
  clear Z0 C3 n4;obtain⟨j,xa,xc,hj,rfl,CR,ZR,OR⟩:=hrel;have hwr:w.heap.size<=wr.heap.size:=CR.out.size;have hqw:=(ltG ZR.out);by_cases hjl:j<ls.length
  · obtain⟨g2,hla,hg2,hl1,hl2,v0⟩:=D5 (A3 HO.out CR.out (λ_ _ x=>x)) hjl;subst hla;obtain⟨jj,e,hjj,⟨p,r,hp,ea,hr,hrl,htr⟩,-⟩:=HL.out ls[j] (mQ hjl);obtain⟨go,hoa,ho0,ho1,ho2,ho3,y0,-⟩:=HQO.out p hp;subst hoa;rw[hr]at y0;have HT:Hid ((ls.take (j+1)).map (fdw c ofs)=(ls.take j).map (fdw c ofs)++[(c.N[jj].text,(r:Int))]):=by
     show _=_;rw[nQ hjl,List.map_append,List.map_singleton,e];unfold fdw;rw[show M.ndx c.N (jj:Int)=c.N[jj] from M.D3 hjj,ea,tQ,lQ,gQ hp,hr];rfl
    obtain⟨acc,hacc⟩:∃acc,acc=(ls.take j).map (fdw c ofs):=⟨_,rfl⟩;rw[<-hacc]at OR HT;clear hacc;have q0':=A8 CR.out HQ0.out;have q6':=A8 CR.out HQ6.out;have y0':=A8 CR.out y0;obtain⟨g,nc,la',lc',hnv,hg,hn1,hn2,⟨x0,x1,x2,x3,x4,x5,x6,x7,x8⟩,-,-⟩:=HNR.out.at (CR.out.toBelow (λ_ _ x=>x.elim) (vQ _)) jj hjj;generalize c.N[jj]=nd at *;obtain⟨kd',va',vb',vc',ls',tx',vn',vt',vp'⟩:=nd;subst hnv;simp only at *;subst ea;rw[e]at v0;have d0:wr.cell? (aD (w.heap.size+1) 1)=some (.slice xa j xc):=cr ZR.out rfl;have zf:∀o,wr.frozen? (aD (w.heap.size+1) o)=false:=λo=>frozen_of_row wr _ o _ _ ZR.out;have hne:Value.ownBlock (.slice xa j xc)≠some (w.heap.size+1):=G8 OR.out ZR.out (by decide);unfold maxLen at hl2 hn2 ho3;have hp':(p:Int)<(ofs.length:Int):=by omega
    have hjj':(jj:Int)<(c.N.length:Int):=by omega
    have hgow:=blt y0';have hpbw:=blt q6';simp only at hgow hpbw;clear e hr htr y0 HL HQO HO;have A2:=Chg.alloc No wr (ndC kd' (p:Int) vb' vc' (.slice la' ls'.length lc') tx' vn' vt' vp');have nb2:=heap_alloc_new wr (ndC kd' (p:Int) vb' vc' (.slice la' ls'.length lc') tx' vn' vt' vp');have e1:=cell_of_row _ _ 1 _ _ _ nb2;have e5:=cell_of_row _ _ 5 _ _ _ nb2;replace e1:(wr.alloc (ndC kd' (p:Int) vb' vc' (.slice la' ls'.length lc') tx' vn' vt' vp')).cell? (aD wr.heap.size 1)=some (iV (p:Int)):=e1.trans rfl;replace e5:(wr.alloc (ndC kd' (p:Int) vb' vc' (.slice la' ls'.length lc') tx' vn' vt' vp')).cell? (aD wr.heap.size 5)=some (.string ⟨tx'.toArray⟩):=e5.trans rfl;have q6w:=A8 A2 q6';have y0w:=A8 A2 y0';have d0w:=A8 A2 d0;have zfw:∀o,(wr.alloc (ndC kd' (p:Int) vb' vc' (.slice la' ls'.length lc') tx' vn' vt' vp')).frozen? (aD (w.heap.size+1) o)=false:=λo=>S7 hqw (zf o);have hsz:(wr.alloc (ndC kd' (p:Int) vb' vc' (.slice la' ls'.length lc') tx' vn' vt' vp')).heap.size=wr.heap.size+1:=Array.size_push _;have A2h:=A0 A2;clear A2 nb2 zf;go_wp2_with fail
    clear x0 x1 x2 x3 x4 x5 x6 x7 x8 v0 q0' q6' y0' d0;generalize (wr.alloc (ndC kd' (p:Int) vb' vc' (.slice la' ls'.length lc') tx' vn' vt' vp'))=W at *;have ORW:=A0 (((A3 OR.out A2h.out (λ_ _ x=>x)).drew).alloc (.cells #[.string ⟨tx'.toArray⟩,iV (r:Int)] 121));have nbw:(W.drew.alloc (.cells #[.string ⟨tx'.toArray⟩,iV (r:Int)] 121)).heap[wr.heap.size+1]? =some (.cells #[.string ⟨tx'.toArray⟩,iV (r:Int)] 121 (0,0)):=by
     have:=heap_alloc_new W.drew (.cells #[.string ⟨tx'.toArray⟩,iV (r:Int)] 121);rw[show W.drew.heap.size=wr.heap.size+1 from hsz]at this;exact this
    have NBW:=A0 nbw;have d0a:(W.alloc (.cells #[.string ⟨tx'.toArray⟩,iV (r:Int)] 121)).cell? (aD (w.heap.size+1) 1)=some (.slice xa j xc):=F9 (by rw[hsz];omega) d0w;clear nbw;go_region_law (
     refine step_append_lies _ (by rfl) _ _ _ (by rfl) w.heap.size 121 i0 _ 2 24 underlying64 hi0 hz0 hz1 hz2 rfl (by omega) (.slice xa j xc) j (F5 acc) (by rfl) ORW.out (aD (wr.heap.size+1) 0) 1 1 [.string ⟨tx'.toArray⟩,iV (r:Int)] (by rfl) (by rfl) (World.news_of_block (cs:=#[.string ⟨tx'.toArray⟩,iV (r:Int)]) (t:=121) (fr:=(0,0)) NBW.out) (by simp[Value.oneCell']) (by omega) (by simp only[maxLen];omega) (by omega) (by simp;omega) (W.heap.size+1) (by simp) ?_;intro gg cap w1 hown1 hgrow hat1 hlt1;have z4:w1.cell? (aD (w.heap.size+1) 1)=some (.slice xa j xc):=by rw[hgrow.cell_far _ (by simp;omega) (Ne.symm hne)];exact F9 (w:=W.drew) (by simp;omega) d0w
     have y4:w1.frozen? (aD (w.heap.size+1) 1)=false:=by rw[hgrow.frozen_far _ (by simp;omega) (Ne.symm hne)];exact S7 (w:=W.drew) (by simp;omega) (zfw 1))
    all_goals
     have HP:=A0 (Q1a (o:=1) (n0:=w.heap.size) (w:=w) ZR.out (by omega) OR.out (by decide) (Chg.toBelow CR.out (λ_ _ x=>x.elim) (vQ _)) (vQ _) (B9 A2h.out (B9 (Chg.drewN No W 1) (Chg.alloc No W.drew (.cells #[.string ⟨tx'.toArray⟩,iV (r:Int)] 121)))) hgrow hown1);clear hown1 hgrow hat1;go_wp2_with fail
     go_roundw
     case rel=>exact⟨j+1,_,_,by omega,by go_num,(Chg.below HP.out.2.2.2.1).mono (λk hk x=>by omega),HP.out.2.2.2.2.2.1,(show World.ownsRow _ _ _ _ _ _ _ from by rw[HT.out,I7a];exact HP.out.2.2.2.2.1)⟩
     case measure=>simp[intOf];omega
  · have hje:j=ls.length:=by omega
    subst hje;rw[List.take_length]at OR;have q3':=A8 CR.out HQ3.out;have hpbw:=blt q3';simp only at hpbw;have d0:wr.cell? (aD (w.heap.size+1) 0)=some (iV 7):=cr ZR.out rfl;have d1:wr.cell? (aD (w.heap.size+1) 1)=some (.slice xa ls.length xc):=cr ZR.out rfl;have d2:wr.cell? (aD (w.heap.size+1) 2)=some (sN):=cr ZR.out rfl;have d3:wr.cell? (aD (w.heap.size+1) 3)=some (iV 0):=cr ZR.out rfl;have HP:Hid (∀u,Chg No wr u->Calls prog 17 #[pV lb,.agg #[iV 7,.slice xa ls.length xc,sN,iV 0]] u λe w'=>e= .returned (iV ((tl c Z).length:Int))/\Cst w0 w' c pb lb mb qb nv yv mn fv (Z++[⟨7,ls.map (fdw c ofs),[],0⟩]) ofs/\KG u w'):=λu hu=>
     I7c (H0.out.still (B9 CR.out hu)) ⟨7,ls.map (fdw c ofs),[],0⟩ xa none ls.length xc 0 0 (by
      have:=C7 (A3 OR.out hu (λ_ _ x=>x)) (wQ _);rw[List.length_map];exact this) (kW _ _ _ _) (H0.out.far (KG.still (B9 CR.out hu)) (λg hg=>(OR.out.lt g hg).1)) (λ_ _ g hg=>by simp[Value.ownBlock]at hg) HTY.out ⟨by simp,by rw[List.length_map];omega⟩ hN
    clear HL HO HNR;go_wp2_with fail
    go_region_with (go_at_call 17;refine(HP.out _ (Chg.drewN _ _ 1)).mono ?_;rintro e w6 ⟨rfl,hC6,hk6⟩)
    all_goals
     have HQ:Hid (GrQ w0 w c pb lb mb qb nv yv mn fv Z ofs (.nd 7 (ls.map λx=>(M.ndx c.N x).text) (ls.map λx=>M.ofA of (M.ndx c.N x).a)) (.returned (iV ((tl c Z).length:Int))) w6):=by
      refine⟨(tl c Z).length,[⟨7,ls.map (fdw c ofs),[],0⟩],rfl,by simp,by rw[<-Z6,qQ,List.length_singleton];omega,by rw[<-Z6];exact HTR.out,hC6,(KG.still (B9 CR.out (Chg.drewN _ _ 1))).trans hk6⟩
     clear hC6 hk6;go_wp2_with fail
     go_ret;exact HQ.out
end
end Go.Proofs.YtfhhipefecekkaaGreatDoor
