/-
  A part of the proof.
-/
import Derived.Test.YtgdnpemiiageaaaGreatDoorPlaceA
set_option maxHeartbeats 16000000
set_option maxRecDepth 100000
namespace Go.Proofs.YtgdnpemiiageaaaGreatDoor
open Go.RowKit Go.Maps
section
variable {w0 w:World} {c:M.Cx} {pb lb mb qb:Nat} {nv yv fv:Value} {mn:Int} {Z:List M.Ty} {ofs:List Int} {of:M.Of} {xb gb m:Nat} {g:M.Gm} {i:Nat}
def NpQ (w0 w:World) (c:M.Cx) (pb lb mb qb:Nat) (nv yv:Value) (mn:Int) (fv:Value) (Z:List M.Ty) (ofs:List Int) (xb gb m:Nat) (g:M.Gm) (e:Ending) (w':World):Prop:=
 e=rT/\Pcr w0 w' c pb lb mb qb nv yv mn fv Z ofs xb gb (m+1201) g/\KC w w'
theorem E0d (hB:Cbs w0 c pb lb mb qb nv fv) (hL:Lks c Z ofs of i) (hD:M.Dn c of i) (hi:i<c.N.length) (hown:c.N[i].kind=7\/c.N[i].kind=8\/c.N[i].kind=9->Lk c Z ofs of (i:Int)) (h:Pcr w0 w c pb lb mb qb nv yv mn fv Z ofs xb gb m g) (hm:m<=80000000):
 Calls Tryz.prog 9 #[pV xb,iV (i:Int)] w (NpQ w0 w c pb lb mb qb nv yv mn fv Z ofs xb gb m (M.plN c of g i)):=by
 have hmf:=mkf;have hlen:=hB.ok.lenN;have HX:Hid (∀u bx,Pcr w0 u c pb lb mb qb nv yv mn fv Z ofs xb gb (m+1) (M.T9a c of g i)->u.heap[bx]? =some (.cells #[pV xb] 70 (0,0))->
  Calls Tryz.prog 21 #[pV pb,iV (i:Int),.func (.func 22) #[] #[pV bx]] u fun e w'=>e=rT/\Pcr w0 w' c pb lb mb qb nv yv mn fv Z ofs xb gb (m+1201) (M.plN c of g i)/\KC u w'):=fun u bx hu hbx=>by
  refine(M8b (w:=u) hB hL (C2d (yv:=yv) (mn:=mn) (xb:=xb) (gb:=gb) (m:=m+1) (g:=M.T9a c of g i) hB hL (by omega) hD.asked u bx) hi (fun hk=>by have:=hD.call (by rw[M.D4 hi];exact hk);rw[M.D4 hi]at this;exact this) (fun hk=>hD.ret (by rw[M.D4 hi];exact hk)) ⟨hu,Nat.zero_le _,hbx,KC.refl _⟩).mono ?_;rintro e w' (⟨_,x⟩|⟨rfl,L,hLL,h1,h2,h3,h4⟩)
  · exact x.elim
  · refine⟨rfl, ?_,h4⟩;unfold M.plN;rw[hLL];exact h1.more (by omega)
 obtain⟨oa,oc,hpb,fz,q0,q1,q2,q3,q4,q5,q6,qp,qo⟩:=h.st.cell;obtain⟨ng,nc,la,lc,hnv,hg,hn1,hn2,⟨x0,x1,x2,x3,x4,x5,x6,x7,x8⟩,hlo,-⟩:=(hB.nrow h.st.chg).at (Below.refl _ _) i hi;have b0:w.cell? (aD xb 0)=some (pV pb):=cr h.blk rfl;have hxl:=(ltG h.blk);have hty:=hB.ok.flat i hi;have HG:Hid (∀u (a:Nat),a<(tl c Z).length->Chg No w u->_):=fun u a ha hu=>W6b (h.still hu) (by omega) i (by omega) a ha;have HS:Hid (∀u,Chg No w u->Pcr w0 u c pb lb mb qb nv yv mn fv Z ofs xb gb (m+1) g):=fun u hu=>(h.still hu).more (Nat.le_succ _);obtain⟨gw,hgw⟩:∃gw,M.T9a c of g i=gw:=⟨_,rfl⟩;have HW1:Hid (c.N[i].kind=16->c.N[i].ty≠-1->∃a:Nat,c.N[i].ty=(a:Int)/\a<(tl c Z).length/\M.J1a g (i:Int) (M.tr (tl c Z) a)=gw):=fun hk ht=>by
  obtain⟨a,h1,h2,h3⟩:=hL.wt _ ((hty.k16 hk).resolve_left ht);refine⟨a,h1,h2, ?_⟩;rw[<-hgw];unfold M.T9a;rw[M.D4 hi,if_pos hk,if_pos ht,h3]
 have HW2:Hid (c.N[i].kind=16->c.N[i].ty= -1->g=gw):=fun hk ht=>by
  rw[<-hgw];unfold M.T9a;rw[M.D4 hi,if_pos hk,if_neg (by rw[ht];simp)]
 have HW3:Hid (c.N[i].kind=7\/c.N[i].kind=8\/c.N[i].kind=9->∃(r:Nat) (h:i<ofs.length),ofs[i]=(r:Int)/\r<(tl c Z).length/\M.J1a g (i:Int) (M.tr (tl c Z) r)=gw):=fun hk=>by
  obtain⟨p,r,h1,h2,h3,h4,h5⟩:=hown hk;have:i=p:=by omega
  subst this;refine⟨r,h1,h3,h4, ?_⟩;rw[<-hgw];unfold M.T9a;rw[M.D4 hi,if_neg (by omega),if_pos hk,h5]
 have HW4:Hid (c.N[i].kind≠16->¬(c.N[i].kind=7\/c.N[i].kind=8\/c.N[i].kind=9)->g=gw):=fun h1 h2=>by
  rw[<-hgw];unfold M.T9a;rw[M.D4 hi,if_neg h1,if_neg h2]
 rw[hgw]at HX;have HQO:Hid (∀j (hj:j<ofs.length),∃g,oa=some (aD g 0)/\g<w.heap.size/\ofs.length<=oc/\oc<=maxLen/\w.cell? (aD g j)=some (iV ofs[j])):=fun j hj=>by
  obtain⟨g,h1,h2,h3,h4,h5,h6,_⟩:=qo j hj;exact⟨g,h1,h3,h4,h5,h6⟩
 unfold maxLen at hn2;clear qp qo h hB hL hD hown hty hgw hlo q1 q2 q3 q4 q5 fz;generalize hnd:c.N[i]=nd at *;clear hnd;obtain⟨kd,va,vb,vc,ls,tx,vn,vt,vp⟩:=nd;subst hnv;simp only at *;by_cases k16:kd=16
 · subst k16;by_cases ht:vt= -1
   · obtain rfl:=HW2.out rfl ht;subst ht;clear HW1 HW2 HW3 HW4 HG HQO;have A2:Hid (Chg No w ((w.alloc (.cells #[pV xb] 70)).alloc (ndC 16 va vb vc (.slice la ls.length lc) tx vn (-1) vp))):=C8 (Chg.alloc _ _ _) (Chg.alloc _ _ _);have e0:((w.alloc (.cells #[pV xb] 70)).alloc (ndC 16 va vb vc (.slice la ls.length lc) tx vn (-1) vp)).heap[w.heap.size]? =some (.cells #[pV xb] 70 (0,0)):=(Below.heap_alloc _ _ _ (by simp)).trans (heap_alloc_new w _);have E0:=A0 e0;clear e0;go_enter Tryz.func9,Tryz.ntmps9;go_wp2_with fail
     refine(HX.out _ _ (HS.out _ A2.out) (E0.out)).mono ?_;rintro e w5 ⟨rfl,hP5,hK5⟩;have HP5:=A0 hP5;have HK5:Hid (KC w w5):=(KC.still A2.out).trans hK5;clear hP5 hK5;go_wp2_with fail
     go_end0;exact⟨rfl,HP5.out,HK5.out⟩
   · obtain⟨a,ha,hal,rfl⟩:=HW1.out rfl ht;subst ha;have hab:((a:Int) != -1)=true:=by first|(simp;done)|(simp;omega)
     clear HW1 HW2 HW3 HW4 HQO ht;have A2:Hid (Chg No w ((w.alloc (.cells #[pV xb] 70)).alloc (ndC 16 va vb vc (.slice la ls.length lc) tx vn (a:Int) vp))):=C8 (Chg.alloc _ _ _) (Chg.alloc _ _ _);have e0:((w.alloc (.cells #[pV xb] 70)).alloc (ndC 16 va vb vc (.slice la ls.length lc) tx vn (a:Int) vp)).heap[w.heap.size]? =some (.cells #[pV xb] 70 (0,0)):=(Below.heap_alloc _ _ _ (by simp)).trans (heap_alloc_new w _);have E0:=A0 e0;clear e0;go_enter Tryz.func9,Tryz.ntmps9;go_wp2_with fail
     refine(HG.out _ a hal A2.out).mono ?_;rintro e w3 ⟨rfl,hP,hK⟩;have f0:=hK.2 _ _ _ _ E0.out;have c0:w3.cell? (aD w.heap.size 0)=some (pV xb):=cr f0 rfl;have c1:=hK.cell (A4 A2.out b0);have l0:=blt c0;have l1:=blt c1;simp only at l0 l1;have HP:=A0 hP;have HK:=A0 hK;have F0:=A0 f0;clear hP hK f0 HG;go_wp2_with fail
     refine(HX.out _ _ (HP.out) (F0.out)).mono ?_;rintro e w5 ⟨rfl,hP5,hK5⟩;have HP5:=A0 hP5;have HK5:Hid (KC w w5):=((KC.still A2.out).trans HK.out).trans hK5;clear hP5 hK5;go_wp2_with fail
     go_end0;exact⟨rfl,HP5.out,HK5.out⟩
 · have g16:(kd==16)=false:=by simpa using k16
   by_cases k789:kd=7\/kd=8\/kd=9
   · obtain⟨r,hil,hr,hrl,rfl⟩:=HW3.out k789;obtain⟨go,rfl,ho1,ho2,ho3,y0⟩:=HQO.out i hil;rw[hr]at y0;clear HW1 HW2 HW3 HW4 HQO hr;unfold maxLen at ho3;obtain⟨W,hW⟩:∃W,W=(w.alloc (.cells #[pV xb] 70)).alloc (ndC kd va vb vc (.slice la ls.length lc) tx vn vt vp):=⟨_,rfl⟩;have A2:Hid (Chg No w W):=by
      rw[hW];exact C8 (Chg.alloc _ _ _) (Chg.alloc _ _ _)
     have E0:Hid (W.heap[w.heap.size]? =some (.cells #[pV xb] 70 (0,0))):=by
      rw[hW];exact(Below.heap_alloc _ _ _ (by simp)).trans (heap_alloc_new w _)
     have c0:W.cell? (aD w.heap.size 0)=some (pV xb):=cr E0.out rfl;have c1:=A4 A2.out b0;have c2:=A4 A2.out q6;have c3:=A4 A2.out y0;have l0:=blt c0;have l1:=blt c1;have l2:=blt c2;have l3:=blt c3;simp only at l0 l1 l2 l3;rcases k789 with rfl|rfl|rfl;all_goals
      go_enter Tryz.func9,Tryz.ntmps9;go_wp2_with fail
      rw[<-hW];clear x0 x1 x2 x3 x4 x5 x6 x7 x8 q0 q6 b0 y0 hW;go_region_with (go_at_call 20;refine(HG.out _ r hrl (C8 A2.out (Chg.drewN _ _ 1))).mono ?_;rintro e w3 ⟨rfl,hP,hK⟩;have HP:=A0 hP;have HK:=A0 hK;clear hP hK)
      all_goals
       have f0:=HK.out.2 _ _ _ _ (show W.drew.heap[w.heap.size]? =some (.cells #[pV xb] 70 (0,0)) from E0.out);have d0:=HK.out.cell c0;have d1:=HK.out.cell c1;have m0:=blt d0;have m1:=blt d1;simp only at m0 m1;have F0:=A0 f0;clear f0 c0 c1 c2 c3 l0 l1 l2 l3 HG;go_wp2_with fail
       refine(HX.out _ _ (HP.out) (F0.out)).mono ?_;rintro e w5 ⟨rfl,hP5,hK5⟩;have HP5:=A0 hP5;have HK5:Hid (KC w w5):=(((KC.still A2.out).trans (KC.still (Chg.drewN _ _ 1))).trans HK.out).trans hK5;clear hP5 hK5;go_wp2_with fail
       go_end0;exact⟨rfl,HP5.out,HK5.out⟩
   · obtain rfl:=HW4.out k16 k789;have g7:(kd==7)=false:=by simp;omega
     have g8:(kd==8)=false:=by simp;omega
     have g9:(kd==9)=false:=by simp;omega
     clear HW1 HW2 HW3 HW4 HG HQO k16 k789;have A2:Hid (Chg No w ((w.alloc (.cells #[pV xb] 70)).alloc (ndC kd va vb vc (.slice la ls.length lc) tx vn vt vp))):=C8 (Chg.alloc _ _ _) (Chg.alloc _ _ _);have e0:((w.alloc (.cells #[pV xb] 70)).alloc (ndC kd va vb vc (.slice la ls.length lc) tx vn vt vp)).heap[w.heap.size]? =some (.cells #[pV xb] 70 (0,0)):=(Below.heap_alloc _ _ _ (by simp)).trans (heap_alloc_new w _);have E0:=A0 e0;clear e0;go_enter Tryz.func9,Tryz.ntmps9;go_wp2_with fail
     refine(HX.out _ _ (HS.out _ A2.out) (E0.out)).mono ?_;rintro e w5 ⟨rfl,hP5,hK5⟩;have HP5:=A0 hP5;have HK5:Hid (KC w w5):=(KC.still A2.out).trans hK5;clear hP5 hK5;go_wp2_with fail
     go_end0;exact⟨rfl,HP5.out,HK5.out⟩
end
end Go.Proofs.YtgdnpemiiageaaaGreatDoor
