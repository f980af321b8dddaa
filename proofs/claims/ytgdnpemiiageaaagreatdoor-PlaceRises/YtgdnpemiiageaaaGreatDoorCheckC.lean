/-
  A part of the proof.
-/
import Derived.Test.YtgdnpemiiageaaaGreatDoorCheckB
set_option maxHeartbeats 16000000
set_option maxRecDepth 100000
namespace Go.Proofs.YtgdnpemiiageaaaGreatDoor
open Go.RowKit Go.Maps
section
variable {w0 w:World} {c:M.Cx} {pb lb mb qb:Nat} {nv yv fv:Value} {mn:Int} {Z:List M.Ty} {ofs:List Int} {of:M.Of} {i:Nat} {kf:FuncId} {cp:Array Value} {R:List (Int×M.Tr)->World->Prop} {Pn:Ending->World->Prop}
theorem H2d (hB:Cbs w0 c pb lb mb qb nv fv) (hL:Lks c Z ofs of i) (hT:TlC w0 c pb lb mb qb nv yv mn fv Z ofs of i kf cp R Pn) (hi:i<c.N.length) (hk:c.N[i].kind=18) (hR:R [] w):
 Calls Tryz.prog 21 #[pV pb,iV (i:Int),.func (.func kf) #[] cp] w fun e w'=>((∃x y,e=gu x y)/\Pn e w')\/(e=rT/\∃L,M.asks c of i=some L/\R L w'):=by
 have hcf:=hT.cf;have h:=hT.st _ _ hR;have hf:=hB.ok.flat i hi;obtain⟨oa,oc,hpb,fz,q0,q1,q2,q3,q4,q5,q6,qp,qo⟩:=h.cell;obtain⟨g,nc,la,lc,hnv,hg,hn1,hn2,⟨x0,x1,x2,x3,x4,x5,x6,x7,x8⟩,hlo,-⟩:=(hB.nrow h.chg).at (Below.refl _ _) i hi;have hlen:=hB.ok.lenN;unfold maxLen at hn2;have hpe:M.Pe c.N i c.N[i].a:=hf.k1 (by omega);obtain⟨p,r,hp,hpx,-⟩:=hL.pe _ hpe;have HA0:M.asks c of i=(some (M.T8 c of (c.ts.getD i 0))).map fun t=>[(c.N[i].a,t)]:=by
  unfold M.asks;simp only[M.D4 hi];rw[if_neg (by omega),if_neg (by omega),if_neg (by omega),if_pos hk];rfl
 obtain⟨tt,htt⟩:∃tt,tt=(some (M.T8 c of (c.ts.getD i 0))).getD M.W5:=⟨_,rfl⟩;obtain⟨xx,hxx⟩:∃xx,xx=c.N[i].a:=⟨_,rfl⟩;have RS:∀u,R [] u->Cst w0 u c pb lb mb qb nv yv mn fv Z ofs:=fun u hu=>hT.st _ _ hu;obtain⟨j,a0,hj,hjl,hrh,hal0,hatr0,hhas⟩:=hL.has _ (hB.ok.nms.tg i hi (.inr hk));have HLK:Hid (∀u,R [] u->(Instr.lookup 40 (.map (some qb)) (iV (i:Int)) false).run Tryz.prog u= .ok (iV (j:Int)) u):=fun u hu=>by
  have hm:=(hB.nm (RS u hu).chg).get (i:Int) (by omega);rw[hm];unfold nmM;rw[if_pos ⟨by omega,by omega,by rw[Int.toNat_natCast,hj];omega⟩,Int.toNat_natCast,hj];rfl
 have HF:Hid (∀u,R [] u->Calls Tryz.prog 41 #[pV pb,iV (j:Int)] u fun e u'=>((∃x y,e=gu x y)/\Pn e u')\/∃a:Nat,e= .returned (iV (a:Int))/\a<(tl c Z).length/\some (M.T8 c of (c.ts.getD i 0))=some (M.tr (tl c Z) a)/\R [] u'/\KC u u'):=fun u hu=>by
  refine(M5c hB (RS u hu) j hjl hhas).mono ?_;rintro e u' ⟨rfl,hc⟩;exact .inr ⟨a0,by rw[hrh],hal0,by rw[hatr0],hT.still _ _ _ hu hc,KC.still hc⟩
 have HT:Hid (∀(u:World) (a:Nat),a<(tl c Z).length->some (M.T8 c of (c.ts.getD i 0))=some (M.tr (tl c Z) a)->R [] u->Calls Tryz.prog kf (#[iV (p:Int),iV (a:Int)]++cp) u fun e u'=>((∃x y,e=gu x y)/\Pn e u')\/(e=rT/\R [(xx,tt)] u'/\KC u u')):=fun u a hal hft hu=>by
  have he:tt=M.tr (tl c Z) a:=by rw[htt,hft];rfl
  have hal2:M.asks c of i=some [(xx,tt)]:=by rw[HA0,hft,hxx,he];rfl
  refine(hT.tell [] u _ xx p a hu (by rw[hxx];exact hpe) (by rw[hxx];exact hpx) hal hal2 (by rw[he];simp) (by simp)).mono ?_;rintro e u' (y|⟨y1,y2,y3⟩)
  · exact .inl y
  · exact .inr ⟨y1,by rw[he];exact y2,y3⟩
 have HA:Hid (∀a:Nat,some (M.T8 c of (c.ts.getD i 0))=some (M.tr (tl c Z) a)->M.asks c of i=some [(xx,tt)]):=fun a hft=>by
  rw[HA0,hft,hxx,htt,hft];rfl
 have HR:Hid (∀u,Chg No w u->R [] u):=fun u hu=>hT.still _ _ _ hR hu;generalize some (M.T8 c of (c.ts.getD i 0))=FT at *;rw[hpx]at x1;clear qp qo h hB hL hT hR hf hpe hpx htt hxx RS HA0 fz hhas hrh hatr0;generalize hnd:c.N[i]=nd at *;have HND:=A0 hnd;clear hnd;obtain⟨kd,va,vb,vc,ls,tx,vn,vt,vp⟩:=nd;subst hnv;simp only at *;subst hk;have A1:=Chg.alloc No w (ndC 18 (p:Int) vb vc (.slice la ls.length lc) tx vn vt vp);have nb:=heap_alloc_new w (ndC 18 (p:Int) vb vc (.slice la ls.length lc) tx vn vt vp);have n1:(w.alloc (ndC 18 (p:Int) vb vc (.slice la ls.length lc) tx vn vt vp)).cell? (aD w.heap.size 1)=some (iV (p:Int)):=cr nb rfl;have q4':=A4 A1 q4;have A1h:=A0 A1;clear A1 nb;go_enter Tryz.func21,Tryz.ntmps21;go_wp2_with fail
 generalize (w.alloc (ndC 18 (p:Int) vb vc (.slice la ls.length lc) tx vn vt vp))=W at *;have S0:Hid (W.drew.cell? (aD w.heap.size 1)=some (iV (p:Int))/\W.drew.cell? (aD pb 4)=some (.map (some qb))/\(Instr.lookup 40 (.map (some qb)) (iV (i:Int)) false).run Tryz.prog W.drew= .ok (iV (j:Int)) W.drew/\Hid (KC W W.drew/\R [] W.drew)):=⟨n1,q4',HLK.out _ (HR.out _ (C8 A1h.out (Chg.drewN _ _ 1))),⟨KC.still (Chg.drewN _ _ 1),HR.out _ (C8 A1h.out (Chg.drewN _ _ 1))⟩⟩;have n1d:W.cell? (aD w.heap.size 1)=some (iV (p:Int)):=n1;have q4d:W.cell? (aD pb 4)=some (.map (some qb)):=q4';have hn1w:=blt n1d;have hq4w:=blt q4d;simp only at hn1w hq4w;have hlk:(Instr.lookup 40 (.map (some qb)) (iV (i:Int)) false).run Tryz.prog W.drew= .ok (iV (j:Int)) W.drew:=HLK.out _ (HR.out _ (C8 A1h.out (Chg.drewN _ _ 1)));clear S0 n1 q4' q4;go_region_with (first
  |(go_at_call 41;refine(HF.out _ (HR.out _ (C8 A1h.out (Chg.drewN _ _ 1)))).mono ?_;rintro e w5 (⟨⟨x,y,rfl⟩,hP⟩|⟨a,rfl,hal,hft,hrr,hkc⟩);exact⟨rfl,.inl ⟨⟨x,y,rfl⟩,hP⟩⟩;have n1e:=hkc.cell n1d)
  |(refine(HT.out _ a hal hft hrr).mono ?_;rintro e w6 (⟨⟨x,y,rfl⟩,hP⟩|⟨rfl,hR6,hkc2⟩);exact⟨rfl,.inl ⟨⟨x,y,rfl⟩,hP⟩⟩))
 all_goals
  have H6:=A0 hR6;have HAA:=A0 (HA.out a hft);clear hR6 hkc2 hkc hrr hft;go_wp2_with fail
  go_end0;exact .inr ⟨rfl,_,HAA.out,H6.out⟩
end
open Go.RowKit Go.Maps
section
variable {w0 w:World} {c:M.Cx} {pb lb mb qb:Nat} {nv yv fv:Value} {mn:Int} {Z:List M.Ty} {ofs:List Int} {of:M.Of} {i:Nat} {kf:FuncId} {cp:Array Value} {R:List (Int×M.Tr)->World->Prop} {Pn:Ending->World->Prop}
theorem H1d (hB:Cbs w0 c pb lb mb qb nv fv) (hL:Lks c Z ofs of i) (hT:TlC w0 c pb lb mb qb nv yv mn fv Z ofs of i kf cp R Pn) (hi:i<c.N.length) (hk:c.N[i].kind=19) (hR:R [] w):
 Calls Tryz.prog 21 #[pV pb,iV (i:Int),.func (.func kf) #[] cp] w fun e w'=>((∃x y,e=gu x y)/\Pn e w')\/(e=rT/\∃L,M.asks c of i=some L/\R L w'):=by
 have hcf:=hT.cf;have h:=hT.st _ _ hR;have hf:=hB.ok.flat i hi;obtain⟨oa,oc,hpb,fz,q0,q1,q2,q3,q4,q5,q6,qp,qo⟩:=h.cell;obtain⟨g,nc,la,lc,hnv,hg,hn1,hn2,⟨x0,x1,x2,x3,x4,x5,x6,x7,x8⟩,hlo,-⟩:=(hB.nrow h.chg).at (Below.refl _ _) i hi;have hlen:=hB.ok.lenN;unfold maxLen at hn2;have hpe:M.Pe c.N i c.N[i].b:=(hf.k2 (by omega)).2;obtain⟨p,r,hp,hpx,-⟩:=hL.pe _ hpe;have HA0:M.asks c of i=(M.J6 of c.N[i]).map fun t=>[(c.N[i].b,t)]:=by
  unfold M.asks;simp only[M.D4 hi];rw[if_neg (by omega),if_neg (by omega),if_neg (by omega),if_neg (by omega),if_pos hk]
 obtain⟨tt,htt⟩:∃tt,tt=(M.J6 of c.N[i]).getD M.W5:=⟨_,rfl⟩;obtain⟨xx,hxx⟩:∃xx,xx=c.N[i].b:=⟨_,rfl⟩;have RS:∀u,R [] u->Cst w0 u c pb lb mb qb nv yv mn fv Z ofs:=fun u hu=>hT.st _ _ hu;obtain⟨pa,ra,hpa1,hpa2,hpa3,hpa4,hpa5⟩:=hL.pe _ (hf.k2 (by omega)).1;have HF:Hid (∀u,R [] u->Calls Tryz.prog 42 #[pV pb,iV (i:Int)] u fun e u'=>((∃x y,e=gu x y)/\Pn e u')\/∃a:Nat,e= .returned (iV (a:Int))/\a<(tl c Z).length/\M.J6 of c.N[i]=some (M.tr (tl c Z) a)/\R [] u'/\KC u u'):=fun u hu=>by
  refine(W9b hB (RS u hu) i hi pa hpa1 hpa2 ra hpa3 hpa4 hpa5.symm).mono ?_;rintro e u' ⟨hc,hm⟩;revert hm;cases hft:M.J6 of c.N[i] with
  |none=>
   intro hm;refine .inl ⟨⟨_,_,hm⟩, ?_⟩;have hm':e=gu 9 (atI c.N i):=hm;subst hm';have hno:M.asks c of i=none:=by rw[HA0,hft];rfl
   exact hT.bad _ _ _ hu hc hno
  |some t=>
   intro hm;obtain⟨hC,a,rfl,hal,htr⟩:=hm;exact .inr ⟨a,rfl,hal,by rw[htr],hT.memo _ _ _ hu hc hC,(RS u hu).kc hc⟩
 have HT:Hid (∀(u:World) (a:Nat),a<(tl c Z).length->M.J6 of c.N[i]=some (M.tr (tl c Z) a)->R [] u->Calls Tryz.prog kf (#[iV (p:Int),iV (a:Int)]++cp) u fun e u'=>((∃x y,e=gu x y)/\Pn e u')\/(e=rT/\R [(xx,tt)] u'/\KC u u')):=fun u a hal hft hu=>by
  have he:tt=M.tr (tl c Z) a:=by rw[htt,hft];rfl
  have hal2:M.asks c of i=some [(xx,tt)]:=by rw[HA0,hft,hxx,he];rfl
  refine(hT.tell [] u _ xx p a hu (by rw[hxx];exact hpe) (by rw[hxx];exact hpx) hal hal2 (by rw[he];simp) (by simp)).mono ?_;rintro e u' (y|⟨y1,y2,y3⟩)
  · exact .inl y
  · exact .inr ⟨y1,by rw[he];exact y2,y3⟩
 have HA:Hid (∀a:Nat,M.J6 of c.N[i]=some (M.tr (tl c Z) a)->M.asks c of i=some [(xx,tt)]):=fun a hft=>by
  rw[HA0,hft,hxx,htt,hft];rfl
 have HR:Hid (∀u,Chg No w u->R [] u):=fun u hu=>hT.still _ _ _ hR hu;generalize M.J6 of c.N[i]=FT at *;rw[hpx]at x2;clear qp qo h hB hL hT hR hf hpe hpx htt hxx RS HA0 fz hpa1 hpa2 hpa3 hpa4 hpa5;generalize hnd:c.N[i]=nd at *;have HND:=A0 hnd;clear hnd;obtain⟨kd,va,vb,vc,ls,tx,vn,vt,vp⟩:=nd;subst hnv;simp only at *;subst hk;have A1:=Chg.alloc No w (ndC 19 va (p:Int) vc (.slice la ls.length lc) tx vn vt vp);have nb:=heap_alloc_new w (ndC 19 va (p:Int) vc (.slice la ls.length lc) tx vn vt vp);have n1:(w.alloc (ndC 19 va (p:Int) vc (.slice la ls.length lc) tx vn vt vp)).cell? (aD w.heap.size 2)=some (iV (p:Int)):=cr nb rfl;have A1h:=A0 A1;clear A1 nb;go_enter Tryz.func21,Tryz.ntmps21;go_wp2_with fail
 generalize (w.alloc (ndC 19 va (p:Int) vc (.slice la ls.length lc) tx vn vt vp))=W at *;have S0:Hid (W.drew.cell? (aD w.heap.size 2)=some (iV (p:Int))/\Hid (KC W W.drew/\R [] W.drew)):=⟨n1,⟨KC.still (Chg.drewN _ _ 1),HR.out _ (C8 A1h.out (Chg.drewN _ _ 1))⟩⟩;have n1d:W.cell? (aD w.heap.size 2)=some (iV (p:Int)):=n1;have hn1w:=blt n1d;simp only at hn1w;clear S0 n1;go_region_with (first
  |(go_at_call 42;refine(HF.out _ (HR.out _ (C8 A1h.out (Chg.drewN _ _ 1)))).mono ?_;rintro e w5 (⟨⟨x,y,rfl⟩,hP⟩|⟨a,rfl,hal,hft,hrr,hkc⟩);exact⟨rfl,.inl ⟨⟨x,y,rfl⟩,hP⟩⟩;have n1e:=hkc.cell n1d)
  |(refine(HT.out _ a hal hft hrr).mono ?_;rintro e w6 (⟨⟨x,y,rfl⟩,hP⟩|⟨rfl,hR6,hkc2⟩);exact⟨rfl,.inl ⟨⟨x,y,rfl⟩,hP⟩⟩))
 all_goals
  have H6:=A0 hR6;have HAA:=A0 (HA.out a hft);clear hR6 hkc2 hkc hrr hft;go_wp2_with fail
  go_end0;exact .inr ⟨rfl,_,HAA.out,H6.out⟩
end
open Go.RowKit Go.Maps
section
variable {w0 w:World} {c:M.Cx} {pb lb mb qb:Nat} {nv yv fv:Value} {mn:Int} {Z:List M.Ty} {ofs:List Int} {of:M.Of} {i:Nat} {kf:FuncId} {cp:Array Value} {R:List (Int×M.Tr)->World->Prop} {Pn:Ending->World->Prop}
theorem H0d (hB:Cbs w0 c pb lb mb qb nv fv) (hL:Lks c Z ofs of i) (hT:TlC w0 c pb lb mb qb nv yv mn fv Z ofs of i kf cp R Pn) (hi:i<c.N.length) (hk:c.N[i].kind=20) (hR:R [] w):
 Calls Tryz.prog 21 #[pV pb,iV (i:Int),.func (.func kf) #[] cp] w fun e w'=>((∃x y,e=gu x y)/\Pn e w')\/(e=rT/\∃L,M.asks c of i=some L/\R L w'):=by
 have hcf:=hT.cf;have h:=hT.st _ _ hR;have hf:=hB.ok.flat i hi;obtain⟨oa,oc,hpb,fz,q0,q1,q2,q3,q4,q5,q6,qp,qo⟩:=h.cell;obtain⟨g,nc,la,lc,hnv,hg,hn1,hn2,⟨x0,x1,x2,x3,x4,x5,x6,x7,x8⟩,hlo,-⟩:=(hB.nrow h.chg).at (Below.refl _ _) i hi;have hlen:=hB.ok.lenN;unfold maxLen at hn2;have hpe:M.Pe c.N i c.N[i].c:=(hf.k20 hk).2.2;obtain⟨p,r,hp,hpx,-⟩:=hL.pe _ hpe;have HA0:M.asks c of i=(M.J3 of c.N[i]).map fun t=>[(c.N[i].c,t)]:=by
  unfold M.asks;simp only[M.D4 hi];rw[if_neg (by omega),if_neg (by omega),if_neg (by omega),if_neg (by omega),if_neg (by omega),if_pos hk]
 obtain⟨tt,htt⟩:∃tt,tt=(M.J3 of c.N[i]).getD M.W5:=⟨_,rfl⟩;obtain⟨xx,hxx⟩:∃xx,xx=c.N[i].c:=⟨_,rfl⟩;have RS:∀u,R [] u->Cst w0 u c pb lb mb qb nv yv mn fv Z ofs:=fun u hu=>hT.st _ _ hu;obtain⟨pa,ra,hpa1,hpa2,hpa3,hpa4,hpa5⟩:=hL.pe _ (hf.k20 hk).1;obtain⟨pc,rc,hpc1,hpc2,hpc3,hpc4,hpc5⟩:=hL.pe _ (hf.k20 hk).2.1;have HF:Hid (∀u,R [] u->Calls Tryz.prog 43 #[pV pb,iV (i:Int)] u fun e u'=>((∃x y,e=gu x y)/\Pn e u')\/∃a:Nat,e= .returned (iV (a:Int))/\a<(tl c Z).length/\M.J3 of c.N[i]=some (M.tr (tl c Z) a)/\R [] u'/\KC u u'):=fun u hu=>by
  refine(V6b hB (RS u hu) i hi pa hpa1 hpa2 ra hpa3 hpa4 hpa5.symm pc hpc1 hpc2 rc hpc3 hpc4 hpc5.symm).mono ?_;rintro e u' ⟨hc,hm⟩;revert hm;cases hft:M.J3 of c.N[i] with
  |none=>
   intro hm;refine .inl ⟨⟨_,_,hm⟩, ?_⟩;have hm':e=gu 9 (atI c.N i):=hm;subst hm';have hno:M.asks c of i=none:=by rw[HA0,hft];rfl
   exact hT.bad _ _ _ hu hc hno
  |some t=>
   intro hm;obtain⟨hC,a,rfl,hal,htr⟩:=hm;exact .inr ⟨a,rfl,hal,by rw[htr],hT.memo _ _ _ hu hc hC,(RS u hu).kc hc⟩
 have HT:Hid (∀(u:World) (a:Nat),a<(tl c Z).length->M.J3 of c.N[i]=some (M.tr (tl c Z) a)->R [] u->Calls Tryz.prog kf (#[iV (p:Int),iV (a:Int)]++cp) u fun e u'=>((∃x y,e=gu x y)/\Pn e u')\/(e=rT/\R [(xx,tt)] u'/\KC u u')):=fun u a hal hft hu=>by
  have he:tt=M.tr (tl c Z) a:=by rw[htt,hft];rfl
  have hal2:M.asks c of i=some [(xx,tt)]:=by rw[HA0,hft,hxx,he];rfl
  refine(hT.tell [] u _ xx p a hu (by rw[hxx];exact hpe) (by rw[hxx];exact hpx) hal hal2 (by rw[he];simp) (by simp)).mono ?_;rintro e u' (y|⟨y1,y2,y3⟩)
  · exact .inl y
  · exact .inr ⟨y1,by rw[he];exact y2,y3⟩
 have HA:Hid (∀a:Nat,M.J3 of c.N[i]=some (M.tr (tl c Z) a)->M.asks c of i=some [(xx,tt)]):=fun a hft=>by
  rw[HA0,hft,hxx,htt,hft];rfl
 have HR:Hid (∀u,Chg No w u->R [] u):=fun u hu=>hT.still _ _ _ hR hu;generalize M.J3 of c.N[i]=FT at *;rw[hpx]at x3;clear qp qo h hB hL hT hR hf hpe hpx htt hxx RS HA0 fz hpa1 hpa2 hpa3 hpa4 hpa5 hpc1 hpc2 hpc3 hpc4 hpc5;generalize hnd:c.N[i]=nd at *;have HND:=A0 hnd;clear hnd;obtain⟨kd,va,vb,vc,ls,tx,vn,vt,vp⟩:=nd;subst hnv;simp only at *;subst hk;have A1:=Chg.alloc No w (ndC 20 va vb (p:Int) (.slice la ls.length lc) tx vn vt vp);have nb:=heap_alloc_new w (ndC 20 va vb (p:Int) (.slice la ls.length lc) tx vn vt vp);have n1:(w.alloc (ndC 20 va vb (p:Int) (.slice la ls.length lc) tx vn vt vp)).cell? (aD w.heap.size 3)=some (iV (p:Int)):=cr nb rfl;have A1h:=A0 A1;clear A1 nb;go_enter Tryz.func21,Tryz.ntmps21;go_wp2_with fail
 generalize (w.alloc (ndC 20 va vb (p:Int) (.slice la ls.length lc) tx vn vt vp))=W at *;have S0:Hid (W.drew.cell? (aD w.heap.size 3)=some (iV (p:Int))/\Hid (KC W W.drew/\R [] W.drew)):=⟨n1,⟨KC.still (Chg.drewN _ _ 1),HR.out _ (C8 A1h.out (Chg.drewN _ _ 1))⟩⟩;have n1d:W.cell? (aD w.heap.size 3)=some (iV (p:Int)):=n1;have hn1w:=blt n1d;simp only at hn1w;clear S0 n1;go_region_with (first
  |(go_at_call 43;refine(HF.out _ (HR.out _ (C8 A1h.out (Chg.drewN _ _ 1)))).mono ?_;rintro e w5 (⟨⟨x,y,rfl⟩,hP⟩|⟨a,rfl,hal,hft,hrr,hkc⟩);exact⟨rfl,.inl ⟨⟨x,y,rfl⟩,hP⟩⟩;have n1e:=hkc.cell n1d)
  |(refine(HT.out _ a hal hft hrr).mono ?_;rintro e w6 (⟨⟨x,y,rfl⟩,hP⟩|⟨rfl,hR6,hkc2⟩);exact⟨rfl,.inl ⟨⟨x,y,rfl⟩,hP⟩⟩))
 all_goals
  have H6:=A0 hR6;have HAA:=A0 (HA.out a hft);clear hR6 hkc2 hkc hrr hft;go_wp2_with fail
  go_end0;exact .inr ⟨rfl,_,HAA.out,H6.out⟩
end
end Go.Proofs.YtgdnpemiiageaaaGreatDoor
