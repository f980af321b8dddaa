/-
  A part of the proof.
-/
import Derived.Test.YtgdnpemiiageaaaGreatDoorCheckF
import Derived.Test.YtgdnpemiiageaaaGreatDoorBindD
set_option maxHeartbeats 16000000
set_option maxRecDepth 100000
namespace Go.Proofs.YtgdnpemiiageaaaGreatDoor
open Go.RowKit Go.Maps
section
variable {w0 w:World} {c:M.Cx} {pb lb mb qb:Nat} {nv yv fv:Value} {mn:Int}
theorem CkQ.bad {er:Int} {j:Nat} {w':World} (hk:KQ w w') (hsw:Chg (SW w0 pb lb mb) w0 w') (h:M.R5 c (j+1)= .inl (er,j)) (hj:j<c.N.length):CkQ w0 w c pb lb mb qb nv yv mn fv (M.ckP c) (gu er (atI c.N j)) w':=by
 refine⟨hk,hsw, ?_⟩;have:M.ckP c= .inl (er,j):=M.G1a c h (by omega);rw[this]
theorem Y5c (hB:Cbs w0 c pb lb mb qb nv fv) (h:Cst w0 w c pb lb mb qb nv yv mn fv [] []):
 Calls Tryz.prog 19 #[pV pb] w (CkQ w0 w c pb lb mb qb nv yv mn fv (M.ckP c)):=by
 have hlen:=hB.ok.lenN;have hlenT:=hB.ok.lenT;have HFS:=A0 (K6b hB h);have HBh:=A0 hB;obtain⟨na,nc,hnv⟩:∃na nc,nv= .slice na c.N.length nc:=by
  obtain⟨nx,hn,_⟩:=hB.nrow h.chg;exact B6 hn
 subst hnv;clear h hB;go_enter Tryz.func19,Tryz.ntmps19;go_wp2_with fail
 refine HFS.out.mono ?_;rintro e w1 ⟨rfl,Z1,ofs1,hZ1,hR1,hC1,hK1⟩;obtain⟨oa,oc,hpb,fz,q0,q1,q2,q3,q4,q5,q6,qp,qo⟩:=hC1.cell;have HR1:=A0 hR1;have HC1:=A0 hC1;have HK1:=A0 hK1;clear hR1 hC1 hK1 HFS fz q1 q2 q3 q4 q5 q6 qp qo;go_wp2_with fail
 go_loopw [12] (fun v wr=>∃(j:Nat) (of:M.Of) (Z:List M.Ty) (ofs:List Int),j<=c.N.length/\v=iV (j:Int)/\Z.length<=c.N.length+2 * j/\Hid (M.R5 c j= .inr of)/\Hid (OfR (tl c Z) ofs of)/\Hid (Cst w0 wr c pb lb mb qb (.slice na c.N.length nc) yv mn fv Z ofs)/\Hid (KQ w wr)) (fun v _=>c.N.length - (intOf v).toNat)
 case atStart=>exact⟨0,M.of0 c,Z1,ofs1,Nat.zero_le _,rfl,by omega,rfl,HR1,HC1,HK1⟩
 case round=>
  clear HR1 HC1 HK1 q0 hZ1 hpb;obtain⟨j,of,Z,ofs,hj,rfl,hZ,HT,HR,HC,HK⟩:=hrel;by_cases hjl:j<c.N.length
  · obtain⟨g,nc',la,lc,hnv,hg,hn1,hn2,⟨x0,x1,x2,x3,x4,x5,x6,x7,x8⟩,-,-⟩:=(HBh.out.nrow HC.out.chg).at (Below.refl _ _) j hjl;have hna:na=some (aD g 0)/\nc=nc':=by
     injection hnv with e1 e2 e3;exact⟨e1,e3⟩
    obtain⟨rfl,rfl⟩:=hna;clear hnv;have hI:=M.V2a c j of hj HT.out;have hW:=M.C7b HBh.out.ok j of hj HT.out;have hN:(tl c Z).length+2<=4000:=by rw[M3];omega
    have HCT:Hid (M.R5 c (j+1)=match M.ckN c of j with
     | .inl e=> .inl (e,j)
     | .inr none=> .inr of
     | .inr (some t)=> .inr (of.set j (some t))):=by
     show _=_;rw[M.R5,HT.out];rfl
    have HIE:Hid (∀(u:World) (b:Bool),b=decide (1<=c.N[j].kind/\c.N[j].kind<=14)->_):=fun u b hb=>Q7b u c.N[j] la lc b hb;have HS:Hid (¬(1<=c.N[j].kind/\c.N[j].kind<=14)->∀u,Chg No wr u->_):=fun hE u hu=>J4d HBh.out (Q5b HBh.out.ok HC.out.ts HR.out hI (Nat.le_refl j)) (HC.out.still hu) hjl hE;have HX:Hid ((1<=c.N[j].kind/\c.N[j].kind<=14)->∀u,Chg No wr u->_):=fun hE u hu=>M4d HBh.out HR.out hI hW (HC.out.still hu) hjl hE hN;have HSZ:Hid (∀t,M.D5 c of j=some t->M.sz t<=1000000):=fun t ht=>M.O4c HBh.out.ok hI hjl ht;have HCE:Hid ((1<=c.N[j].kind/\c.N[j].kind<=14)->M.ckN c of j=match M.D5 c of j with
     |none=> .inl 9
     |some t=>if 300<M.sz t then .inl 2 else .inr (some t)):=fun hE=>by
     unfold M.ckN;rw[M.D4 hjl];exact if_pos hE
    have HAT:Hid (c.N[j].at'=atI c.N j):=by
     show _=_;unfold atI;rw[List.getD_eq_getElem?_getD,List.getElem?_eq_getElem hjl];rfl
    unfold nvl at HIE;have hofl:j<ofs.length:=by rw[HR.out.len,hI.len];exact hjl
    clear hI hW;generalize hndg:c.N[j]=nd at *;obtain⟨kd,va,vb,vc,ls,tx,vn,vt,vp⟩:=nd;simp only at *;clear hndg;unfold maxLen at hn2;have A1:=A0 (Chg.alloc No wr (ndC kd va vb vc (.slice la ls.length lc) tx vn vt vp));have nb:=heap_alloc_new wr (ndC kd va vb vc (.slice la ls.length lc) tx vn vt vp);have NB:=A0 nb;have n0:=cell_of_row _ _ 0 _ _ _ nb;have n1:=cell_of_row _ _ 1 _ _ _ nb;have n2:=cell_of_row _ _ 2 _ _ _ nb;have n3:=cell_of_row _ _ 3 _ _ _ nb;have n4:=cell_of_row _ _ 4 _ _ _ nb;have n5:=cell_of_row _ _ 5 _ _ _ nb;have n6:=cell_of_row _ _ 6 _ _ _ nb;have n7:=cell_of_row _ _ 7 _ _ _ nb;have n8:=cell_of_row _ _ 8 _ _ _ nb;clear nb;by_cases hE:1<=kd/\kd<=14
    · have HX':=A0 (HX.out hE);have HCE':=A0 (HCE.out hE);have HIE':Hid (∀u,_):=fun u=>HIE.out u true (by simp[hE]);clear HS HX HCE HIE hE;go_wp2_with fail
      refine(HIE'.out _).mono ?_;rintro e w2 ⟨rfl,hc2⟩;have C2:=A0 (C8 A1.out hc2);have NB2:=A0 (J5 hc2 NB.out);have HC2:=A0 (HC.out.still C2.out);clear hc2 A1 NB n0 n1 n2 n3 n4 n5 n6 n7 n8 x0 x1 x2 x3 x4 x5 x6 x7 x8 HIE';obtain⟨oa,oc,hpb,fz,q0,q1,q2,q3,q4,q5,q6,qp,qo⟩:=HC2.out.cell;obtain⟨go,hoa,ho0,ho1,ho2,ho3,y0,yf⟩:=qo j hofl;subst hoa;have HQ6:=A0 q6;have HPB:Hid (∃cs,w2.heap[pb]? =some (.cells cs 51 (0,0))):=by
       obtain⟨ov,D,hb,_⟩:=HC2.out.st;exact⟨_,hb⟩
      have HGO:Hid (∃cs,w2.heap[go]? =some (.cells cs 3 (0,0))):=by
       obtain⟨ov,D,hb,hr,_⟩:=HC2.out.st;rw[cell_of_row _ pb 6 _ _ _ hb]at q6;have e6:=Option.some.inj q6;have e6':ov= .slice (some (aD go 0)) ofs.length oc:=e6;subst e6';obtain⟨_,cur,hh⟩:=A9 hr go rfl;exact⟨_,hh⟩
      have HY0:=A0 y0;unfold maxLen at ho3;clear fz q0 q1 q2 q3 q4 q5 qp qo;have hj':(j:Int)<(ofs.length:Int):=by omega
      go_wp2_with fail
      go_cut [] from 13 to 48 (fun wc=>∃(t:M.Tr) (x:Nat) (X:List M.Ty),Hid (M.D5 c of j=some t)/\X.length<=2/\Hid (x<(tl c (Z++X)).length/\M.tr (tl c (Z++X)) x=t/\Cst w0 wc c pb lb mb qb (.slice (some (aD g 0)) c.N.length nc) yv mn fv (Z++X) (ofs.set j (x:Int))/\KQ w2 wc))
      case first=>
       go_region_with (go_at_call 36;refine(HX'.out _ (C8 C2.out (Chg.drewN _ _ 1))).mono ?_;rintro e w5 ⟨hk,hsw,⟨h1,rfl⟩|⟨t,x,X,h1,rfl,hX,hxl,hxt,hC⟩⟩;exact⟨rfl,CkQ.bad ((HK.out.trans (.still (C8 C2.out (Chg.drewN _ _ 1)))).trans (.kg hk)) hsw (by rw[HCT.out,HCE'.out,h1]) hjl⟩;have q65:w5.cell? (aD pb 6)=some (.slice (some (aD go 0)) ofs.length oc):=HPB.out.elim fun cs hb=>(World.cell?_of_block ((hk.2 pb cs _ _ hb (by decide) (by decide)).trans hb.symm)).trans HQ6.out;have y5:w5.cell? (aD go j)=some (iV ofs[j]):=HGO.out.elim fun cs hb=>(World.cell?_of_block ((hk.2 go cs _ _ hb (by decide) (by decide)).trans hb.symm)).trans HY0.out;have yf5:w5.frozen? (aD go j)=false:=HGO.out.elim fun cs hb=>frozen_of_row w5 go j cs _ (hk.2 go cs _ _ hb (by decide) (by decide));have hg5:go<w5.heap.size:=Nat.lt_of_lt_of_le ho1 hk.1;have HF5:Hid (M.D5 c of j=some t/\x<(tl c (Z++X)).length/\M.tr (tl c (Z++X)) x=t/\Cst w0 w5 c pb lb mb qb (.slice (some (aD g 0)) c.N.length nc) yv mn fv (Z++X) ofs/\KG w2 w5):=⟨h1,hxl,hxt,hC,(KG.still (Chg.drewN No w2 1)).trans hk⟩;clear h1 hxl hxt hC hk hsw)
       all_goals
        have HS5:=A0 (HF5.out.2.2.2.1.set (g:=go) (oc:=oc) (by assumption) j (x:Int));go_wp2_with fail
        go_meet;exact⟨t,x,X,HF5.out.1,hX,HF5.out.2.1,HF5.out.2.2.1,HS5.out.1,(KQ.kg HF5.out.2.2.2.2).trans HS5.out.2⟩
      case rest=>
       obtain⟨t,x,X,hEx,hX,HF⟩:=hcut;obtain⟨hxl,hxt,hC,hk⟩:=HF.out;clear HF q6 y0 yf HQ6 hpb ho0 ho1 ho2 ho3 HGO HY0 HPB;obtain⟨oa',oc',hpb,fz,q0,q1,q2,q3,q4,q5,q6,qp,qo⟩:=hC.cell;obtain⟨go',hoa,ho0,ho1,ho2,ho3,y0,-⟩:=qo j (by rw[List.length_set];exact hofl);subst hoa;rw[List.getElem_set_self]at y0;have n8:wc.cell? (aD wr.heap.size 8)=some (iV vp):=by
        rw[cell_of_row _ _ 8 _ _ _ (hk.2 _ _ _ _ NB2.out (by decide) (by decide) (by decide) (by decide))];rfl
       have hnw:=blt n8;have hpw:=blt q6;have hgw:=blt y0;simp only at hnw hpw hgw;rw[List.length_set]at q6 ho2;unfold maxLen at ho3;have HZ:Hid (∀u,Chg No wc u->_):=fun u hu=>(hC.still hu).sho.elim fun D hs=>H1c x u hxl hs (by rw[hxt];exact HSZ.out t hEx.out);rw[hxt]at HZ;have HKK:=A0 ((HK.out.trans (.still C2.out)).trans hk);have HCC:=A0 hC;have HRR:Hid (OfR (tl c (Z++X)) (ofs.set j (x:Int)) (of.set j (some t))):=by
        have hm:=HR.out.more HC.out.ts X;rw[Z5]at hm;exact hm.set hxl hxt
       have hZ':(Z++X).length<=c.N.length+2 * (j+1):=by rw[List.length_append];omega
       clear hC hk hxl hxt qp qo fz q0 q1 q2 q4 q5 HX' HK HC HR C2 NB2 HSZ HC2;by_cases h3:300<M.sz t
       · have HT2:Hid (M.R5 c (j+1)= .inl (2,j)):=by
          show _=_;rw[HCT.out,HCE'.out,hEx.out];simp only[if_pos h3]
         have HAT':Hid (vp=atI c.N j):=HAT.out;have h3':(300:Int)<(M.sz t:Int):=by omega
         clear HCT HCE' hEx HT HAT h3;go_wp2_with fail
         go_region_with (go_at_call 37;refine(HZ.out _ (Chg.drewN _ _ 1)).mono ?_;rintro e w6 ⟨rfl,hc6⟩;have n86:=A4 hc6 n8;have C6:=A0 (C8 (Chg.drewN No wc 1) hc6);clear hc6)
         all_goals
          go_wp2_with fail
          refine(V8 _ 2 vp).mono ?_;rintro e w7 ⟨rfl,hc7⟩;refine⟨rfl, ?_⟩;rw[HAT'.out];exact CkQ.bad (HKK.out.trans (.still (C8 C6.out hc7))) (HCC.out.still (C8 C6.out hc7)).chg HT2.out hjl
       · have HT2:Hid (M.R5 c (j+1)= .inr (of.set j (some t))):=by
          show _=_;rw[HCT.out,HCE'.out,hEx.out];simp only[if_neg h3]
         have h3':¬(300:Int)<(M.sz t:Int):=by omega
         clear HCT HCE' hEx HT HAT h3;go_wp2_with fail
         go_region_with (go_at_call 37;refine(HZ.out _ (Chg.drewN _ _ 1)).mono ?_;rintro e w6 ⟨rfl,hc6⟩;have C6:=A0 (C8 (Chg.drewN No wc 1) hc6);clear hc6)
         all_goals
          go_wp2_with fail
          go_roundw
          case rel=>exact⟨j+1,of.set j (some t),Z++X,ofs.set j (x:Int),by omega,by go_num,hZ',HT2,HRR,HCC.out.still C6.out,HKK.out.trans (.still C6.out)⟩
          case measure=>simp[intOf];omega
    · have HS':=A0 (HS.out hE);have HIE':Hid (∀u,_):=fun u=>HIE.out u false (by simp[hE]);clear HS HX HCE HIE hE HSZ HAT hofl;go_wp2_with fail
      refine(HIE'.out _).mono ?_;rintro e w2 ⟨rfl,hc2⟩;have C2:=A0 (C8 A1.out hc2);clear hc2 A1 NB n0 n1 n2 n3 n4 n5 n6 n7 n8 x0 x1 x2 x3 x4 x5 x6 x7 x8 HIE';go_wp2_with fail
      refine(HS'.out _ C2.out).mono ?_;rintro e w3 ⟨hk,hsw,⟨er,h1,rfl⟩|⟨h1,rfl,hC⟩⟩
      · refine⟨rfl,CkQ.bad ((HK.out.trans (.still C2.out)).trans hk) hsw ?_ hjl⟩;rw[HCT.out,h1]
      · have HT3:Hid (M.R5 c (j+1)= .inr of):=by
         show _=_;rw[HCT.out,h1]
        have HC3:=A0 hC;have HK3:=A0 ((HK.out.trans (.still C2.out)).trans hk);clear hC hk hsw h1 HCT HT HC HK C2 HS';go_wp2_with fail
        go_roundw
        case rel=>exact⟨j+1,of,Z,ofs,by omega,by go_num,by omega,HT3,HR,HC3,HK3⟩
        case measure=>simp[intOf];omega
  · have hje:j=c.N.length:=by omega
    subst hje;go_wp2_with fail
    go_end0;refine⟨HK.out,HC.out.chg, ?_⟩;have:M.ckP c= .inr of:=HT.out;rw[this];exact⟨rfl,Z,ofs,by omega,HR.out,HC.out⟩
end
open Go.RowKit Go.Maps
section
variable {w0 w:World} {c:M.Cx} {pb lb mb qb:Nat} {nv yv fv:Value} {mn:Int} {Z:List M.Ty} {ofs:List Int}
theorem Cst.oth {w':World} (h:Cst w0 w c pb lb mb qb nv yv mn fv Z ofs) {q:Nat} {cs:Array Value} {e:TypeId} {fz:Nat×Nat} (hc:Chg (fun k=>k=q) w w') (hq:w.heap[q]? =some (.cells cs e fz)) (he:e≠51/\e≠101/\e≠68/\e≠126/\e≠3) (hlow:w0.heap.size<=q):Cst w0 w' c pb lb mb qb nv yv mn fv Z ofs:=by
 obtain⟨h1,⟨ov,D,hb,hr,hs⟩,hf⟩:=h;have ne:∀{k:Nat} {cs':Array Value} {e':TypeId} {fz':Nat×Nat},w.heap[k]? =some (.cells cs' e' fz')->e≠e'->k≠q:=fun {k cs' e' fz'} hk hx hkq=>by
  subst hkq;rw[hk]at hq;simp only[Option.some.injEq,Obj.cells.injEq]at hq;exact hx hq.2.1.symm
 refine⟨h1.trans hc (fun k hk x=>by have x':k=q:=x;omega),⟨ov,D, ?_,A8 hr hc (fun g hg x=> ?_),hs.chg hc (hs.mst.chg hc (fun x=> ?_)) ?_ (fun _ x _=>x)⟩,hf⟩
 · rw[hc.block pb (ltG hb) (ne hb he.1)];exact hb
 · obtain⟨_,cur,hh⟩:=A9 hr g hg;exact ne hh he.2.2.2.2 x
 · have x':mb=q:=x;subst x';exact hs.mst.tag _ _ _ hq
 · rintro k cur e' hk he' hx;rcases he' with rfl|rfl|⟨rfl|rfl,_⟩
   · exact ne hk he.2.1 hx
   · exact ne hk he.2.2.1 hx
   · exact ne hk he.2.2.2.1 hx
   · exact ne hk he.2.2.2.2 hx
def FcQ (w0 w:World) (c:M.Cx) (pb lb mb qb:Nat) (nv yv:Value) (mn:Int) (fv:Value) (r:(Int×Nat) ⊕ M.Of) (e:Ending) (w':World):Prop:=KQ w w'/\Chg (SW w0 pb lb mb) w0 w'/\match r with
 | .inl (er,i)=>e= .returned (.agg #[iV er,iV (atI c.N i)])
 | .inr of=>e= .returned (.agg #[iV 0,iV 0])/\∃Z ofs,Z.length<=3 * c.N.length/\OfR (tl c Z) ofs of/\Cst w0 w' c pb lb mb qb nv yv mn fv Z ofs
theorem KQ.own {a b d:World} {q:Nat} (h:KQ a b) (hq:a.heap.size<=q) (hc:Chg (fun k=>k=q) b d):KQ a d:=
 ⟨Nat.le_trans h.1 hc.size,fun k cs e fz x h1 h2 h3 h4=>by
  have hk:=(ltG x);rw[hc.block k (Nat.lt_of_lt_of_le hk h.1) (by omega)];exact h.2 k cs e fz x h1 h2 h3 h4⟩
theorem L1b (hB:Cbs w0 c pb lb mb qb nv fv) (h:Cst w0 w c pb lb mb qb nv yv mn fv [] []):
 Calls Tryz.prog 18 #[.func (.func 19) #[pV pb] #[]] w (FcQ w0 w c pb lb mb qb nv yv mn fv (M.ckP c)):=by
 have hmf:=mkf;have hca:=Chg.alloc No w (.cells #[iV 0,iV 0] 26);have HM:=Y5c hB (h.still hca);have hbn:=heap_alloc_new w (.cells #[iV 0,iV 0] 26);have hsz:w0.heap.size<=w.heap.size:=h.chg.size;have HKB:Hid (∀a,KQ (w.alloc (.cells #[iV 0,iV 0] 26)) a->a.heap[w.heap.size]? =some (.cells #[iV 0,iV 0] 26 (0,0))/\KQ w a):=fun a ha=>⟨ha.2 _ _ _ _ hbn (by decide) (by decide) (by decide) (by decide),(KQ.still hca).trans ha⟩;clear h hB hbn hca;generalize M.ckP c=R at *;go_enter_defers Tryz.func18,Tryz.ntmps18
 go_wp2_with fail
 refine HM.mono ?_;clear HM;rintro e w1 ⟨hk,hsw,hr⟩;have HSW:=A0 hsw;clear hsw;obtain⟨hb1,hkq⟩:=HKB.out w1 hk;have q0:w1.cell? (aD w.heap.size 0)=some (iV 0):=cr hb1 rfl;have q1:w1.cell? (aD w.heap.size 1)=some (iV 0):=cr hb1 rfl;have hz:=(ltG hb1);have qf':∀o,w1.frozen? (aD w.heap.size o)=false:=fun o=>frozen_of_row w1 _ o _ _ hb1;have HB1:=A0 hb1;have HKQ:=A0 hkq;clear hk hb1 HKB hkq;cases R with
 |inl p=>
  obtain⟨er,j⟩:=p;obtain rfl:e=gu er (atI c.N j):=hr;unfold gu;refine leaves_cons (f:=32) (args:=#[pV w.heap.size]) (by simp) (by simp[go_sem]) ?_;refine(L3a w.heap.size er (atI c.N j) 0 0 [] _ q0 q1 qf').mono ?_;rintro e u' w2 ⟨rfl,rfl,hc,z0,z1⟩;have KX:FcQ w0 w c pb lb mb qb nv yv mn fv (.inl (er,j)) (.returned (.agg #[iV er,iV (atI c.N j)])) w2:=⟨HKQ.out.own (Nat.le_refl _) (hc.mono (fun k hk x=>by omega)),HSW.out.trans hc (fun k hk x=>by omega),rfl⟩;generalize atI c.N j=pa at *;simp[Leaves,settle,results,Tryz.results18,go_sem,z0,z1];exact KX
 |inr of=>
  obtain⟨rfl,Z,ofs,hZ,hR,hC⟩:=hr;have HR:=A0 hR;have HC:=A0 hC;clear hR hC;go_wp2_with fail
  refine leaves_cons (f:=32) (args:=#[pV w.heap.size]) (by simp) (by simp[go_sem]) ?_;refine(J6a w.heap.size _).mono ?_;rintro e u' w6 ⟨rfl,rfl,hc6⟩;have s1:=heap_setCell_same w1 w.heap.size 0 _ _ (iV 0) HB1.out;have s2:=heap_setCell_same _ w.heap.size 1 _ _ (iV 0) s1;have z0:=A4 hc6 (show World.cell? _ (aD w.heap.size 0)=some (iV 0) from cr s2 rfl);have z1:=A4 hc6 (show World.cell? _ (aD w.heap.size 1)=some (iV 0) from cr s2 rfl);have hcs:Chg (fun k=>k=w.heap.size) w1 ((w1.setCell (aD w.heap.size 0) (iV 0)).setCell (aD w.heap.size 1) (iV 0)):=Chg.trans (Chg.set w1 (aD w.heap.size 0) _) (Chg.set _ (aD w.heap.size 1) _) (fun _ _ x=>x);have KX:FcQ w0 w c pb lb mb qb nv yv mn fv (.inr of) (.returned (.agg #[iV 0,iV 0])) w6:=⟨(HKQ.out.own (Nat.le_refl _) hcs).trans (.still hc6),((HC.out.oth hcs HB1.out (by decide) hsz).still hc6).chg,rfl,Z,ofs,hZ,HR.out,(HC.out.oth hcs HB1.out (by decide) hsz).still hc6⟩;simp[Leaves,settle,results,Tryz.results18,go_sem,z0,z1];exact KX
end
end Go.Proofs.YtgdnpemiiageaaaGreatDoor
