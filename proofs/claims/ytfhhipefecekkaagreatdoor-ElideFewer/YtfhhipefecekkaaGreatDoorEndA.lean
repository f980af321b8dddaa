/-
  A part of the proof.
-/
import Derived.Test.YtfhhipefecekkaaGreatDoorCheckF
import Derived.Test.YtfhhipefecekkaaGreatDoorCheckH
set_option maxHeartbeats 16000000
set_option maxRecDepth 100000
namespace Go.Proofs.YtfhhipefecekkaaGreatDoor
open Go.Proofs.Tryz
abbrev sL(a:Option Addr)(n c:Nat):Value:= .slice a n c
abbrev fB:Obj:= .cells #[iV 0,iV 0] 26
theorem nW(w:World)(o:Obj):(w.alloc o).heap[w.heap.size]? =some o:=heap_alloc_new w o
open Go.RowKit Go.Maps
section
variable{w0 w:World}{c:M.Cx}{pb lb mb qb:Nat}{nv yv fv:Value}{mn:Int}
theorem CkQ.bad{er:Int}{j:Nat}{w':World}(hk:KQ w w')(hsw:Chg (SW w0 pb lb mb) w0 w')(h:M.R3 c (j+1)= .inl (er,j))(hj:j<c.N.length):CkQ w0 w c pb lb mb qb nv yv mn fv (M.ckP c) (gu er (atI c.N j)) w':=by
 refine⟨hk,hsw, ?_⟩;have:M.ckP c= .inl (er,j):=M.F7a c h (by omega);rw[this]
theorem A1d(hB:Cbs w0 c pb lb mb qb nv fv)(h:Cst w0 w c pb lb mb qb nv yv mn fv [] []):
 Calls prog 19 #[pV pb] w (CkQ w0 w c pb lb mb qb nv yv mn fv (M.ckP c)):=by
 have hlen:=hB.ok.lenN;have hlenT:=hB.ok.lenT;have HFS:=A0 (K3b hB h);have HBh:=A0 hB;obtain⟨na,nc,hnv⟩:∃na nc,nv=sL na c.N.length nc:=by
  obtain⟨nx,hn,_⟩:=hB.nrow h.chg;exact B7 hn
 subst hnv;clear h hB;go_enter func19,ntmps19;go_wp2_with fail
 refine HFS.out.mono ?_;rintro e w1 ⟨rfl,Z1,ofs1,hZ1,hR1,hC1,hK1⟩;obtain⟨oa,oc,hpb,fz,q0,q1,q2,q3,q4,q5,q6,qp,qo⟩:=hC1.cell;have HR1:=A0 hR1;have HC1:=A0 hC1;have HK1:=A0 hK1;clear hR1 hC1 hK1 HFS fz q1 q2 q3 q4 q5 q6 qp qo;go_wp2_with fail
 go_loopw [12] (λv wr=>∃(j:Nat) (of:M.Of) (Z:List M.Ty) (ofs:List Int),j<=c.N.length/\v=iV (j:Int)/\Z.length<=c.N.length+2 * j/\Hid (M.R3 c j= .inr of)/\Hid (OfR (tl c Z) ofs of)/\Hid (Cst w0 wr c pb lb mb qb (sL na c.N.length nc) yv mn fv Z ofs)/\Hid (KQ w wr)) (λv _=>c.N.length - (intOf v).toNat)
 case atStart=>exact⟨0,M.of0 c,Z1,ofs1,wQ _,rfl,by omega,rfl,HR1,HC1,HK1⟩
 case round=>
  clear HR1 HC1 HK1 q0 hZ1 hpb;obtain⟨j,of,Z,ofs,hj,rfl,hZ,HT,HR,HC,HK⟩:=hrel;by_cases hjl:j<c.N.length
  · obtain⟨g,nc',la,lc,hnv,hg,hn1,hn2,⟨x0,x1,x2,x3,x4,x5,x6,x7,x8⟩,-,-⟩:=(HBh.out.nrow HC.out.chg).at (Below.refl _ _) j hjl;have hna:na=some (aD g 0)/\nc=nc':=by
     injection hnv with e1 e2 e3;exact⟨e1,e3⟩
    obtain⟨rfl,rfl⟩:=hna;clear hnv;have hI:=M.E7b c j of hj HT.out;have hW:=M.P9b HBh.out.ok j of hj HT.out;have hN:(tl c Z).length+2<=4000:=by rw[O8];omega
    have HCT:Hid (M.R3 c (j+1)=match M.ckN c of j with
     | .inl e=> .inl (e,j)
     | .inr none=> .inr of
     | .inr (some t)=> .inr (of.set j (some t))):=by
     show _=_;rw[M.R3,HT.out];rfl
    have HIE:Hid (∀(u:World) (b:Bool),b=decide (1<=c.N[j].kind/\c.N[j].kind<=14)->_):=λu b hb=>Q9b u c.N[j] la lc b hb;have HS:Hid (¬(1<=c.N[j].kind/\c.N[j].kind<=14)->∀u,Chg No wr u->_):=λhE u hu=>K8d HBh.out (Q7b HBh.out.ok HC.out.ts HR.out hI (vQ j)) (HC.out.still hu) hjl hE;have HX:Hid ((1<=c.N[j].kind/\c.N[j].kind<=14)->∀u,Chg No wr u->_):=λhE u hu=>O1d HBh.out HR.out hI hW (HC.out.still hu) hjl hE hN;have HSZ:Hid (∀t,M.D7 c of j=some t->M.sz t<=1000000):=λt ht=>M.P8c HBh.out.ok hI hjl ht;have HCE:Hid ((1<=c.N[j].kind/\c.N[j].kind<=14)->M.ckN c of j=match M.D7 c of j with
     |none=> .inl 9
     |some t=>if 300<M.sz t then .inl 2 else .inr (some t)):=λhE=>by
     unfold M.ckN;rw[M.D3 hjl];exact if_pos hE
    have HAT:Hid (c.N[j].at'=atI c.N j):=by
     show _=_;unfold atI;rw[lQ,gQ hjl];rfl
    unfold nvl at HIE;have hofl:j<ofs.length:=by rw[HR.out.len,hI.len];exact hjl
    clear hI hW;generalize hndg:c.N[j]=nd at *;obtain⟨kd,va,vb,vc,ls,tx,vn,vt,vp⟩:=nd;simp only at *;clear hndg;unfold maxLen at hn2;have A1:=A0 (Chg.alloc No wr (ndC kd va vb vc (sL la ls.length lc) tx vn vt vp));have nb:=nW wr (ndC kd va vb vc (sL la ls.length lc) tx vn vt vp);have NB:=A0 nb;have n0:=cell_of_row _ _ 0 _ _ _ nb;have n1:=cell_of_row _ _ 1 _ _ _ nb;have n2:=cell_of_row _ _ 2 _ _ _ nb;have n3:=cell_of_row _ _ 3 _ _ _ nb;have n4:=cell_of_row _ _ 4 _ _ _ nb;have n5:=cell_of_row _ _ 5 _ _ _ nb;have n6:=cell_of_row _ _ 6 _ _ _ nb;have n7:=cell_of_row _ _ 7 _ _ _ nb;have n8:=cell_of_row _ _ 8 _ _ _ nb;clear nb;by_cases hE:1<=kd/\kd<=14
    · have HX':=A0 (HX.out hE);have HCE':=A0 (HCE.out hE);have HIE':Hid (∀u,_):=λu=>HIE.out u true (by simp[hE]);clear HS HX HCE HIE hE;go_wp2_with fail
      refine(HIE'.out _).mono ?_;rintro e w2 ⟨rfl,hc2⟩;have C2:=A0 (B9 A1.out hc2);have NB2:=A0 (D6 hc2 NB.out);have HC2:=A0 (HC.out.still C2.out);clear hc2 A1 NB n0 n1 n2 n3 n4 n5 n6 n7 n8 x0 x1 x2 x3 x4 x5 x6 x7 x8 HIE';obtain⟨oa,oc,hpb,fz,q0,q1,q2,q3,q4,q5,q6,qp,qo⟩:=HC2.out.cell;obtain⟨go,hoa,ho0,ho1,ho2,ho3,y0,yf⟩:=qo j hofl;subst hoa;have HQ6:=A0 q6;have HPB:Hid (∃cs,w2.heap[pb]? =some (.cells cs 46 (0,0))):=by
       obtain⟨ov,D,hb,_⟩:=HC2.out.st;exact⟨_,hb⟩
      have HGO:Hid (∃cs,w2.heap[go]? =some (.cells cs 3 (0,0))):=by
       obtain⟨ov,D,hb,hr,_⟩:=HC2.out.st;rw[cell_of_row _ pb 6 _ _ _ hb]at q6;have e6:=Option.some.inj q6;have e6':ov= .slice (some (aD go 0)) ofs.length oc:=e6;subst e6';obtain⟨_,cur,hh⟩:=A9 hr go rfl;exact⟨_,hh⟩
      have HY0:=A0 y0;unfold maxLen at ho3;clear fz q0 q1 q2 q3 q4 q5 qp qo;have hj':(j:Int)<(ofs.length:Int):=by omega
      go_wp2_with fail
      go_cut [] from 13 to 48 (λwc=>∃(t:M.Tr) (x:Nat) (X:List M.Ty),Hid (M.D7 c of j=some t)/\X.length<=2/\Hid (x<(tl c (Z++X)).length/\M.tr (tl c (Z++X)) x=t/\Cst w0 wc c pb lb mb qb (.slice (some (aD g 0)) c.N.length nc) yv mn fv (Z++X) (ofs.set j (x:Int))/\KQ w2 wc))
      case first=>
       go_region_with (go_at_call 43;refine(HX'.out _ (B9 C2.out (Chg.drewN _ _ 1))).mono ?_;rintro e w5 ⟨hk,hsw,⟨h1,rfl⟩|⟨t,x,X,h1,rfl,hX,hxl,hxt,hC⟩⟩;exact⟨rfl,CkQ.bad ((HK.out.trans (.still (B9 C2.out (Chg.drewN _ _ 1)))).trans (.kg hk)) hsw (by rw[HCT.out,HCE'.out,h1]) hjl⟩;have q65:w5.cell? (aD pb 6)=some (.slice (some (aD go 0)) ofs.length oc):=HPB.out.elim λcs hb=>(World.cell?_of_block ((hk.2 pb cs _ _ hb (by decide) (by decide)).trans hb.symm)).trans HQ6.out;have y5:w5.cell? (aD go j)=some (iV ofs[j]):=HGO.out.elim λcs hb=>(World.cell?_of_block ((hk.2 go cs _ _ hb (by decide) (by decide)).trans hb.symm)).trans HY0.out;have yf5:w5.frozen? (aD go j)=false:=HGO.out.elim λcs hb=>frozen_of_row w5 go j cs _ (hk.2 go cs _ _ hb (by decide) (by decide));have hg5:go<w5.heap.size:=yQ ho1 hk.1;have HF5:Hid (M.D7 c of j=some t/\x<(tl c (Z++X)).length/\M.tr (tl c (Z++X)) x=t/\Cst w0 w5 c pb lb mb qb (.slice (some (aD g 0)) c.N.length nc) yv mn fv (Z++X) ofs/\KG w2 w5):=⟨h1,hxl,hxt,hC,(KG.still (Chg.drewN No w2 1)).trans hk⟩;clear h1 hxl hxt hC hk hsw)
       all_goals
        have HS5:=A0 (HF5.out.2.2.2.1.set (g:=go) (oc:=oc) (by assumption) j (x:Int));go_wp2_with fail
        go_meet;exact⟨t,x,X,HF5.out.1,hX,HF5.out.2.1,HF5.out.2.2.1,HS5.out.1,(KQ.kg HF5.out.2.2.2.2).trans HS5.out.2⟩
      case rest=>
       obtain⟨t,x,X,hEx,hX,HF⟩:=hcut;obtain⟨hxl,hxt,hC,hk⟩:=HF.out;clear HF q6 y0 yf HQ6 hpb ho0 ho1 ho2 ho3 HGO HY0 HPB;obtain⟨oa',oc',hpb,fz,q0,q1,q2,q3,q4,q5,q6,qp,qo⟩:=hC.cell;obtain⟨go',hoa,ho0,ho1,ho2,ho3,y0,-⟩:=qo j (by rw[List.length_set];exact hofl);subst hoa;rw[List.getElem_set_self]at y0;have n8:wc.cell? (aD wr.heap.size 8)=some (iV vp):=by
        rw[cell_of_row _ _ 8 _ _ _ (hk.2 _ _ _ _ NB2.out (by decide) (by decide) (by decide) (by decide))];rfl
       have hnw:=blt n8;have hpw:=blt q6;have hgw:=blt y0;simp only at hnw hpw hgw;rw[List.length_set]at q6 ho2;unfold maxLen at ho3;have HZ:Hid (∀u,Chg No wc u->_):=λu hu=>(hC.still hu).sho.elim λD hs=>I1c x u hxl hs (by rw[hxt];exact HSZ.out t hEx.out);rw[hxt]at HZ;have HKK:=A0 ((HK.out.trans (.still C2.out)).trans hk);have HCC:=A0 hC;have HRR:Hid (OfR (tl c (Z++X)) (ofs.set j (x:Int)) (of.set j (some t))):=by
        have hm:=HR.out.more HC.out.ts X;rw[Z6]at hm;exact hm.set hxl hxt
       have hZ':(Z++X).length<=c.N.length+2 * (j+1):=by rw[qQ];omega
       clear hC hk hxl hxt qp qo fz q0 q1 q2 q4 q5 HX' HK HC HR C2 NB2 HSZ HC2;by_cases h3:300<M.sz t
       · have HT2:Hid (M.R3 c (j+1)= .inl (2,j)):=by
          show _=_;rw[HCT.out,HCE'.out,hEx.out];simp only[if_pos h3]
         have HAT':Hid (vp=atI c.N j):=HAT.out;have h3':(300:Int)<(M.sz t:Int):=by omega
         clear HCT HCE' hEx HT HAT h3;go_wp2_with fail
         go_region_with (go_at_call 44;refine(HZ.out _ (Chg.drewN _ _ 1)).mono ?_;rintro e w6 ⟨rfl,hc6⟩;have n86:=A8 hc6 n8;have C6:=A0 (B9 (Chg.drewN No wc 1) hc6);clear hc6)
         all_goals
          go_wp2_with fail
          refine(V9 _ 2 vp).mono ?_;rintro e w7 ⟨rfl,hc7⟩;refine⟨rfl, ?_⟩;rw[HAT'.out];exact CkQ.bad (HKK.out.trans (.still (B9 C6.out hc7))) (HCC.out.still (B9 C6.out hc7)).chg HT2.out hjl
       · have HT2:Hid (M.R3 c (j+1)= .inr (of.set j (some t))):=by
          show _=_;rw[HCT.out,HCE'.out,hEx.out];simp only[if_neg h3]
         have h3':¬(300:Int)<(M.sz t:Int):=by omega
         clear HCT HCE' hEx HT HAT h3;go_wp2_with fail
         go_region_with (go_at_call 44;refine(HZ.out _ (Chg.drewN _ _ 1)).mono ?_;rintro e w6 ⟨rfl,hc6⟩;have C6:=A0 (B9 (Chg.drewN No wc 1) hc6);clear hc6)
         all_goals
          go_wp2_with fail
          go_roundw
          case rel=>exact⟨j+1,of.set j (some t),Z++X,ofs.set j (x:Int),by omega,by go_num,hZ',HT2,HRR,HCC.out.still C6.out,HKK.out.trans (.still C6.out)⟩
          case measure=>simp[intOf];omega
    · have HS':=A0 (HS.out hE);have HIE':Hid (∀u,_):=λu=>HIE.out u false (by simp[hE]);clear HS HX HCE HIE hE HSZ HAT hofl;go_wp2_with fail
      refine(HIE'.out _).mono ?_;rintro e w2 ⟨rfl,hc2⟩;have C2:=A0 (B9 A1.out hc2);clear hc2 A1 NB n0 n1 n2 n3 n4 n5 n6 n7 n8 x0 x1 x2 x3 x4 x5 x6 x7 x8 HIE';go_wp2_with fail
      refine(HS'.out _ C2.out).mono ?_;rintro e w3 ⟨hk,hsw,⟨er,h1,rfl⟩|⟨h1,rfl,hC⟩⟩
      · refine⟨rfl,CkQ.bad ((HK.out.trans (.still C2.out)).trans hk) hsw ?_ hjl⟩;rw[HCT.out,h1]
      · have HT3:Hid (M.R3 c (j+1)= .inr of):=by
         show _=_;rw[HCT.out,h1]
        have HC3:=A0 hC;have HK3:=A0 ((HK.out.trans (.still C2.out)).trans hk);clear hC hk hsw h1 HCT HT HC HK C2 HS';go_wp2_with fail
        go_roundw
        case rel=>exact⟨j+1,of,Z,ofs,by omega,by go_num,by omega,HT3,HR,HC3,HK3⟩
        case measure=>simp[intOf];omega
  · have hje:j=c.N.length:=by omega
    subst hje;go_wp2_with fail
    go_end0;refine⟨HK.out,HC.out.chg, ?_⟩;have:M.ckP c= .inr of:=HT.out;rw[this];exact⟨rfl,Z,ofs,by omega,HR.out,HC.out⟩
end
section
variable{w0 w:World}{c:M.Cx}{pb lb mb qb:Nat}{nv yv fv:Value}{mn:Int}{Z:List M.Ty}{ofs:List Int}
theorem Cst.oth{w':World}(h:Cst w0 w c pb lb mb qb nv yv mn fv Z ofs){q:Nat}{cs:Array Value}{e:TypeId}{fz:Nat×Nat}(hc:Chg (λk=>k=q) w w')(hq:w.heap[q]? =some (.cells cs e fz))(he:e≠46/\e≠97/\e≠66/\e≠121/\e≠3)(hlow:w0.heap.size<=q):Cst w0 w' c pb lb mb qb nv yv mn fv Z ofs:=by
 obtain⟨h1,⟨ov,D,hb,hr,hs⟩,hf⟩:=h;have ne:∀{k:Nat} {cs':Array Value} {e':TypeId} {fz':Nat×Nat},w.heap[k]? =some (.cells cs' e' fz')->e≠e'->k≠q:=λ{k cs' e' fz'} hk hx hkq=>by
  subst hkq;rw[hk]at hq;simp only[zQ,xW]at hq;exact hx hq.2.1.symm
 refine⟨h1.trans hc (λk hk x=>by have x':k=q:=x;omega),⟨ov,D, ?_,A3 hr hc (λg hg x=> ?_),hs.chg hc (hs.mst.chg hc (λx=> ?_)) ?_ (λ_ x _=>x)⟩,hf⟩
 · rw[hc.block pb (ltG hb) (ne hb he.1)];exact hb
 · obtain⟨_,cur,hh⟩:=A9 hr g hg;exact ne hh he.2.2.2.2 x
 · have x':mb=q:=x;subst x';exact hs.mst.tag _ _ _ hq
 · rintro k cur e' hk he' hx;rcases he' with rfl|rfl|⟨rfl|rfl,_⟩
   · exact ne hk he.2.1 hx
   · exact ne hk he.2.2.1 hx
   · exact ne hk he.2.2.2.1 hx
   · exact ne hk he.2.2.2.2 hx
def FcQ(w0 w:World)(c:M.Cx)(pb lb mb qb:Nat)(nv yv:Value)(mn:Int)(fv:Value)(r:(Int×Nat) ⊕ M.Of)(e:Ending)(w':World):Prop:=KQ w w'/\Chg (SW w0 pb lb mb) w0 w'/\match r with
 | .inl (er,i)=>e= .returned (.agg #[iV er,iV (atI c.N i)])
 | .inr of=>e= .returned (.agg #[iV 0,iV 0])/\∃Z ofs,Z.length<=3 * c.N.length/\OfR (tl c Z) ofs of/\Cst w0 w' c pb lb mb qb nv yv mn fv Z ofs
theorem KQ.own{a b d:World}{q:Nat}(h:KQ a b)(hq:a.heap.size<=q)(hc:Chg (λk=>k=q) b d):KQ a d:=
 ⟨kQ h.1 hc.size,λk cs e fz x h1 h2 h3 h4=>by
  have hk:=(ltG x);rw[hc.block k (yQ hk h.1) (by omega)];exact h.2 k cs e fz x h1 h2 h3 h4⟩
theorem L0b(hB:Cbs w0 c pb lb mb qb nv fv)(h:Cst w0 w c pb lb mb qb nv yv mn fv [] []):
 Calls prog 18 #[.func (.func 19) #[pV pb] #[]] w (FcQ w0 w c pb lb mb qb nv yv mn fv (M.ckP c)):=by
 have hmf:=mkf;have hca:=Chg.alloc No w (fB);have HM:=A1d hB (h.still hca);have hbn:=nW w (fB);have hsz:w0.heap.size<=w.heap.size:=h.chg.size;have HKB:Hid (∀a,KQ (w.alloc (fB)) a->a.heap[w.heap.size]? =some (fB)/\KQ w a):=λa ha=>⟨ha.2 _ _ _ _ hbn (by decide) (by decide) (by decide) (by decide),(KQ.still hca).trans ha⟩;clear h hB hbn hca;generalize M.ckP c=R at *;go_enter_defers func18,ntmps18
 go_wp2_with fail
 refine HM.mono ?_;clear HM;rintro e w1 ⟨hk,hsw,hr⟩;have HSW:=A0 hsw;clear hsw;obtain⟨hb1,hkq⟩:=HKB.out w1 hk;have q0:w1.cell? (aD w.heap.size 0)=some (iV 0):=cr hb1 rfl;have q1:w1.cell? (aD w.heap.size 1)=some (iV 0):=cr hb1 rfl;have hz:=(ltG hb1);have qf':∀o,w1.frozen? (aD w.heap.size o)=false:=λo=>frozen_of_row w1 _ o _ _ hb1;have HB1:=A0 hb1;have HKQ:=A0 hkq;clear hk hb1 HKB hkq;cases R with
 |inl p=>
  obtain⟨er,j⟩:=p;obtain rfl:e=gu er (atI c.N j):=hr;unfold gu;refine leaves_cons (f:=39) (args:=#[pV w.heap.size]) (by simp) (by simp[go_sem]) ?_;refine(L3a w.heap.size er (atI c.N j) 0 0 [] _ q0 q1 qf').mono ?_;rintro e u' w2 ⟨rfl,rfl,hc,z0,z1⟩;have KX:FcQ w0 w c pb lb mb qb nv yv mn fv (.inl (er,j)) (.returned (.agg #[iV er,iV (atI c.N j)])) w2:=⟨HKQ.out.own (vQ _) (hc.mono (λk hk x=>by omega)),HSW.out.trans hc (λk hk x=>by omega),rfl⟩;generalize atI c.N j=pa at *;simp[Leaves,settle,results,results18,go_sem,z0,z1];exact KX
 |inr of=>
  obtain⟨rfl,Z,ofs,hZ,hR,hC⟩:=hr;have HR:=A0 hR;have HC:=A0 hC;clear hR hC;go_wp2_with fail
  refine leaves_cons (f:=39) (args:=#[pV w.heap.size]) (by simp) (by simp[go_sem]) ?_;refine(J1a w.heap.size _).mono ?_;rintro e u' w6 ⟨rfl,rfl,hc6⟩;have s1:=heap_setCell_same w1 w.heap.size 0 _ _ (iV 0) HB1.out;have s2:=heap_setCell_same _ w.heap.size 1 _ _ (iV 0) s1;have z0:=A8 hc6 (show World.cell? _ (aD w.heap.size 0)=some (iV 0) from cr s2 rfl);have z1:=A8 hc6 (show World.cell? _ (aD w.heap.size 1)=some (iV 0) from cr s2 rfl);have hcs:Chg (λk=>k=w.heap.size) w1 ((w1.setCell (aD w.heap.size 0) (iV 0)).setCell (aD w.heap.size 1) (iV 0)):=Chg.trans (Chg.set w1 (aD w.heap.size 0) _) (Chg.set _ (aD w.heap.size 1) _) (λ_ _ x=>x);have KX:FcQ w0 w c pb lb mb qb nv yv mn fv (.inr of) (.returned (.agg #[iV 0,iV 0])) w6:=⟨(HKQ.out.own (vQ _) hcs).trans (.still hc6),((HC.out.oth hcs HB1.out (by decide) hsz).still hc6).chg,rfl,Z,ofs,hZ,HR.out,(HC.out.oth hcs HB1.out (by decide) hsz).still hc6⟩;simp[Leaves,settle,results,results18,go_sem,z0,z1];exact KX
end
def RdC(l:List UInt8)(w:World)(e:Ending)(w':World):Prop:=Below w.heap.size w w'/\
 ((∃er p v,FtO l er p/\e= .returned (.tuple #[v,.agg #[iV er,iV p]]))\/
  ∃N T l2 of,Okd l N T l2 of/\∃w0 pb lb mb qb nv yv mn fv Z ofs,Below w.heap.size w w0/\w.heap.size<=pb/\w.heap.size<=lb/\w.heap.size<=mb/\Cbs w0 (M.cxP N T l2) pb lb mb qb nv fv/\
   e= .returned (.tuple #[pV pb,.agg #[iV 0,iV 0]])/\Z.length<=3 * N.length/\OfR (tl (M.cxP N T l2) Z) ofs of/\Cst w0 w' (M.cxP N T l2) pb lb mb qb nv yv mn fv Z ofs/\mn=(N.length:Int) - 1)
theorem Z1a(s:ByteArray)(w:World)(hs:s.size<=maxLen):Calls prog 7 #[.string s] w (RdC s.data.toList w):=by
 have HNM:=A0 (λw1=>B6c s w1 hs);have HPA:=A0 (λw1=>Z4a s w1 hs);have hb0:=nW w (fB);clear hs;have bad:∀(w1:World) (er p:Int),er≠0->Below (w.alloc (fB)).heap.size (w.alloc (fB)) w1->w1.heap[w.heap.size]? =some (fB)/\Below w.heap.size w w1:=λw1 er p _ hbel=>
  ⟨by rw[hbel.block _ (by simp)];exact hb0,(Chg.toBelow (Chg.alloc No w _) (λ_ _ x=>x.elim) (vQ _)).trans (hbel.mono (by simp))⟩
 have HBAD:=A0 bad;clear hb0 bad;go_enter func7,ntmps7;go_wp2_with fail
 refine(HNM.out _).mono ?_;clear HNM;rintro e w1 ⟨hbel,hq⟩;have hsplit:(∃er p,(er≠0/\FtO s.data.toList er p)/\e= .returned (.tuple #[sN,.agg #[iV er,iV p]]))\/∃N T ps fs l2 ad c,M.PRes s.data.toList (.inr (N,T))/\M.Prgm N T ps/\M.bnP ps= .ok fs l2/\e= .returned (.tuple #[.slice ad (Q6 (M.upd (List.replicate N.length (-1)) l2) N.length).length c,.agg #[iV 0,iV 0]])/\w1.ownsRow (w.alloc (fB)).heap.size 60 2 (.slice ad (Q6 (M.upd (List.replicate N.length (-1)) l2) N.length).length c) (Q6 (M.upd (List.replicate N.length (-1)) l2) N.length).length (J5 (Q6 (M.upd (List.replicate N.length (-1)) l2) N.length)):=by
  rcases hq with ⟨er,p,h1,h0,h2⟩|⟨N,T,ps,h1,h2,h3⟩
  · exact .inl ⟨er,p,⟨h1,h1,.inl h0⟩,h2⟩
  · cases hb:M.bnP ps with
    |bad er i=>rw[hb]at h3;exact .inl ⟨er,_,⟨h3.1,h3.1,.inr ⟨N,T,ps,h1,h2,.inl ⟨i,hb,rfl⟩⟩⟩,h3.2⟩
    |ok fs l2=>
     rw[hb]at h3;obtain⟨ad,c,h4,h5⟩:=h3;exact .inr ⟨N,T,ps,fs,l2,ad,c,h1,h2,hb,h4,h5⟩
 clear hq;rcases hsplit with ⟨er,p,⟨hr,hft⟩,rfl⟩|⟨N,T,ps,fs,l2,ad,c,hr,hP,hbn,rfl,hown⟩
 · obtain⟨f0,hbw⟩:=HBAD.out w1 er p hr hbel;have g0:w1.cell? (aD w.heap.size 0)=some (iV 0):=cr f0 rfl;have g1:w1.cell? (aD w.heap.size 1)=some (iV 0):=cr f0 rfl;have gz:∀o,w1.frozen? (aD w.heap.size o)=false:=λo=>frozen_of_row w1 _ o _ _ f0;have gl:=(ltG f0);have her:(er !=0)=true:=by simp[hr]
   have HBW:=A0 hbw;have HER:=A0 hft;clear hbel f0 hbw HBAD hr hft HPA;go_wp2_with fail
   go_region
   all_goals go_wp2_with fail
   all_goals
    have hcS:Chg (λk=>k=w.heap.size) w1 ((w1.setCell (aD w.heap.size 0) (iV er)).setCell (aD w.heap.size 1) (iV p)):=Chg.trans (Chg.set w1 (aD w.heap.size 0) _) (Chg.set _ (aD w.heap.size 1) _) (λ_ _ x=>x);have hR:RdC s.data.toList w (.returned (.tuple #[.pointer none,.agg #[iV er,iV p]])) _:=⟨HBW.out.trans (Chg.toBelow (Chg.trans hcS (B9 (Chg.alloc No _ (.cells #[iV er,iV p] 26)) (Chg.drewN No _ 1)) (λ_ _ x=>x.elim)) (λk _ e=>by omega) HBW.out.size),.inl ⟨er,p,_,HER.out,rfl⟩⟩;exact bodyPost_ret (v:= .tuple #[.pointer none,.agg #[iV er,iV p]]) (by simp[results,results7,go_sem,g0,g1,gl]) rfl hR
 · obtain⟨f0,hbw⟩:=HBAD.out w1 1 0 (by decide) hbel;have HF0:=A0 f0;have HBW:=A0 hbw;have HRR:=A0 hr;have HPP:=A0 hP;have HBN:=A0 hbn;have HOW:=A0 hown;have gl:=(ltG f0);clear hbel f0 hbw HBAD hr hP hbn hown;obtain⟨BN,hBN⟩:∃BN,Q6 (M.upd (List.replicate N.length (-1)) l2) N.length=BN:=⟨_,rfl⟩;have HRG:Hid (∀p∈BN,(0<=p.1/\p.1<=1000000)/\(0<=p.2/\p.2<=1000000)):=by
    rw[<-hBN];exact A3d HPP.out HBN.out
   have HBS:Hid (BN.length<=1200):=by
    have h1:=V7a (M.upd (List.replicate N.length (-1)) l2) N.length;have h2:=HPP.out.lenN;show BN.length<=1200;rw[<-hBN];omega
   rw[hBN]at HOW⊢;have HBNE:=A0 hBN;clear hBN;obtain⟨bl,hbl⟩:∃bl,BN.length=bl:=⟨_,rfl⟩;rw[hbl]at HBS HOW⊢;have HBLN:=A0 hbl;clear hbl;go_wp2_with fail
   refine(HPA.out _).mono ?_;clear HPA;rintro e w2 ⟨hb2,⟨er,p,h1,_⟩|⟨N',T',na,nc,ya,yc,h1,rfl,hno,hto⟩⟩
   · exact absurd (h1.one HRR.out) (by simp)
   · have e1:=h1.one HRR.out;simp only[Sum.inr.injEq,Prod.mk.injEq]at e1;obtain⟨rfl,rfl⟩:=e1;have HB2:=A0 hb2;have HNO:=A0 hno;have HTO:=A0 hto;clear h1 hb2 hno hto;have hmm:=@run_makeMap prog;have p3:=nW w2 (.cells #[sL na N'.length nc,sL ya T'.length yc,iV ((N'.length:Int) - 1)] 41);have p4:((w2.alloc (.cells #[sL na N'.length nc,sL ya T'.length yc,iV ((N'.length:Int) - 1)] 41)).alloc (fB)).heap[w2.heap.size]? =some (.cells #[sL na N'.length nc,sL ya T'.length yc,iV ((N'.length:Int) - 1)] 41 (0,0)):=by
      rw[Below.heap_alloc _ _ _ (by simp)];exact p3
     have C3:=A0 (B9 (Chg.alloc No w2 (.cells #[sL na N'.length nc,sL ya T'.length yc,iV ((N'.length:Int) - 1)] 41)) (Chg.alloc No _ (fB)));go_wp2_with fail
     generalize (w2.alloc (.cells #[sL na N'.length nc,sL ya T'.length yc,iV ((N'.length:Int) - 1)] 41)).alloc (fB)=W3 at *;have r0:W3.cell? (aD w2.heap.size 0)=some (sL na N'.length nc):=cr p4 rfl;have r1:W3.cell? (aD w2.heap.size 1)=some (sL ya T'.length yc):=cr p4 rfl;have r2:W3.cell? (aD w2.heap.size 2)=some (iV ((N'.length:Int) - 1)):=cr p4 rfl;have hl3:=(ltG p4);have HNW:Hid (∀u,Chg No W3 u->Calls prog 14 #[] u λe w'=>∃lb mb:Nat,e= .returned (pV lb)/\W3.heap.size<=mb/\W3.heap.size<=lb/\u.heap.size<=mb/\mb<w'.heap.size/\Hid (Chg No u w')/\Hid (Shp w' lb mb 4000 [] (.map []))/\w'.cell? (aD lb 0)=some (sN)/\w'.cell? (aD w2.heap.size 0)=some (sL na N'.length nc)/\w'.cell? (aD w2.heap.size 1)=some (sL ya T'.length yc)/\w'.cell? (aD w2.heap.size 2)=some (iV ((N'.length:Int) - 1))/\w2.heap.size<w'.heap.size):=λu hu=>by
      refine(X3c u).mono ?_;rintro e w' ⟨rfl,hc,hs,hl⟩;have h1:=hu.size;have h2:=blt hl;simp only at h2;have hcc:=B9 hu hc;exact⟨_,_,rfl,h1,by omega,vQ _,by omega,hc,hs,hl,A8 hcc r0,A8 hcc r1,A8 hcc r2,by have:=hcc.size;omega⟩
     have N3:Hid (Nrow W3 (sL na N'.length nc) N'):=HNO.out.row.keep C3.out (λ_ _ _ _ _ _ x=>x);have T3:Hid (Tyr W3 (sL ya T'.length yc) T'):=HTO.out.row.keep C3.out (λ_ _ _ _ _ _ x=>x);have C13:Chg No w1 W3:=B9 (B9 (Chg.alloc No w1 _) ((Chg.below HB2.out).mono (λ_ hi x=>by omega))) C3.out;have F3:Hid (W3.heap[w.heap.size]? =some (fB)):=D6 C13 HF0.out;have B3:Hid (Below w.heap.size w W3):=HBW.out.trans (Chg.toBelow C13 (λ_ _ x=>x.elim) HBW.out.size);have O3:Hid (W3.ownsRow 0 60 2 (sL ad bl c) bl (J5 BN)):=A3 (C7 HOW.out (wQ _)) C13 (λ_ _ x=>x);clear C13;clear p3 p4;go_cut [8] (λv8 wc=>∃pb lb mb qb:Nat,v8=pV pb/\Hid (Chg No W3 wc/\wc.heap[pb]? =some (.cells #[sL na N'.length nc,sL ya T'.length yc,iV ((N'.length:Int) - 1),pV lb,.map (some qb),sN,sN,iV 0,iV 0,iV 0,iV 0,iV 0,iV 0] 46 (0,0))/\Shp wc lb mb 4000 [] (.map [])/\wc.cell? (aD lb 0)=some (sN)/\ImM wc qb 0 (λ_=>none)/\W3.heap.size<=pb/\W3.heap.size<=lb/\W3.heap.size<=mb/\W3.heap.size<=qb/\qb≠mb))
     case first=>
      go_region_with (go_at_call 14;first
       |(refine(HNW.out _ (Chg.drewN _ _ 1)).mono ?_;rintro e w4 ⟨lb,mb,rfl,hb1,hb1',hb2,hb3,HC4,HS4,l4,x0,x1,x2,hl4⟩)
       |(refine(HNW.out _ (B9 (Chg.drewN No W3 1) (Chg.alloc No W3.drew (.map #[] 0)))).mono ?_;rintro e w4 ⟨lb,mb,rfl,hb1,hb1',hb2,hb3,HC4,HS4,l4,x0,x1,x2,hl4⟩))
      all_goals go_wp2_with fail
      all_goals go_meet
      all_goals first
       |exact⟨w4.heap.size+1,lb,mb,w4.heap.size,rfl,B9 (B9 (Chg.drewN No W3 1) HC4.out) (B9 (Chg.alloc No w4 (.map #[] 0)) (Chg.alloc No _ _)),by have:=nW (w4.alloc (.map #[] 0)) (.cells #[sL na N'.length nc,sL ya T'.length yc,iV ((N'.length:Int) - 1),pV lb,.map (some w4.heap.size),sN,sN,iV 0,iV 0,iV 0,iV 0,iV 0,iV 0] 46);simpa using this,HS4.out.still (B9 (Chg.alloc No w4 (.map #[] 0)) (Chg.alloc No _ _)),A8 (B9 (Chg.alloc No w4 (.map #[] 0)) (Chg.alloc No _ _)) l4,(ImM.new w4).chg (Chg.alloc No _ _) (λx=>x),by omega,by omega,by omega,by omega,by omega⟩
       |exact⟨w4.heap.size,lb,mb,W3.heap.size,rfl,B9 (B9 (B9 (Chg.drewN No W3 1) (Chg.alloc No W3.drew (.map #[] 0))) HC4.out) (Chg.alloc No _ _),nW w4 _,HS4.out.still (Chg.alloc No _ _),A8 (Chg.alloc No _ _) l4,((ImM.new W3.drew).chg HC4.out (λx=>x)).chg (Chg.alloc No _ _) (λx=>x),by omega,by omega,by omega,vQ _,by have h:=hb2;simp only[World.size_alloc]at h;have h2:W3.drew.heap.size=W3.heap.size:=rfl;omega⟩
     case rest=>
      obtain⟨pb,lb,mb,qb,rfl,HCUT⟩:=hcut;obtain⟨k1,k2,k3,k4,k5,k6,k7,k8,k9,k10⟩:=HCUT.out;have HRB:Hid (Rdb wc N' pb lb mb qb (sL na N'.length nc) #[sL na N'.length nc,sL ya T'.length yc,iV ((N'.length:Int) - 1),pV lb,.map (some qb),sN,sN,iV 0,iV 0,iV 0,iV 0,iV 0,iV 0] [] 0 (λ_=>none)):=⟨N3.out.keep k1 (λ_ _ _ _ _ _ x=>x),k2,k3.sho,k5,k10⟩;have HTY:Hid (Tyr wc (sL ya T'.length yc) T'):=T3.out.keep k1 (λ_ _ _ _ _ _ x=>x);have HF:Hid (wc.heap[w.heap.size]? =some (fB)):=D6 k1 F3.out;have HBL:Hid (Below w.heap.size w wc/\w.heap.size<=pb/\w.heap.size<=lb/\w.heap.size<=mb/\w.heap.size<=qb):=by
       have:=B3.out.size;exact⟨B3.out.trans (Chg.toBelow k1 (λ_ _ x=>x.elim) (by omega)),by omega,by omega,by omega,by omega⟩
      have HOB:Hid (wc.ownsRow 0 60 2 (sL ad bl c) bl (J5 BN)):=A3 O3.out k1 (λ_ _ x=>x);have HL0:=A0 k4;have z4:wc.cell? (aD pb 4)=some (.map (some qb)):=cr k2 rfl;have lpb:=blt z4;simp only at lpb;have HZ4:=A0 z4;have lw:=(ltG HF.out);clear HCUT k1 k2 k3 k4 k5 k6 k7 k8 k9 k10 N3 T3 F3 B3 O3 HNW C3 HB2 HNO HTO r0 r1 r2 hl3 HF0 HBW HOW gl z4;go_wp2_with fail
      go_loopw [33] (λv wr=>∃j:Nat,j<=bl/\v=iV (j:Int)/\Hid (Chg (λk=>k=qb) wc wr/\ImM wr qb j (asg (BN.take j)))) (λv _=>bl - (intOf v).toNat)
      case atStart=>exact⟨0,wQ _,rfl,Chg.refl _ _,HRB.out.names⟩
      case round=>
       obtain⟨j,hj,rfl,HJ⟩:=hrel;have ncl:∀{q:Nat} {cs:Array Value} {e:TypeId} {fz:Nat×Nat},wc.heap[q]? =some (.cells cs e fz)->wr.heap[q]? =some (.cells cs e fz):=λ{q cs e fz} hq=>by
        rw[HJ.out.1.block q (ltG hq) (λx=>by subst x;exact HRB.out.names.notcells hq)];exact hq
       have y4:wr.cell? (aD pb 4)=some (.map (some qb)):=by rw[World.cell?_of_block ((ncl HRB.out.blk).trans HRB.out.blk.symm)];exact HZ4.out
       have lpr:=blt y4;simp only at lpr;by_cases hjl:j<bl
       · have hjB:j<BN.length:=by have:=HBLN.out;omega
         obtain⟨g2,hla,-,hg2,hc1,hc2,hcell⟩:=D8 (A3 HOB.out HJ.out.1 (λg hg x=>by
          obtain⟨_,cur,hh⟩:=A9 HOB.out g hg;subst x;exact HRB.out.names.notcells hh)) (by omega)
         have v0:=hcell (j * 2) _ (U4 BN j hjB).1;have v1:=hcell (j * 2+1) _ (U4 BN j hjB).2;subst hla;have rg:=HRG.out BN[j] (mQ hjB);have HAS:Hid (asg (BN.take (j+1))=λx=>if x=BN[j].1 then some BN[j].2 else asg (BN.take j) x):=by
          show _=_;rw[nQ hjB,L4a]
         obtain⟨⟨x,y⟩,hxy⟩:∃p,BN[j]=p:=⟨_,rfl⟩;rw[hxy]at v0 v1 rg HAS;simp only at v0 v1 rg HAS;unfold maxLen at hc2;obtain⟨w5,hrun,him,hc5⟩:=((HJ.out.2).chg (B9 (Chg.alloc No wr (.cells #[iV x,iV y] 60)) (Chg.drewN No _ 1)) (λx=>x)).put x y rg.1 (by have:=HBS.out;omega) rg.2;have hrun':(Instr.mapUpdate 35 (.map (some qb)) (iV x) (iV y)).run prog (wr.alloc (.cells #[iV x,iV y] 60)).drew= .ok () w5:=hrun;have HIM:=A0 him;have HC5:Hid (Chg (λk=>k=qb) wc w5):=HJ.out.1.trans (((B9 (Chg.alloc No wr (.cells #[iV x,iV y] 60)) (Chg.drewN No _ 1)).mono (S':=λk=>k=qb) (λ_ _ x=>x.elim)).trans hc5 (λ_ _ x=>x)) (λ_ _ x=>x);clear hcell hxy him hc5 ncl hrun;go_wp2_with fail
         go_region
         all_goals go_wp2_with fail
         all_goals go_roundw
         all_goals first
          |exact⟨j+1,by omega,by go_num,HC5.out,(show ImM _ _ _ _ from by rw[HAS.out];exact HIM.out)⟩
          |(simp[intOf];omega)
       · have hje:j=bl:=by omega
         subst hje;have HRW:Hid (Rdb wr N' pb lb mb qb (sL na N'.length nc) #[sL na N'.length nc,sL ya T'.length yc,iV ((N'.length:Int) - 1),pV lb,.map (some qb),sN,sN,iV 0,iV 0,iV 0,iV 0,iV 0,iV 0] [] j (asg BN)):=HRB.out.put HJ.out.1 (by
          have:=HJ.out.2;rw[List.take_of_length_le (by rw[HBLN.out];exact vQ _)]at this;exact this)
         have HTW:Hid (Tyr wr (sL ya T'.length yc) T'):=HTY.out.keep HJ.out.1 (λq cs e fz hq _ x=>by subst x;exact HRB.out.names.notcells hq);have HFW:Hid (wr.heap[w.heap.size]? =some (fB)):=ncl HF.out;have HBW2:Hid (Below w.heap.size w wr/\w.heap.size<=pb/\w.heap.size<=lb/\w.heap.size<=mb):=by
          obtain⟨b1,b2,b3,b4,b5⟩:=HBL.out;exact⟨b1.trans (Chg.toBelow HJ.out.1 (λk _ x=>by omega) b1.size),b2,b3,b4⟩
         have HLW:Hid (wr.cell? (aD lb 0)=some (sN)):=by
          obtain⟨y0,yx,hlb,_⟩:=HRB.out.sho.blk;exact(World.cell?_of_block ((ncl hlb).trans hlb.symm)).trans HL0.out
         have HFN:=A0 (O8a (T:=T') HPP.out.flat (M.A4b HPP.out HBN.out HPP.out.tx).ls (by have:=HPP.out.n;omega) HPP.out.lenN wr _ HRW.out.nodes);have c0:wr.cell? (aD pb 0)=some (sL na N'.length nc):=cr HRW.out.blk rfl;clear HRB HTY HF HBL HL0 HZ4 HOB HJ ncl y4 HRG HBLN;go_wp2_with fail
         refine HFN.out.mono ?_;clear HFN;rintro e w6 ⟨fv,rfl,hc6,ho6⟩;obtain⟨fa,fc,rfl⟩:=B7 ho6;have HR6:=A0 (HRW.out.still hc6);have HT6:Hid (Tyr w6 (sL ya T'.length yc) T'):=HTW.out.keep hc6 (λ_ _ _ _ _ _ x=>x);have HF6:=A0 (D6 hc6 HFW.out);have HB6:Hid (Below w.heap.size w w6/\w.heap.size<=pb/\w.heap.size<=lb/\w.heap.size<=mb):=⟨HBW2.out.1.trans (Chg.toBelow hc6 (λ_ _ x=>x.elim) HBW2.out.1.size),HBW2.out.2⟩;have HL6:=A0 (A8 hc6 HLW.out);have HO6:=A0 (C7 ho6 (wQ _));have c5:w6.cell? (aD pb 5)=some (sN):=cr HR6.out.blk rfl;have z5:w6.frozen? (aD pb 5)=false:=frozen_of_row w6 _ 5 _ _ HR6.out.blk;have l5:=blt c5;simp only at l5;clear hc6 ho6 HRW HTW HFW HBW2 HLW c0;go_wp2_with fail
         have b7:(w6.setCell (aD pb 5) (sL fa N'.length fc)).heap[pb]? =some (.cells (W7a T'.length (sL na N'.length nc) (sL ya T'.length yc) ((N'.length:Int) - 1) lb qb (sL fa N'.length fc) 0) 46 (0,0)):=heap_setCell_same w6 pb 5 _ _ (sL fa N'.length fc) HR6.out.blk;have hc7:Chg (λx=>x=pb) w6 (w6.setCell (aD pb 5) (sL fa N'.length fc)):=Chg.set w6 (aD pb 5) _;have HR7:=A0 (HR6.out.store hc7 b7);have HT7:Hid (Tyr (w6.setCell (aD pb 5) (sL fa N'.length fc)) (sL ya T'.length yc) T'):=HT6.out.keep hc7 (λq cs e fz hq he=>HR6.out.not q cs e fz hq (by rcases he with rfl|rfl|rfl<;>decide));have HF7:Hid ((w6.setCell (aD pb 5) (sL fa N'.length fc)).heap[w.heap.size]? =some (fB)):=by
          show _=_;rw[hc7.block _ (ltG HF6.out) (HR6.out.not _ _ _ _ HF6.out (by decide))];exact HF6.out
         have HB7:Hid (Below w.heap.size w (w6.setCell (aD pb 5) (sL fa N'.length fc))/\w.heap.size<=pb/\w.heap.size<=lb/\w.heap.size<=mb):=⟨HB6.out.1.trans (Chg.toBelow hc7 (λk _ x=>by have:=HB6.out.2.1;omega) HB6.out.1.size),HB6.out.2⟩;have HO7:Hid ((w6.setCell (aD pb 5) (sL fa N'.length fc)).ownsRow 0 3 1 (sL fa N'.length fc) N'.length (B8 (M.fnP N'))):=A3 HO6.out hc7 (λg hg x=>by
          obtain⟨_,cur,hh⟩:=A9 HO6.out g hg;exact HR6.out.not _ _ _ _ hh (by decide) x)
         have HL7:Hid ((w6.setCell (aD pb 5) (sL fa N'.length fc)).cell? (aD lb 0)=some (sN)):=by
          obtain⟨y0,yx,hlb,_⟩:=HR6.out.sho.blk;exact(World.cell?_of_block (hc7.block lb (ltG hlb) (HR6.out.not _ _ _ _ hlb (by decide)))).trans HL6.out
         clear hc7 b7 HR6 HT6 HF6 HB6 HO6 HL6 c5 z5 l5;generalize w6.setCell (aD pb 5) (sL fa N'.length fc)=W7 at *;have d1:W7.cell? (aD pb 1)=some (sL ya T'.length yc):=cr HR7.out.blk rfl;have d3:W7.cell? (aD pb 3)=some (pV lb):=cr HR7.out.blk rfl;have l7:=blt d1;simp only at l7;have HAD:Hid (∀u,Chg No W7 u->Calls prog 16 #[pV lb,sL ya T'.length yc] u λe w'=>∃v,e= .returned (iV v)/\Hid (Rdb w' N' pb lb mb qb (sL na N'.length nc) (W7a T'.length (sL na N'.length nc) (sL ya T'.length yc) ((N'.length:Int) - 1) lb qb (sL fa N'.length fc) 0) (T'++I3.take 0) j (asg BN)/\w'.heap[w.heap.size]? =some (fB)/\Below w.heap.size w w'/\w'.ownsRow 0 3 1 (sL fa N'.length fc) N'.length (B8 (M.fnP N')))):=λu hu=>by
          obtain⟨yx,hy,hyr⟩:=HT7.out.keep hu (λ_ _ _ _ _ _ x=>x);have hRu:=HR7.out.still hu;have hlu:=A8 hu HL7.out;refine(N1c u hRu.sho (λ_ _=>trivial) T' ya yc yx hy hyr HPP.out.ok (λt ht=> ?_) (by have:=HPP.out.lenT;simp;omega) _ hlu (λg hg=>by simp[Value.ownBlock]at hg)).mono ?_
          · obtain⟨n,hn,rfl⟩:=List.mem_iff_getElem.1 ht;have h1:=HPP.out.ls n hn;refine⟨by omega,by omega, ?_⟩;exact HPP.out.of _ (mQ hn)
          · rintro e w' ⟨rfl,hc,hs,_⟩;rw[M5b]at hs;obtain⟨h1,h2,h3⟩:=hRu.grow (S':=T'++I3.take 0) hlu hc (by simpa using hs);refine⟨_,rfl,h1,h2 _ _ _ _ (D6 hu HF7.out) (by decide) (by decide), ?_, ?_⟩
            · have h4:=HB7.out;exact(h4.1.trans (Chg.toBelow hu (λ_ _ x=>x.elim) h4.1.size)).trans (Chg.toBelow h3 (λk _ x=>by omega) (kQ h4.1.size hu.size))
            · have h5:=A3 HO7.out hu (λ_ _ x=>x);refine⟨h5.1, ?_⟩;rcases h5.2 with g2|⟨g,cap,cur,e1,e2,e3,r⟩
              · exact .inl g2
              · exact .inr ⟨g,cap,cur,e1,e2,h2 _ _ _ _ e3 (by decide) (by decide),r⟩
         go_cut [] (λw8=>Hid (Rdb w8 N' pb lb mb qb (sL na N'.length nc) (W7a T'.length (sL na N'.length nc) (sL ya T'.length yc) ((N'.length:Int) - 1) lb qb (sL fa N'.length fc) 0) (T'++I3.take 0) j (asg BN)/\w8.heap[w.heap.size]? =some (fB)/\Below w.heap.size w w8/\w8.ownsRow 0 3 1 (sL fa N'.length fc) N'.length (B8 (M.fnP N'))))
         case first=>
          go_region_with (go_at_call 16;refine(HAD.out _ (Chg.drewN _ _ 1)).mono ?_;rintro e w8 ⟨v,rfl,H8⟩)
          all_goals go_wp2_with fail
          all_goals go_meet
          all_goals exact H8
         case rest=>
          clear HAD HR7 HT7 HF7 HO7 HL7 d1 d3 l7;go_wp2_with fail
          go_loopw [11] (λv wr=>∃i:Nat,i<=5/\v=iV ((i:Int)+1)/\Hid (Rdb wr N' pb lb mb qb (sL na N'.length nc) (W7a T'.length (sL na N'.length nc) (sL ya T'.length yc) ((N'.length:Int) - 1) lb qb (sL fa N'.length fc) i) (T'++I3.take i) j (asg BN)/\wr.heap[w.heap.size]? =some (fB)/\Below w.heap.size w wr/\wr.ownsRow 0 3 1 (sL fa N'.length fc) N'.length (B8 (M.fnP N')))) (λv _=>6 - (intOf v).toNat)
          case atStart=>exact⟨0,by omega,rfl,hcut⟩
          case round=>
           clear hcut;obtain⟨i,hi,rfl,HI⟩:=hrel;by_cases hi5:i<5
           · have d3:wr.cell? (aD pb 3)=some (pV lb):=cr HI.out.1.blk rfl;have l7:=blt d3;simp only at l7;have HPU:Hid (∀u,Chg No wr u->Calls prog 17 #[pV lb,.agg #[iV ((i:Int)+1),sN,sN,iV 0]] u λe w'=>e= .returned (iV ((T'.length+i:Nat):Int))/\Hid (Rdb w' N' pb lb mb qb (sL na N'.length nc) (W7a T'.length (sL na N'.length nc) (sL ya T'.length yc) ((N'.length:Int) - 1) lb qb (sL fa N'.length fc) i) (T'++I3.take (i+1)) j (asg BN)/\w'.heap[w.heap.size]? =some (fB)/\Below w.heap.size w w'/\w'.ownsRow 0 3 1 (sL fa N'.length fc) N'.length (B8 (M.fnP N')))):=λu hu=>by
              have hRu:=HI.out.1.still hu;have hlT:=HPP.out.lenT;have hll:(T'++I3.take i).length=T'.length+i:=by rw[qQ,List.length_take];simp[I3];omega
              refine(Q5a (t:=⟨(i:Int)+1,[],[],0⟩) u hRu.sho none none 0 0 0 0 ⟨_,_,rfl,kW _ _ _ _,kW _ _ _ _,λg hg=>trivial,λg hg=>trivial⟩ (.inl ⟨by simp;omega,by simp;omega,rfl,rfl⟩) (by rw[hll];omega)).mono ?_;rintro e w' ⟨rfl,⟨v,hv,hc⟩,hs⟩;have e2:T'++I3.take i++[⟨(i:Int)+1,[],[],0⟩]=T'++I3.take (i+1):=by
               rw[B0c hi5,<-List.append_assoc];rfl
              rw[e2]at hs;obtain⟨h1,h2,h3⟩:=hRu.grow hv hc hs;refine⟨by rw[hll],h1,h2 _ _ _ _ (D6 hu HI.out.2.1) (by decide) (by decide), ?_, ?_⟩
              · have h4:=HI.out.2.2.1;have h5:=HB7.out.2;exact(h4.trans (Chg.toBelow hu (λ_ _ x=>x.elim) h4.size)).trans (Chg.toBelow h3 (λk _ x=>by omega) (kQ h4.size hu.size))
              · have h5:=A3 HI.out.2.2.2 hu (λ_ _ x=>x);refine⟨h5.1, ?_⟩;rcases h5.2 with g2|⟨g,cap,cur,e1,e2,e3,r⟩
                · exact .inl g2
                · exact .inr ⟨g,cap,cur,e1,e2,h2 _ _ _ _ e3 (by decide) (by decide),r⟩
             go_wp2_with fail
             go_region_with (go_at_call 17;refine(HPU.out _ (Chg.drewN _ _ 1)).mono ?_;rintro e w8 ⟨rfl,H8⟩;have y8:w8.cell? (aD pb (7+(i+1)))=some (iV 0):=(by rw[cell_of_row _ _ (7+(i+1)) _ _ _ H8.out.1.blk];have:i=0\/i=1\/i=2\/i=3\/i=4:=(by omega);rcases this with rfl|rfl|rfl|rfl|rfl<;>rfl);have z8:∀o,w8.frozen? (aD pb o)=false:=(λo=>frozen_of_row w8 pb o _ _ H8.out.1.blk);have l8:=blt y8;simp only at l8)
             all_goals go_wp2_with fail
             all_goals
              have hcS:Chg (λx=>x=pb) w8 (w8.setCell (aD pb (7+(i+1))) (iV ((T'.length:Int)+(i:Int)))):=Chg.set w8 (aD pb (7+(i+1))) _;have b9:(w8.setCell (aD pb (7+(i+1))) (iV ((T'.length:Int)+(i:Int)))).heap[pb]? =some (.cells (W7a T'.length (sL na N'.length nc) (sL ya T'.length yc) ((N'.length:Int) - 1) lb qb (sL fa N'.length fc) (i+1)) 46 (0,0)):=by
               have h:=heap_setCell_same w8 pb (7+(i+1)) _ _ (iV ((T'.length:Int)+(i:Int))) H8.out.1.blk;have e:=J2c T'.length (sL na N'.length nc) (sL ya T'.length yc) ((N'.length:Int) - 1) lb qb (sL fa N'.length fc) hi5;rw[Int.natCast_add]at e;rw[h,e]
              have h8:=HB7.out.2;have H9:=A0 (And.intro (H8.out.1.store hcS b9) (And.intro (show (w8.setCell (aD pb (7+(i+1))) (iV ((T'.length:Int)+(i:Int)))).heap[w.heap.size]? =some (fB) by rw[hcS.block _ (ltG H8.out.2.1) (H8.out.1.not _ _ _ _ H8.out.2.1 (by decide))];exact H8.out.2.1) (And.intro (H8.out.2.2.1.trans (Chg.toBelow hcS (λk _ x=>by omega) H8.out.2.2.1.size)) (A3 H8.out.2.2.2 hcS (λg hg x=>by obtain⟨_,cur,hh⟩:=A9 H8.out.2.2.2 g hg;exact H8.out.1.not _ _ _ _ hh (by decide) x)))));clear hcS b9 h8;go_roundw
              case rel=>exact⟨i+1,by omega,by go_num,H9⟩
              case measure=>simp[intOf];omega
           · have hi6:i=5:=by omega
             subst hi6;have hfin:=E1d HPP.out HBN.out (by rw[HBNE.out];exact HI.out.1) (by have:=HBS.out;omega) HI.out.2.2.2;have HFC:=A0 (L0b hfin.1 hfin.2);have HCB:=A0 hfin.1;have hmf:=mkf;have l7:=(ltG HI.out.1.blk);clear hfin;go_wp2_with fail
             refine HFC.out.mono ?_;clear HFC;rintro e w9 ⟨hk,hsw,hr⟩;have f9:=hk.2 _ _ _ _ HI.out.2.1 (by decide) (by decide) (by decide) (by decide);have g0:w9.cell? (aD w.heap.size 0)=some (iV 0):=cr f9 rfl;have g1:w9.cell? (aD w.heap.size 1)=some (iV 0):=cr f9 rfl;have gz:∀o,w9.frozen? (aD w.heap.size o)=false:=λo=>frozen_of_row w9 _ o _ _ f9;have gl9:=(ltG f9);have h8:=HB7.out.2;have HBE:Hid (Below w.heap.size w w9/\w.heap.size<=w9.heap.size):=⟨S1a hsw HI.out.2.2.1 HI.out.2.2.1.size h8.1 h8.2.1 h8.2.2,(S1a hsw HI.out.2.2.1 HI.out.2.2.1.size h8.1 h8.2.1 h8.2.2).size⟩;cases hck:M.ckP (M.cxP N' T' l2) with
             |inl p=>
              obtain⟨er,n⟩:=p;rw[hck]at hr;have e0:e= .returned (.agg #[iV er,iV (atI N' n)]):=hr;subst e0;have HFT:Hid (FtO s.data.toList er (atI N' n)):=⟨H7d hck,.inr ⟨N',T',ps,HRR.out,HPP.out,.inr ⟨fs,l2,n,HBN.out,hck,rfl⟩⟩⟩;clear hk hsw hr hck f9 h8 HI HB7;generalize atI N' n=pa at *;have hcS:Chg (λk=>k=w.heap.size) w9 ((w9.setCell (aD w.heap.size 0) (iV er)).setCell (aD w.heap.size 1) (iV pa)):=Chg.trans (Chg.set w9 (aD w.heap.size 0) _) (Chg.set _ (aD w.heap.size 1) _) (λ_ _ x=>x);have HRT:Hid (RdC s.data.toList w (.returned (.tuple #[pV pb,.agg #[iV er,iV pa]])) ((w9.setCell (aD w.heap.size 0) (iV er)).setCell (aD w.heap.size 1) (iV pa))):=⟨HBE.out.1.trans (Chg.toBelow hcS (λk _ x=>by omega) HBE.out.2),.inl ⟨er,pa,_,HFT.out,rfl⟩⟩;clear hcS;go_wp2_with fail
              exact bodyPost_ret (v:= .tuple #[pV pb,.agg #[iV er,iV pa]]) (by simp[results,results7,go_sem,g0,g1]) rfl HRT.out
             |inr of=>
              rw[hck]at hr;obtain⟨e0,Z,ofs,hZ,hR,hC⟩:=hr;subst e0;have hcZ:=V2a f9;have HRT:Hid (RdC s.data.toList w (.returned (.tuple #[pV pb,.agg #[iV 0,iV 0]])) ((w9.setCell (aD w.heap.size 0) (iV 0)).setCell (aD w.heap.size 1) (iV 0))):=⟨HBE.out.1.trans (Chg.toBelow hcZ (λ_ _ x=>x.elim) HBE.out.2),.inr ⟨N',T',l2,of,⟨ps,fs,HRR.out,HPP.out,HBN.out,hck⟩,wr,pb,lb,mb,qb,_,_,_,_,Z,ofs,HI.out.2.2.1,h8.1,h8.2.1,h8.2.2,HCB.out,rfl,hZ,hR,hC.still hcZ,rfl⟩⟩;clear hk hsw hZ hR hC hck f9 h8 HI HB7 hcZ HCB;go_wp2_with fail
              exact bodyPost_ret (v:= .tuple #[pV pb,.agg #[iV 0,iV 0]]) (by simp[results,results7,go_sem,g0,g1]) rfl HRT.out
section
variable{w0 w:World}{c:M.Cx}{pb lb mb qb:Nat}{nv yv fv:Value}{mn:Int}{Z:List M.Ty}{ofs:List Int}{of:M.Of}{xb gb m:Nat}{g:M.Gm}
theorem Cst.othm{w':World}(h:Cst w0 w c pb lb mb qb nv yv mn fv Z ofs){q:Nat}(hc:Chg (λk=>k=q) w w')(hq:∀cs e fz,w.heap[q]? ≠some (.cells cs e fz))(hne:q≠mb)(hlow:w0.heap.size<=q):Cst w0 w' c pb lb mb qb nv yv mn fv Z ofs:=by
 obtain⟨h1,⟨ov,D,hb,hr,hs⟩,hf⟩:=h;have ne:∀{k:Nat} {cs':Array Value} {e':TypeId} {fz':Nat×Nat},w.heap[k]? =some (.cells cs' e' fz')->k≠q:=λhk hkq=>by
  subst hkq;exact hq _ _ _ hk
 refine⟨h1.trans hc (λk hk x=>by have x':k=q:=x;omega),⟨ov,D, ?_,A3 hr hc (λg hg x=> ?_),hs.chg hc (hs.mst.chg hc (λx=> ?_)) ?_ (λ_ x _=>x)⟩,hf⟩
 · rw[hc.block pb (ltG hb) (ne hb)];exact hb
 · obtain⟨_,cur,hh⟩:=A9 hr g hg;exact ne hh x
 · exact hne x.symm
 · rintro k cur e' hk he' hx;exact ne hk hx
structure Pcr(w0 w:World)(c:M.Cx)(pb lb mb qb:Nat)(nv yv:Value)(mn:Int)(fv:Value)(Z:List M.Ty)(ofs:List Int)(xb gb m:Nat)(g:M.Gm):Prop where
 st:Cst w0 w c pb lb mb qb nv yv mn fv Z ofs
 blk:w.heap[xb]? =some (.cells #[pV pb,.map (some gb)] 37 (0,0))
 gs:ImM w gb m g
 low:w0.heap.size<=gb
 ne:gb≠mb
theorem Pcr.still{w':World}(h:Pcr w0 w c pb lb mb qb nv yv mn fv Z ofs xb gb m g)(hc:Chg No w w'):Pcr w0 w' c pb lb mb qb nv yv mn fv Z ofs xb gb m g:=
 ⟨h.st.still hc,D6 hc h.blk,h.gs.chg hc (λx=>x),h.low,h.ne⟩
theorem Pcr.memo{w':World}(h:Pcr w0 w c pb lb mb qb nv yv mn fv Z ofs xb gb m g)(hc:Chg (λk=>k=mb) w w')(hC:Cst w0 w' c pb lb mb qb nv yv mn fv Z ofs):Pcr w0 w' c pb lb mb qb nv yv mn fv Z ofs xb gb m g:=
 ⟨hC,h.st.blk hc h.blk,h.gs.chg hc h.ne,h.low,h.ne⟩
theorem Pcr.more{m':Nat}(h:Pcr w0 w c pb lb mb qb nv yv mn fv Z ofs xb gb m g)(hm:m<=m'):Pcr w0 w c pb lb mb qb nv yv mn fv Z ofs xb gb m' g:=
 ⟨h.st,h.blk,h.gs.more hm,h.low,h.ne⟩
theorem Pcr.put{w':World}{g':M.Gm}{m':Nat}(h:Pcr w0 w c pb lb mb qb nv yv mn fv Z ofs xb gb m g)(hc:Chg (λk=>k=gb) w w')(hi:ImM w' gb m' g'):Pcr w0 w' c pb lb mb qb nv yv mn fv Z ofs xb gb m' g'/\KC w w':=by
 have hk:KC w w':=⟨hc.size,λq cs e fz x=>by
  rw[hc.block q (ltG x) (λy=>by subst y;exact h.gs.notcells x)];exact x⟩
 exact⟨⟨h.st.othm hc (λ_ _ _=>h.gs.notcells) h.ne h.low,hk.2 _ _ _ _ h.blk,hi,h.low,h.ne⟩,hk⟩
theorem X4b(h:Pcr w0 w c pb lb mb qb nv yv mn fv Z ofs xb gb m g)(hm:m<=100000000)(i:Nat)(hi:i<=1000000)(a:Nat)(ha:a<(tl c Z).length):
 Calls prog 20 #[pV xb,iV (i:Int),iV (a:Int)] w λe w'=>e=rT/\Pcr w0 w' c pb lb mb qb nv yv mn fv Z ofs xb gb (m+1) (M.gput g (i:Int) (M.tr (tl c Z) a))/\KC w w':=by
 obtain⟨D,hs⟩:=h.st.sho;obtain⟨oa,oc,hpb,fz,q0,q1,q2,q3,-,-,-,-,-⟩:=h.st.cell;have b0:w.cell? (aD xb 0)=some (pV pb):=cr h.blk rfl;have b1:w.cell? (aD xb 1)=some (.map (some gb)):=cr h.blk rfl;have hxl:=(ltG h.blk);have HH:=A0 h;have htl:=M.Q2a (M.tr (tl c Z) a);have HTG:=A0 (H0c a w ha hs);obtain⟨t,ht⟩:∃t,M.tr (tl c Z) a=t:=⟨_,rfl⟩;rw[ht]at htl HTG⊢;obtain⟨v,hv⟩:∃v,M.Z7 t=v:=⟨_,rfl⟩;have HV:=A0 hv;rw[hv]at htl HTG;clear h hs fz q0 q1 q2 ht hv;go_enter func20,ntmps20;go_wp2_with fail
 refine HTG.out.mono ?_;clear HTG;rintro e w1 ⟨rfl,hc⟩;have b1':=A8 hc b1;have hxl':=blt b1';simp only at hxl';have HP1:=A0 (HH.out.still hc);have HC:=A0 hc;clear hc b0 b1 q3;by_cases hv:v=127
 · subst hv;have HE:Hid (Pcr w0 w1 c pb lb mb qb nv yv mn fv Z ofs xb gb (m+1) (M.gput g (i:Int) t)):=by
    have e:M.gput g (i:Int) t=g:=by unfold M.gput;rw[if_pos HV.out]
    show Pcr _ _ _ _ _ _ _ _ _ _ _ _ _ _ _ _ _;rw[e];exact HP1.out.more (Nat.le_succ _)
   clear HV HP1;go_wp2_with fail
   go_end0;exact⟨rfl,HE.out,KC.still HC.out⟩
 · have gv:((v:Int) !=127)=true:=by simp;omega
   obtain⟨w2,hrun,him,hc2⟩:=HP1.out.gs.put (i:Int) (v:Int) (by omega) hm (by omega);have HE:Hid (Pcr w0 w2 c pb lb mb qb nv yv mn fv Z ofs xb gb (m+1) (M.gput g (i:Int) t)/\KC w1 w2):=by
    have e:M.gput g (i:Int) t=λu=>if u=(i:Int) then some (v:Int) else g u:=by
     unfold M.gput;rw[if_neg (by rw[HV.out];exact hv),HV.out];rfl
    show Pcr _ _ _ _ _ _ _ _ _ _ _ _ _ _ _ _ _/\_;rw[e];exact HP1.out.put hc2 him
   clear HV HP1 him hc2 hv;go_wp2_with fail
   go_end0;exact⟨rfl,HE.out.1,(KC.still HC.out).trans HE.out.2⟩
theorem W6c(h:Pcr w0 w c pb lb mb qb nv yv mn fv Z ofs xb gb m g)(hm:m<=100000000){bx:Nat}(hbx:w.heap[bx]? =some (.cells #[pV xb] 68 (0,0)))(p:Nat)(hp:p<=1000000)(hl:Lk c Z ofs of (p:Int))(a:Nat)(ha:a<(tl c Z).length):
 Calls prog 22 #[iV (p:Int),iV (a:Int),pV bx] w λe w'=>e=rT/\Pcr w0 w' c pb lb mb qb nv yv mn fv Z ofs xb gb (m+1) (M.D4b of g ((p:Int),M.tr (tl c Z) a))/\KC w w':=by
 obtain⟨p',r,hpl,e,hr,hrl,htr⟩:=hl;have:p=p':=by omega
 subst this;have HI:=A0 (X1b h.st p hpl r hr hrl);have hk:(tl c Z)[r].kind=(M.ofA of (p:Int)).k:=by rw[<-htr,Y5 h.st.ts hrl]
 have HGU:=A0 (λu (hu:Chg No w u)=>X4b (h.still hu) hm p hp a ha);have b0:w.cell? (aD xb 0)=some (pV pb):=cr h.blk rfl;have hxl:=(ltG h.blk);have x0:w.cell? (aD bx 0)=some (pV xb):=cr hbx rfl;have hbl:=(ltG hbx);have HH:=A0 h;rw[hk]at HI;obtain⟨t,ht⟩:∃t,M.tr (tl c Z) a=t:=⟨_,rfl⟩;rw[ht]at HGU⊢;obtain⟨kd,hkd⟩:∃kd,(M.ofA of (p:Int)).k=kd:=⟨_,rfl⟩;have HK:=A0 hkd;rw[hkd]at HI;clear h hbx hr htr hk ht hkd e;go_enter func22,ntmps22;go_wp2_with fail
 refine HI.out.mono ?_;clear HI;rintro e w1 ⟨rfl,hc⟩;have x0':=A8 hc x0;have hbl':=blt x0';simp only at hbl';have HC:=A0 hc;clear hc b0 x0;by_cases h5:kd=5
 · subst h5;have hg:M.D4b of g ((p:Int),t)=M.gput g (p:Int) t:=by unfold M.D4b;rw[if_pos HK.out]
   have HGK:=A0 hg;clear hg HK;go_wp2_with fail
   refine(HGU.out _ HC.out).mono ?_;rintro e w2 ⟨rfl,hP,hK⟩;have HP:=A0 hP;have HK2:=A0 hK;clear hP hK;go_wp2_with fail
   go_end0;exact⟨rfl,by rw[HGK.out];exact HP.out,(KC.still HC.out).trans HK2.out⟩
 · have g5:(kd==5)=false:=by simpa using h5
   have hg:M.D4b of g ((p:Int),t)=g:=by unfold M.D4b;rw[if_neg (by rw[HK.out];exact h5)]
   have HGK:=A0 hg;have HP:=A0 ((HH.out.still HC.out).more (Nat.le_succ m));clear hg HK HH HGU h5;go_wp2_with fail
   go_end0;exact⟨rfl,by rw[HGK.out];exact HP.out,KC.still HC.out⟩
def RPa(w0 ws:World)(c:M.Cx)(pb lb mb qb:Nat)(nv yv:Value)(mn:Int)(fv:Value)(Z:List M.Ty)(ofs:List Int)(of:M.Of)(xb gb m:Nat)(g:M.Gm)(bx:Nat)(l:List (Int×M.Tr))(u:World):Prop:=
 Pcr w0 u c pb lb mb qb nv yv mn fv Z ofs xb gb (m+l.length) (l.foldl (M.D4b of) g)/\l.length<=1200/\u.heap[bx]? =some (.cells #[pV xb] 68 (0,0))/\KC ws u
theorem D6d(hB:Cbs w0 c pb lb mb qb nv fv){i:Nat}(hL:Lks c Z ofs of i)(hm:m<=90000000)(hask:∃L,M.asks c of i=some L)(ws:World)(bx:Nat):
 TlC w0 c pb lb mb qb nv yv mn fv Z ofs of i 22 #[pV bx] (RPa w0 ws c pb lb mb qb nv yv mn fv Z ofs of xb gb m g bx) (λ_ _=>False) where
 cf _ _:=by go_simp
 st l u h:=h.1.st
 still l u u' h hc:=⟨h.1.still hc,h.2.1,D6 hc h.2.2.1,h.2.2.2.trans (.still hc)⟩
 memo l u u' h hc hC:=⟨h.1.memo hc hC,h.2.1,h.1.st.blk hc h.2.2.1,h.2.2.2.trans (h.1.st.kc hc)⟩
 bad l u u' h hc hn:=by
  obtain⟨L,hL⟩:=hask;rw[hn]at hL;cases hL
 tell l u L x p a h hx hp ha hL2 hmem hlen:=by
  have hlk:=hL.pe x hx;rw[hp]at hlk;have hpn:p<=1000000:=by
   obtain⟨j,e,_,hj,_⟩:=hx;have:=hB.ok.lenN;omega
  have:=h.2.1;refine(W6c (of:=of) h.1 (by omega) h.2.2.1 p hpn hlk a ha).mono ?_;rintro e u' ⟨rfl,hP,hK⟩;refine .inr ⟨rfl,⟨?_,by rw[qQ];simp;omega,hK.2 _ _ _ _ h.2.2.1,h.2.2.2.trans hK⟩,hK⟩;rw[List.foldl_append,qQ,hp];exact hP
end
section
variable{w0 w:World}{c:M.Cx}{pb lb mb qb:Nat}{nv yv fv:Value}{mn:Int}{Z:List M.Ty}{ofs:List Int}{of:M.Of}{xb gb m:Nat}{g:M.Gm}{i:Nat}
def NpQ(w0 w:World)(c:M.Cx)(pb lb mb qb:Nat)(nv yv:Value)(mn:Int)(fv:Value)(Z:List M.Ty)(ofs:List Int)(xb gb m:Nat)(g:M.Gm)(e:Ending)(w':World):Prop:=
 e=rT/\Pcr w0 w' c pb lb mb qb nv yv mn fv Z ofs xb gb (m+1201) g/\KC w w'
theorem F3d(hB:Cbs w0 c pb lb mb qb nv fv)(hL:Lks c Z ofs of i)(hD:M.Dn c of i)(hi:i<c.N.length)(hown:c.N[i].kind=7\/c.N[i].kind=8\/c.N[i].kind=9->Lk c Z ofs of (i:Int))(h:Pcr w0 w c pb lb mb qb nv yv mn fv Z ofs xb gb m g)(hm:m<=80000000):
 Calls prog 8 #[pV xb,iV (i:Int)] w (NpQ w0 w c pb lb mb qb nv yv mn fv Z ofs xb gb m (M.plN c of g i)):=by
 have hmf:=mkf;have hlen:=hB.ok.lenN;have HX:Hid (∀u bx,Pcr w0 u c pb lb mb qb nv yv mn fv Z ofs xb gb (m+1) (M.T7a c of g i)->u.heap[bx]? =some (.cells #[pV xb] 68 (0,0))->
  Calls prog 21 #[pV pb,iV (i:Int),.func (.func 22) #[] #[pV bx]] u λe w'=>e=rT/\Pcr w0 w' c pb lb mb qb nv yv mn fv Z ofs xb gb (m+1201) (M.plN c of g i)/\KC u w'):=λu bx hu hbx=>by
  refine(M7b (w:=u) hB hL (D6d (yv:=yv) (mn:=mn) (xb:=xb) (gb:=gb) (m:=m+1) (g:=M.T7a c of g i) hB hL (by omega) hD.asked u bx) hi (λhk=>by have:=hD.call (by rw[M.D3 hi];exact hk);rw[M.D3 hi]at this;exact this) (λhk=>hD.ret (by rw[M.D3 hi];exact hk)) ⟨hu,wQ _,hbx,KC.refl _⟩).mono ?_;rintro e w' (⟨_,x⟩|⟨rfl,L,hLL,h1,h2,h3,h4⟩)
  · exact x.elim
  · refine⟨rfl, ?_,h4⟩;unfold M.plN;rw[hLL];exact h1.more (by omega)
 obtain⟨oa,oc,hpb,fz,q0,q1,q2,q3,q4,q5,q6,qp,qo⟩:=h.st.cell;obtain⟨ng,nc,la,lc,hnv,hg,hn1,hn2,⟨x0,x1,x2,x3,x4,x5,x6,x7,x8⟩,hlo,-⟩:=(hB.nrow h.st.chg).at (Below.refl _ _) i hi;have b0:w.cell? (aD xb 0)=some (pV pb):=cr h.blk rfl;have hxl:=(ltG h.blk);have hty:=hB.ok.flat i hi;have HG:Hid (∀u (a:Nat),a<(tl c Z).length->Chg No w u->_):=λu a ha hu=>X4b (h.still hu) (by omega) i (by omega) a ha;have HS:Hid (∀u,Chg No w u->Pcr w0 u c pb lb mb qb nv yv mn fv Z ofs xb gb (m+1) g):=λu hu=>(h.still hu).more (Nat.le_succ _);obtain⟨gw,hgw⟩:∃gw,M.T7a c of g i=gw:=⟨_,rfl⟩;have HW1:Hid (c.N[i].kind=16->c.N[i].ty≠-1->∃a:Nat,c.N[i].ty=(a:Int)/\a<(tl c Z).length/\M.gput g (i:Int) (M.tr (tl c Z) a)=gw):=λhk ht=>by
  obtain⟨a,h1,h2,h3⟩:=hL.wt _ ((hty.k16 hk).resolve_left ht);refine⟨a,h1,h2, ?_⟩;rw[<-hgw];unfold M.T7a;rw[M.D3 hi,if_pos hk,if_pos ht,h3]
 have HW2:Hid (c.N[i].kind=16->c.N[i].ty= -1->g=gw):=λhk ht=>by
  rw[<-hgw];unfold M.T7a;rw[M.D3 hi,if_pos hk,if_neg (by rw[ht];simp)]
 have HW3:Hid (c.N[i].kind=7\/c.N[i].kind=8\/c.N[i].kind=9->∃(r:Nat) (h:i<ofs.length),ofs[i]=(r:Int)/\r<(tl c Z).length/\M.gput g (i:Int) (M.tr (tl c Z) r)=gw):=λhk=>by
  obtain⟨p,r,h1,h2,h3,h4,h5⟩:=hown hk;have:i=p:=by omega
  subst this;refine⟨r,h1,h3,h4, ?_⟩;rw[<-hgw];unfold M.T7a;rw[M.D3 hi,if_neg (by omega),if_pos hk,h5]
 have HW4:Hid (c.N[i].kind≠16->¬(c.N[i].kind=7\/c.N[i].kind=8\/c.N[i].kind=9)->g=gw):=λh1 h2=>by
  rw[<-hgw];unfold M.T7a;rw[M.D3 hi,if_neg h1,if_neg h2]
 rw[hgw]at HX;have HQO:Hid (∀j (hj:j<ofs.length),∃g,oa=some (aD g 0)/\g<w.heap.size/\ofs.length<=oc/\oc<=maxLen/\w.cell? (aD g j)=some (iV ofs[j])):=λj hj=>by
  obtain⟨g,h1,h2,h3,h4,h5,h6,_⟩:=qo j hj;exact⟨g,h1,h3,h4,h5,h6⟩
 unfold maxLen at hn2;clear qp qo h hB hL hD hown hty hgw hlo q1 q2 q3 q4 q5 fz;generalize hnd:c.N[i]=nd at *;clear hnd;obtain⟨kd,va,vb,vc,ls,tx,vn,vt,vp⟩:=nd;subst hnv;simp only at *;by_cases k16:kd=16
 · subst k16;by_cases ht:vt= -1
   · obtain rfl:=HW2.out rfl ht;subst ht;clear HW1 HW2 HW3 HW4 HG HQO;have A2:Hid (Chg No w ((w.alloc (.cells #[pV xb] 68)).alloc (ndC 16 va vb vc (sL la ls.length lc) tx vn (-1) vp))):=B9 (Chg.alloc _ _ _) (Chg.alloc _ _ _);have e0:((w.alloc (.cells #[pV xb] 68)).alloc (ndC 16 va vb vc (sL la ls.length lc) tx vn (-1) vp)).heap[w.heap.size]? =some (.cells #[pV xb] 68 (0,0)):=(Below.heap_alloc _ _ _ (by simp)).trans (nW w _);have E0:=A0 e0;clear e0;go_enter func8,ntmps8;go_wp2_with fail
     refine(HX.out _ _ (HS.out _ A2.out) (E0.out)).mono ?_;rintro e w5 ⟨rfl,hP5,hK5⟩;have HP5:=A0 hP5;have HK5:Hid (KC w w5):=(KC.still A2.out).trans hK5;clear hP5 hK5;go_wp2_with fail
     go_end0;exact⟨rfl,HP5.out,HK5.out⟩
   · obtain⟨a,ha,hal,rfl⟩:=HW1.out rfl ht;subst ha;have hab:((a:Int) != -1)=true:=by first|(simp;done)|(simp;omega)
     clear HW1 HW2 HW3 HW4 HQO ht;have A2:Hid (Chg No w ((w.alloc (.cells #[pV xb] 68)).alloc (ndC 16 va vb vc (sL la ls.length lc) tx vn (a:Int) vp))):=B9 (Chg.alloc _ _ _) (Chg.alloc _ _ _);have e0:((w.alloc (.cells #[pV xb] 68)).alloc (ndC 16 va vb vc (sL la ls.length lc) tx vn (a:Int) vp)).heap[w.heap.size]? =some (.cells #[pV xb] 68 (0,0)):=(Below.heap_alloc _ _ _ (by simp)).trans (nW w _);have E0:=A0 e0;clear e0;go_enter func8,ntmps8;go_wp2_with fail
     refine(HG.out _ a hal A2.out).mono ?_;rintro e w3 ⟨rfl,hP,hK⟩;have f0:=hK.2 _ _ _ _ E0.out;have c0:w3.cell? (aD w.heap.size 0)=some (pV xb):=cr f0 rfl;have c1:=hK.cell (A8 A2.out b0);have l0:=blt c0;have l1:=blt c1;simp only at l0 l1;have HP:=A0 hP;have HK:=A0 hK;have F0:=A0 f0;clear hP hK f0 HG;go_wp2_with fail
     refine(HX.out _ _ (HP.out) (F0.out)).mono ?_;rintro e w5 ⟨rfl,hP5,hK5⟩;have HP5:=A0 hP5;have HK5:Hid (KC w w5):=((KC.still A2.out).trans HK.out).trans hK5;clear hP5 hK5;go_wp2_with fail
     go_end0;exact⟨rfl,HP5.out,HK5.out⟩
 · have g16:(kd==16)=false:=by simpa using k16
   by_cases k789:kd=7\/kd=8\/kd=9
   · obtain⟨r,hil,hr,hrl,rfl⟩:=HW3.out k789;obtain⟨go,rfl,ho1,ho2,ho3,y0⟩:=HQO.out i hil;rw[hr]at y0;clear HW1 HW2 HW3 HW4 HQO hr;unfold maxLen at ho3;obtain⟨W,hW⟩:∃W,W=(w.alloc (.cells #[pV xb] 68)).alloc (ndC kd va vb vc (sL la ls.length lc) tx vn vt vp):=⟨_,rfl⟩;have A2:Hid (Chg No w W):=by
      rw[hW];exact B9 (Chg.alloc _ _ _) (Chg.alloc _ _ _)
     have E0:Hid (W.heap[w.heap.size]? =some (.cells #[pV xb] 68 (0,0))):=by
      rw[hW];exact(Below.heap_alloc _ _ _ (by simp)).trans (nW w _)
     have c0:W.cell? (aD w.heap.size 0)=some (pV xb):=cr E0.out rfl;have c1:=A8 A2.out b0;have c2:=A8 A2.out q6;have c3:=A8 A2.out y0;have l0:=blt c0;have l1:=blt c1;have l2:=blt c2;have l3:=blt c3;simp only at l0 l1 l2 l3;rcases k789 with rfl|rfl|rfl;all_goals
      go_enter func8,ntmps8;go_wp2_with fail
      rw[<-hW];clear x0 x1 x2 x3 x4 x5 x6 x7 x8 q0 q6 b0 y0 hW;go_region_with (go_at_call 20;refine(HG.out _ r hrl (B9 A2.out (Chg.drewN _ _ 1))).mono ?_;rintro e w3 ⟨rfl,hP,hK⟩;have HP:=A0 hP;have HK:=A0 hK;clear hP hK)
      all_goals
       have f0:=HK.out.2 _ _ _ _ (show W.drew.heap[w.heap.size]? =some (.cells #[pV xb] 68 (0,0)) from E0.out);have d0:=HK.out.cell c0;have d1:=HK.out.cell c1;have m0:=blt d0;have m1:=blt d1;simp only at m0 m1;have F0:=A0 f0;clear f0 c0 c1 c2 c3 l0 l1 l2 l3 HG;go_wp2_with fail
       refine(HX.out _ _ (HP.out) (F0.out)).mono ?_;rintro e w5 ⟨rfl,hP5,hK5⟩;have HP5:=A0 hP5;have HK5:Hid (KC w w5):=(((KC.still A2.out).trans (KC.still (Chg.drewN _ _ 1))).trans HK.out).trans hK5;clear hP5 hK5;go_wp2_with fail
       go_end0;exact⟨rfl,HP5.out,HK5.out⟩
   · obtain rfl:=HW4.out k16 k789;have g7:(kd==7)=false:=by simp;omega
     have g8:(kd==8)=false:=by simp;omega
     have g9:(kd==9)=false:=by simp;omega
     clear HW1 HW2 HW3 HW4 HG HQO k16 k789;have A2:Hid (Chg No w ((w.alloc (.cells #[pV xb] 68)).alloc (ndC kd va vb vc (sL la ls.length lc) tx vn vt vp))):=B9 (Chg.alloc _ _ _) (Chg.alloc _ _ _);have e0:((w.alloc (.cells #[pV xb] 68)).alloc (ndC kd va vb vc (sL la ls.length lc) tx vn vt vp)).heap[w.heap.size]? =some (.cells #[pV xb] 68 (0,0)):=(Below.heap_alloc _ _ _ (by simp)).trans (nW w _);have E0:=A0 e0;clear e0;go_enter func8,ntmps8;go_wp2_with fail
     refine(HX.out _ _ (HS.out _ A2.out) (E0.out)).mono ?_;rintro e w5 ⟨rfl,hP5,hK5⟩;have HP5:=A0 hP5;have HK5:Hid (KC w w5):=(KC.still A2.out).trans hK5;clear hP5 hK5;go_wp2_with fail
     go_end0;exact⟨rfl,HP5.out,HK5.out⟩
end
theorem Tryz.infoGu:(prog.info? 30).map (λi=>(i.zero,i.size,i.bytes))=some (some (.agg #[iV 0,iV 0]),2,16):=by kernel_rfl
theorem S4a(g:M.Gm):∀j,(M.P8 g j).length<=j
 |0=>vQ _
 |j+1=>by
  have:=S4a g j;rw[M.P8,qQ];split<;>simp<;>omega
section
variable{w0 w:World}{c:M.Cx}{pb lb mb qb:Nat}{nv yv fv:Value}{mn:Int}{Z:List M.Ty}{ofs:List Int}{xb gb m:Nat}{g:M.Gm}
theorem I5c(hB:Cbs w0 c pb lb mb qb nv fv)(h:Pcr w0 w c pb lb mb qb nv yv mn fv Z ofs xb gb m g):
 Calls prog 9 #[pV xb] w λe w'=>∃ad ac,e= .returned (.slice ad (M.P8 g c.N.length).length ac)/\Chg No w w'/\w'.ownsRow w.heap.size 30 2 (.slice ad (M.P8 g c.N.length).length ac) (M.P8 g c.N.length).length (J5 (M.P8 g c.N.length)):=by
 obtain⟨i0,hi,hz0,hz1,hz2⟩:=info_parts Tryz.infoGu;obtain⟨oa,oc,hpb,-,q0,-,-,-,-,-,-,-,-⟩:=h.st.cell;have hlen:=hB.ok.lenN;obtain⟨na,nc,hnv⟩:∃na nc,nv=sL na c.N.length nc:=by
  obtain⟨nx,hn,_⟩:=hB.nrow h.st.chg;exact B7 hn
 subst hnv;have b0:w.cell? (aD xb 0)=some (pV pb):=cr h.blk rfl;have b1:w.cell? (aD xb 1)=some (.map (some gb)):=cr h.blk rfl;have hxl:=(ltG h.blk);have HGS:=A0 h.gs;clear h hB;generalize c.N.length=n at *;go_enter func9,ntmps9;go_wp2_with fail
 go_loopw [16,3] (λv u wr=>∃(j:Nat) (ad:Option Addr) (ac:Nat),j<=n/\v=iV (j:Int)/\u= .slice ad (M.P8 g j).length ac/\Hid (Chg No w wr)/\Hid (wr.ownsRow w.heap.size 30 2 (.slice ad (M.P8 g j).length ac) (M.P8 g j).length (J5 (M.P8 g j)))) (λv _ _=>n - (intOf v).toNat)
 case atStart=>exact⟨0,none,0,wQ _,rfl,rfl,Chg.refl _ _,kW _ _ _ _⟩
 case round=>
  obtain⟨j,ad,ac,hj,rfl,rfl,CR,OR⟩:=hrel;have hwr:w.heap.size<=wr.heap.size:=CR.out.size;by_cases hjl:j<n
  · have hlk:=(HGS.out.chg CR.out (λx=>x)).look (j:Int) (by omega);have d1:=A8 CR.out b1;have m1:=blt d1;simp only at m1;have hrl:=S4a g j;have HRS:Hid (M.P8 g (j+1)=M.P8 g j++(match g (j:Int) with|some v=>[((j:Int),v)]|none=>[])):=by
     show _=_;cases hg:g (j:Int)<;>simp[M.P8,hg]
    obtain⟨bj,hbj⟩:∃bj,M.P8 g j=bj:=⟨_,rfl⟩;rw[hbj]at OR HRS hrl⊢;clear hbj;cases hg:g (j:Int) with
    |none=>
     rw[hg]at hlk HRS;have HRS':Hid (M.P8 g (j+1)=bj):=by
      show _=_;rw[HRS.out];simp
     simp only[Option.getD_none,Option.isSome_none]at hlk;clear HRS hg;go_wp2_with fail
     go_roundw
     case rel=>exact⟨j+1,ad,ac,by omega,by go_num,by rw[HRS'.out],CR,by rw[HRS'.out];exact OR⟩
     case measure=>simp[intOf];omega
    |some tj=>
     rw[hg]at hlk HRS;have HBN':Hid (M.P8 g (j+1)=bj++[((j:Int),tj)]):=HRS.out;simp only[Option.getD_some,Option.isSome_some]at hlk;have HO4:=A0 (OR.out.alloc (.cells #[iV (j:Int),iV tj] 30));clear HRS hg;go_wp2_with (at_builtin;refine wpList_append_own _ rfl _ _ 23 rfl w.heap.size 30 i0 (.agg #[iV 0,iV 0]) 2 16 underlying23 hi hz0 hz1 hz2 rfl (by decide) _ _ _ rfl HO4.out (aD wr.heap.size 0) 1 1 [iV (j:Int),iV tj] rfl rfl ?c1 ?c2 ?c3 ?c4 ?c5 ?_)
     case c1=>exact World.news_of_block (cs:=#[iV (j:Int),iV tj]) (t:=30) (fr:=(0,0)) (nW wr _)
     case c2=>intro u hu;simp at hu;rcases hu with rfl|rfl<;>rfl
     case c3=>simp only[maxLen];omega
     case c4=>omega
     case c5=>simp;omega
     intro v' w4 hown4 hg4 _;obtain⟨ad4,c4,rfl⟩:=B7 hown4;have HOW:=A0 hown4;have hcb:Chg (λk=>w.heap.size<=k) wr w4:=(Chg.alloc (λk=>w.heap.size<=k) wr (.cells #[iV (j:Int),iV tj] 30)).trans (Chg.grown hg4) (λk hk x=>(A9 HO4.out k x.symm).1);have HC4:Hid (Chg No w w4):=((CR.out.mono (S':=λk=>w.heap.size<=k) (λ_ _ x=>x.elim)).trans hcb (λ_ _ x=>x)).mono (λk hk x=>by omega);clear hown4 hg4 hcb;go_wp2_with fail
     go_roundw
     case rel=>exact⟨j+1,ad4,c4,by omega,by go_num,by rw[HBN'.out,qQ,List.length_singleton],HC4,(show World.ownsRow _ _ _ _ _ _ _ from by rw[HBN'.out,J2a,qQ,List.length_singleton];exact HOW.out)⟩
     case measure=>simp[intOf];omega
  · have hje:j=n:=by omega
    subst hje;go_wp2_with fail
    exact bodyPost_ret (v:= .slice ad (M.P8 g j).length ac) (by simp[results,results9,go_sem]) rfl ⟨ad,ac,rfl,CR.out,OR.out⟩
end
def GdA(l:List UInt8)(w:World)(e:Ending)(w':World):Prop:=Below w.heap.size w w'/\
 ((∃er p,FtO l er p/\e= .returned (.tuple #[sN,.agg #[iV er,iV p]]))\/
  ∃N T l2 of ad ac,Okd l N T l2 of/\e= .returned (.tuple #[.slice ad (M.plP (M.cxP N T l2) of).length ac,.agg #[iV 0,iV 0]])/\w'.ownsRow w.heap.size 30 2 (.slice ad (M.plP (M.cxP N T l2) of).length ac) (M.plP (M.cxP N T l2) of).length (J5 (M.plP (M.cxP N T l2) of)))
theorem Okd.ok{l:List UInt8}{N:List M.Nd}{T:List M.Ty}{l2:List (Nat×Int)}{of:M.Of}(h:Okd l N T l2 of):M.D8a (M.cxP N T l2)/\M.Fin' (M.cxP N T l2) of:=by
 obtain⟨ps,fs,_,hP,hb,hk⟩:=h;have hc:=M.A4b hP hb hP.tx;exact⟨hc,M.G9d hc hk⟩
theorem T6a(s:ByteArray)(w:World)(hs:s.size<=maxLen):Calls prog 5 #[.string s] w (GdA s.data.toList w):=by
 have HR:=A0 (λw1=>Z1a s w1 hs);have hb0:=nW w (fB);have hmm:=@run_makeMap prog;clear hs;go_enter func5,ntmps5;go_wp2_with fail
 refine(HR.out _).mono ?_;clear HR;rintro e w1 ⟨hbel,⟨er,p,v,hft,rfl⟩|⟨N,T,l2,of,hok,w0,pb,lb,mb,qb,nv,yv,mn,fv,Z,ofs,hb1,hpb,hlb,hmb,hB,rfl,hZ,hR,hC,-⟩⟩
 · have f0:w1.heap[w.heap.size]? =some (fB):=by
    rw[hbel.block _ (by simp)];exact hb0
   have g0:w1.cell? (aD w.heap.size 0)=some (iV 0):=cr f0 rfl;have g1:w1.cell? (aD w.heap.size 1)=some (iV 0):=cr f0 rfl;have gz:∀o,w1.frozen? (aD w.heap.size o)=false:=λo=>frozen_of_row w1 _ o _ _ f0;have gl:=(ltG f0);have her:(er !=0)=true:=by simp[hft.1]
   have HBW:Hid (Below w.heap.size w w1):=(Chg.toBelow (Chg.alloc No w _) (λ_ _ x=>x.elim) (vQ _)).trans (hbel.mono (by simp));have HFT:=A0 hft;clear hft hbel hb0 f0 hmm;go_wp2_with fail
   go_region
   all_goals go_wp2_with fail
   all_goals
    have hcS:Chg (λk=>k=w.heap.size) w1 ((w1.setCell (aD w.heap.size 0) (iV er)).setCell (aD w.heap.size 1) (iV p)):=Chg.trans (Chg.set w1 (aD w.heap.size 0) _) (Chg.set _ (aD w.heap.size 1) _) (λ_ _ x=>x);have hR:GdA s.data.toList w (.returned (.tuple #[sN,.agg #[iV er,iV p]])) _:=⟨HBW.out.trans (Chg.toBelow (Chg.trans hcS (B9 (Chg.alloc No _ (.cells #[iV er,iV p] 26)) (Chg.drewN No _ 1)) (λ_ _ x=>x.elim)) (λk _ e=>by omega) HBW.out.size),.inl ⟨er,p,HFT.out,rfl⟩⟩;exact bodyPost_ret (v:= .tuple #[sN,.agg #[iV er,iV p]]) (by simp[results,results5,go_sem,g0,g1,gl]) rfl hR
 · have f0:w1.heap[w.heap.size]? =some (fB):=by
    rw[hbel.block _ (by simp)];exact hb0
   have gl:=(ltG f0);have hw0:w.heap.size+1<=w0.heap.size:=by have:=hb1.size;simpa using this
   have hws:(w.alloc (fB)).heap.size=w.heap.size+1:=by simp
   rw[hws]at hb1 hpb hlb hmb;have HBW:Hid (∀w',Chg (SW w0 pb lb mb) w0 w'->Below w.heap.size w w'):=λw' h=>(Chg.toBelow (Chg.alloc No w _) (λ_ _ x=>x.elim) (vQ _)).trans ((S1a h hb1 hw0 hpb hlb hmb).mono (by omega));obtain⟨hcx,hfin⟩:=hok.ok;have HOK:=A0 hok;have HQ:Hid (∀w' ad ac,Below w.heap.size w w'->w'.ownsRow w.heap.size 30 2 (.slice ad (M.plP (M.cxP N T l2) of).length ac) (M.plP (M.cxP N T l2) of).length (J5 (M.plP (M.cxP N T l2) of))->GdA s.data.toList w (.returned (.tuple #[.slice ad (M.plP (M.cxP N T l2) of).length ac,.agg #[iV 0,iV 0]])) w'):=λw' ad ac hb ho=>⟨hb,.inr ⟨N,T,l2,of,ad,ac,HOK.out,rfl,ho⟩⟩;have hPL:M.plP (M.cxP N T l2) of=M.P8 (M.S6a (M.cxP N T l2) of (M.cxP N T l2).N.length) (M.cxP N T l2).N.length:=rfl;rw[hPL]at HQ;generalize M.cxP N T l2=c at *;clear hPL HOK hok hbel hb0 hb1 hZ;have hnN:c.N.length<=1200:=hcx.lenN;have HFI:=A0 hfin;have HBB:=A0 hB;have HRR:=A0 hR;have HCC:=A0 hC;have HF0:=A0 f0;obtain⟨na,nc,hnv⟩:∃na nc,nv=sL na c.N.length nc:=by
    obtain⟨nx,hn,_⟩:=hB.nrow hC.chg;exact B7 hn
   subst hnv;obtain⟨oa,oc,hpbl,-,q0,-,-,-,-,-,-,-,-⟩:=hC.cell;clear hfin hcx hB hR hC f0 hpb hlb hmb;have W3C:Chg No w1 (((w1.alloc (fB)).alloc (.map #[] 0)).alloc (.cells #[pV pb,.map (some (w1.heap.size+1))] 37)):=B9 (B9 (Chg.alloc _ _ _) (Chg.alloc _ _ _)) (Chg.alloc _ _ _);have q0':=A8 W3C q0;go_wp2_with fail
   have hw01:w0.heap.size<=w1.heap.size:=HCC.out.chg.size;have P0:Hid (Pcr w0 (((w1.alloc (fB)).alloc (.map #[] 0)).alloc (.cells #[pV pb,.map (some (w1.heap.size+1))] 37)) c pb lb mb qb (sL na c.N.length nc) yv mn fv Z ofs (w1.heap.size+2) (w1.heap.size+1) 0 (M.S6a c of 0)):=by
    refine⟨HCC.out.still W3C, ?_, ?_,by omega,by have:=HBB.out.lt;omega⟩
    · have:=nW ((w1.alloc (fB)).alloc (.map #[] 0)) (.cells #[pV pb,.map (some (w1.heap.size+1))] 37);simpa using this
    · have:=(ImM.new (w1.alloc (fB))).chg (Chg.alloc No _ (.cells #[pV pb,.map (some (w1.heap.size+1))] 37)) (λx=>x);simp only[World.size_alloc]at this;exact this
   have K0:Hid (KC w1 (((w1.alloc (fB)).alloc (.map #[] 0)).alloc (.cells #[pV pb,.map (some (w1.heap.size+1))] 37))):=KC.still W3C;clear W3C;go_loopw [27] (λv wr=>∃j:Nat,j<=c.N.length/\v=iV (j:Int)/\Hid (Pcr w0 wr c pb lb mb qb (sL na c.N.length nc) yv mn fv Z ofs (w1.heap.size+2) (w1.heap.size+1) (1201 * j) (M.S6a c of j))/\Hid (KC w1 wr)) (λv _=>c.N.length - (intOf v).toNat)
   case atStart=>exact⟨0,wQ _,rfl,P0,K0⟩
   case round=>
    clear P0 K0;obtain⟨j,hj,rfl,HP,HK⟩:=hrel;by_cases hjl:j<c.N.length
    · have HN:=A0 (F3d (i:=j) HBB.out (Q7b HBB.out.ok HP.out.st.ts HRR.out HFI.out.inv (Nat.le_of_lt hjl)) (HFI.out.dn j hjl) hjl (λhk=>by
       obtain⟨t,ht⟩:=HFI.out.inv.ex j hjl (by unfold M.isE;omega) (.inl hjl);obtain⟨r,h1,h2,h3,h4⟩:=Cst.look (c:=c) (Z:=Z) HRR.out ht;exact⟨j,r,h1,rfl,h2,h3,h4⟩) HP.out (by omega))
      go_wp2_with fail
      refine HN.out.mono ?_;rintro e w5 ⟨rfl,hP5,hK5⟩;have HP5:Hid (Pcr w0 w5 c pb lb mb qb (sL na c.N.length nc) yv mn fv Z ofs (w1.heap.size+2) (w1.heap.size+1) (1201 * (j+1)) (M.S6a c of (j+1))):=hP5;have HK5:=A0 (HK.out.trans hK5);clear hP5 hK5 HN HP HK;go_wp2_with fail
      go_roundw
      case rel=>exact⟨j+1,by omega,by go_num,HP5,HK5⟩
      case measure=>simp[intOf];omega
    · have hje:j=c.N.length:=by omega
      subst hje;have HRS:=A0 (I5c HBB.out HP.out);go_wp2_with fail
      refine HRS.out.mono ?_;rintro e w5 ⟨ad,ac,rfl,hc5,ho5⟩;have f1:w5.heap[w.heap.size]? =some (fB):=D6 hc5 (HK.out.2 _ _ _ _ HF0.out);have g0:w5.cell? (aD w.heap.size 0)=some (iV 0):=cr f1 rfl;have g1:w5.cell? (aD w.heap.size 1)=some (iV 0):=cr f1 rfl;have gz:∀o,w5.frozen? (aD w.heap.size o)=false:=λo=>frozen_of_row w5 _ o _ _ f1;have gl2:=(ltG f1);have hcS:Chg (λk=>k=w.heap.size) w5 ((w5.setCell (aD w.heap.size 0) (iV 0)).setCell (aD w.heap.size 1) (iV 0)):=Chg.trans (Chg.set w5 (aD w.heap.size 0) _) (Chg.set _ (aD w.heap.size 1) _) (λ_ _ x=>x);have hwr:w1.heap.size<=wr.heap.size:=HK.out.1;have hR2:=A0 (HQ.out _ ad ac ((HBW.out _ (HP.out.st.still hc5).chg).trans (Chg.toBelow hcS (λk _ x=>by omega) (by have:=hc5.size;omega))) (A3 (C7 ho5 (by omega)) hcS (λg hg x=>by have:=(ho5.lt g hg).1;omega)));clear hcS f1 HQ HRS ho5 hc5 HP HK;generalize (M.P8 (M.S6a c of c.N.length) c.N.length).length=bl at *;go_wp2_with fail
      exact bodyPost_ret (v:= .tuple #[sL ad bl ac,.agg #[iV 0,iV 0]]) (by simp[results,results5,go_sem,g0,g1]) rfl hR2.out
def FK(l:List UInt8)(er p:Int):Prop:=FtO l er p\/(er=0/\p=0/\∃N T l2 of,Okd l N T l2 of)
def Rsn(R:List (Int×Int)):Prop:=R.length<=1200/\(∀p∈R,(0<=p.1/\p.1<=1200)/\1<=p.2/\p.2<127)/\R.Pairwise λp q=>p.1<q.1
theorem Okd.rsn{l:List UInt8}{N:List M.Nd}{T:List M.Ty}{l2:List (Nat×Int)}{of:M.Of}(h:Okd l N T l2 of):Rsn (M.plP (M.cxP N T l2) of):=by
 obtain⟨ps,fs,_,hP,hb,hk⟩:=h;have hc:=M.A4b hP hb hP.tx;have hW:M.OfW of:=M.P9b hc _ of (vQ _) hk;obtain⟨h1,h2⟩:=M.V8b (M.W3b hc hW (M.cxP N T l2).N.length) (M.cxP N T l2).N.length;have h3:=S4a (M.S6a (M.cxP N T l2) of (M.cxP N T l2).N.length) (M.cxP N T l2).N.length;have h4:=hc.lenN;exact⟨by unfold M.plP;omega,λp hp=>by have:=h1 p hp;omega,h2⟩
end Go.Proofs.YtfhhipefecekkaaGreatDoor
