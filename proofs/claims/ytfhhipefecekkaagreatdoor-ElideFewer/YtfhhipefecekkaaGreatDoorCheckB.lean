/-
  A part of the proof.
-/
import Derived.Test.YtfhhipefecekkaaGreatDoorCheckA
set_option maxHeartbeats 16000000
set_option maxRecDepth 100000
namespace Go.Proofs.YtfhhipefecekkaaGreatDoor
open Go.Proofs.Tryz
open Go.RowKit Go.Maps
structure TlC(w0:World)(c:M.Cx)(pb lb mb qb:Nat)(nv yv:Value)(mn:Int)(fv:Value)(Z:List M.Ty)(ofs:List Int)(of:M.Of)(i:Nat)(kf:FuncId)(cp:Array Value)(R:List (Int×M.Tr)->World->Prop)(Pn:Ending->World->Prop):Prop where
 cf:∀(args:Array Value) (W:World),(callFunc kf args).run prog W= .ok (.enter kf args) W
 st:∀l u,R l u->Cst w0 u c pb lb mb qb nv yv mn fv Z ofs
 still:∀l u u',R l u->Chg No u u'->R l u'
 memo:∀l u u',R l u->Chg (λk=>k=mb) u u'->Cst w0 u' c pb lb mb qb nv yv mn fv Z ofs->R l u'
 bad:∀l u u',R l u->Chg (λk=>k=mb) u u'->M.asks c of i=none->Pn (gu 9 (atI c.N i)) u'
 tell:∀l u L (x:Int) (p a:Nat),R l u->M.Pe c.N i x->x=(p:Int)->a<(tl c Z).length->M.asks c of i=some L->(x,M.tr (tl c Z) a)∈L->l.length<1200->
  Calls prog kf (#[iV (p:Int),iV (a:Int)]++cp) u λe u'=>((∃x y,e=gu x y)/\Pn e u')\/(e=rT/\R (l++[(x,M.tr (tl c Z) a)]) u'/\KC u u')
section
variable{w0 w:World}{c:M.Cx}{pb lb mb qb:Nat}{nv yv fv:Value}{mn:Int}{Z:List M.Ty}{ofs:List Int}{of:M.Of}{i:Nat}{kf:FuncId}{cp:Array Value}{R:List (Int×M.Tr)->World->Prop}{Pn:Ending->World->Prop}
theorem I6d(hB:Cbs w0 c pb lb mb qb nv fv)(hL:Lks c Z ofs of i)(hT:TlC w0 c pb lb mb qb nv yv mn fv Z ofs of i kf cp R Pn)(hi:i<c.N.length)(hk:c.N[i].kind=14)(hR:R [] w):
 Calls prog 21 #[pV pb,iV (i:Int),.func (.func kf) #[] cp] w λe w'=>((∃x y,e=gu x y)/\Pn e w')\/(e=rT/\∃L,M.asks c of i=some L/\R L w'):=by
 have hcf:=hT.cf;have h:=hT.st _ _ hR;have hf:=hB.ok.flat i hi;obtain⟨oa,oc,hpb,fz,q0,q1,q2,q3,q4,q5,q6,qp,qo⟩:=h.cell;obtain⟨g,nc,la,lc,hnv,hg,hn1,hn2,⟨x0,x1,x2,x3,x4,x5,x6,x7,x8⟩,hlo,-⟩:=(hB.nrow h.chg).at (Below.refl _ _) i hi;have hlen:=hB.ok.lenN;unfold maxLen at hn2;have hpe:M.Pe c.N i c.N[i].a:=(hf.k14 hk).1;obtain⟨p,r,hp,hpa,-⟩:=hL.pe _ hpe;obtain⟨a,haty,hal,hatr⟩:=hL.wt _ ((hf.k14 hk).2);have HA:Hid (M.asks c of i=some [(c.N[i].a,M.tr (tl c Z) a)]):=by
  show _=_;unfold M.asks;simp only[M.D3 hi];rw[hatr];rw[if_neg (by omega),if_pos hk]
 have HT:Hid (∀u,Chg No w u->_):=λu hu=>hT.tell [] u _ c.N[i].a p a (hT.still _ _ _ hR hu) hpe hpa hal HA.out (by simp) (by simp);rw[hpa]at x1;rw[haty]at x7;simp only[hpa,List.nil_append]at HA HT;clear qp qo h hB hL hT hR q1 q2 q3 q4 q5 q6 hf hatr hpe;generalize hnd:c.N[i]=nd at *;have HND:=A0 hnd;clear hnd;obtain⟨kd,va,vb,vc,ls,tx,vn,vt,vp⟩:=nd;subst hnv;simp only at *;subst hk;have A1:=A0 (Chg.alloc No w (ndC 14 (p:Int) vb vc (.slice la ls.length lc) tx vn (a:Int) vp));have hab:((a:Int) != -1)=true:=by first|(simp;done)|(simp;omega)
 go_enter func21,ntmps21;go_wp2_with fail
 refine(HT.out _ A1.out).mono ?_;rintro e w5 (⟨⟨x,y,rfl⟩,hP⟩|⟨rfl,hR5,hkc⟩)
 · have HP:=A0 hP;exact⟨rfl,.inl ⟨⟨x,y,rfl⟩,HP.out⟩⟩
 · have HR5:=A0 hR5;clear hR5 hkc;go_wp2_with fail
   go_end0;exact .inr ⟨rfl,_,HA.out,HR5.out⟩
theorem I5d(hB:Cbs w0 c pb lb mb qb nv fv)(hL:Lks c Z ofs of i)(hT:TlC w0 c pb lb mb qb nv yv mn fv Z ofs of i kf cp R Pn)(hi:i<c.N.length)(hk:c.N[i].kind=17)(hty:c.N[i].ty≠-1)(hR:R [] w):
 Calls prog 21 #[pV pb,iV (i:Int),.func (.func kf) #[] cp] w λe w'=>((∃x y,e=gu x y)/\Pn e w')\/(e=rT/\∃L,M.asks c of i=some L/\R L w'):=by
 have hcf:=hT.cf;have h:=hT.st _ _ hR;have hf:=hB.ok.flat i hi;obtain⟨oa,oc,hpb,fz,q0,q1,q2,q3,q4,q5,q6,qp,qo⟩:=h.cell;obtain⟨g,nc,la,lc,hnv,hg,hn1,hn2,⟨x0,x1,x2,x3,x4,x5,x6,x7,x8⟩,hlo,-⟩:=(hB.nrow h.chg).at (Below.refl _ _) i hi;have hlen:=hB.ok.lenN;unfold maxLen at hn2;have hpe:M.Pe c.N i c.N[i].a:=(hf.k17 hk).2;obtain⟨p,r,hp,hpa,-⟩:=hL.pe _ hpe;obtain⟨a,haty,hal,hatr⟩:=hL.wt _ ((hf.k17 hk).1.resolve_left hty);have HA:Hid (M.asks c of i=some [(c.N[i].a,M.tr (tl c Z) a)]):=by
  show _=_;unfold M.asks;simp only[M.D3 hi];rw[hatr];rw[if_neg (by omega),if_neg (by omega),if_pos hk,if_pos hty]
 have HT:Hid (∀u,Chg No w u->_):=λu hu=>hT.tell [] u _ c.N[i].a p a (hT.still _ _ _ hR hu) hpe hpa hal HA.out (by simp) (by simp);rw[hpa]at x1;rw[haty]at x7;simp only[hpa,List.nil_append]at HA HT;clear qp qo h hB hL hT hR q1 q2 q3 q4 q5 q6 hf hatr hpe;generalize hnd:c.N[i]=nd at *;have HND:=A0 hnd;clear hnd;obtain⟨kd,va,vb,vc,ls,tx,vn,vt,vp⟩:=nd;subst hnv;simp only at *;subst hk;have A1:=A0 (Chg.alloc No w (ndC 17 (p:Int) vb vc (.slice la ls.length lc) tx vn (a:Int) vp));have hab:((a:Int) != -1)=true:=by first|(simp;done)|(simp;omega)
 go_enter func21,ntmps21;go_wp2_with fail
 refine(HT.out _ A1.out).mono ?_;rintro e w5 (⟨⟨x,y,rfl⟩,hP⟩|⟨rfl,hR5,hkc⟩)
 · have HP:=A0 hP;exact⟨rfl,.inl ⟨⟨x,y,rfl⟩,HP.out⟩⟩
 · have HR5:=A0 hR5;clear hR5 hkc;go_wp2_with fail
   go_end0;exact .inr ⟨rfl,_,HA.out,HR5.out⟩
theorem O7d(hB:Cbs w0 c pb lb mb qb nv fv)(_hL:Lks c Z ofs of i)(hT:TlC w0 c pb lb mb qb nv yv mn fv Z ofs of i kf cp R Pn)(hi:i<c.N.length)(hk:c.N[i].kind≠7/\c.N[i].kind≠14/\(c.N[i].kind=17->c.N[i].ty= -1)/\c.N[i].kind≠18/\c.N[i].kind≠19/\c.N[i].kind≠20/\c.N[i].kind≠24)(hR:R [] w):
 Calls prog 21 #[pV pb,iV (i:Int),.func (.func kf) #[] cp] w λe w'=>((∃x y,e=gu x y)/\Pn e w')\/(e=rT/\∃L,M.asks c of i=some L/\R L w'):=by
 have hcf:=hT.cf;have h:=hT.st _ _ hR;have hf:=hB.ok.flat i hi;obtain⟨oa,oc,hpb,fz,q0,q1,q2,q3,q4,q5,q6,qp,qo⟩:=h.cell;obtain⟨g,nc,la,lc,hnv,hg,hn1,hn2,⟨x0,x1,x2,x3,x4,x5,x6,x7,x8⟩,hlo,-⟩:=(hB.nrow h.chg).at (Below.refl _ _) i hi;have hlen:=hB.ok.lenN;unfold maxLen at hn2;have HA:Hid (M.asks c of i=some []):=by
  show _=_;unfold M.asks;simp only[M.D3 hi];rw[if_neg hk.1,if_neg hk.2.1];by_cases h17:c.N[i].kind=17
  · rw[if_pos h17,if_neg (by simp[hk.2.2.1 h17])]
  · rw[if_neg h17,if_neg hk.2.2.2.1,if_neg hk.2.2.2.2.1,if_neg hk.2.2.2.2.2.1,if_neg hk.2.2.2.2.2.2]
 have HR:Hid (∀u,Chg No w u->R [] u):=λu hu=>hT.still _ _ _ hR hu;clear qp qo h hB hT hR q1 q2 q3 q4 q5 q6 hf;generalize hnd:c.N[i]=nd at *;clear hnd;obtain⟨kd,va,vb,vc,ls,tx,vn,vt,vp⟩:=nd;subst hnv;simp only at *;obtain⟨k7,k14,k17,k18,k19,k20,k24⟩:=hk;have g7:(kd==7)=false:=by simpa using k7
 have g14:(kd==14)=false:=by simpa using k14
 have g18:(kd==18)=false:=by simpa using k18
 have g19:(kd==19)=false:=by simpa using k19
 have g20:(kd==20)=false:=by simpa using k20
 have g24:(kd==24)=false:=by simpa using k24
 have A1:=A0 (Chg.alloc No w (ndC kd va vb vc (.slice la ls.length lc) tx vn vt vp));by_cases h17:kd=17
 · have ht:=k17 h17;subst h17 ht;go_enter func21,ntmps21;go_wp2_with fail
   go_end0;exact .inr ⟨rfl,_,HA.out,HR.out _ A1.out⟩
 · have g17:(kd==17)=false:=by simpa using h17
   go_enter func21,ntmps21;go_wp2_with fail
   go_end0;exact .inr ⟨rfl,_,HA.out,HR.out _ A1.out⟩
theorem E8c{α β:Type}(a:List α)(b:List β){j:Nat}(h1:j<a.length)(h2:j<b.length):(a.zip b).take (j+1)=(a.zip b).take j++[(a[j],b[j])]:=by
 have h:j<(a.zip b).length:=by rw[List.length_zip];omega
 rw[nQ h,List.getElem_zip]
theorem G5d(hB:Cbs w0 c pb lb mb qb nv fv)(hL:Lks c Z ofs of i)(hT:TlC w0 c pb lb mb qb nv yv mn fv Z ofs of i kf cp R Pn)(hi:i<c.N.length)(hk:c.N[i].kind=7)(hd:(M.ofA of c.N[i].a).k=5\/((M.ofA of c.N[i].a).k=9/\c.N[i].list.length=(M.ofA of c.N[i].a).ks.tail.length))(la:Option Addr)(lc:Nat)(hlo:w.ownsRow 0 3 1 (.slice la c.N[i].list.length lc) c.N[i].list.length (B8 c.N[i].list))(hR:R [] w):
 Calls prog 47 #[pV pb,nvl c.N[i] la lc,.func (.func kf) #[] cp] w λe w'=>((∃x y,e=gu x y)/\Pn e w')\/(e=rT/\∃L,M.asks c of i=some L/\R L w'):=by
 have hcf:=hT.cf;have h:=hT.st _ _ hR;have hf:=hB.ok.flat i hi;have hTs:=h.ts;obtain⟨oa,oc,hpb,fz,q0,q1,q2,q3,q4,q5,q6,qp,qo⟩:=h.cell;obtain⟨p,r,hp,hpa,hr,hrl,htr⟩:=hL.pe _ (hf.k7 hk).1;obtain⟨go,rfl,ho0,ho1,ho2,ho3,y0,-⟩:=qo p hp;rw[hr]at y0;obtain⟨D,hs⟩:=h.sho;obtain⟨fa,fc,la2,lc2,⟨-,hlo2⟩,hgx⟩:=N8d r w hrl hs;have HG:=A0 hgx;have hkk:(tl c Z)[r].kind=(M.ofA of c.N[i].a).k:=by rw[<-htr,Y5 hTs hrl]
 have HI:Hid (∀u,Chg No w u->_):=λu hu=>X1b (h.still hu) p hp r hr hrl;have HR:Hid (∀u,Chg No w u->R [] u):=λu hu=>hT.still _ _ _ hR hu;have HA5:Hid ((tl c Z)[r].kind=5->M.asks c of i=some []):=λh5=>by
  unfold M.asks;simp only[M.D3 hi];rw[if_pos hk,if_pos (by rw[<-hkk];exact h5)]
 have hks:(tl c Z)[r].kind=9->(M.ofA of c.N[i].a).ks.tail=(tl c Z)[r].list.map λx=>M.tr (tl c Z) x.toNat:=λh9=>by
  rw[<-htr,H2a hTs hrl,if_pos (.inr h9),L0a hTs hrl (by omega)];simp
 have HA9:Hid ((tl c Z)[r].kind=9->M.asks c of i=some (c.N[i].list.zip ((tl c Z)[r].list.map λx=>M.tr (tl c Z) x.toNat))/\c.N[i].list.length=(tl c Z)[r].list.length):=λh9=>by
  have e1:=hks h9;constructor
  · unfold M.asks;simp only[M.D3 hi];rw[if_pos hk,if_neg (by rw[<-hkk];omega),e1]
  · rcases hd with hd|hd
    · rw[<-hkk]at hd;omega
    · rw[hd.2,e1,List.length_map]
 have hkd:(tl c Z)[r].kind=5\/(tl c Z)[r].kind=9:=by
  rcases hd with hd|hd
  · exact .inl (by rw[hkk];exact hd)
  · exact .inr (by rw[hkk];exact hd.1)
 have HLS:=A0 (hTs r hrl).lst;have HPE:=A0 (hf.k7 hk).2;have HTL:Hid (∀l u L (x:Int) (p a:Nat),R l u->M.Pe c.N i x->x=(p:Int)->a<(tl c Z).length->M.asks c of i=some L->(x,M.tr (tl c Z) a)∈L->_):=λl u L x p a=>hT.tell l u L x p a;have HRL:=A0 hrl;have hlen:=hB.ok.ls i hi;have HO1:=A0 hlo;have HO2:=A0 hlo2;have hfew:=h.le;have hmf2:=K2d;unfold maxLen at ho3;clear qp qo h hB hL hT hR hf hgx hlo hlo2 hks hkk hd hr htr fz q0 q1 q2 q4 q5 hs hTs;unfold nvl;generalize hnd:c.N[i]=nd at *;clear hnd;generalize (tl c Z)[r]=t at *;obtain⟨kd,va,vb,vc,ls,tx,vn,vt,vp⟩:=nd;obtain⟨tk,tf,tls,tof⟩:=t;simp only at *;subst hk hpa;have A1:=Chg.alloc No w (ndC 7 (p:Int) vb vc (.slice la ls.length lc) tx vn vt vp);have nb:=heap_alloc_new w (ndC 7 (p:Int) vb vc (.slice la ls.length lc) tx vn vt vp);have n1:(w.alloc (ndC 7 (p:Int) vb vc (.slice la ls.length lc) tx vn vt vp)).cell? (aD w.heap.size 1)=some (iV (p:Int)):=cr nb rfl;have n4:(w.alloc (ndC 7 (p:Int) vb vc (.slice la ls.length lc) tx vn vt vp)).cell? (aD w.heap.size 4)=some (.slice la ls.length lc):=cr nb rfl;have q3':=A8 A1 q3;have q6':=A8 A1 q6;have y0':=A8 A1 y0;have A1h:=A0 A1;clear A1 nb q3 q6 y0;rcases hkd with h5|h9
 · have e5:=A0 (HA5.out h5);have HI1:=A0 (HI.out _ A1h.out);have RW:Hid (∀u,Chg No (w.alloc (ndC 7 (p:Int) vb vc (.slice la ls.length lc) tx vn vt vp)) u->R [] u):=λu hu=>HR.out _ (B9 A1h.out hu);subst h5;clear HA5 HA9 HG HLS HPE HTL;go_enter func47,ntmps47;go_wp2_with fail
   refine HI1.out.mono ?_;rintro e w5 ⟨rfl,hc5⟩;have H5:=A0 (RW.out _ hc5);clear hc5;go_wp2_with fail
   refine bodyPost_ret (results_none rfl _ _ _) rfl ?_;exact .inr ⟨rfl,_,e5.out,H5.out⟩
 · obtain⟨e9,hll⟩:=HA9.out h9;have E9:=A0 e9;have HLL:=A0 hll;have HI1:=A0 (HI.out _ A1h.out);subst h9;clear HA5 HA9 e9 HI hll;go_enter func47,ntmps47;go_wp2_with fail
   refine HI1.out.mono ?_;rintro e w5 ⟨rfl,hc5⟩;replace n1:=A8 hc5 n1;replace n4:=A8 hc5 n4;replace q3':=A8 hc5 q3';replace q6':=A8 hc5 q6';replace y0':=A8 hc5 y0';have C5:=A0 (B9 A1h.out hc5);have hpw:=blt q3';have hgw:=blt y0';have hnw:=blt n1;simp only at hpw hgw hnw;clear hc5 A1h HI1;go_wp2_with fail
   go_cut [6] (λv6 wc=>v6= .slice la2 tls.length lc2/\Hid (Chg No w5 wc))
   case first=>
    go_region_with (go_at_call 82;refine(HG.out _ (B9 C5.out (Chg.drewN _ _ 1))).mono ?_;rintro e w6 ⟨rfl,rfl⟩)
    all_goals go_wp2_with fail
    all_goals go_meet
    all_goals exact⟨rfl,by first|exact B9 (Chg.alloc No _ _) (Chg.drewN No _ 1)|exact B9 (Chg.drewN No _ 1) (Chg.alloc No _ _)⟩
   case rest=>
    obtain⟨rfl,CW⟩:=hcut;have CX:=A0 (B9 C5.out CW.out);replace n4:=A8 CW.out n4;have hnw2:=blt n4;simp only at hnw2;have R0:=A0 (HR.out _ CX.out);have O1:=A0 (A3 HO1.out CX.out (λ_ _ x=>x));have O2:=A0 (A3 HO2.out CX.out (λ_ _ x=>x));clear HO1 HO2 HR C5 CX CW HG n1 q3' q6' y0' hpw hgw hnw;go_wp2_with fail
    go_loopw [30] (λv wr=>∃j:Nat,j<=ls.length/\v=iV (j:Int)/\Hid (R ((ls.zip (tls.map λx=>M.tr (tl c Z) x.toNat)).take j) wr)/\Hid (KC wc wr)) (λv _=>ls.length - (intOf v).toNat)
    case atStart=>exact⟨0,wQ _,rfl,R0.out,KC.refl _⟩
    case round=>
     obtain⟨j,hj,rfl,RR,KR⟩:=hrel;by_cases hjl:j<ls.length
     · obtain⟨g2,hla,hg2,hl1,hl2,v0⟩:=D5 (KR.out.row O1.out) hjl;subst hla;have hjt:j<tls.length:=by have:=HLL.out;omega
       obtain⟨g3,hla3,hg3,hl3,hl4,v1⟩:=D5 (KR.out.row O2.out) hjt;subst hla3;have hx:=HPE.out ls[j] (mQ hjl);obtain⟨pj,hpj,-⟩:=id hx;have ha:=HLS.out tls[j] (mQ hjt);obtain⟨aj,haj⟩:∃a:Nat,tls[j]=(a:Int):=⟨tls[j].toNat,by omega⟩;have hrl2:=HRL.out;have hmem:(ls[j],M.tr (tl c Z) aj)∈ls.zip (tls.map λx=>M.tr (tl c Z) x.toNat):=by
        have hz:j<(ls.zip (tls.map λx=>M.tr (tl c Z) x.toNat)).length:=by rw[List.length_zip,List.length_map];omega
        have:=mQ hz;rw[List.getElem_zip,List.getElem_map,haj,tQ]at this;exact this
       have HT:=A0 (HTL.out _ wr _ ls[j] pj aj RR.out hx hpj (by omega) E9.out hmem (by rw[List.length_take];omega));have HZ:Hid ((ls.zip (tls.map λx=>M.tr (tl c Z) x.toNat)).take (j+1)=(ls.zip (tls.map λx=>M.tr (tl c Z) x.toNat)).take j++[(ls[j],M.tr (tl c Z) aj)]):=by
        show _=_;rw[E8c _ _ hjl (by rw[List.length_map];exact hjt),List.getElem_map,haj,tQ]
       rw[hpj]at v0;rw[haj]at v1;have hjt':(j:Int)<(tls.length:Int):=by omega
       unfold maxLen at hl2 hl4;clear hx hpj ha haj hmem;go_wp2_with fail
       refine HT.out.mono ?_;rintro e w7 (⟨⟨x,y,rfl⟩,hP⟩|⟨rfl,hR7,hk7⟩)
       · have HP:=A0 hP;exact⟨rfl,.inl ⟨⟨x,y,rfl⟩,HP.out⟩⟩
       · have R7:=A0 hR7;have K7:=A0 (KR.out.trans hk7);clear hR7 hk7;go_wp2_with fail
         go_roundw
         case rel=>exact⟨j+1,by omega,by go_num,(show R _ _ from by rw[HZ.out];exact R7.out),K7.out⟩
         case measure=>simp[intOf];omega
     · have hje:j=ls.length:=by omega
       subst hje;have HZ:Hid ((ls.zip (tls.map λx=>M.tr (tl c Z) x.toNat)).take ls.length=ls.zip (tls.map λx=>M.tr (tl c Z) x.toNat)):=List.take_of_length_le (by rw[List.length_zip];omega);go_wp2_with fail
       go_end0;exact .inr ⟨rfl,_,E9.out,by rw[<-HZ.out];exact RR.out⟩
theorem I4d(hB:Cbs w0 c pb lb mb qb nv fv)(hL:Lks c Z ofs of i)(hT:TlC w0 c pb lb mb qb nv yv mn fv Z ofs of i kf cp R Pn)(hi:i<c.N.length)(hk:c.N[i].kind=18)(hR:R [] w):
 Calls prog 21 #[pV pb,iV (i:Int),.func (.func kf) #[] cp] w λe w'=>((∃x y,e=gu x y)/\Pn e w')\/(e=rT/\∃L,M.asks c of i=some L/\R L w'):=by
 have hcf:=hT.cf;have h:=hT.st _ _ hR;have hf:=hB.ok.flat i hi;obtain⟨oa,oc,hpb,fz,q0,q1,q2,q3,q4,q5,q6,qp,qo⟩:=h.cell;obtain⟨g,nc,la,lc,hnv,hg,hn1,hn2,⟨x0,x1,x2,x3,x4,x5,x6,x7,x8⟩,hlo,-⟩:=(hB.nrow h.chg).at (Below.refl _ _) i hi;have hlen:=hB.ok.lenN;unfold maxLen at hn2;have hpe:M.Pe c.N i c.N[i].a:=hf.k1 (by omega);obtain⟨p,r,hp,hpx,-⟩:=hL.pe _ hpe;have HA0:M.asks c of i=(some (M.T8 c of (c.ts.getD i 0))).map λt=>[(c.N[i].a,t)]:=by
  unfold M.asks;simp only[M.D3 hi];rw[if_neg (by omega),if_neg (by omega),if_neg (by omega),if_pos hk];rfl
 obtain⟨tt,htt⟩:∃tt,tt=(some (M.T8 c of (c.ts.getD i 0))).getD M.W6:=⟨_,rfl⟩;obtain⟨xx,hxx⟩:∃xx,xx=c.N[i].a:=⟨_,rfl⟩;have RS:∀u,R [] u->Cst w0 u c pb lb mb qb nv yv mn fv Z ofs:=λu hu=>hT.st _ _ hu;obtain⟨j,a0,hj,hjl,hrh,hal0,hatr0,hhas⟩:=hL.has _ (hB.ok.nms.tg i hi (.inr hk));have HLK:Hid (∀u,R [] u->(Instr.lookup 35 (.map (some qb)) (iV (i:Int)) false).run prog u= .ok (iV (j:Int)) u):=λu hu=>by
  have hm:=(hB.nm (RS u hu).chg).get (i:Int) (by omega);rw[hm];unfold nmM;rw[if_pos ⟨by omega,by omega,by rw[tQ,hj];omega⟩,tQ,hj];rfl
 have HF:Hid (∀u,R [] u->Calls prog 48 #[pV pb,iV (j:Int)] u λe u'=>((∃x y,e=gu x y)/\Pn e u')\/∃a:Nat,e= .returned (iV (a:Int))/\a<(tl c Z).length/\some (M.T8 c of (c.ts.getD i 0))=some (M.tr (tl c Z) a)/\R [] u'/\KC u u'):=λu hu=>by
  refine(N8c hB (RS u hu) j hjl hhas).mono ?_;rintro e u' ⟨rfl,hc⟩;exact .inr ⟨a0,by rw[hrh],hal0,by rw[hatr0],hT.still _ _ _ hu hc,KC.still hc⟩
 have HT:Hid (∀(u:World) (a:Nat),a<(tl c Z).length->some (M.T8 c of (c.ts.getD i 0))=some (M.tr (tl c Z) a)->R [] u->Calls prog kf (#[iV (p:Int),iV (a:Int)]++cp) u λe u'=>((∃x y,e=gu x y)/\Pn e u')\/(e=rT/\R [(xx,tt)] u'/\KC u u')):=λu a hal hft hu=>by
  have he:tt=M.tr (tl c Z) a:=by rw[htt,hft];rfl
  have hal2:M.asks c of i=some [(xx,tt)]:=by rw[HA0,hft,hxx,he];rfl
  refine(hT.tell [] u _ xx p a hu (by rw[hxx];exact hpe) (by rw[hxx];exact hpx) hal hal2 (by rw[he];simp) (by simp)).mono ?_;rintro e u' (y|⟨y1,y2,y3⟩)
  · exact .inl y
  · exact .inr ⟨y1,by rw[he];exact y2,y3⟩
 have HA:Hid (∀a:Nat,some (M.T8 c of (c.ts.getD i 0))=some (M.tr (tl c Z) a)->M.asks c of i=some [(xx,tt)]):=λa hft=>by
  rw[HA0,hft,hxx,htt,hft];rfl
 have HR:Hid (∀u,Chg No w u->R [] u):=λu hu=>hT.still _ _ _ hR hu;generalize some (M.T8 c of (c.ts.getD i 0))=FT at *;rw[hpx]at x1;clear qp qo h hB hL hT hR hf hpe hpx htt hxx RS HA0 fz hhas hrh hatr0;generalize hnd:c.N[i]=nd at *;have HND:=A0 hnd;clear hnd;obtain⟨kd,va,vb,vc,ls,tx,vn,vt,vp⟩:=nd;subst hnv;simp only at *;subst hk;have A1:=Chg.alloc No w (ndC 18 (p:Int) vb vc (.slice la ls.length lc) tx vn vt vp);have nb:=heap_alloc_new w (ndC 18 (p:Int) vb vc (.slice la ls.length lc) tx vn vt vp);have n1:(w.alloc (ndC 18 (p:Int) vb vc (.slice la ls.length lc) tx vn vt vp)).cell? (aD w.heap.size 1)=some (iV (p:Int)):=cr nb rfl;have q4':=A8 A1 q4;have A1h:=A0 A1;clear A1 nb;go_enter func21,ntmps21;go_wp2_with fail
 generalize (w.alloc (ndC 18 (p:Int) vb vc (.slice la ls.length lc) tx vn vt vp))=W at *;have S0:Hid (W.drew.cell? (aD w.heap.size 1)=some (iV (p:Int))/\W.drew.cell? (aD pb 4)=some (.map (some qb))/\(Instr.lookup 35 (.map (some qb)) (iV (i:Int)) false).run prog W.drew= .ok (iV (j:Int)) W.drew/\Hid (KC W W.drew/\R [] W.drew)):=⟨n1,q4',HLK.out _ (HR.out _ (B9 A1h.out (Chg.drewN _ _ 1))),⟨KC.still (Chg.drewN _ _ 1),HR.out _ (B9 A1h.out (Chg.drewN _ _ 1))⟩⟩;have n1d:W.cell? (aD w.heap.size 1)=some (iV (p:Int)):=n1;have q4d:W.cell? (aD pb 4)=some (.map (some qb)):=q4';have hn1w:=blt n1d;have hq4w:=blt q4d;simp only at hn1w hq4w;have hlk:(Instr.lookup 35 (.map (some qb)) (iV (i:Int)) false).run prog W.drew= .ok (iV (j:Int)) W.drew:=HLK.out _ (HR.out _ (B9 A1h.out (Chg.drewN _ _ 1)));clear S0 n1 q4' q4;go_region_with (first
  |(go_at_call 48;refine(HF.out _ (HR.out _ (B9 A1h.out (Chg.drewN _ _ 1)))).mono ?_;rintro e w5 (⟨⟨x,y,rfl⟩,hP⟩|⟨a,rfl,hal,hft,hrr,hkc⟩);exact⟨rfl,.inl ⟨⟨x,y,rfl⟩,hP⟩⟩;have n1e:=hkc.cell n1d)
  |(refine(HT.out _ a hal hft hrr).mono ?_;rintro e w6 (⟨⟨x,y,rfl⟩,hP⟩|⟨rfl,hR6,hkc2⟩);exact⟨rfl,.inl ⟨⟨x,y,rfl⟩,hP⟩⟩))
 all_goals
  have H6:=A0 hR6;have HAA:=A0 (HA.out a hft);clear hR6 hkc2 hkc hrr hft;go_wp2_with fail
  go_end0;exact .inr ⟨rfl,_,HAA.out,H6.out⟩
theorem I3d(hB:Cbs w0 c pb lb mb qb nv fv)(hL:Lks c Z ofs of i)(hT:TlC w0 c pb lb mb qb nv yv mn fv Z ofs of i kf cp R Pn)(hi:i<c.N.length)(hk:c.N[i].kind=19)(hR:R [] w):
 Calls prog 21 #[pV pb,iV (i:Int),.func (.func kf) #[] cp] w λe w'=>((∃x y,e=gu x y)/\Pn e w')\/(e=rT/\∃L,M.asks c of i=some L/\R L w'):=by
 have hcf:=hT.cf;have h:=hT.st _ _ hR;have hf:=hB.ok.flat i hi;obtain⟨oa,oc,hpb,fz,q0,q1,q2,q3,q4,q5,q6,qp,qo⟩:=h.cell;obtain⟨g,nc,la,lc,hnv,hg,hn1,hn2,⟨x0,x1,x2,x3,x4,x5,x6,x7,x8⟩,hlo,-⟩:=(hB.nrow h.chg).at (Below.refl _ _) i hi;have hlen:=hB.ok.lenN;unfold maxLen at hn2;have hpe:M.Pe c.N i c.N[i].b:=(hf.k2 (by omega)).2;obtain⟨p,r,hp,hpx,-⟩:=hL.pe _ hpe;have HA0:M.asks c of i=(M.J4 of c.N[i]).map λt=>[(c.N[i].b,t)]:=by
  unfold M.asks;simp only[M.D3 hi];rw[if_neg (by omega),if_neg (by omega),if_neg (by omega),if_neg (by omega),if_pos hk]
 obtain⟨tt,htt⟩:∃tt,tt=(M.J4 of c.N[i]).getD M.W6:=⟨_,rfl⟩;obtain⟨xx,hxx⟩:∃xx,xx=c.N[i].b:=⟨_,rfl⟩;have RS:∀u,R [] u->Cst w0 u c pb lb mb qb nv yv mn fv Z ofs:=λu hu=>hT.st _ _ hu;obtain⟨pa,ra,hpa1,hpa2,hpa3,hpa4,hpa5⟩:=hL.pe _ (hf.k2 (by omega)).1;have HF:Hid (∀u,R [] u->Calls prog 49 #[pV pb,iV (i:Int)] u λe u'=>((∃x y,e=gu x y)/\Pn e u')\/∃a:Nat,e= .returned (iV (a:Int))/\a<(tl c Z).length/\M.J4 of c.N[i]=some (M.tr (tl c Z) a)/\R [] u'/\KC u u'):=λu hu=>by
  refine(X8b hB (RS u hu) i hi pa hpa1 hpa2 ra hpa3 hpa4 hpa5.symm).mono ?_;rintro e u' ⟨hc,hm⟩;revert hm;cases hft:M.J4 of c.N[i] with
  |none=>
   intro hm;refine .inl ⟨⟨_,_,hm⟩, ?_⟩;have hm':e=gu 9 (atI c.N i):=hm;subst hm';have hno:M.asks c of i=none:=by rw[HA0,hft];rfl
   exact hT.bad _ _ _ hu hc hno
  |some t=>
   intro hm;obtain⟨hC,a,rfl,hal,htr⟩:=hm;exact .inr ⟨a,rfl,hal,by rw[htr],hT.memo _ _ _ hu hc hC,(RS u hu).kc hc⟩
 have HT:Hid (∀(u:World) (a:Nat),a<(tl c Z).length->M.J4 of c.N[i]=some (M.tr (tl c Z) a)->R [] u->Calls prog kf (#[iV (p:Int),iV (a:Int)]++cp) u λe u'=>((∃x y,e=gu x y)/\Pn e u')\/(e=rT/\R [(xx,tt)] u'/\KC u u')):=λu a hal hft hu=>by
  have he:tt=M.tr (tl c Z) a:=by rw[htt,hft];rfl
  have hal2:M.asks c of i=some [(xx,tt)]:=by rw[HA0,hft,hxx,he];rfl
  refine(hT.tell [] u _ xx p a hu (by rw[hxx];exact hpe) (by rw[hxx];exact hpx) hal hal2 (by rw[he];simp) (by simp)).mono ?_;rintro e u' (y|⟨y1,y2,y3⟩)
  · exact .inl y
  · exact .inr ⟨y1,by rw[he];exact y2,y3⟩
 have HA:Hid (∀a:Nat,M.J4 of c.N[i]=some (M.tr (tl c Z) a)->M.asks c of i=some [(xx,tt)]):=λa hft=>by
  rw[HA0,hft,hxx,htt,hft];rfl
 have HR:Hid (∀u,Chg No w u->R [] u):=λu hu=>hT.still _ _ _ hR hu;generalize M.J4 of c.N[i]=FT at *;rw[hpx]at x2;clear qp qo h hB hL hT hR hf hpe hpx htt hxx RS HA0 fz hpa1 hpa2 hpa3 hpa4 hpa5;generalize hnd:c.N[i]=nd at *;have HND:=A0 hnd;clear hnd;obtain⟨kd,va,vb,vc,ls,tx,vn,vt,vp⟩:=nd;subst hnv;simp only at *;subst hk;have A1:=Chg.alloc No w (ndC 19 va (p:Int) vc (.slice la ls.length lc) tx vn vt vp);have nb:=heap_alloc_new w (ndC 19 va (p:Int) vc (.slice la ls.length lc) tx vn vt vp);have n1:(w.alloc (ndC 19 va (p:Int) vc (.slice la ls.length lc) tx vn vt vp)).cell? (aD w.heap.size 2)=some (iV (p:Int)):=cr nb rfl;have A1h:=A0 A1;clear A1 nb;go_enter func21,ntmps21;go_wp2_with fail
 generalize (w.alloc (ndC 19 va (p:Int) vc (.slice la ls.length lc) tx vn vt vp))=W at *;have S0:Hid (W.drew.cell? (aD w.heap.size 2)=some (iV (p:Int))/\Hid (KC W W.drew/\R [] W.drew)):=⟨n1,⟨KC.still (Chg.drewN _ _ 1),HR.out _ (B9 A1h.out (Chg.drewN _ _ 1))⟩⟩;have n1d:W.cell? (aD w.heap.size 2)=some (iV (p:Int)):=n1;have hn1w:=blt n1d;simp only at hn1w;clear S0 n1;go_region_with (first
  |(go_at_call 49;refine(HF.out _ (HR.out _ (B9 A1h.out (Chg.drewN _ _ 1)))).mono ?_;rintro e w5 (⟨⟨x,y,rfl⟩,hP⟩|⟨a,rfl,hal,hft,hrr,hkc⟩);exact⟨rfl,.inl ⟨⟨x,y,rfl⟩,hP⟩⟩;have n1e:=hkc.cell n1d)
  |(refine(HT.out _ a hal hft hrr).mono ?_;rintro e w6 (⟨⟨x,y,rfl⟩,hP⟩|⟨rfl,hR6,hkc2⟩);exact⟨rfl,.inl ⟨⟨x,y,rfl⟩,hP⟩⟩))
 all_goals
  have H6:=A0 hR6;have HAA:=A0 (HA.out a hft);clear hR6 hkc2 hkc hrr hft;go_wp2_with fail
  go_end0;exact .inr ⟨rfl,_,HAA.out,H6.out⟩
theorem I2d(hB:Cbs w0 c pb lb mb qb nv fv)(hL:Lks c Z ofs of i)(hT:TlC w0 c pb lb mb qb nv yv mn fv Z ofs of i kf cp R Pn)(hi:i<c.N.length)(hk:c.N[i].kind=20)(hR:R [] w):
 Calls prog 21 #[pV pb,iV (i:Int),.func (.func kf) #[] cp] w λe w'=>((∃x y,e=gu x y)/\Pn e w')\/(e=rT/\∃L,M.asks c of i=some L/\R L w'):=by
 have hcf:=hT.cf;have h:=hT.st _ _ hR;have hf:=hB.ok.flat i hi;obtain⟨oa,oc,hpb,fz,q0,q1,q2,q3,q4,q5,q6,qp,qo⟩:=h.cell;obtain⟨g,nc,la,lc,hnv,hg,hn1,hn2,⟨x0,x1,x2,x3,x4,x5,x6,x7,x8⟩,hlo,-⟩:=(hB.nrow h.chg).at (Below.refl _ _) i hi;have hlen:=hB.ok.lenN;unfold maxLen at hn2;have hpe:M.Pe c.N i c.N[i].c:=(hf.k20 hk).2.2;obtain⟨p,r,hp,hpx,-⟩:=hL.pe _ hpe;have HA0:M.asks c of i=(M.J0 of c.N[i]).map λt=>[(c.N[i].c,t)]:=by
  unfold M.asks;simp only[M.D3 hi];rw[if_neg (by omega),if_neg (by omega),if_neg (by omega),if_neg (by omega),if_neg (by omega),if_pos hk]
 obtain⟨tt,htt⟩:∃tt,tt=(M.J0 of c.N[i]).getD M.W6:=⟨_,rfl⟩;obtain⟨xx,hxx⟩:∃xx,xx=c.N[i].c:=⟨_,rfl⟩;have RS:∀u,R [] u->Cst w0 u c pb lb mb qb nv yv mn fv Z ofs:=λu hu=>hT.st _ _ hu;obtain⟨pa,ra,hpa1,hpa2,hpa3,hpa4,hpa5⟩:=hL.pe _ (hf.k20 hk).1;obtain⟨pc,rc,hpc1,hpc2,hpc3,hpc4,hpc5⟩:=hL.pe _ (hf.k20 hk).2.1;have HF:Hid (∀u,R [] u->Calls prog 50 #[pV pb,iV (i:Int)] u λe u'=>((∃x y,e=gu x y)/\Pn e u')\/∃a:Nat,e= .returned (iV (a:Int))/\a<(tl c Z).length/\M.J0 of c.N[i]=some (M.tr (tl c Z) a)/\R [] u'/\KC u u'):=λu hu=>by
  refine(W2b hB (RS u hu) i hi pa hpa1 hpa2 ra hpa3 hpa4 hpa5.symm pc hpc1 hpc2 rc hpc3 hpc4 hpc5.symm).mono ?_;rintro e u' ⟨hc,hm⟩;revert hm;cases hft:M.J0 of c.N[i] with
  |none=>
   intro hm;refine .inl ⟨⟨_,_,hm⟩, ?_⟩;have hm':e=gu 9 (atI c.N i):=hm;subst hm';have hno:M.asks c of i=none:=by rw[HA0,hft];rfl
   exact hT.bad _ _ _ hu hc hno
  |some t=>
   intro hm;obtain⟨hC,a,rfl,hal,htr⟩:=hm;exact .inr ⟨a,rfl,hal,by rw[htr],hT.memo _ _ _ hu hc hC,(RS u hu).kc hc⟩
 have HT:Hid (∀(u:World) (a:Nat),a<(tl c Z).length->M.J0 of c.N[i]=some (M.tr (tl c Z) a)->R [] u->Calls prog kf (#[iV (p:Int),iV (a:Int)]++cp) u λe u'=>((∃x y,e=gu x y)/\Pn e u')\/(e=rT/\R [(xx,tt)] u'/\KC u u')):=λu a hal hft hu=>by
  have he:tt=M.tr (tl c Z) a:=by rw[htt,hft];rfl
  have hal2:M.asks c of i=some [(xx,tt)]:=by rw[HA0,hft,hxx,he];rfl
  refine(hT.tell [] u _ xx p a hu (by rw[hxx];exact hpe) (by rw[hxx];exact hpx) hal hal2 (by rw[he];simp) (by simp)).mono ?_;rintro e u' (y|⟨y1,y2,y3⟩)
  · exact .inl y
  · exact .inr ⟨y1,by rw[he];exact y2,y3⟩
 have HA:Hid (∀a:Nat,M.J0 of c.N[i]=some (M.tr (tl c Z) a)->M.asks c of i=some [(xx,tt)]):=λa hft=>by
  rw[HA0,hft,hxx,htt,hft];rfl
 have HR:Hid (∀u,Chg No w u->R [] u):=λu hu=>hT.still _ _ _ hR hu;generalize M.J0 of c.N[i]=FT at *;rw[hpx]at x3;clear qp qo h hB hL hT hR hf hpe hpx htt hxx RS HA0 fz hpa1 hpa2 hpa3 hpa4 hpa5 hpc1 hpc2 hpc3 hpc4 hpc5;generalize hnd:c.N[i]=nd at *;have HND:=A0 hnd;clear hnd;obtain⟨kd,va,vb,vc,ls,tx,vn,vt,vp⟩:=nd;subst hnv;simp only at *;subst hk;have A1:=Chg.alloc No w (ndC 20 va vb (p:Int) (.slice la ls.length lc) tx vn vt vp);have nb:=heap_alloc_new w (ndC 20 va vb (p:Int) (.slice la ls.length lc) tx vn vt vp);have n1:(w.alloc (ndC 20 va vb (p:Int) (.slice la ls.length lc) tx vn vt vp)).cell? (aD w.heap.size 3)=some (iV (p:Int)):=cr nb rfl;have A1h:=A0 A1;clear A1 nb;go_enter func21,ntmps21;go_wp2_with fail
 generalize (w.alloc (ndC 20 va vb (p:Int) (.slice la ls.length lc) tx vn vt vp))=W at *;have S0:Hid (W.drew.cell? (aD w.heap.size 3)=some (iV (p:Int))/\Hid (KC W W.drew/\R [] W.drew)):=⟨n1,⟨KC.still (Chg.drewN _ _ 1),HR.out _ (B9 A1h.out (Chg.drewN _ _ 1))⟩⟩;have n1d:W.cell? (aD w.heap.size 3)=some (iV (p:Int)):=n1;have hn1w:=blt n1d;simp only at hn1w;clear S0 n1;go_region_with (first
  |(go_at_call 50;refine(HF.out _ (HR.out _ (B9 A1h.out (Chg.drewN _ _ 1)))).mono ?_;rintro e w5 (⟨⟨x,y,rfl⟩,hP⟩|⟨a,rfl,hal,hft,hrr,hkc⟩);exact⟨rfl,.inl ⟨⟨x,y,rfl⟩,hP⟩⟩;have n1e:=hkc.cell n1d)
  |(refine(HT.out _ a hal hft hrr).mono ?_;rintro e w6 (⟨⟨x,y,rfl⟩,hP⟩|⟨rfl,hR6,hkc2⟩);exact⟨rfl,.inl ⟨⟨x,y,rfl⟩,hP⟩⟩))
 all_goals
  have H6:=A0 hR6;have HAA:=A0 (HA.out a hft);clear hR6 hkc2 hkc hrr hft;go_wp2_with fail
  go_end0;exact .inr ⟨rfl,_,HAA.out,H6.out⟩
end
end Go.Proofs.YtfhhipefecekkaaGreatDoor
