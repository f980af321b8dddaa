/-
  A part of the proof.
-/
import Derived.Test.YtfhhipefecekkaaGreatDoorDaw
set_option maxHeartbeats 16000000
set_option maxRecDepth 100000
namespace Go.Proofs.YtfhhipefecekkaaGreatDoor
open Go.Proofs.Tryz
open Go.RowKit Go.Maps
section
variable{w0 w:World}{c:M.Cx}{pb lb mb qb:Nat}{nv yv fv:Value}{mn:Int}{Z:List M.Ty}{ofs:List Int}{of:M.Of}{i:Nat}{kf:FuncId}{cp:Array Value}{R:List (Int×M.Tr)->World->Prop}{Pn:Ending->World->Prop}
theorem O6d(hB:Cbs w0 c pb lb mb qb nv fv)(hL:Lks c Z ofs of i)(hT:TlC w0 c pb lb mb qb nv yv mn fv Z ofs of i kf cp R Pn)(hi:i<c.N.length)(hk:c.N[i].kind=7)(hd:(M.ofA of c.N[i].a).k=5\/((M.ofA of c.N[i].a).k=9/\c.N[i].list.length=(M.ofA of c.N[i].a).ks.tail.length))(hR:R [] w):
 Calls prog 21 #[pV pb,iV (i:Int),.func (.func kf) #[] cp] w λe w'=>((∃x y,e=gu x y)/\Pn e w')\/(e=rT/\∃L,M.asks c of i=some L/\R L w'):=by
 have hcf:=hT.cf;have h:=hT.st _ _ hR;obtain⟨oa,oc,hpb,fz,q0,q1,q2,q3,q4,q5,q6,qp,qo⟩:=h.cell;obtain⟨g,nc,la,lc,hnv,hg,hn1,hn2,⟨x0,x1,x2,x3,x4,x5,x6,x7,x8⟩,hlo,-⟩:=(hB.nrow h.chg).at (Below.refl _ _) i hi;have hlen:=hB.ok.lenN;have HH:Hid (∀u,Chg No w u->_):=λu hu=>G5d hB hL hT hi hk hd la lc (A3 hlo hu (λ_ _ x=>x)) (hT.still _ _ _ hR hu);unfold maxLen at hn2;clear qp qo h hB hL hT hR q1 q2 q3 q4 q5 q6 hlo hd;unfold nvl at HH;generalize hnd:c.N[i]=nd at *;clear hnd;obtain⟨kd,va,vb,vc,ls,tx,vn,vt,vp⟩:=nd;subst hnv;simp only at *;subst hk;have A1:=A0 (Chg.alloc No w (ndC 7 va vb vc (.slice la ls.length lc) tx vn vt vp));go_enter func21,ntmps21;go_wp2_with fail
 refine(HH.out _ A1.out).mono ?_;rintro e w5 (⟨⟨x,y,rfl⟩,hP⟩|⟨rfl,L,hL5,hR5⟩)
 · have HP:=A0 hP;exact⟨rfl,.inl ⟨⟨x,y,rfl⟩,HP.out⟩⟩
 · have HR5:=A0 hR5;have HL5:=A0 hL5;clear hR5 hL5;go_wp2_with fail
   go_end0;exact .inr ⟨rfl,_,HL5.out,HR5.out⟩
theorem M7b(hB:Cbs w0 c pb lb mb qb nv fv)(hL:Lks c Z ofs of i)(hT:TlC w0 c pb lb mb qb nv yv mn fv Z ofs of i kf cp R Pn)(hi:i<c.N.length)(h7:c.N[i].kind=7->(M.ofA of c.N[i].a).k=5\/((M.ofA of c.N[i].a).k=9/\c.N[i].list.length=(M.ofA of c.N[i].a).ks.tail.length))(h24:c.N[i].kind=24->c.fn.getD i 0≠-1)(hR:R [] w):
 Calls prog 21 #[pV pb,iV (i:Int),.func (.func kf) #[] cp] w λe w'=>((∃x y,e=gu x y)/\Pn e w')\/(e=rT/\∃L,M.asks c of i=some L/\R L w'):=by
 by_cases k7:c.N[i].kind=7
 · exact O6d hB hL hT hi k7 (h7 k7) hR
 by_cases k14:c.N[i].kind=14
 · exact I6d hB hL hT hi k14 hR
 by_cases k17:c.N[i].kind=17/\c.N[i].ty≠-1
 · exact I5d hB hL hT hi k17.1 k17.2 hR
 by_cases k18:c.N[i].kind=18
 · exact I4d hB hL hT hi k18 hR
 by_cases k19:c.N[i].kind=19
 · exact I3d hB hL hT hi k19 hR
 by_cases k20:c.N[i].kind=20
 · exact I2d hB hL hT hi k20 hR
 by_cases k24:c.N[i].kind=24
 · exact I1d hB hL hT hi k24 (h24 k24) hR
 exact O7d hB hL hT hi ⟨k7,k14,λh=>by
  by_cases ht:c.N[i].ty= -1
  · exact ht
  · exact absurd ⟨h,ht⟩ k17,k18,k19,k20,k24⟩ hR
end
section
variable{w0 w:World}{c:M.Cx}{pb lb mb qb:Nat}{nv yv fv:Value}{mn:Int}{Z:List M.Ty}{ofs:List Int}{of:M.Of}{i:Nat}
theorem D5c(hB:Cbs w0 c pb lb mb qb nv fv)(h:Cst w0 w c pb lb mb qb nv yv mn fv Z ofs)(hi:i<c.N.length){bp bi:Nat}(h1:w.heap[bp]? =some (.cells #[pV pb] 32 (0,0)))(h2:w.heap[bi]? =some (.cells #[iV (i:Int)] 3 (0,0)))
 (p:Nat) (hl:Lk c Z ofs of (p:Int)) (a:Nat) (ha:a<(tl c Z).length):
 Calls prog 108 #[iV (p:Int),iV (a:Int),pV bp,pV bi] w (FtQ w0 w c pb lb mb qb nv yv mn fv Z ofs i (M.D9 (M.ofA of (p:Int)) (M.tr (tl c Z) a))):=by
 obtain⟨p',r,hp,e,hr,hrl,htr⟩:=hl;have:p=p':=by omega
 subst this;have HF:=A0 (C1d hB h i hi p hp r hr hrl a ha);rw[htr]at HF;have c1:w.cell? (aD bp 0)=some (pV pb):=cr h1 rfl;have c2:w.cell? (aD bi 0)=some (iV (i:Int)):=cr h2 rfl;have l1:=(ltG h1);have l2:=(ltG h2);clear h1 h2 h hB hr htr e;generalize M.D9 (M.ofA of (p:Int)) (M.tr (tl c Z) a)=b at *;go_enter func108,ntmps108;go_wp2_with fail
 refine HF.out.mono ?_;rintro e w5 hq;rcases FtQ.part hq with ⟨rfl,rfl,hc⟩|⟨rfl,rfl,hc,hC⟩
 · exact⟨rfl,hc,rfl⟩
 · have HC:=A0 hc;have HCC:=A0 hC;clear hc hC hq;go_wp2_with fail
   go_end0;exact⟨HC.out,rfl,HCC.out⟩
def RFa(w0 w1:World)(c:M.Cx)(pb lb mb qb:Nat)(nv yv:Value)(mn:Int)(fv:Value)(Z:List M.Ty)(ofs:List Int)(of:M.Of)(i bp bi:Nat)(l:List (Int×M.Tr))(u:World):Prop:=
 Chg (λk=>k=mb) w1 u/\Cst w0 u c pb lb mb qb nv yv mn fv Z ofs/\u.heap[bp]? =some (.cells #[pV pb] 32 (0,0))/\u.heap[bi]? =some (.cells #[iV (i:Int)] 3 (0,0))/\∀q∈l,M.D9 (M.ofA of q.1) q.2=true
theorem U3c(hB:Cbs w0 c pb lb mb qb nv fv)(hL:Lks c Z ofs of i)(hi:i<c.N.length)(w1:World)(bp bi:Nat):
 TlC w0 c pb lb mb qb nv yv mn fv Z ofs of i 108 #[pV bp,pV bi] (RFa w0 w1 c pb lb mb qb nv yv mn fv Z ofs of i bp bi) (λe u=>e=gu 9 (atI c.N i)/\Chg (λk=>k=mb) w1 u/\M.S8 c of i=false) where
 cf _ _:=by go_simp
 st l u h:=h.2.1
 still l u u' h hc:=⟨h.1.trans hc (λ_ _ x=>x.elim),h.2.1.still hc,D6 hc h.2.2.1,D6 hc h.2.2.2.1,h.2.2.2.2⟩
 memo l u u' h hc hC:=⟨h.1.trans hc (λ_ _ x=>x),hC,h.2.1.blk hc h.2.2.1,h.2.1.blk hc h.2.2.2.1,h.2.2.2.2⟩
 bad l u u' h hc hn:=⟨rfl,h.1.trans hc (λ_ _ x=>x),by unfold M.S8;rw[hn]⟩
 tell l u L x p a h hx hp ha hL2 hm _:=by
  have hlk:=hL.pe x hx;rw[hp]at hlk;refine(D5c (of:=of) hB h.2.1 hi h.2.2.1 h.2.2.2.1 p hlk a ha).mono ?_;intro e u' hq;rcases FtQ.part hq with ⟨rfl,hb,hc⟩|⟨rfl,hb,hc,hC⟩
  · refine .inl ⟨⟨_,_,rfl⟩,rfl,h.1.trans hc (λ_ _ x=>x), ?_⟩;unfold M.S8;rw[hL2];simp only;rw[Bool.eq_false_iff];intro hall;have:=List.all_eq_true.1 hall _ hm;simp only[hp]at this;rw[hb]at this;cases this
  · refine .inr ⟨rfl,⟨h.1.trans hc (λ_ _ x=>x),hC,h.2.1.blk hc h.2.2.1,h.2.1.blk hc h.2.2.2.1,λq hq=> ?_⟩,h.2.1.kc hc⟩;rcases qW.1 hq with hq|hq
    · exact h.2.2.2.2 q hq
    · simp only[zW]at hq;subst hq;simp only[hp];exact hb
theorem K7b(hB:Cbs w0 c pb lb mb qb nv fv)(hL:Lks c Z ofs of i)(h:Cst w0 w c pb lb mb qb nv yv mn fv Z ofs)(hi:i<c.N.length)(h7:c.N[i].kind=7->(M.ofA of c.N[i].a).k=5\/((M.ofA of c.N[i].a).k=9/\c.N[i].list.length=(M.ofA of c.N[i].a).ks.tail.length))(h24:c.N[i].kind=24->c.fn.getD i 0≠-1):
 Calls prog 76 #[pV pb,iV (i:Int)] w (FtQ w0 w c pb lb mb qb nv yv mn fv Z ofs i (M.S8 c of i)):=by
 have A2:Chg No w ((w.alloc (.cells #[pV pb] 32)).alloc (.cells #[iV (i:Int)] 3)):=B9 (Chg.alloc _ _ _) (Chg.alloc _ _ _);have b1:((w.alloc (.cells #[pV pb] 32)).alloc (.cells #[iV (i:Int)] 3)).heap[w.heap.size]? =some (.cells #[pV pb] 32 (0,0)):=(Below.heap_alloc _ _ _ (by simp)).trans (heap_alloc_new w _);have b2:((w.alloc (.cells #[pV pb] 32)).alloc (.cells #[iV (i:Int)] 3)).heap[w.heap.size+1]? =some (.cells #[iV (i:Int)] 3 (0,0)):=by
  have:=heap_alloc_new (w.alloc (.cells #[pV pb] 32)) (.cells #[iV (i:Int)] 3);simpa using this
 have HX:=A0 (M7b (w:=(w.alloc (.cells #[pV pb] 32)).alloc (.cells #[iV (i:Int)] 3)) hB hL (U3c (yv:=yv) (mn:=mn) hB hL hi ((w.alloc (.cells #[pV pb] 32)).alloc (.cells #[iV (i:Int)] 3)) w.heap.size (w.heap.size+1)) hi h7 h24 ⟨Chg.refl _ _,h.still A2,b1,b2,λq hq=>by simp at hq⟩);have hmf:=mkf;have A2h:=A0 A2;clear A2 b1 b2 h hB hL h7 h24;go_enter func76,ntmps76;go_wp2_with fail
 refine HX.out.mono ?_;rintro e w5 (⟨⟨x,y,hg⟩,hP⟩|⟨rfl,L,hL5,hR5⟩)
 · subst hg;have H:=A0 hP;exact⟨rfl,(A2h.out.mono (λ_ _ x=>x.elim)).trans H.out.2.1 (λ_ _ x=>x),by rw[H.out.2.2];exact H.out.1⟩
 · have HQ:Hid (FtQ w0 w c pb lb mb qb nv yv mn fv Z ofs i (M.S8 c of i) (rT) w5):=by
    have ht:M.S8 c of i=true:=by
     unfold M.S8;rw[hL5];exact List.all_eq_true.2 hR5.2.2.2.2
    rw[ht];exact⟨(A2h.out.mono (λ_ _ x=>x.elim)).trans hR5.1 (λ_ _ x=>x),rfl,hR5.2.1⟩
   clear hL5 hR5;go_wp2_with fail
   go_end0;exact HQ.out
theorem H8d(hB:Cbs w0 c pb lb mb qb nv fv)(hL:Lks c Z ofs of i)(h:Cst w0 w c pb lb mb qb nv yv mn fv Z ofs)(hi:i<c.N.length)(hk:c.N[i].kind=7):
 Calls prog 77 #[pV pb,iV (i:Int)] w (ExQ w0 w c pb lb mb qb nv yv mn fv Z ofs i (M.A7a c of i)):=by
 have hf:=hB.ok.flat i hi;obtain⟨oa,oc,hpb,fz,q0,q1,q2,q3,q4,q5,q6,qp,qo⟩:=h.cell;obtain⟨p,r,hp,hpa,hr,hrl,htr⟩:=hL.pe _ (hf.k7 hk).1;obtain⟨go,rfl,ho0,ho1,ho2,ho3,y0,-⟩:=qo p hp;rw[hr]at y0;obtain⟨g,nc,la,lc,hnv,hg,hn1,hn2,⟨x0,x1,x2,x3,x4,x5,x6,x7,x8⟩,-,-⟩:=(hB.nrow h.chg).at (Below.refl _ _) i hi;have hlen:=hB.ok.lenN;have hT:=h.ts;unfold maxLen at hn2 ho3;obtain⟨D,hs⟩:=h.sho;obtain⟨gt,ct,fa,fc,la2,lc2,z0,z1,z2,z3,z4,-,hgx⟩:=O2c r w hrl hs;have HG:=A0 hgx;have HW:Hid (∀u,Chg No w u->_):=λu hu=>G0a hB (h.still hu) i hi;have hkk:(tl c Z)[r].kind=(M.ofA of c.N[i].a).k:=by rw[<-htr,Y5 hT hrl]
 have hks:(tl c Z)[r].kind=9->(M.ofA of c.N[i].a).ks=M.tr (tl c Z) (tl c Z)[r].of'.toNat::(tl c Z)[r].list.map λx=>M.tr (tl c Z) x.toNat:=λh9=>by
  rw[<-htr,H2a hT hrl,if_pos (.inr h9),L0a hT hrl (by omega)];simp
 have HFA:Hid ((tl c Z)[r].kind=9->c.N[i].list.length=(tl c Z)[r].list.length->∀u,Chg No w u->_):=λh9 hll u hu=>K7b hB hL (h.still hu) hi (λ_=> .inr ⟨by rw[<-hkk];exact h9,by rw[hks h9,List.tail_cons,List.length_map];exact hll⟩) (λh24=>by omega);have H0:=A0 h;have E5:Hid ((tl c Z)[r].kind=5->M.A7a c of i=some (M.tr (tl c Z) r)):=λh5=>by
  unfold M.A7a;simp only[M.D3 hi];rw[if_pos (by rw[<-hkk];exact h5),htr]
 have EN:Hid ((tl c Z)[r].kind≠5->((tl c Z)[r].kind≠9\/c.N[i].list.length≠(tl c Z)[r].list.length)->M.A7a c of i=none):=λh5 hn=>by
  unfold M.A7a;simp only[M.D3 hi];rw[if_neg (by rw[<-hkk];exact h5),if_pos];by_cases h9:(tl c Z)[r].kind=9
  · right;rw[hks h9,List.tail_cons,List.length_map];exact hn.resolve_left (λx=>x h9)
  · left;rw[<-hkk];exact h9
 have E9:Hid ((tl c Z)[r].kind=9->c.N[i].list.length=(tl c Z)[r].list.length->(M.A7a c of i=if M.S8 c of i=true then some (M.tr (tl c Z) (tl c Z)[r].of'.toNat) else none)/\0<=(tl c Z)[r].of'/\(tl c Z)[r].of'<(r:Int)):=λh9 hll=>by
  refine⟨?_,(hT r hrl).of (.inr h9)⟩;unfold M.A7a;simp only[M.D3 hi];rw[if_neg (by rw[<-hkk];omega),if_neg,hks h9]
  · rfl
  · rw[<-hkk,hks h9,List.tail_cons,List.length_map];simp[h9,hll]
 have HRL:=A0 hrl;rw[hpa]at x1;clear qp qo h hr hs hB hL hpa htr hf hgx hkk hks;generalize M.S8 c of i=b at *;generalize M.A7a c of i=FT at *;generalize c.N[i]=nd at *;generalize (tl c Z)[r]=t at *;obtain⟨kd,va,vb,vc,ls,tx,vn,vt,vp⟩:=nd;obtain⟨tk,tf,tls,tof⟩:=t;subst hnv;simp only at *;subst hk;have A1:=Chg.alloc No w (ndC 7 (p:Int) vb vc (.slice la ls.length lc) tx vn vt vp);have nb:=heap_alloc_new w (ndC 7 (p:Int) vb vc (.slice la ls.length lc) tx vn vt vp);have n1:(w.alloc (ndC 7 (p:Int) vb vc (.slice la ls.length lc) tx vn vt vp)).cell? (aD w.heap.size 1)=some (iV (p:Int)):=cr nb rfl;have n4:(w.alloc (ndC 7 (p:Int) vb vc (.slice la ls.length lc) tx vn vt vp)).cell? (aD w.heap.size 4)=some (.slice la ls.length lc):=cr nb rfl;replace q3:=A8 A1 q3;replace q6:=A8 A1 q6;replace y0:=A8 A1 y0;replace z0:=A8 A1 z0;replace z1:=A8 A1 z1;replace z2:=A8 A1 z2;replace z3:=A8 A1 z3;replace z4:=A8 A1 z4;have hpw:=blt q3;have hgw:=blt y0;have hlw:=blt z0;have htw:=blt z1;have hnw:=blt n1;simp only at hpw hgw hlw htw hnw;have A1h:=A0 A1;clear A1 nb;go_enter func77,ntmps77;go_wp2_with fail
 clear q0 q1 q2 q4 q5 fz x0 x1 x2 x3 x4 x5 x6 x7 x8 hpb hg ho0 ho1;generalize (w.alloc (ndC 7 (p:Int) vb vc (.slice la ls.length lc) tx vn vt vp))=W at *;go_cut [6] (λv6 wc=>∃q:Nat,v6=pV q/\Hid (Chg No W wc)/\wc.cell? (aD q 0)=some (iV tk)/\wc.cell? (aD q 2)=some (.slice la2 tls.length lc2)/\wc.cell? (aD q 3)=some (iV tof))
 case first=>
  go_region_held3 (λw'=>w'.cell? (aD pb 3)=some (pV lb)/\w'.cell? (aD pb 6)=some (.slice (some (aD go 0)) ofs.length oc)/\w'.cell? (aD go p)=some (iV (r:Int))/\w'.cell? (aD w.heap.size 1)=some (iV (p:Int))/\
   w'.cell? (aD lb 0)=some (.slice (some (aD gt 0)) (tl c Z).length ct)/\w'.cell? (aD gt (r * 4))=some (iV tk)/\w'.cell? (aD gt (r * 4+1))=some (.slice fa tf.length fc)/\w'.cell? (aD gt (r * 4+2))=some (.slice la2 tls.length lc2)/\w'.cell? (aD gt (r * 4+3))=some (iV tof))
   (go_keep)
   (first
    |((go_at_call 82;go_split_ands;refine(HG.out _ (by assumption) (by assumption) (by assumption) (by assumption) (by assumption)).mono ?_;rintro e w' ⟨rfl,rfl⟩)))
  all_goals go_wp2_with fail
  all_goals go_meet
  all_goals exact⟨_,rfl,B9 (B9 (Chg.alloc No _ _) (Chg.alloc No _ _)) (Chg.drewN No _ 1),by simp[go_sem],by simp[go_sem],by simp[go_sem]⟩
 case rest=>
  obtain⟨q,rfl,CW,t0,t2,t3⟩:=hcut;have CX:=A0 (B9 A1h.out CW.out);replace q6:=A8 CW.out q6;replace y0:=A8 CW.out y0;replace n1:=A8 CW.out n1;replace n4:=A8 CW.out n4;have hpw2:=blt q6;have hgw2:=blt y0;have hnw2:=blt n1;have hqw2:=blt t0;simp only at hpw2 hgw2 hnw2 hqw2;clear z0 z1 z2 z3 z4 hpw hgw hlw htw hnw HG A1h CW q3;by_cases h5:tk=5
  · have e5:=A0 (E5.out h5);subst h5;clear E5 E9 EN HFA;go_wp2_with fail
    go_quiet (fail)
    go_wp2_with fail
    go_ret;exact⟨(B9 CX.out (Chg.drewN No _ _)).mono (λ_ _ x=>x.elim),by rw[e5.out];exact⟨H0.out.still (B9 CX.out (Chg.drewN No _ _)),r,rfl,HRL.out,rfl⟩⟩
  have h5':(tk==5)=false:=by simpa using h5
  by_cases h9:tk=9
  · by_cases hll:ls.length=tls.length
    · obtain⟨e9,hz1,hz2⟩:=E9.out h9 hll;have E9h:=A0 e9;have HF:=A0 (HFA.out h9 hll _ CX.out);subst h9;have gll:(((ls.length:Nat):Int) !=((tls.length:Nat):Int))=false:=by simp[hll]
      have HQ:=A0 hz2;have HQ1:=A0 hz1;clear E5 E9 EN HFA e9 h5 hll hz1 hz2;go_wp2_with fail
      refine HF.out.mono ?_;intro e w6 hq;rcases FtQ.part hq with ⟨rfl,rfl,hc⟩|⟨rfl,rfl,hc,hC⟩
      · exact⟨rfl,(CX.out.mono (λ_ _ x=>x.elim)).trans hc (λ_ _ x=>x),by rw[E9h.out];rfl⟩
      · have t3':=((H0.out.still CX.out).kc hc).cell t3;have hqw:=blt t3';simp only at hqw;have HC:=A0 ((CX.out.mono (S':=λk=>k=mb) (λ_ _ x=>x.elim)).trans hc (λ_ _ x=>x));have HCC:=A0 hC;have hz1:=HQ1.out;obtain⟨z,rfl⟩:∃z:Nat,tof=(z:Int):=⟨tof.toNat,by omega⟩;clear hc hC hq hz1;go_wp2_with fail
        go_ret;have hr2:=HRL.out;have hq2:=HQ.out;exact⟨HC.out,by rw[E9h.out];exact⟨HCC.out,z,rfl,by omega,by simp⟩⟩
    · have en:=A0 (EN.out h5 (.inr hll));have HX:=A0 (HW.out _ CX.out);have gll:(((ls.length:Nat):Int) !=((tls.length:Nat):Int))=true:=by simp;omega
      subst h9;clear E5 E9 EN HFA;go_wp2_with fail
      refine HX.out.mono ?_;rintro e w7 ⟨rfl,h7⟩;exact⟨rfl,(B9 CX.out h7).mono (λ_ _ x=>x.elim),by rw[en.out];rfl⟩
  · have en:=A0 (EN.out h5 (.inl h9));have HX:=A0 (HW.out _ CX.out);have h9':(tk !=9)=true:=by simpa using h9
    clear E5 E9 EN HFA;go_wp2_with fail
    refine HX.out.mono ?_;rintro e w7 ⟨rfl,h7⟩;exact⟨rfl,(B9 CX.out h7).mono (λ_ _ x=>x.elim),by rw[en.out];rfl⟩
theorem G8b(hB:Cbs w0 c pb lb mb qb nv fv)(hL:Lks c Z ofs of i)(h:Cst w0 w c pb lb mb qb nv yv mn fv Z ofs)(hi:i<c.N.length)(hk:c.N[i].kind≠7):
 Calls prog 42 #[pV pb,iV (i:Int)] w λe w'=>(c.N[i].kind=24/\c.fn.getD i 0= -1/\e=gu 4 (atI c.N i)/\Chg No w w')\/(¬(c.N[i].kind=24/\c.fn.getD i 0= -1)/\FtQ w0 w c pb lb mb qb nv yv mn fv Z ofs i (M.S8 c of i) e w'):=by
 obtain⟨oa,oc,hpb,fz,q0,q1,q2,q3,q4,q5,q6,qp,qo⟩:=h.cell;obtain⟨g,nc,la,lc,hnv,hg,hn1,hn2,⟨x0,x1,x2,x3,x4,x5,x6,x7,x8⟩,-,-⟩:=(hB.nrow h.chg).at (Below.refl _ _) i hi;have hlen:=hB.ok.lenN;have hfo:=hB.fn h.chg;obtain⟨fa,fcc,hfv⟩:=B7 hfo;rw[hfv]at hfo q5;have hfl:c.fn.length=c.N.length:=hB.ok.fnl;have hil:i<c.fn.length:=by omega
 obtain⟨gf,hgf,-,hgf2,hfc1,hfc2,hfcell⟩:=D8 hfo (by omega);have y0:=hfcell i (iV (c.fn.getD i 0)) (by rw[lQ,gQ hil];simp[B8,hil]);subst hgf;have eat:atI c.N i=c.N[i].at':=by unfold atI;rw[lQ,gQ hi];rfl
 have HF:Hid (¬(c.N[i].kind=24/\c.fn.getD i 0= -1)->∀u,Chg No w u->_):=λhn u hu=>K7b hB hL (h.still hu) hi (λh=>absurd h hk) (λh24 e=>hn ⟨h24,e⟩);have HAT:Hid (∀u,Chg No w u->_):=λu (_:Chg No w u)=>V9 u 4 c.N[i].at';unfold maxLen at hn2 hfc2;clear qp qo h hB hL hfo hfcell q1 q2 q3 q4 q6 fz;rw[eat];generalize M.S8 c of i=b at *;generalize c.fn.getD i 0=fi at *;generalize c.N[i]=nd at *;obtain⟨kd,va,vb,vc,ls,tx,vn,vt,vp⟩:=nd;subst hnv hfv;simp only at *;have A1:=A0 (Chg.alloc No w (ndC kd va vb vc (.slice la ls.length lc) tx vn vt vp));have gi:(i:Int)<(c.N.length:Int):=by omega
 by_cases h24:kd=24
 · by_cases hfi:fi= -1
   · subst h24 hfi;have HX:=A0 (HAT.out _ A1.out);clear HF HAT;go_enter func42,ntmps42;go_wp2_with fail
     refine HX.out.mono ?_;rintro e w5 ⟨rfl,hc⟩;exact⟨rfl,.inl ⟨by trivial,by trivial,rfl,B9 A1.out hc⟩⟩
   · have hn:¬(kd=24/\fi= -1):=λx=>hfi x.2;have HX:=A0 (HF.out hn _ A1.out);have HN:=A0 hn;have gf':(fi== -1)=false:=by simpa using hfi
     subst h24;clear HF HAT hn hfi;go_enter func42,ntmps42;go_wp2_with fail
     refine HX.out.mono ?_;intro e w5 hq;rcases FtQ.part hq with ⟨rfl,rfl,hc⟩|⟨rfl,rfl,hc,hC⟩
     · exact⟨rfl,.inr ⟨HN.out,(A1.out.mono (λ_ _ x=>x.elim)).trans hc (λ_ _ x=>x),rfl⟩⟩
     · have HC:=A0 hc;have HCC:=A0 hC;clear hc hC hq;go_wp2_with fail
       go_end0;exact .inr ⟨HN.out,(A1.out.mono (λ_ _ x=>x.elim)).trans HC.out (λ_ _ x=>x),rfl,HCC.out⟩
 · have hn:¬(kd=24/\fi= -1):=λx=>h24 x.1;have HX:=A0 (HF.out hn _ A1.out);have HN:=A0 hn;have g24:(kd==24)=false:=by simpa using h24
   clear HF HAT hn h24;go_enter func42,ntmps42;go_wp2_with fail
   refine HX.out.mono ?_;intro e w5 hq;rcases FtQ.part hq with ⟨rfl,rfl,hc⟩|⟨rfl,rfl,hc,hC⟩
   · exact⟨rfl,.inr ⟨HN.out,(A1.out.mono (λ_ _ x=>x.elim)).trans hc (λ_ _ x=>x),rfl⟩⟩
   · have HC:=A0 hc;have HCC:=A0 hC;clear hc hC hq;go_wp2_with fail
     go_end0;exact .inr ⟨HN.out,(A1.out.mono (λ_ _ x=>x.elim)).trans HC.out (λ_ _ x=>x),rfl,HCC.out⟩
end
end Go.Proofs.YtfhhipefecekkaaGreatDoor
