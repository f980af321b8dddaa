/-
  A part of the proof.
-/
import Derived.Test.YtfhhipefecekkaaGreatDoorCheckD
import Derived.Test.YtfhhipefecekkaaGreatDoorDob
set_option maxHeartbeats 16000000
set_option maxRecDepth 100000
namespace Go.Proofs.YtfhhipefecekkaaGreatDoor
open Go.Proofs.Tryz
open Go.RowKit Go.Maps
section
variable{w0 w:World}{c:M.Cx}{pb lb mb qb:Nat}{nv yv fv:Value}{mn:Int}{Z:List M.Ty}{ofs:List Int}{of:M.Of}{i:Nat}
def XpQ(w0 w:World)(c:M.Cx)(pb lb mb qb:Nat)(nv yv:Value)(mn:Int)(fv:Value)(Z:List M.Ty)(ofs:List Int)(i:Nat)(o:Option M.Tr)(e:Ending)(w':World):Prop:=match o with
 |none=>e=gu 9 (atI c.N i)/\KG w w'/\Chg (SW w0 pb lb mb) w0 w'
 |some t=>GrQ w0 w c pb lb mb qb nv yv mn fv Z ofs t e w'
theorem KG.kc{a b:World}(h:KC a b):KG a b:=⟨h.1,λq cs e fz x _ _=>h.2 q cs e fz x⟩
theorem D3b{u:World}{x:Nat}(hu:Chg No w u)(hC:Cst w0 u c pb lb mb qb nv yv mn fv Z ofs)(hx:x<(tl c Z).length):GrQ w0 w c pb lb mb qb nv yv mn fv Z ofs (M.tr (tl c Z) x) (.returned (iV (x:Int))) u:=
 ⟨x,[],rfl,by simp,by rw[List.append_nil];exact hx,by rw[List.append_nil],by rw[List.append_nil];exact hC,KG.still hu⟩
theorem GrQ.back{u w':World}{t:M.Tr}{e:Ending}(hu:Chg No w u)(h:GrQ w0 u c pb lb mb qb nv yv mn fv Z ofs t e w'):GrQ w0 w c pb lb mb qb nv yv mn fv Z ofs t e w':=by
 obtain⟨x,X,h1,h2,h3,h4,h5,h6⟩:=h;exact⟨x,X,h1,h2,h3,h4,h5,(KG.still hu).trans h6⟩
theorem R0a{u w':World}{o:Option M.Tr}{e:Ending}(hu:Chg No w u)(hC:Cst w0 u c pb lb mb qb nv yv mn fv Z ofs)(h:ExQ w0 u c pb lb mb qb nv yv mn fv Z ofs i o e w'):XpQ w0 w c pb lb mb qb nv yv mn fv Z ofs i o e w':=by
 obtain⟨hc,hm⟩:=h;have hk:KG w w':=(KG.still hu).trans (KG.kc (hC.kc hc));cases o with
 |none=>exact⟨hm,hk,hC.swm hc⟩
 |some t=>
  obtain⟨h1,x,h2,h3,h4⟩:=hm;exact⟨x,[],h2,by simp,by rw[List.append_nil];exact h3,by rw[List.append_nil];exact h4,by rw[List.append_nil];exact h1,hk⟩
theorem XpQ.part{o:Option M.Tr}{e:Ending}{w':World}(h:XpQ w0 w c pb lb mb qb nv yv mn fv Z ofs i o e w'):(∃a b,e=gu a b)\/∃x:Nat,e= .returned (iV (x:Int)):=by
 cases o with
 |none=>exact .inl ⟨_,_,h.1⟩
 |some t=>
  obtain⟨x,X,h1,_⟩:=h;exact .inr ⟨x,h1⟩
theorem Q9a(hB : Cbs w0 c pb lb mb qb nv fv)(h : Cst w0 w c pb lb mb qb nv yv mn fv Z ofs)(hi : i < c.N.length)(p : Nat)(hp : c.N[i].kind = 1 /\ p = 1 \/ c.N[i].kind = 2 /\ p = 3 \/ c.N[i].kind = 3 /\ p = 2 \/ c.N[i].kind = 4 /\ p = 4) :
    Calls prog 43 #[pV pb,iV (i:Int)] w (XpQ w0 w c pb lb mb qb nv yv mn fv Z ofs i (M.D7 c of i)):=by
  obtain⟨oa,oc,hpb,fz,q0,q1,q2,q3,q4,q5,q6,qp,qo⟩:=h.cell
  have hlen:=hB.ok.lenN
  obtain⟨g,nc,la,lc,hnv,hg,hn1,hn2,⟨x0,x1,x2,x3,x4,x5,x6,x7,x8⟩,HLO,-⟩:=(hB.nrow h.chg).at (Below.refl _ _) i hi
  unfold maxLen at hn2
  have HE:M.D7 c of i=some (M.plT p):=by
    unfold M.D7
    rw[M.D3 hi]
    rcases hp with ⟨hk,rfl⟩|⟨hk,rfl⟩|⟨hk,rfl⟩|⟨hk,rfl⟩<;>simp[hk]
  have pk:=qp p (by omega) (by omega)
  have hpl:=Z5 h.ts (k:=p) (by omega) (by omega)
  have hlt:c.T.length+p - 1<(tl c Z).length:=by rw[O8];omega
  rw[HE]
  generalize hndg:c.N[i]=nd at *
  obtain⟨kd,va,vb,vc,ls,tx,vn,vt,vp⟩:=nd
  simp only at *
  subst hnv
  have A1:=A0 (Chg.alloc No w (ndC kd va vb vc (.slice la ls.length lc) tx vn vt vp))
  have nb:=heap_alloc_new w (ndC kd va vb vc (.slice la ls.length lc) tx vn vt vp)
  have HQ:=A0 (D3b A1.out (h.still A1.out) hlt)
  rw[hpl]at HQ
  replace pk:=A8 A1.out pk
  have hpw:=blt pk
  simp only at hpw
  clear hB h qo HLO q1 q2 q3 q4 q5 q6 qp hpl hlt HE hndg
  rcases hp with ⟨rfl,rfl⟩|⟨rfl,rfl⟩|⟨rfl,rfl⟩|⟨rfl,rfl⟩<;>
    (go_enter func43,ntmps43
     go_wp2_with fail
     go_ret
     exact HQ.out)
theorem Z4c(hB:Cbs w0 c pb lb mb qb nv fv)(hL:Lks c Z ofs of i)(h:Cst w0 w c pb lb mb qb nv yv mn fv Z ofs)(hi:i<c.N.length)(hk:c.N[i].kind=7):
 Calls prog 43 #[pV pb,iV (i:Int)] w (XpQ w0 w c pb lb mb qb nv yv mn fv Z ofs i (M.D7 c of i)):=by
 have hf:=hB.ok.flat i hi;obtain⟨oa,oc,hpb,fz,q0,q1,q2,q3,q4,q5,q6,qp,qo⟩:=h.cell;have hT:=h.ts;have hlen:=hB.ok.lenN;obtain⟨g,nc,la,lc,hnv,hg,hn1,hn2,⟨x0,x1,x2,x3,x4,x5,x6,x7,x8⟩,HLO,-⟩:=(hB.nrow h.chg).at (Below.refl _ _) i hi;unfold maxLen at hn2;have HE:M.D7 c of i=M.A7a c of i:=by
  unfold M.D7;rw[M.D3 hi];simp[hk]
 have HX:Hid (∀u,Chg No w u->Calls prog 77 #[pV pb,iV (i:Int)] u (XpQ w0 w c pb lb mb qb nv yv mn fv Z ofs i (M.D7 c of i))):=λu hu=>by
  rw[HE];exact(H8d hB hL (h.still hu) hi (by rw[hk])).mono (λe w' hq=>R0a hu (h.still hu) hq)
 clear HE;generalize M.D7 c of i=FT at *;have H0:=A0 h;generalize hndg:c.N[i]=nd at *;obtain⟨kd,va,vb,vc,ls,tx,vn,vt,vp⟩:=nd;simp only at *;subst hk;subst hnv;have A1:=A0 (Chg.alloc No w (ndC 7 va vb vc (.slice la ls.length lc) tx vn vt vp));have nb:=heap_alloc_new w (ndC 7 va vb vc (.slice la ls.length lc) tx vn vt vp);clear hB hL h hT qo qp HLO hf q1 q2 q3 q4 q5 q6 fz H0;go_enter func43,ntmps43;go_wp2_with fail
 refine(HX.out _ A1.out).mono ?_;intro e w5 hq;rcases hq.part with ⟨a,b,rfl⟩|⟨x,rfl⟩
 · exact⟨rfl,hq⟩
 · have HQ:=A0 hq;clear hq HX A1 nb;go_wp2_with fail
   go_ret;exact HQ.out
theorem Z3c(hB:Cbs w0 c pb lb mb qb nv fv)(hL:Lks c Z ofs of i)(h:Cst w0 w c pb lb mb qb nv yv mn fv Z ofs)(hi:i<c.N.length)(hk:c.N[i].kind=8):
 Calls prog 43 #[pV pb,iV (i:Int)] w (XpQ w0 w c pb lb mb qb nv yv mn fv Z ofs i (M.D7 c of i)):=by
 have hf:=hB.ok.flat i hi;obtain⟨oa,oc,hpb,fz,q0,q1,q2,q3,q4,q5,q6,qp,qo⟩:=h.cell;have hT:=h.ts;have hlen:=hB.ok.lenN;obtain⟨g,nc,la,lc,hnv,hg,hn1,hn2,⟨x0,x1,x2,x3,x4,x5,x6,x7,x8⟩,HLO,-⟩:=(hB.nrow h.chg).at (Below.refl _ _) i hi;unfold maxLen at hn2;have HE:M.D7 c of i=M.J4 of c.N[i]:=by
  unfold M.D7;rw[M.D3 hi];simp[hk]
 obtain⟨p,r,hp,hpa,hr,hrl,htr⟩:=hL.pe _ (hf.k1 (by omega));have HX:Hid (∀u,Chg No w u->Calls prog 49 #[pV pb,iV (i:Int)] u (XpQ w0 w c pb lb mb qb nv yv mn fv Z ofs i (M.D7 c of i))):=λu hu=>by
  rw[HE];exact(X8b hB (h.still hu) i hi p hp hpa r hr hrl htr.symm).mono (λe w' hq=>R0a hu (h.still hu) hq)
 clear HE hpa;generalize M.D7 c of i=FT at *;have H0:=A0 h;generalize hndg:c.N[i]=nd at *;obtain⟨kd,va,vb,vc,ls,tx,vn,vt,vp⟩:=nd;simp only at *;subst hk;subst hnv;have A1:=A0 (Chg.alloc No w (ndC 8 va vb vc (.slice la ls.length lc) tx vn vt vp));have nb:=heap_alloc_new w (ndC 8 va vb vc (.slice la ls.length lc) tx vn vt vp);clear hB hL h hT qo qp HLO hf q1 q2 q3 q4 q5 q6 fz H0;go_enter func43,ntmps43;go_wp2_with fail
 refine(HX.out _ A1.out).mono ?_;intro e w5 hq;rcases hq.part with ⟨a,b,rfl⟩|⟨x,rfl⟩
 · exact⟨rfl,hq⟩
 · have HQ:=A0 hq;clear hq HX A1 nb;go_wp2_with fail
   go_ret;exact HQ.out
theorem Z2c(hB:Cbs w0 c pb lb mb qb nv fv)(hL:Lks c Z ofs of i)(h:Cst w0 w c pb lb mb qb nv yv mn fv Z ofs)(hi:i<c.N.length)(hk:c.N[i].kind=9):
 Calls prog 43 #[pV pb,iV (i:Int)] w (XpQ w0 w c pb lb mb qb nv yv mn fv Z ofs i (M.D7 c of i)):=by
 have hf:=hB.ok.flat i hi;obtain⟨oa,oc,hpb,fz,q0,q1,q2,q3,q4,q5,q6,qp,qo⟩:=h.cell;have hT:=h.ts;have hlen:=hB.ok.lenN;obtain⟨g,nc,la,lc,hnv,hg,hn1,hn2,⟨x0,x1,x2,x3,x4,x5,x6,x7,x8⟩,HLO,-⟩:=(hB.nrow h.chg).at (Below.refl _ _) i hi;unfold maxLen at hn2;have HE:M.D7 c of i=M.J0 of c.N[i]:=by
  unfold M.D7;rw[M.D3 hi];simp[hk]
 obtain⟨p,r,hp,hpa,hr,hrl,htr⟩:=hL.pe _ (hf.k2 (by omega)).1;obtain⟨p',r',hp',hpa',hr',hrl',htr'⟩:=hL.pe _ (hf.k2 (by omega)).2;have HX:Hid (∀u,Chg No w u->Calls prog 50 #[pV pb,iV (i:Int)] u (XpQ w0 w c pb lb mb qb nv yv mn fv Z ofs i (M.D7 c of i))):=λu hu=>by
  rw[HE];exact(W2b hB (h.still hu) i hi p hp hpa r hr hrl htr.symm p' hp' hpa' r' hr' hrl' htr'.symm).mono (λe w' hq=>R0a hu (h.still hu) hq)
 clear HE hpa hpa';generalize M.D7 c of i=FT at *;have H0:=A0 h;generalize hndg:c.N[i]=nd at *;obtain⟨kd,va,vb,vc,ls,tx,vn,vt,vp⟩:=nd;simp only at *;subst hk;subst hnv;have A1:=A0 (Chg.alloc No w (ndC 9 va vb vc (.slice la ls.length lc) tx vn vt vp));have nb:=heap_alloc_new w (ndC 9 va vb vc (.slice la ls.length lc) tx vn vt vp);clear hB hL h hT qo qp HLO hf q1 q2 q3 q4 q5 q6 fz H0;go_enter func43,ntmps43;go_wp2_with fail
 refine(HX.out _ A1.out).mono ?_;intro e w5 hq;rcases hq.part with ⟨a,b,rfl⟩|⟨x,rfl⟩
 · exact⟨rfl,hq⟩
 · have HQ:=A0 hq;clear hq HX A1 nb;go_wp2_with fail
   go_ret;exact HQ.out
theorem Q1c(hB:Cbs w0 c pb lb mb qb nv fv)(hL:Lks c Z ofs of i)(h:Cst w0 w c pb lb mb qb nv yv mn fv Z ofs)(hi:i<c.N.length)(hk:c.N[i].kind=12):
 Calls prog 43 #[pV pb,iV (i:Int)] w (XpQ w0 w c pb lb mb qb nv yv mn fv Z ofs i (M.D7 c of i)):=by
 have hf:=hB.ok.flat i hi;obtain⟨oa,oc,hpb,fz,q0,q1,q2,q3,q4,q5,q6,qp,qo⟩:=h.cell;have hT:=h.ts;have hlen:=hB.ok.lenN;obtain⟨g,nc,la,lc,hnv,hg,hn1,hn2,⟨x0,x1,x2,x3,x4,x5,x6,x7,x8⟩,HLO,-⟩:=(hB.nrow h.chg).at (Below.refl _ _) i hi;unfold maxLen at hn2;have HE:M.D7 c of i=M.G2b of c.N[i]:=by
  unfold M.D7;rw[M.D3 hi];simp[hk]
 have HX:Hid (∀u,Chg No w u->Calls prog 80 #[pV pb,iV (i:Int)] u (XpQ w0 w c pb lb mb qb nv yv mn fv Z ofs i (M.D7 c of i))):=λu hu=>by
  rw[HE];exact(K4d hB (h.still hu) i hi (hL.pe _ (hf.k2 (by omega)).1) (hL.pe _ (hf.k2 (by omega)).2)).mono (λe w' hq=>R0a hu (h.still hu) hq)
 clear HE;generalize M.D7 c of i=FT at *;have H0:=A0 h;generalize hndg:c.N[i]=nd at *;obtain⟨kd,va,vb,vc,ls,tx,vn,vt,vp⟩:=nd;simp only at *;subst hk;subst hnv;have A1:=A0 (Chg.alloc No w (ndC 12 va vb vc (.slice la ls.length lc) tx vn vt vp));have nb:=heap_alloc_new w (ndC 12 va vb vc (.slice la ls.length lc) tx vn vt vp);clear hB hL h hT qo qp HLO hf q1 q2 q3 q4 q5 q6 fz H0;go_enter func43,ntmps43;go_wp2_with fail
 refine(HX.out _ A1.out).mono ?_;intro e w5 hq;rcases hq.part with ⟨a,b,rfl⟩|⟨x,rfl⟩
 · exact⟨rfl,hq⟩
 · have HQ:=A0 hq;clear hq HX A1 nb;go_wp2_with fail
   go_ret;exact HQ.out
theorem Q0c(hB:Cbs w0 c pb lb mb qb nv fv)(hL:Lks c Z ofs of i)(h:Cst w0 w c pb lb mb qb nv yv mn fv Z ofs)(hi:i<c.N.length)(hk:c.N[i].kind=13):
 Calls prog 43 #[pV pb,iV (i:Int)] w (XpQ w0 w c pb lb mb qb nv yv mn fv Z ofs i (M.D7 c of i)):=by
 have hf:=hB.ok.flat i hi;obtain⟨oa,oc,hpb,fz,q0,q1,q2,q3,q4,q5,q6,qp,qo⟩:=h.cell;have hT:=h.ts;have hlen:=hB.ok.lenN;obtain⟨g,nc,la,lc,hnv,hg,hn1,hn2,⟨x0,x1,x2,x3,x4,x5,x6,x7,x8⟩,HLO,-⟩:=(hB.nrow h.chg).at (Below.refl _ _) i hi;unfold maxLen at hn2;have HE:M.D7 c of i=M.I4b of c.N[i]:=by
  unfold M.D7;rw[M.D3 hi];simp[hk]
 have HX:Hid (∀u,Chg No w u->Calls prog 81 #[pV pb,iV (i:Int)] u (XpQ w0 w c pb lb mb qb nv yv mn fv Z ofs i (M.D7 c of i))):=λu hu=>by
  rw[HE];exact(L4d hB (h.still hu) i hi (hL.pe _ (hf.k1 (by omega)))).mono (λe w' hq=>R0a hu (h.still hu) hq)
 clear HE;generalize M.D7 c of i=FT at *;have H0:=A0 h;generalize hndg:c.N[i]=nd at *;obtain⟨kd,va,vb,vc,ls,tx,vn,vt,vp⟩:=nd;simp only at *;subst hk;subst hnv;have A1:=A0 (Chg.alloc No w (ndC 13 va vb vc (.slice la ls.length lc) tx vn vt vp));have nb:=heap_alloc_new w (ndC 13 va vb vc (.slice la ls.length lc) tx vn vt vp);clear hB hL h hT qo qp HLO hf q1 q2 q3 q4 q5 q6 fz H0;go_enter func43,ntmps43;go_wp2_with fail
 refine(HX.out _ A1.out).mono ?_;intro e w5 hq;rcases hq.part with ⟨a,b,rfl⟩|⟨x,rfl⟩
 · exact⟨rfl,hq⟩
 · have HQ:=A0 hq;clear hq HX A1 nb;go_wp2_with fail
   go_ret;exact HQ.out
theorem Z6c(hB:Cbs w0 c pb lb mb qb nv fv)(hL:Lks c Z ofs of i)(h:Cst w0 w c pb lb mb qb nv yv mn fv Z ofs)(hi:i<c.N.length)(hk:c.N[i].kind=5):
 Calls prog 43 #[pV pb,iV (i:Int)] w (XpQ w0 w c pb lb mb qb nv yv mn fv Z ofs i (M.D7 c of i)):=by
 have hf:=hB.ok.flat i hi;obtain⟨oa,oc,hpb,fz,q0,q1,q2,q3,q4,q5,q6,qp,qo⟩:=h.cell;have hT:=h.ts;have hlen:=hB.ok.lenN;obtain⟨g,nc,la,lc,hnv,hg,hn1,hn2,⟨x0,x1,x2,x3,x4,x5,x6,x7,x8⟩,HLO,-⟩:=(hB.nrow h.chg).at (Below.refl _ _) i hi;unfold maxLen at hn2;have HE:M.D7 c of i=some (M.T8 c of (c.ts.getD i 0)):=by
  unfold M.D7;rw[M.D3 hi];simp[hk]
 obtain⟨j,a0,hj,hjl,hrh,hal0,hatr0,hhas⟩:=hL.has _ (hB.ok.nms.tg i hi (.inl hk));have HLK:Hid (∀u,Chg No w u->(Instr.lookup 35 (.map (some qb)) (iV (i:Int)) false).run prog u= .ok (iV (j:Int)) u):=λu hu=>by
  have hm:=(hB.nm (h.still hu).chg).get (i:Int) (by omega);rw[hm];unfold nmM;rw[if_pos ⟨by omega,by omega,by rw[tQ,hj];omega⟩,tQ,hj];rfl
 have HX:Hid (∀u,Chg No w u->Calls prog 48 #[pV pb,iV (j:Int)] u λe w'=>e= .returned (iV (a0:Int))/\GrQ w0 w c pb lb mb qb nv yv mn fv Z ofs (M.T8 c of (c.ts.getD i 0)) (.returned (iV (a0:Int))) w'):=λu hu=>by
  refine(N8c hB (h.still hu) j hjl hhas).mono ?_;rintro e w' ⟨rfl,hc⟩;refine⟨by rw[hrh], ?_⟩;rw[<-hatr0];exact D3b (B9 hu hc) (h.still (B9 hu hc)) hal0
 rw[HE];have H0:=A0 h;generalize hndg:c.N[i]=nd at *;obtain⟨kd,va,vb,vc,ls,tx,vn,vt,vp⟩:=nd;simp only at *;subst hk;subst hnv;have A1:=A0 (Chg.alloc No w (ndC 5 va vb vc (.slice la ls.length lc) tx vn vt vp));have nb:=heap_alloc_new w (ndC 5 va vb vc (.slice la ls.length lc) tx vn vt vp);have hlk:=HLK.out _ A1.out;replace q4:=A8 A1.out q4;have hpw:=blt q4;simp only at hpw;clear hB hL h hT qo qp HLO hf q1 q2 q3 q5 q6 fz H0 HLK hj hrh hatr0 hhas HE;go_enter func43,ntmps43;go_wp2_with fail
 refine(HX.out _ A1.out).mono ?_;rintro e w5 ⟨rfl,hq⟩;have HQ:=A0 hq;clear hq HX A1 nb hlk;go_wp2_with fail
 go_ret;exact HQ.out
theorem Z5c(hB:Cbs w0 c pb lb mb qb nv fv)(_hL:Lks c Z ofs of i)(h:Cst w0 w c pb lb mb qb nv yv mn fv Z ofs)(hi:i<c.N.length)(hk:c.N[i].kind=6)(h6:Lk c Z ofs of (i:Int)):
 Calls prog 43 #[pV pb,iV (i:Int)] w (XpQ w0 w c pb lb mb qb nv yv mn fv Z ofs i (M.D7 c of i)):=by
 have hf:=hB.ok.flat i hi;obtain⟨oa,oc,hpb,fz,q0,q1,q2,q3,q4,q5,q6,qp,qo⟩:=h.cell;have hT:=h.ts;have hlen:=hB.ok.lenN;obtain⟨g,nc,la,lc,hnv,hg,hn1,hn2,⟨x0,x1,x2,x3,x4,x5,x6,x7,x8⟩,HLO,-⟩:=(hB.nrow h.chg).at (Below.refl _ _) i hi;unfold maxLen at hn2;have HE:M.D7 c of i=some (M.ofA of i):=by
  unfold M.D7;rw[M.D3 hi];simp[hk]
 obtain⟨p,r,hp,e,hr,hrl,htr⟩:=h6;obtain rfl:i=p:=by omega
 obtain⟨go,hoa,ho0,ho1,ho2,ho3,y0,-⟩:=qo i hp;subst hoa;rw[hr]at y0;unfold maxLen at ho3;have hp':(i:Int)<(ofs.length:Int):=by omega
 rw[HE];have H0:=A0 h;generalize hndg:c.N[i]=nd at *;obtain⟨kd,va,vb,vc,ls,tx,vn,vt,vp⟩:=nd;simp only at *;subst hk;subst hnv;have A1:=A0 (Chg.alloc No w (ndC 6 va vb vc (.slice la ls.length lc) tx vn vt vp));have nb:=heap_alloc_new w (ndC 6 va vb vc (.slice la ls.length lc) tx vn vt vp);have HQ:=A0 (D3b A1.out (h.still A1.out) hrl);rw[htr]at HQ;replace q6:=A8 A1.out q6;replace y0:=A8 A1.out y0;have hpw:=blt q6;have hgw:=blt y0;simp only at hpw hgw;clear hB _hL h hT qo qp HLO hf q1 q2 q3 q4 q5 fz H0 hr htr HE e;go_enter func43,ntmps43;go_wp2_with fail
 go_ret;exact HQ.out
theorem P9c(hB:Cbs w0 c pb lb mb qb nv fv)(hL:Lks c Z ofs of i)(h:Cst w0 w c pb lb mb qb nv yv mn fv Z ofs)(hi:i<c.N.length)(hk:c.N[i].kind=14):
 Calls prog 43 #[pV pb,iV (i:Int)] w (XpQ w0 w c pb lb mb qb nv yv mn fv Z ofs i (M.D7 c of i)):=by
 have hf:=hB.ok.flat i hi;obtain⟨oa,oc,hpb,fz,q0,q1,q2,q3,q4,q5,q6,qp,qo⟩:=h.cell;have hT:=h.ts;have hlen:=hB.ok.lenN;obtain⟨g,nc,la,lc,hnv,hg,hn1,hn2,⟨x0,x1,x2,x3,x4,x5,x6,x7,x8⟩,HLO,-⟩:=(hB.nrow h.chg).at (Below.refl _ _) i hi;unfold maxLen at hn2;have HE:M.D7 c of i=some (M.tr c.T c.N[i].ty.toNat):=by
  unfold M.D7;rw[M.D3 hi];simp[hk]
 obtain⟨a,ea,hal,htr⟩:=hL.wt _ (hf.k14 hk).2;rw[HE,<-htr];have HQ0:Hid (∀u,Chg No w u->GrQ w0 w c pb lb mb qb nv yv mn fv Z ofs (M.tr (tl c Z) a) (.returned (iV (a:Int))) u):=λu hu=>D3b hu (h.still hu) hal;clear htr HE;rw[ea]at x7;have H0:=A0 h;generalize hndg:c.N[i]=nd at *;obtain⟨kd,va,vb,vc,ls,tx,vn,vt,vp⟩:=nd;simp only at *;subst hk;subst hnv;have A1:=A0 (Chg.alloc No w (ndC 14 va vb vc (.slice la ls.length lc) tx vn (a:Int) vp));have nb:=heap_alloc_new w (ndC 14 va vb vc (.slice la ls.length lc) tx vn (a:Int) vp);have HQ:=A0 (HQ0.out _ A1.out);have n7:=cell_of_row _ _ 7 _ _ _ nb;clear hB hL h hT qo qp HLO hf q1 q2 q3 q4 q5 q6 fz H0 ea HQ0 nb;go_enter func43,ntmps43;go_wp2_with fail
 go_ret;exact HQ.out
theorem Q3c(hB:Cbs w0 c pb lb mb qb nv fv)(hL:Lks c Z ofs of i)(h:Cst w0 w c pb lb mb qb nv yv mn fv Z ofs)(hi:i<c.N.length)(hk:c.N[i].kind=10)(hN:(tl c Z).length+2<=4000):
 Calls prog 43 #[pV pb,iV (i:Int)] w (XpQ w0 w c pb lb mb qb nv yv mn fv Z ofs i (M.D7 c of i)):=by
 have hf:=hB.ok.flat i hi;obtain⟨oa,oc,hpb,fz,q0,q1,q2,q3,q4,q5,q6,qp,qo⟩:=h.cell;have hT:=h.ts;have hlen:=hB.ok.lenN;obtain⟨g,nc,la,lc,hnv,hg,hn1,hn2,⟨x0,x1,x2,x3,x4,x5,x6,x7,x8⟩,HLO,-⟩:=(hB.nrow h.chg).at (Below.refl _ _) i hi;unfold maxLen at hn2;have HE:M.D7 c of i=some (M.K3c c.N of c.N[i]):=by
  unfold M.D7;rw[M.D3 hi];simp[hk]
 have HPS:∀x∈c.N[i].list,∃j:Nat,x=(j:Int)/\∃hj:j<c.N.length,Lk c Z ofs of c.N[j].a/\M.L9 c.N[j].text:=λx hx=>by
  obtain⟨j,rfl,hji,hj,hk15⟩:=(hf.k10 hk).1 x hx;have h2:=(hf.k10 hk).2.2 (j:Int) hx;rw[M.D3 hj]at h2;obtain⟨y,e,hy,hyl,hye⟩:=(hB.ok.flat j hj).k1 (by omega);exact⟨j,rfl,hj,hL.pe _ ⟨y,e,by omega,hyl,hye⟩,h2⟩
 have HX:Hid (∀u,Chg No w u->Calls prog 78 #[pV pb,nvl c.N[i] la lc] u (XpQ w0 w c pb lb mb qb nv yv mn fv Z ofs i (M.D7 c of i))):=λu hu=>by
  rw[HE];exact(K2c hB (h.still hu) c.N[i] HPS (hf.k10 hk).2.1 (hB.ok.ls i hi) la lc (A3 HLO hu (λ_ _ x=>x)) (by omega)).mono (λe w' hq=>GrQ.back hu hq)
 clear HE HPS;generalize M.D7 c of i=FT at *;unfold nvl at HX;have H0:=A0 h;generalize hndg:c.N[i]=nd at *;obtain⟨kd,va,vb,vc,ls,tx,vn,vt,vp⟩:=nd;simp only at *;subst hk;subst hnv;have A1:=A0 (Chg.alloc No w (ndC 10 va vb vc (.slice la ls.length lc) tx vn vt vp));have nb:=heap_alloc_new w (ndC 10 va vb vc (.slice la ls.length lc) tx vn vt vp);have n0:=cell_of_row _ _ 0 _ _ _ nb;have n1:=cell_of_row _ _ 1 _ _ _ nb;have n2:=cell_of_row _ _ 2 _ _ _ nb;have n3:=cell_of_row _ _ 3 _ _ _ nb;have n4:=cell_of_row _ _ 4 _ _ _ nb;have n5:=cell_of_row _ _ 5 _ _ _ nb;have n6:=cell_of_row _ _ 6 _ _ _ nb;have n7:=cell_of_row _ _ 7 _ _ _ nb;have n8:=cell_of_row _ _ 8 _ _ _ nb;clear hB hL h hT qo qp HLO hf q1 q2 q3 q4 q5 q6 fz H0 nb;go_enter func43,ntmps43;go_wp2_with fail
 refine(HX.out _ A1.out).mono ?_;intro e w5 hq;rcases hq.part with ⟨a,b,rfl⟩|⟨x,rfl⟩
 · exact⟨rfl,hq⟩
 · have HQ:=A0 hq;clear hq HX A1;go_wp2_with fail
   go_ret;exact HQ.out
theorem Q2c(hB:Cbs w0 c pb lb mb qb nv fv)(hL:Lks c Z ofs of i)(h:Cst w0 w c pb lb mb qb nv yv mn fv Z ofs)(hi:i<c.N.length)(hk:c.N[i].kind=11)(hN:(tl c Z).length+2<=4000)(hwg:M.wgL (c.N[i].list.map (M.ofA of))<=25000000):
 Calls prog 43 #[pV pb,iV (i:Int)] w (XpQ w0 w c pb lb mb qb nv yv mn fv Z ofs i (M.D7 c of i)):=by
 have hf:=hB.ok.flat i hi;obtain⟨oa,oc,hpb,fz,q0,q1,q2,q3,q4,q5,q6,qp,qo⟩:=h.cell;have hT:=h.ts;have hlen:=hB.ok.lenN;obtain⟨g,nc,la,lc,hnv,hg,hn1,hn2,⟨x0,x1,x2,x3,x4,x5,x6,x7,x8⟩,HLO,-⟩:=(hB.nrow h.chg).at (Below.refl _ _) i hi;unfold maxLen at hn2;have HE:M.D7 c of i=some (M.S2c of c.N[i]):=by
  unfold M.D7;rw[M.D3 hi];simp[hk]
 have HX:Hid (∀u,Chg No w u->Calls prog 79 #[pV pb,nvl c.N[i] la lc] u (XpQ w0 w c pb lb mb qb nv yv mn fv Z ofs i (M.D7 c of i))):=λu hu=>by
  rw[HE];exact(B0d (h.still hu) c.N[i] (λx hx=>hL.pe x (hf.k11 hk x hx)) (hB.ok.ls i hi) la lc (A3 HLO hu (λ_ _ x=>x)) hwg hN).mono (λe w' hq=>GrQ.back hu hq)
 clear HE hwg;generalize M.D7 c of i=FT at *;unfold nvl at HX;have H0:=A0 h;generalize hndg:c.N[i]=nd at *;obtain⟨kd,va,vb,vc,ls,tx,vn,vt,vp⟩:=nd;simp only at *;subst hk;subst hnv;have A1:=A0 (Chg.alloc No w (ndC 11 va vb vc (.slice la ls.length lc) tx vn vt vp));have nb:=heap_alloc_new w (ndC 11 va vb vc (.slice la ls.length lc) tx vn vt vp);have n0:=cell_of_row _ _ 0 _ _ _ nb;have n1:=cell_of_row _ _ 1 _ _ _ nb;have n2:=cell_of_row _ _ 2 _ _ _ nb;have n3:=cell_of_row _ _ 3 _ _ _ nb;have n4:=cell_of_row _ _ 4 _ _ _ nb;have n5:=cell_of_row _ _ 5 _ _ _ nb;have n6:=cell_of_row _ _ 6 _ _ _ nb;have n7:=cell_of_row _ _ 7 _ _ _ nb;have n8:=cell_of_row _ _ 8 _ _ _ nb;clear hB hL h hT qo qp HLO hf q1 q2 q3 q4 q5 q6 fz H0 nb;go_enter func43,ntmps43;go_wp2_with fail
 refine(HX.out _ A1.out).mono ?_;intro e w5 hq;rcases hq.part with ⟨a,b,rfl⟩|⟨x,rfl⟩
 · exact⟨rfl,hq⟩
 · have HQ:=A0 hq;clear hq HX A1;go_wp2_with fail
   go_ret;exact HQ.out
theorem H0d(hB:Cbs w0 c pb lb mb qb nv fv)(hL:Lks c Z ofs of i)(h:Cst w0 w c pb lb mb qb nv yv mn fv Z ofs)(hi:i<c.N.length)(hk:M.isE c.N[i].kind)(h6:c.N[i].kind=6->Lk c Z ofs of (i:Int))(hN:(tl c Z).length+2<=4000)(hwg:c.N[i].kind=11->M.wgL (c.N[i].list.map (M.ofA of))<=25000000):
 Calls prog 43 #[pV pb,iV (i:Int)] w (XpQ w0 w c pb lb mb qb nv yv mn fv Z ofs i (M.D7 c of i)):=by
 obtain⟨h1,h2⟩:=hk;have:c.N[i].kind=1\/c.N[i].kind=2\/c.N[i].kind=3\/c.N[i].kind=4\/c.N[i].kind=5\/c.N[i].kind=6\/c.N[i].kind=7\/c.N[i].kind=8\/c.N[i].kind=9\/c.N[i].kind=10\/c.N[i].kind=11\/c.N[i].kind=12\/c.N[i].kind=13\/c.N[i].kind=14:=by omega
 rcases this with k|k|k|k|k|k|k|k|k|k|k|k|k|k
 · exact Q9a hB h hi 1 (.inl ⟨k,rfl⟩)
 · exact Q9a hB h hi 3 (.inr (.inl ⟨k,rfl⟩))
 · exact Q9a hB h hi 2 (.inr (.inr (.inl ⟨k,rfl⟩)))
 · exact Q9a hB h hi 4 (.inr (.inr (.inr ⟨k,rfl⟩)))
 · exact Z6c hB hL h hi k
 · exact Z5c hB hL h hi k (h6 k)
 · exact Z4c hB hL h hi k
 · exact Z3c hB hL h hi k
 · exact Z2c hB hL h hi k
 · exact Q3c hB hL h hi k hN
 · exact Q2c hB hL h hi k hN (hwg k)
 · exact Q1c hB hL h hi k
 · exact Q0c hB hL h hi k
 · exact P9c hB hL h hi k
end
section
variable{w0 w:World}{c:M.Cx}{pb lb mb qb:Nat}{nv yv fv:Value}{mn:Int}{Z:List M.Ty}{ofs:List Int}{of:M.Of}
def J3d(w0 w:World)(c:M.Cx)(pb lb mb qb:Nat)(nv yv:Value)(mn:Int)(fv:Value)(Z:List M.Ty)(ofs:List Int)(t:M.Tr)(e:Ending)(w':World):Prop:=
 ∃(x:Nat) (X:List M.Ty),e= .returned (iV (x:Int))/\X.length<=1/\x<(tl c (Z++X)).length/\M.tr (tl c (Z++X)) x=t/\Cst w0 w' c pb lb mb qb nv yv mn fv (Z++X) ofs/\KG w w'
def Par(c:M.Cx)(Z:List M.Ty)(ofs:List Int)(x:Int):Prop:=∃(j a:Nat),x=(j:Int)/\j<c.N.length/\(M.ndx c.N j).kind=16/\C1a c ofs j=(a:Int)/\a<(tl c Z).length/\M.tr (tl c Z) a=M.T8 c [] x
theorem E9d(hc:M.D8a c)(hT:M.TsOk (tl c Z)){i:Nat}{x:Int}(h:M.Pk c.N i 16 x):Par c Z ofs x:=by
 obtain⟨j,rfl,_,hj,hk⟩:=h;have e1:M.ndx c.N (j:Int)=c.N[j]:=M.D3 hj;have k16:(M.ndx c.N (j:Int)).kind=16:=by rw[e1];exact hk
 have hty:=M.A4a hc (j:Int);by_cases ht:(M.ndx c.N (j:Int)).ty= -1
 · refine⟨j,c.T.length+4,rfl,hj,k16, ?_,by rw[O8];omega, ?_⟩
   · unfold C1a;rw[if_neg (by rw[ht];simp),if_neg (by omega)]
   · have:=Z5 hT (k:=5) (by omega) (by omega);unfold M.T8;rw[if_neg (by rw[ht];simp),if_neg (by omega)];simpa[M.plT,M.W6]using this
 · rcases hty with hty|⟨a,e2,ha,_⟩
   · exact absurd hty ht
   · refine⟨j,a,rfl,hj,k16, ?_,by rw[O8];omega, ?_⟩
     · unfold C1a;rw[if_pos ht];exact e2
     · unfold M.T8;rw[if_pos ht,N4b hc.ok ha,e2];rfl
theorem R7b(hB : Cbs w0 c pb lb mb qb nv fv)(h : Cst w0 w c pb lb mb qb nv yv mn fv Z ofs)(nd : M.Nd)(hps : ∀ x ∈ nd.list, Par c Z ofs x)(hres : ∃ a : Nat, O8b c nd = (a : Int) /\ a < (tl c Z).length /\ M.tr (tl c Z) a = M.E7a c.T nd)(hn : nd.list.length <= 1200)(la : Option Addr)(lc : Nat)(hlo : w.ownsRow 0 3 1 (.slice la nd.list.length lc) nd.list.length (B8 nd.list))(hN : (tl c Z).length + 1 <= 4000) :
    Calls prog 75 #[pV pb,nvl nd la lc] w (J3d w0 w c pb lb mb qb nv yv mn fv Z ofs (M.fnT c nd)):=by
  obtain⟨ar,hr1,hr2,hr3⟩:=hres
  have HRS:Hid (∀u,Chg No w u->_):=λu hu=>H7b (h.still hu) nd la lc
  rw[hr1]at HRS
  have HFT:Hid (M.fnT c nd= .nd 9 [] (M.tr (tl c Z) ar::nd.list.map (M.T8 c []))):=by
    show _=_
    unfold M.fnT
    rw[hr3]
  unfold nvl at *
  generalize M.fnT c nd=FT at *
  obtain⟨kd,va,vb,vc,ls,tx,vn,vt,vp⟩:=nd
  simp only at *
  obtain⟨i0,hi0,hz0,hz1,hz2⟩:=info_parts Tryz.infoInt
  have hT:=h.ts
  have H0:=A0 h
  have HO:=A0 hlo
  have HL:=A0 hps
  have HHA:Hid (∀u (j:Nat),Chg No w u->j<c.N.length->(M.ndx c.N j).kind=16->_):=λu j hu hj hk=>N8c hB (h.still hu) j hj (λ_ h17=>by omega)
  have hlt:∀j,j<=ls.length->∀x∈((ls.take j).map λx=>C1a c ofs x.toNat),0<=x/\x<((tl c Z).length:Int):=λj _ x hx=>by
    obtain⟨y,hy,rfl⟩:=List.mem_map.1 hx
    obtain⟨jj,a,rfl,_,_,ha,hal,_⟩:=hps y (List.mem_of_mem_take hy)
    rw[tQ,ha]
    omega
  have hmt:(ls.map λx=>C1a c ofs x.toNat).map (λx=>M.tr (tl c Z) x.toNat)=ls.map (M.T8 c []):=by
    rw[List.map_map]
    refine List.map_congr_left λx hx=> ?_
    obtain⟨jj,a,rfl,_,_,ha,hal,ht⟩:=hps x hx
    simp only[Function.comp_apply,tQ,ha]
    exact ht
  have HTY:Hid (M.TyOk ⟨9,[],ls.map (λx=>C1a c ofs x.toNat),(ar:Int)⟩ (tl c Z).length):= .inr (.inr (.inr (.inl ⟨rfl,rfl,Int.natCast_nonneg ar,Int.ofNat_lt.2 hr2,λx hx=>hlt ls.length (vQ _) x (by rw[List.take_length];exact hx)⟩)))
  have HTR:Hid (M.tr (tl c Z++[⟨9,[],ls.map (λx=>C1a c ofs x.toNat),(ar:Int)⟩]) (tl c Z).length=FT):=by
    show _=_
    rw[M.H7a hT HTY.out,HFT.out,<-hmt]
    simp
  obtain⟨oa,oc,hpb,fz,q0,q1,q2,q3,q4,q5,q6,qp,qo⟩:=h.cell
  have HQ3:=A0 q3
  have A1:=Chg.alloc No w (ndC kd va vb vc (.slice la ls.length lc) tx vn vt vp)
  have nb:=heap_alloc_new w (ndC kd va vb vc (.slice la ls.length lc) tx vn vt vp)
  have A1h:=A0 A1
  have NB:=A0 nb
  clear h hlo hps hlt hmt hr3 qp qo q0 q1 q2 q3 q4 q5 q6 fz A1 nb hB hT HFT
  go_enter func75,ntmps75
  go_wp2_with fail
  refine(HRS.out _ A1h.out).mono ?_
  rintro e w2 ⟨rfl,hc2⟩
  have C2:=A0 (B9 A1h.out hc2)
  have nb2:=D6 hc2 NB.out
  have n4:w2.cell? (aD w.heap.size 4)=some (.slice la ls.length lc):=cr nb2 rfl
  have hnw:=blt n4
  simp only at hnw
  have hz:=heap_alloc_new w2 (.cells #[iV 9,sN,sN,iV (ar:Int)] 66)
  have Z0:=A0 hz
  have C3:=A0 (B9 C2.out (Chg.alloc No w2 (.cells #[iV 9,sN,sN,iV (ar:Int)] 66)))
  have hs2:w.heap.size<=w2.heap.size:=C2.out.size
  clear hc2 hz nb2 HRS NB A1h
  go_wp2_with fail
  generalize hsq:w2.heap.size=q at *
  go_loopw [15] (λv wr=>∃(j:Nat) (xa:Option Addr) (xc:Nat),j<=ls.length/\v=iV (j:Int)/\Hid (Chg No w wr)/\Hid (wr.heap[q]? =some (.cells #[iV 9,sN,.slice xa j xc,iV (ar:Int)] 66 (0,0)))/\Hid (wr.ownsRow w.heap.size 3 1 (.slice xa j xc) j (B8 ((ls.take j).map λx=>C1a c ofs x.toNat)))) (λv _=>ls.length - (intOf v).toNat)
  case atStart=>exact⟨0,none,0,wQ _,rfl,C3.out,Z0.out,kW _ _ _ _⟩
  case round=>
    clear Z0 C3 n4 hnw
    obtain⟨j,xa,xc,hj,rfl,CR,ZR,OR⟩:=hrel
    have hwr:w.heap.size<=wr.heap.size:=CR.out.size
    have hqw:=(ltG ZR.out)
    by_cases hjl:j<ls.length
    · obtain⟨g2,hla,hg2,hl1,hl2,v0⟩:=D5 (A3 HO.out CR.out (λ_ _ x=>x)) hjl
      subst hla
      obtain⟨jj,a,e,hjn,hk16,hrh,hal,htr⟩:=HL.out ls[j] (mQ hjl)
      have HT:Hid ((ls.take (j+1)).map (λx=>C1a c ofs x.toNat)=(ls.take j).map (λx=>C1a c ofs x.toNat)++[(a:Int)]):=by
        show _=_
        rw[nQ hjl,List.map_append,List.map_singleton,e,tQ,hrh]
      obtain⟨acc,hacc⟩:∃acc,acc=(ls.take j).map (λx=>C1a c ofs x.toNat):=⟨_,rfl⟩
      rw[<-hacc]at OR HT
      clear hacc
      have HH:Hid (∀u,Chg No wr u->Calls prog 48 #[pV pb,iV (jj:Int)] u λe w'=>e= .returned (iV (a:Int))/\Chg No u w'):=λu hu=>by
        have:=HHA.out u jj (B9 CR.out hu) hjn hk16
        rw[hrh]at this
        exact this
      rw[e]at v0
      have d0:wr.cell? (aD q 2)=some (.slice xa j xc):=cr ZR.out rfl
      have hne:Value.ownBlock (.slice xa j xc)≠some q:=G8 OR.out ZR.out (by decide)
      unfold maxLen at hl2
      clear e hrh htr
      go_wp2_with fail
      go_region_law (first
        | (refine step_append_lies _ (by rfl) _ _ _ (by rfl) w.heap.size 3 i0 (iV 0) 1 8 underlying43 hi0 hz0 hz1 hz2 rfl (by omega) (.slice xa j xc) j (B8 acc) (by rfl) ((A3 OR.out hcm.out (λ_ _ x => x)).alloc _) (aD wm.heap.size 0) 1 1 [iV (a : Int)] (by rfl) (by rfl) (World.news_of_block (cs := #[iV (a : Int)]) (t := 3) (fr := (0, 0)) (heap_alloc_new wm _)) (by simp [Value.oneCell']) (by omega) (by simp only [maxLen]; omega) (by omega) (by simp; omega) (wm.heap.size + 1) (by simp) ?_
           intro gg cap w1 hown1 hgrow hat1 hlt1
           have z4:w1.cell? (aD q 2)=some (.slice xa j xc):=by rw[hgrow.cell_far _ (by simp;omega) (Ne.symm hne)];exact F9 hqm zc
           have y4:w1.frozen? (aD q 2)=false:=by rw[hgrow.frozen_far _ (by simp;omega) (Ne.symm hne)];exact S7 hqm (zf 2))
        | (go_simp; refine (HH.out _ (Chg.drewN _ _ 1)).mono ?_; rintro e wm ⟨rfl, hc⟩; have hcm := A0 (B9 (Chg.drewN No wr 1) hc); have bm := D6 hcm.out ZR.out; have zc : wm.cell? (aD q 2) = some (.slice xa j xc) := (cr bm rfl); have zf : ∀ o, wm.frozen? (aD q o) = false := λo => frozen_of_row wm _ o _ _ bm; have hqm := (ltG bm); have hmw : wr.heap.size <= wm.heap.size := hcm.out.size; clear hc bm))
      all_goals
        have HP:=A0 (Q1a (o:=2) (n0:=w.heap.size) (w:=w) ZR.out (by omega) OR.out (by decide) (Chg.toBelow CR.out (λ_ _ x=>x.elim) (vQ _)) (vQ _) (B9 hcm.out (Chg.alloc No wm (.cells #[iV (a:Int)] 3))) hgrow hown1)
        clear hown1 hgrow hat1
        go_wp2_with fail
        go_roundw
        case rel=>exact⟨j+1,_,_,by omega,by go_num,(Chg.below HP.out.2.2.2.1).mono (λk hk x=>by omega),HP.out.2.2.2.2.2.1,(show World.ownsRow _ _ _ _ _ _ _ from by rw[HT.out,M5];exact HP.out.2.2.2.2.1)⟩
        case measure=>simp[intOf];omega
    · have hje:j=ls.length:=by omega
      subst hje
      rw[List.take_length]at OR
      have q3':=A8 CR.out HQ3.out
      have hpbw:=blt q3'
      simp only at hpbw
      have d0:wr.cell? (aD q 0)=some (iV 9):=cr ZR.out rfl
      have d1:wr.cell? (aD q 1)=some (sN):=cr ZR.out rfl
      have d2:wr.cell? (aD q 2)=some (.slice xa ls.length xc):=cr ZR.out rfl
      have d3:wr.cell? (aD q 3)=some (iV (ar:Int)):=cr ZR.out rfl
      have HP:Hid (∀u,Chg No wr u->Calls prog 17 #[pV lb,.agg #[iV 9,sN,.slice xa ls.length xc,iV (ar:Int)]] u λe w'=>e= .returned (iV ((tl c Z).length:Int))/\Cst w0 w' c pb lb mb qb nv yv mn fv (Z++[⟨9,[],ls.map (λx=>C1a c ofs x.toNat),(ar:Int)⟩]) ofs/\KG u w'):=λu hu=>
        I7c (H0.out.still (B9 CR.out hu)) ⟨9,[],ls.map (λx=>C1a c ofs x.toNat),(ar:Int)⟩ none xa 0 0 ls.length xc (kW _ _ _ _) (by
          have:=C7 (A3 OR.out hu (λ_ _ x=>x)) (wQ _)
          rw[List.length_map]
          exact this) (λ_ _ g hg=>by simp[Value.ownBlock]at hg) (H0.out.far (KG.still (B9 CR.out hu)) (λg hg=>(OR.out.lt g hg).1)) HTY.out ⟨by rw[List.length_map];omega,by simp⟩ hN
      clear HHA HL HO
      go_wp2_with fail
      go_region_with (go_at_call 17;refine(HP.out _ (Chg.drewN _ _ 1)).mono ?_;rintro e w6 ⟨rfl,hC6,hk6⟩)
      all_goals
        have HQ:Hid (J3d w0 w c pb lb mb qb nv yv mn fv Z ofs FT (.returned (iV ((tl c Z).length:Int))) w6):=by
          refine⟨(tl c Z).length,[⟨9,[],ls.map (λx=>C1a c ofs x.toNat),(ar:Int)⟩],rfl,by simp,by rw[<-Z6,qQ,List.length_singleton];omega,by rw[<-Z6];exact HTR.out,hC6,(KG.still (B9 CR.out (Chg.drewN _ _ 1))).trans hk6⟩
        clear hC6 hk6
        go_wp2_with fail
        go_ret
        exact HQ.out
end
theorem OfR.none'{T:List M.Ty}{ofs:List Int}{of:M.Of}(h:OfR T ofs of):OfR T (ofs++[-1]) (of++[none]):=by
 refine⟨by simp[h.len],λi o ho=> ?_⟩;by_cases hi:i<of.length
 · rw[List.getElem?_append_left hi]at ho;have:=h.at' i o ho;rw[List.getElem?_append_left (by rw[h.len];exact hi)];exact this
 · rw[List.getElem?_append_right (by omega)]at ho;have hi2:i=of.length:=by
    have:=(List.getElem?_eq_some_iff.1 ho).1;simp at this;omega
   subst hi2;simp at ho;subst ho;show (ofs++[-1])[of.length]? =_;rw[<-h.len];simp
theorem OfR.some'{T:List M.Ty}{ofs:List Int}{of:M.Of}(h:OfR T ofs of){r:Nat}{t:M.Tr}(hr:r<T.length)(ht:M.tr T r=t):OfR T (ofs++[(r:Int)]) (of++[some t]):=by
 refine⟨by simp[h.len],λi o ho=> ?_⟩;by_cases hi:i<of.length
 · rw[List.getElem?_append_left hi]at ho;have:=h.at' i o ho;rw[List.getElem?_append_left (by rw[h.len];exact hi)];exact this
 · rw[List.getElem?_append_right (by omega)]at ho;have hi2:i=of.length:=by
    have:=(List.getElem?_eq_some_iff.1 ho).1;simp at this;omega
   subst hi2;simp at ho;subst ho;refine⟨r, ?_,hr,ht⟩;rw[<-h.len];simp
theorem M.of0_take(c:M.Cx){j:Nat}(h:j<c.N.length):(M.of0 c).take (j+1)=(M.of0 c).take j++[if c.N[j].kind=6 then some (M.fnT c c.N[j]) else none]:=by
 have hl:j<(M.of0 c).length:=by unfold M.of0;rw[List.length_map];exact h
 rw[nQ hl];simp[M.of0]
section
variable{w0 w:World}{c:M.Cx}{pb lb mb qb:Nat}{nv yv fv:Value}{mn:Int}
theorem K3b(hB:Cbs w0 c pb lb mb qb nv fv)(h:Cst w0 w c pb lb mb qb nv yv mn fv [] []):
 Calls prog 40 #[pV pb] w λe w'=>e=rT/\∃Z ofs,Z.length<=c.N.length/\OfR (tl c Z) ofs (M.of0 c)/\Cst w0 w' c pb lb mb qb nv yv mn fv Z ofs/\KQ w w':=by
 obtain⟨oa,oc,hpb,fz,q0,q1,q2,q3,q4,q5,q6,qp,qo⟩:=h.cell;have hlen:=hB.ok.lenN;have hlenT:=hB.ok.lenT;obtain⟨i0,hi0,hz0,hz1,hz2⟩:=info_parts Tryz.infoInt;have H0:=A0 h;have HBh:=A0 hB;obtain⟨na,nc,hnv⟩:∃na nc,nv= .slice na c.N.length nc:=by
  obtain⟨nx,hn,_⟩:=hB.nrow h.chg;exact B7 hn
 subst hnv;have HR0:Hid (OfR (tl c []) [] ((M.of0 c).take 0)):=⟨rfl,λi o ho=>by simp at ho⟩;clear h hB qp qo q1 q2 q3 q4 q5 q6 fz;go_enter func40,ntmps40;go_wp2_with fail
 go_loopw [11] (λv wr=>∃(j:Nat) (Z:List M.Ty) (ofs:List Int),j<=c.N.length/\v=iV (j:Int)/\Z.length<=j/\Hid (OfR (tl c Z) ofs ((M.of0 c).take j))/\Hid (Cst w0 wr c pb lb mb qb (.slice na c.N.length nc) yv mn fv Z ofs)/\Hid (KQ w wr)) (λv _=>c.N.length - (intOf v).toNat)
 case atStart=>exact⟨0,[],[],wQ _,rfl,by simp,HR0,H0,KQ.refl _⟩
 case round=>
  obtain⟨j,Z,ofs,hj,rfl,hZ,HR,HC,HK⟩:=hrel;by_cases hjl:j<c.N.length
  · obtain⟨g,nc',la,lc,hnv,hg,hn1,hn2,⟨x0,x1,x2,x3,x4,x5,x6,x7,x8⟩,hlo,-⟩:=(HBh.out.nrow HC.out.chg).at (Below.refl _ _) j hjl;have hna:na=some (aD g 0)/\nc=nc':=by
     injection hnv with e1 e2 e3;exact⟨e1,e3⟩
    obtain⟨rfl,rfl⟩:=hna;clear hnv;have hol:ofs.length<=1200:=by
     rw[HR.out.len,List.length_take];omega
    have hT:=HC.out.ts;have hf:=HBh.out.ok.flat j hjl;have hl12:=HBh.out.ok.ls j hjl;have hN:(tl c Z).length+1<=4000:=by rw[O8];omega
    have HFN:Hid (c.N[j].kind=6->∀u,Chg No wr u->Calls prog 75 #[pV pb,nvl c.N[j] la lc] u (J3d w0 u c pb lb mb qb (.slice (some (aD g 0)) c.N.length nc) yv mn fv Z ofs (M.fnT c c.N[j]))):=λh6 u hu=>by
     obtain⟨f1,f2,f3⟩:=hf.k6 h6;refine R7b HBh.out (HC.out.still hu) c.N[j] (λx hx=>E9d HBh.out.ok hT (f1 x hx)) ?_ hl12 la lc (A3 hlo hu (λ_ _ x=>x)) hN;unfold O8b M.E7a;by_cases ht:c.N[j].ty= -1
     · refine⟨c.T.length+4,by simp[ht],by rw[O8];omega, ?_⟩;have:=Z5 hT (k:=5) (by omega) (by omega);simpa[M.plT,M.W6,ht]using this
     · rcases f2 with f2|⟨a,e2,ha,_⟩
       · exact absurd f2 ht
       · refine⟨a,by rw[e2];simp,by rw[O8];omega, ?_⟩;rw[N4b HBh.out.ok.ok ha,e2];simp
    have HT:=A0 (M.of0_take c hjl);clear hf hT hlo;unfold nvl at HFN;generalize hndg:c.N[j]=nd at *;obtain⟨kd,va,vb,vc,ls,tx,vn,vt,vp⟩:=nd;simp only at *;clear hndg;unfold maxLen at hn2;have A1:=A0 (Chg.alloc No wr (ndC kd va vb vc (.slice la ls.length lc) tx vn vt vp));have nb:=heap_alloc_new wr (ndC kd va vb vc (.slice la ls.length lc) tx vn vt vp);have n0:=cell_of_row _ _ 0 _ _ _ nb;have n1:=cell_of_row _ _ 1 _ _ _ nb;have n2:=cell_of_row _ _ 2 _ _ _ nb;have n3:=cell_of_row _ _ 3 _ _ _ nb;have n4:=cell_of_row _ _ 4 _ _ _ nb;have n5:=cell_of_row _ _ 5 _ _ _ nb;have n6:=cell_of_row _ _ 6 _ _ _ nb;have n7:=cell_of_row _ _ 7 _ _ _ nb;have n8:=cell_of_row _ _ 8 _ _ _ nb;clear nb;by_cases h6:kd=6
    · have HX:=A0 (HFN.out h6 _ A1.out);subst h6;have HT6:Hid ((M.of0 c).take (j+1)=(M.of0 c).take j++[some (M.fnT c ⟨6,va,vb,vc,ls,tx,vn,vt,vp⟩)]):=HT.out;clear HFN HT;go_wp2_with fail
      refine HX.out.mono ?_;rintro e u ⟨x,X,rfl,hX,hxl,hxt,hC,hk⟩;have HCu:=A0 hC;have HKu:Hid (KQ w u):=(HK.out.trans (.still A1.out)).trans (.kg hk);have HRu:Hid (OfR (tl c (Z++X)) (ofs++[(x:Int)]) ((M.of0 c).take (j+1))):=by
       have hm:=HR.out.more HC.out.ts X;rw[Z6]at hm;show OfR _ _ _;rw[HT6.out];exact hm.some' hxl hxt
      have hZu:(Z++X).length<=j+1:=by rw[qQ];omega
      clear hC hk hX hxl hxt HX A1 n0 n1 n2 n3 n4 n5 n6 n7 n8 x0 x1 x2 x3 x4 x5 x6 x7 x8 HT6 HR HC HK;obtain⟨ov,D,hbb,hrr,-⟩:=HCu.out.st;obtain⟨oa,oc,rfl⟩:=B7 hrr;have q6:u.cell? (aD pb 6)=some (.slice oa ofs.length oc):=cr hbb rfl;have hpw:=blt q6;simp only at hpw;have hww:=HCu.out.chg.size;have HO4:=A0 (hrr.alloc (.cells #[iV (x:Int)] 3));have HQ6:=A0 q6;clear hbb hrr;go_wp2_with (at_builtin;go_loud (refine wpList_append_own_at _ rfl _ _ 43 rfl w0.heap.size 3 i0 (iV 0) 1 8 underlying43 hi0 hz0 hz1 hz2 rfl (by decide) _ _ _ rfl HO4.out (aD u.heap.size 0) 1 1 [iV (x:Int)] rfl rfl ?c1 ?c2 ?c3 ?c4 ?c5 ?_))
      case c1=>
       intro i u hu;match i,hu with
       |0,hu=>simp at hu;subst hu;simp[Addr.add]
      case c2=>intro u hu;simp at hu;subst hu;rfl
      case c3=>simp only[maxLen];omega
      case c4=>omega
      case c5=>simp;omega
      intro v' w4 hown4 hg4 _ hat4;obtain⟨xa,xc,rfl⟩:=B7 hown4;obtain⟨k0,k1,k2,k3,k4⟩:=HCu.out.push HQ6.out (Chg.alloc No _ _) hg4 hown4 hat4 (by omega);have K3:=A0 k3;have K4:=A0 (HKu.out.trans k4);clear k3 k4 hown4 hg4 hat4 HO4 q6 HQ6;go_wp2_with fail
      go_roundw
      case rel=>exact⟨j+1,_,_,by omega,by go_num,hZu,HRu,K3,K4⟩
      case measure=>simp[intOf];omega
    · have g6:(kd==6)=false:=by simpa using h6
      have HCu:=A0 (HC.out.still A1.out);have HKu:Hid (KQ w _):=HK.out.trans (.still A1.out);have HRu:Hid (OfR (tl c Z) (ofs++[-1]) ((M.of0 c).take (j+1))):=by
       show OfR _ _ _;rw[HT.out,if_neg h6];exact HR.out.none'
      have hZu:Z.length<=j+1:=by omega
      have hww2:w0.heap.size<=wr.heap.size:=HC.out.chg.size;clear HFN HT HR h6;obtain⟨ov,D,hbb,hrr,-⟩:=HCu.out.st;obtain⟨oa,oc,rfl⟩:=B7 hrr;have q6:(wr.alloc (ndC kd va vb vc (.slice la ls.length lc) tx vn vt vp)).cell? (aD pb 6)=some (.slice oa ofs.length oc):=cr hbb rfl;have hpw:=blt q6;simp only at hpw;have hww:=HCu.out.chg.size;have HO4:=A0 (hrr.alloc (.cells #[iV (-1)] 3));have HQ6:=A0 q6;clear hbb hrr;go_wp2_with (at_builtin;go_loud (refine wpList_append_own_at _ rfl _ _ 43 rfl w0.heap.size 3 i0 (iV 0) 1 8 underlying43 hi0 hz0 hz1 hz2 rfl (by decide) _ _ _ rfl HO4.out (aD (wr.heap.size+1) 0) 1 1 [iV (-1)] rfl rfl ?c1 ?c2 ?c3 ?c4 ?c5 ?_))
      case c1=>
       intro i u hu;match i,hu with
       |0,hu=>simp at hu;subst hu;simp[Addr.add]
      case c2=>intro u hu;simp at hu;subst hu;rfl
      case c3=>simp only[maxLen];omega
      case c4=>omega
      case c5=>simp;omega
      intro v' w4 hown4 hg4 _ hat4;obtain⟨xa,xc,rfl⟩:=B7 hown4;obtain⟨k0,k1,k2,k3,k4⟩:=HCu.out.push HQ6.out (Chg.alloc No _ _) hg4 hown4 hat4 (by simp);have K3:=A0 k3;have K4:=A0 (HKu.out.trans k4);clear k3 k4 hown4 hg4 hat4 HO4 q6 HQ6;go_wp2_with fail
      go_roundw
      case rel=>exact⟨j+1,_,_,by omega,by go_num,hZu,HRu,K3,K4⟩
      case measure=>simp[intOf];omega
  · have hje:j=c.N.length:=by omega
    subst hje;have HR':Hid (OfR (tl c Z) ofs (M.of0 c)):=by
     have:(M.of0 c).take c.N.length=M.of0 c:=by
      rw[List.take_of_length_le];unfold M.of0;rw[List.length_map];omega
     have h2:=HR.out;rw[this]at h2;exact h2
    clear HR;go_wp2_with fail
    go_end0;exact⟨rfl,Z,ofs,hZ,HR'.out,HC.out,HK.out⟩
end
theorem Q9b(w:World)(nd:M.Nd)(la:Option Addr)(lc:Nat)(b:Bool)(hb:b=decide (1<=nd.kind/\nd.kind<=14)):
 Calls prog 41 #[nvl nd la lc] w λe w'=>e= .returned (.bool b)/\Chg No w w':=by
 unfold nvl;obtain⟨kd,va,vb,vc,ls,tx,vn,vt,vp⟩:=nd;simp only at *;have A1:=A0 (Chg.alloc No w (ndC kd va vb vc (.slice la ls.length lc) tx vn vt vp));by_cases h1:1<=kd
 · by_cases h2:kd<=14
   · have hb':b=true:=by rw[hb];simp[h1,h2]
     subst hb';clear hb;go_enter func41,ntmps41;go_wp2_with fail
     go_ret;exact⟨rfl,A1.out⟩
   · have hb':b=false:=by rw[hb];simp[h2]
     subst hb';clear hb;go_enter func41,ntmps41;go_wp2_with fail
     go_ret;exact⟨rfl,A1.out⟩
 · have hb':b=false:=by rw[hb];simp[h1]
   subst hb';clear hb;go_enter func41,ntmps41;go_wp2_with fail
   go_ret;exact⟨rfl,A1.out⟩
section
variable{w0 w:World}{c:M.Cx}{pb lb mb qb:Nat}{nv yv fv:Value}{mn:Int}
def CkQ(w0 w:World)(c:M.Cx)(pb lb mb qb:Nat)(nv yv:Value)(mn:Int)(fv:Value)(r:(Int×Nat) ⊕ M.Of)(e:Ending)(w':World):Prop:=KQ w w'/\Chg (SW w0 pb lb mb) w0 w'/\match r with
 | .inl (er,i)=>e=gu er (atI c.N i)
 | .inr of=>e=rT/\∃Z ofs,Z.length<=3 * c.N.length/\OfR (tl c Z) ofs of/\Cst w0 w' c pb lb mb qb nv yv mn fv Z ofs
theorem K8d{j:Nat}{of:M.Of}{Z:List M.Ty}{ofs:List Int}(hB:Cbs w0 c pb lb mb qb nv fv)(hL:Lks c Z ofs of j)(h:Cst w0 w c pb lb mb qb nv yv mn fv Z ofs)(hj:j<c.N.length)(hE:¬(1<=c.N[j].kind/\c.N[j].kind<=14)):
 Calls prog 42 #[pV pb,iV (j:Int)] w λe w'=>KQ w w'/\Chg (SW w0 pb lb mb) w0 w'/\((∃er,M.ckN c of j= .inl er/\e=gu er (atI c.N j))\/(M.ckN c of j= .inr none/\e=rT/\Cst w0 w' c pb lb mb qb nv yv mn fv Z ofs)):=by
 have hck:M.ckN c of j=if c.N[j].kind=24/\c.fn.getD j 0= -1 then .inl 4 else if M.S8 c of j=true then .inr none else .inl 9:=by
  unfold M.ckN;rw[M.D3 hj];exact if_neg hE
 refine(G8b hB hL h hj (by omega)).mono ?_;rintro e w' (⟨h1,h2,h3,h4⟩|⟨h1,h2⟩)
 · exact⟨.still h4,(h.still h4).chg,.inl ⟨4,by rw[hck,if_pos ⟨h1,h2⟩],h3⟩⟩
 · rw[hck,if_neg h1];rcases FtQ.part h2 with ⟨rfl,hb,hc⟩|⟨rfl,hb,hc,hC⟩
   · exact⟨.kg (.kc (h.kc hc)),h.swm hc,.inl ⟨9,by rw[hb];rfl,rfl⟩⟩
   · exact⟨.kg (.kc (h.kc hc)),h.swm hc,.inr ⟨by rw[hb];rfl,rfl,hC⟩⟩
theorem O1d{j:Nat}{of:M.Of}{Z:List M.Ty}{ofs:List Int}(hB:Cbs w0 c pb lb mb qb nv fv)(hR:OfR (tl c Z) ofs of)(hI:M.CkI c of j)(hW:M.OfW of)(h:Cst w0 w c pb lb mb qb nv yv mn fv Z ofs)(hj:j<c.N.length)(hE:1<=c.N[j].kind/\c.N[j].kind<=14)(hN:(tl c Z).length+2<=4000):
 Calls prog 43 #[pV pb,iV (j:Int)] w λe w'=>KG w w'/\Chg (SW w0 pb lb mb) w0 w'/\((M.D7 c of j=none/\e=gu 9 (atI c.N j))\/∃(t:M.Tr) (x:Nat) (X:List M.Ty),M.D7 c of j=some t/\e= .returned (iV (x:Int))/\X.length<=2/\x<(tl c (Z++X)).length/\M.tr (tl c (Z++X)) x=t/\Cst w0 w' c pb lb mb qb nv yv mn fv (Z++X) ofs):=by
 have hL:=Q7b hB.ok h.ts hR hI (vQ j);refine(H0d hB hL h hj hE (λh6=> ?_) hN (λh11=>M.I8d hB.ok hI hW hj h11)).mono ?_
 · obtain⟨t,ht⟩:=hI.ex j hj hE (.inr h6);obtain⟨r,h1,h2,h3,h4⟩:=Cst.look (c:=c) (Z:=Z) hR ht;exact⟨j,r,h1,rfl,h2,h3,h4⟩
 · intro e w' hq;cases hx:M.D7 c of j with
   |none=>
    rw[hx]at hq;exact⟨hq.2.1,hq.2.2,.inl ⟨rfl,hq.1⟩⟩
   |some t=>
    rw[hx]at hq;obtain⟨x,X,h1,h2,h3,h4,h5,h6⟩:=hq;exact⟨h6,h5.chg,.inr ⟨t,x,X,rfl,h1,h2,h3,h4,h5⟩⟩
end
end Go.Proofs.YtfhhipefecekkaaGreatDoor
