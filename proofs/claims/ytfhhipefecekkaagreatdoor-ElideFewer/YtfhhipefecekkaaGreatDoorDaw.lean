/-
  A part of the proof.
-/
import Derived.Test.YtfhhipefecekkaaGreatDoorCheckB
set_option maxHeartbeats 16000000
set_option maxRecDepth 100000
namespace Go.Proofs.YtfhhipefecekkaaGreatDoor
open Go.Proofs.Tryz
open Go.RowKit Go.Maps
section
variable{w0 w:World}{c:M.Cx}{pb lb mb qb:Nat}{nv yv fv:Value}{mn:Int}{Z:List M.Ty}{ofs:List Int}{of:M.Of}{i:Nat}{kf:FuncId}{cp:Array Value}{R:List (Int×M.Tr)->World->Prop}{Pn:Ending->World->Prop}
theorem I1d(hB:Cbs w0 c pb lb mb qb nv fv)(hL:Lks c Z ofs of i)(hT:TlC w0 c pb lb mb qb nv yv mn fv Z ofs of i kf cp R Pn)(hi:i<c.N.length)(hk:c.N[i].kind=24)(hfn:c.fn.getD i 0≠-1)(hR:R [] w):
 Calls prog 21 #[pV pb,iV (i:Int),.func (.func kf) #[] cp] w λe w'=>((∃x y,e=gu x y)/\Pn e w')\/(e=rT/\∃L,M.asks c of i=some L/\R L w'):=by
 have hcf:=hT.cf;have h:=hT.st _ _ hR;have hf:=hB.ok.flat i hi;obtain⟨oa,oc,hpb,fz,q0,q1,q2,q3,q4,q5,q6,qp,qo⟩:=h.cell;obtain⟨g,nc,la,lc,hnv,hg,hn1,hn2,⟨x0,x1,x2,x3,x4,x5,x6,x7,x8⟩,hlo,-⟩:=(hB.nrow h.chg).at (Below.refl _ _) i hi;have hlen:=hB.ok.lenN;unfold maxLen at hn2;have hpe:M.Pe c.N i c.N[i].a:=hf.k1 (by omega);obtain⟨p,r,hp,hpx,-⟩:=hL.pe _ hpe;have HA0:M.asks c of i=(some (M.E7a c.T (M.ndx c.N (c.fn.getD i 0)))).map λt=>[(c.N[i].a,t)]:=by
  unfold M.asks;simp only[M.D3 hi];rw[if_neg (by omega),if_neg (by omega),if_neg (by omega),if_neg (by omega),if_neg (by omega),if_neg (by omega),if_pos hk];rfl
 obtain⟨tt,htt⟩:∃tt,tt=(some (M.E7a c.T (M.ndx c.N (c.fn.getD i 0)))).getD M.W6:=⟨_,rfl⟩;obtain⟨xx,hxx⟩:∃xx,xx=c.N[i].a:=⟨_,rfl⟩;have RS:∀u,R [] u->Cst w0 u c pb lb mb qb nv yv mn fv Z ofs:=λu hu=>hT.st _ _ hu;obtain⟨f,hf1,hf2⟩:∃f:Nat,c.fn.getD i 0=(f:Int)/\f<c.N.length:=by
  rcases hB.ok.fnr i hi with e|e
  · exact absurd e hfn
  · exact e
 obtain⟨a0,hrs,hal0,hatr0⟩:=hL.res (c.fn.getD i 0);rw[hf1,M.D3 hf2]at hrs hatr0;obtain⟨g',nc',la',lc',hnv',hg',hn1',hn2',⟨z0,z1,z2,z3,z4,z5,z6,z7,z8⟩,-,-⟩:=(hB.nrow h.chg).at (Below.refl _ _) f hf2;have hgg:g'=g/\nc'=nc:=by
  rw[hnv]at hnv';simp only[Value.slice.injEq,zQ,Addr.mk.injEq,and_true,true_and]at hnv';exact⟨hnv'.1.symm,hnv'.2.symm⟩
 obtain⟨rfl,rfl⟩:=hgg;have hfo:=hB.fn h.chg;obtain⟨fa,fcc,hfv⟩:=B7 hfo;rw[hfv]at hfo q5;have hfl:c.fn.length=c.N.length:=hB.ok.fnl;have hil:i<c.fn.length:=by omega
 obtain⟨gf,hgf,-,hgf2,hfc1,hfc2,hfcell⟩:=D8 hfo (by omega);have y0:=hfcell i (iV (f:Int)) (by
  have e2:c.fn[i]=(f:Int):=by rw[<-hf1,lQ,gQ hil];rfl
  simp[B8,hil,e2])
 subst hgf;unfold maxLen at hfc2;have HF:Hid (∀u,R [] u->Calls prog 51 #[pV pb,nvl c.N[f] la' lc'] u λe u'=>((∃x y,e=gu x y)/\Pn e u')\/∃a:Nat,e= .returned (iV (a:Int))/\a<(tl c Z).length/\some (M.E7a c.T (M.ndx c.N (c.fn.getD i 0)))=some (M.tr (tl c Z) a)/\R [] u'/\KC u u'):=λu hu=>by
  refine(H7b (RS u hu) c.N[f] la' lc').mono ?_;rintro e u' ⟨rfl,hc⟩;exact .inr ⟨a0,by rw[hrs],hal0,by rw[hatr0,hf1,M.D3 hf2],hT.still _ _ _ hu hc,KC.still hc⟩
 have HT:Hid (∀(u:World) (a:Nat),a<(tl c Z).length->some (M.E7a c.T (M.ndx c.N (c.fn.getD i 0)))=some (M.tr (tl c Z) a)->R [] u->Calls prog kf (#[iV (p:Int),iV (a:Int)]++cp) u λe u'=>((∃x y,e=gu x y)/\Pn e u')\/(e=rT/\R [(xx,tt)] u'/\KC u u')):=λu a hal hft hu=>by
  have he:tt=M.tr (tl c Z) a:=by rw[htt,hft];rfl
  have hal2:M.asks c of i=some [(xx,tt)]:=by rw[HA0,hft,hxx,he];rfl
  refine(hT.tell [] u _ xx p a hu (by rw[hxx];exact hpe) (by rw[hxx];exact hpx) hal hal2 (by rw[he];simp) (by simp)).mono ?_;rintro e u' (y|⟨y1,y2,y3⟩)
  · exact .inl y
  · exact .inr ⟨y1,by rw[he];exact y2,y3⟩
 have HA:Hid (∀a:Nat,some (M.E7a c.T (M.ndx c.N (c.fn.getD i 0)))=some (M.tr (tl c Z) a)->M.asks c of i=some [(xx,tt)]):=λa hft=>by
  rw[HA0,hft,hxx,htt,hft];rfl
 have HR:Hid (∀u,Chg No w u->R [] u):=λu hu=>hT.still _ _ _ hR hu;generalize some (M.E7a c.T (M.ndx c.N (c.fn.getD i 0)))=FT at *;rw[hpx]at x1;clear qp qo h hB hL hT hR hf hpe hpx htt hxx RS HA0 fz hrs hatr0 hfo hfcell;generalize hnd:c.N[i]=nd at *;clear hnd;obtain⟨kd,va,vb,vc,ls,tx,vn,vt,vp⟩:=nd;subst hnv hfv;simp only at *;subst hk;have A1:=Chg.alloc No w (ndC 24 (p:Int) vb vc (.slice la ls.length lc) tx vn vt vp);have nb:=heap_alloc_new w (ndC 24 (p:Int) vb vc (.slice la ls.length lc) tx vn vt vp);have n1:(w.alloc (ndC 24 (p:Int) vb vc (.slice la ls.length lc) tx vn vt vp)).cell? (aD w.heap.size 1)=some (iV (p:Int)):=cr nb rfl;have q0':=A8 A1 q0;have q5':=A8 A1 q5;have y0':=A8 A1 y0;have z0':=A8 A1 z0;have z1':=A8 A1 z1;have z2':=A8 A1 z2;have z3':=A8 A1 z3;have z4':=A8 A1 z4;have z5':=A8 A1 z5;have z6':=A8 A1 z6;have z7':=A8 A1 z7;have z8':=A8 A1 z8;have A1h:=A0 A1;clear A1 nb;go_enter func21,ntmps21;go_wp2_with fail
 generalize (w.alloc (ndC 24 (p:Int) vb vc (.slice la ls.length lc) tx vn vt vp))=W at *;have S0:Hid (W.drew.cell? (aD w.heap.size 1)=some (iV (p:Int))/\W.drew.cell? (aD pb 0)=some (.slice (some (aD g' 0)) c.N.length nc')/\W.drew.cell? (aD pb 5)=some (.slice (some (aD gf 0)) c.N.length fcc)/\W.drew.cell? (aD gf i)=some (iV (f:Int))/\W.drew.cell? (aD g' (f * 9))=some (iV c.N[f].kind)/\W.drew.cell? (aD g' (f * 9+1))=some (iV c.N[f].a)/\W.drew.cell? (aD g' (f * 9+2))=some (iV c.N[f].b)/\W.drew.cell? (aD g' (f * 9+3))=some (iV c.N[f].c)/\W.drew.cell? (aD g' (f * 9+4))=some (.slice la' c.N[f].list.length lc')/\W.drew.cell? (aD g' (f * 9+5))=some (.string ⟨c.N[f].text.toArray⟩)/\W.drew.cell? (aD g' (f * 9+6))=some (iV c.N[f].n)/\W.drew.cell? (aD g' (f * 9+7))=some (iV c.N[f].ty)/\W.drew.cell? (aD g' (f * 9+8))=some (iV c.N[f].at')/\Hid (KC W W.drew/\R [] W.drew)):=⟨n1,q0',q5',y0',z0',z1',z2',z3',z4',z5',z6',z7',z8',⟨KC.still (Chg.drewN _ _ 1),HR.out _ (B9 A1h.out (Chg.drewN _ _ 1))⟩⟩;have n1d:W.cell? (aD w.heap.size 1)=some (iV (p:Int)):=n1;have q0d:W.cell? (aD pb 0)=some (.slice (some (aD g' 0)) c.N.length nc'):=q0';have q5d:W.cell? (aD pb 5)=some (.slice (some (aD gf 0)) c.N.length fcc):=q5';have y0d:W.cell? (aD gf i)=some (iV (f:Int)):=y0';have z0d:W.cell? (aD g' (f * 9))=some (iV c.N[f].kind):=z0';have z1d:W.cell? (aD g' (f * 9+1))=some (iV c.N[f].a):=z1';have z2d:W.cell? (aD g' (f * 9+2))=some (iV c.N[f].b):=z2';have z3d:W.cell? (aD g' (f * 9+3))=some (iV c.N[f].c):=z3';have z4d:W.cell? (aD g' (f * 9+4))=some (.slice la' c.N[f].list.length lc'):=z4';have z5d:W.cell? (aD g' (f * 9+5))=some (.string ⟨c.N[f].text.toArray⟩):=z5';have z6d:W.cell? (aD g' (f * 9+6))=some (iV c.N[f].n):=z6';have z7d:W.cell? (aD g' (f * 9+7))=some (iV c.N[f].ty):=z7';have z8d:W.cell? (aD g' (f * 9+8))=some (iV c.N[f].at'):=z8';have hn1w:=blt n1d;have hq0w:=blt q0d;have hq5w:=blt q5d;have hy0w:=blt y0d;have hz0w:=blt z0d;have hz1w:=blt z1d;have hz2w:=blt z2d;have hz3w:=blt z3d;have hz4w:=blt z4d;have hz5w:=blt z5d;have hz6w:=blt z6d;have hz7w:=blt z7d;have hz8w:=blt z8d;simp only at hn1w hq0w hq5w hy0w hz0w hz1w hz2w hz3w hz4w hz5w hz6w hz7w hz8w;clear S0 n1 q0' q5' y0' z0' z1' z2' z3' z4' z5' z6' z7' z8' q0 q5 y0 z0 z1 z2 z3 z4 z5 z6 z7 z8;go_region_with (first
  |(go_at_call 51;refine(HF.out _ (HR.out _ (B9 A1h.out (Chg.drewN _ _ 1)))).mono ?_;rintro e w5 (⟨⟨x,y,rfl⟩,hP⟩|⟨a,rfl,hal,hft,hrr,hkc⟩);exact⟨rfl,.inl ⟨⟨x,y,rfl⟩,hP⟩⟩;have n1e:=hkc.cell n1d)
  |(refine(HT.out _ a hal hft hrr).mono ?_;rintro e w6 (⟨⟨x,y,rfl⟩,hP⟩|⟨rfl,hR6,hkc2⟩);exact⟨rfl,.inl ⟨⟨x,y,rfl⟩,hP⟩⟩))
 all_goals
  have H6:=A0 hR6;have HAA:=A0 (HA.out a hft);clear hR6 hkc2 hkc hrr hft;go_wp2_with fail
  go_end0;exact .inr ⟨rfl,_,HAA.out,H6.out⟩
end
end Go.Proofs.YtfhhipefecekkaaGreatDoor
