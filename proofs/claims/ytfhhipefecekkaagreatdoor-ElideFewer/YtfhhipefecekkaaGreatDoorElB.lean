/-
  A part of the proof.
-/
import Derived.Test.YtfhhipefecekkaaGreatDoorElA
set_option maxHeartbeats 16000000
set_option maxRecDepth 100000
namespace Go.Proofs.YtfhhipefecekkaaGreatDoor
open Go.Proofs.Tryz
open Go.RowKit Go.Maps
def Bel(c:M.Cx)(f:Nat)(l:List Int):Prop:=l.length<=100000/\∀x∈l,∃j:Nat,x=j/\j<f/\j<c.N.length
theorem Bel.prt{c:M.Cx}(hc:M.D8a c){i:Nat}(hi:i<c.N.length){f:Nat}(hf:i<=f):Bel c f (M.prt c.N[i]):=by
 refine⟨?_,λx hx=> ?_⟩
 · have h1:=hc.ls i hi;unfold M.prt;repeat' split
   all_goals simp
   all_goals omega
 · obtain⟨j,e,hj⟩:=M.I8c (hc.flat i hi) x hx;exact⟨j,e,by omega,by omega⟩
theorem N5a{w:World}{q:Nat}{a b c d e f g h i:Value}(hb:w.heap[q]? =some (.cells #[a,b,c,d,e,f,g,h,i] 70 (0,0))):q<w.heap.size/\w.cell? (aD q 0)=some a/\w.cell? (aD q 1)=some b/\w.cell? (aD q 2)=some c/\w.cell? (aD q 3)=some d/\w.cell? (aD q 4)=some e/\w.cell? (aD q 5)=some f/\w.cell? (aD q 6)=some g/\w.cell? (aD q 7)=some h/\w.cell? (aD q 8)=some i:=
 ⟨(ltG hb),cr hb rfl,cr hb rfl,cr hb rfl,cr hb rfl,cr hb rfl,cr hb rfl,cr hb rfl,cr hb rfl,cr hb rfl⟩
def Irw(w:World)(la:Option Addr)(lc:Nat)(l:List Int):Prop:=∀j (h:j<l.length),∃q o cur,la=some (aD q o)/\w.heap[q]? =some (.cells cur 3 (0,0))/\w.cell? (aD q (o+j))=some (iV l[j])/\l.length<=lc/\lc<=maxLen
theorem Irw.of{w:World}{la:Option Addr}{lc:Nat}{l:List Int}(h:w.ownsRow 0 3 1 (.slice la l.length lc) l.length (B8 l)):Irw w la lc l:=λj hj=>by
 obtain⟨q,rfl,hq,h1,h2,hc⟩:=D5 h hj;obtain⟨_,cur,hh⟩:=A9 h q rfl;exact⟨q,0,cur,rfl,hh,by rw[Nat.zero_add];exact hc,h1,h2⟩
theorem Irw.keep{B kb:Nat}{w w':World}{la:Option Addr}{lc:Nat}{l:List Int}(h:Irw w la lc l)(hk:Ekp B kb w w')(hn:∀cs e fz,w.heap[kb]? ≠some (.cells cs e fz)):Irw w' la lc l:=λj hj=>by
 obtain⟨q,o,cur,rfl,hh,hc,r⟩:=h j hj;have h2:=hk.cells hn hh (by decide) (by decide);refine⟨q,o,cur,rfl,h2, ?_,r⟩;rw[cell_of_row _ _ _ _ _ _ hh]at hc;rw[cell_of_row _ _ _ _ _ _ h2];exact hc
section
variable{wB:World}{c:M.Cx}{pb qb fb gb kb m:Nat}{nv cv:Value}{ct:List Int}{g:M.Gm}
theorem U0a(hP:Pgm wB c pb qb nv cv ct):∀(f:Nat) (l:List Int) (w:World) (s:M.Es) (la:Option Addr) (lc:Nat),Bel c f l->Flw wB w pb cv fb gb kb g m s->Irw w la lc l->
 Calls prog 58 #[pV fb,.slice la l.length lc] w (EQ wB pb cv fb gb kb g m ⟨M.fgL c f l s.kn,s.lf⟩ w)
 |f,l,w,s,la,lc,hl,h,ho=>by
  have IH:Hid (∀(l':List Int) (w:World) (s:M.Es) (la:Option Addr) (lc:Nat),Bel c (f - 1) l'->0<f->Flw wB w pb cv fb gb kb g m s->Irw w la lc l'->
   Calls prog 58 #[pV fb,.slice la l'.length lc] w (EQ wB pb cv fb gb kb g m ⟨M.fgL c (f - 1) l' s.kn,s.lf⟩ w)):=λl' w s la lc h1 h0 h2 h3=>U0a hP (f - 1) l' w s la lc h1 h2 h3
  have hsm:=hl.1;have HL:=A0 hl.2;have HW:=A0 h;have HO:=A0 ho;have HPP:=A0 hP;clear h ho hl hP;go_enter func58,ntmps58;go_wp2_with fail
  go_loopw [9] (λv wr=>∃j:Nat,j<=l.length/\v=iV (j:Int)/\Hid (Flw wB wr pb cv fb gb kb g m ⟨M.fgL c f (l.take j) s.kn,s.lf⟩)/\Hid (Ekp wB.heap.size kb w wr)) (λv _=>l.length - (intOf v).toNat)
  case atStart=>exact⟨0,wQ _,rfl,HW.out,.still (Chg.refl _ _)⟩
  case round=>
   obtain⟨j,hj,rfl,HF,HK⟩:=hrel;by_cases hjl:j<l.length
   · obtain⟨q,o,cur,e1,hcu,x1,h11,h12⟩:=HO.out.keep HK.out HW.out.nc j hjl;have hq:=(ltG hcu);subst e1;obtain⟨i,hix,hif,hiN⟩:=HL.out l[j] (mQ hjl);have HT:Hid (M.fgL c f (l.take (j+1)) s.kn=M.fgN c f i (M.fgL c f (l.take j) s.kn)):=by
      show _=_;rw[nQ hjl,hix];unfold M.fgL;rw[List.foldl_append];rfl
     rw[hix]at x1;clear hix;obtain⟨kn,hkn⟩:∃kn,M.fgL c f (l.take j) s.kn=kn:=⟨_,rfl⟩;rw[hkn]at HF HT;clear hkn;obtain⟨hfl,-,b0,-,-,b3,-⟩:=HF.out.cell;obtain⟨hpl,p0,p4⟩:=(HF.out.pgm HPP.out).cell;obtain⟨ng,nc,na,nd',hnv,hg,hn1,hn2,⟨y0,y1,y2,y3,y4,y5,y6,y7,y8⟩,hlo,-⟩:=(HF.out.pgm HPP.out).nodes.at (Below.refl _ _) i hiN;subst hnv;have hlen:=HPP.out.ok.lenN;unfold maxLen at h12 hn2;have HPA:Hid (∀u,Ekp wB.heap.size kb wr u->Calls prog 29 #[nvl c.N[i] na nd'] u (PaP u (M.prt c.N[i]))):=λu hu=>C1b (HPP.out.ok.flat i hiN) u na nd' (hu.row HF.out.nc hlo) (by have:=HPP.out.ok.ls i hiN;omega);have HFG:Hid (∀u kn' ga gc,Flw wB u pb cv fb gb kb g m ⟨kn',s.lf⟩->Irw u ga gc (M.prt c.N[i])->Calls prog 58 #[pV fb,.slice ga (M.prt c.N[i]).length gc] u (EQ wB pb cv fb gb kb g m ⟨M.fgL c (f - 1) (M.prt c.N[i]) kn',s.lf⟩ u)):=λu kn' ga gc h1 h2=>IH.out _ u ⟨kn',s.lf⟩ ga gc (Bel.prt HPP.out.ok hiN (by omega)) (by omega) h1 h2;have HE:Hid (M.fgN c f i kn=if c.N[i].kind=6 then kn else M.fgL c (f - 1) (M.prt c.N[i]) (if c.N[i].kind=18 then M.C4c kn (M.nmx c i) else kn)):=by
      show _=_;obtain⟨f',rfl⟩:∃f',f=f'+1:=⟨f - 1,by omega⟩;rw[M.fgN,M.D3 hiN];rfl
     have A1:=Chg.alloc No wr (.cells #[iV c.N[i].kind,iV c.N[i].a,iV c.N[i].b,iV c.N[i].c,.slice na c.N[i].list.length nd',.string ⟨c.N[i].text.toArray⟩,iV c.N[i].n,iV c.N[i].ty,iV c.N[i].at'] 70);have HF1:=A0 (HF.out.still A1);have HNM:=A0 (λhk=>((HF1.out.still (Chg.drewN No _ 1)).pgm HPP.out).nm hiN (.inr hk));have nb:=heap_alloc_new wr (.cells #[iV c.N[i].kind,iV c.N[i].a,iV c.N[i].b,iV c.N[i].c,.slice na c.N[i].list.length nd',.string ⟨c.N[i].text.toArray⟩,iV c.N[i].n,iV c.N[i].ty,iV c.N[i].at'] 70);have HNB:=A0 nb;have HA1:=A0 A1;unfold nvl at HPA;clear hlo IH A1 nb hcu;generalize hnd:c.N[i]=nd at *;clear hnd;obtain⟨kd,va,vb,vc,ls,tx,vn,vt,vp⟩:=nd;simp only at *;by_cases k6:kd=6
     · subst k6;have e:M.fgL c f (l.take (j+1)) s.kn=kn:=by rw[HT.out,HE.out,if_pos rfl]
       have HR:=A0 e;clear e HPA HFG HNM HNB HE HT;go_wp2_with fail
       go_roundw
       case rel=>exact⟨j+1,by omega,by go_num,by rw[HR.out];exact HF1.out,HK.out.trans (.still HA1.out) (.inl rfl)⟩
       case measure=>simp[intOf];omega
     · have g6:(kd==6)=false:=by simpa using k6
       by_cases k18:kd=18
       · subst k18;obtain⟨hx,hlk⟩:=HNM.out rfl;obtain⟨w5,hrun,him,hc5⟩:=(HF1.out.still (Chg.drewN No _ 1)).ks.del _ hx;have hlk':(Instr.lookup 35 (.map (some qb)) (iV (i:Int)) false).run prog (wr.alloc (ndC 18 va vb vc (.slice na ls.length nd') tx vn vt vp)).drew= .ok (iV (M.nmx c i)) _:=hlk;have hrun':(Builtin.delete_ #[35,3] 0 #[.map (some kb),iV (M.nmx c i)]).run prog ((wr.alloc (ndC 18 va vb vc (.slice na ls.length nd') tx vn vt vp)).drewN 1)= .ok (.tuple #[]) w5:=hrun 0;have hrun2:(Builtin.delete_ #[35,3] 0 #[.map (some kb),iV (M.nmx c i)]).run prog (wr.alloc (ndC 18 va vb vc (.slice na ls.length nd') tx vn vt vp)).drew= .ok (.tuple #[]) w5:=hrun 0;obtain⟨f5,k5⟩:=(HF1.out.still (Chg.drewN No _ 1)).put hc5 him (vQ _) (HF1.out.tg.del _);have k5':Ekp wB.heap.size kb wr w5:=(Ekp.still (B9 HA1.out (Chg.drewN No _ 1))).trans k5 (.inl rfl);have n5:=k5.cells HF1.out.nc (D6 (Chg.drewN No _ 1) HNB.out) (by decide) (by decide);clear HNM hlk hrun him hc5 hx;generalize M.nmx c i=x at *;go_wp2_with fail
         go_region
         obtain⟨c0,d0,d1,d2,d3,d4,d5,d6,d7,d8⟩:=N5a n5;go_wp2_with fail
         refine(HPA.out _ k5').mono ?_;rintro e w6 ⟨ga,gc,rfl,hc6,ho6⟩;have HG6:=A0 (HFG.out w6 _ ga gc (f5.still hc6) (.of (C7 ho6 (wQ _))));have HK6:Hid (Ekp wB.heap.size kb wr w6):=k5'.trans (.still hc6) (.inl rfl);generalize M.prt _=ps at *;clear hc6 ho6;go_wp2_with fail
         refine HG6.out.mono ?_;rintro e w7 ⟨rfl,r1,r2⟩;have HR:=A0 r1;have HK7:=A0 (HK6.out.trans r2 (.inl rfl));clear r1 r2;go_wp2_with fail
         go_roundw
         case rel=>exact⟨j+1,by omega,by go_num,by rw[HT.out,HE.out,if_neg k6,if_pos trivial];exact HR.out,HK.out.trans HK7.out (.inl rfl)⟩
         case measure=>simp[intOf];omega
       · have g18:(kd==18)=false:=by simpa using k18
         have k5:Ekp wB.heap.size kb wr _:= .still HA1.out;clear HNM;go_wp2_with fail
         refine(HPA.out _ k5).mono ?_;rintro e w6 ⟨ga,gc,rfl,hc6,ho6⟩;have HG6:=A0 (HFG.out w6 _ ga gc (HF1.out.still hc6) (.of (C7 ho6 (wQ _))));have HK6:Hid (Ekp wB.heap.size kb wr w6):=k5.trans (.still hc6) (.inl rfl);generalize M.prt _=ps at *;clear hc6 ho6;go_wp2_with fail
         refine HG6.out.mono ?_;rintro e w7 ⟨rfl,r1,r2⟩;have HR:=A0 r1;have HK7:=A0 (HK6.out.trans r2 (.inl rfl));clear r1 r2;go_wp2_with fail
         go_roundw
         case rel=>exact⟨j+1,by omega,by go_num,by rw[HT.out,HE.out,if_neg k6,if_neg k18];exact HR.out,HK.out.trans HK7.out (.inl rfl)⟩
         case measure=>simp[intOf];omega
   · have hje:j=l.length:=by omega
     subst hje;rw[List.take_length]at HF;go_wp2_with fail
     go_end0;exact⟨rfl,HF.out,HK.out⟩
termination_by f=>f
decreasing_by omega
end
def NdE(wB:World)(c:M.Cx)(pb:Nat)(cv:Value)(fb gb:Nat)(g:M.Gm)(ct:List Int)(f:Nat):Prop:=∀(i:Nat) (w:World) (kb m:Nat) (s:M.Es),i<f->i<c.N.length->Flw wB w pb cv fb gb kb g m s->m+M.vis c f i<=8000000->
 Calls prog 11 #[pV fb,iV (i:Int)] w (EQ wB pb cv fb gb kb g (m+M.vis c f i) (M.elN c g ct f i s) w)
section
variable{wB w:World}{c:M.Cx}{pb qb fb gb kb m f:Nat}{nv cv:Value}{ct:List Int}{g:M.Gm}{s:M.Es}
theorem Y0a(l:List Int)(j:Nat)(hj:j<l.length):M.M9 c f (l.take (j+1))=M.M9 c f (l.take j)+M.vis c f l[j]:=by
 rw[nQ hj];unfold M.M9;rw[List.map_append,List.sum_append];simp
theorem U9b(l:List Int)(j:Nat):M.M9 c f (l.take j)<=M.M9 c f l:=by
 have e:M.M9 c f l=M.M9 c f (l.take j)+M.M9 c f (l.drop j):=by
  conv=>lhs;rw[<-List.take_append_drop j l]
  unfold M.M9;rw[List.map_append,List.sum_append]
 omega
theorem S4c(hN:NdE wB c pb cv fb gb g ct f){l:List Int}(hl:Bel c f l)(h:Flw wB w pb cv fb gb kb g m s){la:Option Addr}{lc:Nat}(ho:w.ownsRow 0 3 1 (.slice la l.length lc) l.length (B8 l))(hm:m+M.M9 c f l<=8000000):
 Calls prog 28 #[pV fb,.slice la l.length lc] w (EQ wB pb cv fb gb kb g (m+M.M9 c f l) (M.elL c g ct f l s) w):=by
 have hsm:=hl.1;have HL:=A0 hl.2;have HW:=A0 h;have HO:=A0 ho;have HNN:=A0 hN;clear h ho hl hN;go_enter func28,ntmps28;go_wp2_with fail
 go_loopw [8] (λv wr=>∃j:Nat,j<=l.length/\v=iV (j:Int)/\Hid (Flw wB wr pb cv fb gb kb g (m+M.M9 c f (l.take j)) (M.elL c g ct f (l.take j) s))/\Hid (Ekp wB.heap.size kb w wr)) (λv _=>l.length - (intOf v).toNat)
 case atStart=>exact⟨0,wQ _,rfl,HW.out,.still (Chg.refl _ _)⟩
 case round=>
  obtain⟨j,hj,rfl,HF,HK⟩:=hrel;by_cases hjl:j<l.length
  · obtain⟨q,e1,hq,h11,h12,x1⟩:=D5 (HK.out.row HW.out.nc HO.out) hjl;subst e1;obtain⟨i,hix,hif,hiN⟩:=HL.out l[j] (mQ hjl);have HT:Hid (M.elL c g ct f (l.take (j+1)) s=M.elN c g ct f i (M.elL c g ct f (l.take j) s)):=by
     show _=_;rw[nQ hjl,hix];unfold M.elL;rw[List.foldl_append];rfl
    have hv:=Y0a (c:=c) (f:=f) l j hjl;have hv2:=U9b (c:=c) (f:=f) l (j+1);rw[hix]at x1 hv;have HC:=A0 (HNN.out i wr kb _ _ hif hiN HF.out (by omega));have HV:=A0 hv;unfold maxLen at h12;clear hix hv hv2;go_wp2_with fail
    refine HC.out.mono ?_;rintro e w7 ⟨rfl,r1,r2⟩;have HR:=A0 r1;have HK7:=A0 (HK.out.trans r2 (.inl rfl));clear r1 r2 HC;go_wp2_with fail
    go_roundw
    case rel=>exact⟨j+1,by omega,by go_num,by rw[HT.out,HV.out,<-Nat.add_assoc];exact HR.out,HK7⟩
    case measure=>simp[intOf];omega
  · have hje:j=l.length:=by omega
    subst hje;rw[List.take_length]at HF;go_wp2_with fail
    go_end0;exact⟨rfl,HF.out,HK.out⟩
theorem F4b(h:Flw wB w pb cv fb gb kb g m s)(kf:Nat)(cp:Array Value)(cf:∀(args:Array Value) (W:World),(callFunc kf args).run prog W= .ok (.enter kf args) W)(m':Nat)(s':M.Es)(hm:m<=m')
 (HD:∀u,Ekp wB.heap.size kb w u->∀kb',Flw wB u pb cv fb gb kb' g m s->Calls prog kf cp u (EQ wB pb cv fb gb kb' g m' s' u)):
 Calls prog 55 #[pV fb,.func (.func kf) #[] cp] w (EQ wB pb cv fb gb kb g m' ⟨s.kn,s'.lf⟩ w):=by
 obtain⟨hl,fz,-,-,-,b3,-⟩:=h.cell;have HC:=A0 h.ks.clone;have HW:=A0 h;have HDD:=A0 HD;clear h HD;go_enter func55,ntmps55;go_wp2_with fail
 refine HC.out.mono ?_;rintro e w1 ⟨rfl,him,hc1,hlt⟩;have h1:=HW.out.still hc1;obtain⟨hl1,fz1,-,-,-,b3',-⟩:=h1.cell;have hk0:=HW.out.ks.lt;have hg0:=HW.out.gs.lt;have hw0:=HW.out.chg.size;obtain⟨h2,hc2⟩:=h1.turn him (by omega) (by omega) h1.few h1.tg;have k2:Ekp wB.heap.size kb w (w1.setCell (aD fb 3) (.map (some w.heap.size))):=(Ekp.still hc1).trans (.one hc2 h1.lo.1 (.inr (by obtain⟨lv,hb,_⟩:=h1.blk;exact⟨_,_,_,hb,.inl rfl⟩))) (.inl rfl);have hkf:kb≠fb:=λx=>by
  obtain⟨lv,hb,_⟩:=HW.out.blk;rw[<-x]at hb;exact HW.out.nc _ _ _ hb
 have HM:Hid (∀u,Ekp wB.heap.size w.heap.size (w1.setCell (aD fb 3) (.map (some w.heap.size))) u->ImM u kb m' s.kn):=λu hu=>(hu.imm ((HW.out.ks.chg hc1 (λx=>x)).chg hc2 hkf) (by omega)).more hm;have HR2:=A0 (HDD.out _ k2 _ h2);have K2:=A0 k2;clear HDD HC h1 h2 hc2 k2 him hc1 hkf;go_wp2_with fail
 refine HR2.out.mono ?_;rintro e w3 ⟨rfl,r1,r2⟩;obtain⟨hl3,fz3,-,-,-,b33,-⟩:=r1.cell;obtain⟨h4,hc4⟩:=r1.turn (HM.out _ r2) HW.out.lo.2.2 HW.out.ne r1.few HW.out.tg;have HK4:=A0 ((K2.out.trans r2 (.inr (vQ _))).trans (.one hc4 r1.lo.1 (.inr (by obtain⟨lv,hb,_⟩:=r1.blk;exact⟨_,_,_,hb,.inl rfl⟩))) (.inl rfl));have HF4:=A0 h4;clear h4 hc4 r1 r2 HM HR2 K2;go_wp2_with fail
 go_end0;exact⟨rfl,HF4.out,HK4.out⟩
end
def ndo(n:M.Nd)(la:Option Addr)(lc:Nat):Obj:=ndC n.kind n.a n.b n.c (.slice la n.list.length lc) n.text n.n n.ty n.at'
section
variable{wB w:World}{c:M.Cx}{pb qb fb gb kb m f:Nat}{nv cv:Value}{ct:List Int}{g:M.Gm}{s:M.Es}
structure Hnd(w:World)(c:M.Cx)(f i:Nat)(nd:M.Nd)(la:Option Addr)(lc:Nat):Prop where
 lt:∃h:i<c.N.length,c.N[i]=nd
 le:i<=f
 row:w.ownsRow 0 3 1 (.slice la nd.list.length lc) nd.list.length (B8 nd.list)
theorem Hnd.keep{B kb:Nat}{w':World}{i:Nat}{nd:M.Nd}{la:Option Addr}{lc:Nat}(h:Hnd w c f i nd la lc)(hk:Ekp B kb w w')(hn:∀cs e fz,w.heap[kb]? ≠some (.cells cs e fz)):Hnd w' c f i nd la lc:=⟨h.lt,h.le,hk.row hn h.row⟩
theorem Hnd.still{w':World}{i:Nat}{nd:M.Nd}{la:Option Addr}{lc:Nat}(h:Hnd w c f i nd la lc)(hc:Chg No w w'):Hnd w' c f i nd la lc:=⟨h.lt,h.le,A3 h.row hc (λ_ _ x=>x)⟩
theorem Hnd.parts{i:Nat}{nd:M.Nd}{la:Option Addr}{lc:Nat}(hP:Pgm wB c pb qb nv cv ct)(h:Hnd w c f i nd la lc):Calls prog 29 #[nvl nd la lc] w (PaP w (M.prt nd)):=by
 obtain⟨hi,rfl⟩:=h.lt;exact C1b (hP.ok.flat i hi) w la lc h.row (by have:=hP.ok.ls i hi;omega)
theorem Hnd.bel{i:Nat}{nd:M.Nd}{la:Option Addr}{lc:Nat}(hP:Pgm wB c pb qb nv cv ct)(h:Hnd w c f i nd la lc):Bel c f (M.prt nd):=by
 obtain⟨hi,rfl⟩:=h.lt;exact Bel.prt hP.ok hi h.le
theorem K4b(hP:Pgm wB c pb qb nv cv ct)(hN:NdE wB c pb cv fb gb g ct f)(h:Flw wB w pb cv fb gb kb g m s){i:Nat}{nd:M.Nd}{la:Option Addr}{lc:Nat}(hh:Hnd w c f i nd la lc){bx nb:Nat}(hbx:w.heap[bx]? =some (.cells #[pV fb] 49 (0,0)))(hnb:w.heap[nb]? =some (ndo nd la lc))(hm:m+M.M9 c f (M.prt nd)<=8000000):
 Calls prog 56 #[pV bx,pV nb] w (EQ wB pb cv fb gb kb g (m+M.M9 c f (M.prt nd)) (M.elL c g ct f (M.prt nd) ⟨λ_=>none,s.lf⟩) w):=by
 obtain⟨hl,-,-,-,-,b3,-⟩:=h.cell;have x0:w.cell? (aD bx 0)=some (pV fb):=cr hbx rfl;have hbl:=(ltG hbx);obtain⟨w2,hrun,him,hc2⟩:=h.ks.clear;obtain⟨f2,k2⟩:=h.put hc2 him (vQ _) M.Tgd.no;have b2:=k2.cells h.nc hbx (by decide) (by decide);have n2:=k2.cells h.nc hnb (by decide) (by decide);have y0:w2.cell? (aD bx 0)=some (pV fb):=cr b2 rfl;have hbl2:=(ltG b2);obtain⟨c0,d0,d1,d2,d3,d4,d5,d6,d7,d8⟩:=N5a n2;have HPA:Hid (∀u,Chg No w2 u->Calls prog 29 #[nvl nd la lc] u λe w'=>∃ga gc,e= .returned (.slice ga (M.prt nd).length gc)/\w'.cell? (aD bx 0)=some (pV fb)/\bx<w'.heap.size/\
  Hid (Calls prog 28 #[pV fb,.slice ga (M.prt nd).length gc] w' (EQ wB pb cv fb gb kb g (m+M.M9 c f (M.prt nd)) (M.elL c g ct f (M.prt nd) ⟨λ_=>none,s.lf⟩) w))):=λu hu=>by
  refine(((hh.keep k2 h.nc).still hu).parts hP).mono ?_;rintro e w' ⟨ga,gc,rfl,hc,ho⟩;refine⟨ga,gc,rfl,A8 (B9 hu hc) y0,yQ hbl2 (B9 hu hc).size, ?_⟩;refine(S4c hN (hh.bel hP) (f2.still (B9 hu hc)) (C7 ho (wQ _)) hm).mono ?_;rintro e w'' ⟨rfl,r1,r2⟩;exact⟨rfl,r1,(k2.trans (.still (B9 hu hc)) (.inl rfl)).trans r2 (.inl rfl)⟩
 have hr0:=hrun 0;unfold nvl at HPA;unfold ndo at n2;clear h hh hP hN hbx hnb him hc2 f2 k2 hrun b2 hm;generalize M.prt _=ps at *;obtain⟨kd,va,vb,vc,ls,tx,vn,vt,vp⟩:=nd;simp only at *;go_enter func56,ntmps56;go_wp2_with fail
 go_region_with (first|(go_at_call 29;refine(HPA.out _ (Chg.drewN _ _ 1)).mono ?_;rintro e w3 ⟨ga,gc,rfl,z0,zl,HAL⟩)|(go_at_call 28;refine HAL.out.mono ?_;rintro e w4 ⟨rfl,r⟩;have HR:=A0 r;clear r))
 all_goals
  go_wp2_with fail
  go_end0;exact⟨rfl,HR.out⟩
theorem X6c(hN:NdE wB c pb cv fb gb g ct f)(h:Flw wB w pb cv fb gb kb g m s){nd:M.Nd}{la:Option Addr}{lc:Nat}(hl:Bel c f [nd.a,nd.b]){bx nb:Nat}(hbx:w.heap[bx]? =some (.cells #[pV fb] 49 (0,0)))(hnb:w.heap[nb]? =some (ndo nd la lc))(hm:m+M.M9 c f [nd.a,nd.b]<=8000000):
 Calls prog 59 #[pV bx,pV nb] w (EQ wB pb cv fb gb kb g (m+M.M9 c f [nd.a,nd.b]) (M.elL c g ct f [nd.a,nd.b] s) w):=by
 have x0:w.cell? (aD bx 0)=some (pV fb):=cr hbx rfl;have hbl:=(ltG hbx);obtain⟨c0,-,d1,d2,-⟩:=N5a hnb;have A1:=Chg.alloc No w (.cells #[iV nd.a,iV nd.b] 3);have HAL:=A0 (S4c hN hl (h.still A1) (W8 (wQ _) [nd.a,nd.b] (by simp)) hm);have HA:=A0 A1;clear h hN hl hbx hnb A1 hm;generalize nd.a=va at *;generalize nd.b=vb at *;go_enter func59,ntmps59;go_wp2_with fail
 refine HAL.out.mono ?_;rintro e w4 ⟨rfl,r1,r2⟩;have HR:=A0 r1;have HK:Hid (Ekp wB.heap.size kb w w4):=(Ekp.still HA.out).trans r2 (.inl rfl);clear r1 r2 HAL;go_wp2_with fail
 go_end0;exact⟨rfl,HR.out,HK.out⟩
theorem E2c(hN:NdE wB c pb cv fb gb g ct f)(h:Flw wB w pb cv fb gb kb g m s){i bx nb:Nat}(hif:i<f)(hiN:i<c.N.length)(hbx:w.heap[bx]? =some (.cells #[pV fb] 49 (0,0)))(hnb:w.heap[nb]? =some (.cells #[iV (i:Int)] 3 (0,0)))(hm:m+M.vis c f i<=8000000):
 Calls prog 57 #[pV bx,pV nb] w (EQ wB pb cv fb gb kb g (m+M.vis c f i) (M.elN c g ct f i s) w):=by
 have x0:w.cell? (aD bx 0)=some (pV fb):=cr hbx rfl;have hbl:=(ltG hbx);have y0:w.cell? (aD nb 0)=some (iV (i:Int)):=cr hnb rfl;have hnl:=(ltG hnb);have HC:=A0 (hN i w kb m s hif hiN h hm);clear h hN hbx hnb hm;go_enter func57,ntmps57;go_wp2_with fail
 refine HC.out.mono ?_;rintro e w4 ⟨rfl,r⟩;have HR:=A0 r;clear r HC;go_wp2_with fail
 go_end0;exact⟨rfl,HR.out⟩
theorem R6b(hP:Pgm wB c pb qb nv cv ct)(hN:NdE wB c pb cv fb gb g ct f)(h:Flw wB w pb cv fb gb kb g m s){i:Nat}{nd:M.Nd}{la:Option Addr}{lc:Nat}(hh:Hnd w c f i nd la lc)(hm:m+M.M9 c f (M.prt nd)<=8000000):
 Calls prog 25 #[pV fb,nvl nd la lc] w (EQ wB pb cv fb gb kb g (m+M.M9 c f (M.prt nd)) ⟨s.kn,(M.elL c g ct f (M.prt nd) ⟨λ_=>none,s.lf⟩).lf⟩ w):=by
 have hmf:=mkf;have hA:Chg No w ((w.alloc (.cells #[pV fb] 49)).alloc (ndo nd la lc)):=B9 (Chg.alloc _ _ _) (Chg.alloc _ _ _);have hb:((w.alloc (.cells #[pV fb] 49)).alloc (ndo nd la lc)).heap[w.heap.size]? =some (.cells #[pV fb] 49 (0,0)):=D6 (Chg.alloc _ _ _) (heap_alloc_new w _);have hn:((w.alloc (.cells #[pV fb] 49)).alloc (ndo nd la lc)).heap[w.heap.size+1]? =some (ndo nd la lc):=by
  have:=heap_alloc_new (w.alloc (.cells #[pV fb] 49)) (ndo nd la lc);simpa using this
 have HAS:=A0 (F4b (h.still hA) 56 #[pV w.heap.size,pV (w.heap.size+1)] (λ_ _=>by go_simp) _ _ (Nat.le_add_right _ _) (λu hu kb' hF=>K4b hP hN hF ((hh.still hA).keep hu (h.still hA).nc) (hu.cells (h.still hA).nc hb (by decide) (by decide)) (hu.cells (h.still hA).nc hn (by decide) (by decide)) hm));have HA:=A0 hA;unfold nvl ndo at *;clear h hh hP hN hA hb hn hm;generalize M.prt _=ps at *;obtain⟨kd,va,vb,vc,ls,tx,vn,vt,vp⟩:=nd;simp only at *;go_enter func25,ntmps25;go_wp2_with fail
 refine HAS.out.mono ?_;rintro e w4 ⟨rfl,r1,r2⟩;have HR:=A0 r1;have HK:Hid (Ekp wB.heap.size kb w w4):=(Ekp.still HA.out).trans r2 (.inl rfl);clear r1 r2 HAS;go_wp2_with fail
 go_end0;exact⟨rfl,HR.out,HK.out⟩
theorem G1d(hP:Pgm wB c pb qb nv cv ct)(hN:NdE wB c pb cv fb gb g ct f)(h:Flw wB w pb cv fb gb kb g m s){nd:M.Nd}{la:Option Addr}{lc:Nat}(hl:Bel c f [nd.a,nd.b])(hm:m+M.M9 c f [nd.a,nd.b]<=8000000):
 Calls prog 27 #[pV fb,nvl nd la lc] w (EQ wB pb cv fb gb kb g (m+M.M9 c f [nd.a,nd.b]) ⟨M.fgL c f [nd.a,nd.b] s.kn,(M.elL c g ct f [nd.a,nd.b] ⟨M.fgL c f [nd.a,nd.b] s.kn,s.lf⟩).lf⟩ w):=by
 have hmf:=mkf;have hA:Chg No w ((w.alloc (.cells #[pV fb] 49)).alloc (ndo nd la lc)):=B9 (Chg.alloc _ _ _) (Chg.alloc _ _ _);have hb:((w.alloc (.cells #[pV fb] 49)).alloc (ndo nd la lc)).heap[w.heap.size]? =some (.cells #[pV fb] 49 (0,0)):=D6 (Chg.alloc _ _ _) (heap_alloc_new w _);have hn:((w.alloc (.cells #[pV fb] 49)).alloc (ndo nd la lc)).heap[w.heap.size+1]? =some (ndo nd la lc):=by
  have:=heap_alloc_new (w.alloc (.cells #[pV fb] 49)) (ndo nd la lc);simpa using this
 obtain⟨W,hW⟩:∃W,(w.alloc (.cells #[pV fb] 49)).alloc (ndo nd la lc)=W:=⟨_,rfl⟩;have hsz:W.heap.size=w.heap.size+2:=by rw[<-hW];simp
 rw[hW]at hA hb hn;have A1:=Chg.alloc No W (.cells #[iV nd.a,iV nd.b] 3);have hF1:=(h.still hA).still A1;have HFG:=A0 (U0a hP f [nd.a,nd.b] _ s _ _ hl hF1 (.of (W8 (wQ _) [nd.a,nd.b] (by simp))));have HK1:Hid (Ekp wB.heap.size kb w (W.alloc (.cells #[iV nd.a,iV nd.b] 3))):= .still (B9 hA A1);have hb1:=D6 A1 hb;have hn1:=D6 A1 hn;have HAS:Hid (∀u,Ekp wB.heap.size kb (W.alloc (.cells #[iV nd.a,iV nd.b] 3)) u->∀s':M.Es,Flw wB u pb cv fb gb kb g m s'->u.cell? (aD w.heap.size 0)=some (pV fb)/\w.heap.size<u.heap.size/\
  Calls prog 55 #[pV fb,.func (.func 59) #[] #[pV w.heap.size,pV (w.heap.size+1)]] u (EQ wB pb cv fb gb kb g (m+M.M9 c f [nd.a,nd.b]) ⟨s'.kn,(M.elL c g ct f [nd.a,nd.b] s').lf⟩ u)):=λu hu s' hF=>by
  have b2:=hu.cells hF1.nc hb1 (by decide) (by decide);have n2:=hu.cells hF1.nc hn1 (by decide) (by decide);refine⟨cr b2 rfl,(ltG b2), ?_⟩;exact F4b hF 59 _ (λ_ _=>by go_simp) _ _ (Nat.le_add_right _ _) (λv hv kb' hF'=>X6c hN hF' hl (hv.cells hF.nc b2 (by decide) (by decide)) (hv.cells hF.nc n2 (by decide) (by decide)) hm)
 subst hW;simp only[World.size_alloc]at HFG;unfold nvl ndo at *;clear h hl hP hN hA hb hn hm hF1 hb1 hn1 A1 hsz;obtain⟨kd,va,vb,vc,ls,tx,vn,vt,vp⟩:=nd;simp only at *;go_enter func27,ntmps27;go_wp2_with fail
 refine HFG.out.mono ?_;rintro e w3 ⟨rfl,r1,r2⟩;obtain⟨z0,zl,ha⟩:=HAS.out w3 r2 _ r1;have HA3:=A0 ha;have HK3:=A0 (HK1.out.trans r2 (.inl rfl));clear HFG HAS r1 r2 ha HK1;go_wp2_with fail
 refine HA3.out.mono ?_;rintro e w4 ⟨rfl,r1,r2⟩;have HR:=A0 r1;have HK4:=A0 (HK3.out.trans r2 (.inl rfl));clear r1 r2 HA3;go_wp2_with fail
 go_end0;exact⟨rfl,HR.out,HK4.out⟩
theorem Irw.tail{w:World}{la:Option Addr}{lc:Nat}{x:Int}{l:List Int}(h:w.ownsRow 0 3 1 (.slice la (l.length+1) lc) (l.length+1) (B8 (x::l))):∃q cur,la=some (aD q 0)/\w.heap[q]? =some (.cells cur 3 (0,0))/\l.length+1<=lc/\lc<=maxLen/\Irw w (some (aD q 1)) (lc - 1) l:=by
 have h':w.ownsRow 0 3 1 (.slice la (x::l).length lc) (x::l).length (B8 (x::l)):=h;obtain⟨q,rfl,hq,h1,h2,_⟩:=D5 h' (j:=0) (by simp);obtain⟨_,cur,hh⟩:=A9 h q rfl;simp only[jQ]at h1;refine⟨q,cur,rfl,hh,h1,h2,λj hj=> ?_⟩;obtain⟨q',e,_,_,_,hc⟩:=D5 h' (j:=j+1) (by simpa using hj);simp only[zQ,Addr.mk.injEq,and_true]at e;subst e;refine⟨q,1,cur,rfl,hh, ?_,by omega,by omega⟩;rw[Nat.add_comm 1 j,hc];rfl
theorem R4c(hP:Pgm wB c pb qb nv cv ct)(hN:NdE wB c pb cv fb gb g ct f)(h:Flw wB w pb cv fb gb kb g m s){i:Nat}{nd:M.Nd}{la:Option Addr}{lc:Nat}(hh:Hnd w c f i nd la lc){ps:List Int}(hps:M.prt nd=nd.a::ps)(hp0:0<ps.length)(hm:m+M.M9 c f (M.prt nd)<=8000000):
 Calls prog 26 #[pV fb,nvl nd la lc] w (EQ wB pb cv fb gb kb g (m+M.M9 c f (M.prt nd)) ⟨M.fgL c f ps (M.elN c g ct f nd.a s).kn,M.elB c g ct f (M.elN c g ct f nd.a s).kn ps (M.elN c g ct f nd.a s).lf⟩ w):=by
 have hmf:=mkf;have hbel:=hh.bel hP;rw[hps]at hbel;obtain⟨ja,ea,hja,hjN⟩:=hbel.2 nd.a (by simp);have hbp:Bel c f ps:=⟨by have:=hbel.1;simp at this;omega,λx hx=>hbel.2 x (by simp[hx])⟩;have hvs:M.M9 c f (M.prt nd)=M.vis c f nd.a+M.M9 c f ps:=by rw[hps];simp[M.M9]
 rw[hvs]at hm⊢;have hA:Chg No w ((w.alloc (.cells #[pV fb] 49)).alloc (ndo nd la lc)):=B9 (Chg.alloc _ _ _) (Chg.alloc _ _ _);have hb:((w.alloc (.cells #[pV fb] 49)).alloc (ndo nd la lc)).heap[w.heap.size]? =some (.cells #[pV fb] 49 (0,0)):=D6 (Chg.alloc _ _ _) (heap_alloc_new w _);have hn:((w.alloc (.cells #[pV fb] 49)).alloc (ndo nd la lc)).heap[w.heap.size+1]? =some (ndo nd la lc):=by
  have:=heap_alloc_new (w.alloc (.cells #[pV fb] 49)) (ndo nd la lc);simpa using this
 have hF1:=h.still hA;have HC:=A0 (hN ja _ kb m s hja hjN hF1 (by rw[<-ea];omega));rw[<-ea]at HC;have HW1:Hid (∀u,Ekp wB.heap.size kb ((w.alloc (.cells #[pV fb] 49)).alloc (ndo nd la lc)) u->u.heap[w.heap.size]? =some (.cells #[pV fb] 49 (0,0))/\u.heap[w.heap.size+1]? =some (ndo nd la lc)/\Hnd u c f i nd la lc):=λu hu=>⟨hu.cells hF1.nc hb (by decide) (by decide),hu.cells hF1.nc hn (by decide) (by decide),(hh.still hA).keep hu hF1.nc⟩;have HPP:=A0 hP;have HNN:=A0 hN;have HA:=A0 hA;have HBP:=A0 hbp;have hpl:=hbp.1;have HPA:Hid (∀u,Hnd u c f i nd la lc->Calls prog 29 #[nvl nd la lc] u λe w'=>∃q gc,e= .returned (.slice (some (aD q 0)) (ps.length+1) gc)/\Hid (Chg No u w')/\q<w'.heap.size/\ps.length+1<=gc/\gc<=maxLen/\Hid (Irw w' (some (aD q 1)) (gc - 1) ps)):=λu hu=>by
  refine(hu.parts hP).mono ?_;rintro e w' ⟨ga,gc,rfl,hc,ho⟩;rw[hps]at ho⊢;obtain⟨q,cur,rfl,hq,h1,h2,h3⟩:=Irw.tail (C7 ho (wQ _));exact⟨q,gc,rfl,hc,(ltG hq),h1,h2,h3⟩
 unfold nvl ndo at *;clear h hh hP hN hA hb hn hF1 hbel hbp hps;obtain⟨kd,va,vb,vc,ls,tx,vn,vt,vp⟩:=nd;simp only at *;subst ea;go_enter func26,ntmps26;go_wp2_with fail
 refine HC.out.mono ?_;rintro e w1 ⟨rfl,r1,r2⟩;obtain⟨b1,n1,hd⟩:=HW1.out _ r2;have HP1:=A0 (HPA.out _ hd);have HK1:Hid (Ekp wB.heap.size kb w w1):=(Ekp.still HA.out).trans r2 (.inl rfl);have HF1:=A0 r1;have HB1:=A0 b1;obtain⟨c0,d0,d1,d2,d3,d4,d5,d6,d7,d8⟩:=N5a n1;clear HC HW1 HPA r1 r2 hd b1 n1 HA;generalize M.elN c g ct f ja s=s1 at *;go_wp2_with fail
 refine HP1.out.mono ?_;rintro e w2 ⟨q,gc,rfl,HC2,hq,hg1,hg2,HI2⟩;unfold maxLen at hg2;have hg3:gc≠1:=by omega
 have HF2:=A0 (HF1.out.still HC2.out);have HB2:=A0 (D6 HC2.out HB1.out);have HK2:Hid (Ekp wB.heap.size kb w w2):=HK1.out.trans (.still HC2.out) (.inl rfl);clear HP1 HF1 HB1 HK1 HC2 d0 d1 d2 d3 d4 d5 d6 d7 d8 c0;go_wp2_with fail
 go_loopw [16] (λv wr=>∃j:Nat,j<=ps.length/\v=iV (j:Int)/\Hid (Flw wB wr pb cv fb gb kb g (m+M.vis c f ja+M.M9 c f (ps.take j)) ⟨s1.kn,M.elB c g ct f s1.kn (ps.take j) s1.lf⟩)/\Hid (Ekp wB.heap.size kb w2 wr)) (λv _=>ps.length - (intOf v).toNat)
 case atStart=>exact⟨0,wQ _,rfl,HF2.out,.still (Chg.refl _ _)⟩
 case round=>
  obtain⟨j,hj,rfl,HF,HK⟩:=hrel;have bx:=HK.out.cells HF2.out.nc HB2.out (by decide) (by decide);have x0:wr.cell? (aD w.heap.size 0)=some (pV fb):=cr bx rfl;have hbl:=(ltG bx);by_cases hjl:j<ps.length
  · obtain⟨q',o,cur,e1,hcu,x1,h11,h12⟩:=HI2.out.keep HK.out HF2.out.nc j hjl;simp only[zQ,Addr.mk.injEq,and_true]at e1;obtain⟨rfl,rfl⟩:=e1;have hq:=(ltG hcu);obtain⟨k,hkx,hkf,hkN⟩:=HBP.out.2 ps[j] (mQ hjl);have hv:=Y0a (c:=c) (f:=f) ps j hjl;have hv2:=U9b (c:=c) (f:=f) ps (j+1);have HT:Hid (M.elB c g ct f s1.kn (ps.take (j+1)) s1.lf=(M.elN c g ct f k ⟨s1.kn,M.elB c g ct f s1.kn (ps.take j) s1.lf⟩).lf):=by
     show _=_;rw[nQ hjl,hkx];unfold M.elB;rw[List.foldl_append];rfl
    rw[hkx]at x1 hv;have A1:=Chg.alloc No wr (.cells #[iV (k:Int)] 3);have hF3:=HF.out.still A1;have b3:=D6 A1 bx;have n3:=heap_alloc_new wr (.cells #[iV (k:Int)] 3);have HAS:=A0 (F4b hF3 57 #[pV w.heap.size,pV wr.heap.size] (λ_ _=>by go_simp) (m+M.vis c f ja+M.M9 c f (ps.take j)+M.vis c f k) (M.elN c g ct f k ⟨s1.kn,M.elB c g ct f s1.kn (ps.take j) s1.lf⟩) (Nat.le_add_right _ _) (λu hu kb' hF'=>E2c HNN.out hF' hkf hkN (hu.cells hF3.nc b3 (by decide) (by decide)) (hu.cells hF3.nc n3 (by decide) (by decide)) (by omega)));have HV:=A0 hv;have HKA:Hid (Ekp wB.heap.size kb w2 (wr.alloc (.cells #[iV (k:Int)] 3))):=HK.out.trans (.still A1) (.inl rfl);clear A1 hF3 b3 n3 bx hkx hv hv2 hcu;go_wp2_with fail
    refine HAS.out.mono ?_;rintro e w5 ⟨rfl,r1,r2⟩;have HR:=A0 r1;have HK5:=A0 (HKA.out.trans r2 (.inl rfl));clear r1 r2 HAS;go_wp2_with fail
    go_roundw
    case rel=>exact⟨j+1,by omega,by go_num,by rw[HT.out,HV.out,<-Nat.add_assoc];exact HR.out,HK5⟩
    case measure=>simp[intOf];omega
  · have hje:j=ps.length:=by omega
    subst hje;rw[List.take_length]at HF;have HFG:=A0 (U0a HPP.out f ps _ _ _ _ HBP.out HF.out (HI2.out.keep HK.out HF2.out.nc));clear bx;go_wp2_with fail
    refine HFG.out.mono ?_;rintro e w5 ⟨rfl,r1,r2⟩;have HR:=A0 r1;have HK5:=A0 ((HK2.out.trans HK.out (.inl rfl)).trans r2 (.inl rfl));clear r1 r2 HFG;go_wp2_with fail
    go_end0;exact⟨rfl,by rw[<-Nat.add_assoc];exact HR.out,HK5.out⟩
end
theorem O3d{c:M.Cx}{g:M.Gm}{ct:List Int}{i:Nat}{s:M.Es}{nd:M.Nd}(hi:M.ndx c.N i=nd)(h1:nd.kind≠17)(h2:nd.kind≠18):M.eend c g ct i s=M.grd c g ct i s:=by
 subst hi;rw[M.eend,if_neg h1,if_neg h2]
section
variable{wB:World}{c:M.Cx}{pb qb fb gb f:Nat}{nv cv:Value}{ct:List Int}{g:M.Gm}
theorem W5c(hP : Pgm wB c pb qb nv cv ct)(hN : NdE wB c pb cv fb gb g ct f)(i : Nat)(w : World)(kb m : Nat)(s : M.Es)(hif : i <= f)(hi : i < c.N.length)(h : Flw wB w pb cv fb gb kb g m s)(hm : m + M.vis c (f + 1) i <= 8000000)(hk : c.N[i].kind = 6 \/ c.N[i].kind = 22 \/ c.N[i].kind = 23) :
    Calls prog 11 #[pV fb,iV (i:Int)] w (EQ wB pb cv fb gb kb g (m+M.vis c (f+1) i) (M.elN c g ct (f+1) i s) w):=by
  obtain⟨hl,-,b0,-,-,-,-⟩:=h.cell
  obtain⟨hpl,p0,-⟩:=(h.pgm hP).cell
  obtain⟨ng,nc,la,lc,hnv,hg,hn1,hn2,⟨x0,x1,x2,x3,x4,x5,x6,x7,x8⟩,hlo,-⟩:=(h.pgm hP).nodes.at (Below.refl _ _) i hi
  have hlen:=hP.ok.lenN
  have hfl:=hP.ok.flat i hi
  have hv:M.vis c (f+1) i=2+M.M9 c f (M.prt c.N[i]):=by rw[M.vis,M.D3 hi];rfl
  have he:=M.R1c c g ct f i s _ (M.D3 hi)
  rw[hv]at hm⊢
  rw[he,O3d (M.D3 hi) (by omega) (by omega)]
  have A1:=Chg.alloc No w (ndo c.N[i] la lc)
  have hF:=h.still A1
  have hh:Hnd (w.alloc (ndo c.N[i] la lc)) c f i c.N[i] la lc:=⟨⟨hi,rfl⟩,hif,A3 hlo A1 (λ_ _ x=>x)⟩
  have hnb:=heap_alloc_new w (ndo c.N[i] la lc)
  obtain⟨F,hFk,s1,hs1,hC⟩:∃F,(c.N[i].kind=6/\F=25\/c.N[i].kind=22/\F=26\/c.N[i].kind=23/\F=27)/\∃s1:M.Es,M.el1 c g ct f s c.N[i]=s1/\Calls prog F #[pV fb,nvl c.N[i] la lc] (w.alloc (ndo c.N[i] la lc)) (EQ wB pb cv fb gb kb g (m+M.M9 c f (M.prt c.N[i])) s1 (w.alloc (ndo c.N[i] la lc))):=by
    rcases hk with hk|hk|hk
    · refine⟨_,.inl ⟨hk,rfl⟩,_, ?_,R6b hP hN hF hh (by omega)⟩
      unfold M.el1
      rw[if_pos hk]
    · have hp : ∃ r, M.prt c.N[i] = c.N[i].a :: r /\ 0 < r.length := by
        unfold M.prt
        simp only[hk]
        by_cases h1:c.N[i].c= -1
        · exact⟨[c.N[i].b],by simp[h1],by simp⟩
        · exact⟨[c.N[i].b,c.N[i].c],by simp[h1],by simp⟩
      obtain⟨r,hr,h0⟩:=hp
      refine⟨_,.inr (.inl ⟨hk,rfl⟩),_, ?_,R4c hP hN hF hh hr h0 (by omega)⟩
      unfold M.el1
      rw[if_neg (by omega),if_pos hk,hr]
      rfl
    · have hp : M.prt c.N[i] = [c.N[i].a, c.N[i].b] := by
        unfold M.prt
        simp[hk]
      have hb:=hh.bel hP
      rw[hp]at hb hm⊢
      refine⟨_,.inr (.inr ⟨hk,rfl⟩),_, ?_,G1d hP hN hF hb (by omega)⟩
      unfold M.el1
      rw[if_neg (by omega),if_neg (by omega),if_pos hk]
  rw[hs1]
  have HC:=A0 hC
  have HGD:Hid (∀u,Flw wB u pb cv fb gb kb g (m+M.M9 c f (M.prt c.N[i])) s1->Ekp wB.heap.size kb (w.alloc (ndo c.N[i] la lc)) u->u.cell? (aD w.heap.size 0)=some (iV c.N[i].kind)/\w.heap.size<u.heap.size/\Calls prog 32 #[pV fb,iV (i:Int)] u (EQ wB pb cv fb gb kb g (m+(2+M.M9 c f (M.prt c.N[i]))) (M.grd c g ct i s1) u)):=λu hu hk=>by
    obtain⟨c0,d0,-⟩:=N5a (hk.cells hF.nc hnb (by decide) (by decide))
    refine⟨d0,c0, ?_⟩
    have:=X5b hP hu (by omega) i hi
    rw[show m+M.M9 c f (M.prt c.N[i])+2=m+(2+M.M9 c f (M.prt c.N[i])) by omega]at this
    exact this
  have HA:=A0 A1
  unfold maxLen at hn2
  subst hnv
  unfold nvl ndo at *
  clear h hP hN hm hv he A1 hF hh hnb hC hs1 hlo hfl hk
  generalize M.M9 c f _=V at *
  generalize c.N[i]=nd at *
  obtain⟨kd,va,vb,vc,ls,tx,vn,vt,vp⟩:=nd
  simp only at *
  rcases hFk with ⟨rfl,rfl⟩|⟨rfl,rfl⟩|⟨rfl,rfl⟩<;>
    (go_enter func11,ntmps11
     go_wp2_with fail
     refine HC.out.mono ?_
     rintro e w3 ⟨rfl,r1,r2⟩
     obtain⟨d0,c0,hgd⟩:=HGD.out w3 r1 r2
     have HG3:=A0 hgd
     have HK3:Hid (Ekp wB.heap.size kb w w3):=(Ekp.still HA.out).trans r2 (.inl rfl)
     clear r1 r2 hgd HGD HC HA
     go_wp2_with fail
     refine HG3.out.mono ?_
     rintro e w4 ⟨rfl,r1,r2⟩
     have HR:=A0 r1
     have HK4:=A0 (HK3.out.trans r2 (.inl rfl))
     clear r1 r2 HG3 HK3
     go_wp2_with fail
     go_end0
     exact⟨rfl,HR.out,HK4.out⟩)
theorem W4c(hP:Pgm wB c pb qb nv cv ct)(hN:NdE wB c pb cv fb gb g ct f)(i:Nat)(w:World)(kb m:Nat)(s:M.Es)(hif:i<=f)(hi:i<c.N.length)(h:Flw wB w pb cv fb gb kb g m s)(hm:m+M.vis c (f+1) i<=8000000)(hk:c.N[i].kind≠6/\c.N[i].kind≠22/\c.N[i].kind≠23):
 Calls prog 11 #[pV fb,iV (i:Int)] w (EQ wB pb cv fb gb kb g (m+M.vis c (f+1) i) (M.elN c g ct (f+1) i s) w):=by
 obtain⟨hl,-,b0,-,-,-,-⟩:=h.cell;obtain⟨hpl,p0,p4⟩:=(h.pgm hP).cell;obtain⟨ng,nc,la,lc,hnv,hg,hn1,hn2,⟨x0,x1,x2,x3,x4,x5,x6,x7,x8⟩,hlo,-⟩:=(h.pgm hP).nodes.at (Below.refl _ _) i hi;have hlen:=hP.ok.lenN;have hfl:=hP.ok.flat i hi;have hv:M.vis c (f+1) i=2+M.M9 c f (M.prt c.N[i]):=by rw[M.vis,M.D3 hi];rfl
 have he:=M.R1c c g ct f i s _ (M.D3 hi);have h1:M.el1 c g ct f s c.N[i]=M.elL c g ct f (M.prt c.N[i]) s:=by
  unfold M.el1;rw[if_neg hk.1,if_neg hk.2.1,if_neg hk.2.2]
 rw[hv]at hm⊢;rw[he,h1];have A1:=Chg.alloc No w (ndo c.N[i] la lc);have hF:=h.still A1;have hh:Hnd (w.alloc (ndo c.N[i] la lc)) c f i c.N[i] la lc:=⟨⟨hi,rfl⟩,hif,A3 hlo A1 (λ_ _ x=>x)⟩;have hnb:=heap_alloc_new w (ndo c.N[i] la lc);have HPA:Hid (Calls prog 29 #[nvl c.N[i] la lc] (w.alloc (ndo c.N[i] la lc)) λe w'=>∃ga gc,e= .returned (.slice ga (M.prt c.N[i]).length gc)/\
  Hid (Calls prog 28 #[pV fb,.slice ga (M.prt c.N[i]).length gc] w' (EQ wB pb cv fb gb kb g (m+M.M9 c f (M.prt c.N[i])) (M.elL c g ct f (M.prt c.N[i]) s) (w.alloc (ndo c.N[i] la lc))))):=by
  refine(hh.parts hP).mono ?_;rintro e w' ⟨ga,gc,rfl,hc,ho⟩;refine⟨ga,gc,rfl, ?_⟩;refine(S4c hN (hh.bel hP) (hF.still hc) (C7 ho (wQ _)) (by omega)).mono ?_;rintro e w'' ⟨rfl,r1,r2⟩;exact⟨rfl,r1,(Ekp.still hc).trans r2 (.inl rfl)⟩
 have hst:=M.Tgd.ell h.gt (c:=c) (ct:=ct) f (M.prt c.N[i]) h.tg;obtain⟨s1,hs1⟩:∃s1,M.elL c g ct f (M.prt c.N[i]) s=s1/\M.Tgd s1.kn:=⟨_,rfl,hst⟩;rw[hs1.1]at HPA⊢;have ht1:=hs1.2;clear hs1 hst;obtain⟨V,hV⟩:∃V,M.M9 c f (M.prt c.N[i])=V:=⟨_,rfl⟩;rw[hV]at HPA hm⊢;have HC:Hid (∀u,Ekp wB.heap.size kb (w.alloc (ndo c.N[i] la lc)) u->u.cell? (aD w.heap.size 0)=some (iV c.N[i].kind)/\u.cell? (aD w.heap.size 1)=some (iV c.N[i].a)/\w.heap.size<u.heap.size):=λu hk=>by
  obtain⟨c0,d0,d1,-⟩:=N5a (hk.cells hF.nc hnb (by decide) (by decide));exact⟨d0,d1,c0⟩
 have HA:=A0 A1;have hpa:c.N[i].kind=17\/c.N[i].kind=18->∃a:Nat,c.N[i].a=a/\a<c.N.length:=λhk=>by
  have:M.Pe c.N i c.N[i].a:=by
   rcases hk with hk|hk
   · exact(hfl.k17 hk).2
   · exact hfl.k1 (by omega)
  obtain⟨a,e,h1,h2,_⟩:=this;exact⟨a,e,h2⟩
 have hg1:c.N[i].kind≠17->c.N[i].kind≠18->M.eend c g ct i s1=M.grd c g ct i s1:=O3d (M.D3 hi);have HGD:Hid (∀u,Flw wB u pb cv fb gb kb g (m+V) s1->Calls prog 32 #[pV fb,iV (i:Int)] u (EQ wB pb cv fb gb kb g (m+(2+V)) (M.grd c g ct i s1) u)):=λu hu=>by
  have:=X5b hP hu (by omega) i hi;rw[show m+V+2=m+(2+V) by omega]at this;exact this
 have HLE:Hid (∀u,Flw wB u pb cv fb gb kb g (m+V) s1->∀(a:Nat),a<c.N.length->∀x:Int,0<=x/\x<=1000000->∀u',Chg No u u'->Calls prog 31 #[pV fb,iV (a:Int)] u' (λe w'=>e= .returned (iV (M.J7a c g s1.kn a))/\Hid (Chg No u w')/\
  Hid (Calls prog 30 #[pV fb,iV x,iV (M.J7a c g s1.kn a)] w' (EQ wB pb cv fb gb kb g (m+(2+V)) ⟨M.learn ct s1.kn x (M.J7a c g s1.kn a),s1.lf⟩ u)))):=λu hu a ha x hx u' hc=>by
  refine(D7d hP (hu.still hc) a ha).mono ?_;rintro e w' ⟨rfl,hc2⟩;refine⟨rfl,B9 hc hc2, ?_⟩;refine(W9b hP (hu.still (B9 hc hc2)) (by omega) x _ hx (M.B5b c hu.gt ht1 _)).mono ?_;rintro e w'' ⟨rfl,r1,r2⟩;exact⟨rfl,r1.more (by omega),(Ekp.still (B9 hc hc2)).trans r2 (.inl rfl)⟩
 have HNM:Hid (∀u,Flw wB u pb cv fb gb kb g (m+V) s1->c.N[i].kind=18->(0<=M.nmx c i/\M.nmx c i<=1000000)/\∀u',Chg No u u'->fb<u'.heap.size/\pb<u'.heap.size/\u'.cell? (aD fb 0)=some (pV pb)/\u'.cell? (aD pb 4)=some (.map (some qb))/\(Instr.lookup 35 (.map (some qb)) (iV (i:Int)) false).run prog u'= .ok (iV (M.nmx c i)) u'):=λu hu hk=>by
  refine⟨((hu.pgm hP).nm hi (.inr hk)).1,λu' hc=> ?_⟩;obtain⟨l1,-,y0,-,-,-,-⟩:=(hu.still hc).cell;obtain⟨l2,-,y4⟩:=((hu.still hc).pgm hP).cell;exact⟨l1,l2,y0,y4,(((hu.still hc).pgm hP).nm hi (.inr hk)).2⟩
 have he17:c.N[i].kind=17->M.eend c g ct i s1=⟨M.learn ct s1.kn i (M.J7a c g s1.kn c.N[i].a),s1.lf⟩:=λhk=>by rw[M.eend,M.D3 hi,if_pos hk]
 have he18:c.N[i].kind=18->M.eend c g ct i s1=⟨M.learn ct s1.kn (M.nmx c i) (M.J7a c g s1.kn c.N[i].a),s1.lf⟩:=λhk=>by rw[M.eend,M.D3 hi,if_neg (by omega),if_pos hk]
 unfold maxLen at hn2;subst hnv;unfold nvl ndo at *;clear h hP hN hm hv he A1 hF hh hnb hlo hfl h1 hV;generalize M.prt _=ps at *;generalize c.N[i]=nd at *;obtain⟨kd,va,vb,vc,ls,tx,vn,vt,vp⟩:=nd;simp only at *;obtain⟨k6,k22,k23⟩:=hk;have g6:(kd==6)=false:=by simpa using k6
 have g22:(kd==22)=false:=by simpa using k22
 have g23:(kd==23)=false:=by simpa using k23
 by_cases h17:kd=17
 · subst h17;rw[he17 rfl];obtain⟨a,rfl,ha⟩:=hpa (.inl rfl);clear he17 he18 hg1 hpa HGD HNM;go_enter func11,ntmps11;go_wp2_with fail
   refine HPA.out.mono ?_;rintro e w2 ⟨ga,gc,rfl,HAL⟩;go_wp2_with fail
   refine HAL.out.mono ?_;rintro e w3 ⟨rfl,r1,r2⟩;obtain⟨d0,d1,c0⟩:=HC.out w3 r2;have HS:=A0 (HLE.out w3 r1 a ha (i:Int) (by omega) w3 (Chg.refl _ _));have HK3:Hid (Ekp wB.heap.size kb w w3):=(Ekp.still HA.out).trans r2 (.inl rfl);clear r1 r2 HLE HC HPA HAL HA;generalize M.J7a c g s1.kn a=z at *;go_wp2_with fail
   refine HS.out.mono ?_;rintro e w4 ⟨rfl,HC4,HL4⟩;go_wp2_with fail
   refine HL4.out.mono ?_;rintro e w5 ⟨rfl,r1,r2⟩;have HR:=A0 r1;have HK5:=A0 (HK3.out.trans r2 (.inl rfl));clear r1 r2 HS HL4 HC4 HK3;go_wp2_with fail
   go_end0;exact⟨rfl,HR.out,HK5.out⟩
 have g17:(kd==17)=false:=by simpa using h17
 by_cases h18:kd=18
 · subst h18;rw[he18 rfl];obtain⟨a,rfl,ha⟩:=hpa (.inr rfl);clear he17 he18 hg1 hpa HGD;go_enter func11,ntmps11;go_wp2_with fail
   refine HPA.out.mono ?_;rintro e w2 ⟨ga,gc,rfl,HAL⟩;go_wp2_with fail
   refine HAL.out.mono ?_;rintro e w3 ⟨rfl,r1,r2⟩;obtain⟨d0,d1,c0⟩:=HC.out w3 r2;obtain⟨hx,hq⟩:=HNM.out w3 r1 trivial;have HS:=A0 (HLE.out w3 r1 a ha (M.nmx c i) hx);have HK3:Hid (Ekp wB.heap.size kb w w3):=(Ekp.still HA.out).trans r2 (.inl rfl);have HQ:=A0 hq;obtain⟨l1,l2,y0,y4,hlk⟩:=hq _ (Chg.drewN No w3 1);obtain⟨l1',l2',y0',y4',-⟩:=hq _ (Chg.refl No w3);have hlk':(Instr.lookup 35 (.map (some qb)) (iV (i:Int)) false).run prog w3.drew= .ok (iV (M.nmx c i)) w3.drew:=hlk;clear r1 r2 HLE HC HPA HAL HA hq HNM hx;generalize M.J7a c g s1.kn a=z at *;generalize M.nmx c i=x at *;go_wp2_with fail
   go_region_with (first|(go_at_call 31;refine(HS.out _ (Chg.drewN _ _ 1)).mono ?_;rintro e w4 ⟨rfl,HC4,HL4⟩;obtain⟨m1,m2,v0,v4,hlk4⟩:=HQ.out _ HC4.out)|(go_at_call 30;refine HL4.out.mono ?_;rintro e w5 ⟨rfl,r1,r2⟩;have HR:=A0 r1;have HK5:=A0 (HK3.out.trans r2 (.inl rfl));clear r1 r2))
   all_goals
    go_wp2_with fail
    go_end0;exact⟨rfl,HR.out,HK5.out⟩
 have g18:(kd==18)=false:=by simpa using h18
 rw[hg1 h17 h18];clear he17 he18 hg1 hpa HLE HNM;go_enter func11,ntmps11;go_wp2_with fail
 refine HPA.out.mono ?_;rintro e w2 ⟨ga,gc,rfl,HAL⟩;go_wp2_with fail
 refine HAL.out.mono ?_;rintro e w3 ⟨rfl,r1,r2⟩;obtain⟨d0,d1,c0⟩:=HC.out w3 r2;have HG3:=A0 (HGD.out w3 r1);have HK3:Hid (Ekp wB.heap.size kb w w3):=(Ekp.still HA.out).trans r2 (.inl rfl);clear r1 r2 HC HPA HAL HA HGD;go_wp2_with fail
 refine HG3.out.mono ?_;rintro e w4 ⟨rfl,r1,r2⟩;have HR:=A0 r1;have HK4:=A0 (HK3.out.trans r2 (.inl rfl));clear r1 r2 HG3 HK3;go_wp2_with fail
 go_end0;exact⟨rfl,HR.out,HK4.out⟩
theorem Q3b(hP:Pgm wB c pb qb nv cv ct):∀f,NdE wB c pb cv fb gb g ct f
 |0,i,_,_,_,_,hif,_,_,_=>absurd hif (Nat.not_lt_zero i)
 |f+1,i,w,kb,m,s,hif,hi,h,hm=>by
  by_cases hk:c.N[i].kind=6\/c.N[i].kind=22\/c.N[i].kind=23
  · exact W5c hP (Q3b hP f) i w kb m s (by omega) hi h hm hk
  · exact W4c hP (Q3b hP f) i w kb m s (by omega) hi h hm (by omega)
end
end Go.Proofs.YtfhhipefecekkaaGreatDoor
