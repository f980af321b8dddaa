/-
  A part of the proof.
-/
import Derived.Test.YtfhhipefecekkaaGreatDoorNodeA
import Derived.Test.YtfhhipefecekkaaGreatDoorWho
import Derived.Test.YtfhhipefecekkaaGreatDoorShelf
set_option maxHeartbeats 16000000
set_option maxRecDepth 100000
namespace Go.Proofs.YtfhhipefecekkaaGreatDoor
open Go.Proofs.Tryz
open Go.RowKit
section
variable{w:World}{B pb:Nat}{tv:Value}{L:List M.Tk}{ok:Nat->Prop}{d:Nat}{s:M.St}
theorem PstL.cell{w:World}{B pb:Nat}{tv:Value}{L:List M.Tk}{ok:Nat->Prop}{d:Nat}{s:M.St}(h:PstL w B pb tv L ok d s):
 ∃g c nv yv,tv= .slice (some (aD g 0)) L.length c/\L.length<=c/\c<=maxLen/\g<w.heap.size/\pb<w.heap.size/\w.cell? (aD pb 0)=some (.slice (some (aD g 0)) L.length c)/\w.cell? (aD pb 1)=some (iV (s.i:Int))/\w.cell? (aD pb 2)=some (iV (d:Int))/\
  w.cell? (aD pb 3)=some nv/\w.cell? (aD pb 4)=some yv/\(∀o,w.frozen? (aD pb o)=false)/\∀j u,(B5a L)[j]? =some u->w.cell? (aD g j)=some u:=by
 obtain⟨ad,c,rfl⟩:=B7 h.toks;obtain⟨g,rfl,_,hg,hc1,hc2,hcell⟩:=D8 h.toks (by have:=h.at';omega);obtain⟨nv,yv,nx,yx,hb,_⟩:=h.blk;have hlt:=(ltG hb);have hc:=λo=>cell_of_row w pb o _ _ _ hb;refine⟨g,c,nv,yv,rfl,hc1,hc2,hg,hlt,by rw[hc];rfl,by rw[hc];rfl,by rw[hc];rfl,by rw[hc];rfl,by rw[hc];rfl,λo=> ?_,hcell⟩;simp[World.frozen?,hb]
theorem N3b(hL:LOk L)(h:PstL w B pb tv L ok d s):
 Calls prog 101 #[pV pb] w λe w'=>e= .returned (tkv (M.tk L s.i))/\Chg No w w':=by
 obtain⟨g,c,nv,yv,rfl,hc1,hc2,hg,hlt,c0,c1,_,_,_,fz,hcell⟩:=h.cell;have hi:=h.at';have hs:=hL.short;obtain⟨x0,x1,x2⟩:=G5b hi hcell;clear h hcell;generalize M.tk L s.i=tk at *;obtain⟨kd,tx,pl⟩:=tk;simp only[tkv]at x0 x1 x2⊢;generalize (⟨tx.toArray⟩:ByteArray)=bx at *;generalize s.i=i at *;unfold maxLen at hc2;go_enter func101,ntmps101;go_wp2;go_region
 go_wp2;exact bodyPost_ret (v:= .agg #[iV kd,.string bx,iV pl]) (by simp[results,results101,go_sem]) rfl ⟨rfl,(Chg.alloc _ _ _).trans (Chg.drewN _ _ 1) (λ_ _ x=>x)⟩
theorem S9b(hL:LOk L)(h:PstL w B pb tv L ok d s):
 Calls prog 70 #[pV pb] w λe w'=>e= .returned (.bool (decide ((M.tk L s.i).kind=6)))/\Chg No w w':=by
 have H:=N3b hL h;have hf0:=T9;have hf2:=B2b;generalize M.tk L s.i=tk at *;obtain⟨kd,tx,pl⟩:=tk;simp only[tkv]at H⊢;clear h hL;go_enter func70,ntmps70;go_wp2_with fail
 refine H.mono ?_;clear H;rintro e w1 ⟨rfl,hc⟩;go_wp2;go_ret;exact⟨F1 (by rw[Bool.eq_iff_iff];simp),hc⟩
def P0d(w:World)(B pb:Nat)(tv:Value)(L:List M.Tk)(ok:Nat->Prop)(d:Nat)(φ:M.Sp->Option (M.Out Int))(e:Ending)(w':World):Prop:=
 Kept B ok w w'/\∃o,M.Ev L φ o/\match o with
  | .ok s' x=>e= .returned (iV x)/\(M.tk L s'.i).kind=6/\PstL w' B pb tv L ok d s'
  | .fail er p=>e=gu er p/\er≠0
theorem D6b{acc:List Int}(hq:(M.tk L s.i).kind=6):M.Ev L (λr=>r.progL d s acc) (.ok s acc):=
 M.Ev.step (M.Ev.pure.eq λr=>by show (if (M.tk L s.i).kind=6 then _ else _)=_;rw[if_pos hq])
theorem X1a{acc:List Int}{o:M.Out (List Int)}(hq:¬(M.tk L s.i).kind=6)(h:M.Ev L (λr=>M.A4 (r.stmt d s) λs x=>r.progL d s (acc++[x])) o):M.Ev L (λr=>r.progL d s acc) o:=
 M.Ev.step (h.eq λr=>by show (if (M.tk L s.i).kind=6 then _ else _)=_;rw[if_neg hq])
theorem I0b(hL:LOk L)(hS:∀m',ConN B pb tv L 72 (λd s r=>r.stmt d s) m')(hok:∀g,w.heap.size<=g->ok g)(hB:B<=w.heap.size)(h:Pst w B pb tv L ok d s):
 Calls prog 36 #[pV pb] w (P0d w B pb tv L ok d (M.D7a d s)):=by
 have hi:=h.at';have hs:=hL.short;have hfw:=h.few;have V:Hid (∀o,M.Ev L (λr=>M.A4 (r.progL d s []) λs2 l=>M.addN s2 (M.Nd.mk 26 0 0 0 l [] 0 (-1) 0)) o->M.Ev L (M.D7a d s) o):=λo ho=>ho;obtain⟨i0,hi0,hz0,hz1,hz2⟩:=info_parts Tryz.infoInt;have P2:=A0 h;clear h;go_enter func36,ntmps36;go_wp2_with fail
 go_loopw [3] (λv wr=>∃(acc:List Int) (s':M.St) (ad:Option Addr) (c:Nat),v= .slice ad acc.length c/\acc.length<=s'.i/\Hid (Kept B ok w wr)/\Hid (I6 s s')/\Hid (wr.ownsRow w.heap.size 3 1 (.slice ad acc.length c) acc.length (B8 acc))/\
  Hid (Pst wr B pb tv L (λg=>ok g/\some g≠Value.ownBlock (.slice ad acc.length c)) d s')/\Hid (∀o,M.Ev L (λr=>M.A4 (r.progL d s' acc) λs2 l=>M.addN s2 (M.Nd.mk 26 0 0 0 l [] 0 (-1) 0)) o->M.Ev L (M.D7a d s) o)) (λ_ wr=>L.length - nxt wr pb)
 case atStart=>exact⟨[],s,none,0,rfl,by simp,Kept.refl _ _ _,⟨vQ _,by omega,by omega,by omega⟩,kW _ _ _ _,P2.out.mono (λg hg _=>⟨hg,by simp[Value.ownBlock]⟩),V.out⟩
 case round=>
  clear P2 V;obtain⟨acc,s',ad,c,rfl,hacc,KR,GR,OR,PR,VR⟩:=hrel;have HT:=D9c hL PR.out;have hi':=PR.out.at';have hnx:=PR.out.nxt;have hfw':=PR.out.few;have hge:=GR.out;simp only[I6]at hge;generalize hq:decide ((M.tk L s'.i).kind=6)=q at *;have Q1:=A0 hq;clear hq;go_wp2_with fail
  refine HT.mono ?_;clear HT;rintro e w3 ⟨rfl,hc⟩;have K3:=A0 (KR.out.trans (C8 hc));have O3:=A0 (A3 OR.out hc (λ_ _ x=>x));have P3:=A0 (PR.out.still hc);clear hc OR PR KR;cases q
  · have Q2:¬(M.tk L s'.i).kind=6:=by simpa using Q1.out
    have PX:Hid (Pst w3 B pb tv L (λg=>ok g/\some g≠Value.ownBlock (.slice ad acc.length c)) d s'):=P3.out;clear P3;have HM:=A0 (hS (L.length - s'.i) w3 _ d s' (vQ _) (λg hg=>⟨hok g (kQ K3.out.size hg),λhx=>by have:=(O3.out.lt g hx.symm).2;omega⟩) (kQ hB K3.out.size) PX.out);clear PX;go_wp2_with fail
    refine HM.out.mono ?_;rintro e w4 ⟨hk,o,hev,hpost⟩;have K4:=A0 (K3.out.trans (hk.mono λ_ h=>h.1));have O4:=A0 (F4 O3.out hk (by decide));have E4:=A0 hev;clear hk hev K3 O3 HM;cases o with
    |fail er p=>
     obtain⟨rfl,he⟩:=hpost;exact⟨rfl,K4.out,_,VR.out _ (M.Ev.bad (X1a Q2 (M.Ev.bad (k:=λr s x=>r.progL d s (acc++[x])) E4.out))),rfl,he⟩
    |ok s4 y=>
     obtain⟨rfl,hp,hg,_⟩:=hpost;have P4:=A0 hp;have hg4:_/\_/\_/\_:=hg;have hi4:=hp.at';clear hp hg;have VN:=A0 (λo (ho:M.Ev L (λr=>M.A4 (r.progL d s4 (acc++[y])) λs2 l=>M.addN s2 (M.Nd.mk 26 0 0 0 l [] 0 (-1) 0)) o)=>VR.out o (by
      obtain⟨f1,h1⟩:=E4.out;obtain⟨f2,h2⟩:=ho;refine⟨f1+f2+1,λf hf=> ?_⟩;obtain⟨g,rfl⟩:∃g,f=g+1:=⟨f - 1,by omega⟩;have a1:(M.sp' L g).stmt d s'=some (.ok s4 y):=h1 g (by omega);have a2:=h2 g (by omega);have a3:=h2 (g+1) (by omega);show M.A4 (if (M.tk L s'.i).kind=6 then some (.ok s' acc) else M.A4 ((M.sp' L g).stmt d s') λs x=>(M.sp' L g).progL d s (acc++[x])) _=some o;rw[if_neg Q2,a1];exact a2))
     clear VR;have hw3:=A0 (O4.out.alloc (.cells #[iV y] 3));go_wp2_with (at_builtin;refine wpList_append_own_at _ rfl _ _ 43 rfl w.heap.size 3 i0 (iV 0) 1 8 underlying43 hi0 hz0 hz1 hz2 rfl (by decide) _ _ _ rfl hw3.out (aD w4.heap.size 0) 1 1 [iV y] rfl rfl ?c1 ?c2 ?c3 ?c4 ?c5 ?_)
     case c1=>exact cell_one_new _ _ _
     case c2=>intro u hu;simp at hu;rcases hu with rfl;rfl
     case c3=>simp only[maxLen];omega
     case c4=>omega
     case c5=>have:=K4.out.size;simp;omega
     intro v' w5 hown2 hg2 _ hat;obtain⟨ad2,c2,hv2⟩:=B7 hown2;rw[hv2]at hown2 hat⊢;have PG:=A0 ((P4.out.alloc (.cells #[iV y] 3)).grown (v:= .slice ad acc.length c) (v':= .slice ad2 (acc.length+1) c2) (O4.out.alloc _) (.inl rfl) hg2 (by simpa using hat));have KG:=A0 ((K4.out.alloc (.cells #[iV y] 3)).grown (O4.out.alloc _) hg2);have OG:=A0 hown2;clear hown2 hg2 hat hw3 P4 O4 K4 hv2;go_wp2_with fail
     go_roundw
     case rel=>
      refine⟨acc++[y],s4,ad2,c2,by simp,by simp;omega,KG.out,(show I6 s s4 from by simp only[I6];omega), ?_, ?_,VN.out⟩
      · have:=OG.out;show World.ownsRow _ _ _ _ _ _ _;rw[M5];simpa using this
      · have:=PG.out;show Pst _ _ _ _ _ _ _ _;simpa using this
     case measure=>
      have h3:=PG.out.nxt;rw[h3,hnx];omega
  · have Q2:(M.tk L s'.i).kind=6:=by simpa using Q1.out
    have PY:=A0 (P3.out.mono (ok':=ok) (λg hg _=>hg.1));clear P3;have HAd:=A0 (M9b hL PY.out (M.Nd.mk 26 0 0 0 acc [] 0 (-1) 0) 0 ad acc.length c ⟨_,rfl,C7 O3.out (wQ _),λg hg=>hok g (A9 O3.out g hg).1⟩ rfl (by omega) (kQ hB K3.out.size) (λg hg=>hok g (kQ K3.out.size hg)));have EV:=A0 (VR.out _ (M.Ev.bind (k:=λ_ s2 l=>M.addN s2 (M.Nd.mk 26 0 0 0 l [] 0 (-1) 0)) (D6b Q2) M.Ev.pure));have Q3:=A0 Q2;clear PY VR O3 Q2 Q1;go_wp2_with fail
    refine HAd.out.mono ?_;rintro e w9 ⟨rfl,k9,p9⟩;have K9:=A0 (K3.out.trans k9);have P9:=A0 p9;clear k9 p9 HAd;go_wp2_with fail
    go_ret;exact⟨K9.out,_,EV.out,rfl,Q3.out,P9.out⟩
def J2d(w:World)(B pb:Nat)(tv:Value)(L:List M.Tk)(ok:Nat->Prop)(d:Nat)(φ:M.Sp->Option (M.Out Int))(e:Ending)(w':World):Prop:=
 Kept B ok w w'/\∃o,M.Ev L φ o/\match o with
  | .ok s' _=>if (M.tk L s'.i).kind=6 then e=rT/\PstL w' B pb tv L ok d s' else e=gu 1 ((M.tk L s'.i).at':Int)
  | .fail er p=>e=gu er p/\er≠0
def F5b(w:World)(B pb:Nat)(tv:Value)(L:List M.Tk)(ok:Nat->Prop)(d:Nat)(φ:M.Sp->Option (M.Out Int))(e:Ending)(w':World):Prop:=
 Kept B ok w w'/\∃o,M.Ev L φ o/\match o with
  | .ok s' _=>if (M.tk L s'.i).kind=6 then e= .returned (.agg #[iV 0,iV 0])/\PstL w' B pb tv L ok d s' else e= .returned (.agg #[iV 1,iV ((M.tk L s'.i).at':Int)])
  | .fail er p=>e= .returned (.agg #[iV er,iV p])/\er≠0
def S7c(w:World)(B pb:Nat)(tv:Value)(L:List M.Tk)(ok:Nat->Prop)(d:Nat)(φ:M.Sp->Option (M.Out Int))(e:Ending)(w':World):Prop:=
 Kept B ok w w'/\∃o,M.Ev L φ o/\match o with
  | .ok s' _=>if (M.tk L s'.i).kind=6 then (if 1200<s'.N.length\/300<s'.T.length then e= .returned (.agg #[iV 2,iV 0]) else e= .returned (.agg #[iV 0,iV 0])/\PstL w' B pb tv L ok d s') else e= .returned (.agg #[iV 1,iV ((M.tk L s'.i).at':Int)])
  | .fail er p=>e= .returned (.agg #[iV er,iV p])/\er≠0
theorem F8b(hL:LOk L)(hS:∀m',ConN B pb tv L 72 (λd s r=>r.stmt d s) m')(hok:∀g,w.heap.size<=g->ok g)(hB:B<=w.heap.size)(h:Pst w B pb tv L ok d s)(qf qp:Nat)(hf:w.heap[qf]? =some (.cells #[.func (.func 36) #[pV pb] #[]] 94 (0,0)))
 (hp:w.heap[qp]? =some (.cells #[pV pb] 90 (0,0))):
 Calls prog 69 #[pV qf,pV qp] w (J2d w B pb tv L ok d (M.D7a d s)):=by
 have HM:=I0b hL hS hok hB h;have f0:w.cell? (aD qf 0)=some (.func (.func 36) #[pV pb] #[]):=cr hf rfl;have HQ:=A0 hp;clear hf hp h;go_enter func69,ntmps69;go_wp2_with fail
 refine HM.mono ?_;clear HM;rintro e w1 ⟨hk,o,hev,hpost⟩;have K1:=A0 hk;have E1:=A0 hev;have p0:w1.cell? (aD qp 0)=some (pV pb):=(W5 hk HQ.out (by decide) rfl).2;clear hk hev f0;cases o with
 |fail er p=>
  obtain⟨rfl,he⟩:=hpost;exact⟨rfl,K1.out,_,E1.out,rfl,he⟩
 |ok s1 x=>
  obtain⟨rfl,h6,hp⟩:=hpost;have HE:=S9b hL hp;have P1:=A0 hp;clear hp;have h6':decide ((M.tk L s1.i).kind=6)=true:=by simp[h6]
  rw[h6']at HE;go_wp2_with fail
  refine HE.mono ?_;clear HE;rintro e w2 ⟨rfl,hc⟩;have P2:=A0 (P1.out.still hc);have K2:=A0 (K1.out.trans (C8 hc));clear hc;go_wp2_with fail
  go_end0;exact⟨K2.out,_,E1.out,by simp[h6];exact P2.out⟩
theorem U4a{w0 w w6:World}{q:Nat}{a b:Value}{cs:Array Value}(hq:w.heap[q]? =some (.cells cs 26 (0,0)))(h:PstL w B pb tv L ok d s)(ht:tv.ownBlock≠some q)(hk:Kept B ok w0 w)(hq0:w0.heap.size<=q)(hcs:cs.size=2)
 (hc:Chg No ((w.setCell (aD q 0) a).setCell (aD q 1) b) w6):w6.cell? (aD q 0)=some a/\w6.cell? (aD q 1)=some b/\Kept B ok w0 w6/\PstL w6 B pb tv L ok d s:=by
 have h1:=heap_setCell_same w q 0 cs _ a hq;have h2:=heap_setCell_same (w.setCell (aD q 0) a) q 1 _ _ b h1;have hlt:=(ltG h2);have h3:=hc.block q hlt (λx=>x);rw[h2]at h3;refine⟨?_, ?_,((hk.setOwn a hq0).setOwn b hq0).trans (C8 hc),((h.setOwn a hq ht (by decide)).setOwn b h1 ht (by decide)).still hc⟩
 · rw[cell_of_row w6 q 0 _ _ _ h3];simp[hcs]
 · rw[cell_of_row w6 q 1 _ _ _ h3];simp[hcs]
theorem U5a(hL:LOk L)(hS:∀m',ConN B pb tv L 72 (λd s r=>r.stmt d s) m')(hok:∀g,w.heap.size<=g->ok g)(hB:B<=w.heap.size)(h:Pst w B pb tv L ok d s)(qf qp:Nat)(hf:w.heap[qf]? =some (.cells #[.func (.func 36) #[pV pb] #[]] 94 (0,0)))
 (hp:w.heap[qp]? =some (.cells #[pV pb] 90 (0,0))):
 Calls prog 18 #[.func (.func 69) #[] #[pV qf,pV qp]] w (F5b w B pb tv L ok d (M.D7a d s)):=by
 have hmf:=mkf;have hlf:=(ltG hf);have hlp:=(ltG hp);have HM:=F8b hL hS (w:=w.alloc (.cells #[iV 0,iV 0] 26)) (ok:=ok) (λg hg=>hok g (by simp at hg;omega)) (by simp;omega) (h.alloc _) qf qp (by rw[Below.heap_alloc _ _ _ hlf];exact hf) (by rw[Below.heap_alloc _ _ _ hlp];exact hp);have ht2:tv.ownBlock≠some w.heap.size:=h.tokLt (vQ _);clear hf hp h;go_enter_defers func18,ntmps18
 go_wp2_with fail
 refine HM.mono ?_;clear HM;rintro e w1 ⟨hk,o,hev,hpost⟩;obtain⟨hb1,q0⟩:=W5 hk (heap_alloc_new w _) (by decide) (o:=0) rfl;have q1:=(W5 hk (heap_alloc_new w _) (by decide) (o:=1) rfl).2;have hz:=(ltG hb1);have qf':∀o,w1.frozen? (aD w.heap.size o)=false:=λo=>frozen_of_row w1 _ o _ _ hb1;have HB1:=A0 hb1;have K1:=A0 (((Kept.refl B ok w).alloc _).trans hk);have E1:=A0 hev;clear hk hev hb1;cases o with
 |fail er p=>
  obtain⟨rfl,he⟩:=hpost;unfold gu;refine leaves_cons (f:=39) (args:=#[pV w.heap.size]) (by simp) (by simp[go_sem]) ?_;refine(L3a w.heap.size er p 0 0 [] _ q0 q1 qf').mono ?_;rintro e u' w2 ⟨rfl,rfl,hc,z0,z1⟩;have KX:F5b w B pb tv L ok d (M.D7a d s) (.returned (.agg #[iV er,iV p])) w2:=⟨K1.out.trans' hc (λi hi hx=>by omega),_,E1.out,rfl,he⟩;simp[Leaves,settle,results,results18,go_sem,z0,z1];exact KX
 |ok s1 x=>
  by_cases h6:(M.tk L s1.i).kind=6
  · simp only[h6,if_true]at hpost;obtain⟨rfl,hp⟩:=hpost;have P1:=A0 hp;clear hp;go_wp2_with fail
    refine leaves_cons (f:=39) (args:=#[pV w.heap.size]) (by simp) (by simp[go_sem]) ?_;refine(J1a w.heap.size _).mono ?_;rintro e u' w6 ⟨rfl,rfl,hc6⟩;obtain⟨z0,z1,k6,p6⟩:=U4a HB1.out P1.out ht2 K1.out (vQ _) rfl hc6;have KX:F5b w B pb tv L ok d (M.D7a d s) (.returned (.agg #[iV 0,iV 0])) w6:=⟨k6,_,E1.out,by simp[h6,p6]⟩;simp[Leaves,settle,results,results18,go_sem,z0,z1];exact KX
  · simp only[h6,if_false]at hpost;subst hpost;unfold gu;refine leaves_cons (f:=39) (args:=#[pV w.heap.size]) (by simp) (by simp[go_sem]) ?_;refine(L3a w.heap.size 1 ((M.tk L s1.i).at':Int) 0 0 [] _ q0 q1 qf').mono ?_;rintro e u' w4 ⟨rfl,rfl,hc4,z0,z1⟩;have KX:F5b w B pb tv L ok d (M.D7a d s) (.returned (.agg #[iV 1,iV ((M.tk L s1.i).at':Int)])) w4:=⟨K1.out.trans' hc4 (λi hi hx=>by omega),_,E1.out,by simp[h6]⟩;generalize ((M.tk L s1.i).at':Int)=pa at *;simp[Leaves,settle,results,results18,go_sem,z0,z1];exact KX
theorem R1a(hL:LOk L)(hS:∀m',ConN B pb tv L 72 (λd s r=>r.stmt d s) m')(hok:∀g,w.heap.size<=g->ok g)(hB:B<=w.heap.size)(h:Pst w B pb tv L ok d s):
 Calls prog 35 #[pV pb,.func (.func 36) #[pV pb] #[]] w (S7c w B pb tv L ok d (M.D7a d s)):=by
 have hmf:=mkf;obtain⟨b0,b1,b2⟩:=I6a w (.cells #[pV pb] 90) (.cells #[.func (.func 36) #[pV pb] #[]] 94) (.cells #[iV 0,iV 0] 26);have HM:=U5a hL hS (ok:=ok) (λg hg=>hok g (by simp at hg;omega)) (by simp;omega) (((h.alloc _).alloc _).alloc _) (w.heap.size+1) w.heap.size b1 b0;have ht2:tv.ownBlock≠some (w.heap.size+2):=h.tokLt (by omega);have B0:=A0 b0;have B2:=A0 b2;clear h b0 b1 b2;go_enter func35,ntmps35;go_wp2_with fail
 refine HM.mono ?_;clear HM;rintro e w1 ⟨hk,o,hev,hpost⟩;have K1:=A0 (((((Kept.refl B ok w).alloc _).alloc _).alloc _).trans hk);have E1:=A0 hev;have p0:w1.cell? (aD w.heap.size 0)=some (pV pb):=(W5 hk B0.out (by decide) rfl).2;obtain⟨hb2,-⟩:=W5 hk B2.out (by decide) (o:=0) rfl;have r0:w1.cell? (aD (w.heap.size+2) 0)=some (iV 0):=(W5 hk B2.out (by decide) (o:=0) rfl).2;have r1:w1.cell? (aD (w.heap.size+2) 1)=some (iV 0):=(W5 hk B2.out (by decide) (o:=1) rfl).2;have hz:=(ltG hb2);have rf:∀o,w1.frozen? (aD (w.heap.size+2) o)=false:=λo=>frozen_of_row w1 _ o _ _ hb2;have HB2:=A0 hb2;clear hk hev hb2 B0 B2;have hz':w.heap.size<w1.heap.size:=by omega
 cases o with
 |fail er p=>
  obtain⟨rfl,he⟩:=hpost;have he':(er==0)=false:=by simp[he]
  go_wp2_with fail
  exact bodyPost_ret (v:= .agg #[iV er,iV p]) (by simp[results,results35,go_sem,r0,r1,hz]) rfl ⟨((K1.out.setOwn _ (by omega)).setOwn _ (by omega)).alloc _,_,E1.out,rfl,he⟩
 |ok s1 x=>
  by_cases h6:(M.tk L s1.i).kind=6
  · simp only[h6,if_true]at hpost;obtain⟨rfl,hp⟩:=hpost;have P1:=A0 hp;obtain⟨nv,yv,nx,yx,hb,hn,hy,_⟩:=hp.blk;have hlt:=(ltG hb);obtain⟨na,nc,rfl⟩:=B7 hn;obtain⟨ya,yc,rfl⟩:=B7 hy;have c3:w1.cell? (aD pb 3)=some (.slice na s1.N.length nc):=cr hb rfl;have c4:w1.cell? (aD pb 4)=some (.slice ya s1.T.length yc):=cr hb rfl;clear hp hb hn hy;by_cases hN:(1200:Int)<(s1.N.length:Int)
    · have hN':1200<s1.N.length:=by omega
      go_wp2_with fail
      exact bodyPost_ret (v:= .agg #[iV 2,iV 0]) (by simp[results,results35,go_sem,r0,r1,hz]) rfl ⟨((K1.out.setOwn _ (by omega)).setOwn _ (by omega)).alloc _,_,E1.out,by simp[h6,hN']⟩
    · have hN':¬1200<s1.N.length:=by omega
      by_cases hT:(300:Int)<(s1.T.length:Int)
      · have hT':300<s1.T.length:=by omega
        go_wp2_with fail
        exact bodyPost_ret (v:= .agg #[iV 2,iV 0]) (by simp[results,results35,go_sem,r0,r1,hz]) rfl ⟨((K1.out.setOwn _ (by omega)).setOwn _ (by omega)).alloc _,_,E1.out,by simp[h6,hT']⟩
      · have hT':¬300<s1.T.length:=by omega
        go_wp2_with fail
        obtain⟨_,_,k6,p6⟩:=U4a (a:=iV 0) (b:=iV 0) HB2.out P1.out ht2 K1.out (by omega) rfl (Chg.alloc No _ (.cells #[iV 0,iV 0] 26));exact bodyPost_ret (v:= .agg #[iV 0,iV 0]) (by simp[results,results35,go_sem,r0,r1,hz]) rfl ⟨k6,_,E1.out,by simp[h6,hN',hT',p6]⟩
  · simp only[h6,if_false]at hpost;subst hpost;have XP:S7c w B pb tv L ok d (M.D7a d s) (.returned (.agg #[iV 1,iV ((M.tk L s1.i).at':Int)])) (((w1.setCell (aD (w.heap.size+2) 0) (iV 1)).setCell (aD (w.heap.size+2) 1) (iV ((M.tk L s1.i).at':Int))).alloc (.cells #[iV 1,iV ((M.tk L s1.i).at':Int)] 26)):=
     ⟨((K1.out.setOwn _ (by omega)).setOwn _ (by omega)).alloc _,_,E1.out,by simp[h6]⟩
    have XH:=A0 XP;clear XP h6 E1;go_wp2_with fail
    exact bodyPost_ret (v:= .agg #[iV 1,iV ((M.tk L s1.i).at':Int)]) (by simp[results,results35,go_sem,r0,r1,hz]) rfl XH.out
end
set_option linter.unusedSimpArgs false
section
variable{B pb:Nat}{tv:Value}{L:List M.Tk}
theorem A0a{w w1 w2:World}{ok:Nat->Prop}{d:Nat}{s:M.St}{φ ψ:M.Sp->Option (M.Out Int)}{e:Ending}(hk:Kept B ok w w1)(h:T7 w1 B pb tv L ok d s.nx φ e w2)(hv:∀o,M.Ev L φ o->M.Ev L ψ o):T7 w B pb tv L ok d s ψ e w2:=by
 obtain⟨k,o,ev,hp⟩:=h;refine⟨hk.trans k,o,hv o ev, ?_⟩;cases o with
 |fail er p=>exact hp
 |ok s' x=>
  obtain⟨h1,h2,h3,h4⟩:=hp;exact⟨h1,h2,Q7a h3,h4⟩
theorem Z9{w w1 w2:World}{ok:Nat->Prop}{d:Nat}{s:M.St}{φ ψ:M.Sp->Option (M.Out Int)}{e:Ending}(hk:Kept B ok w w1)(h:T7 w1 B pb tv L ok d s φ e w2)(hv:∀o,M.Ev L φ o->M.Ev L ψ o):T7 w B pb tv L ok d s ψ e w2:=by
 obtain⟨k,o,ev,hp⟩:=h;refine⟨hk.trans k,o,hv o ev, ?_⟩;cases o with
 |fail er p=>exact hp
 |ok s' x=>exact hp
theorem J7{w w2:World}{ok:Nat->Prop}{d:Nat}{s:M.St}{φ:M.Sp->Option (M.Out Int)}{e:Ending}(h:T7 w B pb tv L ok d s φ e w2):(∃x,e= .returned (iV x))\/∃er p,e=gu er p:=by
 obtain⟨k,o,ev,hp⟩:=h;cases o with
 |fail er p=>exact .inr ⟨er,p,hp.1⟩
 |ok s' x=>exact .inl ⟨x,hp.1⟩
theorem N9a(hL:LOk L)(hX:∀(d:Nat) (s s':M.St) (x:Int),M.Ev L (λr=>r.expr d s) (.ok s' x)->(s.N.length:Int)<=x)(m:Nat)(hE:∀m',m'<=m->ConN B pb tv L 165 (λd s r=>r.expr d s) m')(hK:∀m',m'<m->ConN B pb tv L 167 (λd s r=>r.block d s) m'):ConN B pb tv L 106 (λd s r=>r.any d s) m:=by
 intro w ok d s hm hok hB h;have hi:=h.at';have hs:=hL.short;have HA:=A0 (N7a hL h);have FS:Hid (∀a,Chg No w a->Pst a B pb tv L ok d s):=λa ha=>h.still ha;have V:Hid (∀o φ,M.Ev L φ o->(∀r,(M.step L r).any d s=φ r)->M.Ev L (λr=>r.any d s) o):=λo φ ho he=>M.Ev.step (ho.eq (λr=>he r));clear h;generalize hat:((M.tk L s.i).at':Int)=at0 at *;have AT:=A0 hat;clear hat;go_enter func106,ntmps106;go_wp2_with fail
 refine HA.out.mono ?_;rintro e w0 ⟨rfl,hc⟩;have K:=A0 (C8 (B:=B) (ok:=ok) hc);have P:=A0 (FS.out w0 hc);clear hc HA FS;have HT:=F6 hL P.out [108,101,116];generalize hq:M.isM L s.i [[108,101,116]]=q0 at HT;have Q0:=A0 hq;have HT2:=A0 HT;clear hq HT P;go_wp2_with fail
 refine HT2.out.mono ?_;rintro e w1 ⟨rfl,hk,hp⟩;replace K:=A0 (K.out.trans hk);clear hk HT2;cases q0
 case true=>
  have P:Hid (Pst w1 B pb tv L ok d s.nx):=hp;clear hp;have H1:=A0 (X8c hL (L.length - s.nx.i) (λm' hm'=>hE m' (by simp only[M.St.nx]at hm';omega)) at0 w1 ok d s.nx (vQ _) (λg hg=>hok g (kQ K.out.size hg)) (kQ hB K.out.size) P.out);clear P;go_wp2_with fail
  refine H1.out.mono ?_;rintro e w9 hpost;have PX:=A0 (A0a K.out hpost (λo ho=>V.out o _ ho (λr=>by simp only[M.step,Q0.out,Bool.false_eq_true,if_false,if_true,AT.out];try rfl)));have hend:=J7 hpost;clear hpost H1 K V;rcases hend with ⟨x,rfl⟩|⟨er,p,rfl⟩
  · go_wp2_with fail
    go_ret;exact PX.out
  · exact⟨rfl,PX.out⟩
 have P:Hid (Pst w1 B pb tv L ok d s):=hp;clear hp;have HT:=F6 hL P.out [112,114,105,110,116];generalize hq:M.isM L s.i [[112,114,105,110,116]]=q1 at HT;have Q1:=A0 hq;have HT2:=A0 HT;clear hq HT P;go_wp2_with fail
 refine HT2.out.mono ?_;rintro e w2 ⟨rfl,hk,hp⟩;replace K:=A0 (K.out.trans hk);clear hk HT2;cases q1
 case true=>
  have P:Hid (Pst w2 B pb tv L ok d s.nx):=hp;clear hp;have H1:=A0 (B1a hL (L.length - s.nx.i) (λm' hm'=>hE m' (by simp only[M.St.nx]at hm';omega)) 21 at0 w2 ok d s.nx (vQ _) (λg hg=>hok g (kQ K.out.size hg)) (kQ hB K.out.size) P.out);clear P;go_wp2_with fail
  refine H1.out.mono ?_;rintro e w9 hpost;have PX:=A0 (A0a K.out hpost (λo ho=>V.out o _ ho (λr=>by simp only[M.step,Q0.out,Q1.out,Bool.false_eq_true,if_false,if_true,AT.out];try rfl)));have hend:=J7 hpost;clear hpost H1 K V;rcases hend with ⟨x,rfl⟩|⟨er,p,rfl⟩
  · go_wp2_with fail
    go_ret;exact PX.out
  · exact⟨rfl,PX.out⟩
 have P:Hid (Pst w2 B pb tv L ok d s):=hp;clear hp;have HT:=F6 hL P.out [114,101,116,117,114,110];generalize hq:M.isM L s.i [[114,101,116,117,114,110]]=q2 at HT;have Q2:=A0 hq;have HT2:=A0 HT;clear hq HT P;go_wp2_with fail
 refine HT2.out.mono ?_;rintro e w3 ⟨rfl,hk,hp⟩;replace K:=A0 (K.out.trans hk);clear hk HT2;cases q2
 case true=>
  have P:Hid (Pst w3 B pb tv L ok d s.nx):=hp;clear hp;have H1:=A0 (B1a hL (L.length - s.nx.i) (λm' hm'=>hE m' (by simp only[M.St.nx]at hm';omega)) 24 at0 w3 ok d s.nx (vQ _) (λg hg=>hok g (kQ K.out.size hg)) (kQ hB K.out.size) P.out);clear P;go_wp2_with fail
  refine H1.out.mono ?_;rintro e w9 hpost;have PX:=A0 (A0a K.out hpost (λo ho=>V.out o _ ho (λr=>by simp only[M.step,Q0.out,Q1.out,Q2.out,Bool.false_eq_true,if_false,if_true,AT.out];try rfl)));have hend:=J7 hpost;clear hpost H1 K V;rcases hend with ⟨x,rfl⟩|⟨er,p,rfl⟩
  · go_wp2_with fail
    go_ret;exact PX.out
  · exact⟨rfl,PX.out⟩
 have P:Hid (Pst w3 B pb tv L ok d s):=hp;clear hp;have HT:=F6 hL P.out [105,102];generalize hq:M.isM L s.i [[105,102]]=q3 at HT;have Q3:=A0 hq;have HT2:=A0 HT;clear hq HT P;go_wp2_with fail
 refine HT2.out.mono ?_;rintro e w4 ⟨rfl,hk,hp⟩;replace K:=A0 (K.out.trans hk);clear hk HT2;cases q3
 case true=>
  have P:Hid (Pst w4 B pb tv L ok d s.nx):=hp;clear hp;have H1:=A0 (T5b hL (L.length - s.nx.i) (λm' hm'=>hE m' (by simp only[M.St.nx]at hm';omega)) (λm' hm'=>hK m' (by simp only[M.St.nx]at hm';omega)) at0 w4 ok d s.nx (vQ _) (λg hg=>hok g (kQ K.out.size hg)) (kQ hB K.out.size) P.out);clear P;go_wp2_with fail
  refine H1.out.mono ?_;rintro e w9 hpost;have PX:=A0 (A0a K.out hpost (λo ho=>V.out o _ ho (λr=>by simp only[M.step,Q0.out,Q1.out,Q2.out,Q3.out,L5b,Bool.false_eq_true,if_false,if_true,AT.out];try rfl)));have hend:=J7 hpost;clear hpost H1 K V;rcases hend with ⟨x,rfl⟩|⟨er,p,rfl⟩
  · go_wp2_with fail
    go_ret;exact PX.out
  · exact⟨rfl,PX.out⟩
 have P:Hid (Pst w4 B pb tv L ok d s):=hp;clear hp;have HT:=F6 hL P.out [119,104,105,108,101];generalize hq:M.isM L s.i [[119,104,105,108,101]]=q4 at HT;have Q4:=A0 hq;have HT2:=A0 HT;clear hq HT P;go_wp2_with fail
 refine HT2.out.mono ?_;rintro e w5 ⟨rfl,hk,hp⟩;replace K:=A0 (K.out.trans hk);clear hk HT2;cases q4
 case true=>
  have P:Hid (Pst w5 B pb tv L ok d s.nx):=hp;clear hp;have H1:=A0 (M8c hL (L.length - s.nx.i) (λm' hm'=>hE m' (by simp only[M.St.nx]at hm';omega)) (λm' hm'=>hK m' (by simp only[M.St.nx]at hm';omega)) at0 w5 ok d s.nx (vQ _) (λg hg=>hok g (kQ K.out.size hg)) (kQ hB K.out.size) P.out);clear P;go_wp2_with fail
  refine H1.out.mono ?_;rintro e w9 hpost;have PX:=A0 (A0a K.out hpost (λo ho=>V.out o _ ho (λr=>by simp only[M.step,Q0.out,Q1.out,Q2.out,Q3.out,Q4.out,L5b,Bool.false_eq_true,if_false,if_true,AT.out];try rfl)));have hend:=J7 hpost;clear hpost H1 K V;rcases hend with ⟨x,rfl⟩|⟨er,p,rfl⟩
  · go_wp2_with fail
    go_ret;exact PX.out
  · exact⟨rfl,PX.out⟩
 have P:Hid (Pst w5 B pb tv L ok d s):=hp;clear hp;have H1:=A0 (L3b hL hX m hE w5 ok d s hm (λg hg=>hok g (kQ K.out.size hg)) (kQ hB K.out.size) P.out);clear P;go_wp2_with fail
 refine H1.out.mono ?_;rintro e w9 hpost;have PX:=A0 (Z9 K.out hpost (λo ho=>V.out o _ ho (λr=>by simp only[M.step,Q0.out,Q1.out,Q2.out,Q3.out,Q4.out,Bool.false_eq_true,if_false,if_true,AT.out];try rfl)));have hend:=J7 hpost;clear hpost H1 K V;rcases hend with ⟨x,rfl⟩|⟨er,p,rfl⟩
 · go_wp2_with fail
   go_ret;exact PX.out
 · exact⟨rfl,PX.out⟩
theorem W2a(hL:LOk L)(m:Nat)(hU:ConN B pb tv L 106 (λd s r=>r.any d s) m):ConN B pb tv L 72 (λd s r=>r.stmt d s) m:=by
 intro w ok d s hm hok hB h;have HI:=A0 (D0a hL (h.alloc (.cells (M3a [[108,101,116],[112,114,105,110,116],[114,101,116,117,114,110],[105,102],[119,104,105,108,101]]) 9)) w.heap.size 5 [[108,101,116],[112,114,105,110,116],[114,101,116,117,114,110],[105,102],[119,104,105,108,101]] (U9 _ _ _) (by decide));have HB:Hid (∀a,Chg No w a->Calls prog 104 #[pV pb] a λe w'=>e= .returned (.bool (M.H0a L s.i))/\Chg No a w'):=λa ha=>V8a hL (h.still ha);have HN:Hid (∀a,Chg No w a->∀b,Calls prog 105 #[pV pb,.bool b,.func (.func 106) #[pV pb] #[]] a (T7 a B pb tv L ok d s (λr=>M.inside L b d s (λd s=>r.any d s)))):=λa hc b=>D1a (w:=a) (ok:=ok) 106 (λ_ _=>by go_simp) hL m _ hU b hm (λg hg=>hok g (kQ hc.size hg)) (kQ hB hc.size) (h.still hc);have V:Hid (∀b o,b=M.H9d L s.i->M.Ev L (λr=>M.inside L b d s (λd s=>r.any d s)) o->M.Ev L (λr=>r.stmt d s) o):=λb o hb ho=>M.Ev.step (ho.eq (λr=>by rw[hb];rfl));have hbs:M.H9d L s.i=(M.isM L s.i [[108,101,116],[112,114,105,110,116],[114,101,116,117,114,110],[105,102],[119,104,105,108,101]]||M.H0a L s.i):=rfl;rw[hbs]at V;clear hbs h hU;generalize M.isM L s.i [[108,101,116],[112,114,105,110,116],[114,101,116,117,114,110],[105,102],[119,104,105,108,101]]=q at *;generalize M.H0a L s.i=q2 at *;go_enter func72,ntmps72;go_wp2_with fail
 refine HI.out.mono ?_;rintro e w1 ⟨rfl,hc⟩;have C1:Hid (Chg No w w1):=(Chg.alloc No _ _).trans hc (λ_ _ x=>x);clear hc HI;cases q
 · go_wp2_with fail
   refine(HB.out w1 C1.out).mono ?_;rintro e w2 ⟨rfl,hc⟩;have C2:Hid (Chg No w w2):=C1.out.trans hc (λ_ _ x=>x);clear hc C1 HB;go_wp2_with fail
   refine(HN.out w2 C2.out q2).mono ?_;rintro e w9 hpost;have PX:=A0 (Z9 (C8 C2.out) hpost (λo ho=>V.out q2 o (by simp) ho));have hend:=J7 hpost;clear hpost V C2 HN;rcases hend with ⟨x,rfl⟩|⟨er,p,rfl⟩
   · go_wp2_with fail
     go_ret;exact PX.out
   · exact⟨rfl,PX.out⟩
 · go_wp2_with fail
   refine(HN.out w1 C1.out true).mono ?_;rintro e w9 hpost;have PX:=A0 (Z9 (C8 C1.out) hpost (λo ho=>V.out true o (by simp) ho));have hend:=J7 hpost;clear hpost V C1 HN;rcases hend with ⟨x,rfl⟩|⟨er,p,rfl⟩
   · go_wp2_with fail
     go_ret;exact PX.out
   · exact⟨rfl,PX.out⟩
end
theorem Chg.bytes(S:Nat->Prop)(w:World)(e:TypeId)(t:ByteArray):Chg S w (Lib.bytesWorld w e t):=by
 exact⟨rfl,rfl,rfl,by rw[Lib.bytesWorld_size];omega,λk hk _=>Lib.bytesWorld_at_old w e t k hk⟩
section
variable{B pb:Nat}{tv:Value}{L:List M.Tk}
theorem I9b(hL:LOk L)(hN:M.NuL L)(at0:Int)(w:World)(ok:Nat->Prop)(d:Nat)(s:M.St)(h3:(M.tk L s.i).kind=3)(hok:∀g,w.heap.size<=g->ok g)(hB:B<=w.heap.size)(h:Pst w B pb tv L ok d s):
 Calls prog 225 #[pV pb,iV at0] w (T7 w B pb tv L ok d s (λ_=>M.addN s.nx ⟨1,0,0,0,[],[],M.E2a (M.tk L s.i).text,-1,at0⟩)):=by
 have hi:=h.at';have hs:=hL.short;have hfw:=h.few;have HT:=A0 (E3a hL h (by rw[h3];decide));have hnu:=hN s.i h3;have hf1:=@X7;have HO:=A0 (λa=>Tryz.strconv_Atoi ⟨(M.tk L s.i).text.toArray⟩ (M.E2a (M.tk L s.i).text) (by have:=hnu.2.1;simp[ByteArray.size];omega) (by simpa using M.T7b _ hnu) a);clear h hnu;generalize M.E2a (M.tk L s.i).text=vv at *;generalize M.tk L s.i=tt at *;clear h3;go_enter func225,ntmps225;go_wp2_with fail
 refine HT.out.mono ?_;rintro e w1 ⟨rfl,hk,hp⟩;have K1:=A0 hk;have P1:=A0 hp;clear hk hp HT;simp only[tkv];go_wp2_with fail
 refine(HO.out w1).mono ?_;rintro e w2 ⟨rfl,t,rfl⟩;have K2:=A0 (K1.out.trans (C8 (Chg.bytes _ w1 5 t)));have P2:=A0 (P1.out.still (Chg.bytes _ w1 5 t));clear K1 P1 HO;generalize Lib.bytesWorld w1 5 t=w2 at *;have hj:=P2.out.at';simp only[M.St.nx]at hj;have HA:=A0 (J6 hL P2.out (M.Nd.mk 1 0 0 0 [] [] vv (-1) at0) 0 none 0 0 ⟨_,rfl,kW _ _ _ _,by simp[Value.ownBlock]⟩ rfl (by simp only[M.St.nx];omega) (kQ hB K2.out.size) (λg hg=>hok g (kQ K2.out.size hg)));have GX:=A0 (show E7 s ⟨s.nx.i,s.nx.N++[M.Nd.mk 1 0 0 0 [] [] vv (-1) at0],s.nx.T⟩ by
  simp only[E7,M.St.nx,qQ,jQ,xQ]
  omega)
 have hxx:(0:Int)<=(s.nx.N.length:Int)/\(s.nx.N.length:Int)<((s.nx.N++[M.Nd.mk 1 0 0 0 [] [] vv (-1) at0]).length:Int):=by simp;omega
 clear P2;go_wp2_with fail
 refine HA.out.mono ?_;rintro e w9 ⟨rfl,k9,p9⟩;have K9:=A0 (K2.out.trans k9);have P9:=A0 p9;clear k9 p9 HA;go_wp2_with fail
 go_ret;exact F2 K9.out M.Ev.pure P9.out GX.out hxx
end
set_option linter.unusedSimpArgs false
def B3d(B pb:Nat)(tv:Value)(L:List M.Tk)(K:Nat)(φ:Int->Nat->M.St->M.Sp->Option (M.Out Int))(m:Nat):Prop:=
 ∀(at0:Int) (w:World) (ok:Nat->Prop) (d:Nat) (s:M.St),L.length - s.i<=m->(∀g,w.heap.size<=g->ok g)->B<=w.heap.size->Pst w B pb tv L ok d s->
  Calls prog K #[pV pb,iV at0] w (T7 w B pb tv L ok d s (φ at0 d s))
def fnS(L:List M.Tk)(at0:Int)(d:Nat)(s:M.St)(r:M.Sp):Option (M.Out Int):=M.A4 (M.need L s [40]) λs1 _=>M.A4 (r.list .par [41] d s1 [] []) λs2 l=>M.A4 (M.typeIf L r d s2) λs3 t=>M.A4 (r.block d s3) λs4 x=>M.addN s4 ⟨6,x,0,0,l,[],0,t,at0⟩
def K4c(at0:Int)(d:Nat)(s:M.St)(r:M.Sp):Option (M.Out Int):=M.A4 (r.list .obj [125] d s [] []) λs' l=>M.addN s' ⟨10,0,0,0,l,[],0,-1,at0⟩
section
variable{B pb:Nat}{tv:Value}{L:List M.Tk}
theorem O3b(hL:LOk L)(hN:M.NuL L)(m:Nat)(hE:∀m',m'<m->ConN B pb tv L 165 (λd s r=>r.expr d s) m')(hF:∀m',m'<m->B3d B pb tv L 226 (fnS L) m')(hO:∀m',m'<m->B3d B pb tv L 227 K4c m'):ConN B pb tv L 214 (λd s r=>r.simple d s) m:=by
 intro w ok d s hm hok hB h;have hi:=h.at';have hs:=hL.short;have hfw:=h.few;have HA:=A0 (N7a hL h);have FS:Hid (∀a,Chg No w a->Pst a B pb tv L ok d s):=λa ha=>h.still ha;have FT:Hid (∀a,Chg No w a->Calls prog 101 #[pV pb] a λe w'=>e= .returned (tkv (M.tk L s.i))/\Chg No a w'):=λa ha=>R4 hL (h.still ha);have TK:Hid (∀a,(M.tk L s.i).kind≠6->Pst a B pb tv L ok d s->Calls prog 177 #[pV pb] a λe w'=>e= .returned (tkv (M.tk L s.i))/\Kept B ok a w'/\Pst w' B pb tv L ok d s.nx):=λa hk ha=>E3a hL ha hk;have NB:Hid (∀at0 a,(M.tk L s.i).kind=3->(∀g,a.heap.size<=g->ok g)->B<=a.heap.size->Pst a B pb tv L ok d s->Calls prog 225 #[pV pb,iV at0] a (T7 a B pb tv L ok d s (λ_=>M.addN s.nx ⟨1,0,0,0,[],[],M.E2a (M.tk L s.i).text,-1,at0⟩))):=λat0 a h3 ho hb ha=>I9b hL hN at0 a ok d s h3 ho hb ha;have V:Hid (∀o φ,M.Ev L φ o->(∀r,(M.step L r).simple d s=φ r)->M.Ev L (λr=>r.simple d s) o):=λo φ ho he=>M.Ev.step (ho.eq (λr=>he r));have hf0:=T9;have hf1:=X7;clear h;generalize hat:((M.tk L s.i).at':Int)=at0 at *;have AT:=A0 hat;clear hat;generalize hkd:(M.tk L s.i).kind=kd at *;have KD:=A0 hkd;clear hkd;generalize htx:(M.tk L s.i).text=tx at *;have TX:=A0 htx;clear htx;have tke:tkv (M.tk L s.i)= .agg #[iV kd,.string ⟨tx.toArray⟩,iV at0]:=by rw[tkv,KD.out,TX.out,AT.out]
 rw[tke]at FT TK;clear tke;go_enter func214,ntmps214;go_wp2_with fail
 refine HA.out.mono ?_;rintro e wa ⟨rfl,hc⟩;have C1:=A0 hc;clear hc HA;go_wp2_with fail
 refine(FT.out wa C1.out).mono ?_;rintro e w0 ⟨rfl,hc⟩;have C2:Hid (Chg No w w0):=C1.out.trans hc (λ_ _ x=>x);have K:=A0 (C8 (B:=B) (ok:=ok) C2.out);have P:=A0 (FS.out w0 C2.out);clear hc FT FS C1 C2;by_cases h3:kd=3
 case pos=>
  subst h3;have H1:=A0 (NB.out at0 w0 rfl (λg hg=>hok g (kQ K.out.size hg)) (kQ hB K.out.size) P.out);clear P NB;go_wp2_with fail
  refine H1.out.mono ?_;rintro e w9 hpost;have PX:=A0 (Z9 K.out hpost (λo ho=>V.out o _ ho (λr=>by simp only[M.step,KD.out,TX.out,AT.out,if_pos,Bool.false_eq_true,if_false,if_true];try rfl)));have hend:=J7 hpost;clear hpost H1 K V;rcases hend with ⟨x,rfl⟩|⟨er,p,rfl⟩
  · go_wp2_with fail
    go_ret;exact PX.out
  · exact⟨rfl,PX.out⟩
 clear NB;have b3:(kd==3)=false:=by simp[h3]
 by_cases h4:kd=4
 case pos=>
  subst h4;have H1:=A0 (TK.out w0 (by decide) P.out);clear P TK;go_wp2_with fail
  refine H1.out.mono ?_;rintro e w1 ⟨rfl,hk,hp⟩;replace K:=A0 (K.out.trans hk);have P:=A0 hp;clear hk hp H1;have hj:=P.out.at';have HX:=A0 (J6 hL P.out (M.Nd.mk 2 0 0 0 [] tx 0 (-1) at0) 0 none 0 0 ⟨_,rfl,kW _ _ _ _,by simp[Value.ownBlock]⟩ rfl (by simp only[M.St.nx]at *;omega) (kQ hB K.out.size) (λg hg=>hok g (kQ K.out.size hg)));have EV:=A0 (V.out _ (λr=>M.addN s.nx (M.Nd.mk 2 0 0 0 [] tx 0 (-1) at0)) M.Ev.pure (λr=>by simp only[M.step,KD.out,TX.out,AT.out,(by decide:¬(4:Int)=3),Bool.false_eq_true,if_false,if_true];try rfl));have GX:=A0 (show E7 s ⟨(s.nx).i,(s.nx).N++[(M.Nd.mk 2 0 0 0 [] tx 0 (-1) at0)],(s.nx).T⟩ by
   simp only[E7,M.St.nx,qQ,jQ,xQ]at *
   omega)
  have hxx:(0:Int)<=((s.nx).N.length:Int)/\((s.nx).N.length:Int)<(((s.nx).N++[(M.Nd.mk 2 0 0 0 [] tx 0 (-1) at0)]).length:Int):=by simp;omega
  clear P V;go_wp2_with fail
  refine HX.out.mono ?_;rintro e w9 ⟨rfl,k9,p9⟩;have K9:=A0 (K.out.trans k9);have P9:=A0 p9;clear k9 p9 HX;go_wp2_with fail
  go_ret;exact F2 K9.out EV.out P9.out GX.out hxx
 have b4:(kd==4)=false:=by simp[h4]
 by_cases h1:kd=1
 case pos=>
  subst h1;have H1:=A0 (TK.out w0 (by decide) P.out);clear P TK;go_wp2_with fail
  refine H1.out.mono ?_;rintro e w1 ⟨rfl,hk,hp⟩;replace K:=A0 (K.out.trans hk);have P:=A0 hp;clear hk hp H1;have hj:=P.out.at';have HX:=A0 (J6 hL P.out (M.Nd.mk 5 0 0 0 [] tx 0 (-1) at0) 0 none 0 0 ⟨_,rfl,kW _ _ _ _,by simp[Value.ownBlock]⟩ rfl (by simp only[M.St.nx]at *;omega) (kQ hB K.out.size) (λg hg=>hok g (kQ K.out.size hg)));have EV:=A0 (V.out _ (λr=>M.addN s.nx (M.Nd.mk 5 0 0 0 [] tx 0 (-1) at0)) M.Ev.pure (λr=>by simp only[M.step,KD.out,TX.out,AT.out,(by decide:¬(1:Int)=3),(by decide:¬(1:Int)=4),Bool.false_eq_true,if_false,if_true];try rfl));have GX:=A0 (show E7 s ⟨(s.nx).i,(s.nx).N++[(M.Nd.mk 5 0 0 0 [] tx 0 (-1) at0)],(s.nx).T⟩ by
   simp only[E7,M.St.nx,qQ,jQ,xQ]at *
   omega)
  have hxx:(0:Int)<=((s.nx).N.length:Int)/\((s.nx).N.length:Int)<(((s.nx).N++[(M.Nd.mk 5 0 0 0 [] tx 0 (-1) at0)]).length:Int):=by simp;omega
  clear P V;go_wp2_with fail
  refine HX.out.mono ?_;rintro e w9 ⟨rfl,k9,p9⟩;have K9:=A0 (K.out.trans k9);have P9:=A0 p9;clear k9 p9 HX;go_wp2_with fail
  go_ret;exact F2 K9.out EV.out P9.out GX.out hxx
 have b1:(kd==1)=false:=by simp[h1]
 clear TK;have HT:=F6 hL P.out [116,114,117,101];generalize hq:M.isM L s.i [[116,114,117,101]]=q0 at HT;have Q0:=A0 hq;have HT2:=A0 HT;clear hq HT P;go_wp2_with fail
 refine HT2.out.mono ?_;rintro e w1 ⟨rfl,hk,hp⟩;replace K:=A0 (K.out.trans hk);clear hk HT2;cases q0
 case true=>
  have P:Hid (Pst w1 B pb tv L ok d s.nx):=hp;have hj:=hp.at';clear hp;have HX:=A0 (J6 hL P.out (M.Nd.mk 3 0 0 0 [] [] 1 (-1) at0) 0 none 0 0 ⟨_,rfl,kW _ _ _ _,by simp[Value.ownBlock]⟩ rfl (by simp only[M.St.nx]at *;omega) (kQ hB K.out.size) (λg hg=>hok g (kQ K.out.size hg)));have EV:=A0 (V.out _ (λr=>M.addN s.nx (M.Nd.mk 3 0 0 0 [] [] 1 (-1) at0)) M.Ev.pure (λr=>by simp only[M.step,KD.out,TX.out,AT.out,h3,h4,h1,Q0.out,Bool.false_eq_true,if_false,if_true];try rfl));have GX:=A0 (show E7 s ⟨(s.nx).i,(s.nx).N++[(M.Nd.mk 3 0 0 0 [] [] 1 (-1) at0)],(s.nx).T⟩ by
   simp only[E7,M.St.nx,qQ,jQ,xQ]at *
   omega)
  have hxx:(0:Int)<=((s.nx).N.length:Int)/\((s.nx).N.length:Int)<(((s.nx).N++[(M.Nd.mk 3 0 0 0 [] [] 1 (-1) at0)]).length:Int):=by simp;omega
  clear P V;go_wp2_with fail
  refine HX.out.mono ?_;rintro e w9 ⟨rfl,k9,p9⟩;have K9:=A0 (K.out.trans k9);have P9:=A0 p9;clear k9 p9 HX;go_wp2_with fail
  go_ret;exact F2 K9.out EV.out P9.out GX.out hxx
 have P:Hid (Pst w1 B pb tv L ok d s):=hp;clear hp;have HT:=F6 hL P.out [102,97,108,115,101];generalize hq:M.isM L s.i [[102,97,108,115,101]]=q1 at HT;have Q1:=A0 hq;have HT2:=A0 HT;clear hq HT P;go_wp2_with fail
 refine HT2.out.mono ?_;rintro e w2 ⟨rfl,hk,hp⟩;replace K:=A0 (K.out.trans hk);clear hk HT2;cases q1
 case true=>
  have P:Hid (Pst w2 B pb tv L ok d s.nx):=hp;have hj:=hp.at';clear hp;have HX:=A0 (J6 hL P.out (M.Nd.mk 3 0 0 0 [] [] 0 (-1) at0) 0 none 0 0 ⟨_,rfl,kW _ _ _ _,by simp[Value.ownBlock]⟩ rfl (by simp only[M.St.nx]at *;omega) (kQ hB K.out.size) (λg hg=>hok g (kQ K.out.size hg)));have EV:=A0 (V.out _ (λr=>M.addN s.nx (M.Nd.mk 3 0 0 0 [] [] 0 (-1) at0)) M.Ev.pure (λr=>by simp only[M.step,KD.out,TX.out,AT.out,h3,h4,h1,Q0.out,Q1.out,Bool.false_eq_true,if_false,if_true];try rfl));have GX:=A0 (show E7 s ⟨(s.nx).i,(s.nx).N++[(M.Nd.mk 3 0 0 0 [] [] 0 (-1) at0)],(s.nx).T⟩ by
   simp only[E7,M.St.nx,qQ,jQ,xQ]at *
   omega)
  have hxx:(0:Int)<=((s.nx).N.length:Int)/\((s.nx).N.length:Int)<(((s.nx).N++[(M.Nd.mk 3 0 0 0 [] [] 0 (-1) at0)]).length:Int):=by simp;omega
  clear P V;go_wp2_with fail
  refine HX.out.mono ?_;rintro e w9 ⟨rfl,k9,p9⟩;have K9:=A0 (K.out.trans k9);have P9:=A0 p9;clear k9 p9 HX;go_wp2_with fail
  go_ret;exact F2 K9.out EV.out P9.out GX.out hxx
 have P:Hid (Pst w2 B pb tv L ok d s):=hp;clear hp;have HT:=F6 hL P.out [110,117,108,108];generalize hq:M.isM L s.i [[110,117,108,108]]=q2 at HT;have Q2:=A0 hq;have HT2:=A0 HT;clear hq HT P;go_wp2_with fail
 refine HT2.out.mono ?_;rintro e w3 ⟨rfl,hk,hp⟩;replace K:=A0 (K.out.trans hk);clear hk HT2;cases q2
 case true=>
  have P:Hid (Pst w3 B pb tv L ok d s.nx):=hp;have hj:=hp.at';clear hp;have HX:=A0 (J6 hL P.out (M.Nd.mk 4 0 0 0 [] [] 0 (-1) at0) 0 none 0 0 ⟨_,rfl,kW _ _ _ _,by simp[Value.ownBlock]⟩ rfl (by simp only[M.St.nx]at *;omega) (kQ hB K.out.size) (λg hg=>hok g (kQ K.out.size hg)));have EV:=A0 (V.out _ (λr=>M.addN s.nx (M.Nd.mk 4 0 0 0 [] [] 0 (-1) at0)) M.Ev.pure (λr=>by simp only[M.step,KD.out,TX.out,AT.out,h3,h4,h1,Q0.out,Q1.out,Q2.out,Bool.false_eq_true,if_false,if_true];try rfl));have GX:=A0 (show E7 s ⟨(s.nx).i,(s.nx).N++[(M.Nd.mk 4 0 0 0 [] [] 0 (-1) at0)],(s.nx).T⟩ by
   simp only[E7,M.St.nx,qQ,jQ,xQ]at *
   omega)
  have hxx:(0:Int)<=((s.nx).N.length:Int)/\((s.nx).N.length:Int)<(((s.nx).N++[(M.Nd.mk 4 0 0 0 [] [] 0 (-1) at0)]).length:Int):=by simp;omega
  clear P V;go_wp2_with fail
  refine HX.out.mono ?_;rintro e w9 ⟨rfl,k9,p9⟩;have K9:=A0 (K.out.trans k9);have P9:=A0 p9;clear k9 p9 HX;go_wp2_with fail
  go_ret;exact F2 K9.out EV.out P9.out GX.out hxx
 have P:Hid (Pst w3 B pb tv L ok d s):=hp;clear hp;have HT:=F6 hL P.out [102,110];generalize hq:M.isM L s.i [[102,110]]=q3 at HT;have Q3:=A0 hq;have HT2:=A0 HT;clear hq HT P;go_wp2_with fail
 refine HT2.out.mono ?_;rintro e w4 ⟨rfl,hk,hp⟩;replace K:=A0 (K.out.trans hk);clear hk HT2;cases q3
 case true=>
  have P:Hid (Pst w4 B pb tv L ok d s.nx):=hp;have hj:=hp.at';clear hp;have H1:=A0 (hF (L.length - s.nx.i) (by simp only[M.St.nx];omega) at0 w4 ok d s.nx (vQ _) (λg hg=>hok g (kQ K.out.size hg)) (kQ hB K.out.size) P.out);clear P;go_wp2_with fail
  refine H1.out.mono ?_;rintro e w9 hpost;have PX:=A0 (A0a K.out hpost (λo ho=>V.out o _ ho (λr=>by simp only[M.step,KD.out,TX.out,AT.out,h3,h4,h1,Q0.out,Q1.out,Q2.out,Q3.out,Bool.false_eq_true,if_false,if_true];try rfl)));have hend:=J7 hpost;clear hpost H1 K V;rcases hend with ⟨x,rfl⟩|⟨er,p,rfl⟩
  · go_wp2_with fail
    go_ret;exact PX.out
  · exact⟨rfl,PX.out⟩
 have P:Hid (Pst w4 B pb tv L ok d s):=hp;clear hp;have HT:=F6 hL P.out [91];generalize hq:M.isM L s.i [[91]]=q4 at HT;have Q4:=A0 hq;have HT2:=A0 HT;clear hq HT P;go_wp2_with fail
 refine HT2.out.mono ?_;rintro e w5 ⟨rfl,hk,hp⟩;replace K:=A0 (K.out.trans hk);clear hk HT2;cases q4
 case true=>
  have P:Hid (Pst w5 B pb tv L ok d s.nx):=hp;have hj:=hp.at';clear hp;have H1:=A0 (I5a (w:=w5) (ok:=ok) 165 (λ_ _=>by go_simp) (pt:= .expr) (φ:=λd s r=>r.expr d s) (λ_ _ _=>rfl) hL (L.length - s.nx.i) (λm' hm'=>(hE m' (by simp only[M.St.nx]at hm';omega)).con) [93] (vQ _) (λg hg=>hok g (kQ K.out.size hg)) (kQ hB K.out.size) P.out);clear P;go_wp2_with fail
  refine H1.out.mono ?_;rintro e w7 ⟨hk,o,hev,hpost⟩;have K':=A0 (K.out.trans hk);have E1:=A0 hev;have hz:=K.out.size;clear hk hev H1 K;have K:=A0 K'.out;clear K';have VL:=A0 (λo (ho:M.Ev L (λr=>M.A4 (r.list .expr [93] d s.nx [] []) λs' l=>M.addN s' (M.Nd.mk 11 0 0 0 l [] 0 (-1) at0)) o)=>V.out o _ ho (λr=>by simp only[M.step,KD.out,TX.out,AT.out,h3,h4,h1,Q0.out,Q1.out,Q2.out,Q3.out,Q4.out,Bool.false_eq_true,if_false,if_true];try rfl));cases o with
  |fail er p=>
   obtain⟨rfl,he⟩:=hpost;exact⟨rfl,C9 K.out (VL.out _ (M.Ev.bad E1.out)) he⟩
  |ok s1 l=>
   obtain⟨la,lc,rfl,ho,hl,hp,hg⟩:=hpost;have hg1:_/\_/\_/\_:=hg;simp only[M.St.nx]at hg1;have P:=A0 hp;have O1:=A0 ho;have hi1:=hp.at';clear hp ho hg;have HX:=A0 (J6 hL P.out (M.Nd.mk 11 0 0 0 l [] 0 (-1) at0) 0 la l.length lc ⟨_,rfl,C7 O1.out (wQ _),λg hg=>hok g (by have:=(A9 O1.out g hg).1;omega)⟩ rfl (by simp only[M.St.nx]at *;omega) (kQ hB K.out.size) (λg hg=>hok g (kQ K.out.size hg)));have EV:=A0 (VL.out _ (M.Ev.bind (k:=λr s' l=>M.addN s' (M.Nd.mk 11 0 0 0 l [] 0 (-1) at0)) E1.out M.Ev.pure));have GX:=A0 (show E7 s ⟨(s1).i,(s1).N++[(M.Nd.mk 11 0 0 0 l [] 0 (-1) at0)],(s1).T⟩ by
    simp only[E7,M.St.nx,qQ,jQ,xQ]at *
    omega)
   have hxx:(0:Int)<=((s1).N.length:Int)/\((s1).N.length:Int)<(((s1).N++[(M.Nd.mk 11 0 0 0 l [] 0 (-1) at0)]).length:Int):=by simp;omega
   clear P V;go_wp2_with fail
   refine HX.out.mono ?_;rintro e w9 ⟨rfl,k9,p9⟩;have K9:=A0 (K.out.trans k9);have P9:=A0 p9;clear k9 p9 HX;go_wp2_with fail
   go_ret;exact F2 K9.out EV.out P9.out GX.out hxx
 have P:Hid (Pst w5 B pb tv L ok d s):=hp;clear hp;have HT:=F6 hL P.out [123];generalize hq:M.isM L s.i [[123]]=q5 at HT;have Q5:=A0 hq;have HT2:=A0 HT;clear hq HT P;go_wp2_with fail
 refine HT2.out.mono ?_;rintro e w6 ⟨rfl,hk,hp⟩;replace K:=A0 (K.out.trans hk);clear hk HT2;cases q5
 case true=>
  have P:Hid (Pst w6 B pb tv L ok d s.nx):=hp;have hj:=hp.at';clear hp;have H1:=A0 (hO (L.length - s.nx.i) (by simp only[M.St.nx];omega) at0 w6 ok d s.nx (vQ _) (λg hg=>hok g (kQ K.out.size hg)) (kQ hB K.out.size) P.out);clear P;go_wp2_with fail
  refine H1.out.mono ?_;rintro e w9 hpost;have PX:=A0 (A0a K.out hpost (λo ho=>V.out o _ ho (λr=>by simp only[M.step,KD.out,TX.out,AT.out,h3,h4,h1,Q0.out,Q1.out,Q2.out,Q3.out,Q4.out,Q5.out,Bool.false_eq_true,if_false,if_true];try rfl)));have hend:=J7 hpost;clear hpost H1 K V;rcases hend with ⟨x,rfl⟩|⟨er,p,rfl⟩
  · go_wp2_with fail
    go_ret;exact PX.out
  · exact⟨rfl,PX.out⟩
 have P:Hid (Pst w6 B pb tv L ok d s):=hp;clear hp;have H1:=A0 (F0b hL m hE w6 ok d s hm (λg hg=>hok g (kQ K.out.size hg)) (kQ hB K.out.size) P.out);clear P;go_wp2_with fail
 refine H1.out.mono ?_;rintro e w9 hpost;have PX:=A0 (Z9 K.out hpost (λo ho=>V.out o _ ho (λr=>by simp only[M.step,KD.out,TX.out,AT.out,h3,h4,h1,Q0.out,Q1.out,Q2.out,Q3.out,Q4.out,Q5.out,Bool.false_eq_true,if_false,if_true];try rfl)));have hend:=J7 hpost;clear hpost H1 K V;rcases hend with ⟨x,rfl⟩|⟨er,p,rfl⟩
 · go_wp2_with fail
   go_ret;exact PX.out
 · exact⟨rfl,PX.out⟩
theorem KeptS.andThen{ok:Nat->Prop}{lo:Nat}{a b c:World}(h:KeptS B ok lo a b)(k:Kept B ok b c):KeptS B ok lo a c:=by
 refine⟨k.os.trans h.os,k.tape.trans h.tape,k.output.trans h.output,kQ h.size k.size,λi hi hn=> ?_⟩;have h1:=h.block i hi hn;refine(k.block i (yQ hi h.size) (λx=>hn ?_)).trans h1;obtain⟨x1,⟨cs,e,fz,hh,r⟩,x3⟩:=x;exact .inl ⟨x1,⟨cs,e,fz,by rw[<-h1];exact hh,r⟩,x3⟩
theorem F1a{ok:Nat->Prop}{lo:Nat}{w w':World}{q:Nat}{cs:Array Value}{e:TypeId}(hk:KeptS B ok lo w w')(h:w.heap[q]? =some (.cells cs e (0,0)))(he:e≠92/\e≠70/\e≠66/\e≠158/\e≠9):w'.heap[q]? =some (.cells cs e (0,0)):=by
 refine(hk.block q (ltG h) (λhx=> ?_)).trans h;have key:∀cs' e' fz,w.heap[q]? =some (.cells cs' e' fz)->e'=e:=by
  intro cs' e' fz hh';rw[h]at hh';simp only[zQ,xW]at hh';exact hh'.2.1.symm
 rcases hx with ⟨_,⟨cs',e',fz,hh',r⟩,_⟩|⟨_,cs',e',fz,hh',r⟩
 · have:=key _ _ _ hh';subst this;rcases r with r|r|r
   · exact he.1 r
   · exact he.2.1 r
   · exact he.2.2.1 r
 · have:=key _ _ _ hh';subst this;rcases r with r|r
   · exact he.2.2.2.1 r
   · exact he.2.2.2.2 r
def L7a(w:World)(B pb:Nat)(tv:Value)(L:List M.Tk)(ok:Nat->Prop)(d:Nat)(s:M.St)(lo nb:Nat)(φ:M.Sp->Option (M.Out (Int×List (List UInt8))))(e:Ending)(w':World):Prop:=
 KeptS B ok lo w w'/\∃o,M.Ev L φ o/\match o with
  | .ok s' x=>e= .returned (iV x.1)/\Nms w' lo nb x.2/\Pst w' B pb tv L ok d s'/\E7 s s'
  | .fail er p=>e=gu er p/\er≠0
theorem I7b(hL:LOk L)(m:Nat)(hE:∀m',m'<=m->ConN B pb tv L 165 (λd s r=>r.expr d s) m')(w:World)(ok:Nat->Prop)(d:Nat)(s:M.St)(lo nb bx:Nat)(names:List (List UInt8))(hbx:w.heap[bx]? =some (.cells #[pV pb] 90 (0,0)))(hn:Nms w lo nb names)(hl:names.length<=1001)(hlo:lo<=w.heap.size)(hm:L.length - s.i<=m)(hok:∀g,w.heap.size<=g->ok g)(hB:B<=w.heap.size)(h:Pst w B pb tv L ok d s):
 Calls prog 234 #[pV bx,pV nb] w (L7a w B pb tv L ok d s lo nb (λr=>M.part L r d s names .obj)):=by
 have hi:=h.at';have hs:=hL.short;have hfw:=h.few;have hlx:=(ltG hbx);have BX:Hid (∀a,Chg No w a->a.heap[bx]? =some (.cells #[pV pb] 90 (0,0))):=λa ha=>(ha.block bx hlx (λx=>x)).trans hbx;have cb0:w.cell? (aD bx 0)=some (pV pb):=cr hbx rfl;have HA:Hid (∀a,Chg No w a->Calls prog 102 #[pV pb] a λe w'=>e= .returned (iV ((M.tk L s.i).at':Int))/\Hid (Chg No w w')/\w'.cell? (aD bx 0)=some (pV pb)):=λa ha=>(N7a hL (h.still ha)).mono (by
  rintro e w' ⟨he,hc⟩;have hc2:=ha.trans hc (λ_ _ x=>x);exact⟨he,hc2,cr (BX.out w' hc2) rfl⟩)
 have V:Hid (∀o,M.Ev L (λr=>M.A4 (M.newName L s names) λs1 nm=>M.A4 (M.need L s1 [58]) λs2 _=>M.A4 (r.expr d s2) λs3 x=>M.A4 (M.addN s3 (M.Nd.mk 15 x 0 0 [] nm 0 (-1) ((M.tk L s.i).at':Int))) λs4 y=>some (.ok s4 (y,names++[nm]))) o->M.Ev L (λr=>M.part L r d s names .obj) o):=λo ho=>ho;have HN:Hid (∀a,Chg No w a->Calls prog 210 #[pV pb,pV nb] a λe w'=>
  (∃er p,e=gu er p/\Hid (L7a w B pb tv L ok d s lo nb (λr=>M.part L r d s names .obj) (gu er p) w'))\/
  (∃s1 nm,e= .returned (.string ⟨nm.toArray⟩)/\Hid (M.newName L s names=some (.ok s1 nm))/\KeptS B ok lo a w'/\Nms w' lo nb (names++[nm])/\Pst w' B pb tv L ok d s1)):=by
  intro a ha;refine(E9a hL (h.still ha) lo nb names (hn.chg ha (λ_ _ _ _ x=>x.elim)) hl (kQ hlo ha.size)).mono ?_;rintro e w' ⟨hk,hr⟩;rcases hnn:M.newName L s names with _|⟨s1,nm⟩|⟨er,p⟩
  · rw[hnn]at hr;exact hr.elim
  · rw[hnn]at hr;exact .inr ⟨s1,nm,hr.1,A0 rfl,hk,hr.2.1,hr.2.2⟩
  · rw[hnn]at hr;have her:er≠0:=by
     unfold M.newName M.flt at hnn;split at hnn
     · split at hnn
       · simp at hnn;omega
       · simp at hnn
     · simp at hnn;omega
    exact .inl ⟨er,p,hr,KeptS.after (C8 ha) hk,_,V.out _ (M.Ev.bad (M.Ev.pure.eq (λr=>hnn))),rfl,her⟩
 clear h hn hbx;generalize ((M.tk L s.i).at':Int)=at0 at *;go_enter func234,ntmps234;go_wp2_with fail
 go_region_with (first|(go_at_call 102;refine(HA.out _ (Chg.drewN _ _ 1)).mono ?_;rintro e w1 ⟨rfl,hc,cb1⟩)|(go_at_call 210;refine(HN.out _ (Hid.out (by assumption))).mono ?_;rintro e w2 (⟨er,p,rfl,HF⟩|⟨s1,nm,rfl,hnn,hk2,hn2,hp2⟩);exact⟨rfl,HF.out⟩))
 all_goals
  have K2:=A0 (KeptS.after (C8 (Hid.out hc)) hk2);have hb2:=F1a hk2 (BX.out w1 (Hid.out hc)) (by decide);have cb2:w2.cell? (aD bx 0)=some (pV pb):=cr hb2 rfl;have HD:=A0 (G9 hL hp2 [58]);have N2:=A0 hn2;have V2:=A0 (λo (ho:M.Ev L (λr=>M.A4 (M.need L s1 [58]) λs2 (_:Unit)=>M.A4 (r.expr d s2) λs3 x=>M.A4 (M.addN s3 (M.Nd.mk 15 x 0 0 [] nm 0 (-1) at0)) λs4 y=>some (.ok s4 (y,names++[nm]))) o)=>V.out o (M.Ev.bind (k:=λr s1 nm=>M.A4 (M.need L s1 [58]) λs2 _=>M.A4 (r.expr d s2) λs3 x=>M.A4 (M.addN s3 (M.Nd.mk 15 x 0 0 [] nm 0 (-1) at0)) λs4 y=>some (.ok s4 (y,names++[nm]))) (M.Ev.pure.eq (λr=>Hid.out hnn)) ho));have hs1:s1=s.nx:=newName_ok (Hid.out hnn);have B2:=A0 hb2;clear hk2 hp2 hn2 hc cb0 cb1 HA HN V BX hb2;go_wp2_with fail
  refine HD.out.mono ?_;rintro e w3 ⟨hk3,hr⟩;have K3:=A0 (K2.out.andThen hk3);have N3:=A0 (N2.out.kept hk3);have B3:=A0 (V8 hk3 B2.out (by decide));clear hk3 K2 N2 B2 HD cb2;rcases hr with ⟨hb,rfl,hp⟩|⟨hb,rfl⟩
  case inr=>exact⟨rfl,K3.out,_,V2.out _ (M.Ev.bad (O9 hb)),rfl,by decide⟩
  have V3:=A0 (λo (ho:M.Ev L (λr=>M.A4 (r.expr d s1.nx) λs3 x=>M.A4 (M.addN s3 (M.Nd.mk 15 x 0 0 [] nm 0 (-1) at0)) λs4 y=>some (.ok s4 (y,names++[nm]))) o)=>V2.out o (M.Ev.bind (k:=λr s2 (_:Unit)=>M.A4 (r.expr d s2) λs3 x=>M.A4 (M.addN s3 (M.Nd.mk 15 x 0 0 [] nm 0 (-1) at0)) λs4 y=>some (.ok s4 (y,names++[nm]))) (J8 hb) ho));have hi3:=hp.at';have cb3:w3.cell? (aD bx 0)=some (pV pb):=cr B3.out rfl;have HX:Hid (∀a,Chg No w3 a->Calls prog 165 #[pV pb] a λe w4=>
   (∃er p,e=gu er p/\Hid (L7a w B pb tv L ok d s lo nb (λr=>M.part L r d s names .obj) (gu er p) w4))\/
   (∃s4 x,e= .returned (iV x)/\w4.cell? (aD bx 0)=some (pV pb)/\Hid (KeptS B ok lo w w4/\Nms w4 lo nb (names++[nm])/\Pst w4 B pb tv L ok d s4/\E7 s1.nx s4/\M.Ev L (λr=>M.part L r d s names .obj) (.ok ⟨s4.i,s4.N++[(M.Nd.mk 15 x 0 0 [] nm 0 (-1) at0)],s4.T⟩ ((s4.N.length:Int),names++[nm]))))):=by
   intro a ha;refine(hE (L.length - s1.nx.i) (by rw[hs1];simp only[M.St.nx];omega) a ok d s1.nx (vQ _) (λg hg=>hok g (kQ K3.out.size (kQ ha.size hg))) (kQ hB (kQ K3.out.size ha.size)) (hp.still ha)).mono ?_;rintro e w4 ⟨k4,o,hev,hpost⟩;have k34:Kept B ok w3 w4:=(C8 ha).trans k4;cases o with
   |fail er p=>
    obtain⟨rfl,he⟩:=hpost;exact .inl ⟨er,p,rfl,K3.out.andThen k34,_,V3.out _ (M.Ev.bad hev),rfl,he⟩
   |ok s4 x=>
    obtain⟨rfl,hp4,hg4,hx4⟩:=hpost;refine .inr ⟨s4,x,rfl,by rw[cell_of_row w4 bx 0 _ _ _ (V8 k34 B3.out (by decide))];rfl,K3.out.andThen k34,N3.out.kept k34,hp4,hg4,V3.out _ (M.Ev.bind (k:=λr s3 x=>M.A4 (M.addN s3 (M.Nd.mk 15 x 0 0 [] nm 0 (-1) at0)) λs4 y=>some (.ok s4 (y,names++[nm]))) hev (M.Ev.pure.eq (λr=>rfl)))⟩
  have HY:Hid (∀w4 s4 x,KeptS B ok lo w w4/\Nms w4 lo nb (names++[nm])/\Pst w4 B pb tv L ok d s4/\E7 s1.nx s4/\M.Ev L (λr=>M.part L r d s names .obj) (.ok ⟨s4.i,s4.N++[(M.Nd.mk 15 x 0 0 [] nm 0 (-1) at0)],s4.T⟩ ((s4.N.length:Int),names++[nm]))->Calls prog 73 #[pV pb,.agg #[iV 15,iV x,iV 0,iV 0,sN,.string ⟨nm.toArray⟩,iV 0,iV 0,iV at0]] w4 λe w5=>
   e= .returned (iV (s4.N.length:Int))/\Hid (L7a w B pb tv L ok d s lo nb (λr=>M.part L r d s names .obj) (.returned (iV (s4.N.length:Int))) w5)):=by
   rintro w4 s4 x ⟨k4,n4,p4,g4,e4⟩;have g5:_/\_/\_/\_:=g4;rw[hs1]at g5;simp only[M.St.nx]at g5;refine(J6 hL p4 (M.Nd.mk 15 x 0 0 [] nm 0 (-1) at0) 0 none 0 0 ⟨_,rfl,kW _ _ _ _,by simp[Value.ownBlock]⟩ rfl (by omega) (kQ hB k4.size) (λg hg=>hok g (kQ k4.size hg))).mono ?_;rintro e w5 ⟨rfl,k5,p5⟩;refine⟨rfl,k4.andThen k5,_,e4,rfl,n4.kept k5,p5, ?_⟩;simp only[E7,qQ,jQ,xQ];omega
  clear V2 V3 hb hp K3 N3 B3;go_wp2_with fail
  go_region_with (first|(go_at_call 165;refine(HX.out _ (Chg.drewN _ _ 1)).mono ?_;rintro e w4 (⟨er,p,rfl,H4⟩|⟨s4,x,rfl,cb4,H4⟩);exact⟨rfl,H4.out⟩)|(go_at_call 73;refine(HY.out _ _ _ (Hid.out H4)).mono ?_;rintro e w5 ⟨rfl,H5⟩))
  all_goals go_wp2_with fail
  all_goals go_ret
  all_goals exact H5.out
theorem X0a(hL:LOk L)(w:World)(ok:Nat->Prop)(d:Nat)(s:M.St)(lo nb bx:Nat)(names:List (List UInt8))(hbx:w.heap[bx]? =some (.cells #[pV pb] 90 (0,0)))(hn:Nms w lo nb names)(hl:names.length<=1001)(hlo:lo<=w.heap.size)(hok:∀g,w.heap.size<=g->ok g)(hB:B<=w.heap.size)(h:Pst w B pb tv L ok d s):
 Calls prog 233 #[pV bx,pV nb] w (L7a w B pb tv L ok d s lo nb (λr=>M.part L r d s names .par)):=by
 have hi:=h.at';have hs:=hL.short;have hfw:=h.few;have hlx:=(ltG hbx);have BX:Hid (∀a,Chg No w a->a.heap[bx]? =some (.cells #[pV pb] 90 (0,0))):=λa ha=>(ha.block bx hlx (λx=>x)).trans hbx;have cb0:w.cell? (aD bx 0)=some (pV pb):=cr hbx rfl;have HA:Hid (∀a,Chg No w a->Calls prog 102 #[pV pb] a λe w'=>e= .returned (iV ((M.tk L s.i).at':Int))/\Hid (Chg No w w')/\w'.cell? (aD bx 0)=some (pV pb)):=λa ha=>(N7a hL (h.still ha)).mono (by
  rintro e w' ⟨he,hc⟩;have hc2:=ha.trans hc (λ_ _ x=>x);exact⟨he,hc2,cr (BX.out w' hc2) rfl⟩)
 have V:Hid (∀o,M.Ev L (λr=>M.A4 (M.newName L s names) λs1 nm=>M.A4 (M.typeIf L r d s1) λs3 x=>M.A4 (M.addN s3 (M.Nd.mk 16 0 0 0 [] nm 0 x ((M.tk L s.i).at':Int))) λs4 y=>some (.ok s4 (y,names++[nm]))) o->M.Ev L (λr=>M.part L r d s names .par) o):=λo ho=>ho;have HN:Hid (∀a,Chg No w a->Calls prog 210 #[pV pb,pV nb] a λe w'=>
  (∃er p,e=gu er p/\Hid (L7a w B pb tv L ok d s lo nb (λr=>M.part L r d s names .par) (gu er p) w'))\/
  (∃s1 nm,e= .returned (.string ⟨nm.toArray⟩)/\Hid (M.newName L s names=some (.ok s1 nm))/\KeptS B ok lo a w'/\Nms w' lo nb (names++[nm])/\Pst w' B pb tv L ok d s1)):=by
  intro a ha;refine(E9a hL (h.still ha) lo nb names (hn.chg ha (λ_ _ _ _ x=>x.elim)) hl (kQ hlo ha.size)).mono ?_;rintro e w' ⟨hk,hr⟩;rcases hnn:M.newName L s names with _|⟨s1,nm⟩|⟨er,p⟩
  · rw[hnn]at hr;exact hr.elim
  · rw[hnn]at hr;exact .inr ⟨s1,nm,hr.1,A0 rfl,hk,hr.2.1,hr.2.2⟩
  · rw[hnn]at hr;have her:er≠0:=by
     unfold M.newName M.flt at hnn;split at hnn
     · split at hnn
       · simp at hnn;omega
       · simp at hnn
     · simp at hnn;omega
    exact .inl ⟨er,p,hr,KeptS.after (C8 ha) hk,_,V.out _ (M.Ev.bad (M.Ev.pure.eq (λr=>hnn))),rfl,her⟩
 clear h hn hbx;generalize ((M.tk L s.i).at':Int)=at0 at *;go_enter func233,ntmps233;go_wp2_with fail
 go_region_with (first|(go_at_call 102;refine(HA.out _ (Chg.drewN _ _ 1)).mono ?_;rintro e w1 ⟨rfl,hc,cb1⟩)|(go_at_call 210;refine(HN.out _ (Hid.out (by assumption))).mono ?_;rintro e w2 (⟨er,p,rfl,HF⟩|⟨s1,nm,rfl,hnn,hk2,hn2,hp2⟩);exact⟨rfl,HF.out⟩))
 all_goals
  have K3:=A0 (KeptS.after (C8 (Hid.out hc)) hk2);have B3:=A0 (F1a hk2 (BX.out w1 (Hid.out hc)) (by decide));have cb3:w2.cell? (aD bx 0)=some (pV pb):=cr B3.out rfl;have N3:=A0 hn2;have V3:=A0 (λo (ho:M.Ev L (λr=>M.A4 (M.typeIf L r d s1) λs3 x=>M.A4 (M.addN s3 (M.Nd.mk 16 0 0 0 [] nm 0 x at0)) λs4 y=>some (.ok s4 (y,names++[nm]))) o)=>V.out o (M.Ev.bind (k:=λr s1 nm=>M.A4 (M.typeIf L r d s1) λs3 x=>M.A4 (M.addN s3 (M.Nd.mk 16 0 0 0 [] nm 0 x at0)) λs4 y=>some (.ok s4 (y,names++[nm]))) (M.Ev.pure.eq (λr=>Hid.out hnn)) ho));have hs1:s1=s.nx:=newName_ok (Hid.out hnn);have P3:=A0 hp2;have hi3:=hp2.at';clear hk2 hp2 hn2 hc cb0 cb1 HA HN V BX;have HX:Hid (∀a,Chg No w2 a->Calls prog 163 #[pV pb] a λe w4=>
   (∃er p,e=gu er p/\Hid (L7a w B pb tv L ok d s lo nb (λr=>M.part L r d s names .par) (gu er p) w4))\/
   (∃s4 x,e= .returned (iV x)/\w4.cell? (aD bx 0)=some (pV pb)/\Hid (KeptS B ok lo w w4/\Nms w4 lo nb (names++[nm])/\Pst w4 B pb tv L ok d s4/\I6 s1 s4/\M.Ev L (λr=>M.part L r d s names .par) (.ok ⟨s4.i,s4.N++[(M.Nd.mk 16 0 0 0 [] nm 0 x at0)],s4.T⟩ ((s4.N.length:Int),names++[nm]))))):=by
   intro a ha;refine(B4a hL (P3.out.still ha) (λg hg=>hok g (kQ K3.out.size (kQ ha.size hg))) (kQ hB (kQ K3.out.size ha.size))).mono ?_;rintro e w4 ⟨k4,o,hev,hpost⟩;have k34:Kept B ok w2 w4:=(C8 ha).trans k4;cases o with
   |fail er p=>
    obtain⟨rfl,he⟩:=hpost;exact .inl ⟨er,p,rfl,K3.out.andThen k34,_,V3.out _ (M.Ev.bad hev),rfl,he⟩
   |ok s4 x=>
    obtain⟨rfl,hp4,hg4⟩:=hpost;refine .inr ⟨s4,x,rfl,by rw[cell_of_row w4 bx 0 _ _ _ (V8 k34 B3.out (by decide))];rfl,K3.out.andThen k34,N3.out.kept k34,hp4,hg4,V3.out _ (M.Ev.bind (k:=λr s3 x=>M.A4 (M.addN s3 (M.Nd.mk 16 0 0 0 [] nm 0 x at0)) λs4 y=>some (.ok s4 (y,names++[nm]))) hev (M.Ev.pure.eq (λr=>rfl)))⟩
  have HY:Hid (∀w4 s4 x,KeptS B ok lo w w4/\Nms w4 lo nb (names++[nm])/\Pst w4 B pb tv L ok d s4/\I6 s1 s4/\M.Ev L (λr=>M.part L r d s names .par) (.ok ⟨s4.i,s4.N++[(M.Nd.mk 16 0 0 0 [] nm 0 x at0)],s4.T⟩ ((s4.N.length:Int),names++[nm]))->Calls prog 107 #[pV pb,.agg #[iV 16,iV 0,iV 0,iV 0,sN,.string ⟨nm.toArray⟩,iV 0,iV x,iV at0]] w4 λe w5=>
   e= .returned (iV (s4.N.length:Int))/\Hid (L7a w B pb tv L ok d s lo nb (λr=>M.part L r d s names .par) (.returned (iV (s4.N.length:Int))) w5)):=by
   rintro w4 s4 x ⟨k4,n4,p4,g4,e4⟩;have g5:_/\_/\_/\_:=g4;rw[hs1]at g5;simp only[M.St.nx]at g5;refine(N9 hL p4 (M.Nd.mk 16 0 0 0 [] nm 0 x at0) none 0 0 ⟨_,rfl,kW _ _ _ _,by simp[Value.ownBlock]⟩ (by omega) (kQ hB k4.size) (λg hg=>hok g (kQ k4.size hg))).mono ?_;rintro e w5 ⟨rfl,k5,p5⟩;refine⟨rfl,k4.andThen k5,_,e4,rfl,n4.kept k5,p5, ?_⟩;simp only[E7,qQ,jQ,xQ];omega
  clear V3 P3 K3 N3 B3;go_wp2_with fail
  go_region_with (first|(go_at_call 163;refine(HX.out _ (Chg.drewN _ _ 1)).mono ?_;rintro e w4 (⟨er,p,rfl,H4⟩|⟨s4,x,rfl,cb4,H4⟩);exact⟨rfl,H4.out⟩)|(go_at_call 107;refine(HY.out _ _ _ (Hid.out H4)).mono ?_;rintro e w5 ⟨rfl,H5⟩))
  all_goals go_wp2_with fail
  all_goals go_ret
  all_goals exact H5.out
end
section
variable{w:World}{B pb:Nat}{tv:Value}{L:List M.Tk}{ok:Nat->Prop}{d:Nat}{s:M.St}
theorem KeptS.mono{ok ok':Nat->Prop}{lo:Nat}{a b:World}(h:KeptS B ok lo a b)(ho:∀g,ok g->ok' g):KeptS B ok' lo a b:=
 Chg.mono h λ_ _ x=>x.elim (λx=> .inl ⟨x.1,x.2.1,ho _ x.2.2⟩) .inr
theorem KeptS.trans{ok:Nat->Prop}{lo:Nat}{a b c:World}(h:KeptS B ok lo a b)(k:KeptS B ok lo b c):KeptS B ok lo a c:=by
 refine⟨k.os.trans h.os,k.tape.trans h.tape,k.output.trans h.output,kQ h.size k.size,λi hi hn=> ?_⟩;have h1:=h.block i hi hn;refine(k.block i (yQ hi h.size) (λx=>hn ?_)).trans h1;rcases x with ⟨x1,⟨cs,e,fz,hh,r⟩,x3⟩|⟨x1,cs,e,fz,hh,r⟩
 · exact .inl ⟨x1,⟨cs,e,fz,by rw[<-h1];exact hh,r⟩,x3⟩
 · exact .inr ⟨x1,cs,e,fz,by rw[<-h1];exact hh,r⟩
theorem KeptS.grown{ok:Nat->Prop}{lo:Nat}{w0 w w':World}{size n:Nat}{e:TypeId}{v:Value}{xs:List Value}(hk:KeptS B ok lo w0 w)(ho:w.ownsRow w0.heap.size e size v n xs)(hg:w.grownBy w' v.ownBlock):KeptS B ok lo w0 w':=
 Chg.trans hk (Chg.grown hg) (λi hi hx=>by have:=(A9 ho i hx.symm).1;omega)
theorem KeptS.alloc{ok:Nat->Prop}{lo:Nat}{a b:World}(h:KeptS B ok lo a b)(o:Obj):KeptS B ok lo a (b.alloc o):=h.andThen ((Kept.refl _ _ _).alloc o)
theorem J6c{p:M.Q0a}{r:M.Sp}{d:Nat}{s s':M.St}{names:List (List UInt8)}{x:Int×List (List UInt8)}(hp:p= .obj\/p= .par)(h:M.part L r d s names p=some (.ok s' x)):x.2.length=names.length+1:=by
 rcases hp with rfl|rfl;all_goals
  simp only[M.part,M.A4]at h;repeat' split at h
  all_goals first
   |(simp only[zQ,M.Out.ok.injEq]at h;obtain⟨_,rfl⟩:=h;simp)
   |simp at h
theorem part_len'{p:M.Q0a}{d:Nat}{s s':M.St}{names:List (List UInt8)}{x:Int×List (List UInt8)}(hp:p= .obj\/p= .par)(h:M.Ev L (λr=>M.part L r d s names p) (.ok s' x)):x.2.length=names.length+1:=by
 obtain⟨f,hf⟩:=h;exact J6c hp (hf f (vQ _))
def Z1b(s s':M.St):Prop:=s.i<s'.i/\s'.N.length+s.i+1<=s.N.length+s'.i/\s'.T.length+s.i<=s.T.length+s'.i/\s.N.length<=s'.N.length
def S8c(w:World)(B pb:Nat)(tv:Value)(L:List M.Tk)(ok:Nat->Prop)(d:Nat)(s:M.St)(lo:Nat)(φ:M.Sp->Option (M.Out (List Int)))(e:Ending)(w':World):Prop:=
 KeptS B ok lo w w'/\∃o,M.Ev L φ o/\match o with
  | .ok s' l=>∃ad c,e= .returned (.slice ad l.length c)/\w'.ownsRow w.heap.size 3 1 (.slice ad l.length c) l.length (B8 l)/\l.length<=s'.i/\Pst w' B pb tv L ok d s'/\Z1b s s'
  | .fail er p=>e=gu er p/\er≠0
theorem I0a{lo:Nat}{φ:M.Sp->Option (M.Out (List Int))}{w':World}{er p:Int}(hk:KeptS B ok lo w w')(hev:M.Ev L φ (.fail er p))(he:er≠0):S8c w B pb tv L ok d s lo φ (gu er p) w':=⟨hk,_,hev,rfl,he⟩
theorem J0c{lo:Nat}{φ:M.Sp->Option (M.Out (List Int))}{w':World}{s':M.St}{l:List Int}{ad:Option Addr}{c:Nat}(hk:KeptS B ok lo w w')(hev:M.Ev L φ (.ok s' l))(ho:w'.ownsRow w.heap.size 3 1 (.slice ad l.length c) l.length (B8 l))(hl:l.length<=s'.i)(hp:Pst w' B pb tv L ok d s')(hg:Z1b s s'):
 S8c w B pb tv L ok d s lo φ (.returned (.slice ad l.length c)) w':=⟨hk,_,hev,_,_,rfl,ho,hl,hp,hg⟩
def ConP(B pb:Nat)(tv:Value)(L:List M.Tk)(K:Nat)(p:M.Q0a)(m:Nat):Prop:=
 ∀(w:World) (ok:Nat->Prop) (d:Nat) (s:M.St) (lo nb bx:Nat) (names:List (List UInt8)),w.heap[bx]? =some (.cells #[pV pb] 90 (0,0))->Nms w lo nb names->names.length<=1001->lo<=w.heap.size->L.length - s.i<=m->(∀g,w.heap.size<=g->ok g)->B<=w.heap.size->Pst w B pb tv L ok d s->
  Calls prog K #[pV bx,pV nb] w (L7a w B pb tv L ok d s lo nb (λr=>M.part L r d s names p))
def bxv(w:World)(bx pb:Nat):Prop:=w.heap[bx]? =some (.cells #[pV pb] 90 (0,0))
theorem bxv.keptS{ok:Nat->Prop}{lo bx:Nat}{w w':World}(h:bxv w bx pb)(hk:KeptS B ok lo w w'):bxv w' bx pb:=F1a hk h (by decide)
theorem bxv.chg{bx:Nat}{S:Nat->Prop}{w w':World}(h:bxv w bx pb)(hc:Chg S w w')(hs:¬S bx):bxv w' bx pb:=(hc.block bx (ltG h) hs).trans h
theorem bxv.grown{w w':World}{bx base size n:Nat}{v:Value}{xs:List Value}(h:bxv w bx pb)(ho:w.ownsRow base 3 size v n xs)(hg:w.grownBy w' v.ownBlock):bxv w' bx pb:=by
 refine h.chg (Chg.grown hg) (λhx=> ?_);obtain⟨_,cur,hh⟩:=A9 ho bx hx.symm;rw[show w.heap[bx]? =_ from h]at hh;simp only[zQ,xW]at hh;exact absurd hh.2.1 (by decide)
theorem Nms.grown{w w':World}{lo nb base size n:Nat}{names:List (List UInt8)}{v:Value}{xs:List Value}(h:Nms w lo nb names)(ho:w.ownsRow base 3 size v n xs)(hg:w.grownBy w' v.ownBlock):Nms w' lo nb names:=by
 refine h.chg (Chg.grown hg) (λk cs e hh hx=> ?_);obtain⟨_,cur,hh2⟩:=A9 ho k hx.symm;rw[hh]at hh2;simp only[zQ,xW]at hh2;obtain⟨_,rfl,_⟩:=hh2;exact⟨by decide,by decide⟩
theorem Nms.alloc{w:World}{lo nb:Nat}{names:List (List UInt8)}(h:Nms w lo nb names)(o:Obj):Nms (w.alloc o) lo nb names:=h.chg (Chg.alloc No _ o) (λ_ _ _ _ x=>x.elim)
theorem bxv.alloc{w:World}{bx:Nat}(h:bxv w bx pb)(o:Obj):bxv (w.alloc o) bx pb:=h.chg (Chg.alloc No _ o) (λx=>x)
theorem K6a(kf:Nat)(cf:∀(args:Array Value) (W:World),(callFunc kf args).run prog W= .ok (.enter kf args) W){pt:M.Q0a}(hpt:pt= .obj\/pt= .par)(hL:LOk L)(m:Nat)(hC:∀m',m'<=m->ConP B pb tv L kf pt m')(E:List UInt8)(lo nb bx:Nat)(hbx:bxv w bx pb)(hn:Nms w lo nb [])(hlo:lo<=w.heap.size)(hm:L.length - s.i<=m)(hok:∀g,w.heap.size<=g->ok g)(hB:B<=w.heap.size)(h:Pst w B pb tv L ok d s):
 Calls prog 211 #[pV pb,.string ⟨E.toArray⟩,.func (.func kf) #[] #[pV bx,pV nb]] w (S8c w B pb tv L ok d s lo (λr=>r.list pt E d s [] [])):=by
 have hs:=hL.short;have hi:=h.at';have HP:=A0 h;have HX:=A0 hbx;have HN:=A0 hn;clear h hbx hn;go_enter func211,ntmps211;go_wp2_with fail
 go_loopw [7] (λv wr=>∃(names:List (List UInt8)) (acc:List Int) (s':M.St) (ad:Option Addr) (c:Nat),v= .slice ad acc.length c/\acc.length<=s'.i/\Hid (names.length=acc.length)/\Hid (Nms wr lo nb names)/\Hid (bxv wr bx pb)/\Hid (KeptS B ok lo w wr)/\Hid (I6 s s')/\Hid (wr.ownsRow w.heap.size 3 1 (.slice ad acc.length c) acc.length (B8 acc))/\
  Hid (Pst wr B pb tv L (λg=>ok g/\some g≠Value.ownBlock (.slice ad acc.length c)) d s')/\Hid (∀o,M.Ev L (λr=>r.list pt E d s' names acc) o->M.Ev L (λr=>r.list pt E d s [] []) o)) (λ_ wr=>L.length - nxt wr pb)
 case atStart=>exact⟨[],[],s,none,0,rfl,by simp,rfl,HN.out,HX.out,(Kept.refl _ _ _).toS,⟨vQ _,by omega,by omega,by omega⟩,kW _ _ _ _,HP.out.mono (λg hg _=>⟨hg,by simp[Value.ownBlock]⟩),λ_ h=>h⟩
 case round=>
  obtain⟨names,acc,s',ad,c,rfl,hacc,NL,NR,XR,KR,GR,OR,PR,VR⟩:=hrel;have HT:=F6 hL PR.out E;have hi':=PR.out.at';have hnx:=PR.out.nxt;generalize hq:M.isM L s'.i [E]=q at *;have Q1:=A0 hq;clear hq;go_wp2_with fail
  refine HT.mono ?_;clear HT;rintro e w3 ⟨rfl,hk,hp⟩;have K3:=A0 (KR.out.andThen (hk.mono λ_ h=>h.1));have N3:=A0 (NR.out.kept hk);have X3:=A0 (XR.out.keptS (hk.toS (lo:=0)));have P3:=A0 hp;have O3:=A0 (F4 OR.out hk (by decide));clear hk hp OR PR KR NR XR;cases q
  · have PX:Pst w3 B pb tv L (λg=>ok g/\some g≠Value.ownBlock (.slice ad acc.length c)) d s':=by simpa using P3.out
    clear P3;by_cases hz:acc.length=0
    · have HC:Hid ((if acc.length=0 then some (.ok s' ()) else M.need L s' [44])=some (M.Out.ok s' ())):=by show _=_;rw[if_pos hz]
      have ha:acc=[]:=List.eq_nil_of_length_eq_zero hz;subst ha;simp only[xQ]at O3 PX hacc NL⊢;clear hz;have hj:s.i<=s'.i:=GR.out.1;have HM:=hC (L.length - s'.i) (by first|(simp only[M.St.nx];omega)|omega) w3 _ d s' lo nb bx names X3.out N3.out (by have h0:names.length=0:=NL.out;omega) (kQ hlo K3.out.size) (vQ _) (λg hg=>⟨hok g (kQ K3.out.size hg),λhx=>by have:=(O3.out.lt g hx.symm).2;omega⟩) (kQ hB K3.out.size) PX;clear PX;go_wp2_with fail
      refine HM.mono ?_;clear HM;rintro e w4 ⟨hk,o,hev,hpost⟩;have K4:=A0 (K3.out.trans (hk.mono λ_ h=>h.1));have X4:=A0 (X3.out.keptS hk);have O4:=A0 (I3a O3.out hk (by decide));have E4:=A0 hev;clear hk hev K3 O3 X3 N3;cases o with
      |fail er p=>
       obtain⟨rfl,he⟩:=hpost;exact⟨rfl,I0a K4.out (VR.out _ (U2 Q1.out HC.out (M.Ev.bad E4.out))) he⟩
      |ok s4 z=>
       obtain⟨rfl,hn4,hp,hg⟩:=hpost;have NX:=A0 (part_len' hpt E4.out);obtain⟨y,names4⟩:=z;have N4:=A0 hn4;clear hn4;simp only at N4 NX;have P4:=A0 hp;have G4:=A0 hg;have hi4:=hp.at';clear hp hg;have VN:=A0 (λo (ho:M.Ev L (λr=>r.list pt E d s4 names4 ([]++[y])) o)=>VR.out o (U2 Q1.out HC.out (M.Ev.bind (k:=λr s x=>r.list pt E d s x.2 ([]++[x.1])) E4.out ho)));clear VR;obtain⟨i0,hi0,hz0,hz1,hz2⟩:=info_parts Tryz.infoInt;have hw3:=A0 (O4.out.alloc (.cells #[iV y] 3));have hl4:0+1<=s4.i:=by
        have h2:=G4.out.1;first|(simp only[M.St.nx]at h2;omega)|omega
       go_wp2_with (at_builtin;refine wpList_append_own_at _ rfl _ _ 43 rfl w.heap.size 3 i0 (iV 0) 1 8 underlying43 hi0 hz0 hz1 hz2 rfl (by decide) _ _ _ rfl hw3.out (aD w4.heap.size 0) 1 1 [iV y] rfl rfl ?c1 ?c2 ?c3 ?c4 ?c5 ?_)
       case c1=>exact cell_one_new _ _ _
       case c2=>intro u hu;simp at hu;rcases hu with rfl;rfl
       case c3=>simp only[maxLen];omega
       case c4=>omega
       case c5=>have:=K4.out.size;simp;omega
       · intro v' w5 hown2 hg2 _ hat;obtain⟨ad2,c2,hv2⟩:=B7 hown2;rw[hv2]at hown2 hat⊢;have PG:=A0 ((P4.out.alloc (.cells #[iV y] 3)).grown (v:= .slice ad 0 c) (v':= .slice ad2 (0+1) c2) (O4.out.alloc _) (.inl rfl) hg2 (by simpa using hat));have KG:=A0 ((K4.out.alloc (.cells #[iV y] 3)).grown (O4.out.alloc _) hg2);have NG:=A0 ((N4.out.alloc (.cells #[iV y] 3)).grown (O4.out.alloc _) hg2);have XG:=A0 ((X4.out.alloc (.cells #[iV y] 3)).grown (O4.out.alloc _) hg2);have OG:=A0 hown2;clear hown2 hg2 hat hw3 P4 O4 K4 hv2 N4 X4;go_wp2_with fail
         go_roundw
         case rel=>
          have h1:=GR.out;have h2:=G4.out;simp only[E7,I6]at h1 h2;refine⟨names4,[y],s4,ad2,c2,by simp,by simp;omega,(by have h3:names4.length=names.length+1:=NX.out;have h4:names.length=0:=NL.out;show names4.length=1;omega),NG.out,XG.out,KG.out,⟨by omega,by omega,by omega,by omega⟩, ?_, ?_,VN.out⟩
          · have:=OG.out;show World.ownsRow _ _ _ _ _ _ _;simpa[B8]using this
          · have:=PG.out;show Pst _ _ _ _ _ _ _ _;simpa using this
         case measure=>
          have h2:=G4.out;have h3:=PG.out.nxt;simp only[E7]at h2;rw[h3,hnx];omega
    · have hz':(0:Int)<(acc.length:Int):=by omega
      have HN:=G9 hL PX [44];go_wp2_with fail
      refine HN.mono ?_;clear HN;rintro e w6 ⟨hk,hr⟩;have K6:=A0 (K3.out.andThen (hk.mono λ_ h=>h.1));have N6:=A0 (N3.out.kept hk);have X6:=A0 (X3.out.keptS (hk.toS (lo:=0)));have O6:=A0 (F4 O3.out hk (by decide));clear hk K3 O3 PX N3 X3;rcases hr with ⟨hb,rfl,PX⟩|⟨hb,rfl⟩
      · have hi6:=PX.at';have HC:Hid ((if acc.length=0 then some (.ok s' ()) else M.need L s' [44])=some (M.Out.ok s'.nx ())):=by show _=_;rw[if_neg hz,M.need,hb];rfl
        clear hb;have hj:s.i<=s'.i:=GR.out.1;have HM:=hC (L.length - s'.nx.i) (by first|(simp only[M.St.nx];omega)|omega) w6 _ d s'.nx lo nb bx names X6.out N6.out (by have h0:names.length=acc.length:=NL.out;omega) (kQ hlo K6.out.size) (vQ _) (λg hg=>⟨hok g (kQ K6.out.size hg),λhx=>by have:=(O6.out.lt g hx.symm).2;omega⟩) (kQ hB K6.out.size) PX;clear PX;go_wp2_with fail
        refine HM.mono ?_;clear HM;rintro e w4 ⟨hk,o,hev,hpost⟩;have K4:=A0 (K6.out.trans (hk.mono λ_ h=>h.1));have X4:=A0 (X6.out.keptS hk);have O4:=A0 (I3a O6.out hk (by decide));have E4:=A0 hev;clear hk hev K6 O6 X6 N6;cases o with
        |fail er p=>
         obtain⟨rfl,he⟩:=hpost;exact⟨rfl,I0a K4.out (VR.out _ (U2 Q1.out HC.out (M.Ev.bad E4.out))) he⟩
        |ok s4 z=>
         obtain⟨rfl,hn4,hp,hg⟩:=hpost;have NX:=A0 (part_len' hpt E4.out);obtain⟨y,names4⟩:=z;have N4:=A0 hn4;clear hn4;simp only at N4 NX;have P4:=A0 hp;have G4:=A0 hg;have hi4:=hp.at';clear hp hg;have VN:=A0 (λo (ho:M.Ev L (λr=>r.list pt E d s4 names4 (acc++[y])) o)=>VR.out o (U2 Q1.out HC.out (M.Ev.bind (k:=λr s x=>r.list pt E d s x.2 (acc++[x.1])) E4.out ho)));clear VR;obtain⟨i0,hi0,hz0,hz1,hz2⟩:=info_parts Tryz.infoInt;have hw3:=A0 (O4.out.alloc (.cells #[iV y] 3));have hl4:acc.length+1<=s4.i:=by
          have h2:=G4.out.1;first|(simp only[M.St.nx]at h2;omega)|omega
         go_wp2_with (at_builtin;refine wpList_append_own_at _ rfl _ _ 43 rfl w.heap.size 3 i0 (iV 0) 1 8 underlying43 hi0 hz0 hz1 hz2 rfl (by decide) _ _ _ rfl hw3.out (aD w4.heap.size 0) 1 1 [iV y] rfl rfl ?c1 ?c2 ?c3 ?c4 ?c5 ?_)
         case c1=>exact cell_one_new _ _ _
         case c2=>intro u hu;simp at hu;rcases hu with rfl;rfl
         case c3=>simp only[maxLen];omega
         case c4=>omega
         case c5=>have:=K4.out.size;simp;omega
         · intro v' w5 hown2 hg2 _ hat;obtain⟨ad2,c2,hv2⟩:=B7 hown2;rw[hv2]at hown2 hat⊢;have PG:=A0 ((P4.out.alloc (.cells #[iV y] 3)).grown (v:= .slice ad acc.length c) (v':= .slice ad2 (acc.length+1) c2) (O4.out.alloc _) (.inl rfl) hg2 (by simpa using hat));have KG:=A0 ((K4.out.alloc (.cells #[iV y] 3)).grown (O4.out.alloc _) hg2);have NG:=A0 ((N4.out.alloc (.cells #[iV y] 3)).grown (O4.out.alloc _) hg2);have XG:=A0 ((X4.out.alloc (.cells #[iV y] 3)).grown (O4.out.alloc _) hg2);have OG:=A0 hown2;clear hown2 hg2 hat hw3 P4 O4 K4 hv2 N4 X4;go_wp2_with fail
           go_roundw
           case rel=>
            have h1:=GR.out;have h2:=G4.out;simp only[E7,I6,M.St.nx]at h1 h2;refine⟨names4,acc++[y],s4,ad2,c2,by simp,by simp;omega,(by have h3:names4.length=names.length+1:=NX.out;have h4:names.length=acc.length:=NL.out;show names4.length=(acc++[y]).length;rw[qQ];show _=acc.length+1;omega),NG.out,XG.out,KG.out,⟨by omega,by omega,by omega,by omega⟩, ?_, ?_,VN.out⟩
            · have:=OG.out;show World.ownsRow _ _ _ _ _ _ _;rw[M5];simpa using this
            · have:=PG.out;show Pst _ _ _ _ _ _ _ _;simpa using this
           case measure=>
            have h2:=G4.out;have h3:=PG.out.nxt;simp only[E7,M.St.nx]at h2;rw[h3,hnx];omega
      · exact⟨rfl,I0a K6.out (VR.out _ (P0a Q1.out (by rw[if_neg hz,M.need,hb];rfl))) (by decide)⟩
  · have PX:Pst w3 B pb tv L (λg=>ok g/\some g≠Value.ownBlock (.slice ad acc.length c)) d s'.nx:=by simpa using P3.out
    have PY:=A0 (PX.mono (ok':=ok) (λg hg _=>hg.1));have EV:=A0 (VR.out _ (O9a Q1.out));have GX:=A0 (show Z1b s s'.nx by
     have h2:=GR.out;simp only[Z1b,I6,M.St.nx]at h2⊢
     omega)
    clear VR P3 PX;go_wp2_with fail
    go_ret;exact J0c K3.out EV.out O3.out (by simp only[M.St.nx];omega) PY.out GX.out
end
section
variable{B pb:Nat}{tv:Value}{L:List M.Tk}
theorem heap_alloc_old(w:World)(o:Obj){k:Nat}(hk:k<w.heap.size):(w.alloc o).heap[k]? =w.heap[k]? :=Below.heap_alloc _ _ _ hk
theorem I6b(hL:LOk L)(m:Nat)(hE:∀m',m'<=m->ConN B pb tv L 165 (λd s r=>r.expr d s) m'):B3d B pb tv L 227 K4c m:=by
 intro at0 w ok d s hm hok hB h;have hi0:=h.at';have hs:=hL.short;have hfw:=h.few;have K:=A0 (((Kept.refl B ok w).alloc (.cells #[pV pb] 90)).alloc (.cells #[sN] 158));have P:=A0 ((h.alloc (.cells #[pV pb] 90)).alloc (.cells #[sN] 158));have BX:Hid (bxv ((w.alloc (.cells #[pV pb] 90)).alloc (.cells #[sN] 158)) w.heap.size pb):=bxv.alloc (heap_alloc_new w _) _;have NM:Hid (Nms ((w.alloc (.cells #[pV pb] 90)).alloc (.cells #[sN] 158)) w.heap.size (w.heap.size+1) []):=by
  refine⟨by omega,none,0, ?_,kW _ _ _ _⟩;have:=heap_alloc_new (w.alloc (.cells #[pV pb] 90)) (.cells #[sN] 158);simpa using this
 have V:Hid (∀o,M.Ev L (λr=>M.A4 (r.list .obj [125] d s [] []) λs' l=>M.addN s' (M.Nd.mk 10 0 0 0 l [] 0 (-1) at0)) o->M.Ev L (λr=>K4c at0 d s r) o):=λo ho=>ho;have H1:=A0 (K6a (ok:=ok) 234 (λ_ _=>by go_simp) (.inl rfl) hL (L.length - s.i) (λm' hm' w ok d s lo nb bx names hbx hn hl hlo hm hok hB h=>I7b hL m' (λm'' h''=>hE m'' (by omega)) w ok d s lo nb bx names hbx hn hl hlo hm hok hB h) [125] w.heap.size (w.heap.size+1) w.heap.size BX.out NM.out (by simp;omega) (vQ _) (λg hg=>hok g (kQ K.out.size hg)) (kQ hB K.out.size) P.out);clear h P NM;generalize hFF:(λ(r:M.Sp)=>K4c at0 d s r)=FF at V;have HFF:Hid (K4c at0 d s=FF):=hFF;clear hFF;rw[HFF.out];clear HFF;go_enter func227,ntmps227;go_wp2_with fail
 refine H1.out.mono ?_;rintro e w3 ⟨hk,o,hev,hpost⟩;have K':=A0 (K.out.transS hk);have X3:=A0 (BX.out.keptS hk);have E1:=A0 hev;have hz:=K.out.size;clear hk hev H1 K BX;have K:=A0 K'.out;clear K';cases o with
 |fail er p=>
  obtain⟨rfl,he⟩:=hpost;exact⟨rfl,C9 K.out (V.out _ (M.Ev.bad E1.out)) he⟩
 |ok s1 l=>
  obtain⟨la,lc,rfl,ho,hl,hp,hg⟩:=hpost;have hg1:_/\_/\_/\_:=hg;have P:=A0 hp;have O1:=A0 ho;have hi1:=hp.at';have cb3:w3.cell? (aD w.heap.size 0)=some (pV pb):=cr X3.out rfl;clear hp ho hg X3;have HX:=A0 (J6 hL P.out (M.Nd.mk 10 0 0 0 l [] 0 (-1) at0) 0 la l.length lc ⟨_,rfl,C7 O1.out (wQ _),λg hg=>hok g (by have:=(A9 O1.out g hg).1;omega)⟩ rfl (by omega) (kQ hB K.out.size) (λg hg=>hok g (kQ K.out.size hg)));have EV:=A0 (V.out _ (M.Ev.bind (k:=λr s' l=>M.addN s' (M.Nd.mk 10 0 0 0 l [] 0 (-1) at0)) E1.out M.Ev.pure));have GX:=A0 (show E7 s ⟨s1.i,s1.N++[M.Nd.mk 10 0 0 0 l [] 0 (-1) at0],s1.T⟩ by
   simp only[E7,qQ,jQ,xQ]
   omega)
  have hxx:(0:Int)<=(s1.N.length:Int)/\(s1.N.length:Int)<((s1.N++[M.Nd.mk 10 0 0 0 l [] 0 (-1) at0]).length:Int):=by simp;omega
  clear P V;go_wp2_with fail
  refine HX.out.mono ?_;rintro e w9 ⟨rfl,k9,p9⟩;have K9:=A0 (K.out.trans k9);have P9:=A0 p9;clear k9 p9 HX;go_wp2_with fail
  go_ret;exact F2 K9.out EV.out P9.out GX.out hxx
theorem D5b(hL:LOk L)(m:Nat)(hK:∀m',m'<=m->ConN B pb tv L 167 (λd s r=>r.block d s) m'):B3d B pb tv L 226 (fnS L) m:=by
 intro at0 w ok d s hm hok hB h;have hi0:=h.at';have hs:=hL.short;have hfw:=h.few;have K:=A0 ((Kept.refl B ok w).alloc (.cells #[pV pb] 90));have P:=A0 (h.alloc (.cells #[pV pb] 90));have BX:Hid (bxv (w.alloc (.cells #[pV pb] 90)) w.heap.size pb):=heap_alloc_new w _;have V:Hid (∀o,M.Ev L (λr=>M.A4 (M.need L s [40]) λs1 (_:Unit)=>M.A4 (r.list .par [41] d s1 [] []) λs2 l=>M.A4 (M.typeIf L r d s2) λs3 t=>M.A4 (r.block d s3) λs4 x=>M.addN s4 (M.Nd.mk 6 x 0 0 l [] 0 t at0)) o->M.Ev L (λr=>fnS L at0 d s r) o):=λo ho=>ho;have H1:=A0 (G9 hL P.out [40]);clear h P;generalize hFF:(λ(r:M.Sp)=>fnS L at0 d s r)=FF at V;have HFF:Hid (fnS L at0 d s=FF):=hFF;clear hFF;rw[HFF.out];clear HFF;go_enter func226,ntmps226;go_wp2_with fail
 refine H1.out.mono ?_;rintro e w1 ⟨hk,hr⟩;have K':=A0 (K.out.trans hk);have X1:=A0 (BX.out.keptS (hk.toS (lo:=0)));have hz1:w.heap.size<w1.heap.size:=by have:=hk.size;simp at this;omega
 clear hk H1 K BX;have K:=A0 K'.out;clear K';rcases hr with ⟨hb,rfl,hp⟩|⟨hb,rfl⟩
 case inr=>exact⟨rfl,C9 K.out (V.out _ (M.Ev.bad (O9 hb))) (by decide)⟩
 replace V:=A0 (M.Ev.vb V.out (J8 hb));clear hb;have hi1:=hp.at';simp only[M.St.nx]at hi1;have K':=A0 (K.out.alloc (.cells #[sN] 158));have P:=A0 (hp.alloc (.cells #[sN] 158));have X2:=A0 (X1.out.alloc (.cells #[sN] 158));have cb1:w1.cell? (aD w.heap.size 0)=some (pV pb):=cr X1.out rfl;have NM:Hid (Nms (w1.alloc (.cells #[sN] 158)) w.heap.size w1.heap.size []):=⟨by omega,none,0,heap_alloc_new _ _,kW _ _ _ _⟩;clear hp K X1;have K:=A0 K'.out;clear K';have H1:=A0 (K6a (ok:=ok) 233 (λ_ _=>by go_simp) (.inr rfl) hL (L.length - s.nx.i) (λm' hm' w ok d s lo nb bx names hbx hn hl hlo hm hok hB h=>X0a hL w ok d s lo nb bx names hbx hn hl hlo hok hB h) [41] w.heap.size w1.heap.size w.heap.size X2.out NM.out (by simp;omega) (vQ _) (λg hg=>hok g (kQ K.out.size hg)) (kQ hB K.out.size) P.out);clear P NM;go_wp2_with fail
 refine H1.out.mono ?_;rintro e w3 ⟨hk,o,hev,hpost⟩;have K':=A0 (K.out.transS hk);have X3:=A0 (X2.out.keptS hk);have E1:=A0 hev;have hz:=K.out.size;clear hk hev H1 K X2 cb1;have K:=A0 K'.out;clear K';cases o with
 |fail er p=>
  obtain⟨rfl,he⟩:=hpost;exact⟨rfl,C9 K.out (V.out _ (M.Ev.bad E1.out)) he⟩
 |ok s1 l=>
  obtain⟨la,lc,rfl,ho,hl,hp,hg⟩:=hpost;have hg1:_/\_/\_/\_:=hg;simp only[M.St.nx]at hg1;have O1:=A0 ho;have hi2:=hp.at';have cb3:w3.cell? (aD w.heap.size 0)=some (pV pb):=cr X3.out rfl;replace V:=A0 (M.Ev.vb V.out E1.out);clear E1;have H1:=A0 (B4a hL hp (λg hg=>hok g (kQ K.out.size hg)) (kQ hB K.out.size));clear hp ho hg;go_wp2_with fail
  refine H1.out.mono ?_;rintro e w4 ⟨hk,o,hev,hpost⟩;have K':=A0 (K.out.trans hk);have X4:=A0 (X3.out.keptS (hk.toS (lo:=0)));have O4:=A0 (F4 O1.out hk (by decide));have E1:=A0 hev;clear hk hev H1 K X3 O1 cb3;have K:=A0 K'.out;clear K';cases o with
  |fail er p=>
   obtain⟨rfl,he⟩:=hpost;exact⟨rfl,C9 K.out (V.out _ (M.Ev.bad E1.out)) he⟩
  |ok s2 t=>
   obtain⟨rfl,hp,hg⟩:=hpost;have hg2:_/\_/\_/\_:=hg;have hi3:=hp.at';have cb4:w4.cell? (aD w.heap.size 0)=some (pV pb):=cr X4.out rfl;replace V:=A0 (M.Ev.vb V.out E1.out);clear E1;have H1:=A0 (hK (L.length - s2.i) (by omega) w4 ok d s2 (vQ _) (λg hg=>hok g (kQ K.out.size hg)) (kQ hB K.out.size) hp);clear hp hg;go_wp2_with fail
   refine H1.out.mono ?_;rintro e w5 ⟨hk,o,hev,hpost⟩;have K':=A0 (K.out.trans hk);have X5:=A0 (X4.out.keptS (hk.toS (lo:=0)));have O5:=A0 (F4 O4.out hk (by decide));have E1:=A0 hev;clear hk hev H1 K X4 O4 cb4;have K:=A0 K'.out;clear K';cases o with
   |fail er p=>
    obtain⟨rfl,he⟩:=hpost;exact⟨rfl,C9 K.out (V.out _ (M.Ev.bad E1.out)) he⟩
   |ok s3 x=>
    obtain⟨rfl,hp,hg,hx⟩:=hpost;have hg3:_/\_/\_/\_:=hg;have hi4:=hp.at';have cb5:w5.cell? (aD w.heap.size 0)=some (pV pb):=cr X5.out rfl;have HX:=A0 (N9 hL hp (M.Nd.mk 6 x 0 0 l [] 0 t at0) la l.length lc ⟨_,rfl,C7 O5.out (wQ _),λg hg=>hok g (by have:=(A9 O5.out g hg).1;omega)⟩ (by omega) (kQ hB K.out.size) (λg hg=>hok g (kQ K.out.size hg)));have EV:=A0 (V.out _ (M.Ev.bind (k:=λr s4 x=>M.addN s4 (M.Nd.mk 6 x 0 0 l [] 0 t at0)) E1.out M.Ev.pure));have GX:=A0 (show E7 s ⟨s3.i,s3.N++[M.Nd.mk 6 x 0 0 l [] 0 t at0],s3.T⟩ by
     simp only[E7,qQ,jQ,xQ]
     omega)
    have hxx:(0:Int)<=(s3.N.length:Int)/\(s3.N.length:Int)<((s3.N++[M.Nd.mk 6 x 0 0 l [] 0 t at0]).length:Int):=by simp;omega
    clear hp hg V;go_wp2_with fail
    refine HX.out.mono ?_;rintro e w9 ⟨rfl,k9,p9⟩;have K9:=A0 (K.out.trans k9);have P9:=A0 p9;clear k9 p9 HX;go_wp2_with fail
    go_ret;exact F2 K9.out EV.out P9.out GX.out hxx
def ConX(B pb:Nat)(tv:Value)(L:List M.Tk)(m:Nat):Prop:=
 ConN B pb tv L 206 (λd s r=>r.oper d s) m/\ConN B pb tv L 165 (λd s r=>r.expr d s) m/\
 ConN B pb tv L 167 (λd s r=>r.block d s) m/\ConN B pb tv L 72 (λd s r=>r.stmt d s) m
theorem Z9c(hL:LOk L)(hN:M.NuL L):∀m,ConX B pb tv L m:=by
 intro m;induction m using Nat.strongRecOn with
 |ind m ih=>
  have hE:∀m',m'<m->ConN B pb tv L 165 (λd s r=>r.expr d s) m':=λm' h=>(ih m' h).2.1;have hS:=O3b hL hN m hE (λm' h=>D5b hL m' (λm'' h'=>(ih m'' (by omega)).2.2.1)) (λm' h=>I6b hL m' (λm'' h'=>hE m'' (by omega)));have hO:=I3b hL m (λm' h=>(ih m' h).1) hS (λm' h=>B0b hL m' (λm'' h'=>hE m'' (by omega)));have hO':∀m',m'<=m->ConN B pb tv L 206 (λd s r=>r.oper d s) m':=λm' h=>if e:m'=m then e ▸ hO else (ih m' (by omega)).1
  have hP:∀m',m'<=m->_:=λm' h=>I1b hL m' (λm'' h'=>hO' m'' (by omega));have hSm:∀m',m'<=m->_:=λm' h=>U5c hL m' (λm'' h'=>hP m'' (by omega));have hEm:=U6a hL m (V1a hL m (λm' h=>hSm m' h));have hE':∀m',m'<=m->ConN B pb tv L 165 (λd s r=>r.expr d s) m':=λm' h=>if e:m'=m then e ▸ hEm else hE m' (by omega)
  have hB:=E4c hL m (λm' h=>(ih m' h).2.2.2);have hA:=N9a hL (λd s s' x h=>M.P6c d s s' x h) m hE' (λm' h=>(ih m' h).2.2.1);exact⟨hO,hEm,hB,W2a hL m hA⟩
end
end Go.Proofs.YtfhhipefecekkaaGreatDoor
