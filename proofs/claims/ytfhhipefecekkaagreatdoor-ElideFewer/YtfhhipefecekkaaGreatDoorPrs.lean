/-
  A part of the proof.
-/
import Derived.Test.YtfhhipefecekkaaGreatDoorNodeD
import Derived.Test.YtfhhipefecekkaaGreatDoorScanB
set_option maxHeartbeats 16000000
set_option maxRecDepth 100000
namespace Go.Proofs.YtfhhipefecekkaaGreatDoor
open Go.Proofs.Tryz
open Go.RowKit
def NdOwn(w:World)(lo:Nat)(v:Value)(N:List M.Nd):Prop:=∃nx,w.ownsRow lo 70 9 v N.length nx/\Rws (NdV w (λg=>lo<=g)) N nx
def S6c(l:List UInt8)(w:World)(e:Ending)(w':World):Prop:=
 Below w.heap.size w w'/\((∃er p,M.PRes l (.inl (er,p))/\e= .returned (.tuple #[.agg #[sN,sN,iV 0],.agg #[iV er,iV p]]))\/
  ∃N T na nc ya yc,M.PRes l (.inr (N,T))/\e= .returned (.tuple #[.agg #[.slice na N.length nc,.slice ya T.length yc,iV ((N.length:Int) - 1)],.agg #[iV 0,iV 0]])/\NdOwn w' w.heap.size (.slice na N.length nc) N/\TyOwn w' w.heap.size (.slice ya T.length yc) T)
def Res2(w0:Nat)(w w':World):Prop:=Chg (λk=>k=w0\/k=w0+1) w w'
theorem C0b{w w4 w9:World}{l:List UInt8}{er p:Int}(hb:Below w.heap.size w w4)(hc:Res2 w.heap.size w4 w9)(ht:M.PRes l (.inl (er,p))):
 S6c l w (.returned (.tuple #[.agg #[sN,sN,iV 0],.agg #[iV er,iV p]])) w9:=
 ⟨hb.trans (Chg.toBelow hc (λi hi x=>by rcases x with x|x<;>omega) hb.size),.inl ⟨er,p,ht,rfl⟩⟩
theorem I9c{w w4 w9:World}{l:List UInt8}{na ya:Option Addr}{nc yc:Nat}{N:List M.Nd}{T:List M.Ty}{nx yx:List Value}{cs cs':Array Value}(hb:Below w.heap.size w w4)(hc:Res2 w.heap.size w4 w9)
 (hq:w4.heap[w.heap.size]? =some (.cells cs 41 (0,0))) (hq':w4.heap[w.heap.size+1]? =some (.cells cs' 26 (0,0)))
 (hn:w4.ownsRow w.heap.size 70 9 (.slice na N.length nc) N.length nx) (hrn:Rws (NdV w4 (λg=>w.heap.size<=g)) N nx)
 (ho:w4.ownsRow w.heap.size 66 4 (.slice ya T.length yc) T.length yx) (hr:Rws (TyV w4 (λg=>w.heap.size<=g)) T yx) (ht:M.PRes l (.inr (N,T))):
 S6c l w (.returned (.tuple #[.agg #[.slice na N.length nc,.slice ya T.length yc,iV ((N.length:Int) - 1)],.agg #[iV 0,iV 0]])) w9:=by
 have key:∀g,(g=w.heap.size\/g=w.heap.size+1)->∀cur e fz,w4.heap[g]? =some (.cells cur e fz)->e=41\/e=26:=by
  rintro g (rfl|rfl) cur e fz hh
  · rw[hq]at hh;simp only[zQ,xW]at hh;exact .inl hh.2.1.symm
  · rw[hq']at hh;simp only[zQ,xW]at hh;exact .inr hh.2.1.symm
 have k2:∀g,w.heap.size<=g->g<w4.heap.size->(g=w.heap.size\/g=w.heap.size+1)->(∃cur e,w4.heap[g]? =some (.cells cur e (0,0))/\(e=121\/e=3))->False:=by
  rintro g _ _ hx ⟨cur,e,hh,he⟩;rcases key g hx _ _ _ hh with rfl|rfl<;>rcases he with he|he<;>exact absurd he (by decide)
 refine⟨hb.trans (Chg.toBelow hc (λi hi x=>by rcases x with x|x<;>omega) hb.size),.inr ⟨N,T,na,nc,ya,yc,ht,rfl,⟨nx,A3 hn hc (λg hg hx=> ?_),hrn.imp (NdV.chg hc k2 (λ_ x _=>x))⟩,⟨yx,A3 ho hc (λg hg hx=> ?_),hr.imp (TyV.chg hc k2 (λ_ x _=>x))⟩⟩⟩
 · obtain⟨_,cur,hh⟩:=A9 hn g hg;rcases key g hx _ _ _ hh with h|h<;>exact absurd h (by decide)
 · obtain⟨_,cur,hh⟩:=A9 ho g hg;rcases key g hx _ _ _ hh with h|h<;>exact absurd h (by decide)
theorem Res2.put{w0:Nat}{a b:World}{q o:Nat}{v:Value}(h:Res2 w0 a b)(hq:q=w0\/q=w0+1):Res2 w0 a (b.setCell (aD q o) v):=
 Chg.trans h (Chg.set b (aD q o) v) (λi _ x=>by have x':i=q:=x;subst x';exact hq)
theorem Res2.drew{w0:Nat}{a b:World}(h:Res2 w0 a b):Res2 w0 a b.drew:=Chg.trans h (Chg.drewN No b 1) (λ_ _ x=>x.elim)
theorem Res2.alloc{w0:Nat}{a b:World}{o:Obj}(h:Res2 w0 a b):Res2 w0 a (b.alloc o):=Chg.trans h (Chg.alloc No b o) (λ_ _ x=>x.elim)
theorem V6c{w0:Nat}{a:World}{v0 v1 v2 v3 v4:Value}{o:Obj}:Res2 w0 a (((((((a.setCell (aD w0 0) v0).setCell (aD w0 1) v1).setCell (aD w0 2) v2).setCell (aD (w0+1) 0) v3).setCell (aD (w0+1) 1) v4).alloc o).drew):=
 ((((((Res2.put (Chg.refl _ _) (.inl rfl)).put (.inl rfl)).put (.inl rfl)).put (.inr rfl)).put (.inr rfl)).alloc).drew
theorem O7a{B:Nat}{ok:Nat->Prop}{w w':World}{q:Nat}{cs:Array Value}{e:TypeId}(hk:Kept B ok w w')(h:w.heap[q]? =some (.cells cs e (0,0)))(he:e≠92/\e≠70/\e≠66):w'.heap[q]? =some (.cells cs e (0,0)):=V8 hk h he
theorem Z4a(s:ByteArray)(w:World)(hs:s.size<=maxLen):Calls prog 13 #[.string s] w (S6c s.data.toList w):=by
 have HS:=λw1=>I3c s w1 hs;go_enter func13,ntmps13;go_wp2_with fail
 refine(HS _).mono ?_;clear HS;rintro e w1 ⟨ad,c,rfl,ho,hb⟩;have hz:w.heap.size+1<w1.heap.size:=by have:=hb.size;simp at this;omega
 have hza:w.heap.size<w1.heap.size:=by omega
 have QP:Hid (w1.heap[w.heap.size]? =some (.cells #[sN,sN,iV 0] 41 (0,0))):=by
  show _=_;rw[hb.block w.heap.size (by simp;omega),Below.heap_alloc _ _ _ (by simp)];exact heap_alloc_new w _
 have QF:Hid (w1.heap[w.heap.size+1]? =some (.cells #[iV 0,iV 0] 26 (0,0))):=by
  show _=_;rw[hb.block (w.heap.size+1) (by simp)];have:=heap_alloc_new (w.alloc (.cells #[sN,sN,iV 0] 41)) (.cells #[iV 0,iV 0] 26);simpa using this
 have HB:=A0 ((((Below.refl w.heap.size w).alloc (vQ _) (.cells #[sN,sN,iV 0] 41)).alloc (by simp) (.cells #[iV 0,iV 0] 26)).trans (hb.mono (by simp;omega)));have HO:=A0 (C7 ho (by simp;omega:w.heap.size<=_));clear hb ho;by_cases he:(M.I5 s.data.toList).2.1=0
 · have he':((M.I5 s.data.toList).2.1 !=0)=false:=by simp[he]
   obtain⟨hl1,hl0,hl2⟩:=M.A2c _ he;have hw1:w.heap.size<=w1.heap.size:=by omega
   have HW:=R1a (w:=(w1.alloc (.cells #[iV 0,iV ((M.I5 s.data.toList).2.2:Int)] 26)).alloc (.cells #[.slice ad (M.I5 s.data.toList).1.length c,iV 0,iV 0,sN,sN] 92))
    (B:=w.heap.size) (pb:=w1.heap.size+1) (ok:=λg=>w.heap.size<=g) ⟨hl1,hl2⟩ (λm=>(Z9c ⟨hl1,hl2⟩ (M.J0b _) m).2.2.2) (λg hg=>by simp at hg;omega) (by simp;omega) (V7c (by simp) (by simp;omega) (λg hg=>by simp at hg;omega) hl0 (HO.out.alloc _))
   have HZ:=A0 he;clear HO hl2;go_wp2_with fail
   refine HW.mono ?_;clear HW;rintro e w4 ⟨hk,o,hev,hm⟩;have QP4:Hid (w4.heap[w.heap.size]? =some (.cells #[sN,sN,iV 0] 41 (0,0))):=
    O7a hk (by rw[Below.heap_alloc _ _ _ (by simp;omega),Below.heap_alloc _ _ _ hza];exact QP.out) (by decide)
   have QF4:Hid (w4.heap[w.heap.size+1]? =some (.cells #[iV 0,iV 0] 26 (0,0))):=
    O7a hk (by rw[Below.heap_alloc _ _ _ (by simp;omega),Below.heap_alloc _ _ _ hz];exact QF.out) (by decide)
   have z4:w.heap.size+1<w4.heap.size:=by have:=hk.size;simp at this;omega
   have z5:w.heap.size<w4.heap.size:=by omega
   have B4:=A0 (((HB.out.alloc hw1 _).alloc (by simp;omega) _).trans (hk.below (by simp;omega)));have E4:=A0 hev;have q0:w4.cell? (aD w.heap.size 0)=some (sN):=cr QP4.out rfl;have q1:w4.cell? (aD w.heap.size 1)=some (sN):=cr QP4.out rfl;have q2:w4.cell? (aD w.heap.size 2)=some (iV 0):=cr QP4.out rfl;have qf:∀o,w4.frozen? (aD w.heap.size o)=false:=λo=>frozen_of_row w4 _ o _ _ QP4.out;have p0:w4.cell? (aD (w.heap.size+1) 0)=some (iV 0):=cr QF4.out rfl;have p1:w4.cell? (aD (w.heap.size+1) 1)=some (iV 0):=cr QF4.out rfl;have pf:∀o,w4.frozen? (aD (w.heap.size+1) o)=false:=λo=>frozen_of_row w4 _ o _ _ QF4.out;clear hk hev hz hza HB QP QF;cases o with
   |fail er p=>
    obtain⟨rfl,hne⟩:=hm;have hne':(er !=0)=true:=by simp[hne]
    have TR:=A0 (show M.PRes s.data.toList (.inl (er,p)) from ⟨hne,.inr ⟨HZ.out,.inl E4.out⟩⟩);clear E4;go_wp2_with fail
    go_region
    all_goals go_wp2_with fail
    exact bodyPost_ret (v:= .tuple #[.agg #[sN,sN,iV 0],.agg #[iV er,iV p]]) (by simp[results,results13,go_sem,q0,q1,q2,p0,p1,z4,z5]) rfl (C0b B4.out V6c TR.out)
   |ok s' x=>
    by_cases h6:(M.tk (M.I5 s.data.toList).1 s'.i).kind=6
    · simp only[h6,if_true]at hm;by_cases hmany:1200<s'.N.length\/300<s'.T.length
      · rw[if_pos hmany]at hm;subst hm;have TR:=A0 (show M.PRes s.data.toList (.inl (2,0)) from ⟨by decide,.inr ⟨HZ.out,.inr ⟨s',x,E4.out,hmany,rfl,rfl⟩⟩⟩);clear hmany h6;have hne':((2:Int) !=0)=true:=by decide
        clear E4;go_wp2_with fail
        go_region
        all_goals go_wp2_with fail
        exact bodyPost_ret (v:= .tuple #[.agg #[sN,sN,iV 0],.agg #[iV 2,iV 0]]) (by simp[results,results13,go_sem,q0,q1,q2,p0,p1,z4,z5]) rfl (C0b B4.out V6c TR.out)
      · rw[if_neg hmany]at hm;obtain⟨rfl,hp⟩:=hm;have TR:=A0 (show M.PRes s.data.toList (.inr (s'.N,s'.T)) from ⟨HZ.out,s',x,E4.out,by omega,by omega,rfl,rfl⟩);obtain⟨nv,yv,nx,yx,hb,hn,hy,hrn,hry⟩:=hp.blk;obtain⟨na,nc,rfl⟩:=B7 hn;obtain⟨ya,yc,rfl⟩:=B7 hy;have c3:w4.cell? (aD (w1.heap.size+1) 3)=some (.slice na s'.N.length nc):=cr hb rfl;have c4:w4.cell? (aD (w1.heap.size+1) 4)=some (.slice ya s'.T.length yc):=cr hb rfl;have hlt:=(ltG hb);have hsm:s'.N.length<=1200:=by omega
        have OO:=A0 hy;have RR:=A0 hry;have ON:=A0 hn;have RN:=A0 hrn;clear hp hb hn hy hrn hry hmany h6 E4;generalize hnn:s'.N.length=nn at *;have HNN:=A0 hnn;clear hnn;go_wp2_with fail
        go_region
        go_wp2_with fail
        have hnn:=HNN.out;subst hnn;exact bodyPost_ret (v:= .tuple #[.agg #[.slice na s'.N.length nc,.slice ya s'.T.length yc,iV ((s'.N.length:Int) - 1)],.agg #[iV 0,iV 0]]) (by simp[results,results13,go_sem,q0,q1,q2,p0,p1,z4,z5]) rfl (I9c B4.out V6c QP4.out QF4.out ON.out RN.out OO.out RR.out TR.out)
    · exact absurd (M.V8c E4.out) h6
 · have he':((M.I5 s.data.toList).2.1 !=0)=true:=by simp[he]
   have TR:=A0 (show M.PRes s.data.toList (.inl ((M.I5 s.data.toList).2.1,((M.I5 s.data.toList).2.2:Int))) from ⟨he,.inl ⟨rfl,rfl⟩⟩);have q0:w1.cell? (aD w.heap.size 0)=some (sN):=cr QP.out rfl;have q1:w1.cell? (aD w.heap.size 1)=some (sN):=cr QP.out rfl;have q2:w1.cell? (aD w.heap.size 2)=some (iV 0):=cr QP.out rfl;have qf:∀o,w1.frozen? (aD w.heap.size o)=false:=λo=>frozen_of_row w1 _ o _ _ QP.out;have p0:w1.cell? (aD (w.heap.size+1) 0)=some (iV 0):=cr QF.out rfl;have p1:w1.cell? (aD (w.heap.size+1) 1)=some (iV 0):=cr QF.out rfl;have pf:∀o,w1.frozen? (aD (w.heap.size+1) o)=false:=λo=>frozen_of_row w1 _ o _ _ QF.out;clear HO QP QF he;generalize (M.I5 s.data.toList).2.1=er at *;generalize ((M.I5 s.data.toList).2.2:Int)=p at *;go_wp2_with fail
   go_region
   all_goals go_wp2_with fail
   exact bodyPost_ret (v:= .tuple #[.agg #[sN,sN,iV 0],.agg #[iV er,iV p]]) (by simp[results,results13,go_sem,q0,q1,q2,p0,p1,hz,hza]) rfl (C0b HB.out V6c TR.out)
end Go.Proofs.YtfhhipefecekkaaGreatDoor
