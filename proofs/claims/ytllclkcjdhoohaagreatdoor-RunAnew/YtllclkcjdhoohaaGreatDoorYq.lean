/-
  A part of the proof.
-/
import Derived.Test.YtllclkcjdhoohaaGreatDoorScanB
set_option linter.all false
set_option maxHeartbeats 0
set_option linter.all false
set_option maxRecDepth 100000
namespace Go.Proofs.YtllclkcjdhoohaaGreatDoor
open _root_.Array renaming size->V,getElem?_eq_some_iff->ş
open Bool renaming true->τ,false->κ
open Ev renaming bind->ú,bad->ø,pure->Ç
open Go renaming Value->υ,Ending->ò,Calls->μ,cell_of_row->ä,Addr->í,frozen_of_row->æ,heap_setCell_same->ð,maxLen->Δ,bodyPost_ret->ç,results->ã
open Ending renaming returned->π
open Obj renaming cells->γ
open RowKit.Below renaming heap_alloc->ÿ
open Value renaming string->ι,slice->Y,ownBlock->Θ
open World renaming cell?->δ,ownsRow->ρ,setCell->σ,size_alloc->Ô
open I renaming drewN->Ψ,alloc->ν,trans->Ã
open Int renaming eq_ofNat_of_zero_le->È
open List renaming length->Q,toArray->ξ
open Option renaming some->C
open Go.RowKit
/-!### Rows of structs -/
def Kept.drewN {B:Nat} {ok:Nat→Prop} {a b:E} (h:Kept B ok a b) (n:Nat):Kept B ok a (b.drewN n):=h.trans<|Ψ _ _ _
open Go.Proofs.Tryz
structure Pg where
 B:Nat
 pb:Nat
 tv:υ
 L:List Tk
 hL:cY L
structure Pf_ (g:Pg) (α:Type) where
 w:E
 ok:Nat→Prop
 lo:Nat
 F:Sp→Option (Out α)
abbrev gp (g:Pg):υ:=pV g.pb
abbrev Gw_ (u v z:Nat) (s t:St):Prop:=s.i+u≤t.i∧Q t.N+s.i+v≤Q s.N+t.i∧Q t.T+s.i+z≤Q s.T+t.i∧Q s.N≤Q t.N
structure Qs_ {g:Pg} {α:Type} (q:Pf_ g α) (d:Nat) (s:St) (R:Sp→Option (Out α)) (a:E):Prop where
 k:aV g.B q.ok q.lo q.w a
 p:aH a g.B g.pb g.tv g.L q.ok d s
 v:∀ o,Ev g.L R o→Ev g.L q.F o
 n:∀ b,V a.heap≤b→q.ok b
 b:g.B≤V a.heap
def Qf_ {g:Pg} {α:Type} (q:Pf_ g α) (e:ò) (a:E):Prop:=∃ er p,e=gu er p∧er≠0∧aV g.B q.ok q.lo q.w a∧Ev g.L q.F (.fail er p)
abbrev Qe_ {g:Pg} (P:St→St→Int→Prop) (q:Pf_ g Int) (d:Nat) (s:St) (e:ò) (a:E):Prop:=(∃ t x,e=π (U x)∧P s t x∧Qs_ q d t (λ_=>C<|.ok t x) a)∨Qf_ q e a
abbrev CQ (g:Pg) (G:Nat) (A:Array υ) (φ:Sp→Nat→St→Option (Out Int)) (P:St→St→Int→Prop) (H:St→Prop):Prop:=∀ ⦃q:Pf_ g Int⦄ ⦃d s a⦄,H s→Qs_ q d s (λr=>φ r d s) a→μ Tryz.prog G A a (Qe_ P q d s)
abbrev lf (g:Pg) (m:Nat) (s:St):Prop:=Q g.L≤s.i+m
abbrev St.ad (s:St) (n:Nd):St:=⟨s.i,s.N++[n],s.T⟩
abbrev St.ay (s:St) (n:Ty):St:=⟨s.i,s.N,s.T++[n]⟩
abbrev Ga_ (s t:St):Prop:=s.i≤t.i∧t.i≤s.i∧Q t.N≤Q s.N+1∧Q s.N+1≤Q t.N∧Q t.T≤Q s.T
abbrev Gb_ (s t:St):Prop:=s.i≤t.i∧t.i≤s.i∧Q t.T≤Q s.T+1∧Q t.N≤Q s.N∧Q s.N≤Q t.N
abbrev Gt_ (s t:St) (_:Int):Prop:=Gw_ 1 0 0 s t
abbrev Gz_ (s t:St) (_:Int):Prop:=Gw_ 0 0 0 s t
abbrev Gn_ (s t:St) (x:Int):Prop:=Gw_ 1 0 0 s t∧(Q s.N:Int)≤x∧x<Q t.N
theorem ob {α β:Type} {s:St} {x:α} {k:St→α→Option (Out β)}:A8 (C<|.ok s x) k=k s x:=K
section
variable {g:Pg} {α β:Type} {q:Pf_ g α} {a b:E} {d:Nat} {s t:St} {R:Sp→Option (Out α)} {k:Sp→St→β→Option (Out α)} {A M:Sp→Option (Out α)} {mk:bZ} {m:Nat} {P:St→St→Int→Prop} {φ:Sp→Nat→St→Option (Out Int)}
def aV.kept {B:Nat} {ok:Nat→Prop} (h:aV B ok (V a.heap) a b):Kept B ok a b:=I.mono h λi hi x=>x.elim id (λy=>W)
def Qs_.to {e:Nat} (st:Qs_ q d s R a) (hk:Kept g.B q.ok a b) (hp:aH b g.B g.pb g.tv g.L q.ok e t) (v:∀ o,Ev g.L A o→Ev g.L R o):Qs_ q e t A b:=
 ⟨st.k.andThen hk,hp,λo h=>st.v o<|v o h,λi hi=>st.n i<|Nat.le_trans hk.size hi,Nat.le_trans st.b hk.size⟩
theorem Qs_.y (st:Qs_ q d s R a) (hc:I No a b):Qs_ q d s R b:=st.to (C9 hc) (st.p.y hc) λ_ h=>h
def Qs_.bad (st:Qs_ q d s R a) (hk:Kept g.B q.ok a b) {er p:Int} (he:er≠0) (v:Ev g.L R<|.fail er p):Qf_ q (gu er p) b:=⟨er,p,K,he,st.k.andThen hk,st.v _ v⟩
def Qs_.eq (st:Qs_ q d s R a) (e:∀ r,R r=A r):Qs_ q d s A a:={st with v:=λo h=>st.v o (h.eq e)}
theorem Qs_.step (st:Qs_ q d s R a):Qs_ q d s (λr=>R<|step g.L r) a:={st with v:=λo h=>st.v o h.step}
def gw_nx:Gw_ 1 1 1 s s.nx:=by simp only [Gw_,St.nx];omega
def Qs_.ft {k:Sp→St→Unit→Option (Out α)} (st:Qs_ q d s (λr=>A8 (aC g.L s mk)<|k r) a):
 μ Tryz.prog 189 #[gp g,ι ⟨ξ mk⟩] a λe b=>(∃ t x,e=rT∧Gw_ 1 1 1 s t∧Qs_ q d t (λr=>k r t x) b∧Hid (Kept g.B q.ok a b))∨Qf_ q e b:=by
 refine (I7 g.hL st.p mk).mono ?_;rintro e b ⟨hk,⟨hb,rfl,hp⟩|⟨hb,rfl⟩⟩
 .exact .inl ⟨s.nx,(),K,gw_nx,st.to hk hp λo h=>ú (Q8 hb) h,hk⟩
 .exact .inr (st.bad hk ζ<|ø<|U3 hb)
def Qs_.took (st:Qs_ q d s (λr=>if aL g.L s.i [mk] then A r else M r) a):
 μ Tryz.prog 123 #[gp g,ι ⟨ξ mk⟩] a λe b=>(e=π (.bool τ)∧Gw_ 1 1 1 s s.nx∧Qs_ q d s.nx A b∧Hid (Kept g.B q.ok a b))∨(e=π (.bool κ)∧(aL g.L s.i [mk]).toNat≤0∧Qs_ q d s M b∧Hid (Kept g.B q.ok a b)):=by
 refine (H7 g.hL st.p mk).mono ?_;rintro e b ⟨rfl,hk,hp⟩;by_cases h:aL g.L s.i [mk]=τ
 .rw [h] at hp;exact .inl ⟨by rw [h],gw_nx,st.to hk hp λo x=>x.eq λr=>by rw [h];rfl,hk⟩
 .have h:=Bool.eq_false_iff.2 h;rw [h] at hp;exact .inr ⟨by rw [h],by rw [h];decide,st.to hk hp λo x=>x.eq λr=>by rw [h];rfl,hk⟩
def oite {c:Bool} {x y:Option (Out β)} {k:St→β→Option (Out α)}:A8 (if c then x else y) k=if c then A8 x k else A8 y k:=by cases c<;>rfl
def Qs_.isq {ms:List bZ} {cs:Array υ} {n g0:Nat} (st:Qs_ q d s (λr=>if aL g.L s.i ms then A r else M r) a) (hg:g0=V a.heap:=by simp) (hc:cs=pZ ms:=by rfl) (hn:n=Q ms∧n≤4000:=by decide):
 μ Tryz.prog 63 #[gp g,Y (C<|J g0 0) n n] (a.alloc<|γ cs 9) λe b=>(e=π (.bool τ)∧((tk g.L s.i).x≠6∧1≤(aL g.L s.i ms).toNat)∧Qs_ q d s A b∧Hid (Kept g.B q.ok a b))∨(e=π (.bool κ)∧Qs_ q d s M b∧Hid (Kept g.B q.ok a b)):=by
 obtain ⟨rfl,hn⟩:=hn;subst hg hc;refine (sY g.hL (st.p.alloc _) _ _ ms (xG _ _ _) hn).mono ?_;rintro e b ⟨rfl,hc⟩;have hk:=((Kept.refl g.B q.ok a).alloc<|γ (pZ ms) 9).trans<|C9 hc;have st:=st.to hk ((st.p.alloc _).y hc) λ_ h=>h;by_cases h:aL g.L s.i ms=τ
 .exact .inl ⟨by rw [h],⟨TC h,by rw [h];decide⟩,st.eq λr=>by rw [h];rfl,hk⟩
 .have h:=Bool.eq_false_iff.2 h;exact .inr ⟨by rw [h],st.eq λr=>by rw [h];rfl,hk⟩
def Qs_.isb {ms:List bZ} {n g0:Nat} (st:Qs_ q d s (λr=>if aL g.L s.i ms then A r else M r) a) (hs:iJ a g0 ms) (hn:n=Q ms∧n≤4000:=by decide):
 μ Tryz.prog 63 #[gp g,Y (C<|J g0 0) n n] a λe b=>(e=π (.bool τ)∧(tk g.L s.i).x≠6∧Qs_ q d s A b∧Hid (Kept g.B q.ok a b))∨(e=π (.bool κ)∧Qs_ q d s M b∧Hid (Kept g.B q.ok a b)):=by
 obtain ⟨rfl,hn⟩:=hn;refine (sY g.hL st.p _ _ ms hs.strs hn).mono ?_;rintro e b ⟨rfl,hc⟩;have st:=st.y hc;by_cases h:aL g.L s.i ms=τ
 .exact .inl ⟨by rw [h],TC h,st.eq λr=>by rw [h];rfl,C9 hc⟩
 .have h:=Bool.eq_false_iff.2 h;exact .inr ⟨by rw [h],st.eq λr=>by rw [h];rfl,C9 hc⟩
def Qs_.ms {α':Type} {q':Pf_ g α'} {e:Nat} {B:Sp→Option (Out α')} (st:Qs_ q d s R a) (h:Qs_ q' e t B b) (hi:s.i<t.i:=by omega):Q g.L-qI b g.pb<Q g.L-qI a g.pb:=by
 rw [h.p.j3,st.p.j3];have:=h.p.at';omega
def Qs_.nodeAt {j:Nat} (st:Qs_ q d s R a) (hk:j<Q s.N):∃ i c,δ a (J g.pb 3)=C (Y (C<|J i 0) (Q s.N) c)∧Q s.N≤c∧c≤9223372036854775807∧i<V a.heap∧g.pb<V a.heap∧δ a (J i<|j*9+8)=C (U<|iC s (j:Int)):=st.p.nodeAt hk
def Qs_.fail {er:Int} {n:Nat} (st:Qs_ q d s (λ_=>bF g.L n er) a) (hn:n=s.i:=by rfl) (he:er≠0:=by decide):μ Tryz.prog 43 #[gp g,U er] a (Qf_ q):=by
 subst hn;refine (vP g.hL st.p er).mono ?_;rintro e b ⟨rfl,hc⟩;exact st.bad (C9 hc) he Ç
theorem Qs_.at (st:Qs_ q d s R a):μ Tryz.prog 83 #[gp g] a λe b=>e=π (U ((tk g.L s.i).at':Int))∧Qs_ q d s R b∧Hid (Kept g.B q.ok a b):=
 (xP g.hL st.p).mono λ_ _ ⟨h,hc⟩=>⟨h,st.y hc,C9 hc⟩
def Qs_.tok (st:Qs_ q d s R a):μ Tryz.prog 81 #[gp g] a λe b=>e=π (.agg #[U (tk g.L s.i).x,ι ⟨ξ (tk g.L s.i).text⟩,U ((tk g.L s.i).at':Int)])∧Qs_ q d s R b∧Hid (Kept g.B q.ok a b):=
 (W6 g.hL st.p).mono λ_ _ ⟨h,hc⟩=>⟨h,st.y hc,C9 hc⟩
def Qs_.tokk {z:Int} (st:Qs_ q d s R a) (h:(tk g.L s.i).x=z):μ Tryz.prog 81 #[gp g] a λe b=>e=π (.agg #[U z,ι ⟨ξ (tk g.L s.i).text⟩,U ((tk g.L s.i).at':Int)])∧Qs_ q d s R b∧Hid (Kept g.B q.ok a b):=h ▸ st.tok
theorem blk {B i:Nat} {ok:Nat→Prop} {cs:Array υ} {e:TypeId} (f:Hid<|a.heap[i]?=C (γ cs e (0,0))) (hk:Hid<|Kept B ok a b) (he:e≠78∧e≠82∧e≠99:=by decide):Hid (b.heap[i]?=C (γ cs e (0,0)))∧(∀ o,δ b (J i o)=cs[o]?)∧i<V b.heap:=
 have h:=zO hk f he;⟨h,λo=>ä b i o _ _ _ h,(ş.1 h).1⟩
def Qs_.begE (st:Qs_ q d s R a):μ Tryz.prog 84 #[gp g] a λe b=>e=π (.bool<|lY g.L s.i)∧Qs_ q d s R b∧Hid (Kept g.B q.ok a b):=
 (RT g.hL st.p).mono λ_ _ ⟨h,hc⟩=>⟨h,st.y hc,C9 hc⟩
def Qs_.take (st:Qs_ q d s R a) (h:(tk g.L s.i).x≠6):μ Tryz.prog 250 #[gp g] a λe b=>e=π (.agg #[U (tk g.L s.i).x,ι ⟨ξ (tk g.L s.i).text⟩,U ((tk g.L s.i).at':Int)])∧Gw_ 1 1 1 s s.nx∧Qs_ q d s.nx R b∧Hid (Kept g.B q.ok a b):=
 (DL g.hL st.p h).mono λ_ _ ⟨h,hk,hp⟩=>⟨h,gw_nx,st.to hk hp λ_ x=>x,hk⟩
theorem Qs_.name {n:Nat} (st:Qs_ q d s (λr=>if (tk g.L n).x=1 then A r else bF g.L n 1) a) (hn:n=s.i:=by rfl):
 μ Tryz.prog 205 #[gp g] a λe b=>(∃ t x,e=π (ι ⟨ξ x⟩)∧Gw_ 1 1 1 s t∧Qs_ q d t A b∧Hid (Kept g.B q.ok a b)∧t=s.nx∧x=(tk g.L n).text)∨Qf_ q e b:=by
 subst hn;refine (MH g.hL st.p).mono ?_;rintro e b ⟨hk,⟨h,rfl,hp⟩|⟨h,rfl⟩⟩
 .exact .inl ⟨s.nx,_,K,gw_nx,st.to hk hp λo x=>x.eq λr=>if_pos h,hk,K,K⟩
 .exact .inr (st.bad hk ζ<|Ev.pure.eq λr=>if_neg h)
def Ow (q:Pf_ g α) (l:uZ) (la:Option í) (lc:Nat) (a:E):Prop:=ρ a 0 3 1 (Y la (Q l) lc) (Q l) (C8 l)∧∀ i,Θ (Y la (Q l) lc)=C i→q.ok i
def Ow.kept {l:uZ} {la:Option í} {lc:Nat} (h:Hid<|Ow q l la lc a) (hk:Hid<|Kept g.B q.ok a b):Hid (Ow q l la lc b):=⟨G9 h.1 hk ζ,h.2⟩
theorem Ow.nil:Ow q [] none 0 a:=⟨World.ownsRow_nil _ _ _ _,by simp [Θ]⟩
theorem Qs_.add (st:Qs_ q d s R a) {kd va vb vc vn y vp:Int} {l:uZ} {tx:bZ} {la:Option í} {lc:Nat} (o:Ow q l la lc a) (hf:Q s.N+1≤s.i:=by omega):
 μ Tryz.prog 45 #[gp g,.agg #[U kd,U va,U vb,U vc,Y la (Q l) lc,ι ⟨ξ tx⟩,U vn,U y,U vp]] a λe b=>
  e=π (U (Q s.N))∧Ga_ s (s.ad ⟨kd,va,vb,vc,l,tx,vn,-1,vp⟩)∧Qs_ q d (s.ad ⟨kd,va,vb,vc,l,tx,vn,-1,vp⟩) R b∧Hid (Kept g.B q.ok a b):=
 (Q6 g.hL st.p ⟨kd,va,vb,vc,l,tx,vn,-1,vp⟩ y la (Q l) lc ⟨_,K,o.1,o.2⟩ K hf st.b st.n).mono λ_ _ ⟨h,hk,hp⟩=>⟨h,θ,st.to hk hp λ_ x=>x,hk⟩
def Qs_.addy (st:Qs_ q d s R a) {kd va vb vc vn ty vp:Int} {l:uZ} {tx:bZ} {la:Option í} {lc:Nat} (o:Ow q l la lc a) (hf:Q s.N+1≤s.i:=by omega):
 μ Tryz.prog 86 #[gp g,.agg #[U kd,U va,U vb,U vc,Y la (Q l) lc,ι ⟨ξ tx⟩,U vn,U ty,U vp]] a λe b=>
  e=π (U (Q s.N))∧Ga_ s (s.ad ⟨kd,va,vb,vc,l,tx,vn,ty,vp⟩)∧Qs_ q d (s.ad ⟨kd,va,vb,vc,l,tx,vn,ty,vp⟩) R b∧Hid (Kept g.B q.ok a b):=
 (U0 g.hL st.p ⟨kd,va,vb,vc,l,tx,vn,ty,vp⟩ la (Q l) lc ⟨_,K,o.1,o.2⟩ hf st.b st.n).mono λ_ _ ⟨h,hk,hp⟩=>⟨h,θ,st.to hk hp λ_ x=>x,hk⟩
def Qs_.addt (st:Qs_ q d s R a) {kd vo:Int} {l:uZ} {la:Option í} {lc:Nat} (o:Ow q l la lc a) (hf:Q s.T+1≤s.i:=by omega):
 μ Tryz.prog 124 #[gp g,.agg #[U kd,sN,Y la (Q l) lc,U vo]] a λe b=>
  e=π (U (Q s.T))∧Gb_ s (s.ay ⟨kd,[],l,vo⟩)∧Qs_ q d (s.ay ⟨kd,[],l,vo⟩) R b∧Hid (Kept g.B q.ok a b):=
 (EH g.hL st.p ⟨kd,[],l,vo⟩ none la 0 0 (Q l) lc ⟨_,_,K,World.ownsRow_nil _ _ _ _,o.1,by simp [Θ],o.2⟩ hf st.b st.n).mono λ_ _ ⟨h,hk,hp⟩=>⟨h,θ,st.to hk hp λ_ x=>x,hk⟩
end
section
variable {g:Pg} {α:Type} {q:Pf_ g α} {a b:E} {d G:Nat} {H:St→Prop} {s t:St} {A:Array υ} {P:St→St→Int→Prop} {φ:Sp→Nat→St→Option (Out Int)}
def Qs_.call {k:Sp→St→Int→Option (Out α)} (c:CQ g G A φ P H) (st:Qs_ q d s (λr=>A8 (φ r d s)<|k r) a) (hm:H s:=by omega):
 μ Tryz.prog G A a λe b=>(∃ t x,e=π (U x)∧P s t x∧Qs_ q d t (λr=>k r t x) b∧Hid (Kept g.B q.ok a b))∨Qf_ q e b:=by
 refine (c (q:=⟨a,q.ok,V a.heap,λr=>φ r d s⟩) hm ⟨(Kept.refl _ _ _).mj,st.p,λ_ h=>h,st.n,st.b⟩).mono ?_;rintro e b (⟨t,x,rfl,hP,h⟩|⟨er,p,rfl,he,hk,hv⟩)
 .exact .inl ⟨t,x,K,hP,st.to (aV.kept h.k) h.p λo ho=>ú (h.v _ Ç) ho,aV.kept h.k⟩
 .exact .inr<|st.bad (aV.kept hk) he<|ø hv
theorem Qs_.tl {q:Pf_ g Int} (st:Qs_ q d s (λr=>φ r d s) a) (c:CQ g G A φ P H) (hm:H s:=by omega):
 μ Tryz.prog G A a λe b=>(∃ t x,e=π (U x)∧P s t x∧Qs_ q d t (λ_=>C<|.ok t x) b∧Hid (Kept g.B q.ok a b))∨Qf_ q e b:=by
 refine (c (q:=⟨a,q.ok,V a.heap,λr=>φ r d s⟩) hm ⟨(Kept.refl _ _ _).mj,st.p,λ_ h=>h,st.n,st.b⟩).mono ?_;rintro e b (⟨t,x,rfl,hP,h⟩|⟨er,p,rfl,he,hk,hv⟩)
 .exact .inl ⟨t,x,K,hP,st.to (aV.kept h.k) h.p λo ho=>Ev.one (Ç (o:=.ok t x)) ho ▸ h.v _ Ç,aV.kept h.k⟩
 .exact .inr<|st.bad (aV.kept hk) he hv
theorem CQ.of (h:∀ (q:Pf_ g Int) d s,H s→q.lo=V q.w.heap→Qs_ q d s (λr=>φ r d s) q.w→μ Tryz.prog G A q.w (Qe_ P q d s)):CQ g G A φ P H:=by
 intro q d s a hm st;refine (h ⟨a,q.ok,V a.heap,λr=>φ r d s⟩ d s hm K ⟨(Kept.refl _ _ _).mj,st.p,λ_ h=>h,st.n,st.b⟩).mono ?_;rintro e b (⟨t,x,rfl,hP,h⟩|⟨er,p,rfl,he,hk,hv⟩)
 .exact .inl ⟨t,x,K,hP,st.to (aV.kept h.k) h.p λo ho=>Ev.one (Ç (o:=.ok t x)) ho ▸ h.v _ Ç⟩
 .exact .inr<|st.bad (aV.kept hk) he hv
def inside_or {L:List Tk} {x y:Bool} {d:Nat} {s:St} {p:Nat→St→Option (Out Int)}:aS L (x||y) d s p=if x then aS L τ d s p else aS L y d s p:=by cases x<;>rfl
def inside_if {L:List Tk} {x:Bool} {d:Nat} {s:St} {p:Nat→St→Option (Out Int)}:aS L x d s p=if x then aS L τ d s p else aS L κ d s p:=by cases x<;>rfl
def y_inside {kf:Nat} (c:CQ g kf #[gp g] φ P H) (cf:∀ (args:Array υ) (Gw:E),(callFunc kf args).run Tryz.prog Gw=.ok (.enter kf args) Gw:=by exact λ_ _=>ũ) (z:Bool):CQ g 64 #[gp g,.bool z,.func (.func kf) #[gp g] #[]] (λr d s=>aS g.L z d s<|φ r) P H:=by
 intro q d s a hm st;obtain ⟨-,-,nv,yv,-,-,-,-,hlt,-,-,c2,-,-,fz,-⟩:=st.p.cell;by_cases hz:z=τ∧¬ 20≤d
 .obtain ⟨rfl,hd⟩:=hz;have st:=Qs_.to st (st.p.ju 2<|U ((d+1:Nat):Int)) (st.p.lh<|d+1) λo (h:Ev g.L (λr=>φ r (d+1) s) o)=>h.eq λr=>by simp [aS,hd]
  have hd':¬ (20:Int)≤d:=W;go_in;go_wp2_with ((refine (st.tl c).mono ?_);rintro e b (⟨t,x,rfl,hP,st,-⟩|hf);rotate_left;obtain ⟨er,p,rfl,hf⟩:=hf;exact ⟨K,.inr ⟨er,p,K,hf⟩⟩;obtain ⟨-,-,-,-,-,-,-,-,hlt,-,-,c2,-,-,fz,-⟩:=st.p.cell;have st:=O<|Qs_.to st (st.p.ju 2<|U (d:Int)) (st.p.lh d) λ_ h=>h);go_ret;exact .inl ⟨t,x,K,hP,st.u⟩
 .have h1:(z=τ∧20≤d)∨z=κ:=by cases z<;>simp_all
  obtain⟨rfl,hd⟩|rfl:=h1
  .have hd':(20:Int)≤d:=W;have st:=st.eq λr=>(by simp [aS,hd]:aS g.L τ d s (φ r)=bF g.L s.i 8);go_in;go_wp2_with ((with_reducible refine st.fail.mono ?_);rintro e b ⟨er,p,rfl,hf⟩;exact ⟨K,.inr ⟨er,p,K,hf⟩⟩)
  .have st:=st.eq λr=>(K:aS g.L κ d s (φ r)=bF g.L s.i 1);go_in;go_wp2_with ((with_reducible refine st.fail.mono ?_);rintro e b ⟨er,p,rfl,hf⟩;exact ⟨K,.inr ⟨er,p,K,hf⟩⟩)
end
abbrev Pf_.ex {g:Pg} {α:Type} (q:Pf_ g α) (v:υ):Pf_ g α:={q with ok:=λi=>q.ok i∧C i≠Θ v}
def Knn (a b:E):Prop:=I (λk=>∃ cs e fz,a.heap[k]?=C (γ cs e fz)∧(e=78∨e=82∨e=99∨e=3)) a b
section
variable {g:Pg} {α β:Type} {q:Pf_ g α} {a b:E} {d:Nat} {s t:St} {R:Sp→Option (Out α)} {v:υ}
def Kept.kn {B:Nat} {ok:Nat→Prop} (h:Kept B ok a b):Knn a b:=I.mono h λ_ _ ⟨_,⟨cs,e,fz,h,x⟩,_⟩=>⟨cs,e,fz,h,η⟩
def Qs_.un (st:Qs_ (q.ex v) d s R a):Qs_ q d s R a:=⟨st.k.mono λ_ h=>h.1,st.p.mono λ_ h _=>h.1,st.v,λi h=>(st.n i h).1,st.b⟩
def Qs_.ex0 (st:Qs_ q d s R a):Qs_ (q.ex<|sN) d s R a:=⟨st.k.mono λ_ h=>⟨h,by simp [Θ]⟩,st.p.mono λ_ h _=>⟨h,by simp [Θ]⟩,st.v,λi h=>⟨st.n i h,by simp [Θ]⟩,st.b⟩
def Qf_.un {e:ò} (h:Qf_ (q.ex v) e a):Qf_ q e a:=by
 obtain ⟨er,p,h,he,k,v⟩:=h;exact ⟨er,p,h,he,k.mono λ_ h=>h.1,v⟩
abbrev Pf_.sub (q:Pf_ g α) (a:E) (F:Sp→Option (Out β)):Pf_ g β:=⟨a,q.ok,q.lo,F⟩
def Qs_.enter {φ:Sp→Option (Out β)} {k:Sp→St→β→Option (Out α)} (st:Qs_ q d s (λr=>A8 (φ r)<|k r) a):Qs_ (q.sub a φ) d s φ a:=⟨(Kept.refl _ _ _).mj,st.p,λ_ h=>h,st.n,st.b⟩
def Qs_.leave {e:Nat} {x:β} {φ:Sp→Option (Out β)} {k:Sp→St→β→Option (Out α)} (st:Qs_ q d s (λr=>A8 (φ r)<|k r) a) (h:Qs_ (q.sub a φ) e t (λ_=>C<|.ok t x) b):Qs_ q e t (λr=>k r t x) b:=
 ⟨st.k.trans h.k,h.p,λ_ ho=>st.v _<|ú (h.v _ Ç) ho,h.n,h.b⟩
def Qs_.lost {e:ò} {φ:Sp→Option (Out β)} {k:Sp→St→β→Option (Out α)} (st:Qs_ q d s (λr=>A8 (φ r)<|k r) a) (h:Qf_ (q.sub a φ) e b):Qf_ q e b:=by
 obtain ⟨er,p,rfl,he,hk,v⟩:=h;exact ⟨er,p,K,he,st.k.trans hk,st.v _<|ø v⟩
theorem Ow.of {l:uZ} {ad:Option í} {cc:Nat} (st:Qs_ q d s R a) (o:Hid<|ρ b (V a.heap) 3 1 (Y ad (Q l) cc) (Q l)<|C8 l):Hid (Ow q l ad cc b):=⟨C7 o.u<|Nat.zero_le _,λi h=>st.n i (A9 o.u i h).1⟩
def Qs_.exl (st:Qs_ q d s R a) (x:Int):Qs_ (q.ex<|Y (C<|J (V a.heap) 0) 1 1) d s R (a.alloc<|γ #[U x] 3):=
 ⟨(show aV g.B (q.ex<|Y (C<|J (V a.heap) 0) 1 1).ok q.lo q.w a from I.mono st.k λk hk y=>y.imp (λy=>⟨y.1,y.2.1,y.2.2,λz=>by have:=st.k.size;simp [Θ] at z;omega⟩) id).alloc _,st.p.P (ν No _ _) (λ_ _ _ _ x=>x.elim) λi h hl=>⟨h,by simp [Θ];omega⟩,st.v,λi h=>by simp at h;exact ⟨st.n i W,by simp [Θ];omega⟩,by have:=st.b;simp;omega⟩
def Qs_.exo (st:Qs_ q d s R a) (o:Obj):Qs_ (q.ex<|Y (C<|J (V a.heap) 0) 1 1) d s R (a.alloc o):=
 ⟨(show aV g.B (q.ex<|Y (C<|J (V a.heap) 0) 1 1).ok q.lo q.w a from I.mono st.k λk hk y=>y.imp (λy=>⟨y.1,y.2.1,y.2.2,λz=>by have:=st.k.size;simp [Θ] at z;omega⟩) id).alloc _,st.p.P (ν No _ _) (λ_ _ _ _ x=>x.elim) λi h hl=>⟨h,by simp [Θ];omega⟩,st.v,λi h=>by simp at h;exact ⟨st.n i W,by simp [Θ];omega⟩,by have:=st.b;simp;omega⟩
def blkf {B i lo:Nat} {cs:Array υ} (f:Hid<|a.heap[i]?=C (γ cs 82 (0,0))) (hk:Hid<|aV B (q.ex<|Y (C<|J i 0) 1 1).ok lo a b):Hid (b.heap[i]?=C (γ cs 82 (0,0)))∧(∀ o,δ b (J i o)=cs[o]?)∧i<V b.heap∧∀ o,b.frozen? (J i o)=κ:=by
 have h:b.heap[i]?=C (γ cs 82 (0,0)):=(hk.u.block i (ş.1 f.u).1 (λx=>by
  obtain⟨_,_,_,h⟩|⟨_,cs',e,fz,h,r⟩:=x
  .exact h K
  .rw [f.u] at h;simp only [Option.some.injEq,Obj.cells.injEq] at h;obtain ⟨_,rfl,_⟩:=h;revert r;decide)).trans f.u;exact ⟨h,λo=>ä b i o _ _ _ h,(ş.1 h).1,λo=>æ b i o _ _ h⟩
theorem Ow.P {l:uZ} {la:Option í} {lc i:Nat} {cs:Array υ} (w:Hid<|Ow q l la lc a) (f:Hid<|a.heap[i]?=C (γ cs 82 (0,0))) (hc:I (λk=>k=i) a b):Hid (Ow q l la lc b):=
 ⟨A3 w.1 hc λk hk x=>by
  obtain ⟨_,cur,h⟩:=A9 w.1 k hk;have x:k=i:=x;subst x;rw [f.u] at h;simp at h,w.2⟩
def Qs_.put9 {i:Nat} {c0 c1 c2 c3 c4 c5 c6 c7 c8:υ} (st:Qs_ (q.ex<|Y (C<|J i 0) 1 1) d s R a) (f:Hid<|a.heap[i]?=C (γ #[c0,c1,c2,c3,c4,c5,c6,c7,c8] 82 (0,0))) (hi:V q.w.heap≤i) (ht:Θ g.tv≠C i) {v0 v1 v2 v3 v4 v5 v6 v7 v8:υ}:
 ∀ b,b=(σ (σ (σ (σ (σ (σ (σ (σ (σ a (J i 0) v0) (J i 1) v1) (J i 2) v2) (J i 3) v3) (J i 4) v4) (J i 5) v5) (J i 6) v6) (J i 7) v7) (J i 8) v8)→Qs_ (q.ex<|Y (C<|J i 0) 1 1) d s R b∧Hid (b.heap[i]?=C (γ #[v0,v1,v2,v3,v4,v5,v6,v7,v8] 82 (0,0)))∧I (λk=>k=i) a b:=by
 rintro b rfl;have hc:I (λk=>k=i) a (σ (σ (σ (σ (σ (σ (σ (σ (σ a (J i 0) v0) (J i 1) v1) (J i 2) v2) (J i 3) v3) (J i 4) v4) (J i 5) v5) (J i 6) v6) (J i 7) v7) (J i 8) v8):=by
  iterate 9 refine I.put ?_ K
  exact I.refl _ _
 refine ⟨⟨Ã st.k hc λk hk x=>absurd hk<|by subst x;exact Nat.not_lt.2 hi,st.p.free hc (λk x=>by subst x;exact ⟨λh=>h.2 K,ht⟩) λ_ h _=>h,st.v,λk hk=>st.n k<|by simpa using hk,by simpa using st.b⟩,AJ f,hc⟩
def Qs_.put {i:Nat} {cs:Array υ} (st:Qs_ (q.ex<|Y (C<|J i 0) 1 1) d s R a) (f:Hid<|a.heap[i]?=C (γ cs 82 (0,0))) (o o':Nat) (v v':υ) (hi:V q.w.heap≤i) (ht:Θ g.tv≠C i):Qs_ (q.ex<|Y (C<|J i 0) 1 1) d s R (σ (σ a (J i o) v) (J i o') v')∧Hid ((σ (σ a (J i o) v) (J i o') v').heap[i]?=C (γ ((cs.setIfInBounds o v).setIfInBounds o' v') 82 (0,0)))∧∀ {l la lc},Hid (Ow (q.ex<|Y (C<|J i 0) 1 1) l la lc a)→Hid (Ow (q.ex<|Y (C<|J i 0) 1 1) l la lc<|σ (σ a (J i o) v) (J i o') v'):=by
 have hc:I (λk=>k=i) a (σ (σ a (J i o) v) (J i o') v'):=(I.set a (J i o) v).trans (I.set _ (J i o') v') λ_ _ x=>x;refine ⟨⟨Ã st.k hc λk hk x=>absurd hk<|by subst x;exact Nat.not_lt.2 hi,st.p.free hc (λk x=>by subst x;exact ⟨λh=>h.2 K,ht⟩) λ_ h _=>h,st.v,λk hk=>st.n k<|by simpa using hk,by simpa using st.b⟩,ð _ i o' _ _ _<|ð _ i o _ _ _ f,λw=>Ow.P w f hc⟩
def app_q {ops:Array Oper} {rest:List Oper} {o:Oper} {c:Act} {Gq:Exit→Act→E→Prop} {S X:Operand} {y:Int} {l:uZ} {ad:Option í} {cc n:Nat} (hgd:o.guard=none) (ho:o.op=.call {callee:=.builtin .append,args:=#[S,X],argTypes:=#[80,80]})
 (st:Qs_ (q.ex<|Y ad n cc) d s R a) (own:ρ a (V q.w.heap) 3 1 (Y ad n cc) n<|C8 l) (hl:n≤100000) (hs:c.eval S=Y ad n cc) (hx:c.eval X=Y (C<|J (V a.heap) 0) 1 1)
 (h:∀ ad cc b,Hid (Qs_ (q.ex<|Y ad (Q (l++[y])) cc) d s R b)→Hid (ρ b (V q.w.heap) 3 1 (Y ad (Q (l++[y])) cc) (Q (l++[y]))<|C8<|l++[y])→Hid (Knn a b)→wpList Tryz.prog ops Gq rest (c.put o.dst<|Y ad (Q (l++[y])) cc) b):
 wpList Tryz.prog ops Gq (o::rest) c (a.alloc<|γ #[U y] 3):=by
 obtain rfl:n=Q l:=by have:=own.1;simpa [C8] using this.symm
 obtain ⟨i0,hi0,hz0,hz1,hz2⟩:=info_parts Tryz.fy;have hz:V q.w.heap≤V a.heap:=st.k.size;refine wpList_append_own_at _ hgd S X 80 ho (V q.w.heap) 3 i0 (U 0) 1 8 Tryz.underlying80 hi0 hz0 hz1 hz2 K ζ _ _ _ hs (own.alloc _) (J (V a.heap) 0) 1 1 [U y] hx K (by grind [cell_one_new]) (by simp [Value.oneCell']) (by unfold Δ;omega) W (by simp;omega) ?_;intro v' b own2 hg _ hat;obtain ⟨ad2,c2,rfl⟩:=B8 own2;have e:Q (l++[y])=Q l+1:=θ;have hlt:∀ k,Θ (Y ad2 (Q l+1) c2)=C k→V q.w.heap≤k∧k<V b.heap:=λk hk=>⟨(A9 own2 k hk).1,(own2.lt k hk).2⟩;have P2:=(st.p.alloc<|γ #[U y] 3).grown (v':=Y ad2 (Q l+1) c2) (own.alloc _) (.inl K) hg hat;have hsz:=hg.size;have kg:=(ν (λk=>C k=Θ (Y ad (Q l) cc)) a<|γ #[U y] 3).trans (I.grown hg) λ_ _ x=>x;simp only [Ô] at hsz;rw [← e] at own2 P2 hlt ⊢;refine h ad2 c2 b ⟨?_,P2,st.v,λk hk=>⟨(st.n k W).1,λx=>by have:=hlt k x.symm;omega⟩,by have:=st.b;omega⟩ (by rw [show C8 (l++[y])=C8 l++[U y] from T4 l y];exact own2)<|kg.mono λk _ x=>?_
 .refine Ã (I.mono st.k λk hk x=>x.imp (λy=>⟨y.1,y.2.1,y.2.2.1,λz=>by have:=(hlt k z.symm).1;exact absurd hk<|Nat.not_lt.2 this⟩) id) kg λk hk x=>?_;exact absurd hk<|Nat.not_lt.2 (A9 own k x.symm).1
 .obtain ⟨-,cur,h⟩:=A9 own k x.symm;exact ⟨_,_,_,h,θ⟩
end
def zF_ {p:Prop} (h:p:=by first|exact ⟨K,.inr ⟨_,_,K,hf⟩⟩|exact ⟨K,K,.inr ⟨_,_,K,hf⟩⟩|exact ⟨K,K,K,.inr ⟨_,_,K,hf⟩⟩|exact ⟨K,.inr<|bk ⟨_,_,K,hf⟩⟩):p:=h
def zV_ {p:Prop} (h:p:=by
 go_wp2_with (first
  |((with_reducible first|refine st.ft.mono ?_|refine (st.call c).mono ?_|refine (st.tl c).mono ?_|refine (st.call u).mono ?_|refine (st.tl u).mono ?_|refine (st.call f).mono ?_|refine (st.tl f).mono ?_|refine (st.call j).mono ?_|refine (st.tl j).mono ?_|refine (st.call<|j _).mono ?_|refine (st.tl<|j _).mono ?_|refine (st.call<|f _).mono ?_|refine (st.tl<|f _).mono ?_|refine (st.tl<|u _).mono ?_);rintro e a (⟨t,x,rfl,gx,st,kk⟩|⟨er,p,rfl,hf⟩);rotate_left;exact zF_;(try dsimp only [ob] at st);(try replace S:=iJ.kept S kk);(try replace o:=O<|G9 o.u kk.u ζ);(try replace o:=Ow.kept o kk);(try obtain ⟨y,yc,yl⟩:=blk y kk);try obtain ⟨_,_,c3,hc1,hc2,hgl,hpl,c8⟩:=st.nodeAt (j:=left) W)
  |(go_at_call 123;(first|refine st.took.mono ?_|refine (st.eq λr=>oite).took.mono ?_);rintro e a (⟨rfl,gx,st,kk⟩|⟨rfl,gx,st,kk⟩);all_goals ((try dsimp only [ob] at st);(try replace o:=O<|G9 o.u kk.u ζ);(try replace o:=Ow.kept o kk);try (have st:=so.u.leave st.un;have o:=Ow.of so.u o)))
  |(go_at_call 63;first|(refine st.isq.mono ?_;rintro e a (⟨rfl,h6,st,kk⟩|⟨rfl,st,kk⟩))|(refine (st.isb S).mono ?_;rintro e a (⟨rfl,h6,st,kk⟩|⟨rfl,st,kk⟩);all_goals replace S:=iJ.kept S kk))
  |((with_reducible first|refine st.at.mono ?_|refine st.begE.mono ?_);rintro e a ⟨rfl,st,kk⟩;try obtain ⟨y,yc,yl⟩:=blk y kk)
  |(go_at_call 81;refine (st.tokk hk).mono ?_;rintro e a ⟨rfl,st,kk⟩)
  |(refine (HO _).mono ?_;rintro e a ⟨rfl,hc⟩;replace st:=Qs_.y st hc)
  |(go_at_call 205;refine st.name.mono ?_;rintro e a (⟨t,x,rfl,gx,st,kk,rfl,rfl⟩|⟨er,p,rfl,hf⟩);rotate_left;exact zF_)
  |(go_at_call 43;refine st.fail.mono ?_;rintro e a ⟨er,p,rfl,hf⟩;exact zF_)
  |((first|(go_at_call 250;refine (st.take W).mono ?_)|(go_at_call 45;first|refine (st.add o.u).mono ?_|refine (st.add Ow.nil).mono ?_)|(go_at_call 86;first|refine (st.addy o.u).mono ?_|refine (st.addy Ow.nil).mono ?_)|(go_at_call 124;first|refine (st.addt o.u).mono ?_|refine (st.addt Ow.nil).mono ?_));rintro e a ⟨rfl,gx,st,kk⟩;try dsimp only [aE,bQ,ob] at st)
  |(go_at_call 242;refine (st.lsm v).mono ?_;rintro e a (⟨t,l,la,lc,rfl,gx,st,o,kk⟩|⟨er,p,rfl,hf⟩);rotate_left;exact zF_)
  |(at_builtin;refine app_q K K st o.u W K K ?_;intro ad cc a st o kn)
  |go_in);all_goals first
  |(go_ret;exact .inl ⟨_,_,K,W,st⟩)
  |(go_roundw;(case rel=>first|exact ⟨_,_,K,W,À,st⟩|exact ⟨_,_,_,_,θ,by simp only [List.length_append,List.length_cons,List.length_nil];omega,o,st⟩);exact Qs_.ms sr.u st)):p:=h
def zW_ {p:Prop} (h:p:=by
 go_in;exact zV_):p:=h
def zP_ {p:Prop} (h:p:=by
 intro q d s a hm st;have hw:=st.p.fq;have st:=st.step;dsimp only [step] at st;exact zW_):p:=h
section
variable {g:Pg} {m:Nat}
def y_tyif (c:CQ g 32 #[gp g] Sp.typ Gt_<|lf g m):CQ g 206 #[gp g] (λr d s=>bC g.L r d s) Gz_ (lf g m):=by
 intro q d s a hm st;dsimp only [bC] at st;exact zW_
def y_typ (c:CQ g 65 #[gp g] Sp.union Gt_<|lf g m):CQ g 32 #[gp g] Sp.typ Gt_ (lf g m):=by
 intro q d s a hm st;have st:=st.step.eq λr=>inside_if;have u:=y_inside c (by exact λ_ _=>ũ) τ;have f:=y_inside c (by exact λ_ _=>ũ) κ;exact zW_
def y_expr (c:CQ g 251 #[gp g] Sp.comp Gn_<|lf g m):CQ g 207 #[gp g] Sp.expr Gn_ (lf g m):=by
 intro q d s a hm st;have st:=st.step;have u:=y_inside c (by exact λ_ _=>ũ)<|lY g.L s.i;dsimp only [step] at st;exact zW_
end
section
variable {g:Pg} {m:Nat}
def y_stmt (c:CQ g 85 #[gp g] Sp.any Gn_<|lf g m):CQ g 44 #[gp g] Sp.gy Gn_ (lf g m):=by
 intro q d s a hm st;have st:=st.step.eq λr=>inside_or;have u:=y_inside c (by exact λ_ _=>ũ) τ;have f:=y_inside c (by exact λ_ _=>ũ)<|lY g.L s.i;exact zW_
abbrev doS (L:List Tk) (r:Sp) (d:Nat) (s:St):Option (Out Int):=A8 (r.expr d s) λs1 x=>
 if aL L s1.i [[61]] then
  if lX (s1.N.getD x.toNat kB).x=0 then bF L s1.i 1
  else A8 (r.expr d ⟨s1.i+1,s1.N.take x.toNat,s1.T⟩) λs2 v=>A8 (aC L s2 [59]) λs3 _=>aE s3<|kJ (s1.N.getD x.toNat kB) v
 else A8 (aC L s1 [59]) λs2 _=>aE s2 ⟨25,x,0,0,[],[],0,-1,iC s1 x⟩
def y_any (c:CQ g 207 #[gp g] Sp.expr Gn_<|lf g m) (u:CQ g 209 #[gp g] Sp.block Gn_<|lf g m) (f:CQ g 206 #[gp g] (λr d s=>bC g.L r d s) Gz_<|lf g m) (j:CQ g 139 #[gp g] (doS g.L) Gn_<|lf g<|m+1):CQ g 85 #[gp g] Sp.any Gn_ (lf g<|m+1):=zP_
def y_plain:CQ g 191 #[gp g] (λ_ _ s=>if (tk g.L s.i).x=2∧I1 (tk g.L s.i).text≠0 then bQ s.nx ⟨I1 (tk g.L s.i).text,[],[],0⟩ else bF g.L s.i 1) Gt_ (lf g m):=by
 intro q d s a hm st;refine (zy g.hL st.b st.n st.p).mono ?_;rintro e b ⟨hk,o,ev,h⟩;cases o with
 |fail er p=>exact .inr<|h.1 ▸ st.bad hk h.2 ev
 |ok t x=>exact .inl ⟨t,x,h.1,h.2.2,st.to hk h.2.1 λo ho=>Ev.one (Ç (o:=.ok t x)) ho ▸ ev⟩
def y_member (c:CQ g 32 #[gp g] Sp.typ Gt_<|lf g m) (u:CQ g 188 #[gp g] (λr d s=>r.jl d s []) Gt_<|lf g m) (f:CQ g 190 #[gp g] Sp.kv Gt_<|lf g m):CQ g 122 #[gp g] Sp.gd Gt_ (lf g<|m+1):=by
 have j:=y_plain (g:=g) (m:=m+1);exact zP_
end
section
variable {g:Pg} {m:Nat}
def y_two {kf:Nat} {φ:Sp→Nat→St→Option (Out Int)} (c:CQ g kf #[gp g] φ Gn_<|lf g m) (cf:∀ (args:Array υ) (Gw:E),(callFunc kf args).run Tryz.prog Gw=.ok (.enter kf args) Gw) (x:Int):CQ g 280 #[gp g,U x,.func (.func kf) #[gp g] #[]] (λr d s=>iN g.L s x<|φ r d) Gn_ (λs=>lf g (m+1) s∧(tk g.L s.i).x≠6∧0≤x∧x<Q s.N):=by
 rintro q d s a ⟨hm,h6,h0,hx⟩ st;obtain ⟨left,rfl⟩:=È h0;have hw:=st.p.fq;have hf:=xB;dsimp only [iN] at st;exact zW_
def y_comp (c:CQ g 279 #[gp g] Sp.sum Gn_<|lf g<|m+1) (u:CQ g 279 #[gp g] Sp.sum Gn_<|lf g m):CQ g 251 #[gp g] Sp.comp Gn_ (lf g<|m+1):=by
 have j:=y_two u (λ_ _=>ũ);exact zP_
def Qs_.on {α:Type} {q:Pf_ g α} {d:Nat} {s:St} {R:Sp→Option (Out α)} {a:E} {o:Obj} {i:Nat} {ms:List bZ} (st:Qs_ q d s R a) (_:iJ (a.alloc o) i ms):Qs_ q d s R (a.alloc o):=st.y<|ν _ _ _
def zR_ {p:Prop} (h:p:=by
 have hw:=st.p.fq;have st:=st.step.on S;dsimp only [step] at st;go_in;go_wp2_with (first|((with_reducible refine (st.call c).mono ?_);rintro e a (⟨t,x,rfl,gx,st,kk⟩|⟨er,p,rfl,hf⟩);rotate_left;exact zF_;replace S:=iJ.kept S kk)|go_in);go_loopw [7] (λv wr=>∃ (x:Int) (s':St),v=U x∧Gn_ s s' x∧iJ wr _ _∧Hid (Qs_ q d s' (λr=>r.row _ d s' x) wr)) (λ_ wr=>Q g.L-qI wr g.pb);case atStart=>exact ⟨_,_,K,gx,S,st⟩
 case round=>
  clear st S;obtain ⟨x,s',rfl,gx,S,sr⟩:=hrel;have st:=Qs_.step sr.u;simp only [step,if_true,Bool.false_eq_true,if_false] at st;exact zV_):p:=h
def y_sum (c:CQ g 299 #[gp g] Sp.prod Gn_<|lf g<|m+1) (u:CQ g 299 #[gp g] Sp.prod Gn_<|lf g m):CQ g 279 #[gp g] Sp.sum Gn_ (lf g<|m+1):=by
 intro q d s a hm st;have j:=y_two u (λ_ _=>ũ);have S:iJ (a.alloc<|γ #[ι ⟨#[43]⟩,ι ⟨#[45]⟩] 9) (V a.heap) (J4 τ):=heap_alloc_new _ _;exact zR_
def y_prod (c:CQ g 310 #[gp g] Sp.oper Gn_<|lf g<|m+1) (u:CQ g 310 #[gp g] Sp.oper Gn_<|lf g m):CQ g 299 #[gp g] Sp.prod Gn_ (lf g<|m+1):=by
 intro q d s a hm st;have j:=y_two u (λ_ _=>ũ);have S:iJ (a.alloc<|γ #[ι ⟨#[42]⟩] 9) (V a.heap) (J4 κ):=heap_alloc_new _ _;exact zR_
end
def zLq {p:Prop} (h:p:=by
 obtain ⟨l,ad,c',s',rfl,gx,o,sr⟩:=hrel;have bk:=λ{e b} (h:Qf_ (Pf_.ex _<|Y ad l.length c') e b)=>so.u.lost<|Qf_.un h;have hs:=g.hL.jq;have ha:=sr.u.p.at';have st:=Qs_.step sr.u;dsimp only [step] at st;exact zV_):p:=h
section
variable {g:Pg} {m:Nat}
def y_block (c:CQ g 44 #[gp g] Sp.gy Gn_<|lf g m):CQ g 209 #[gp g] Sp.block Gn_ (lf g<|m+1):=by
 intro q d s a hm st;have hw:=st.p.fq;have st:=st.step;dsimp only [step] at st;go_in;go_wp2_with (first|((with_reducible refine st.at.mono ?_);rintro e a ⟨rfl,st,kk⟩)|((with_reducible refine st.ft.mono ?_);rintro e a (⟨t,x,rfl,gx,st,kk⟩|⟨er,p,rfl,hf⟩);rotate_left;exact zF_));have so:=O st;go_loopw [4] (λv wr=>∃ l ad c s',v=Y ad (Q l) c∧(Q l≤s'.i∧Gw_ 0 0 0 t s')∧Hid (wr.ownsRow (V a.heap) 3 1 (Y ad (Q l) c) (Q l)<|C8 l)∧Hid (Qs_ ((q.sub a _).ex<|Y ad (Q l) c) d s' (λr=>r.gj d s' l) wr)) (λ_ wr=>Q g.L-qI wr g.pb);case atStart=>exact ⟨[],_,_,t,K,⟨Nat.zero_le _,W⟩,World.ownsRow_nil _ _ _ _,st.enter.ex0⟩
 case round=>exact zLq
def y_union (c:CQ g 122 #[gp g] Sp.gd Gt_<|lf g<|m+1):CQ g 65 #[gp g] Sp.union Gt_ (lf g<|m+1):=by
 intro q d s a hm st;have hw:=st.p.fq;have st:=st.step;dsimp only [step] at st;go_in;go_wp2_with (first|((with_reducible refine (st.call c).mono ?_);rintro e a (⟨t,x,rfl,gx,st,kk⟩|⟨er,p,rfl,hf⟩);rotate_left;exact zF_)|(go_at_call 63;refine st.isq.mono ?_;rintro e a (⟨rfl,h6,st,kk⟩|⟨rfl,st,kk⟩)));rotate_left
 .go_ret;exact .inl ⟨_,_,K,W,st⟩
 have so:=O st;go_loopw [4] (λv wr=>∃ l ad c s',v=Y ad (Q l) c∧(Q l≤s'.i∧Gw_ 0 0 0 t s'∧Q s'.T+1+s.i≤Q s.T+s'.i+(aL g.L s'.i [[124]]).toNat)∧Hid (wr.ownsRow (V a.heap) 3 1 (Y ad (Q l) c) (Q l)<|C8 l)∧Hid (Qs_ ((q.sub a _).ex<|Y ad (Q l) c) d s' (λr=>r.gp d s' l) wr)) (λ_ wr=>Q g.L-qI wr g.pb);case atStart=>exact ⟨[x],_,_,t,K,⟨by simp;omega,W⟩,xh _ _ (Nat.le_refl _) _,st.enter.exl x⟩
 case round=>exact zLq
end
abbrev CP_ (g:Pg) (G:Nat) (A:Array υ) (pt:oT) (I:Nat→E→List bZ→Prop) (H:St→Prop):Prop:=∀ ⦃q:Pf_ g (Int×List bZ)⦄ ⦃d s a nm⦄,H s→Q nm≤s.i→I q.lo a nm→Qs_ q d s (λr=>part g.L r d s nm pt) a→
 μ Tryz.prog G A a λe b=>(∃ t y n',e=π (U y)∧(Gw_ 1 0 0 s t∧Q n'≤Q nm+1)∧Hid (I q.lo b n')∧Qs_ q d t (λ_=>C<|.ok t (y,n')) b)∨Qf_ q e b
section
variable {g:Pg} {α:Type} {q:Pf_ g α} {a:E} {d G m:Nat} {s:St} {A:Array υ} {pt:oT} {I:Nat→E→List bZ→Prop} {H:St→Prop}
def Qs_.pcall {nm:List bZ} {k:Sp→St→Int×List bZ→Option (Out α)} (st:Qs_ q d s (λr=>A8 (part g.L r d s nm pt)<|k r) a) (c:CP_ g G A pt I H) (i:Hid<|I q.lo a nm) (hm:H s:=by omega) (hn:Q nm≤s.i:=by omega):
 μ Tryz.prog G A a λe b=>(∃ t y n',e=π (U y)∧(Gw_ 1 0 0 s t∧Q n'≤Q nm+1)∧Hid (I q.lo b n')∧Qs_ q d t (λr=>k r t (y,n')) b∧Hid (aV g.B q.ok q.lo a b))∨Qf_ q e b:=by
 refine (c (q:=q.sub a _) hm hn i.u st.enter).mono ?_;rintro e b (⟨t,y,n',rfl,h1,h2,h⟩|h)
 .exact .inl ⟨t,y,n',K,h1,h2,st.leave h,h.k⟩
 .exact .inr<|st.lost h
def zI_ {p:Prop} (h:p:=by
 have hs:=g.hL.jq;have so:=O st;go_in;go_wp2_with fail;go_loopw [7] (λv wr=>∃ l ad c s' nm,v=Y ad (Q l) c∧(Q l≤s'.i∧Q nm≤Q l∧Gw_ 0 0 0 s s')∧Hid (I q.lo wr nm)∧Hid (wr.ownsRow (V a.heap) 3 1 (Y ad (Q l) c) (Q l)<|C8 l)∧Hid (Qs_ ((q.sub a _).ex<|Y ad (Q l) c) d s' (λr=>r.M pt eo d s' nm l) wr)) (λ_ wr=>Q g.L-qI wr g.pb);case atStart=>exact ⟨[],_,_,s,[],K,⟨Nat.zero_le _,Nat.le_refl _,W⟩,i0,World.ownsRow_nil _ _ _ _,st.enter.ex0⟩
 case round=>
  clear st;obtain ⟨l,ad,c',s',nm,rfl,gx,II,o,sr⟩:=hrel;have bk:=λ{e b} (h:Qf_ (Pf_.ex _<|Y ad l.length c') e b)=>so.u.lost<|Qf_.un h;have ha:=sr.u.p.at';have st:=Qs_.step sr.u;dsimp only [step] at st;obtain hz|hz:=Classical.em (Q l=0);all_goals
   simp only [hz,if_true,if_false,ob] at st;first|(have e:=List.eq_nil_of_length_eq_zero hz;subst e;simp only [List.length_nil] at o gx st ⊢;clear hz)|have hz':(0:Int)<Q l:=W
   go_wp2_with (first
    |(go_at_call 123;refine st.took.mono ?_;rintro e a (⟨rfl,gx,st,kk⟩|⟨rfl,gx,st,kk⟩);all_goals (replace o:=O (G9 o.u kk.u ζ);replace II:=O<|hI II<|Kept.kn kk);rotate_left)
    |(go_at_call 189;refine st.ft.mono ?_;rintro e a (⟨t,x,rfl,gx,st,kk⟩|⟨er,p,rfl,hf⟩);rotate_left;exact zF_;replace o:=O (G9 o.u kk.u ζ);replace II:=O<|hI II<|Kept.kn kk)
    |(refine (st.pcall c II).mono ?_;rintro e a (⟨t,x,nm,rfl,gx,II,st,kk⟩|⟨er,p,rfl,hf⟩);rotate_left;exact zF_;replace o:=O<|PM o.u kk.u ζ)
    |(at_builtin;refine app_q K K st o.u W K K ?_;intro ad cc a st o kn;replace II:=O<|hI II kn));all_goals first
    |(go_ret;first|exact .inl ⟨_,_,_,_,K,W,so.u.leave st.un,Ow.of so.u o,st.un.k,⟨_,II⟩⟩|exact .inl ⟨_,[],_,_,K,W,so.u.leave st.un,Ow.of so.u o,st.un.k,⟨_,II⟩⟩)
    |(go_roundw;(case rel=>exact ⟨_,_,_,_,_,θ,by simp only [List.length_append,List.length_cons,List.length_nil];omega,II,o,st⟩);exact Qs_.ms sr.u st)):p:=h
def y_list {eo:bZ} {k:Sp→St→uZ→Option (Out α)} (st:Qs_ q d s (λr=>A8 (r.M pt eo d s [] [])<|k r) a) (c:CP_ g G #[gp g] pt I<|lf g m) (hI:∀ {lo a b nm},I lo a nm→Knn a b→I lo b nm) (i0:I q.lo a []) (cf:∀ (args:Array υ) (Gw:E),(callFunc G args).run Tryz.prog Gw=.ok (.enter G args) Gw) (hm:lf g m s:=by omega):
 μ Tryz.prog 242 #[gp g,ι ⟨ξ eo⟩,.func (.func G) #[gp g] #[]] a λe b=>(∃ t l ad cc,e=π (Y ad (Q l) cc)∧Gw_ 1 1 0 s t∧Qs_ q d t (λr=>k r t l) b∧Hid (Ow q l ad cc b)∧Hid (aV g.B q.ok q.lo a b)∧∃ nm,I q.lo b nm)∨Qf_ q e b:=zI_
def y_listc {eo:bZ} {x y:υ} {k:Sp→St→uZ→Option (Out α)} (st:Qs_ q d s (λr=>A8 (r.M pt eo d s [] [])<|k r) a) (c:CP_ g G #[x,y] pt I<|lf g m) (hI:∀ {lo a b nm},I lo a nm→Knn a b→I lo b nm) (i0:I q.lo a []) (cf:∀ (args:Array υ) (Gw:E),(callFunc G args).run Tryz.prog Gw=.ok (.enter G args) Gw:=by exact λ_ _=>ũ) (hm:lf g m s:=by omega):
 μ Tryz.prog 242 #[gp g,ι ⟨ξ eo⟩,.func (.func G) #[] #[x,y]] a λe b=>(∃ t l ad cc,e=π (Y ad (Q l) cc)∧Gw_ 1 1 0 s t∧Qs_ q d t (λr=>k r t l) b∧Hid (Ow q l ad cc b)∧Hid (aV g.B q.ok q.lo a b)∧∃ nm,I q.lo b nm)∨Qf_ q e b:=zI_
def Qs_.lsm {eo:bZ} {k:Sp→St→uZ→Option (Out α)} (st:Qs_ q d s (λr=>A8 (r.M pt eo d s [] [])<|k r) a) (c:CP_ g G #[gp g] pt (λ_ _ _=>True)<|lf g m) (hm:lf g m s:=by omega) (cf:∀ (args:Array υ) (Gw:E),(callFunc G args).run Tryz.prog Gw=.ok (.enter G args) Gw:=by exact λ_ _=>ũ):
 μ Tryz.prog 242 #[gp g,ι ⟨ξ eo⟩,.func (.func G) #[gp g] #[]] a λe b=>(∃ t l ad cc,e=π (Y ad (Q l) cc)∧Gw_ 1 1 0 s t∧Qs_ q d t (λr=>k r t l) b∧Hid (Ow q l ad cc b)∧Hid (aV g.B q.ok q.lo a b))∨Qf_ q e b:=
 (y_list st c (λ_ _=>trivial) trivial cf hm).mono λ_ _ h=>h.imp (λ⟨t,l,ad,cc,h1,h2,h3,h4,h5,_⟩=>⟨t,l,ad,cc,h1,h2,h3,h4,h5⟩) id
theorem CP_.of {φ:Sp→Nat→St→Option (Out Int)} {P:St→St→Int→Prop} (c:CQ g G A φ P H) (hp:∀ r d s nm,part g.L r d s nm pt=A8 (φ r d s) λs x=>C<|.ok s (x,nm)) (hP:∀ s t x,P s t x→Gw_ 1 0 0 s t):CP_ g G A pt (λ_ _ _=>True) H:=by
 intro q d s a nm hm hn _ st;refine ((st.eq λr=>hp r d s nm).call c hm).mono ?_;rintro e b (⟨t,x,rfl,h,st,-⟩|h)
 .exact .inl ⟨t,x,nm,K,⟨hP _ _ _ h,Nat.le_succ _⟩,trivial,st⟩
 .exact .inr h
theorem Ow.one {y:Int} {la:Option í} {lc:Nat} (o:Hid<|Ow q [y] la lc a):∃ i,la=C (J i 0)∧i<V a.heap∧1≤lc∧δ a (J i 0)=C (U y):=by
 obtain ⟨i,h,_,h2,h3,_,h5⟩:=D5 o.1 θ;exact ⟨i,h,h2,h3,h5 0 _ K⟩
def y_fob (c:CQ g 32 #[gp g] Sp.typ Gt_<|lf g m):CQ g 190 #[gp g] Sp.kv Gt_ (lf g m):=by
 intro q d s a hm st;have hw:=st.p.fq;have v:=CP_.of (pt:=.typ) c (λ_ _ _ _=>K) λ_ _ _ h=>h;have st:=st.step;dsimp only [step] at st;go_in;go_wp2_with (first
  |(go_at_call 242;refine (st.lsm v).mono ?_;rintro e a (⟨t,l,la,lc,rfl,gx,st,o,kk⟩|⟨er,p,rfl,hf⟩);rotate_left;exact zF_;obtain _|⟨y,_|⟨y',l⟩⟩:=l)
  |(go_at_call 123;refine st.took.mono ?_;rintro e a (⟨rfl,gx,st,kk⟩|⟨rfl,-,st,kk⟩);all_goals (replace o:=Ow.kept o kk;try obtain ⟨_,rfl,hgl,hgc,c0⟩:=Ow.one o)));all_goals exact zV_
end
section
variable {g:Pg} {m:Nat}
theorem Kept.tS {B:Nat} {ok:Nat→Prop} {a b:E} (h:Hid<|Kept B ok a b):Hid (aV B ok 0 a b):=h.u.mj
def y_tail (c:CQ g 207 #[gp g] Sp.expr Gn_<|lf g m) (u:CQ g 32 #[gp g] Sp.typ Gt_<|lf g m) (x:Int):CQ g 313 #[gp g,U x] (λr d s=>r.tail d s x) (λs t y=>Gw_ 0 0 0 s t∧x≤y∧y<Q t.N) (λs=>lf g m s∧0≤x∧x<Q s.N):=by
 rintro q d s a ⟨hm,h0,hx⟩ st;have hw:=st.p.fq;have v:=CP_.of (pt:=.expr) c (λ_ _ _ _=>K) λ_ _ _ h=>h.1;go_in;go_wp2;go_loopw [1] (λv wr=>∃ y s',v=U y∧(Gw_ 0 0 0 s s'∧x≤y∧y<Q s'.N)∧Hid (Qs_ q d s' (λr=>r.tail d s' y) wr)) (λ_ wr=>Q g.L-qI wr g.pb);case atStart=>exact ⟨_,_,K,W,st⟩
 case round=>
  clear st;obtain ⟨y,s',rfl,gx,sr⟩:=hrel;obtain ⟨j,rfl⟩:=È (show 0≤y by omega);obtain ⟨_,_,c3,hc1,hc2,hgl,hpl,c8⟩:=sr.u.nodeAt (j:=j) W;have ht:=sr.u.p.kq<|Nat.le_refl _;have hi:=sr.u.k.size;have st:=Qs_.step sr.u;dsimp only [step] at st;generalize hp:iC s' (j:Int)=pa at*;have bk:=λ{e b} (h:Qf_ (q.ex<|Y (C<|J wr.heap.size 0) 1 1) e b)=>h.un;have y:Hid ((wr.alloc<|γ #[U 0,U (j:Int),U 0,U 0,sN,ι ⟨#[]⟩,U 0,U<|-1,U pa] 82).heap[wr.heap.size]?=_):=heap_alloc_new _ _;replace st:=st.exo<|γ #[U 0,U (j:Int),U 0,U 0,sN,ι ⟨#[]⟩,U 0,U<|-1,U pa] 82;go_wp2_with (first
   |(go_at_call 123;refine st.took.mono ?_;rintro e a (⟨rfl,gx,st,kk⟩|⟨rfl,-,st,kk⟩);all_goals obtain ⟨y,yc,yl,yz⟩:=blkf y<|Kept.tS kk)
   |(go_at_call 242;refine (st.lsm v).mono ?_;rintro e a (⟨t,l,la,lc,rfl,gx,st,o,kk⟩|⟨er,p,rfl,hf⟩);rotate_left;exact zF_;obtain ⟨y,yc,yl,yz⟩:=blkf y kk;obtain ⟨st,y,z⟩:=st.put y 0 4 (U 7) (Y la (Q l) lc) hi ht;replace o:=z o)
   |(go_at_call 205;refine st.name.mono ?_;rintro e a (⟨t,x,rfl,gx,st,kk,rfl,rfl⟩|⟨er,p,rfl,hf⟩);rotate_left;exact zF_;obtain ⟨y,yc,yl,yz⟩:=blkf y<|Kept.tS kk;obtain ⟨st,y,-⟩:=st.put y 0 5 (U 8) (ι ⟨ξ (tk g.L<|s'.i+1).text⟩) hi ht)
   |(go_at_call 207;refine (st.call c).mono ?_;rintro e a (⟨t,x,rfl,gx,st,kk⟩|⟨er,p,rfl,hf⟩);rotate_left;exact zF_;obtain ⟨y,yc,yl,yz⟩:=blkf y<|Kept.tS kk;obtain ⟨st,y,-⟩:=st.put y 0 2 (U 9) (U x) hi ht)
   |(go_at_call 32;refine (st.call u).mono ?_;rintro e a (⟨t,x,rfl,gx,st,kk⟩|⟨er,p,rfl,hf⟩);rotate_left;exact zF_;obtain ⟨y,yc,yl,yz⟩:=blkf y<|Kept.tS kk;obtain ⟨st,y,-⟩:=st.put y 0 7 (U 14) (U x) hi ht)
   |(go_at_call 189;refine st.ft.mono ?_;rintro e a (⟨t,x,rfl,gx,st,kk⟩|⟨er,p,rfl,hf⟩);rotate_left;exact zF_;simp only [aT,a0,a1] at y;obtain ⟨y,yc,yl,yz⟩:=blkf y<|Kept.tS kk)
   |(go_at_call 86;(first|refine (st.addy o.u).mono ?_|refine (st.addy Ow.nil).mono ?_);rintro e a ⟨rfl,gx,st,kk⟩;dsimp only [aE,ob] at st));all_goals first
   |(go_ret;exact .inl ⟨_,_,K,W,st.un⟩)
   |(go_roundw;(case rel=>exact ⟨_,_,K,W,st.un⟩);exact Qs_.ms sr.u st)
end
abbrev fnQ (L:List Tk) (at0:Int) (r:Sp) (d:Nat) (s:St):Option (Out Int):=A8 (aC L s [40]) λs1 _=>A8 (r.M .par [41] d s1 [] []) λs2 l=>A8 (bC L r d s2) λs3 t=>A8 (r.block d s3) λs4 x=>aE s4 ⟨6,x,0,0,l,[],0,t,at0⟩
abbrev obQ (at0:Int) (r:Sp) (d:Nat) (s:St):Option (Out Int):=A8 (r.M .obj [125] d s [] []) λs' l=>aE s' ⟨10,0,0,0,l,[],0,-1,at0⟩
section
variable {g:Pg} {m:Nat}
def y_num (hN:IV g.L) (at0:Int):CQ g 315 #[gp g,U at0] (λ_ _ s=>aE s.nx ⟨1,0,0,0,[],[],qA (tk g.L s.i).text,-1,at0⟩) Gn_ (λs=>(tk g.L s.i).x=3):=by
 intro q d s a hm st;have hw:=st.p.fq;have hf:=xB;have hu:=hN s.i hm;have HO:∀ a,μ Tryz.prog 319 #[ι ⟨ξ (tk g.L s.i).text⟩] a λe b=>e=π (.tuple #[U<|qA (tk g.L s.i).text,.nilIface])∧I No a b:=
  λa=>(Tryz.strconv_Atoi ⟨ξ (tk g.L s.i).text⟩ (qA (tk g.L s.i).text) (by have:=hu.2.1;grind [ByteArray.size]) (Zq _ hu) a).mono λ_ _ ⟨h,t,e⟩=>⟨h,e ▸ I.bytes _ _ _ t⟩;exact zW_
def y_simple (hN:IV g.L) (c:CQ g 207 #[gp g] Sp.expr Gn_<|lf g m) (u:∀ x,CQ g 317 #[gp g,U x] (obQ x) Gn_<|lf g m) (f:∀ x,CQ g 316 #[gp g,U x] (fnQ g.L x) Gn_<|lf g m):CQ g 314 #[gp g] Sp.simple Gn_ (lf g<|m+1):=by
 intro q d s a hm st;have hw:=st.p.fq;have hf0:=Z7;have hf1:=xB;have j:=y_num hN;have v:=CP_.of (pt:=.expr) c (λ_ _ _ _=>K) λ_ _ _ h=>h.1;have st:=st.step;dsimp only [step] at st;obtain ⟨z,hk⟩:∃ z,(tk g.L s.i).x=z:=⟨_,K⟩;by_cases h3:z=3
 .subst h3;simp only [hk,if_true] at st;exact zW_
 by_cases h4:z=4
 .subst h4;simp only [hk,if_true,h3,if_false] at st;exact zW_
 by_cases h1:z=1
 .subst h1;simp only [hk,if_true,h3,h4,if_false] at st;exact zW_
 simp only [hk,h3,h4,h1,if_false] at st;have e3:(z==3)=κ:=by simp [h3]
 have e4:(z==4)=κ:=by simp [h4]
 have e1:(z==1)=κ:=by simp [h1]
 exact zW_
def y_operand (hO:CQ g 310 #[gp g] Sp.oper Gn_<|lf g m) (u:CQ g 314 #[gp g] Sp.simple Gn_<|lf g<|m+1) (j:∀ x,CQ g 313 #[gp g,U x] (λr d s=>r.tail d s x) (λs t y=>Gw_ 0 0 0 s t∧x≤y∧y<Q t.N) λs=>lf g m s∧0≤x∧x<Q s.N):CQ g 310 #[gp g] Sp.oper Gn_ (lf g<|m+1):=by
 intro q d s a hm st;have hw:=st.p.fq;have hf0:=xB;have hf1:=Hp;have c:=y_inside hO (by exact λ_ _=>ũ)<|lY g.L s.nx.i;have st:=st.step;simp only [step,show s.i+1=s.nx.i from K] at st;go_in;go_wp2_with (first
  |(go_at_call 63;refine st.isq.mono ?_;rintro e a (⟨rfl,h6,st,kk⟩|⟨rfl,st,kk⟩))
  |(go_at_call 250;refine (st.take W).mono ?_;rintro e a ⟨rfl,gx,st,kk⟩;have y:=O<|heap_alloc_new a<|γ #[U (tk g.L s.i).x,ι ⟨ξ (tk g.L s.i).text⟩,U ((tk g.L s.i).at':Int)] 106;replace st:=Qs_.y st<|ν _ a<|γ #[U (tk g.L s.i).x,ι ⟨ξ (tk g.L s.i).text⟩,U ((tk g.L s.i).at':Int)] 106));all_goals exact zV_
end
section
variable {g:Pg} {α:Type} {q:Pf_ g α} {a b:E} {d m:Nat} {s t:St} {R:Sp→Option (Out α)}
theorem Qs_.e (st:Qs_ q d s R a):Qs_ q d s R a.drew:=st.y<|Ψ _ _ 1
def Kept.dr {B:Nat} {ok:Nat→Prop} (h:Hid<|Kept B ok a.drew b):Hid (Kept B ok a b):=((Kept.refl B ok a).drewN 1).trans h
def Qs_.newName {nm:List bZ} {nb:Nat} {k:Sp→St→bZ→Option (Out α)} (st:Qs_ q d s (λr=>A8 (aO g.L s nm)<|k r) a) (N:Hid<|gG a q.lo nb nm) (hl:Q nm≤1001) (hlo:q.lo≤V a.heap):
 μ Tryz.prog 241 #[gp g,pV nb] a λe b=>(∃ t x,e=π (ι ⟨ξ x⟩)∧Gw_ 1 1 1 s t∧Qs_ q d t (λr=>k r t x) b∧Hid (gG b q.lo nb<|nm++[x])∧Hid (aV g.B q.ok q.lo a b))∨Qf_ q e b:=by
 refine (QY g.hL st.p q.lo nb nm N hl hlo).mono ?_;rintro e b ⟨hk,h⟩;rcases hn:aO g.L s nm with _|⟨s1,x⟩|⟨er,p⟩<;>rw [hn] at h
 .exact h.elim
 .obtain ⟨rfl,h1,h2⟩:=h;obtain rfl:=gI hn;exact .inl ⟨_,x,K,gw_nx,⟨st.k.trans hk,h2,λo ho=>st.v o<|ú (Ev.pure.eq λr=>hn) ho,λi hi=>st.n i<|Nat.le_trans hk.size hi,Nat.le_trans st.b hk.size⟩,h1,hk⟩
 .exact .inr ⟨er,p,h,Xw hn,st.k.trans hk,st.v _<|ø<|Ev.pure.eq λr=>hn⟩
def blkS {B i lo:Nat} {ok:Nat→Prop} {cs:Array υ} {e:TypeId} (f:Hid<|a.heap[i]?=C (γ cs e (0,0))) (hk:Hid<|aV B ok lo a b) (he:e≠78∧e≠82∧e≠99∧e≠28∧e≠9:=by decide):Hid (b.heap[i]?=C (γ cs e (0,0)))∧(∀ o,δ b (J i o)=cs[o]?)∧i<V b.heap:=
 have h:=QX hk f he;⟨h,λo=>ä b i o _ _ _ h,(ş.1 h).1⟩
def Ib_ (g:Pg) (x n:Nat) (lo:Nat) (a:E) (nm:List bZ):Prop:=a.heap[x]?=C (γ #[gp g] 76 (0,0))∧gG a lo n nm∧lo≤V a.heap
def zOq {p:Prop} (h:p:=by
 rintro q d s a nm hm hn ⟨y,N,hlo⟩ st;have hw:=st.p.fq;have hs:=g.hL.jq;have ha:=st.p.at';dsimp only [part] at st;obtain ⟨y,yc,yl⟩:=blk y (show Hid (Kept 0 No a a) from Kept.refl _ _ _);have N:=O N;go_in;go_wp2_with fail;go_region_with (first
  |(go_at_call 83;refine (Qs_.at st.e).mono ?_;rintro e a ⟨rfl,st,kk⟩;replace kk:=Kept.dr kk;have N:=O<|gG.kept N kk;have hlo:=Nat.le_trans hlo kk.u.size;obtain ⟨y,yc,yl⟩:=blk y kk)
  |(go_at_call 241;refine (st.newName N W hlo).mono ?_;rintro e a (⟨t,x,rfl,gx,st,N,kk⟩|⟨er,p,rfl,hf⟩);rotate_left;exact zF_;have hlo:=Nat.le_trans hlo kk.u.size;obtain ⟨y,yc,yl⟩:=blkS y kk));all_goals
  go_wp2_with ((with_reducible refine st.ft.mono ?_);rintro e a (⟨t,_,rfl,gx,st,kk⟩|⟨er,p,rfl,hf⟩);rotate_left;exact zF_;have N:=O<|gG.kept N kk;have hlo:=Nat.le_trans hlo kk.u.size;obtain ⟨y,yc,yl⟩:=blk y kk);go_region_with (first
   |((with_reducible refine (Qs_.call c st.e).mono ?_);rintro e a (⟨t,v,rfl,gx,st,kk⟩|⟨er,p,rfl,hf⟩);rotate_left;exact zF_;replace kk:=Kept.dr kk;have N:=O<|gG.kept N kk;have hlo:=Nat.le_trans hlo kk.u.size;obtain ⟨y,yc,yl⟩:=blk y kk)
   |((first|(go_at_call 45;refine (st.add Ow.nil).mono ?_)|(go_at_call 86;refine (st.addy Ow.nil).mono ?_));rintro e a ⟨rfl,gx,st,kk⟩;have N:=O<|gG.kept N kk;have hlo:=Nat.le_trans hlo kk.u.size;obtain ⟨y,yc,yl⟩:=blk y kk));all_goals
   go_wp2_with fail;go_ret;exact .inl ⟨_,_,_,K,⟨W,θ⟩,⟨y,N,hlo⟩,st⟩):p:=h
def y_object1 (c:CQ g 207 #[gp g] Sp.expr Gn_<|lf g m) (x n:Nat):CP_ g 321 #[pV x,pV n] .obj (Ib_ g x n) (lf g m):=zOq
def y_function1 (c:CQ g 206 #[gp g] (λr d s=>bC g.L r d s) Gz_<|lf g m) (x n:Nat):CP_ g 320 #[pV x,pV n] .par (Ib_ g x n) (lf g m):=zOq
end
section
variable {g:Pg} {m:Nat}
def Ib_.kn {i j lo:Nat} {a b:E} {nm:List bZ} (h:Ib_ g i j lo a nm) (k:Knn a b):Ib_ g i j lo b nm:=by
 obtain ⟨h1,h2,h3⟩:=h;refine ⟨(k.block i (ş.1 h1).1 ?_).trans h1,h2.P k ?_,Nat.le_trans h3 k.size⟩
 .rintro ⟨cs,e,fz,h,r⟩;rw [h1] at h;simp only [Option.some.injEq,Obj.cells.injEq] at h;obtain ⟨_,rfl,_⟩:=h;revert r;decide
 .rintro k cs e h ⟨cs',e',fz,h',r⟩;rw [h] at h';simp only [Option.some.injEq,Obj.cells.injEq] at h';obtain ⟨_,rfl,_⟩:=h';constructor<;>(rintro rfl;revert r;decide)
def blk1 {a:E} (o:Obj) (cs:Array υ) (e:TypeId) (h:o=γ cs e):Hid ((a.alloc o).heap[V a.heap]?=C (γ cs e (0,0)))∧(∀ i,δ (a.alloc o) (J (V a.heap) i)=cs[i]?)∧V a.heap<V (a.alloc o).heap:=by
 subst h;have h:=heap_alloc_new a<|γ cs e;exact ⟨h,λi=>ä _ _ i _ _ _ h,θ⟩
def y_object (c:CQ g 207 #[gp g] Sp.expr Gn_<|lf g m) (x:Int):CQ g 317 #[gp g,U x] (obQ x) Gn_ (lf g m):=by
 apply CQ.of;intro q d s hm hlo st;have hw:=st.p.fq;dsimp only [obQ] at st;obtain ⟨y,yc,yl⟩:=blk1 (a:=q.w) _ _ _ (K:γ #[gp g] 76=_);have st:=(st.y<|ν _ _<|γ #[gp g] 76).y<|ν _ _<|γ #[sN] 28;have N:gG _ q.lo _ []:=⟨by simp;omega,none,0,heap_alloc_new (q.w.alloc<|γ #[gp g] 76)<|γ #[sN] 28,World.ownsRow_nil _ _ _ _⟩;obtain ⟨y,yc,yl⟩:=blk y (show Hid (Kept 0 No _<|(q.w.alloc<|γ #[gp g] 76).alloc<|γ #[sN] 28) from (Kept.refl _ _ _).alloc _);have H:=O (y_listc st (y_object1 c (V q.w.heap) (V (q.w.alloc<|γ #[gp g] 76).heap)) Ib_.kn ⟨y,N,by simp;omega⟩);simp only [Ô] at H;go_in;go_wp2_with (go_at_call 242;refine H.u.mono ?_;rintro e a (⟨t,l,la,lc,rfl,gx,st,o,kk,_,y,-⟩|⟨er,p,rfl,hf⟩);rotate_left;exact zF_;obtain ⟨y,yc,yl⟩:=blk (O y)<|show Hid (Kept 0 No a a) from Kept.refl _ _ _);exact zV_
def y_function (u:CQ g 209 #[gp g] Sp.block Gn_<|lf g m) (f:CQ g 206 #[gp g] (λr d s=>bC g.L r d s) Gz_<|lf g m) (x:Int):CQ g 316 #[gp g,U x] (fnQ g.L x) Gn_ (lf g m):=by
 apply CQ.of;intro q d s hm hlo st;have hw:=st.p.fq;dsimp only [fnQ] at st;obtain ⟨y,yc,yl⟩:=blk1 (a:=q.w) _ _ _ (K:γ #[gp g] 76=_);have st:=st.y<|ν _ _<|γ #[gp g] 76;go_in;go_wp2_with (first
  |((with_reducible refine st.ft.mono ?_);rintro e a (⟨t,_,rfl,gx,st,kk⟩|⟨er,p,rfl,hf⟩);rotate_left;exact zF_;obtain ⟨y,yc,yl⟩:=blk y kk;have hz:=st.k.size;have st:=st.y<|ν _ _<|γ #[sN] 28;have N:gG _ q.lo (V a.heap) []:=⟨W,none,0,heap_alloc_new a<|γ #[sN] 28,World.ownsRow_nil _ _ _ _⟩;have H:=O<|y_listc st (y_function1 f (V q.w.heap) (V a.heap)) Ib_.kn ⟨(blk y<|show Hid (Kept 0 No a<|a.alloc<|γ #[sN] 28) from (Kept.refl _ _ _).alloc _).1,N,by simp;omega⟩)
  |(go_at_call 242;refine H.u.mono ?_;rintro e a (⟨t,l,la,lc,rfl,gx,st,o,kk,_,y,-⟩|⟨er,p,rfl,hf⟩);rotate_left;exact zF_;obtain ⟨y,yc,yl⟩:=blk (O y)<|show Hid (Kept 0 No a a) from Kept.refl _ _ _));exact zV_
end
section
variable {g:Pg} {G m:Nat} {φ:Sp→Nat→St→Option (Out Int)}
def CQ.conN (c:CQ g G #[gp g] φ Gn_<|lf g m):bG g.B g.pb g.tv g.L G (λd s r=>φ r d s) m:=by
 intro w ok d s hm hok hB h;refine (c (q:=⟨w,ok,V w.heap,λr=>φ r d s⟩) W ⟨(Kept.refl _ _ _).mj,h,λ_ h=>h,hok,hB⟩).mono ?_;rintro e b (⟨t,x,rfl,hP,h⟩|⟨er,p,rfl,he,hk,hv⟩)
 .exact ⟨aV.kept h.k,.ok t x,h.v _ Ç,K,h.p,hP.1,W⟩
 .exact ⟨aV.kept hk,.fail er p,hv,K,he⟩
def CQ.s0 (c:CQ g G #[gp g] φ Gt_<|lf g m):lM g.B g.pb g.tv g.L G (λd s r=>φ r d s) m:=by
 intro w ok d s hm hok hB h;refine (c (q:=⟨w,ok,V w.heap,λr=>φ r d s⟩) W ⟨(Kept.refl _ _ _).mj,h,λ_ h=>h,hok,hB⟩).mono ?_;rintro e b (⟨t,x,rfl,hP,h⟩|⟨er,p,rfl,he,hk,hv⟩)
 .exact ⟨aV.kept h.k,.ok t x,h.v _ Ç,K,h.p,hP⟩
 .exact ⟨aV.kept hk,.fail er p,hv,K,he⟩
theorem lM.q (c:lM g.B g.pb g.tv g.L G (λd s r=>φ r d s) m):CQ g G #[gp g] φ Gt_ (lf g m):=by
 intro q d s a hm st;refine (c a q.ok d s W st.n st.b st.p).mono ?_;rintro e b ⟨hk,o,ev,h⟩;cases o with
 |fail er p=>exact .inr<|h.1 ▸ st.bad hk h.2 ev
 |ok t x=>exact .inl ⟨t,x,h.1,h.2.2,st.to hk h.2.1 λo ho=>Ev.one (Ç (o:=.ok t x)) ho ▸ ev⟩
theorem Qs_.set {α:Type} {q:Pf_ g α} {a:E} {d k:Nat} {s:St} {f:Sp→St→Int→Option (Out α)} (c:CQ g 207 #[gp g] Sp.expr Gn_<|lf g m) (hk:k<Q s.N) (st:Qs_ q d s (λr=>A8 (if lX s.N[k].x=0 then bF g.L s.i 1 else r.expr d ⟨s.i+1,s.N.take k,s.T⟩)<|f r) a) (hq:1≤(aL g.L s.i [[61]]).toNat) (hm:Q g.L≤s.i+m):
 μ Tryz.prog 210 #[gp g,U (k:Int)] a λe b=>(∃ t v la lc,e=π (.agg #[U (kJ s.N[k] v).x,U (kJ s.N[k] v).a,U (kJ s.N[k] v).b,U (kJ s.N[k] v).c,Y la (Q s.N[k].M) lc,ι ⟨ξ s.N[k].text⟩,U s.N[k].n,U s.N[k].ty,U s.N[k].at'])∧(s.i+1<t.i∧Q t.N+s.i+1≤Q s.N+t.i∧Q t.T+s.i+1≤Q s.T+t.i∧k≤Q t.N)∧Qs_ q d t (λr=>f r t v) b∧Hid (Ow q s.N[k].M la lc b)∧Hid (Kept g.B q.ok a b))∨Qf_ q e b:=by
 have hz:aL g.L s.i [[61]]=τ:=by cases h:aL g.L s.i [[61]]<;>simp_all
 refine (B7e g.hL (m+1) (λm' h=>CQ.conN λq d s a hx=>c W) a q.ok d s k hk hz W st.n st.b st.p).mono ?_;rintro e b ⟨hk2,o,ev,h⟩;cases o with
 |fail er p=>exact .inr<|h.1 ▸ st.bad hk2 h.2 (ø ev)
 |ok t v=>
  obtain ⟨⟨la,lc,h1,h2⟩,h3,h4⟩:=h;exact .inl ⟨t,v,la,lc,h1,h4,st.to hk2 h3 λo ho=>ú ev ho,h2,hk2⟩
def y_dos (c:CQ g 207 #[gp g] Sp.expr Gn_<|lf g<|m+1):CQ g 139 #[gp g] (doS g.L) Gn_ (lf g<|m+1):=by
 intro q d s a hm st;have hw:=st.p.fq;dsimp only [doS] at st;go_in;go_wp2_with (first
  |(go_at_call 207;refine (st.call c).mono ?_;rintro e a (⟨t,x,rfl,gx,st,kk⟩|⟨er,p,rfl,hf⟩);rotate_left;exact zF_;obtain ⟨j,rfl⟩:=È (show 0≤x by omega);obtain ⟨_,_,c3,hc1,hc2,hgl,hpl,c8⟩:=st.nodeAt (j:=j) W;have ht:=st.p.kq<|Nat.le_refl _;have hi:=st.k.size;have bk:=λ{e b} (h:Qf_ (q.ex<|Y (C<|J a.heap.size 0) 1 1) e b)=>h.un;generalize hp:iC t (j:Int)=pa at*;have y:Hid ((a.alloc<|γ #[U 25,U (j:Int),U 0,U 0,sN,ι ⟨#[]⟩,U 0,U 0,U pa] 82).heap[V a.heap]?=_):=heap_alloc_new _ _;replace st:=st.exo<|γ #[U 25,U (j:Int),U 0,U 0,sN,ι ⟨#[]⟩,U 0,U 0,U pa] 82)
  |(go_at_call 63;refine st.isq.mono ?_;rintro e a (⟨rfl,h6,st,kk⟩|⟨rfl,st,kk⟩);all_goals obtain ⟨y,yc,yl,yz⟩:=blkf y<|Kept.tS kk)
  |(go_at_call 189;refine st.ft.mono ?_;rintro e a (⟨t,x,rfl,gx,st,kk⟩|⟨er,p,rfl,hf⟩);rotate_left;exact zF_;obtain ⟨y,yc,yl,yz⟩:=blkf y<|Kept.tS kk)
  |(go_at_call 45;(first|refine (st.add o.u).mono ?_|refine (st.add Ow.nil).mono ?_);rintro e a ⟨rfl,gx,st,kk⟩));rotate_left
 .go_ret;exact .inl ⟨_,_,K,W,st.un⟩
 have hj:j<Q t.N:=W;have st:=st.eq (A:=λr=>A8 (if lX t.N[j].x=0 then bF g.L t.i 1 else r.expr d ⟨t.i+1,t.N.take j,t.T⟩) λs2 v=>A8 (aC g.L s2 [59]) λs3 _=>aE s3<|kJ t.N[j] v) λr=>by
  rw [getD_at hj,Int.toNat_natCast];split<;>rfl
 refine (Qs_.set c hj st h6.2 W).mono ?_;rintro e a (⟨t',v,la,lc,rfl,gy,st,o,kk⟩|⟨er,p,rfl,hf⟩);rotate_left
 .exact zF_
 obtain ⟨y,yc,yl,yz⟩:=blkf y<|Kept.tS kk;obtain ⟨kd,na,nb,nc,hN⟩:=Rh t.N[j] v;simp only [hN] at st;rw [hN];generalize t.N[j]=nd at*;obtain ⟨st,y',hc⟩:=st.put9 y hi ht (v0:=U kd) (v1:=U na) (v2:=U nb) (v3:=U nc) (v4:=Y la (Q nd.M) lc) (v5:=ι ⟨ξ nd.text⟩) (v6:=U nd.n) (v7:=U nd.ty) (v8:=U nd.at') _ K;have o:=Ow.P o y hc;go_wp2_with (first
  |(go_at_call 189;refine st.ft.mono ?_;rintro e a (⟨t,x,rfl,gx,st,kk⟩|⟨er,p,rfl,hf⟩);rotate_left;exact zF_;have o:=Ow.kept o kk;obtain ⟨y,yc,yl,yz⟩:=blkf y'<|Kept.tS kk)
  |(go_at_call 45;refine (st.add o.u).mono ?_;rintro e a ⟨rfl,gx,st,kk⟩));go_ret;exact .inl ⟨_,_,K,W,st.un⟩
def y_typs:∀ m,CQ g 32 #[gp g] Sp.typ Gt_ (lf g m):=by
 intro m;induction m with
 |zero=>exact λq d s a h st=>absurd st.p.at' W
 |succ m ih=>exact y_typ (y_union<|y_member ih (lM.q<|Ũ g.hL m λm' h=>CQ.s0 λq d s a hx=>ih W)<|y_fob ih)
def y_all (hN:IV g.L):∀ m,CQ g 310 #[gp g] Sp.oper Gn_ (lf g m)∧CQ g 299 #[gp g] Sp.prod Gn_ (lf g m)∧CQ g 279 #[gp g] Sp.sum Gn_ (lf g m)∧CQ g 207 #[gp g] Sp.expr Gn_ (lf g m)∧CQ g 209 #[gp g] Sp.block Gn_ (lf g m)∧CQ g 44 #[gp g] Sp.gy Gn_ (lf g m):=by
 intro m;induction m with
 |zero=>refine ⟨?_,?_,?_,?_,?_,?_⟩<;>exact λq d s a h st=>absurd st.p.at' W
 |succ m ih=>
  obtain ⟨hO,hP,hM,hE,hB,hS⟩:=ih;have hT:=y_typs (g:=g) m;have h1:=y_operand hO (y_simple hN hE (y_object hE)<|y_function hB<|y_tyif hT)<|y_tail hE hT;have h2:=y_prod h1 hO;have h3:=y_sum h2 hP;have h4:=y_expr<|y_comp h3 hM;exact ⟨h1,h2,h3,h4,y_block hS,y_stmt<|y_any hE hB (y_tyif hT)<|y_dos h4⟩
end
def ZU {B pb:Nat} {tv:υ} {L:List Tk} (hL:cY L) (m:Nat):lM B pb tv L 32 (λd s r=>r.typ d s) m:=CQ.s0<|y_typs (g:=⟨B,pb,tv,L,hL⟩) m
def ą {B pb:Nat} {tv:υ} {L:List Tk} (hL:cY L) (hN:IV L) (m:Nat):bG B pb tv L 44 (λd s r=>r.gy d s) m:=CQ.conN (y_all (g:=⟨B,pb,tv,L,hL⟩) hN m).2.2.2.2.2
open Go.Proofs.Tryz
open Go.RowKit
section
variable{w:E}{B pb:Nat}{c:υ}{L:List Tk}{ok:Nat->Prop}{d:Nat}{s:St}
def Ţ(v:cY L)(h:dR w B pb c L ok d s):
 μ prog 81 #[pV pb] w λe l=>e=π (jK<|tk L s.i)/\I No w l:=by
 obtain⟨g,q,F,H,rfl,y,a,z,A,r,t,_,_,_,u,b⟩:=h.cell;have f:=h.at';obtain⟨m,n,o⟩:=WN f b;generalize tk L s.i=j at*;obtain⟨D,k,G⟩:=j;simp only[jK]at m n o⊢;generalize (⟨ξ k⟩:ByteArray)=p at*;generalize s.i=i at*;unfold Δ at a;go_in;go_wp2;go_region;go_wp2;exact ç (by simp[ã,results81,go_sem]) K ⟨K,(ν _ _ _).trans (Ψ _ _ 1) Ξ⟩
def qi(a:cY L)(h:dR w B pb c L ok d s):
 μ prog 42 #[pV pb] w λe g=>e=π (.bool<|decide<|(tk L s.i).x=6)/\I No w g:=by
 have H:=Ţ a h;have i:=Z7;generalize tk L s.i=f at*;obtain⟨j,l,k⟩:=f;simp only[jK]at H⊢;go_in;go_wp2_with fail;refine H.mono ?_;rintro e m ⟨rfl,b⟩;go_wp2;go_ret;exact⟨F9 Ω,b⟩
def CP(w:E)(B pb:Nat)(c:υ)(L:List Tk)(ok:Nat->Prop)(d:Nat)(g:Sp->Option (Out Int))(e:ò)(f:E):Prop:=
 Kept B ok w f/\∃o,Ev L g o/\match o with
  |.ok b x=>e=π (U x)/\(tk L b.i).x=6/\dR f B pb c L ok d b
  |.fail a p=>e=gu a p/\a≠0
def Wj{a}(b:(tk L s.i).x=6):Ev L (λr=>r.jd d s a) (.ok s a):=
 Ev.step (Ev.pure.eq λr=>by show (if (tk L s.i).x=6 then _ else _)=_;grind)
def yy{a}{o}(b:¬(tk L s.i).x=6)(h:Ev L (λr=>A8 (r.gy d s) λs x=>r.jd d s<|a++[x]) o):Ev L (λr=>r.jd d s a) o:=
 Ev.step (h.eq λr=>by show (if (tk L s.i).x=6 then _ else _)=_;grind)
def Pu(H:cY L)(hS:∀m',bG B pb c L 44 (λd s r=>r.gy d s) m')(P:∀g,V w.heap<=g->ok g)(hB:B<=V w.heap)(h:aH w B pb c L ok d s):
 μ prog 23 #[pV pb] w (CP w B pb c L ok d<|lB d s):=by
 have av:=H.jq;have ό:Hid (∀o,Ev L (λr=>A8 (r.jd d s []) λj l=>aE j<|Nd.mk 26 0 0 0 l [] 0 (-1) 0) o->Ev L (lB d s) o):=λo N=>N;obtain⟨i0,af,ai,aj,ak⟩:=info_parts Tryz.fy;have a7:=O h;go_in;go_wp2;go_loopw [3] (λam wr=>∃(a:uZ) (b:St) (n:Option í) (q:Nat),am=Y n (Q a) q/\Q a<=b.i/\Hid (Kept B ok w wr)/\Hid (L9 s b)/\Hid (wr.ownsRow (V w.heap) 3 1 (Y n (Q a) q) (Q a)<|C8 a)/\
  Hid (aH wr B pb c L (λg=>ok g/\C g≠Θ (Y n (Q a) q)) d b)/\Hid (∀o,Ev L (λr=>A8 (r.jd d b a) λj l=>aE j<|Nd.mk 26 0 0 0 l [] 0 (-1) 0) o->Ev L (lB d s) o)) (λ_ wr=>Q L-qI wr pb);case atStart=>exact⟨[],s,none,0,K,θ,Kept.refl _ _ _,⟨vQ _,W,W,W⟩,kW _ _ _ _,a7.u.mono λg i _=>⟨i,Ä⟩,ό.u⟩
 case round=>
  obtain⟨a,b,n,q,rfl,ao,KR,GR,OR,u,v⟩:=hrel;have HT:=B9d H u.u;have au:=u.u.j3;have ap:=u.u.fq;have ae:=GR.u;simp only[L9]at ae;generalize hq:decide ((tk L b.i).x=6)=al at*;have G:=O hq;go_wp2_with fail;refine HT.mono ?_;rintro e a6 ⟨rfl,M⟩;have k:=O<|KR.u.trans<|C9 M;have t:=O<|A3 OR.u M Ξ;have F:=O<|u.u.y M;cases al
  .have m:¬(tk L b.i).x=6:=by simpa using G.u
   have PX:Hid (aH a6 B pb c L (λg=>ok g/\C g≠Θ (Y n (Q a) q)) d b):=F.u;have HM:=O (hS (Q L-b.i) a6 _ d b (vQ _) (λg i=>⟨P g<|kQ k.u.size i,λhx=>by have:=(t.u.lt g hx.symm).2;omega⟩) (kQ hB k.u.size) PX.u);go_wp2_with fail;refine HM.u.mono ?_;rintro e an ⟨hk,o,ac,a5⟩;have A:=O<|k.u.trans<|hk.mono λ_ h=>h.1;have D:=O (G9 t.u hk ζ);have R:=O ac;cases o with
   |fail er p=>
    obtain⟨rfl,he⟩:=a5;exact⟨K,A.u,_,v.u _<|ø<|yy m<|ø R.u,K,he⟩
   |ok z y=>
    obtain⟨rfl,hp,i,_⟩:=a5;have a8:=O hp;have aq:_/\_/\_/\_:=i;have ar:=hp.at';have VN:=O (λo (N:Ev L (λr=>A8 (r.jd d z<|a++[y]) λj l=>aE j<|Nd.mk 26 0 0 0 l [] 0 (-1) 0) o)=>v.u o (by
     obtain⟨a9,h1⟩:=R.u;obtain⟨aa,h2⟩:=N;refine⟨a9+aa+1,λf hf=>?_⟩;obtain⟨g,rfl⟩:∃g,f=g+1:=⟨f-1,W⟩;have a1:(gW L g).gy d b=C (.ok z y):=h1 g W;have a2:=h2 g W;show A8 (if (tk L b.i).x=6 then C (.ok b a) else A8 ((gW L g).gy d b) λs x=>(gW L g).jd d s<|a++[x]) _=C o;rw[wY m,a1];exact a2));have ah:=O<|D.u.alloc<|γ #[U y] 3;go_wp2_with (at_builtin;refine wpList_append_own_at _ K _ _ 80 K (V w.heap) 3 i0 (U 0) 1 8 underlying80 af ai aj ak K ζ _ _ _ K ah.u (J (V an.heap) 0) 1 1 [U y] K K ?c1 ?c2 ?c3 ?c4 ?c5 ?_);case c1=>grind[cell_one_new]
    case c2=>intro aw hu;simp at hu;obtain rfl:=hu;rfl
    case c3=>grind[Δ]
    case c4=>omega
    case c5=>have:=A.u.size;simp;omega
    intro v' ax a4 a3 _ ab;obtain⟨Z,c2,ag⟩:=B8 a4;rw[ag]at a4 ab⊢;have PG:=O ((a8.u.alloc<|γ #[U y] 3).grown (v':=Y Z (Q a+1) c2) (D.u.alloc _) (.inl K) a3 ù);have KG:=O<|(A.u.alloc<|γ #[U y] 3).grown (D.u.alloc _) a3;go_wp2;go_roundw;case rel=>
     refine⟨a++[y],z,Z,c2,θ,η,KG.u,(show L9 s z from by grind[L9]),?_,?_,VN.u⟩<;>simp_all[ρ,T4]
    case measure=>
     have h3:=PG.u.j3;omega
  .have m:(tk L b.i).x=6:=by simpa using G.u
   have T:=O<|F.u.mono (ok':=ok) λg i _=>i.1;clear F;have S:=O (Ip H T.u (Nd.mk 26 0 0 0 a [] 0 (-1) 0) 0 n (Q a) q ⟨_,K,C7 t.u<|wQ _,λg i=>P g (A9 t.u g i).1⟩ K W (kQ hB k.u.size) λg i=>P g<|kQ k.u.size i);have EV:=O<|v.u _<|ú (k:=λ_ j l=>aE j<|Nd.mk 26 0 0 0 l [] 0 (-1) 0) (Wj m) Ç;have Q3:=O m;clear T v t m G;go_wp2_with fail;refine S.u.mono ?_;rintro e ay ⟨rfl,k9,p9⟩;have K9:=O<|k.u.trans k9;have P9:=O p9;clear k9 p9 S;go_wp2_with fail;go_ret;exact⟨K9.u,_,EV.u,K,Q3.u,P9.u⟩
def A9f(w:E)(B pb:Nat)(c:υ)(L:List Tk)(ok:Nat->Prop)(d:Nat)(g:Sp->Option (Out Int))(e:ò)(f:E):Prop:=
 Kept B ok w f/\∃o,Ev L g o/\match o with
  |.ok a _=>if (tk L a.i).x=6 then e=rT/\dR f B pb c L ok d a else e=gu 1 ((tk L a.i).at')
  |.fail b p=>e=gu b p/\b≠0
def FH(w:E)(B pb:Nat)(c:υ)(L:List Tk)(ok:Nat->Prop)(d:Nat)(g:Sp->Option (Out Int))(e:ò)(f:E):Prop:=
 Kept B ok w f/\∃o,Ev L g o/\match o with
  |.ok a _=>if (tk L a.i).x=6 then e=π (.agg #[U 0,U 0])/\dR f B pb c L ok d a else e=π (.agg #[U 1,U<|(tk L a.i).at'])
  |.fail b p=>e=π (.agg #[U b,U p])/\b≠0
def VX(w:E)(B pb:Nat)(c:υ)(L:List Tk)(ok:Nat->Prop)(d:Nat)(g:Sp->Option (Out Int))(e:ò)(f:E):Prop:=
 Kept B ok w f/\∃o,Ev L g o/\match o with
  |.ok a _=>if (tk L a.i).x=6 then (if 1200<Q a.N\/300<Q a.T then e=π (.agg #[U 2,U 0]) else e=π (.agg #[U 0,U 0])/\dR f B pb c L ok d a) else e=π (.agg #[U 1,U<|(tk L a.i).at'])
  |.fail b p=>e=π (.agg #[U b,U p])/\b≠0
def Tw(m:cY L)(F:∀P,bG B pb c L 44 (λd s r=>r.gy d s) P)(N:∀g,V w.heap<=g->ok g)(D:B<=V w.heap)(h:aH w B pb c L ok d s)(b f)(M:w.heap[b]?=C (γ #[.func (.func 23) #[pV pb] #[]] 53 (0,0)))
 (a:w.heap[f]?=C (γ #[pV pb] 76 (0,0))):
 μ prog 41 #[pV b,pV f] w (A9f w B pb c L ok d<|lB d s):=by
 have u:=Pu m F N D h;have Z:δ w (J b 0)=C (.func (.func 23) #[pV pb] #[]):=cr M K;have v:=O a;go_in;go_wp2_with fail;refine u.mono ?_;rintro e S ⟨q,o,H,t⟩;have k:=O q;have i:=O H;have a2:S.cell? (J f 0)=C (pV pb):=(xD q v.u ζ K).2;cases o with
 |fail T p=>
  obtain⟨rfl,G⟩:=t;exact⟨K,k.u,_,i.u,K,G⟩
 |ok R a4=>
  obtain⟨rfl,l,a⟩:=t;have j:=qi m a;have y:=O a;have A:decide ((tk L R.i).x=6)=τ:=by simp[l]
  rw[A]at j;go_wp2_with fail;refine j.mono ?_;rintro e a3 ⟨rfl,n⟩;have z:=O<|y.u.y n;have x:=O<|k.u.trans<|C9 n;go_wp2;go_end0;exact⟨x.u,_,i.u,by simp[l];exact z.u⟩
def Hc{j w e}{q}{a b}{f}(m:w.heap[q]?=C (γ f 25 (0,0)))(h:dR w B pb c L ok d s)(o:Θ c≠C q)(p:Kept B ok j w)(n:V j.heap<=q)(t:f.size=2)
 (i:I No (σ (σ w (J q 0) a) (J q 1) b) e):δ e (J q 0)=C a/\δ e (J q 1)=C b/\Kept B ok j e/\dR e B pb c L ok d s:=by
 have k:=ð w q 0 f _ a m;have l:=ð (σ w (J q 0) a) q 1 _ _ b k;have r:=(aG l);have g:=i.block q r λx=>x;rw[l]at g;refine⟨?_,?_,((p.f7 a n).f7 b n).trans<|C9 i,((h.f7 a m o ζ).f7 b k o ζ).y i⟩
 .rw[ä e q 0 _ _ _ g];grind
 .rw[ä e q 1 _ _ _ g];grind
def ĩ(H:cY L)(M:∀m',bG B pb c L 44 (λd s a5=>a5.gy d s) m')(a2:∀g,V w.heap<=g->ok g)(hB:B<=V w.heap)(h:aH w B pb c L ok d s)(n q)(hf:w.heap[n]?=C (γ #[.func (.func 23) #[pV pb] #[]] 53 (0,0)))
 (v:w.heap[q]?=C (γ #[pV pb] 76 (0,0))):
 μ prog 40 #[.func (.func 41) #[] #[pV n,pV q]] w (FH w B pb c L ok d<|lB d s):=by
 have F:=Tw H M (w:=w.alloc<|γ #[U 0,U 0] 25) (λg Z=>a2 g<|by simp at Z;omega) â (h.alloc _) n q (by grind[ÿ]) (by grind[ÿ]);have a3:=h.kq<|vQ _;go_enter_defers func40,ntmps40;go_wp2_with fail;refine F.mono ?_;rintro e a6 ⟨m,o,T,a⟩;obtain⟨l,x⟩:=xD m (rY w _) ζ (o:=0) K;have y:=(xD m (rY w _) ζ (o:=1) K).2;have hz:=(aG l);have z:=λo=>æ a6 _ o _ _ l;have D:=O l;have k:=O<|((Kept.refl B ok w).alloc _).trans m;have j:=O T;cases o with
 |fail t p=>
  obtain⟨rfl,S⟩:=a;unfold gu;refine leaves_cons (f:=80) (args:=#[pV (V w.heap)]) θ (by simp[go_sem]) ?_;refine(FQ (V w.heap) t p 0 0 [] _ x y z).mono ?_;rintro e A a7 ⟨rfl,rfl,N,b,f⟩;have r:FH w B pb c L ok d (lB d s) (π<|.agg #[U t,U p]) a7:=⟨k.u.trans' N λa4 hi hx=>W,_,j.u,K,S⟩;simp[Leaves,settle,ã,results40,go_sem,b,f];omega
 |ok i aa=>
  by_cases u:(tk L i.i).x=6
  .simp only[u,if_true]at a;obtain⟨rfl,v⟩:=a;have G:=O v;go_wp2;refine leaves_cons (f:=80) (args:=#[pV (V w.heap)]) θ (by simp[go_sem]) ?_;refine(OP (V w.heap) _).mono ?_;rintro e A a9 ⟨rfl,rfl,R⟩;obtain⟨b,f,k6,p6⟩:=Hc D.u G.u a3 k.u (vQ _) K R;have r:FH w B pb c L ok d (lB d s) (π<|.agg #[U 0,U 0]) a9:=⟨k6,_,j.u,η⟩;simp[Leaves,settle,ã,results40,go_sem,b,f];omega
  .simp only[u,if_false]at a;subst a;unfold gu;refine leaves_cons (f:=80) (args:=#[pV (V w.heap)]) θ (by simp[go_sem]) ?_;refine(FQ (V w.heap) 1 ((tk L i.i).at':Int) 0 0 [] _ x y z).mono ?_;rintro e A a8 ⟨rfl,rfl,P,b,f⟩;have r:FH w B pb c L ok d (lB d s) (π<|.agg #[U 1,U ((tk L i.i).at':Int)]) a8:=⟨k.u.trans' P λa4 hi hx=>W,_,j.u,η⟩;generalize ((tk L i.i).at':Int)=pa at*;simp[Leaves,settle,ã,results40,go_sem,b,f];omega
def D4b(T:cY L)(hS:∀m',bG B pb c L 44 (λd s a5=>a5.gy d s) m')(a3:∀g,V w.heap<=g->ok g)(hB:B<=V w.heap)(h:aH w B pb c L ok d s):
 μ prog 22 #[pV pb,.func (.func 23) #[pV pb] #[]] w (VX w B pb c L ok d<|lB d s):=by
 obtain⟨y,R,S⟩:=PH w (γ #[pV pb] 76) (γ #[.func (.func 23) #[pV pb] #[]] 53)<|γ #[U 0,U 0] 25;have M:=ĩ T hS (λg hg=>a3 g η) η (((h.alloc _).alloc _).alloc _) (V w.heap+1) (V w.heap) R y;have a4:Θ c≠C (V w.heap+2):=h.kq W;have v:=O y;have n:=O S;go_in;go_wp2_with fail;refine M.mono ?_;rintro a6 b ⟨f,o,D,j⟩;have i:=O<|((((Kept.refl B ok w).alloc _).alloc _).alloc _).trans f;have e:=O D;have aa:δ b (J (V w.heap) 0)=C (pV pb):=(xD f v.u ζ K).2;obtain⟨r,-⟩:=xD f n.u ζ (o:=0) K;have l:=(xD f n.u ζ (o:=0) K).2;have m:δ b (J (V w.heap+2) 1)=C (U 0):=(xD f n.u ζ (o:=1) K).2;have k:=(aG r);have rf:=λo=>æ b _ o _ _ r;have H:=O r;clear f D r v n;have a9:V w.heap<V b.heap:=W;cases o with
 |fail z p=>
  obtain⟨rfl,A⟩:=j;have a7:(z==0)=κ:=by simp[A]
  go_wp2_with fail;exact ç (v:=.agg #[U z,U p]) (by simp[ã,results22,go_sem,l,m,k]) K ⟨((i.u.f7 _ W).f7 _ W).alloc _,_,e.u,K,A⟩
 |ok a ab=>
  by_cases t:(tk L a.i).x=6
  .simp only[t,if_true]at j;obtain⟨rfl,u⟩:=j;have N:=O u;obtain⟨nv,yv,nx,yx,q,F,G,_⟩:=u.blk;have a8:=(aG q);obtain⟨na,nc,rfl⟩:=B8 F;obtain⟨ya,yc,rfl⟩:=B8 G;have c3:δ b (J pb 3)=C (Y na (Q a.N) nc):=cr q K;have c4:δ b (J pb 4)=C (Y ya (Q a.T) yc):=cr q K;clear u q F G;by_cases hN:(1200:Int)<(Q a.N:Int)
   .have Z:1200<Q a.N:=W;go_wp2_with fail;exact ç (v:=.agg #[U 2,U 0]) (by simp[ã,results22,go_sem,l,m,k]) K ⟨((i.u.f7 _ W).f7 _ W).alloc _,_,e.u,η⟩
   .have Z:¬1200<Q a.N:=W;by_cases hT:(300:Int)<(Q a.T:Int)
    .have a2:300<Q a.T:=W;go_wp2_with fail;exact ç (v:=.agg #[U 2,U 0]) (by simp[ã,results22,go_sem,l,m,k]) K ⟨((i.u.f7 _ W).f7 _ W).alloc _,_,e.u,η⟩
    .have a2:¬300<Q a.T:=W;go_wp2_with fail;obtain⟨_,_,k6,p6⟩:=Hc (a:=U 0) (b:=U 0) H.u N.u a4 i.u W K<|ν No _<|γ #[U 0,U 0] 25;exact ç (v:=.agg #[U 0,U 0]) (by simp[ã,results22,go_sem,l,m,k]) K ⟨k6,_,e.u,η⟩
  .simp only[t,if_false]at j;subst j;have x:VX w B pb c L ok d (lB d s) (π<|.agg #[U 1,U ((tk L a.i).at':Int)]) ((σ (σ b (J (V w.heap+2) 0)<|U 1) (J (V w.heap+2) 1)<|U ((tk L a.i).at':Int)).alloc<|γ #[U 1,U ((tk L a.i).at':Int)] 25):=
    ⟨((i.u.f7 _ W).f7 _ W).alloc _,_,e.u,η⟩;have P:=O x;clear x t e;go_wp2_with fail;exact ç (v:=.agg #[U 1,U ((tk L a.i).at':Int)]) (by simp[ã,results22,go_sem,l,m,k]) K P.u
end
set_option linter.unusedSimpArgs false
section
variable{B a:Nat}{b:υ}{L:List Tk}
end
section
variable{B a:Nat}{b:υ}{L:List Tk}
end
set_option linter.unusedSimpArgs false
section
variable{B a:Nat}{b:υ}{L:List Tk}
end
section
variable{w:E}{B b:Nat}{c:υ}{L:List Tk}{a:Nat->Prop}{d:Nat}{s:St}
end
section
variable{B a:Nat}{b:υ}{L:List Tk}
theorem heap_alloc_old(w:E)(o){k}(c:k<V w.heap):(w.alloc o).heap[k]?=w.heap[k]?:=ÿ _ _ _ c
end
def pM(w:E)(a:Nat)(v:υ)(N:List Nd):Prop:=∃b,ρ w a 82 9 v (Q N) b/\eN (gE w λg=>a<=g) N b
def LX(l:bZ)(w:E)(e:ò)(a:E):Prop:=
 Below (V w.heap) w a/\((∃b p,dZ l (.inl (b,p))/\e=π (.tuple #[.agg #[sN,sN,U 0],.agg #[U b,U p]]))\/
  ∃N T c d f g,dZ l (.inr (N,T))/\e=π (.tuple #[.agg #[Y c (Q N) d,Y f (Q T) g,U<|Q N-1],.agg #[U 0,U 0]])/\pM a (V w.heap) (Y c (Q N) d) N/\pL a (V w.heap) (Y f (Q T) g) T)
def PL{w c d:E}{l}{a p}(b:Below (V w.heap) w c)(e:iD (V w.heap) c d)(f:dZ l<|.inl (a,p)):
 LX l w (π<|.tuple #[.agg #[sN,sN,U 0],.agg #[U a,U p]]) d:=
 ⟨b.trans<|I.ep e (λi g x=>W) b.size,.inl ⟨a,p,f,K⟩⟩
def zu{w a y:E}{l}{k o}{m p}{N}{T}{n q}{z A}(s:Below (V w.heap) w a)(c:iD (V w.heap) a y)
 (L:a.heap[V w.heap]?=C (γ z 40 (0,0))) (M:a.heap[V w.heap+1]?=C (γ A 25 (0,0)))
 (t:ρ a (V w.heap) 82 9 (Y k (Q N) m) (Q N) n) (D:eN (gE a λg=>V w.heap<=g) N n)
 (u:ρ a (V w.heap) 99 4 (Y o (Q T) p) (Q T) q) (B:eN (eI a λg=>V w.heap<=g) T q) (F:dZ l<|.inr (N,T)):
 LX l w (π<|.tuple #[.agg #[Y k (Q N) m,Y o (Q T) p,U<|Q N-1],.agg #[U 0,U 0]]) y:=by
 have G:∀g,(g=V w.heap\/g=V w.heap+1)->∀b e r,a.heap[g]?=C (γ b e r)->e=40\/e=25:=by
  rintro g (rfl|rfl) b e r f
  .grind
  .grind
 have v:∀g,V w.heap<=g->g<V a.heap->(g=V w.heap\/g=V w.heap+1)->(∃b e,a.heap[g]?=C (γ b e (0,0))/\(e=139\/e=3))->False:=by
  rintro g _ _ j ⟨b,e,f,d⟩;obtain rfl|rfl:=G g j _ _ _ f<;>obtain d|d:=d<;>exact absurd d ζ
 refine⟨s.trans<|I.ep c (λi H x=>W) s.size,.inr ⟨N,T,k,m,o,p,F,K,⟨n,A3 t c λg h j=>?_,D.imp<|gE.P c v λ_ x _=>x⟩,⟨q,A3 u c λg h j=>?_,B.imp<|eI.P c v λ_ x _=>x⟩⟩⟩
 .obtain⟨_,b,f⟩:=A9 t g h;grind
 .obtain⟨_,b,f⟩:=A9 u g h;grind
def JN{b}{a}{c d e f g}{o}:iD b a (((σ (σ (σ (σ (σ a (J b 0) c) (J b 1) d) (J b 2) e) (J (b+1) 0) f) (J (b+1) 1) g).alloc o).drew):=
 ((((((iD.put (I.refl _ _)<|.inl K).put<|.inl K).put<|.inl K).put<|.inr K).put<|.inr K).alloc).drew
def VJ{B}{f}{w b}{q:Nat}{a}{e}(d:Kept B f w b)(h:w.heap[q]?=C (γ a e (0,0)))(c:e≠78/\e≠82/\e≠99):b.heap[q]?=C (γ a e (0,0)):=zO d h c
def Eg(s)(w:E)(af:s.size<=Δ):μ prog 11 #[ι s] w (LX s.data.toList w):=by
 have HS:=λa=>ė s a af;go_in;go_wp2_with fail;refine(HS _).mono ?_;rintro aa a ⟨ad,a9,rfl,ho,d⟩;have P:V w.heap+1<V a.heap:=by have:=d.size;simp at this;omega
 have R:V w.heap<V a.heap:=W;have f:Hid (a.heap[V w.heap]?=C (γ #[sN,sN,U 0] 40 (0,0))):=by
  rw[d.block (V w.heap) â,ÿ _ _ _ θ];exact rY w _
 have i:Hid (a.heap[V w.heap+1]?=C (γ #[U 0,U 0] 25 (0,0))):=by
  show _=_;rw[d.block (V w.heap+1) θ];have:=rY (w.alloc<|γ #[sN,sN,U 0] 40)<|γ #[U 0,U 0] 25;simpa using this
 have D:=O ((((Below.refl (V w.heap) w).alloc (vQ _)<|γ #[sN,sN,U 0] 40).alloc θ<|γ #[U 0,U 0] 25).trans<|d.mono â);have F:=O<|C7 ho (â:V w.heap<=_);by_cases j:(O8 s.data.toList).2.1=0
 .have ab:((O8 s.data.toList).2.1!=0)=κ:=by simp[j]
  obtain⟨a3,ac,L⟩:=Qz _ j;have ag:V w.heap<=V a.heap:=W;have Z:=D4b (w:=(a.alloc<|γ #[U 0,U ((O8 s.data.toList).2.2:Int)] 25).alloc<|γ #[Y ad (Q (O8 s.data.toList).1) a9,U 0,U 0,sN,sN] 78)
   (pb:=V a.heap+1) (ok:=λg=>V w.heap<=g) ⟨a3,L⟩ (ą ⟨a3,L⟩<|VD _) (λg H=>by simp at H;omega) â (C9e θ â (λg H=>by simp at H;omega) ac<|F.u.alloc _);have G:=O j;clear F L;go_wp2_with fail;refine Z.mono ?_;clear Z;rintro aa c ⟨n,o,a2,k⟩;have l:Hid (c.heap[V w.heap]?=C (γ #[sN,sN,U 0] 40 (0,0))):=
   VJ n (by rw[ÿ _ _ _ â,ÿ _ _ _ R];exact f.u) ζ;have y:Hid (c.heap[V w.heap+1]?=C (γ #[U 0,U 0] 25 (0,0))):=
   VJ n (by rw[ÿ _ _ _ ù,ÿ _ _ _ P];exact i.u) ζ;have S:V w.heap+1<V c.heap:=by have:=n.size;simp at this;omega
  have T:V w.heap<V c.heap:=W;have B:=O (((D.u.alloc ag _).alloc â _).trans<|n.below â);have e:=O a2;have u:δ c (J (V w.heap) 0)=C (sN):=cr l.u K;have v:δ c (J (V w.heap) 1)=C (sN):=cr l.u K;have x:δ c (J (V w.heap) 2)=C (U 0):=cr l.u K;have qf:=λo=>æ c _ o _ _ l.u;have r:δ c (J (V w.heap+1) 0)=C (U 0):=cr y.u K;have t:δ c (J (V w.heap+1) 1)=C (U 0):=cr y.u K;have pf:=λo=>æ c _ o _ _ y.u;clear n a2 P R D f i;cases o with
  |fail m p=>
   obtain⟨rfl,a4⟩:=k;have ae:(m !=0)=τ:=by simp[a4]
   have h:=O (show dZ s.data.toList (.inl (m,p)) from ⟨a4,.inr ⟨G.u,.inl e.u⟩⟩);clear e;go_wp2_with fail;go_region;all_goals go_wp2_with fail
   exact ç (v:=.tuple #[.agg #[sN,sN,U 0],.agg #[U m,U p]]) (by simp[ã,results11,go_sem,u,v,x,r,t,S,T]) K<|PL B.u JN h.u
  |ok b a7=>
   by_cases z:(tk (O8 s.data.toList).1 b.i).x=6
   .simp only[z,if_true]at k;by_cases q:1200<Q b.N\/300<Q b.T
    .rw[yY q]at k;subst k;have h:=O (show dZ s.data.toList (.inl (2,0)) from ⟨ζ,.inr ⟨G.u,.inr ⟨b,a7,e.u,q,K,K⟩⟩⟩);clear q z;have ae:((2:Int)!=0)=τ:=ζ;clear e;go_wp2_with fail;go_region;all_goals go_wp2_with fail
     exact ç (v:=.tuple #[.agg #[sN,sN,U 0],.agg #[U 2,U 0]]) (by simp[ã,results11,go_sem,u,v,x,r,t,S,T]) K<|PL B.u JN h.u
    .rw[wY q]at k;obtain⟨rfl,hp⟩:=k;have h:=O (show dZ s.data.toList (.inr (b.N,b.T)) from ⟨G.u,b,a7,e.u,W,W,K,K⟩);obtain⟨nv,yv,nx,yx,d,M,N,a5,a6⟩:=hp.blk;obtain⟨na,nc,rfl⟩:=B8 M;obtain⟨ya,yc,rfl⟩:=B8 N;have c3:δ c (J (V a.heap+1) 3)=C (Y na (Q b.N) nc):=cr d K;have c4:δ c (J (V a.heap+1) 4)=C (Y ya (Q b.T) yc):=cr d K;have ai:=(aG d);have aj:Q b.N<=1200:=W;have OO:=O N;have RR:=O a6;have ON:=O M;have RN:=O a5;clear hp d M N a5 a6 q z e;generalize A:Q b.N=nn at*;have a8:=O A;clear A;go_wp2_with fail;go_region;go_wp2_with fail;have A:=a8.u;subst A;exact ç (v:=.tuple #[.agg #[Y na (Q b.N) nc,Y ya (Q b.T) yc,U<|(Q b.N:Int)-1],.agg #[U 0,U 0]]) (by simp[ã,results11,go_sem,u,v,x,r,t,S,T]) K<|zu B.u JN l.u y.u ON.u RN.u OO.u RR.u h.u
   .exact absurd (D0e e.u) z
 .have ab:((O8 s.data.toList).2.1!=0)=τ:=by simp[j]
  have h:=O (show dZ s.data.toList (.inl ((O8 s.data.toList).2.1,((O8 s.data.toList).2.2:Int))) from ⟨j,.inl ⟨K,K⟩⟩);have u:δ a (J (V w.heap) 0)=C (sN):=cr f.u K;have v:δ a (J (V w.heap) 1)=C (sN):=cr f.u K;have x:δ a (J (V w.heap) 2)=C (U 0):=cr f.u K;have qf:=λo=>æ a _ o _ _ f.u;have r:δ a (J (V w.heap+1) 0)=C (U 0):=cr i.u K;have t:δ a (J (V w.heap+1) 1)=C (U 0):=cr i.u K;have pf:=λo=>æ a _ o _ _ i.u;clear F f i j;generalize (O8 s.data.toList).2.1=m at*;generalize ((O8 s.data.toList).2.2:Int)=p at*;go_wp2_with fail;go_region;all_goals go_wp2_with fail
  exact ç (v:=.tuple #[.agg #[sN,sN,U 0],.agg #[U m,U p]]) (by simp[ã,results11,go_sem,u,v,x,r,t,P,R]) K<|PL D.u JN h.u
