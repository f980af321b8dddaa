/-
  A part of the proof.
-/
import Derived.Test.YtllclkcjdhoohaaGreatDoorScanB
import Derived.Deep.DeepCutAuto
set_option maxHeartbeats 0
set_option linter.all false
set_option maxRecDepth 100000
namespace Go.Proofs.YtllclkcjdhoohaaGreatDoor
open _root_.Array renaming size->V
open Bool renaming false->κ,true->τ
open Go renaming Calls->μ,maxLen->Δ,Value->υ,frozen_of_row->æ,heap_setCell_same->ð,info_parts->ý
open Act renaming put->ë
open Ending renaming returned->π
open Instr renaming mapUpdate->Ï
open IntKind renaming i64->χ
open Obj renaming cells->γ
open Go.Proofs.Tryz renaming prog->ε
open Value renaming slice->Y,pointer->Γ,ownBlock->Θ,string->ι
open World renaming ownsRow->ρ,alloc->ω,cell?->δ,block_lt_of_cell?->Ü,setCell->σ,news_of_block->Ó
open I renaming drewN->Ψ,grown->ü,alloc->ν,set->é
open List renaming length->Q,toArray->ξ
open Option renaming some->C
open Go.Proofs.Tryz
open Go.RowKit Go.Maps
section
variable{b a N:Nat}{T:List Ty}
theorem cH.trans{w g i}{D c}{m}(h:cH w a N T D m g)(o:∀p q,p<N->q<N->m<=p+q->gX c p q=gX D p q)(k:cH g a N T c m i):cH w a N T D m i:=by
 obtain⟨j,l,n⟩:=k.jg;exact⟨h.P.trans k.P Ξ,j,l,λp q d f e=>(n p q d f e).trans<|o p q d f e⟩
def cH.box{w c}{D}{m q}{v}{e}{d}(h:cH w a N T D m c)(g:gT w a N T d)(f:fU w q v e):fU c q v e:=f.jg g h.P
def xd(m)(IH:mI b a N T m)(w)(D)(a5:dY w b a N T D)(o)(s)(d)(ho:ρ w 0 139 2 (Y o (Q d) s) (Q d)<|I0 d)
 (L) (M) (c) (hw:ρ w 0 139 2 (Y L (Q c) M) (Q c)<|I0 c) (B F)
 (a7:∀p∈d,0<=p.2/\p.2<Q T/\∀q∈c,p.2+q.2+1<=m) (a8:∀q∈c,0<=q.2/\q.2<Q T) (hl:fU w F (pV b) 93) (hq:fU w B (Y o (Q d) s) 97):
 μ ε 216 #[Y L (Q c) M,.func (.func 302) #[] #[pV B,pV F]] w λe w'=>
  (∃r,e=π (.int χ r)/\decide (0<=r)=c.any λp=>!S8 T d p)/\cH w a N T D m w':=by
 have g:=O a5;have HO:=O ho;have HW:=O hw;have a2:=O hl;have a3:=O hq;have l:=O a7;have Z:=O a8;go_in;go_wp2;go_loopw [8] (λv wr=>∃j:Nat,j<=Q c/\v=.int χ j/\Hid ((c.take j).any (λp=>!S8 T d p)=κ)/\Hid (cH w a N T D m wr)) (λv _=>Q c-(intOf v).toNat);case atStart=>exact⟨0,wQ _,K,Ω,cH.refl g.u m⟩
 case round=>
  obtain⟨j,hj,rfl,G,f⟩:=hrel;by_cases u:j<Q c
  .obtain⟨ae,rfl,hg,af,aa,y0,y1⟩:=Y8 (Y5 HW.u g.u.gm f.u.P) u;have y:=mQ u;have P:=Z.u _ y;have ac:=λp h=>(l.u p h).2.2 _ y;have HT:=O<|SE (p:=λp=>!S8 T d p) u;have HM:=O y;generalize c[j]=e0 at*;obtain⟨i,R⟩:=e0;simp only at y0 y1 P ac;obtain⟨z,rfl⟩:∃z:Nat,R=z:=⟨R.toNat,W⟩;obtain⟨S,ab,a6⟩:=f.u.lx g.u;have k:=vr m IH wr S ab o s d (Y5 HO.u g.u.gm f.u.P) i z B F W (λp h=>⟨(l.u p h).1,(l.u p h).2.1,η⟩) (f.u.box g.u.gm a2.u)<|f.u.box g.u.gm a3.u;have H:=O a6;unfold Δ at aa;have HR:Hid (∀r,r=(!S8 T d (i,z))->(∃x∈c,(!S8 T d x)=τ)\/r=κ):=by
    intro r A;cases r
    .simp
    .exact .inl ⟨_,HM.u,A.symm⟩
   generalize A:(!S8 T d (i,z))=r at HT k;have a4:=O<|HR.u r A.symm;generalize P:(⟨ξ i⟩:ByteArray)=bx at*;cases r
   .go_wp2_with fail;refine k.mono ?_;rintro e ad ⟨rfl,t⟩;have n:=O<|f.u.trans H.u t;go_wp2;go_roundw;case rel=>exact⟨j+1,W,ï,η,n.u⟩
    grind[intOf]
   .go_wp2_with fail;refine k.mono ?_;rintro e ad ⟨rfl,t⟩;have n:=O<|f.u.trans H.u t;go_wp2;go_ret;refine⟨⟨_,K,?_⟩,n.u⟩;obtain⟨x,ag,ah⟩|h0:=a4.u<;>grind
  .have a9:j=Q c:=W;subst a9;rw[vZ]at G;go_wp2;go_ret;exact⟨⟨_,K,by rw[G.u];simp⟩,f.u⟩
def xw(m)(o:mI b a N T m)(w)(D)(h:dY w b a N T D)(f)(g)(d)(x:ρ w 0 139 2 (Y f (Q d) g) (Q d)<|I0 d)
 (i) (j) (c) (z:ρ w 0 139 2 (Y i (Q c) j) (Q c)<|I0 c) (l n)
 (s:∀p∈d,0<=p.2/\p.2<Q T/\∀q∈c,p.2+q.2+1<=m) (t:∀q∈c,0<=q.2/\q.2<Q T) (u:fU w n (pV b) 93) (y:fU w l (Y f (Q d) g) 97):
 μ ε 301 #[Y i (Q c) j,.func (.func 302) #[] #[pV l,pV n]] w λe A=>
  e=π (.bool<|c.any λp=>!S8 T d p)/\cH w a N T D m A:=by
 have H:=xd m o w D h f g d x i j c z l n s t u y;generalize (c.any λp=>!S8 T d p)=r at*;go_in;go_wp2_with fail;refine H.mono ?_;rintro e F ⟨⟨k,rfl,B⟩,v⟩;go_wp2;all_goals go_ret
 all_goals exact⟨F9 Ω,v⟩
theorem VM{c:Type}(p):∀l:List c,(!l.any λx=>!p x)=l.all p
 |[]=>K
 |d::l=>η
def ţ(m)(o:mI b a N T m)(w)(D)(h:dY w b a N T D)(f)(g)(c)(y:ρ w 0 139 2 (Y f (Q c) g) (Q c)<|I0 c)
 (i) (j) (d) (z:ρ w 0 139 2 (Y i (Q d) j) (Q d)<|I0 d)
 (u:∀p∈c,0<=p.2/\p.2<Q T/\∀q∈d,p.2+q.2+1<=m) (v:∀q∈d,0<=q.2/\q.2<Q T):
 μ ε 284 #[pV b,Y f (Q c) g,Y i (Q d) j] w λe A=>
  e=π (.bool<|d.all λp=>S8 T c p)/\cH w a N T D m A:=by
 have t:=WW w (pV b) 93;have k:=WW (ω w<|γ #[pV b] 93) (Y f (Q c) g) 97;simp at k;have H:=xw m o _ D ((h.alloc<|γ #[pV b] 93).alloc<|γ #[Y f (Q c) g] 97) f g c ((y.alloc _).alloc _) i j d ((z.alloc _).alloc _) (V w.heap+1) (V w.heap) u v (t.alloc _) k;have l:=O<|((cH.refl h m).alloc<|γ #[pV b] 93).alloc<|γ #[Y f (Q c) g] 97;have n:=O<|VM (λp=>S8 T c p) d;generalize (d.all λp=>S8 T c p)=r at*;generalize (d.any λp=>!S8 T c p)=B at*;go_in;go_wp2_with fail;refine H.mono ?_;rintro e F ⟨rfl,x⟩;have s:=O<|l.u.trans (λ_ _ _ _ _=>K) x;go_wp2;go_ret;exact⟨F9 n.u,s.u⟩
end
set_option linter.unusedSimpArgs false
section
variable{b a N:Nat}{T:List Ty}
def qO(T:List Ty)(p:Int×Int):Bool:=F7 (tr T p.1.toNat) (tr T p.2.toNat)||F7 (tr T p.2.toNat) (tr T p.1.toNat)
def xf{c:Type}{p}{l:List c}{j}(d):(l.take<|j+1).all p=((l.take j).all p&&p l[j]):=by
 grind[nQ]
def Dh{w d c}{D}{m}{p1 p2:Nat×Nat}{f g}(e:I (λk=>k=a) d c)(i:cH w a N T D m c)(h:δ d (J p1.1 p1.2)=C f/\δ d (J p2.1 p2.2)=C g/\Hid (cH w a N T D m d)):
 δ c (J p1.1 p1.2)=C f/\δ c (J p2.1 p2.2)=C g/\Hid (cH w a N T D m c):=
 ⟨I4 h.2.2.u e h.1,I4 h.2.2.u e h.2.1,i⟩
def zo(m)(S:mI b a N T m)(w)(D)(a2:dY w b a N T D)(Z)(A)(c)(ho:ρ w 0 3 1 (Y Z (Q c) A) (Q c)<|C8 c)
 (ba) (B) (d) (hp:ρ w 0 3 1 (Y ba (Q d) B) (Q d)<|C8 d) (a3:∀x∈c,0<=x/\x<Q T/\∀y∈d,x+y+1<=m) (a4:∀y∈d,0<=y/\y<Q T):
 μ ε 304 #[pV b,Y Z (Q c) A,Y ba (Q d) B] w λe f=>
  e=π (.bool<|decide (Q c<=Q d)&&(c.zip d).all (qO T))/\cH w a N T D m f:=by
 have h:=O a2;have HO:=O ho;have HP:=O hp;have HI:=O a3;have HJ:=O a4;clear a2 ho hp a3 a4;by_cases ae:Q c<=Q d
 .have n:decide (Q c<=Q d)=τ:=by simp[ae]
  have a8:decide (Q d<Q c)=κ:=â;have a6:Q (c.zip d)=Q c:=â;have HZ:=O a6;rw[n,Bool.true_and];clear n a6;go_in;go_wp2;go_loopw [15] (λv wr=>∃j:Nat,j<=Q c/\v=.int χ (j:Int)/\Hid (((c.zip d).take j).all (qO T)=τ)/\Hid (cH w a N T D m wr)) (λv _=>Q c-(intOf v).toNat);case atStart=>exact⟨0,wQ _,K,Ω,cH.refl h.u m⟩
  case round=>
   obtain⟨j,hj,rfl,o,g⟩:=hrel;by_cases a5:j<Q c
   .have H:j<Q d:=W;obtain⟨k,rfl,aj,al,ab,M⟩:=D6 (Y5 HO.u h.u.gm g.u.P) a5;obtain⟨l,rfl,ak,am,ad,P⟩:=D6 (Y5 HP.u h.u.gm g.u.P) H;have hx:=HI.u c[j]<|mQ a5;have hy:=HJ.u d[j]<|mQ H;have ag:=hx.2.2 d[j]<|mQ H;have u:=O (xf (p:=qO T) (l:=c.zip d) (j:=j) η);have HN:Hid (∀r,r=κ->r=qO T (c[j],d[j])->(c.zip d).all (qO T)=κ):=by
     intro r an ao;rw[List.all_eq_false];refine⟨(c[j],d[j]),?_,η⟩;have e:(c.zip d)[j]'η=(c[j],d[j]):=θ;rw[<-e];exact mQ _
    rw[List.getElem_zip]at u;generalize c[j]=xi at*;generalize d[j]=yi at*;obtain⟨x,rfl⟩:∃x:Nat,xi=(x:Int):=⟨xi.toNat,W⟩;obtain⟨y,rfl⟩:∃y:Nat,yi=(y:Int):=⟨yi.toNat,W⟩;have t:Hid (qO T ((x:Int),(y:Int))=(F7 (tr T x) (tr T y)||F7 (tr T y) (tr T x))):=K;have R:∀(p q:Nat) (r:Bool),(p=x/\q=y/\r=F7 (tr T x) (tr T y))\/(p=y/\q=x/\r=F7 (tr T y) (tr T x))->∀i,cH w a N T D m i->
     μ ε 255 #[pV b,.int χ (p:Int),.int χ (q:Int)] i λe f=>e=π (.bool r)/\I (λah=>ah=a) i f/\cH w a N T D m f:=by
     rintro p q r (⟨rfl,rfl,rfl⟩|⟨rfl,rfl,rfl⟩) i ha
     .exact DF S h.u W W W i ha
     .exact DF S h.u W W W i ha
    generalize F7 (tr T x) (tr T y)=ai at*;generalize F7 (tr T y) (tr T x)=r2 at*;generalize qO T ((x:Int),(y:Int))=r3 at*;unfold Δ at ab ad;clear hx hy ag;cases ai
    .go_wp2_with fail;go_region_held3 (λf=>δ f (J k j)=C (.int χ (x:Int))/\δ f (J l j)=C (.int χ (y:Int))/\Hid (cH w a N T D m f))
      (first
       |exact⟨M,P,g.u.drewN 1⟩
       |exact Dh (p1:=(k,j)) (p2:=(l,j)) G L ⟨W,W,W⟩
       |(go_split_ands;exact⟨À,À,À⟩))
      (first
       |((go_at_call 255;go_split_ands;refine(R _ _ _ (by first|exact .inl ⟨K,K,K⟩|exact .inr ⟨K,K,K⟩) _<|Hid.u W).mono ?_;rintro e f ⟨rfl,G,L⟩)));have s:Hid (cH w a N T D m f):=À;cases r2
     .go_wp2;go_ret;exact⟨F9 (HN.u r3 (by rw[t.u];rfl) K).symm,s.u⟩
     .go_wp2;go_roundw;case rel=>exact⟨j+1,W,ï,by show _=_;rw[u.u,o.u,t.u];rfl,s.u⟩
      grind[intOf]
    .go_wp2_with fail;refine wp_region_held_drew (S:=λf=>δ f (J k j)=C (.int χ (x:Int))/\δ f (J l j)=C (.int χ (y:Int))/\Hid (cH w a N T D m f)) Ω ⟨M,P,g.u.drewN 1⟩ λa7=>?_;refine tA 0 18 (pV b) ?_;simp only[ë,aT,a0,a1];refine tA 1 19 (Y (C<|J k 0) (Q c) A) ?_;simp only[ë,aT,a0,a1];refine tA 2 20 (.int χ (j:Int)) ?_;simp only[ë,aT,a0,a1];refine tA 3 21 (Γ<|C<|J k j) ?_;simp only[ë,aT,a0,a1];refine tA 4 22 (.int χ (x:Int)) ?_;simp only[ë,aT,a0,a1];refine tA 5 23 (Y (C<|J l 0) (Q d) B) ?_;simp only[ë,aT,a0,a1];refine tA 6 24 (.int χ (j:Int)) ?_;simp only[ë,aT,a0,a1];refine tA 7 25 (Γ<|C<|J l j) ?_;simp only[ë,aT,a0,a1];refine tA 8 26 (.int χ (y:Int)) ?_;simp only[ë,aT,a0,a1];refine wpAnyH_ready (rs:=[9]) î θ ?_;refine AllReadyH.cons (o:=Oper.mk (C 27) _ _ _ _ _) K (λϋ hK=>?_) AllReadyH.nil;go_simp;refine(R x y τ (.inl ⟨K,K,K⟩) _<|g.u.drewN 1).mono ?_;rintro e f ⟨rfl,G,L⟩;have z:=Dh (p1:=(k,j)) (p2:=(l,j)) G L ⟨M,P,g.u.drewN 1⟩;refine hK _ _ z λ_=>?_;clear hK ϋ a7;refine tA 10 28 (.bool κ) ?_;simp only[ë,aT,a0,a1];refine tA 11 29 (.bool κ) ?_;simp only[ë,aT,a0,a1];refine tU 12 30 ?_;simp only[ë,aT,a0,a1];refine tU 13 31 ?_;simp only[ë,aT,a0,a1];refine tU 14 32 ?_;simp only[ë,aT,a0,a1];refine tU 15 33 ?_;simp only[ë,aT,a0,a1];refine tU 16 34 ?_;simp only[ë,aT,a0,a1];refine tU 17 35 ?_;simp only[ë,aT,a0,a1];refine tU 18 36 ?_;simp only[ë,aT,a0,a1];refine tU 19 37 ?_;simp only[ë,aT,a0,a1];refine tU 20 38 ?_;simp only[ë,aT,a0,a1];refine tU 21 39 ?_;simp only[ë,aT,a0,a1];refine tU 22 40 ?_;simp only[ë,aT,a0,a1];refine tA 23 41 (.bool κ) ?_;simp only[ë,aT,a0,a1];refine wpAnyH_done Ω ?_ _;have s:=z.2.2;clear z;go_wp2;go_roundw;case rel=>exact⟨j+1,W,ï,by show _=_;rw[u.u,o.u,t.u];rfl,s.u⟩
     grind[intOf]
   .have a9:j=Q c:=W;subst a9;have af:(c.zip d).take (Q c)=c.zip d:=List.take_of_length_le η;rw[af]at o;go_wp2;go_ret;exact⟨F9 o.u.symm,g.u⟩
 .have n:decide (Q c<=Q d)=κ:=â;have a8:decide (Q d<Q c)=τ:=â;rw[n,Bool.false_and];have HM:=O<|cH.refl h.u m;clear n;go_in;go_wp2;all_goals go_ret
  all_goals exact⟨K,HM.u⟩
end
def Tryz.lj(w:E):(zeroValue 3).run ε w=.ok (.int χ 0) w:=î
section
variable{e d N:Nat}{T:List Ty}
theorem Ž{h g:Type}(f)(p:g×g->Bool):∀(l c:List h),((l.map f).zip<|c.map f).all p=(l.zip c).all λx=>p (f x.1,f x.2)
 |[],_=>θ
 |_::_,[]=>θ
 |a::l,b::c=>η
def uy{a b}(c:aX T)(f)(g:b<Q T)(l:T[a].x=9)(m:T[b].x=9):
 F7 (tr T a) (tr T b)=((decide (Q T[a].M<=Q T[b].M)&&(T[a].M.zip T[b].M).all (qO T))&&F7 (tr T T[a].fh.toNat) (tr T T[b].fh.toNat)):=by
 have j:∀i (k:i<Q T),T[i].x=9->T[i].eo=[]:=by
  intro i k n;obtain h|h|h|h|h:=c i k
  .omega
  .omega
  .omega
  .grind
  .omega
 rw[X7 c f,X7 c g,l,m,j a f l,j b g m];rw[yY<|.inr K,yY<|.inr K];simp;rw[ġ];simp;rw[Ž];rfl
def Di{w a b}{D}{m}{p1 p2 p3 p4 p5:Nat×Nat}{f g i j l}(c:I (λk=>k=d) a b)(n:cH w d N T D m b)
 (h:δ a (J p1.1 p1.2)=C f/\δ a (J p2.1 p2.2)=C g/\δ a (J p3.1 p3.2)=C i/\δ a (J p4.1 p4.2)=C j/\δ a (J p5.1 p5.2)=C l/\Hid (cH w d N T D m a)):
 δ b (J p1.1 p1.2)=C f/\δ b (J p2.1 p2.2)=C g/\δ b (J p3.1 p3.2)=C i/\δ b (J p4.1 p4.2)=C j/\δ b (J p5.1 p5.2)=C l/\Hid (cH w d N T D m b):=
 ⟨I4 h.2.2.2.2.2.u c h.1,I4 h.2.2.2.2.2.u c h.2.1,I4 h.2.2.2.2.2.u c h.2.2.1,I4 h.2.2.2.2.2.u c h.2.2.2.1,I4 h.2.2.2.2.2.u c h.2.2.2.2.1,n⟩
def look{w}{D}{a b}{c}(g:gT w d N T D)(r:a<Q T)(s:b<Q T)(j:gX D a b=.lit (.int χ c))(n):
 (Instr.lookup 167 (.map<|C d) (.agg #[.int χ a,.int χ b]) κ).run ε (w.drewN n)=.ok (.int χ c) (w.drewN n):=by
 have p:=g.len;have q:=g.fq;obtain⟨k,l,_⟩:=g.own;have m:(w.drewN n).ownsMap ε 292 (plainElem ε 3) d k D:=l;obtain⟨h,o,i,_⟩:=m.lookup_int JV underlying167 underlying3 (Tryz.lj _) (DT a b (U7 a W)<|U7 b W);have f:gX D a b=.lit (.int χ h):=i;rw[j]at f;simp at f;rw[f];exact o
def Mv{w}{D}{a b}(f:gT w d N T D)(m:a<Q T)(n:b<Q T):∃c,gX D a b=.lit (.int χ c):=by
 have j:=f.len;have l:=f.fq;obtain⟨k,i,_⟩:=f.own;obtain⟨g,o,h,_⟩:=i.lookup_int JV underlying167 underlying3 (Tryz.lj _) (DT a b (U7 a W)<|U7 b W);exact⟨g,h⟩
def tell{w l f}{D}{m a b}(o:I No w l)(j:cH l d N T D m f)(q:a<Q T)(s:b<Q T)(L:gX D a b=.lit (.int χ 0))(v:m<=a+b)(r)(F:F7 (tr T a) (tr T b)=r):
 ∃g,(Ï 167 (.map<|C d) (.agg #[.int χ a,.int χ b])<|.int χ<|if r then 1 else 2).run ε f.drew=.ok () g/\lV w d N T D (a+b) r (π<|.bool r) g:=by
 obtain⟨h,c,t⟩:=j.jg;have M:=c.len;have i:=c.fq;obtain⟨n,z,y⟩:=c.own;have A:f.drew.ownsMap ε 292 (plainElem ε 3) d n h:=z;have P:=Nat.mul_le_mul i i;have H:(Lit.int χ<|if r then 1 else 2).wf=τ:=by cases r<;>decide
 obtain⟨g,G,B,u⟩:=A.update JV underlying167 Ñ (DT a b (U7 a W)<|U7 b W)<|plainElem_int underlying3 H;have a2:gX h a b=.lit (.int χ 0):=by rw[t a b W W v];exact L
 have p:=c.put q s (by grind[Tu]) r F y B;refine⟨g,G,K,?_,_,p,λa3 a4 R Z S=>?_⟩
 .exact((o.mono λ_ _ x=>x.elim).trans j.P Ξ).trans ((Ψ (λk=>k=d) f 1).trans (ü u) λk _ x=>η) Ξ
 grind[MA]
def Rt(m)(IH:mI e d N T m)(w)(D)(h:dY w e d N T D)(a b)(s)(t:b<Q T)(hm:a+b=m)(ka:T[a].x=9)(kb:T[b].x=9):
 μ ε 285 #[pV e,.int χ a,.int χ b] w (lV w d N T D (a+b)<|F7 (tr T a)<|tr T b):=by
 have hT:=h.ok;have bb:=h.fq;obtain⟨k,S⟩:=Mv h.gm s t;have n:=h.alloc<|γ #[.int χ (a:Int),.int χ (b:Int)] 292;have HL:=look n.gm s t S;have af:=h.gm.jg a b k (yQ s h.gm.len) (yQ t h.gm.len) S;have C0:=O<|ν No w<|γ #[.int χ (a:Int),.int χ (b:Int)] 292;obtain⟨ad,c,ag,aw,am,fz,aa⟩:=h.cell;have j:=O<|cH.refl n m;have A:=O n;have HF:=O<|uy hT s t ka kb;have HT:=O (λau (r:cH (w.alloc<|γ #[.int χ (a:Int),.int χ (b:Int)] 292) d N T D m au) (hz:k=0) b4 hr=>tell C0.u r s t (hz ▸ S) W b4 hr);have HD:Hid (gX D a b=.lit (.int χ k)):=S;have b7:=O h.gm;clear S n hT;by_cases aj:k=0
 .subst aj;clear af;have M:=h.ok;obtain⟨g,fa,fc,la,F,rfl,hg,ba,ay,-,-,x2,x3,-,ap⟩:=aa a s;obtain⟨g',fb,b6,a8,G,ai,-,-,-,-,-,z2,z3,-,aq⟩:=aa b t;simp only[zQ,Addr.mk.injEq,and_true]at ai;subst ai;have ak:=(M a s).lg;have al:=(M b t).lg;have b0:=(M a s).of<|.inr ka;have b1:=(M b t).of<|.inr kb;have O1:=O<|ap.alloc<|γ #[.int χ (a:Int),.int χ (b:Int)] 292;have O2:=O<|aq.alloc<|γ #[.int χ (a:Int),.int χ (b:Int)] 292;clear aa ap aq h M;generalize T[a].M=o at*;generalize T[b].M=p at*;generalize T[a].fh=oi at*;generalize T[b].fh=pi at*;obtain⟨ox,rfl⟩:∃x:Nat,oi=(x:Int):=⟨oi.toNat,W⟩;obtain⟨oy,rfl⟩:∃x:Nat,pi=(x:Int):=⟨pi.toNat,W⟩;have P:∀{ao ar},δ w (J g ao)=C ar->δ (ω w<|γ #[.int χ (a:Int),.int χ (b:Int)] 292) (J g ao)=C ar:=λhx=>I9 hg hx;have a0:δ (ω w<|γ #[.int χ (a:Int),.int χ (b:Int)] 292) (J e 0)=C (Y (C<|J g 0) (Q T) c):=I9 am ag;have a1:=P x2;have a2:=P z2;have a3:=P x3;have a4:=P z3;have a5:δ (ω w<|γ #[.int χ (a:Int),.int χ (b:Int)] 292) (J e 1)=C (.map<|C d):=I9 am aw;have a6:δ (ω w<|γ #[.int χ (a:Int),.int χ (b:Int)] 292) (J (V w.heap) 0)=C (.int χ (a:Int)):=by rw[World.cell?_alloc_new];rfl
  have a7:δ (ω w<|γ #[.int χ (a:Int),.int χ (b:Int)] 292) (J (V w.heap) 1)=C (.int χ (b:Int)):=by rw[World.cell?_alloc_new];rfl
  have A5:=O a5;have A6:=O a6;have A7:=O a7;have PF:∀y,cH (ω w<|γ #[.int χ (a:Int),.int χ (b:Int)] 292) d N T D m y->μ ε 304 #[pV e,Y la (Q o) F,Y a8 (Q p) G] y λH f=>
   H=π (.bool<|decide (Q o<=Q p)&&(o.zip p).all (qO T))/\I (λk=>k=d) y f/\cH (ω w<|γ #[.int χ (a:Int),.int χ (b:Int)] 292) d N T D m f:=by
   intro y r;obtain⟨D1,b2,az⟩:=r.lx A.u;refine(zo m IH y D1 b2 la F o (Y5 O1.u A.u.gm r.P) a8 G p (Y5 O2.u A.u.gm r.P) (λx hx=>⟨(ak x hx).1,η,λav hy=>η⟩) λav hy=>⟨(al av hy).1,η⟩).mono ?_;rintro H au ⟨he,ah⟩;exact⟨he,ah.P,r.trans az ah⟩
  have FM:=λy (r:cH (w.alloc<|γ #[.int χ (a:Int),.int χ (b:Int)] 292) d N T D m y)=>DF IH A.u (a:=ox) (b:=oy) W W W y r;have ae:=HF.u;simp only[tQ]at ae;generalize (decide (Q o<=Q p)&&(o.zip p).all (qO T))=b5 at*;generalize F7 (tr T ox) (tr T oy)=r2 at*;generalize F7 (tr T a) (tr T b)=a9 at*;have q:=O ae;unfold Δ at ay;clear ae HF ak al b0 b1 x2 x3 z2 z3 P ag a5 a6 a7 hm;have b8:(a:Int)<(Q T:Int):=W;have b9:(b:Int)<(Q T:Int):=W;cases b5
  .go_in;go_wp2_with fail;go_quiet (fail);go_wp2_with fail;refine wp_region_held_drew (S:=(λf=>δ f (J e 0)=C (Y (C<|J g 0) (Q T) c)/\δ f (J g<|a*4+2)=C (Y la (Q o) F)/\δ f (J g<|b*4+2)=C (Y a8 (Q p) G)/\δ f (J g<|a*4+3)=C (.int χ (ox:Int))/\δ f (J g<|b*4+3)=C (.int χ (oy:Int))/\Hid (cH (ω w<|γ #[.int χ (a:Int),.int χ (b:Int)] 292) d N T D m f))) Ω ⟨a0,a1,a2,a3,a4,(j.u.drewN nq).drewN 1⟩ λax=>?_;refine tA 0 20 (pV e) ?_;simp only[ë,wZ,iZ,zZ];refine tA 1 21 (pV e) ?_;simp only[ë,wZ,iZ,zZ];refine tA 2 22 (pV e) ?_;simp only[ë,wZ,iZ,zZ];refine tA 3 23 (pV e) ?_;simp only[ë,wZ,iZ,zZ];refine tA 4 24 (Y (C<|J g 0) (Q T) c) ?_;simp only[ë,wZ,iZ,zZ];refine tA 5 25 (.int χ (a:Int)) ?_;simp only[ë,wZ,iZ,zZ];refine tA 6 26 (Γ<|C<|J g<|a*4) ?_;simp only[ë,wZ,iZ,zZ];refine tA 7 27 (Γ<|C<|J g<|a*4+2) ?_;simp only[ë,wZ,iZ,zZ];refine tA 8 28 (Y la (Q o) F) ?_;simp only[ë,wZ,iZ,zZ];refine tA 9 29 (pV e) ?_;simp only[ë,wZ,iZ,zZ];refine tA 10 30 (pV e) ?_;simp only[ë,wZ,iZ,zZ];refine tA 11 31 (pV e) ?_;simp only[ë,wZ,iZ,zZ];refine tA 12 32 (Y (C<|J g 0) (Q T) c) ?_;simp only[ë,wZ,iZ,zZ];refine tA 13 33 (.int χ (b:Int)) ?_;simp only[ë,wZ,iZ,zZ];refine tA 14 34 (Γ<|C<|J g<|b*4) ?_;simp only[ë,wZ,iZ,zZ];refine tA 15 35 (Γ<|C<|J g<|b*4+2) ?_;simp only[ë,wZ,iZ,zZ];refine tA 16 36 (Y a8 (Q p) G) ?_;simp only[ë,wZ,iZ,zZ];refine wpAnyH_ready (rs:=[17]) î θ ?_;refine AllReadyH.cons (o:=Oper.mk (C 37) _ _ _ _ _) K (λϋ hK=>?_) AllReadyH.nil;go_simp;refine(PF _<|(j.u.drewN nq).drewN 1).mono ?_;rintro H f ⟨rfl,R,Z⟩;have S2:=Di (p1:=(e,0)) (p2:=(g,a*4+2)) (p3:=(g,b*4+2)) (p4:=(g,a*4+3)) (p5:=(g,b*4+3)) R Z ⟨a0,a1,a2,a3,a4,(j.u.drewN nq).drewN 1⟩;refine hK _ _ S2 λ_=>?_;clear hK ϋ ax;refine tA 18 38 (.bool κ) ?_;simp only[ë,wZ,iZ,zZ];refine tU 19 39 ?_;simp only[ë,wZ,iZ,zZ];refine tU 20 40 ?_;simp only[ë,wZ,iZ,zZ];refine tU 21 41 ?_;simp only[ë,wZ,iZ,zZ];refine tU 22 42 ?_;simp only[ë,wZ,iZ,zZ];refine tU 23 43 ?_;simp only[ë,wZ,iZ,zZ];refine tU 24 44 ?_;simp only[ë,wZ,iZ,zZ];refine tU 25 45 ?_;simp only[ë,wZ,iZ,zZ];refine tU 26 46 ?_;simp only[ë,wZ,iZ,zZ];refine tU 27 47 ?_;simp only[ë,wZ,iZ,zZ];refine tU 28 48 ?_;simp only[ë,wZ,iZ,zZ];refine tU 29 49 ?_;simp only[ë,wZ,iZ,zZ];refine tU 30 50 ?_;simp only[ë,wZ,iZ,zZ];refine tU 31 51 ?_;simp only[ë,wZ,iZ,zZ];refine tU 32 52 ?_;simp only[ë,wZ,iZ,zZ];refine tU 33 53 ?_;simp only[ë,wZ,iZ,zZ];refine tU 34 54 ?_;simp only[ë,wZ,iZ,zZ];refine tU 35 55 ?_;simp only[ë,wZ,iZ,zZ];refine tU 36 56 ?_;simp only[ë,wZ,iZ,zZ];refine tA 37 57 (.bool κ) ?_;simp only[ë,wZ,iZ,zZ];refine wpAnyH_done Ω ?_ _;have l:=S2.2.2.2.2.2;clear S2 R Z;have q5:=I4 j.u l.u.P A5.u;have q6:=I4 j.u l.u.P A6.u;have q7:=I4 j.u l.u.P A7.u;have b3:=Ü f _ q6;obtain⟨z,v,u⟩:=HT.u f l.u trivial κ (by rw[q.u];rfl);have an:(Ï 167 (.map<|C d) (.agg #[.int χ (a:Int),.int χ (b:Int)])<|.int χ 2).run ε f.drew=.ok () z:=v;have B:Hid (lV w d N T D (a+b) a9 (π<|.bool κ) z):=by
    show lV _ _ _ _ _ _ _ _ _;rw[q.u];exact u
   clear v u;go_wp2_with fail;go_region;go_wp2;go_ret;exact B.u
  .go_in;go_wp2_with fail;go_quiet (fail);go_wp2_with fail;go_region_held3 (λf=>δ f (J e 0)=C (Y (C<|J g 0) (Q T) c)/\δ f (J g<|a*4+2)=C (Y la (Q o) F)/\δ f (J g<|b*4+2)=C (Y a8 (Q p) G)/\δ f (J g<|a*4+3)=C (.int χ (ox:Int))/\δ f (J g<|b*4+3)=C (.int χ (oy:Int))/\Hid (cH (ω w<|γ #[.int χ (a:Int),.int χ (b:Int)] 292) d N T D m f))
    (first
     |exact⟨a0,a1,a2,a3,a4,(j.u.drewN nq).drewN 1⟩
     |exact Di (p1:=(e,0)) (p2:=(g,a*4+2)) (p3:=(g,b*4+2)) (p4:=(g,a*4+3)) (p5:=(g,b*4+3)) R Z ⟨À,À,À,À,À,À⟩
     |(go_split_ands;exact⟨À,À,À,À,À,À⟩))
    (first
     |((go_at_call 304;go_split_ands;refine(PF _<|Hid.u À).mono ?_;rintro H f ⟨rfl,R,Z⟩))
     |((go_at_call 255;go_split_ands;refine(FM _<|Hid.u W).mono ?_;rintro H f ⟨rfl,R,Z⟩)));have l:Hid (cH (ω w<|γ #[.int χ (a:Int),.int χ (b:Int)] 292) d N T D m f):=À;have q5:=I4 j.u l.u.P A5.u;have q6:=I4 j.u l.u.P A6.u;have q7:=I4 j.u l.u.P A7.u;have b3:=Ü f _ q6;clear PF FM;cases r2
   .obtain⟨z,v,u⟩:=HT.u f l.u trivial κ (by rw[q.u];rfl);have an:(Ï 167 (.map<|C d) (.agg #[.int χ (a:Int),.int χ (b:Int)])<|.int χ 2).run ε f.drew=.ok () z:=v;have B:Hid (lV w d N T D (a+b) a9 (π<|.bool κ) z):=by
     show lV _ _ _ _ _ _ _ _ _;rw[q.u];exact u
    clear v u;go_wp2_with fail;go_region;go_wp2;go_ret;exact B.u
   .obtain⟨z,v,u⟩:=HT.u f l.u trivial τ (by rw[q.u];rfl);have an:(Ï 167 (.map<|C d) (.agg #[.int χ (a:Int),.int χ (b:Int)])<|.int χ 1).run ε f.drew=.ok () z:=v;have B:Hid (lV w d N T D (a+b) a9 (π<|.bool τ) z):=by
     show lV _ _ _ _ _ _ _ _ _;rw[q.u];exact u
    clear v u;go_wp2_with fail;go_region;go_wp2;go_ret;exact B.u
 .have bd:(k==0)=κ:=by simp[aj]
  have q:Hid (F7 (tr T a) (tr T b)=(k==1)):=by
   obtain h|⟨_,_,⟨n,L⟩|⟨n,L⟩⟩:=af
   .omega
   .simp_all
   .simp_all
  have HX:Hid (∀ab,lV w d N T D (a+b) (F7 (tr T a)<|tr T b) (π<|.bool<|k==1)<|(ω w<|γ #[.int χ (a:Int),.int χ (b:Int)] 292).drewN ab):=by
   intro ab;rw[q.u];exact⟨K,((C0.u.mono λ_ _ x=>x.elim).trans (Ψ _ _ ab) Ξ),D,A.u.gm.P (Ψ No _ ab) λx=>x,λ_ _ _ _ _=>K⟩
  clear af h aa HF HT;generalize F7 (tr T a) (tr T b)=a9 at*;go_in;go_wp2_with fail;go_quiet (fail);go_wp2;go_ret;exact HX.u _
theorem jU{a}(b:aX T)(c):(tr T a).k=T[a].x:=by rw[X7 b c];rfl
theorem TD{a}(b:aX T)(c:a<Q T):(tr T a).ns=T[a].eo.map (·.1):=by rw[X7 b c];rfl
theorem BW{a}(b:aX T)(c:a<Q T)(f:T[a].x≠7):T[a].eo=[]:=by
 obtain h|h|h|h|h:=b a c<;>grind
theorem OI{a}(b:aX T)(c:a<Q T)(f:T[a].x=7\/T[a].x=8):T[a].M=[]:=by
 obtain h|h|h|h|h:=b a c<;>grind
theorem qP{a}(b:aX T)(c):(tr T a).ks=(if T[a].x=8\/T[a].x=9 then [tr T T[a].fh.toNat] else [])++(T[a].eo.map λp=>tr T p.2.toNat)++T[a].M.map λx=>tr T x.toNat:=by rw[X7 b c];rfl
section
variable{a b:Nat}(c:aX T)(f:a<Q T)(g:b<Q T)
include c f g
def A7d(h:T[a].x=5\/T[b].x=5\/T[b].x=6):F7 (tr T a) (tr T b)=τ:=by
 simp_all[vE,jU,yY]
def A9d(h:¬(T[a].x=5\/T[b].x=5\/T[b].x=6))(i:T[a].x=10):F7 (tr T a) (tr T b)=!T[a].M.any λx=>!F7 (tr T x.toNat) (tr T b):=by
 rw[VM λx:Int=>F7 (tr T x.toNat)<|tr T b,vE,jU c f,jU c g,wY h,yY i,qP c f,BW c f W,wY W];grind
def A8d(h:¬(T[a].x=5\/T[b].x=5\/T[b].x=6))(i:T[a].x≠10)(j:T[b].x=10):F7 (tr T a) (tr T b)=T[b].M.any λx=>F7 (tr T a) (tr T x.toNat):=by
 rw[vE,jU c f,jU c g,wY h,wY i,yY j,qP c g,BW c g W,wY W];grind
def B0d(h:¬(T[a].x=5\/T[b].x=5\/T[b].x=6))(i:T[a].x≠10)(j:T[b].x≠10)(k:T[a].x≠T[b].x):F7 (tr T a) (tr T b)=κ:=by
 simp_all[vE,jU,wY,yY]
def B1d(i:T[a].x=7)(j:T[b].x=7):F7 (tr T a) (tr T b)=T[b].eo.all λp=>S8 T T[a].eo p:=by
 rw[vE,jU c f,jU c g,wY W,wY W,wY W,wY W,yY i,qP c g,qP c f,TD c f,TD c g,wY W,wY W,OI c f<|.inl i,OI c g<|.inl j];simp;generalize T[b].eo=h;induction h with
 |nil=>rfl
 |cons p h k=>rw[bY,bY,List.zip_cons_cons,List.all_cons,List.all_cons,k];rfl
def B2d(h:T[a].x=8)(i:T[b].x=8):F7 (tr T a) (tr T b)=F7 (tr T T[a].fh.toNat) (tr T T[b].fh.toNat):=by
 rw[vE,jU c f,jU c g,wY W,wY W,wY W,wY W,wY W,yY h,qP c g,qP c f,yY<|.inl h,yY<|.inl i];rfl
def vd(h:¬(T[a].x=5\/T[b].x=5\/T[b].x=6))(i:T[a].x≠10)(j:T[a].x=T[b].x)(k:T[a].x≠7)(l:T[a].x≠8)(m:T[a].x≠9):F7 (tr T a) (tr T b)=τ:=by
 simp_all[vE,jU,wY]
end
def Ğ{w wc b}{D}{m n}{R}(h:I No w wc)(a:cH wc d N T D m b)(k:m<=n+1):lV w d N T D n R (π<|.bool R) b:=by
 obtain⟨c,f,g⟩:=a.jg;exact⟨K,(h.mono λ_ _ x=>x.elim).trans a.P Ξ,c,f,λp q i j l=>g p q i j W⟩
def Vv(m)(Z:mI e d N T m)(w)(D)(a3:dY w e d N T D)(a b)(k:a<Q T)(l:b<Q T)(hm:a+b=m):
 μ ε 255 #[pV e,U a,U b] w (lV w d N T D (a+b)<|F7 (tr T a)<|tr T b):=by
 have j:=a3.ok;obtain⟨ad,av,a5,aw,bi,fz,a9⟩:=a3.cell;obtain⟨g,fa,fc,la,ac,rfl,hg,bf,ax,x0,x1,x2,x3,ak,am⟩:=a9 a k;obtain⟨g',fb,a6,aa,bc,ai,-,-,-,z0,z1,z2,z3,al,an⟩:=a9 b l;simp at ai;subst ai;unfold Δ at ax;have H0:=O a3;have ap:=O ak;have aq:=O al;have ar:=O am;have au:=O an;have S:=O hm;have r:=O<|A7d j k l;have v:=O<|A9d j k l;have y:=O<|A8d j k l;have z:=O<|B0d j k l;have A:=O<|B1d j k l;have B:=O<|B2d j k l;have F:=O λ(h9:T[a].x=9) (af:T[b].x=9) (ao:E) (h1:dY ao e d N T D)=>Rt m Z ao D h1 a b k l hm h9 af;have G:=O<|vd j k l;have LA:=O (j a k).lg;have LB:=O (j b l).lg;have FA:=O (j a k).nh;have FB:=O (j b l).nh;have OA:=O λt=>(j a k).of t;have OB:=O λt=>(j b l).of t;clear a3 a9 ak am al an hm;generalize ay:T[a].x=f at*;generalize az:T[b].x=n at*;clear ay az;generalize T[a].eo=fs at*;generalize T[b].eo=gs at*;generalize T[a].M=xs at*;generalize T[b].M=ys at*;generalize T[a].fh=ox at*;generalize T[b].fh=oy at*;generalize F7 (tr T a) (tr T b)=b6 at*;obtain⟨e0,e1,e2⟩:=PH w (γ #[pV e] 93) (γ #[U (a:Int)] 3)<|γ #[U (b:Int)] 3;have B0:Hid (fU (ω (ω (ω w<|γ #[pV e] 93)<|γ #[U (a:Int)] 3)<|γ #[U (b:Int)] 3) (V w.heap) (pV e) 93):=⟨e0⟩;have B1:Hid (fU (ω (ω (ω w<|γ #[pV e] 93)<|γ #[U (a:Int)] 3)<|γ #[U (b:Int)] 3) (V w.heap+1) (U (a:Int)) 3):=⟨e1⟩;have B2:Hid (fU (ω (ω (ω w<|γ #[pV e] 93)<|γ #[U (a:Int)] 3)<|γ #[U (b:Int)] 3) (V w.heap+1+1) (U (b:Int)) 3):=⟨e2⟩;have s:∀{q ab ae},δ w (J q ab)=C ae->δ (ω (ω (ω w<|γ #[pV e] 93)<|γ #[U (a:Int)] 3)<|γ #[U (b:Int)] 3) (J q ab)=C ae:=λ{q ab ae} t=>by
  have hq:q<V w.heap:=Ü w _ t;exact I9 â (I9 â<|I9 hq t)
 have C3:=O<|((ν No w<|γ #[pV e] 93).trans (ν No _<|γ #[U (a:Int)] 3) Ξ).trans (ν No _<|γ #[U (b:Int)] 3) Ξ;have b0:=B0.u.cell;have b1:=B1.u.cell;have b2:=B2.u.cell;replace a5:=s a5;replace x0:=s x0;replace x1:=s x1;replace x2:=s x2;replace x3:=s x3;replace z0:=s z0;replace z1:=s z1;replace z2:=s z2;replace z3:=s z3;have aj:V (ω (ω (ω w<|γ #[pV e] 93)<|γ #[U (a:Int)] 3)<|γ #[U (b:Int)] 3).heap=V w.heap+3:=θ;clear s e0 e1 e2 aw fz;go_in;go_wp2_with fail;generalize (ω (ω (ω w<|γ #[pV e] 93)<|γ #[U (a:Int)] 3)<|γ #[U (b:Int)] 3)=P at*;have b5:=O aj;have bg:g<V P.heap:=W;have bh:e<V P.heap:=W;have bo:V w.heap<V P.heap:=W;have bp:V w.heap+1<V P.heap:=W;have bq:V w.heap+1+1<V P.heap:=W;clear aj;go_cut [7,8] (λv7 v8 wc=>∃p q:Nat,v7=pV p/\v8=pV q/\Hid (I No P wc)/\δ wc (J p 0)=C (U f)/\δ wc (J p 1)=C (Y fa (Q fs) fc)/\δ wc (J p 2)=C (Y la (Q xs) ac)/\δ wc (J p 3)=C (U ox)/\
  δ wc (J q 0)=C (U n)/\δ wc (J q 1)=C (Y fb (Q gs) a6)/\δ wc (J q 2)=C (Y aa (Q ys) bc)/\δ wc (J q 3)=C (U oy));case first=>
  go_region_held3 (λh=>δ h (J (V w.heap) 0)=C (pV e)/\δ h (J (V w.heap+1) 0)=C (U (a:Int))/\δ h (J (V w.heap+1+1) 0)=C (U (b:Int))/\δ h (J e 0)=C (Y (C<|J g 0) (Q T) av)/\
   δ h (J g<|a*4)=C (U f)/\δ h (J g<|a*4+1)=C (Y fa (Q fs) fc)/\δ h (J g<|a*4+2)=C (Y la (Q xs) ac)/\δ h (J g<|a*4+3)=C (U ox)/\
   δ h (J g<|b*4)=C (U n)/\δ h (J g<|b*4+1)=C (Y fb (Q gs) a6)/\δ h (J g<|b*4+2)=C (Y aa (Q ys) bc)/\δ h (J g<|b*4+3)=C (U oy))
   (go_keep) (fail);all_goals go_wp2_with fail
  all_goals go_meet
  all_goals exact⟨_,_,K,K,((ν No _ _).trans (ν No _ _) Ξ).trans (Ψ No _ 1) Ξ,θ,θ,θ,θ,θ,θ,θ,θ⟩
 case rest=>
  obtain⟨p,q,rfl,rfl,R,br,bs,bt,p3,q0,q1,q2,q3⟩:=hcut;have M:=O<|H0.u.y<|C3.u.trans R.u Ξ;have H:=O<|C3.u.trans R.u Ξ;have D0:=O<|B0.u.y R.u;have D1:=O<|B1.u.y R.u;have D2:=O<|B2.u.y R.u;have d0:=D0.u.cell;have d1:=D1.u.cell;have d2:=D2.u.cell;have u:Hid (∀h R',cH wc d N T D m h->lV w d N T D (a+b) R' (π<|.bool R') h):=λh R' o=>Ğ H.u o (by have:=S.u;omega);have L:=O<|cH.refl M.u m;have O1:=O<|A3 ar.u H.u Ξ;have O2:=O<|A3 au.u H.u Ξ;have O3:=O<|A3 ap.u H.u Ξ;have O4:=O<|A3 aq.u H.u Ξ;clear x0 x1 x2 x3 z0 z1 z2 z3 b0 b1 b2 a5;by_cases hA5:f=5
  .subst hA5;have c:=r.u<|.inl K;subst c;go_wp2;go_ret;exact u.u _ _ L.u
  have ba:(f==5)=κ:=by simp[hA5]
  by_cases ag:n=5
  .subst ag;have c:=r.u<|.inr<|.inl K;subst c;go_wp2;go_ret;exact u.u _ _ L.u
  have bd:(n==5)=κ:=by simp[ag]
  by_cases ah:n=6
  .subst ah;have c:=r.u<|.inr<|.inr K;subst c;go_wp2;go_ret;exact u.u _ _ L.u
  have be:(n==6)=κ:=by simp[ah]
  have NW:Hid (¬(f=5\/n=5\/n=6)):=by show¬_;omega
  by_cases hA10:f=10
  .subst hA10;have c:=v.u NW.u K;have i:=xm m Z wc D M.u la ac xs O1.u b (V w.heap) (V w.heap+1+1) l (λx t=>by have:=LA.u x t;have:=S.u;omega) D0.u D2.u;generalize (xs.any λx=>!F7 (tr T x.toNat) (tr T b))=R1 at*;subst c;clear r v y z A B F G;go_wp2_with fail;refine i.mono ?_;clear i;rintro a2 a4 ⟨rfl,o⟩;go_wp2;go_ret;exact u.u _ _ o
  have b9:(f==10)=κ:=by simp[hA10]
  by_cases a8:n=10
  .subst a8;have c:=y.u NW.u hA10 K;have i:=xr m Z wc D M.u aa bc ys O2.u a (V w.heap) (V w.heap+1) k (λx t=>by have:=LB.u x t;have:=S.u;omega) D0.u D1.u;generalize (ys.any λx=>F7 (tr T a)<|tr T x.toNat)=R1 at*;subst c;clear r v y z A B F G;go_wp2_with fail;refine i.mono ?_;clear i;rintro a2 a4 ⟨rfl,o⟩;go_wp2;go_ret;exact u.u _ _ o
  have bb:(n==10)=κ:=by simp[a8]
  by_cases a7:f=n
  .subst a7;have b3:(f !=f)=κ:=θ;by_cases h7:f=7
   .subst h7;have c:=A.u K K;have i:=ţ m Z wc D M.u fa fc fs O3.u fb a6 gs O4.u (λp hp=>by have b4:=FA.u p hp;have bj:=S.u;exact⟨b4.1,W,λq hq=>by have:=FB.u q hq;omega⟩) (λq hq=>by have:=FB.u q hq;omega);generalize (gs.all λp=>S8 T fs p)=R1 at*;subst c;clear r v y z A B F G;go_wp2_with fail;refine i.mono ?_;clear i;rintro a2 a4 ⟨rfl,o⟩;go_wp2;go_ret;exact u.u _ _ o
   have b7:(f==7)=κ:=by simp[h7]
   by_cases h8:f=8
   .subst h8;have c:=B.u K K;have bm:=OA.u<|.inl K;have bn:=OB.u<|.inl K;obtain⟨o1,rfl⟩:∃x:Nat,ox=(x:Int):=⟨ox.toNat,W⟩;obtain⟨o2,rfl⟩:∃x:Nat,oy=(x:Int):=⟨oy.toNat,W⟩;simp only[tQ]at c;have i:=DF Z M.u (a:=o1) (b:=o2) (by have:=S.u;omega) W W wc L.u;generalize F7 (tr T o1) (tr T o2)=R1 at*;subst c;clear r v y z A B F G;go_wp2_with fail;refine i.mono ?_;clear i;rintro a2 a4 ⟨rfl,-,o⟩;go_wp2;go_ret;exact u.u _ _ o
   have b8:(f==8)=κ:=by simp[h8]
   by_cases h9:f=9
   .subst h9;have i:=F.u K K wc M.u;clear r v y z A B F G;go_wp2_with fail;refine i.mono ?_;clear i;rintro a2 a4 ⟨rfl,o,hD⟩;go_wp2;go_ret;exact⟨K,(H.u.mono λ_ _ x=>x.elim).trans o Ξ,hD⟩
   have af:(f==9)=κ:=by simp[h9]
   have c:=G.u NW.u hA10 K h7 h8 h9;subst c;clear r v y z A B F G;go_wp2;go_ret;exact u.u _ _ L.u
  .have b3:(f !=n)=τ:=by simp[a7]
   have c:=z.u NW.u hA10 a8 a7;subst c;clear r v y z A B F G;go_wp2;go_ret;exact u.u _ _ L.u
def SG:∀m,mI e d N T m
 |0=>λa b w D j _ _ _=>W
 |m+1=>by
  intro a b w D j c f h;by_cases i:a+b+1<=m
  .exact SG m a b w D i c f h
  .have g:a+b=m:=W;exact Vv m (SG m) w D h a b c f g
end
def Ib{B}{w c:E}{a}{e}{b}{v}{n}{d}(h:ρ w a e b v n d)(f:Below B w c)(j:∀g,Θ v=C g->g<B):ρ c a e b v n d:=
 A3 h (I.below f) λg i x=>η
def uF(b:Int)(l:List<|bZ×Int):List (bZ×Int):=l.map λp=>(p.1,p.2+b)
def Zp(b){l:List (bZ×Int)}{j}(a):uF b (l.take<|j+1)=uF b (l.take j)++[(l[j].1,l[j].2+b)]:=by
 unfold uF;grind[nQ]
def vY(b:Int)(l:uZ):uZ:=l.map λx=>x+b
def Zr(b){l:uZ}{j}(a):vY b (l.take<|j+1)=vY b (l.take j)++[l[j]+b]:=by
 unfold vY;grind[nQ]
theorem D4c(w:E)(a b)(t)(q)(d:q=V w.heap):∀j u,[a,b][j]?=C u->δ (ω w<|γ #[a,b] t) (((J q 0)).add j)=C u:=by
 subst d;intro j u c;match j,c with
 |0,c=>simp_all[Addr.add]
 |1,c=>simp_all[Addr.add]
def KL{w wr t a:E}{n0 q o r a3 D}{e}{v b}{xs F}{h}(T:wr.heap[q]?=C (γ h 99 (0,0)))(hn:n0<=q)(R:wr.ownsRow n0 e r v a3 xs)(he:e≠99)(z:Below n0 w wr)(P:n0<=V w.heap)
 (i:I No wr t) (l:t.grownBy a (Θ v)) (S:ρ a n0 e r b D F):
 (δ a (J q o)=h[o]?)/\a.frozen? (J q o)=κ/\q<V a.heap/\Below n0 w (σ a (J q o) b)/\ρ (σ a (J q o) b) n0 e r b D F/\(σ a (J q o) b).heap[q]?=C (γ (h.setIfInBounds o b) 99 (0,0))/\
  (∀(k) (c),k≠q->wr.heap[k]?=C (γ c 99 (0,0))->(σ a (J q o) b).heap[k]?=C (γ c 99 (0,0)))/\
  (∀{f} {s p} {u} {y},f≠e->f≠99->wr.ownsRow n0 f s u p y->ρ (σ a (J q o) b) n0 f s u p y):=by
 have A:=A3 R i Ξ;have a4:∀(k:Nat) (c:Array υ),wr.heap[k]?=C (γ c 99 (0,0))->a.heap[k]?=C (γ c 99 (0,0)):=by
  intro k c n;have N:t.heap[k]?=C (γ c 99 (0,0)):=by rw[i.block k (aG n) λx=>x];exact n
  rw[l.block k (aG N) λd=>?_]
  .omega
  .obtain⟨_,G,M⟩:=A9 A k d.symm;grind
 have j:=a4 q h T;have H:=(i.mono λ_ _ x=>x.elim).trans (ü l) λk _ x=>(A9 A k x.symm).1;have L:I (λk=>n0<=k) wr (σ a (J q o) b):=H.trans (é _ _ _) (λk _ x=>η);refine⟨cell_of_row a q o _ _ _ j,æ a q o _ _ j,(aG j),z.trans<|L.ep Ξ<|kQ P z.size,A3 S (é _ _ _) λg m d=>?_,ð a q o _ _ _ j,λk c a7 n=>?_,λ{f s p u y} a5 a6 Z=>?_⟩
 .have a2:=d;grind[A9]
 .grind[heap_setCell_other]
 .have B:=A3 Z i Ξ;refine A3 (A3 B (ü l) λg m d=>?_) (é _ _ _) λg m d=>?_
  .obtain⟨_,G,M⟩:=A9 B g m;grind[A9,zQ,xW]
  .have a2:=d;grind[A9]
def Nc(w:E)(k o)(a)(c)(D A)(F B)(b:Nat)(hf:ρ w 0 139 2 (Y D (Q a) F) (Q a)<|I0 a)(hl:ρ w 0 3 1 (Y A (Q c) B) (Q c)<|C8 c)
 (hb:b<=4000) (h1:∀aj∈a,0<=aj.2/\aj.2<=4000) (h2:∀x∈c,0<=x/\x<=4000) (ho:0<=o/\o<=4000) (hn:Q a<=2000/\Q c<=2000):
 μ ε 107 #[.agg #[U k,Y D (Q a) F,Y A (Q c) B,U o],U b] w λal w'=>Below (V w.heap) w w'/\
  ∃ad ae ah ai,al=π (.agg #[U k,Y ad (Q a) ae,Y ah (Q c) ai,U<|o+b])/\ρ w' (V w.heap) 139 2 (Y ad (Q a) ae) (Q a) (I0<|uF b a)/\ρ w' (V w.heap) 3 1 (Y ah (Q c) ai) (Q c) (C8<|vY b c):=by
 have HF:=O hf;have HL:=O hl;have H1:=O h1;have H2:=O h2;obtain⟨b2,b3⟩:=hn;have am:Hid (∀g,Θ (Y D (Q a) F)=C g->g<V w.heap):=λg q=>(hf.lt g q).2;have an:Hid (∀g,Θ (Y A (Q c) B)=C g->g<V w.heap):=λg q=>(hl.lt g q).2;go_in;go_wp2;obtain⟨z0,z1,z2⟩:=PH w (γ #[U k,Y D (Q a) F,Y A (Q c) B,U o] 99) (γ #[U 0,sN,sN,U 0] 99)<|γ #[U k,sN,sN,U<|o+b] 99;have s:=O z0;have d:=O z1;have e:=O z2;have B3:=O ((((Below.refl (V w.heap) w).alloc (vQ _)<|γ #[U k,Y D (Q a) F,Y A (Q c) B,U o] 99).alloc θ<|γ #[U 0,sN,sN,U 0] 99).alloc â<|γ #[U k,sN,sN,U<|o+b] 99);go_loopw [20] (λv wr=>∃(j:Nat) (m:Option Addr) (n:Nat),j<=Q a/\v=U j/\Hid (wr.heap[V w.heap]?=C (γ #[U k,Y D (Q a) F,Y A (Q c) B,U o] 99 (0,0)))/\Hid (wr.heap[V w.heap+1]?=C (γ #[U 0,sN,sN,U 0] 99 (0,0)))/\
  Hid (wr.heap[V w.heap+2]?=C (γ #[U k,Y m j n,sN,U<|o+b] 99 (0,0)))/\Hid (Below (V w.heap) w wr)/\Hid (wr.ownsRow (V w.heap) 139 2 (Y m j n) j<|I0<|uF b<|a.take j)) (λv _=>Q a-(intOf v).toNat);case atStart=>exact⟨0,none,0,wQ _,K,s.u,d.u,e.u,B3.u,by show ρ _ _ _ _ _ _ _;exact kW _ _ _ _⟩
 case round=>
  clear s d e B3;obtain⟨j,m,n,hj,rfl,s,d,e,f,p⟩:=hrel;have d0:wr.cell? (J (V w.heap+2) 1)=C (Y m j n):=cr e.u K;have ag:=(aG e.u);by_cases a7:j<Q a
  .obtain⟨g,rfl,q,aq,a8,y0,y1⟩:=Y8 (Ib HF.u f.u am.u) a7;have G:=H1.u a[j]<|mQ a7;have HT:=O<|Zp b a7;generalize a[j]=fj at*;obtain⟨nm,y⟩:=fj;simp only at y0 y1 G HT;unfold Δ at a8;obtain⟨i0,a5,a9,aa,ab⟩:=ý Tryz.j7;have N:=O<|(p.u.alloc<|γ #[ι ⟨ξ nm⟩,U y] 139).alloc<|γ #[ι ⟨ξ nm⟩,U<|y+b] 139;have ar:=f.u.size;go_wp2_with (at_builtin;refine wpList_append_own_at _ K _ _ 97 K (V w.heap) 139 i0 _ 2 24 underlying97 a5 a9 aa ab K ζ _ _ _ K N.u (J (wr.heap.size+1) 0) 1 1 [ι ⟨ξ nm⟩,U<|y+b] K K ?c1 ?c2 ?c3 ?c4 ?c5 ?_);case c1=>simp_all[D4c]
   case c2=>intro ax M;simp at M;obtain rfl|rfl:=M<;>rfl
   case c3=>grind[Δ]
   case c4=>omega
   case c5=>simp;omega
   .intro v' ac z L _ a4;obtain⟨ay,az,rfl⟩:=B8 z;obtain⟨P,av,aw,R,S,T,H,k7⟩:=KL (o:=1) e.u W p.u ζ f.u (vQ _) ((ν No wr _).trans (ν No _ _) Ξ) L z;have K0:δ ac (J (V w.heap+2) 1)=C (Y m j n):=P;have K3:=O R;have K4:=O S;have K5:=O T;have K6:=O<|H (V w.heap) _ W s.u;have K7:=O<|H (V w.heap+1) _ W d.u;clear P R S T H k7 z L a4 N p s d e f;go_wp2_with fail;go_roundw;case rel=>exact⟨j+1,ay,az,W,ï,K6.u,K7.u,K5.u,K3.u,by
     show ρ _ _ _ _ _ _ _;rw[HT.u,PD];exact K4.u⟩
    grind[intOf]
  .have ap:j=Q a:=W;subst ap;have r:=O p.u;rw[vZ]at r;have BB:=O f.u;have e2:wr.cell? (J (V w.heap) 2)=C (Y A (Q c) B):=cr s.u K;have au:=(aG s.u);have af:=(aG d.u);clear p;go_wp2_with fail;go_loopw [40] (λv wq=>∃(i:Nat) (t:Option Addr) (u:Nat),i<=Q c/\v=U (i:Int)/\Hid (wq.heap[V w.heap+1]?=C (γ #[U 0,sN,sN,U 0] 99 (0,0)))/\
    Hid (wq.heap[V w.heap+2]?=C (γ #[U k,Y m (Q a) n,Y t i u,U<|o+b] 99 (0,0)))/\Hid (Below (V w.heap) w wq)/\Hid (ρ wq (V w.heap) 139 2 (Y m (Q a) n) (Q a)<|I0<|uF b a)/\Hid (ρ wq (V w.heap) 3 1 (Y t i u) i<|C8<|vY b<|c.take i)) (λv _=>Q c-(intOf v).toNat);case atStart=>exact⟨0,none,0,wQ _,K,d.u,e.u,BB.u,r.u,by show ρ _ _ _ _ _ _ _;exact kW _ _ _ _⟩
   case round=>
    clear s d e f d0 e2 au af ag r BB;obtain⟨i,t,u,hi,rfl,d,e,f,r,p⟩:=hrel;have d0:wr.cell? (J (V w.heap+2) 2)=C (Y t i u):=cr e.u K;have ag:=(aG e.u);have af:=(aG d.u);by_cases a6:i<Q c
    .obtain⟨g,rfl,q,aq,a8,y0⟩:=D6 (Ib HL.u f.u an.u) a6;have G:=H2.u c[i]<|mQ a6;have HT:=O<|Zr b a6;generalize c[i]=y at*;unfold Δ at a8;obtain⟨i0,a5,a9,aa,ab⟩:=ý Tryz.fy;have N:=O<|p.u.alloc<|γ #[U<|y+b] 3;have ar:=f.u.size;go_wp2_with (at_builtin;refine wpList_append_own_at _ K _ _ 80 K (V w.heap) 3 i0 (U 0) 1 8 underlying80 a5 a9 aa ab K ζ _ _ _ K N.u (J wr.heap.size 0) 1 1 [U<|y+b] K K ?c1 ?c2 ?c3 ?c4 ?c5 ?_);case c1=>simp_all[cell_one_new]
     case c2=>intro ax M;simp at M;obtain rfl:=M;rfl
     case c3=>simp only[Δ];omega
     case c4=>omega
     case c5=>simp;omega
     .intro v' ac z L _ a4;obtain⟨b0,b1,rfl⟩:=B8 z;obtain⟨P,av,aw,R,S,T,H,k7⟩:=KL (o:=2) e.u W p.u ζ f.u (vQ _) (ν No wr _) L z;have K0:δ ac (J (V w.heap+2) 2)=C (Y t i u):=P;have K3:=O R;have K4:=O S;have K5:=O T;have K6:=O<|H (V w.heap+1) _ W d.u;have K7:=O<|k7 ζ ζ r.u;clear P R S T H k7 z L a4 N p d e f r;go_wp2_with fail;go_roundw;case rel=>exact⟨i+1,b0,b1,W,ï,K6.u,K5.u,K3.u,K7.u,by
       show ρ _ _ _ _ _ _ _;rw[HT.u,T4];exact K4.u⟩
      grind[intOf]
    .have ao:i=Q c:=W;subst ao;have OL:=O p.u;rw[vZ]at OL;have m0:wr.cell? (J (V w.heap+2) 0)=C (U k):=cr e.u K;have m1:wr.cell? (J (V w.heap+2) 1)=C (Y m (Q a) n):=cr e.u K;have m3:wr.cell? (J (V w.heap+2) 3)=C (U<|o+b):=cr e.u K;have n0:wr.cell? (J (V w.heap+1) 0)=C (U 0):=cr d.u K;have n1:wr.cell? (J (V w.heap+1) 1)=C (sN):=cr d.u K;have n2:wr.cell? (J (V w.heap+1) 2)=C (sN):=cr d.u K;have n3:wr.cell? (J (V w.heap+1) 3)=C (U 0):=cr d.u K;have nf:=λo=>æ wr _ o _ _ d.u;have Z:∀a0 a1 h l,I (λk=>k=V w.heap+1) wr (σ (σ (σ (wr.setCell (J (V w.heap+1) 0) a0) (J (V w.heap+1) 1) a1) (J (V w.heap+1) 2) h) (J (V w.heap+1) 3) l):=λa0 a1 h l=>
      (((é wr (J (V w.heap+1) 0) a0).trans (é _ (J (V w.heap+1) 1) a1) Ξ).trans (é _ (J (V w.heap+1) 2) h) Ξ).trans (é _ (J (V w.heap+1) 3) l) Ξ;have HX:∀a0 a1 h l,Hid (Below (V w.heap) w (σ (σ (σ (wr.setCell (J (V w.heap+1) 0) a0) (J (V w.heap+1) 1) a1) (J (V w.heap+1) 2) h) (J (V w.heap+1) 3) l)/\
      ρ (σ (σ (σ (wr.setCell (J (V w.heap+1) 0) a0) (J (V w.heap+1) 1) a1) (J (V w.heap+1) 2) h) (J (V w.heap+1) 3) l) (V w.heap) 139 2 (Y m (Q a) n) (Q a) (I0<|uF b a)/\
      ρ (σ (σ (σ (wr.setCell (J (V w.heap+1) 0) a0) (J (V w.heap+1) 1) a1) (J (V w.heap+1) 2) h) (J (V w.heap+1) 3) l) (V w.heap) 3 1 (Y t (Q c) u) (Q c) (C8<|vY b c)):=by
      intro a0 a1 h l;refine⟨f.u.trans<|(Z a0 a1 h l).ep (λk _ x=>W) f.u.size,A3 r.u (Z a0 a1 h l) λg q G=>?_,A3 OL.u (Z a0 a1 h l) λg q G=>?_⟩
      .subst G;obtain⟨_,ak,hh⟩:=A9 r.u _ q;have hz:=d.u;grind
      .subst G;obtain⟨_,ak,hh⟩:=A9 OL.u _ q;have hz:=d.u;grind
     clear Z;go_wp2_with fail;exact bodyPost_ret (v:=.agg #[U k,Y m (Q a) n,Y t (Q c) u,U<|o+b]) (by simp[results,results107,go_sem,n0,n1,n2,n3]) K ⟨(HX _ _ _ _).u.1,m,n,t,u,K,(HX _ _ _ _).u.2.1,(HX _ _ _ _).u.2.2⟩
section
variable{a mb N:Nat}
def E0c(T b:List Ty){j}(c):nU T (b.take<|j+1)=nU T (b.take j)++[kK (Q T) b[j]]:=by
 unfold nU;grind[nQ]
def mH(a:Nat)(v:υ)(k:Nat):Prop:=k=a\/C k=Θ v
structure iK(w:E)(a mb N:Nat)(T:List Ty)(D:Dt)(ok:Nat->Prop):Prop where
 uf:aX T
 gm:gT w mb N T D
 blk:∃yv yx,w.heap[a]?=C (γ #[yv,.map<|C mb] 169 (0,0))/\ρ w a 99 4 yv (Q T) yx/\eN (eI w ok) T yx
def eI.mono{w}{c ok'}(d:∀g,c g->g<V w.heap->ok' g)(t)(b)(h:eI w c t b):eI w ok' t b:=eI.P (I.refl No w) (λ_ _ _ x=>x.elim) d t b h
def iK.lx{w}{T}{D}{g}(h:iK w a mb N T D g):dY w a mb N T D:=by
 obtain⟨b,c,i,j,d,e,f⟩:=h;exact⟨b,c,i,j,d,e,f.imp<|eI.mono λ_ _ _=>trivial⟩
def dY.jr{w}{T:List Ty}{D}(h:dY w a mb N T D):iK w a mb N T D (λ_=>True):=⟨h.ok,h.gm,h.blk⟩
theorem iK.P{S}{w w'}{T}{D d}{c ok'}(h:iK w a mb N T D c)(b:I S w w')(o:gT w' mb N T d)
 (r:∀k f e,w.heap[k]?=C (γ f e (0,0))->(e=169\/e=99\/((e=139\/e=3)/\c k))->¬S k) (p:∀g,c g->g<V w.heap->ok' g):iK w' a mb N T d ok':=by
 obtain⟨l,_,s,t,i,j,q⟩:=h;refine⟨l,o,s,t,?_,A3 j b λg m x=>?_,q.imp<|eI.P b (λg u _ v n=>?_) p⟩
 .rw[b.block a (aG i)<|r a _ _ i<|.inl K];omega
 .obtain⟨_,f,n⟩:=A9 j g m;grind
 grind
theorem iK.y{w d}{T}{D}{c}(h:iK w a mb N T D c)(b:I No w d):iK d a mb N T D c:=h.P b (h.gm.P b λx=>x) (λ_ _ _ _ _ x=>x) λ_ x _=>x
def iK.push{ok}{wr w4 w5:E}{T}{D}{b}{c gg cap}{p}{t}{fv lv}(m:wr.heap[a]?=C (γ #[Y b (Q T) c,.map<|C mb] 169 (0,0)))(r:aX T)(P:eJ t (Q T))(o:gT wr mb N T D)(Z:Q T+1<=N)
 (v:wr.ownsRow a 99 4 (Y b (Q T) c) (Q T) p) (L:eN (eI wr ok) T p) (i:I No wr w4) (R:eI w4 ok t [U t.x,fv,lv,U t.fh])
 (u:w4.grownBy w5<|Θ<|Y b (Q T) c) (y:w5.ownsRow a 99 4 (Y (C<|J gg 0) (Q T+1) cap) (Q T+1)<|p++[U t.x,fv,lv,U t.fh]):
 w5.cell? (J a 0)=C (Y b (Q T) c)/\w5.frozen? (J a 0)=κ/\a<w5.heap.size/\I (mH a<|Y b (Q T) c) wr (w5.setCell (J a 0)<|Y (C<|J gg 0) (Q T+1) cap)/\iK (w5.setCell (J a 0)<|Y (C<|J gg 0) (Q T+1) cap) a mb N (T++[t]) D ok/\
  δ (w5.setCell (J a 0)<|Y (C<|J gg 0) (Q T+1) cap) (J a 0)=C (Y (C<|J gg 0) (Q T+1) cap):=by
 have w:=A3 v i Ξ;have n:w4.heap[a]?=C (γ #[Y b (Q T) c,.map<|C mb] 169 (0,0)):=by rw[i.block a (aG m) λx=>x];exact m
 have H:C a≠Θ (Y b (Q T) c):=by
  intro d;obtain⟨_,h,f⟩:=A9 w a d.symm;rw[n]at f;simp only[zQ,xW]at f;exact absurd f.2.1 ζ
 have j:w5.heap[a]?=C (γ #[Y b (Q T) c,.map<|C mb] 169 (0,0)):=by rw[u.block a (aG n) H];exact n
 have l:I (mH a<|Y b (Q T) c) w4 (w5.setCell (J a 0)<|Y (C<|J gg 0) (Q T+1) cap):=((ü u).mono λ_ _ x=>.inr x).trans (é _ _ _) λ_ _ x=>.inl x;have q:=(i.mono λ_ _ x=>x.elim).trans l Ξ;have s:(w5.setCell (J a 0)<|Y (C<|J gg 0) (Q T+1) cap).heap[a]?=C (γ #[Y (C<|J gg 0) (Q T+1) cap,.map<|C mb] 169 (0,0)):=by rw[ð w5 a 0 _ _ _ j];rfl
 have G:¬mH a (Y b (Q T) c) mb:=by
  rintro(d|d)
  .subst d;exact o.tag _ _ _ m
  .obtain⟨_,h,f⟩:=A9 v mb d.symm;exact o.tag _ _ _ f
 have z:∀g,ok g->g<w4.heap.size->mH a (Y b (Q T) c) g->(∃h e,w4.heap[g]?=C (γ h e (0,0))/\(e=139\/e=3))->False:=by
  rintro g _ _ (d|d) ⟨h,e,f,he⟩
  .grind
  .obtain⟨_,A,B⟩:=A9 w g d.symm;grind
 have M:=L.imp<|eI.P i (λ_ _ _ x=>x.elim) λ_ x _=>x;refine⟨cr j K,æ w5 a 0 _ _ j,(aG j),q,⟨r.snoc P,(o.P q G).more r [t] η,_,_,s,?_,(M.imp<|eI.P l z λ_ x _=>x).snoc<|eI.P l z (λ_ x _=>x) _ _ R⟩,cr s K⟩;have:=A3 y (é w5 (J a 0)<|Y (C<|J gg 0) (Q T+1) cap) (λk F d=>by
  have S:k=a:=d;subst S;obtain⟨_,A,B⟩:=A9 y k F;grind);grind
def KH{o}{T}{D}(w)(h:iK w a mb N T D o)(t)(g l)(j i n m)(M:eI w o t [U t.x,Y g j i,Y l n m,U t.fh])(hk:eJ t (Q T))(hN:Q T+1<=N):
 μ ε 58 #[pV a,.agg #[U t.x,Y g j i,Y l n m,U t.fh]] w λe P=>e=π (U (Q T))/\(∃v,δ w (J a 0)=C v/\I (mH a v) w P)/\iK P a mb N (T++[t]) D o:=by
 have a8:=h.lx.fq;obtain⟨hT,F,yv,yx,b,f,L⟩:=h;obtain⟨d,c,rfl⟩:=B8 f;have B:=(aG b);have z:δ w (J a 0)=C (Y d (Q T) c):=cr b K;have fz:=æ w a 0 _ _ b;have s:=O λ(S a5:E) (q p:Nat) (A:I No w S)=>iK.push (ok:=o) (w4:=S) (w5:=a5) (gg:=q) (cap:=p) b hT hk F hN f L A<|eI.P A (λ_ _ _ x=>x.elim) (λ_ x _=>x) _ _ M;have G:Θ (Y d (Q T) c)≠C a:=by
  intro hx;obtain⟨_,a6,r⟩:=A9 f a hx;rw[b]at r;simp only[zQ,xW]at r;exact absurd r.2.1 ζ
 have Z:Hid (δ w (J a 0)=C (Y d (Q T) c)):=z;have y:=O f;obtain⟨i0,hi,a2,a3,a4⟩:=ý Tryz.mf;clear M b f L F;go_in;go_wp2_with fail
 go_region_law ((refine step_append_lies _ Ω _ _ _ Ω a 99 i0 _ 4 64 underlying38 hi a2 a3 a4 K W (Y d (Q T) c) (Q T) yx Ω (((y.u.alloc _).alloc _).drew) (J (V w.heap+1) 0) 1 1 [U t.x,Y g j i,Y l n m,U t.fh] Ω Ω (Ó (cs:=#[U t.x,Y g j i,Y l n m,U t.fh]) (t:=99) (fr:=(0,0))<|QW w _ _) (by simp [Value.oneCell']) W Ñ W (by simp;omega) (V w.heap+2) θ ?_;intro q p R H k a7 a9;have z4:R.cell? (J a 0)=C (Y d (Q T) c):=by rw[k.cell_far _ â<|Ne.symm G];exact I9 â<|I9 B z
                 have y4:R.frozen? (J a 0)=κ:=by rw[k.frozen_far _ â<|Ne.symm G];exact U4 â<|U4 B fz));all_goals
  have u:=O<|s.u _ _ q p (((ν No w _).trans (ν No _ _) Ξ).trans (Ψ No _ 1) Ξ) k H;clear k H s y;go_wp2;go_ret;exact⟨M9 W,⟨_,Z.u,u.u.2.2.2.1⟩,u.u.2.2.2.2.1⟩
def Gg{w:E}{o:Option Addr}{l}{b:List Ty}{p:List υ}(k:ρ w 0 99 4 (Y o (Q b) l) (Q b) p)(u:eN (eI w λ_=>True) b p){i}(t):
 ∃g c d f j,o=C (J g 0)/\g<V w.heap/\Q b<=l/\l<=Δ/\δ w (J g<|i*4)=C (U b[i].x)/\δ w (J g<|i*4+1)=C (Y c (Q b[i].eo) d)/\δ w (J g<|i*4+2)=C (Y f (Q b[i].M) j)/\
  δ w (J g<|i*4+3)=C (U b[i].fh)/\ρ w 0 139 2 (Y c (Q b[i].eo) d) (Q b[i].eo) (I0 b[i].eo)/\ρ w 0 3 1 (Y f (Q b[i].M) j) (Q b[i].M) (C8 b[i].M):=by
 obtain⟨g,rfl,_,s,q,r,e⟩:=D5 k W;obtain⟨z,v,k⟩:=eN.at (λ_ _ h=>h.len) i t u;obtain⟨x,y,rfl,m,n,_⟩:=v;obtain⟨c,d,rfl⟩:=B8 m;obtain⟨f,j,rfl⟩:=B8 n;refine⟨g,c,d,f,j,K,s,q,r,e _ _ ?_,e _ _ ?_,e _ _ ?_,e _ _ ?_,m,n⟩
 .have:=k 0 W;grind
 .grind
 .grind
 grind
def Zl{w:E}{v}{n}{h}{d}(j:w.heap[a]?=C (γ d 169 (0,0)))(f:ρ w a 99 4 v n h):∀g,True->g<V w.heap->mH a v g->(∃b e,w.heap[g]?=C (γ b e (0,0))/\(e=139\/e=3))->False:=by
 rintro g _ _ (c|c) ⟨b,e,l,k⟩
 .grind
 .obtain⟨_,i,m⟩:=A9 f g c.symm;grind
def CL(w:E)(a:Nat)(v:υ)(wr:E)(n:Nat):Prop:=∃b c,wr.cell? (J a 0)=C (Y b n c)/\(Θ (Y b n c)=Θ v\/∀g,Θ (Y b n c)=C g->V w.heap<=g)
def Yb{T:List Ty}{af}{v:Nat->Prop}(w)(a7:iK w a mb N T af v)(b5:∀ g,V w.heap<=g->v g)(b:List Ty)(xa:Option Addr)(xc)(xx:List υ)(P:ρ w 0 99 4 (Y xa (Q b) xc) (Q b) xx)(ba:eN (eI w λ_=>True) b xx)(hX:aX b)
 (hq:∀t∈b,Q t.eo<=1001/\Q t.M<=1001/\(t.x=8\/t.x=9\/t.fh=0)) (hN:Q T+Q b<=N) (Z) (bt:δ w (J a 0)=C Z) (bs:∀g,Z.ownBlock=C g->Θ (Y xa (Q b) xc)≠C g):
 μ ε 57 #[pV a,Y xa (Q b) xc] w λe w'=>e=π (U<|Q T+Q b-1)/\I (mH a Z) w w'/\iK w' a mb N (nU T b) af v/\CL w a Z w' (Q T+Q b):=by
 have c6:=a7.gm.fq;obtain⟨yv,cd,ah,aj,-⟩:=a7.blk;have bu:Z=yv:=by
  have:δ w (J a 0)=C yv:=cr ah K;rw[bt]at this;exact xZ this
 subst bu;obtain⟨a3,a6,rfl⟩:=B8 aj;have bj:Hid (∀wr,I (mH a<|Y a3 (Q T) a6) w wr->wr.ownsRow 0 99 4 (Y xa (Q b) xc) (Q b) xx/\eN (eI wr λ_=>True) b xx):=by
  intro wr n;refine⟨A3 P n λg B l=>?_,ba.imp<|eI.P n (Zl ah aj) λ_ _ _=>trivial⟩;obtain l|l:=l
  .subst l;obtain⟨_,bn,hh⟩:=A9 P g B;grind
  .grind
 have HQ:=O hq;have H0:=O a7;have bm:=O hX;clear a7 P ba hq bs ah aj hX;have ax:∀j,j<=Q b->Q (nU T<|b.take j)=Q T+j:=λj hj=>by grind[nU]
 have bi:=O ax;clear ax;go_in;go_wp2_with fail;go_loopw [15] (λao wr=>∃(j:Nat),j<=Q b/\ao=U (j:Int)/\Hid (iK wr a mb N (nU T<|b.take j) af v)/\Hid (I (mH a<|Y a3 (Q T) a6) w wr)/\Hid (CL w a (Y a3 (Q T) a6) wr<|Q T+j)) (λao _=>Q b-(intOf ao).toNat);case atStart=>exact⟨0,wQ _,K,by grind[nU],I.refl _ _,⟨a3,a6,W,.inl K⟩⟩
 case round=>
  obtain⟨j,hj,rfl,G,CR,RR⟩:=hrel;have ab:=bi.u j hj;by_cases aa:j<Q b
  .obtain⟨bc,bb⟩:=bj.u wr CR.u;obtain⟨g,H,L,R,S,rfl,B,c8,bq,x0,x1,x2,x3,am,an⟩:=Gg bc bb aa;unfold Δ at bq;have p:=bm.u j aa;have ae:=HQ.u b[j]<|mQ aa;have HB:=O<|E0c T b aa;have aw:Hid (eJ (kK (Q T) b[j]) (Q (nU T<|b.take j))):=by
    show eJ _ _;rw[ab];exact p.mv (Q T)
   have az:=p.nh;have b0:=p.lg;have ak:0<=b[j].fh/\b[j].fh<=4000:=by
    obtain h8|h8|h8:=ae.2.2
    .have:=p.of<|.inl h8;omega
    .have:=p.of<|.inr h8;omega
    .omega
   have b8:=ae.1;have b9:=ae.2.1;clear p ae bc bb;generalize b[j]=xj at*;obtain⟨k,f,h,o⟩:=xj;simp only at x0 x1 x2 x3 am an az b0 ak b8 b9;have bh:=Nc (wr.alloc<|γ #[U k,Y H (Q f) L,Y R (Q h) S,U o] 99).drew k o f h H R L S (Q T) (am.alloc _) (an.alloc _) W (λc3 hp=>η) (λc3 hp=>η) ak ⟨W,W⟩;obtain⟨y,c,a4,al⟩:=RR.u;obtain⟨yv,yx,s,M,u⟩:=G.u.blk;have bv:yv=Y y (Q T+j) c:=by
    have:wr.cell? (J a 0)=C yv:=cr s K;rw[a4]at this;exact(xZ this).symm
   subst bv;have ac:=(aG s);have c5:=æ wr a 0 _ _ s;have bo:Q (nU T<|b.take j)+1<=N:=W;rw[<-ab]at a4 al s M;have bp:=O ab;have b4:=G.u.uf;have b1:=G.u.gm;generalize nU T (b.take j)=q at*;have c7:Q q<=4000:=W;have HP:=O λ(aq c4:E) (r a5:Nat) (fv bd:υ) (h1:I No wr aq) (p:eI aq v (kK T.length ⟨k,f,h,o⟩) [U k,fv,bd,U<|o+T.length])=>iK.push (ok:=v) (w4:=aq) (w5:=c4) (gg:=r) (cap:=a5) (fv:=fv) (lv:=bd) s b4 aw.u b1 bo M u h1 p;have b2:Θ (Y y (Q q) c)≠C a:=by
    intro P;obtain⟨_,bn,hh⟩:=A9 M a P;rw[s]at hh;simp only[zQ,xW]at hh;exact absurd hh.2.1 ζ
   have bf:Hid (∀d,Below (V (wr.alloc<|γ #[U k,Y H (Q f) L,Y R (Q h) S,U o] 99).drew.heap) (wr.alloc<|γ #[U k,Y H (Q f) L,Y R (Q h) S,U o] 99).drew d->I No wr d):=by
    intro d a8;exact((ν No wr _).trans (Ψ No _ 1) Ξ).trans (I.below a8) (λkk hk x=>by
     have l:V (wr.alloc<|γ #[U k,Y H (Q f) L,Y R (Q h) S,U o] 99).drew.heap=wr.heap.size+1:=by simp[World.drew]
     omega)
   have HY:=O λd (n:I No wr d)=>A3 M n Ξ;have m:=O (λd (n:I No wr d)=>show δ d (J a 0)=C (Y y (Q q) c)/\d.frozen? (J a 0)=κ/\a<V d.heap from ⟨by rw[World.cell?_of_block<|n.block a ac λx=>x];omega,by rw[World.frozen?_of_block<|n.block a ac λx=>x];omega,yQ ac n.size⟩);have HR:=O al;have a2:=O CR.u;obtain⟨i0,hi,bw,bx,bz⟩:=ý Tryz.mf;clear am an az b0 ak b8 b9 s M u b4 b1 al G CR aw ab;go_wp2_with fail;go_region_law (first
    | (refine step_append_lies _ Ω _ _ _ Ω a 99 i0 _ 4 64 underlying38 hi bw bx bz K W (Y y (Q q) c) (Q q) yx Ω ((HY.u d i.u).alloc _) (J (V d.heap) 0) 1 1 [U k,Y z (Q f) A,Y D (Q h) F,U<|o+Q T] Ω Ω (Ó (cs:=#[U k,Y z (Q f) A,Y D (Q h) F,U<|o+Q T]) (t:=99) (fr:=(0,0))<|rY d _) (by simp [Value.oneCell']) W (by simp only [Δ];omega) W (by simp;omega) (V d.heap+1) θ ?_;intro r a5 ap b7 a9 ay c9;have z4:δ ap (J a 0)=C (Y y (Q q) c):=by rw[a9.cell_far _ (by have:=(m.u d i.u).2.2;simp;omega)<|Ne.symm b2];exact I9 (m.u d i.u).2.2 (m.u d i.u).1
       have y4:ap.frozen? (J a 0)=κ:=by rw[a9.frozen_far _ (by have:=(m.u d i.u).2.2;simp;omega)<|Ne.symm b2];exact U4 (m.u d i.u).2.2 (m.u d i.u).2.1)
    |(go_simp;refine bh.mono ?_;rintro e d ⟨a8,z,A,D,F,rfl,b3,b6⟩;have i:=O<|bf.u d a8;have zc:=(m.u d i.u).1;have ca:=(m.u d i.u).2.2;have ar:=O b3;have au:=O b6;clear a8 b3 b6));all_goals
    have av:Hid (eI (d.alloc<|γ #[U k,Y z (Q f) A,Y D (Q h) F,U<|o+Q T] 99) v (kK (Q T) ⟨k,f,h,o⟩) [U k,Y z (Q f) A,Y D (Q h) F,U<|o+Q T]):=by
     refine⟨_,_,K,?_,?_,λg B=>b5 g<|kQ a2.u.size<|kQ θ (ar.u.lt g B).1,λg B=>b5 g<|kQ a2.u.size<|kQ θ (au.u.lt g B).1⟩
     .have:=(C7 ar.u<|wQ _).alloc<|γ #[U k,Y z (Q f) A,Y D (Q h) F,U<|o+Q T] 99;grind[kK,uF]
     .have:=(C7 au.u<|wQ _).alloc<|γ #[U k,Y z (Q f) A,Y D (Q h) F,U<|o+Q T] 99;grind[kK,vY]
    have ag:=O<|HP.u _ ap r a5 _ _ (i.u.trans (ν No d _) Ξ) av.u a9 b7;have be:=O ay;have bg:=O<|i.u.size;clear a9 b7 ay HP HY av;go_wp2;go_roundw;case rel=>
     have cb:=a2.u.size;refine⟨j+1,W,ï,by rw[HB.u];exact ag.u.2.2.2.2.1,a2.u.trans ag.u.2.2.2.1 λcc hi l=>?_,⟨C<|J r 0,a5,?_,?_⟩⟩
     .obtain l|l:=l
      .exact .inl l
      .obtain u|u:=HR.u
       .exact .inr<|l.trans u
       grind
     .have e:Q T+(j+1)=Q q+1:=by have:=bp.u;omega
      rw[e];exact ag.u.2.2.2.2.2
     .obtain ha|ha:=be.u
      .obtain u|u:=HR.u
       .left;show C r=_;grind
       .right;intro g' ai;have e:C r=C g':=ai;grind
      .right;intro g' ai;have e:C r=C g':=ai;cases e;have:=bg.u;omega
    grind[intOf]
  .have br:j=Q b:=W;subst br;rw[vZ]at*;obtain⟨y,c,a4,-⟩:=id RR.u;have ac:a<wr.heap.size:=Ü wr _ a4;go_wp2_with fail;go_ret;exact⟨M9 W,CR.u,G.u,RR.u⟩
end
def Ŷ(w:E):μ ε 55 #[] w λe a=>e=π (pV<|V w.heap+1)/\I No w a/\dY a (V w.heap+1) (V w.heap) 4000 [] (.map [])/\δ a (J (V w.heap+1) 0)=C (sN):=by
 have f:=@run_makeMap ε;have b:Hid ((ω (ω w<|.map #[] 0)<|γ #[sN,.map<|C (V w.heap)] 169).heap[V w.heap+1]?=C (γ #[sN,.map<|C (V w.heap)] 169 (0,0))):=by
  have:=rY (ω w<|.map #[] 0)<|γ #[sN,.map<|C (V w.heap)] 169;rw[show V (ω w<|.map #[] 0).heap=V w.heap+1 from θ]at this;exact this
 have c:Hid (dY (ω (ω w<|.map #[] 0)<|γ #[sN,.map<|C (V w.heap)] 169) (V w.heap+1) (V w.heap) 4000 []<|.map []):=
  ⟨by intro i d;grind,(Ų w 4000<|vQ _).P (ν No _ _) λx=>x,_,[],b.u,kW _ _ _ _,K⟩;go_in;go_wp2;go_ret;exact⟨K,(ν No _ _).trans (ν No _ _) Ξ,c.u,θ⟩
