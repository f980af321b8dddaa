/-
  A part of the proof.
-/
import Derived.Test.YtjhlphgdgpebfaaGreatDoorScanB
set_option maxHeartbeats 0
set_option linter.all false
set_option maxRecDepth 100000
namespace Go.Proofs.YtjhlphgdgpebfaaGreatDoor
open _root_.Array renaming size->V
open Ev renaming step->Æ,bad->ø,bind->ú,pure->Ç
open Go renaming Value->υ,maxLen->Δ,cell_of_row->ä,Calls->μ,bodyPost_ret->ç,results->ã,Ending->ò,info_parts->ý,heap_setCell_same->ð,frozen_of_row->æ
open Ending renaming returned->π
open Obj renaming cells->γ
open Go.Proofs.Tryz renaming prog->ε,underlying63->Ê
open RowKit.Below renaming heap_alloc->ÿ
open RowKit.Hid renaming u->Í
open Value renaming slice->Y,ownBlock->Θ,string->ι
open World renaming cell?->δ,ownsRow->ρ,setCell->σ,alloc->ω
open I renaming alloc->ν,drewN->Ψ,trans->Ã,grown->ü
open List renaming length->Q,toArray->ξ
open Option renaming some->C
open St renaming nx->è
open Go.Proofs.Tryz
open Go.RowKit
section
variable{w:E}{B pb:Nat}{c:υ}{L:List Tk}{ok:Nat->Prop}{d:Nat}{s:St}
theorem dR.cell{w}{B pb}{c}{L}{ok}{d}{s}(h:dR w B pb c L ok d s):
 ∃g a b e,c=Y (C<|J g 0) (Q L) a/\Q L<=a/\a<=Δ/\g<V w.heap/\pb<V w.heap/\δ w (J pb 0)=C (Y (C<|J g 0) (Q L) a)/\δ w (J pb 1)=C (U s.i)/\δ w (J pb 2)=C (U d)/\
  δ w (J pb 3)=C b/\δ w (J pb 4)=C e/\(∀o,w.frozen? (J pb o)=false)/\∀j u,(rows L)[j]?=C u->δ w (J g j)=C u:=by
 obtain⟨p,a,rfl⟩:=B8 h.kz;obtain⟨g,rfl,_,m,i,k,l⟩:=D5 h.kz (by have:=h.at';omega);obtain⟨b,e,r,t,f,_⟩:=h.blk;have n:=(aG f);have q:=λo=>ä w pb o _ _ _ f;refine⟨g,a,b,e,K,i,k,m,n,η,η,η,η,η,λo=>?_,l⟩;grind[World.frozen?]
def Ţ(v:cY L)(h:dR w B pb c L ok d s):
 μ ε 135 #[pV pb] w λe l=>e=π (jK<|tk L s.i)/\I No w l:=by
 obtain⟨g,q,F,H,rfl,y,a,z,A,r,t,_,_,_,u,b⟩:=h.cell;have f:=h.at';obtain⟨m,n,o⟩:=WN f b;generalize tk L s.i=j at*;obtain⟨D,k,G⟩:=j;simp only[jK]at m n o⊢;generalize (⟨ξ k⟩:ByteArray)=p at*;generalize s.i=i at*;unfold Δ at a;go_in;go_wp2;go_region;go_wp2;exact ç (by simp[ã,results135,go_sem]) K ⟨K,(ν _ _ _).trans (Ψ _ _ 1) Ξ⟩
def qi(a:cY L)(h:dR w B pb c L ok d s):
 μ ε 92 #[pV pb] w λe g=>e=π (.bool<|decide<|(tk L s.i).x=6)/\I No w g:=by
 have H:=Ţ a h;have i:=Z7;generalize tk L s.i=f at*;obtain⟨j,l,k⟩:=f;simp only[jK]at H⊢;go_in;go_wp2_with fail;refine H.mono ?_;rintro e m ⟨rfl,b⟩;go_wp2;go_ret;exact⟨F9 Ω,b⟩
def CP(w:E)(B pb:Nat)(c:υ)(L:List Tk)(ok:Nat->Prop)(d:Nat)(g:Sp->Option (Out Int))(e:ò)(f:E):Prop:=
 Kept B ok w f/\∃o,Ev L g o/\match o with
  |.ok b x=>e=π (U x)/\(tk L b.i).x=6/\dR f B pb c L ok d b
  |.fail a p=>e=gu a p/\a≠0
def Wj{a}(b:(tk L s.i).x=6):Ev L (λr=>r.jd d s a) (.ok s a):=
 Æ (Ev.pure.eq λr=>by show (if (tk L s.i).x=6 then _ else _)=_;grind)
def yy{a}{o}(b:¬(tk L s.i).x=6)(h:Ev L (λr=>A8 (r.gy d s) λs x=>r.jd d s<|a++[x]) o):Ev L (λr=>r.jd d s a) o:=
 Æ (h.eq λr=>by show (if (tk L s.i).x=6 then _ else _)=_;grind)
def Pu(H:cY L)(hS:∀m',bG B pb c L 94 (λd s r=>r.gy d s) m')(P:∀g,V w.heap<=g->ok g)(hB:B<=V w.heap)(h:aH w B pb c L ok d s):
 μ ε 50 #[pV pb] w (CP w B pb c L ok d<|lB d s):=by
 have av:=H.jq;have ό:Hid (∀o,Ev L (λr=>A8 (r.jd d s []) λj l=>aE j<|Nd.mk 26 0 0 0 l [] 0 (-1) 0) o->Ev L (lB d s) o):=λo N=>N;obtain⟨i0,af,ai,aj,ak⟩:=ý Tryz.fy;have a7:=O h;go_in;go_wp2;go_loopw [3] (λam wr=>∃(a:uZ) (b:St) (n:Option Addr) (q:Nat),am=Y n (Q a) q/\Q a<=b.i/\Hid (Kept B ok w wr)/\Hid (L9 s b)/\Hid (wr.ownsRow (V w.heap) 3 1 (Y n (Q a) q) (Q a)<|C8 a)/\
  Hid (aH wr B pb c L (λg=>ok g/\C g≠Θ (Y n (Q a) q)) d b)/\Hid (∀o,Ev L (λr=>A8 (r.jd d b a) λj l=>aE j<|Nd.mk 26 0 0 0 l [] 0 (-1) 0) o->Ev L (lB d s) o)) (λ_ wr=>Q L-qI wr pb);case atStart=>exact⟨[],s,none,0,K,θ,Kept.refl _ _ _,⟨vQ _,W,W,W⟩,kW _ _ _ _,a7.u.mono λg i _=>⟨i,Ä⟩,ό.u⟩
 case round=>
  obtain⟨a,b,n,q,rfl,ao,KR,GR,OR,u,v⟩:=hrel;have HT:=B9d H u.u;have au:=u.u.j3;have ap:=u.u.fq;have ae:=GR.u;simp only[L9]at ae;generalize hq:decide ((tk L b.i).x=6)=al at*;have G:=O hq;go_wp2_with fail;refine HT.mono ?_;rintro e a6 ⟨rfl,M⟩;have k:=O<|KR.u.trans<|C9 M;have t:=O<|A3 OR.u M Ξ;have F:=O<|u.u.y M;cases al
  .have m:¬(tk L b.i).x=6:=by simpa using G.u
   have PX:Hid (aH a6 B pb c L (λg=>ok g/\C g≠Θ (Y n (Q a) q)) d b):=F.u;have HM:=O (hS (Q L-b.i) a6 _ d b (vQ _) (λg i=>⟨P g<|kQ k.u.size i,λhx=>by have:=(t.u.lt g hx.symm).2;omega⟩) (kQ hB k.u.size) PX.u);go_wp2_with fail;refine HM.u.mono ?_;rintro e an ⟨hk,o,ac,a5⟩;have A:=O<|k.u.trans<|hk.mono λ_ h=>h.1;have D:=O (G9 t.u hk ζ);have R:=O ac;cases o with
   |fail er p=>
    obtain⟨rfl,he⟩:=a5;exact⟨K,A.u,_,v.u _<|ø<|yy m<|ø R.u,K,he⟩
   |ok z y=>
    obtain⟨rfl,hp,i,_⟩:=a5;have a8:=O hp;have aq:_/\_/\_/\_:=i;have ar:=hp.at';have VN:=O (λo (N:Ev L (λr=>A8 (r.jd d z<|a++[y]) λj l=>aE j<|Nd.mk 26 0 0 0 l [] 0 (-1) 0) o)=>v.u o (by
     obtain⟨a9,h1⟩:=R.u;obtain⟨aa,h2⟩:=N;refine⟨a9+aa+1,λf hf=>?_⟩;obtain⟨g,rfl⟩:∃g,f=g+1:=⟨f-1,W⟩;have a1:(gW L g).gy d b=C (.ok z y):=h1 g W;have a2:=h2 g W;show A8 (if (tk L b.i).x=6 then C (.ok b a) else A8 ((gW L g).gy d b) λs x=>(gW L g).jd d s<|a++[x]) _=C o;rw[wY m,a1];exact a2));have ah:=O<|D.u.alloc<|γ #[U y] 3;go_wp2_with (at_builtin;refine wpList_append_own_at _ K _ _ 63 K (V w.heap) 3 i0 (U 0) 1 8 Ê af ai aj ak K ζ _ _ _ K ah.u (J (V an.heap) 0) 1 1 [U y] K K ?c1 ?c2 ?c3 ?c4 ?c5 ?_);case c1=>grind[cell_one_new]
    case c2=>intro aw hu;simp at hu;obtain rfl:=hu;rfl
    case c3=>grind[Δ]
    case c4=>omega
    case c5=>have:=A.u.size;simp;omega
    intro v' ax a4 a3 _ ab;obtain⟨Z,c2,ag⟩:=B8 a4;rw[ag]at a4 ab⊢;have PG:=O ((a8.u.alloc<|γ #[U y] 3).grown (v':=Y Z (Q a+1) c2) (D.u.alloc _) (.inl K) a3 ù);have KG:=O<|(A.u.alloc<|γ #[U y] 3).grown (D.u.alloc _) a3;go_wp2;go_roundw;case rel=>
     refine⟨a++[y],z,Z,c2,θ,η,KG.u,(show L9 s z from by grind[L9]),?_,?_,VN.u⟩<;>simp_all[ρ,T4]
    case measure=>
     have h3:=PG.u.j3;omega
  .have m:(tk L b.i).x=6:=by simpa using G.u
   have T:=O<|F.u.mono (ok':=ok) λg i _=>i.1;clear F;have S:=O (Ip H T.u (Nd.mk 26 0 0 0 a [] 0 (-1) 0) 0 n (Q a) q ⟨_,K,C7 t.u<|wQ _,λg i=>P g (A9 t.u g i).1⟩ K W (kQ hB k.u.size) λg i=>P g<|kQ k.u.size i);have EV:=O<|v.u _<|ú (k:=λ_ j l=>aE j<|Nd.mk 26 0 0 0 l [] 0 (-1) 0) (Wj m) Ç;have Q3:=O m;clear T v t m G;go_wp2_with fail;refine S.u.mono ?_;rintro e ay ⟨rfl,k9,p9⟩;have K9:=O<|k.u.trans k9;have P9:=O p9;clear k9 p9 S;go_wp2_with fail;go_ret;exact⟨K9.u,_,EV.u,K,Q3.u,P9.u⟩
def A9f(w:E)(B pb:Nat)(c:υ)(L:List Tk)(ok:Nat->Prop)(d:Nat)(g:Sp->Option (Out Int))(e:ò)(f:E):Prop:=
 Kept B ok w f/\∃o,Ev L g o/\match o with
  |.ok a _=>if (tk L a.i).x=6 then e=rT/\dR f B pb c L ok d a else e=gu 1 ((tk L a.i).at')
  |.fail b p=>e=gu b p/\b≠0
def FH(w:E)(B pb:Nat)(c:υ)(L:List Tk)(ok:Nat->Prop)(d:Nat)(g:Sp->Option (Out Int))(e:ò)(f:E):Prop:=
 Kept B ok w f/\∃o,Ev L g o/\match o with
  |.ok a _=>if (tk L a.i).x=6 then e=π (.agg #[U 0,U 0])/\dR f B pb c L ok d a else e=π (.agg #[U 1,U<|(tk L a.i).at'])
  |.fail b p=>e=π (.agg #[U b,U p])/\b≠0
def VX(w:E)(B pb:Nat)(c:υ)(L:List Tk)(ok:Nat->Prop)(d:Nat)(g:Sp->Option (Out Int))(e:ò)(f:E):Prop:=
 Kept B ok w f/\∃o,Ev L g o/\match o with
  |.ok a _=>if (tk L a.i).x=6 then (if 1200<Q a.N\/300<Q a.T then e=π (.agg #[U 2,U 0]) else e=π (.agg #[U 0,U 0])/\dR f B pb c L ok d a) else e=π (.agg #[U 1,U<|(tk L a.i).at'])
  |.fail b p=>e=π (.agg #[U b,U p])/\b≠0
def Tw(m:cY L)(F:∀P,bG B pb c L 94 (λd s r=>r.gy d s) P)(N:∀g,V w.heap<=g->ok g)(D:B<=V w.heap)(h:aH w B pb c L ok d s)(b f)(M:w.heap[b]?=C (γ #[.func (.func 50) #[pV pb] #[]] 117 (0,0)))
 (a:w.heap[f]?=C (γ #[pV pb] 113 (0,0))):
 μ ε 91 #[pV b,pV f] w (A9f w B pb c L ok d<|lB d s):=by
 have u:=Pu m F N D h;have Z:δ w (J b 0)=C (.func (.func 50) #[pV pb] #[]):=cr M K;have v:=O a;go_in;go_wp2_with fail;refine u.mono ?_;rintro e S ⟨q,o,H,t⟩;have k:=O q;have i:=O H;have a2:S.cell? (J f 0)=C (pV pb):=(xD q v.u ζ K).2;cases o with
 |fail T p=>
  obtain⟨rfl,G⟩:=t;exact⟨K,k.u,_,i.u,K,G⟩
 |ok R a4=>
  obtain⟨rfl,l,a⟩:=t;have j:=qi m a;have y:=O a;have A:decide ((tk L R.i).x=6)=true:=by simp[l]
  rw[A]at j;go_wp2_with fail;refine j.mono ?_;rintro e a3 ⟨rfl,n⟩;have z:=O<|y.u.y n;have x:=O<|k.u.trans<|C9 n;go_wp2;go_end0;exact⟨x.u,_,i.u,by simp[l];exact z.u⟩
def Hc{j w e}{q}{a b}{f}(m:w.heap[q]?=C (γ f 29 (0,0)))(h:dR w B pb c L ok d s)(o:Θ c≠C q)(p:Kept B ok j w)(n:V j.heap<=q)(t:f.size=2)
 (i:I No (σ (σ w (J q 0) a) (J q 1) b) e):δ e (J q 0)=C a/\δ e (J q 1)=C b/\Kept B ok j e/\dR e B pb c L ok d s:=by
 have k:=ð w q 0 f _ a m;have l:=ð (σ w (J q 0) a) q 1 _ _ b k;have r:=(aG l);have g:=i.block q r λx=>x;rw[l]at g;refine⟨?_,?_,((p.f7 a n).f7 b n).trans<|C9 i,((h.f7 a m o ζ).f7 b k o ζ).y i⟩
 .rw[ä e q 0 _ _ _ g];grind
 .rw[ä e q 1 _ _ _ g];grind
def ĩ(H:cY L)(M:∀m',bG B pb c L 94 (λd s a5=>a5.gy d s) m')(a2:∀g,V w.heap<=g->ok g)(hB:B<=V w.heap)(h:aH w B pb c L ok d s)(n q)(hf:w.heap[n]?=C (γ #[.func (.func 50) #[pV pb] #[]] 117 (0,0)))
 (v:w.heap[q]?=C (γ #[pV pb] 113 (0,0))):
 μ ε 29 #[.func (.func 91) #[] #[pV n,pV q]] w (FH w B pb c L ok d<|lB d s):=by
 have F:=Tw H M (w:=ω w<|γ #[U 0,U 0] 29) (λg Z=>a2 g<|by simp at Z;omega) â (h.alloc _) n q (by grind[ÿ]) (by grind[ÿ]);have a3:=h.kq<|vQ _;go_enter_defers func29,ntmps29;go_wp2_with fail;refine F.mono ?_;rintro e a6 ⟨m,o,T,a⟩;obtain⟨l,x⟩:=xD m (rY w _) ζ (o:=0) K;have y:=(xD m (rY w _) ζ (o:=1) K).2;have hz:=(aG l);have z:=λo=>æ a6 _ o _ _ l;have D:=O l;have k:=O<|((Kept.refl B ok w).alloc _).trans m;have j:=O T;cases o with
 |fail t p=>
  obtain⟨rfl,S⟩:=a;unfold gu;refine leaves_cons (f:=53) (args:=#[pV (V w.heap)]) θ (by simp[go_sem]) ?_;refine(FQ (V w.heap) t p 0 0 [] _ x y z).mono ?_;rintro e A a7 ⟨rfl,rfl,N,b,f⟩;have r:FH w B pb c L ok d (lB d s) (π<|.agg #[U t,U p]) a7:=⟨k.u.trans' N λa4 hi hx=>W,_,j.u,K,S⟩;simp[Leaves,settle,ã,results29,go_sem,b,f];omega
 |ok i aa=>
  by_cases u:(tk L i.i).x=6
  .simp only[u,if_true]at a;obtain⟨rfl,v⟩:=a;have G:=O v;go_wp2;refine leaves_cons (f:=53) (args:=#[pV (V w.heap)]) θ (by simp[go_sem]) ?_;refine(OP (V w.heap) _).mono ?_;rintro e A a9 ⟨rfl,rfl,R⟩;obtain⟨b,f,k6,p6⟩:=Hc D.u G.u a3 k.u (vQ _) K R;have r:FH w B pb c L ok d (lB d s) (π<|.agg #[U 0,U 0]) a9:=⟨k6,_,j.u,η⟩;simp[Leaves,settle,ã,results29,go_sem,b,f];omega
  .simp only[u,if_false]at a;subst a;unfold gu;refine leaves_cons (f:=53) (args:=#[pV (V w.heap)]) θ (by simp[go_sem]) ?_;refine(FQ (V w.heap) 1 ((tk L i.i).at':Int) 0 0 [] _ x y z).mono ?_;rintro e A a8 ⟨rfl,rfl,P,b,f⟩;have r:FH w B pb c L ok d (lB d s) (π<|.agg #[U 1,U ((tk L i.i).at':Int)]) a8:=⟨k.u.trans' P λa4 hi hx=>W,_,j.u,η⟩;generalize ((tk L i.i).at':Int)=pa at*;simp[Leaves,settle,ã,results29,go_sem,b,f];omega
def D4b(T:cY L)(hS:∀m',bG B pb c L 94 (λd s a5=>a5.gy d s) m')(a3:∀g,V w.heap<=g->ok g)(hB:B<=V w.heap)(h:aH w B pb c L ok d s):
 μ ε 49 #[pV pb,.func (.func 50) #[pV pb] #[]] w (VX w B pb c L ok d<|lB d s):=by
 obtain⟨y,R,S⟩:=PH w (γ #[pV pb] 113) (γ #[.func (.func 50) #[pV pb] #[]] 117)<|γ #[U 0,U 0] 29;have M:=ĩ T hS (λg hg=>a3 g η) η (((h.alloc _).alloc _).alloc _) (V w.heap+1) (V w.heap) R y;have a4:Θ c≠C (V w.heap+2):=h.kq W;have v:=O y;have n:=O S;go_in;go_wp2_with fail;refine M.mono ?_;rintro a6 b ⟨f,o,D,j⟩;have i:=O<|((((Kept.refl B ok w).alloc _).alloc _).alloc _).trans f;have e:=O D;have aa:δ b (J (V w.heap) 0)=C (pV pb):=(xD f v.u ζ K).2;obtain⟨r,-⟩:=xD f n.u ζ (o:=0) K;have l:=(xD f n.u ζ (o:=0) K).2;have m:δ b (J (V w.heap+2) 1)=C (U 0):=(xD f n.u ζ (o:=1) K).2;have k:=(aG r);have rf:=λo=>æ b _ o _ _ r;have H:=O r;clear f D r v n;have a9:V w.heap<V b.heap:=W;cases o with
 |fail z p=>
  obtain⟨rfl,A⟩:=j;have a7:(z==0)=false:=by simp[A]
  go_wp2_with fail;exact ç (v:=.agg #[U z,U p]) (by simp[ã,results49,go_sem,l,m,k]) K ⟨((i.u.f7 _ W).f7 _ W).alloc _,_,e.u,K,A⟩
 |ok a ab=>
  by_cases t:(tk L a.i).x=6
  .simp only[t,if_true]at j;obtain⟨rfl,u⟩:=j;have N:=O u;obtain⟨nv,yv,nx,yx,q,F,G,_⟩:=u.blk;have a8:=(aG q);obtain⟨na,nc,rfl⟩:=B8 F;obtain⟨ya,yc,rfl⟩:=B8 G;have c3:δ b (J pb 3)=C (Y na (Q a.N) nc):=cr q K;have c4:δ b (J pb 4)=C (Y ya (Q a.T) yc):=cr q K;clear u q F G;by_cases hN:(1200:Int)<(Q a.N:Int)
   .have Z:1200<Q a.N:=W;go_wp2_with fail;exact ç (v:=.agg #[U 2,U 0]) (by simp[ã,results49,go_sem,l,m,k]) K ⟨((i.u.f7 _ W).f7 _ W).alloc _,_,e.u,η⟩
   .have Z:¬1200<Q a.N:=W;by_cases hT:(300:Int)<(Q a.T:Int)
    .have a2:300<Q a.T:=W;go_wp2_with fail;exact ç (v:=.agg #[U 2,U 0]) (by simp[ã,results49,go_sem,l,m,k]) K ⟨((i.u.f7 _ W).f7 _ W).alloc _,_,e.u,η⟩
    .have a2:¬300<Q a.T:=W;go_wp2_with fail;obtain⟨_,_,k6,p6⟩:=Hc (a:=U 0) (b:=U 0) H.u N.u a4 i.u W K<|ν No _<|γ #[U 0,U 0] 29;exact ç (v:=.agg #[U 0,U 0]) (by simp[ã,results49,go_sem,l,m,k]) K ⟨k6,_,e.u,η⟩
  .simp only[t,if_false]at j;subst j;have x:VX w B pb c L ok d (lB d s) (π<|.agg #[U 1,U ((tk L a.i).at':Int)]) ((σ (σ b (J (V w.heap+2) 0)<|U 1) (J (V w.heap+2) 1)<|U ((tk L a.i).at':Int)).alloc<|γ #[U 1,U ((tk L a.i).at':Int)] 29):=
    ⟨((i.u.f7 _ W).f7 _ W).alloc _,_,e.u,η⟩;have P:=O x;clear x t e;go_wp2_with fail;exact ç (v:=.agg #[U 1,U ((tk L a.i).at':Int)]) (by simp[ã,results49,go_sem,l,m,k]) K P.u
end
set_option linter.unusedSimpArgs false
section
variable{B a:Nat}{b:υ}{L:List Tk}
def xA{w f g}{c}{d}{s}{i j}{e}(m:Kept B c w f)(h:Z3 f B a b L c d s.nx i e g)(n:∀o,Ev L i o->Ev L j o):Z3 w B a b L c d s j e g:=by
 obtain⟨k,o,l,p⟩:=h;refine⟨m.trans k,o,n o l,?_⟩;grind[JT]
def DW{w f g}{c}{d}{s}{i j}{e}(m:Kept B c w f)(h:Z3 f B a b L c d s i e g)(n:∀o,Ev L i o->Ev L j o):Z3 w B a b L c d s j e g:=by
 obtain⟨k,o,l,p⟩:=h;refine⟨m.trans k,o,n o l,?_⟩;omega
def Q7{w g}{f}{d}{s}{i}{e}(h:Z3 w B a b L f d s i e g):(∃x,e=π (U x))\/∃c p,e=gu c p:=by
 obtain⟨k,o,j,l⟩:=h;grind
def Qh(q:cY L)(hX:∀(d) (s s') (x),Ev L (λr=>r.expr d s) (.ok s' x)->Q s.N<=x)(a2)(G:∀i,i<=a2->bG B a b L 215 (λd s r=>r.expr d s) i)(hK:∀i,i<a2->bG B a b L 217 (λd s r=>r.block d s) i):bG B a b L 140 (λd s r=>r.any d s) a2:=by
 intro ac j d s hm M F a5;have hi:=a5.at';have HA:=O<|xP q a5;have aa:Hid (∀a4,I No ac a4->aH a4 B a b L j d s):=λa4 ha=>a5.y ha;have z:Hid (∀o φ,Ev L φ o->(∀r,(step L r).any d s=φ r)->Ev L (λr=>r.any d s) o):=λo φ n he=>Æ<|n.eq λr=>he r;generalize ab:((tk L s.i).at':Int)=R at*;have A:=O ab;go_in;go_wp2_with fail;refine HA.u.mono ?_;rintro e w0 ⟨rfl,hc⟩;have c:=O<|C9 (B:=B) (ok:=j) hc;have P:=O<|aa.u w0 hc;have l:=H7 q P.u [108,101,116];generalize y:aL L s.i [[108,101,116]]=q0 at l;have D:=O y;have t:=O l;go_wp2_with fail;refine t.u.mono ?_;rintro e a6 ⟨rfl,w,h⟩;replace c:=O<|c.u.trans w;cases q0;case true=>
  have P:Hid (aH a6 B a b L j d s.nx):=h;have m:=O (Ŗ q (Q L-s.nx.i) (λi H=>G i<|by grind[è]) R a6 j d s.nx (vQ _) (λg v=>M g<|kQ c.u.size v) (kQ F c.u.size) P.u);go_wp2_with fail;refine m.u.mono ?_;rintro e T f;have k:=O (xA c.u f λo n=>z.u o _ n λr=>by simp only[step,D.u,yZ,if_false,if_true,A.u];rfl);have u:=Q7 f;obtain⟨x,rfl⟩|⟨S,p,rfl⟩:=u
  .go_wp2;go_ret;exact k.u
  .exact⟨K,k.u⟩
 have P:Hid (aH a6 B a b L j d s):=h;have l:=H7 q P.u [112,114,105,110,116];generalize y:aL L s.i [[112,114,105,110,116]]=q1 at l;have N:=O y;have t:=O l;go_wp2_with fail;refine t.u.mono ?_;rintro e a7 ⟨rfl,w,h⟩;replace c:=O<|c.u.trans w;cases q1;case true=>
  have P:Hid (aH a7 B a b L j d s.nx):=h;have m:=O (Hm q (Q L-s.nx.i) (λi H=>G i<|by grind[è]) 21 R a7 j d s.nx (vQ _) (λg v=>M g<|kQ c.u.size v) (kQ F c.u.size) P.u);go_wp2_with fail;refine m.u.mono ?_;rintro e T f;have k:=O (xA c.u f λo n=>z.u o _ n λr=>by simp only[step,D.u,N.u,yZ,if_false,if_true,A.u];try rfl);have u:=Q7 f;obtain⟨x,rfl⟩|⟨S,p,rfl⟩:=u
  .go_wp2;go_ret;exact k.u
  .exact⟨K,k.u⟩
 have P:Hid (aH a7 B a b L j d s):=h;have l:=H7 q P.u [114,101,116,117,114,110];generalize y:aL L s.i [[114,101,116,117,114,110]]=q2 at l;have Z:=O y;have t:=O l;go_wp2_with fail;refine t.u.mono ?_;rintro e a8 ⟨rfl,w,h⟩;replace c:=O<|c.u.trans w;cases q2;case true=>
  have P:Hid (aH a8 B a b L j d s.nx):=h;have m:=O (Hm q (Q L-s.nx.i) (λi H=>G i<|by grind[è]) 24 R a8 j d s.nx (vQ _) (λg v=>M g<|kQ c.u.size v) (kQ F c.u.size) P.u);go_wp2_with fail;refine m.u.mono ?_;rintro e T f;have k:=O (xA c.u f λo n=>z.u o _ n λr=>by simp only[step,D.u,N.u,Z.u,yZ,if_false,if_true,A.u];try rfl);have u:=Q7 f;clear f m c z;obtain⟨x,rfl⟩|⟨S,p,rfl⟩:=u
  .go_wp2_with fail;go_ret;exact k.u
  .exact⟨K,k.u⟩
 have P:Hid (aH a8 B a b L j d s):=h;clear h;have l:=H7 q P.u [105,102];generalize y:aL L s.i [[105,102]]=q3 at l;have Q3:=O y;have t:=O l;clear y l P;go_wp2_with fail;refine t.u.mono ?_;rintro e a9 ⟨rfl,w,h⟩;replace c:=O<|c.u.trans w;clear w t;cases q3;case true=>
  have P:Hid (aH a9 B a b L j d s.nx):=h;clear h;have m:=O (Zw q (Q L-s.nx.i) (λi H=>G i<|by grind[è]) (λi H=>hK i<|by grind[è]) R a9 j d s.nx (vQ _) (λg v=>M g<|kQ c.u.size v) (kQ F c.u.size) P.u);clear P;go_wp2_with fail;refine m.u.mono ?_;rintro e T f;have k:=O (xA c.u f λo n=>z.u o _ n λr=>by simp only[step,D.u,N.u,Z.u,Q3.u,Jm,yZ,if_false,if_true,A.u];try rfl);have u:=Q7 f;clear f m c z;obtain⟨x,rfl⟩|⟨S,p,rfl⟩:=u
  .go_wp2_with fail;go_ret;exact k.u
  .exact⟨K,k.u⟩
 have P:Hid (aH a9 B a b L j d s):=h;clear h;have l:=H7 q P.u [119,104,105,108,101];generalize y:aL L s.i [[119,104,105,108,101]]=q4 at l;have Q4:=O y;have t:=O l;clear y l P;go_wp2_with fail;refine t.u.mono ?_;rintro e a3 ⟨rfl,w,h⟩;replace c:=O<|c.u.trans w;clear w t;cases q4;case true=>
  have P:Hid (aH a3 B a b L j d s.nx):=h;clear h;have m:=O (Yw q (Q L-s.nx.i) (λi H=>G i<|by grind[è]) (λi H=>hK i<|by grind[è]) R a3 j d s.nx (vQ _) (λg v=>M g<|kQ c.u.size v) (kQ F c.u.size) P.u);clear P;go_wp2_with fail;refine m.u.mono ?_;rintro e T f;have k:=O (xA c.u f λo n=>z.u o _ n λr=>by simp only[step,D.u,N.u,Z.u,Q3.u,Q4.u,Jm,yZ,if_false,if_true,A.u];try rfl);have u:=Q7 f;clear f m c z;obtain⟨x,rfl⟩|⟨S,p,rfl⟩:=u
  .go_wp2_with fail;go_ret;exact k.u
  .exact⟨K,k.u⟩
 have P:Hid (aH a3 B a b L j d s):=h;clear h;have m:=O<|C8c q hX a2 G a3 j d s hm (λg v=>M g<|kQ c.u.size v) (kQ F c.u.size) P.u;clear P;go_wp2_with fail;refine m.u.mono ?_;rintro e T f;have k:=O (DW c.u f λo n=>z.u o _ n λr=>by simp only[step,D.u,N.u,Z.u,Q3.u,Q4.u,yZ,if_false,if_true,A.u];rfl);have u:=Q7 f;clear f m c z;obtain⟨x,rfl⟩|⟨S,p,rfl⟩:=u
 .go_wp2_with fail;go_ret;exact k.u
 .exact⟨K,k.u⟩
def Ă(q:cY L)(m)(M:bG B a b L 140 (λd s r=>r.any d s) m):bG B a b L 94 (λd s r=>r.gy d s) m:=by
 intro w ok d s T Z H h;have F:=O (sY q (h.alloc<|γ (pZ [[108,101,116],[112,114,105,110,116],[114,101,116,117,114,110],[105,102],[119,104,105,108,101]]) 9) (V w.heap) 5 [[108,101,116],[112,114,105,110,116],[114,101,116,117,114,110],[105,102],[119,104,105,108,101]] (xG _ _ _) ζ);have D:Hid (∀c,I No w c->μ ε 138 #[pV a] c λe w'=>e=π (.bool<|lY L s.i)/\I No c w'):=λc N=>RT q<|h.y N;have y:Hid (∀c,I No w c->∀f,μ ε 139 #[pV a,.bool f,.func (.func 140) #[pV a] #[]] c<|Z3 c B a b L ok d s λr=>aS L f d s λd s=>r.any d s):=λc i f=>RJ 140 (λ_ _=>Ω) q m _ M f T (λg S=>Z g<|kQ i.size S) (kQ H i.size)<|h.y i;have p:Hid (∀f o,f=MC L s.i->Ev L (λr=>aS L f d s λd s=>r.any d s) o->Ev L (λr=>r.gy d s) o):=λf o P k=>Æ (k.eq λr=>by rw[P];rfl);have R:MC L s.i=(aL L s.i [[108,101,116],[112,114,105,110,116],[114,101,116,117,114,110],[105,102],[119,104,105,108,101]]||lY L s.i):=K;rw[R]at p;generalize aL L s.i [[108,101,116],[112,114,105,110,116],[114,101,116,117,114,110],[105,102],[119,104,105,108,101]]=a3 at*;generalize lY L s.i=z at*;go_in;go_wp2_with fail;refine F.u.mono ?_;rintro e u ⟨rfl,i⟩;have n:Hid (I No w u):=(ν No _ _).trans i Ξ;cases a3
 .go_wp2_with fail;refine(D.u u n.u).mono ?_;rintro e A ⟨rfl,i⟩;have v:Hid (I No w A):=n.u.trans i Ξ;go_wp2_with fail;refine(y.u A v.u z).mono ?_;rintro e a4 l;have j:=O (DW (C9 v.u) l λo k=>p.u z o θ k);have t:=Q7 l;obtain⟨x,rfl⟩|⟨G,a2,rfl⟩:=t
  .go_wp2;go_ret;exact j.u
  .exact⟨K,j.u⟩
 .go_wp2_with fail;refine(y.u u n.u true).mono ?_;rintro e a4 l;have j:=O (DW (C9 n.u) l λo k=>p.u true o θ k);have t:=Q7 l;obtain⟨x,rfl⟩|⟨G,a2,rfl⟩:=t
  .go_wp2;go_ret;exact j.u
  .exact⟨K,j.u⟩
end
def I.bytes(S)(w)(e)(t):I S w (Lib.bytesWorld w e t):=by
 exact⟨K,K,K,by grind[Lib.bytesWorld_size],λk a _=>Lib.bytesWorld_at_old w e t k a⟩
section
variable{B a:Nat}{b:υ}{L:List Tk}
def Nh(m:cY L)(D:IV L)(c)(w:E)(j:Nat->Prop)(d)(s:St)(z:(tk L s.i).x=3)(N:∀g,V w.heap<=g->j g)(A:B<=V w.heap)(h:aH w B a b L j d s):
 μ ε 287 #[pV a,U c] w (Z3 w B a b L j d s λ_=>aE s.nx ⟨1,0,0,0,[],[],qA (tk L s.i).text,-1,c⟩):=by
 have a3:=h.fq;have q:=O (DL m h W);have M:=D s.i z;have a2:=@xB;have p:=O λy=>Tryz.strconv_Atoi ⟨ξ (tk L s.i).text⟩ (qA (tk L s.i).text) (by have:=M.2.1;grind[ByteArray.size]) (by grind[Zq]) y;generalize qA (tk L s.i).text=k at*;generalize tk L s.i=a4 at*;go_in;go_wp2_with fail;refine q.u.mono ?_;rintro e f ⟨rfl,H,P⟩;have r:=O H;have v:=O P;simp only[jK];go_wp2_with fail;refine(p.u f).mono ?_;rintro e Z ⟨rfl,t,rfl⟩;have i:=O<|r.u.trans<|C9<|I.bytes _ f 5 t;have l:=O<|v.u.y<|I.bytes _ f 5 t;generalize Lib.bytesWorld f 5 t=Z at*;have G:=l.u.at';simp only[è]at G;have o:=O (Q6 m l.u (Nd.mk 1 0 0 0 [] [] k (-1) c) 0 none 0 0 ⟨_,K,kW _ _ _ _,Ä⟩ K (by grind[è]) (kQ A i.u.size) λg F=>N g<|kQ i.u.size F);have n:=O (show F8 s ⟨s.nx.i,s.nx.N++[Nd.mk 1 0 0 0 [] [] k (-1) c],s.nx.T⟩ by
  grind[F8,è,qQ,jQ,xQ]);have R:0<=(Q s.nx.N:Int)/\Q s.nx.N<(Q (s.nx.N++[Nd.mk 1 0 0 0 [] [] k (-1) c]):Int):=â;go_wp2_with fail;refine o.u.mono ?_;rintro e a5 ⟨rfl,S,T⟩;have u:=O<|i.u.trans S;have x:=O T;go_wp2;go_ret;exact G0 u.u Ç x.u n.u R
end
set_option linter.unusedSimpArgs false
def IZ(B b:Nat)(e:υ)(L:List Tk)(f:Nat)(h:Int->Nat->St->Sp->Option (Out Int))(m:Nat):Prop:=
 ∀(c) (w) (a) (d) (s),Q L-s.i<=m->(∀g,V w.heap<=g->a g)->B<=V w.heap->aH w B b e L a d s->
  μ ε f #[pV b,U c] w (Z3 w B b e L a d s<|h c d s)
def AH(L:List Tk)(a:Int)(d:Nat)(s:St)(r:Sp):Option (Out Int):=A8 (aC L s [40]) λb _=>A8 (r.M .par [41] d b [] []) λc l=>A8 (bC L r d c) λe t=>A8 (r.block d e) λf x=>aE f ⟨6,x,0,0,l,[],0,t,a⟩
def DJ(a:Int)(d:Nat)(s:St)(r:Sp):Option (Out Int):=A8 (r.M .obj [125] d s [] []) λb l=>aE b ⟨10,0,0,0,l,[],0,-1,a⟩
section
variable{B a:Nat}{b:υ}{L:List Tk}
def ľ(q:cY L)(hN:IV L)(a7)(hE:∀m',m'<a7->bG B a b L 215 (λd s r=>r.expr d s) m')(hF:∀m',m'<a7->IZ B a b L 288 (AH L) m')(hO:∀m',m'<a7->IZ B a b L 289 DJ m'):bG B a b L 276 (λd s r=>r.simple d s) a7:=by
 intro ac k d s hm A Z a6;have aq:=a6.fq;have HA:=O<|xP q a6;have af:Hid (∀m,I No ac m->aH m B a b L k d s):=λm ha=>a6.y ha;have FT:Hid (∀m,I No ac m->μ ε 135 #[pV a] m λe w'=>e=π (jK<|tk L s.i)/\I No m w'):=λm ha=>W6 q<|a6.y ha;have TK:Hid (∀m,(tk L s.i).x≠6->aH m B a b L k d s->μ ε 233 #[pV a] m λe w'=>e=π (jK<|tk L s.i)/\Kept B k m w'/\aH w' B a b L k d s.nx):=λm i ha=>DL q ha i;have NB:Hid (∀h m,(tk L s.i).x=3->(∀g,V m.heap<=g->k g)->B<=V m.heap->aH m B a b L k d s->μ ε 287 #[pV a,U h] m (Z3 m B a b L k d s λ_=>aE s.nx ⟨1,0,0,0,[],[],qA (tk L s.i).text,-1,h⟩)):=λh m T z hb ha=>Nh q hN h m k d s T z hb ha;have p:Hid (∀o φ,Ev L φ o->(∀r,(step L r).simple d s=φ r)->Ev L (λr=>r.simple d s) o):=λo φ z he=>Æ<|z.eq λr=>he r;have ao:=Z7;have ap:=xB;clear a6;generalize ag:((tk L s.i).at':Int)=h at*;have D:=O ag;clear ag;generalize ai:(tk L s.i).x=kd at*;have M:=O ai;clear ai;generalize aj:(tk L s.i).text=tx at*;have S:=O aj;clear aj;have ak:jK (tk L s.i)=.agg #[U kd,ι ⟨ξ tx⟩,U h]:=by rw[jK,M.u,S.u,D.u]
 rw[ak]at FT TK;clear ak;go_in;go_wp2_with fail;refine HA.u.mono ?_;rintro e wa ⟨rfl,hc⟩;have C1:=O hc;clear hc HA;go_wp2_with fail;refine(FT.u wa C1.u).mono ?_;rintro e w0 ⟨rfl,hc⟩;have C2:Hid (I No ac w0):=C1.u.trans hc λ_ _ a8=>a8;have c:=O<|C9 (B:=B) (ok:=k) C2.u;have P:=O<|af.u w0 C2.u;clear hc FT af C1 C2;by_cases T:kd=3;case pos=>
  subst T;have n:=O<|NB.u h w0 K (λg j=>A g<|kQ c.u.size j) (kQ Z c.u.size) P.u;clear P NB;go_wp2_with fail;refine n.u.mono ?_;rintro e a3 t;have R:=O (DW c.u t λo z=>p.u o _ z λr=>by simp only[step,M.u,S.u,D.u,yY,yZ,if_false,if_true];try rfl);have a5:=Q7 t;clear t n c p;obtain⟨a8,rfl⟩|⟨er,a9,rfl⟩:=a5
  .go_wp2_with fail;go_ret;exact R.u
  .exact⟨K,R.u⟩
 clear NB;have b3:(kd==3)=false:=by simp[T]
 by_cases h4:kd=4;case pos=>
  subst h4;have n:=O<|TK.u w0 ζ P.u;clear P TK;go_wp2_with fail;refine n.u.mono ?_;rintro e aa ⟨rfl,i,f⟩;replace c:=O<|c.u.trans i;have P:=O f;clear i f n;have hj:=P.u.at';have v:=O (Q6 q P.u (Nd.mk 2 0 0 0 [] tx 0 (-1) h) 0 none 0 0 ⟨_,K,kW _ _ _ _,Ä⟩ K (by grind[è]) (kQ Z c.u.size) λg j=>A g<|kQ c.u.size j);have F:=O (p.u _ (λr=>aE s.nx<|Nd.mk 2 0 0 0 [] tx 0 (-1) h) Ç λr=>by simp only[step,M.u,S.u,D.u,(ζ:¬(4:Int)=3),yZ,if_false,if_true];try rfl);have G:=O (show F8 s ⟨(s.nx).i,(s.nx).N++[(Nd.mk 2 0 0 0 [] tx 0 (-1) h)],(s.nx).T⟩ by
   grind[F8,è]);have a2:(0:Int)<=(Q (s.nx).N:Int)/\(Q (s.nx).N:Int)<(Q ((s.nx).N++[(Nd.mk 2 0 0 0 [] tx 0 (-1) h)]):Int):=â;clear P p;go_wp2_with fail;refine v.u.mono ?_;rintro e a3 ⟨rfl,x,y⟩;have H:=O<|c.u.trans x;have N:=O y;clear x y v;go_wp2_with fail;go_ret;exact G0 H.u F.u N.u G.u a2
 have b4:(kd==4)=false:=by simp[h4]
 by_cases h1:kd=1;case pos=>
  subst h1;have n:=O<|TK.u w0 ζ P.u;clear P TK;go_wp2_with fail;refine n.u.mono ?_;rintro e aa ⟨rfl,i,f⟩;replace c:=O<|c.u.trans i;have P:=O f;clear i f n;have hj:=P.u.at';have v:=O (Q6 q P.u (Nd.mk 5 0 0 0 [] tx 0 (-1) h) 0 none 0 0 ⟨_,K,kW _ _ _ _,Ä⟩ K (by grind[è]) (kQ Z c.u.size) λg j=>A g<|kQ c.u.size j);have F:=O (p.u _ (λr=>aE s.nx<|Nd.mk 5 0 0 0 [] tx 0 (-1) h) Ç λr=>by simp only[step,M.u,S.u,D.u,(ζ:¬(1:Int)=3),(ζ:¬(1:Int)=4),yZ,if_false,if_true];try rfl);have G:=O (show F8 s ⟨(s.nx).i,(s.nx).N++[(Nd.mk 5 0 0 0 [] tx 0 (-1) h)],(s.nx).T⟩ by
   grind[F8,è]);have a2:(0:Int)<=(Q (s.nx).N:Int)/\(Q (s.nx).N:Int)<(Q ((s.nx).N++[(Nd.mk 5 0 0 0 [] tx 0 (-1) h)]):Int):=â;clear P p;go_wp2_with fail;refine v.u.mono ?_;rintro e a3 ⟨rfl,x,y⟩;have H:=O<|c.u.trans x;have N:=O y;clear x y v;go_wp2_with fail;go_ret;exact G0 H.u F.u N.u G.u a2
 have b1:(kd==1)=false:=by simp[h1]
 clear TK;have l:=H7 q P.u [116,114,117,101];generalize w:aL L s.i [[116,114,117,101]]=q0 at l;have Q0:=O w;have u:=O l;clear w l P;go_wp2_with fail;refine u.u.mono ?_;rintro e aa ⟨rfl,i,f⟩;replace c:=O<|c.u.trans i;clear i u;cases q0;case true=>
  have P:Hid (aH aa B a b L k d s.nx):=f;have hj:=f.at';clear f;have v:=O (Q6 q P.u (Nd.mk 3 0 0 0 [] [] 1 (-1) h) 0 none 0 0 ⟨_,K,kW _ _ _ _,Ä⟩ K (by grind[è]) (kQ Z c.u.size) λg j=>A g<|kQ c.u.size j);have F:=O (p.u _ (λr=>aE s.nx<|Nd.mk 3 0 0 0 [] [] 1 (-1) h) Ç λr=>by simp only[step,M.u,S.u,D.u,T,h4,h1,Q0.u,yZ,if_false,if_true];try rfl);have G:=O (show F8 s ⟨(s.nx).i,(s.nx).N++[(Nd.mk 3 0 0 0 [] [] 1 (-1) h)],(s.nx).T⟩ by
   grind[F8,è]);have a2:(0:Int)<=(Q (s.nx).N:Int)/\(Q (s.nx).N:Int)<(Q ((s.nx).N++[(Nd.mk 3 0 0 0 [] [] 1 (-1) h)]):Int):=â;clear P p;go_wp2_with fail;refine v.u.mono ?_;rintro e a3 ⟨rfl,x,y⟩;have H:=O<|c.u.trans x;have N:=O y;clear x y v;go_wp2_with fail;go_ret;exact G0 H.u F.u N.u G.u a2
 have P:Hid (aH aa B a b L k d s):=f;clear f;have l:=H7 q P.u [102,97,108,115,101];generalize w:aL L s.i [[102,97,108,115,101]]=q1 at l;have Q1:=O w;have u:=O l;clear w l P;go_wp2_with fail;refine u.u.mono ?_;rintro e al ⟨rfl,i,f⟩;replace c:=O<|c.u.trans i;clear i u;cases q1;case true=>
  have P:Hid (aH al B a b L k d s.nx):=f;have hj:=f.at';clear f;have v:=O (Q6 q P.u (Nd.mk 3 0 0 0 [] [] 0 (-1) h) 0 none 0 0 ⟨_,K,kW _ _ _ _,Ä⟩ K (by grind[è]) (kQ Z c.u.size) λg j=>A g<|kQ c.u.size j);have F:=O (p.u _ (λr=>aE s.nx<|Nd.mk 3 0 0 0 [] [] 0 (-1) h) Ç λr=>by simp only[step,M.u,S.u,D.u,T,h4,h1,Q0.u,Q1.u,yZ,if_false,if_true];try rfl);have G:=O (show F8 s ⟨(s.nx).i,(s.nx).N++[(Nd.mk 3 0 0 0 [] [] 0 (-1) h)],(s.nx).T⟩ by
   grind[F8,è]);have a2:(0:Int)<=(Q (s.nx).N:Int)/\(Q (s.nx).N:Int)<(Q ((s.nx).N++[(Nd.mk 3 0 0 0 [] [] 0 (-1) h)]):Int):=â;clear P p;go_wp2_with fail;refine v.u.mono ?_;rintro e a3 ⟨rfl,x,y⟩;have H:=O<|c.u.trans x;have N:=O y;clear x y v;go_wp2_with fail;go_ret;exact G0 H.u F.u N.u G.u a2
 have P:Hid (aH al B a b L k d s):=f;clear f;have l:=H7 q P.u [110,117,108,108];generalize w:aL L s.i [[110,117,108,108]]=q2 at l;have Q2:=O w;have u:=O l;clear w l P;go_wp2_with fail;refine u.u.mono ?_;rintro e am ⟨rfl,i,f⟩;replace c:=O<|c.u.trans i;clear i u;cases q2;case true=>
  have P:Hid (aH am B a b L k d s.nx):=f;have hj:=f.at';clear f;have v:=O (Q6 q P.u (Nd.mk 4 0 0 0 [] [] 0 (-1) h) 0 none 0 0 ⟨_,K,kW _ _ _ _,Ä⟩ K (by grind[è]) (kQ Z c.u.size) λg j=>A g<|kQ c.u.size j);have F:=O (p.u _ (λr=>aE s.nx<|Nd.mk 4 0 0 0 [] [] 0 (-1) h) Ç λr=>by simp only[step,M.u,S.u,D.u,T,h4,h1,Q0.u,Q1.u,Q2.u,yZ,if_false,if_true];try rfl);have G:=O (show F8 s ⟨(s.nx).i,(s.nx).N++[(Nd.mk 4 0 0 0 [] [] 0 (-1) h)],(s.nx).T⟩ by
   grind[F8,è]);have a2:(0:Int)<=(Q (s.nx).N:Int)/\(Q (s.nx).N:Int)<(Q ((s.nx).N++[(Nd.mk 4 0 0 0 [] [] 0 (-1) h)]):Int):=â;clear P p;go_wp2_with fail;refine v.u.mono ?_;rintro e a3 ⟨rfl,x,y⟩;have H:=O<|c.u.trans x;have N:=O y;clear x y v;go_wp2_with fail;go_ret;exact G0 H.u F.u N.u G.u a2
 have P:Hid (aH am B a b L k d s):=f;clear f;have l:=H7 q P.u [102,110];generalize w:aL L s.i [[102,110]]=q3 at l;have Q3:=O w;have u:=O l;clear w l P;go_wp2_with fail;refine u.u.mono ?_;rintro e ad ⟨rfl,i,f⟩;replace c:=O<|c.u.trans i;clear i u;cases q3;case true=>
  have P:Hid (aH ad B a b L k d s.nx):=f;have hj:=f.at';clear f;have n:=O (hF (Q L-s.nx.i) (by grind[è]) h ad k d s.nx (vQ _) (λg j=>A g<|kQ c.u.size j) (kQ Z c.u.size) P.u);clear P;go_wp2_with fail;refine n.u.mono ?_;rintro e a3 t;have R:=O (xA c.u t λo z=>p.u o _ z λr=>by simp only[step,M.u,S.u,D.u,T,h4,h1,Q0.u,Q1.u,Q2.u,Q3.u,yZ,if_false,if_true];rfl);have a5:=Q7 t;clear t n c p;obtain⟨a8,rfl⟩|⟨er,a9,rfl⟩:=a5
  .go_wp2_with fail;go_ret;exact R.u
  .exact⟨K,R.u⟩
 have P:Hid (aH ad B a b L k d s):=f;clear f;have l:=H7 q P.u [91];generalize w:aL L s.i [[91]]=q4 at l;have Q4:=O w;have u:=O l;clear w l P;go_wp2_with fail;refine u.u.mono ?_;rintro e ae ⟨rfl,i,f⟩;replace c:=O<|c.u.trans i;clear i u;cases q4;case true=>
  have P:Hid (aH ae B a b L k d s.nx):=f;have hj:=f.at';clear f;have n:=O (PJ (w:=ae) (ok:=k) 215 (λ_ _=>Ω) (pt:=.expr) (φ:=λd s r=>r.expr d s) (λ_ _ _=>K) q (Q L-s.nx.i) (λm' au=>(hE m'<|by grind[è]).s0) [93] (vQ _) (λg j=>A g<|kQ c.u.size j) (kQ Z c.u.size) P.u);clear P;go_wp2_with fail;refine n.u.mono ?_;rintro e av ⟨i,o,ah,t⟩;have K':=O<|c.u.trans i;have E1:=O ah;have hz:=c.u.size;clear i ah n c;have c:=O K'.u;clear K';have VL:=O (λo (z:Ev L (λr=>A8 (r.M .expr [93] d s.nx [] []) λs' a4=>aE s'<|Nd.mk 11 0 0 0 a4 [] 0 (-1) h) o)=>p.u o _ z λr=>by simp only[step,M.u,S.u,D.u,T,h4,h1,Q0.u,Q1.u,Q2.u,Q3.u,Q4.u,yZ,if_false,if_true];try rfl);cases o with
  |fail er a9=>
   obtain⟨rfl,he⟩:=t;exact⟨K,D3 c.u (VL.u _<|ø E1.u) he⟩
  |ok s1 a4=>
   obtain⟨la,lc,rfl,z,hl,f,j⟩:=t;have an:_/\_/\_/\_:=j;simp only[è]at an;have P:=O f;have O1:=O z;have ar:=f.at';clear f z j;have v:=O (Q6 q P.u (Nd.mk 11 0 0 0 a4 [] 0 (-1) h) 0 la (Q a4) lc ⟨_,K,C7 O1.u<|wQ _,λg j=>A g<|by have:=(A9 O1.u g j).1;omega⟩ K W (kQ Z c.u.size) λg j=>A g<|kQ c.u.size j);have F:=O<|VL.u _<|ú (k:=λr s' a4=>aE s'<|Nd.mk 11 0 0 0 a4 [] 0 (-1) h) E1.u Ç;have G:=O (show F8 s ⟨(s1).i,(s1).N++[(Nd.mk 11 0 0 0 a4 [] 0 (-1) h)],(s1).T⟩ by
    grind[F8,è,qQ,jQ,xQ]);have a2:(0:Int)<=(Q (s1).N:Int)/\(Q (s1).N:Int)<(Q ((s1).N++[(Nd.mk 11 0 0 0 a4 [] 0 (-1) h)]):Int):=â;clear P p;go_wp2_with fail;refine v.u.mono ?_;rintro e a3 ⟨rfl,x,y⟩;have H:=O<|c.u.trans x;have N:=O y;clear x y v;go_wp2_with fail;go_ret;exact G0 H.u F.u N.u G.u a2
 have P:Hid (aH ae B a b L k d s):=f;clear f;have l:=H7 q P.u [123];generalize w:aL L s.i [[123]]=q5 at l;have Q5:=O w;have u:=O l;clear w l P;go_wp2_with fail;refine u.u.mono ?_;rintro e ab ⟨rfl,i,f⟩;replace c:=O<|c.u.trans i;clear i u;cases q5;case true=>
  have P:Hid (aH ab B a b L k d s.nx):=f;have hj:=f.at';clear f;have n:=O (hO (Q L-s.nx.i) (by grind[è]) h ab k d s.nx (vQ _) (λg j=>A g<|kQ c.u.size j) (kQ Z c.u.size) P.u);clear P;go_wp2_with fail;refine n.u.mono ?_;rintro e a3 t;have R:=O (xA c.u t λo z=>p.u o _ z λr=>by simp only[step,M.u,S.u,D.u,T,h4,h1,Q0.u,Q1.u,Q2.u,Q3.u,Q4.u,Q5.u,yZ,if_false,if_true];rfl);have a5:=Q7 t;clear t n c p;obtain⟨a8,rfl⟩|⟨er,a9,rfl⟩:=a5
  .go_wp2_with fail;go_ret;exact R.u
  .exact⟨K,R.u⟩
 have P:Hid (aH ab B a b L k d s):=f;clear f;have n:=O<|Uz q a7 hE ab k d s hm (λg j=>A g<|kQ c.u.size j) (kQ Z c.u.size) P.u;clear P;go_wp2_with fail;refine n.u.mono ?_;rintro e a3 t;have R:=O (DW c.u t λo z=>p.u o _ z λr=>by simp only[step,M.u,S.u,D.u,T,h4,h1,Q0.u,Q1.u,Q2.u,Q3.u,Q4.u,Q5.u,yZ,if_false,if_true];try rfl);have a5:=Q7 t;clear t n c p;obtain⟨a8,rfl⟩|⟨er,a9,rfl⟩:=a5
 .go_wp2_with fail;go_ret;exact R.u
 .exact⟨K,R.u⟩
theorem aV.andThen{d}{m}{f g c}(h:aV B d m f g)(k:Kept B d g c):aV B d m f c:=by
 refine⟨k.os.trans h.os,k.tape.trans h.tape,k.output.trans h.output,kQ h.size k.size,λi j l=>?_⟩;have p:=h.block i j l;refine(k.block i (yQ j h.size) λx=>l ?_).trans p;obtain⟨q,⟨n,e,o,t,r⟩,s⟩:=x;exact .inl ⟨q,⟨n,e,o,η,r⟩,s⟩
def QX{n}{m}{w j}{q:Nat}{i}{e}(k:aV B n m w j)(h:w.heap[q]?=C (γ i e (0,0)))(o:e≠115/\e≠93/\e≠88/\e≠23/\e≠9):j.heap[q]?=C (γ i e (0,0)):=by
 refine(k.block q (aG h) λl=>?_).trans h;have p:∀f c g,w.heap[q]?=C (γ f c g)->c=e:=by
  intro f c g d;rw[h]at d;simp at d;exact d.2.1.symm
 obtain⟨_,⟨f,c,g,d,r⟩,_⟩|⟨_,f,c,g,d,r⟩:=l<;>grind
def sB(w:E)(B a:Nat)(b:υ)(L:List Tk)(h:Nat->Prop)(d:Nat)(s:St)(g j:Nat)(k:Sp->Option (Out<|Int×List bZ))(e:ò)(c:E):Prop:=
 aV B h g w c/\∃o,Ev L k o/\match o with
  |.ok i x=>e=π (U x.1)/\gG c g j x.2/\aH c B a b L h d i/\F8 s i
  |.fail f p=>e=gu f p/\f≠0
def Oa(M:cY L)(ac)(hE:∀m',m'<=ac->bG B a b L 215 (λd s r=>r.expr d s) m')(w)(q)(d)(s)(n u z)(i)(T:w.heap[z]?=C (γ #[pV a] 113 (0,0)))(hn:gG w n u i)(hl:Q i<=1001)(aj:n<=V w.heap)(hm:Q L-s.i<=ac)(a9:∀g,V w.heap<=g->q g)(hB:B<=V w.heap)(h:aH w B a b L q d s):
 μ ε 296 #[pV z,pV u] w (sB w B a b L q d s n u λr=>part L r d s i .obj):=by
 have hi:=h.at';have av:=M.jq;have ar:=h.fq;have ak:=(aG T);have BX:Hid (∀j,I No w j->j.heap[z]?=C (γ #[pV a] 113 (0,0))):=λj k=>(k.block z ak λx=>x).trans T;have ae:δ w (J z 0)=C (pV a):=cr T K;have HA:Hid (∀j,I No w j->μ ε 136 #[pV a] j λe A=>e=π (U ((tk L s.i).at':Int))/\Hid (I No w A)/\A.cell? (J z 0)=C (pV a)):=λj k=>(xP M<|h.y k).mono (by
  rintro e A ⟨he,N⟩;have a6:=k.trans N Ξ;exact⟨he,a6,cr (BX.u A a6) K⟩);have ό:Hid (∀o,Ev L (λr=>A8 (aO L s i) λl f=>A8 (aC L l [58]) λG _=>A8 (r.expr d G) λv x=>A8 (aE v<|Nd.mk 15 x 0 0 [] f 0 (-1) ((tk L s.i).at':Int)) λc y=>C<|.ok c (y,i++[f])) o->Ev L (λr=>part L r d s i .obj) o):=λo P=>P;have HN:Hid (∀j,I No w j->μ ε 272 #[pV a,pV u] j λe A=>
  (∃t p,e=gu t p/\Hid (sB w B a b L q d s n u (λr=>part L r d s i .obj) (gu t p) A))\/
  (∃l f,e=π (ι ⟨ξ f⟩)/\Hid (aO L s i=C (.ok l f))/\aV B q n j A/\gG A n u (i++[f])/\aH A B a b L q d l)):=by
  intro j k;refine(QY M (h.y k) n u i (hn.P k λ_ _ _ _ x=>x.elim) hl<|kQ aj k.size).mono ?_;rintro e A ⟨hk,hr⟩;rcases F:aO L s i with _|⟨l,f⟩|⟨t,p⟩
  .grind
  .grind[O]
  .rw[F]at hr;have ah:t≠0:=by
    unfold aO bF at F;split at F
    .grind
    .grind
   exact .inl ⟨t,p,hr,aV.after (C9 k) hk,_,ό.u _<|ø<|Ev.pure.eq λr=>F,K,ah⟩
 clear h hn T;generalize ((tk L s.i).at':Int)=D at*;go_in;go_wp2_with fail;go_region_with (first|(go_at_call 136;refine(HA.u _<|Ψ _ _ 1).mono ?_;rintro e an ⟨rfl,N,af⟩)|(go_at_call 272;refine(HN.u _<|Í W).mono ?_;rintro e ao (⟨t,p,rfl,HF⟩|⟨l,f,rfl,F,a4,a8,aa⟩);exact⟨K,HF.u⟩));all_goals
  have K2:=O<|aV.after (C9<|Í N) a4;have a3:=QX a4 (BX.u an<|Í N) ζ;have ag:δ ao (J z 0)=C (pV a):=cr a3 K;have HD:=O<|I7 M aa [58];have N2:=O a8;have V2:=O λo (P:Ev L (λr=>A8 (aC L l [58]) λG (_:Unit)=>A8 (r.expr d G) λv x=>A8 (aE v<|Nd.mk 15 x 0 0 [] f 0 (-1) D) λc y=>C<|.ok c (y,i++[f])) o)=>ό.u o<|ú (k:=λr l f=>A8 (aC L l [58]) λG _=>A8 (r.expr d G) λv x=>A8 (aE v<|Nd.mk 15 x 0 0 [] f 0 (-1) D) λc y=>C<|.ok c (y,i++[f])) (Ev.pure.eq λr=>Í F) P;have am:=gI<|Í F;have B2:=O a3;clear a4 aa a8 N ae af HA HN ό BX a3;go_wp2_with fail;refine HD.u.mono ?_;rintro e ad ⟨Z,hr⟩;have H:=O<|K2.u.andThen Z;have N3:=O<|N2.u.kept Z;have B3:=O (zO Z B2.u ζ);clear Z K2 N2 B2 HD ag;obtain⟨S,rfl,hp⟩|⟨S,rfl⟩:=hr;case inr=>exact⟨K,H.u,_,V2.u _<|ø<|U3 S,K,ζ⟩
  have V3:=O λo (P:Ev L (λr=>A8 (r.expr d l.nx) λv x=>A8 (aE v<|Nd.mk 15 x 0 0 [] f 0 (-1) D) λc y=>C<|.ok c (y,i++[f])) o)=>V2.u o<|ú (k:=λr G (_:Unit)=>A8 (r.expr d G) λv x=>A8 (aE v<|Nd.mk 15 x 0 0 [] f 0 (-1) D) λc y=>C<|.ok c (y,i++[f])) (Q8 S) P;have au:=hp.at';have ap:δ ad (J z 0)=C (pV a):=cr B3.u K;have HX:Hid (∀j,I No ad j->μ ε 215 #[pV a] j λe m=>
   (∃t p,e=gu t p/\Hid (sB w B a b L q d s n u (λr=>part L r d s i .obj) (gu t p) m))\/
   (∃c x,e=π (U x)/\δ m (J z 0)=C (pV a)/\Hid (aV B q n w m/\gG m n u (i++[f])/\aH m B a b L q d c/\F8 l.nx c/\Ev L (λr=>part L r d s i .obj) (.ok ⟨c.i,c.N++[(Nd.mk 15 x 0 0 [] f 0 (-1) D)],c.T⟩ ((Q c.N:Int),i++[f]))))):=by
   intro j k;refine(hE (Q L-l.nx.i) (by grind[è]) j q d l.nx (vQ _) (λg hg=>a9 g<|kQ H.u.size<|kQ k.size hg) (kQ hB<|kQ H.u.size k.size)<|hp.y k).mono ?_;rintro e m ⟨R,o,a7,ab⟩;have a2:=(C9 k).trans R;cases o with
   |fail t p=>
    obtain⟨rfl,he⟩:=ab;exact .inl ⟨t,p,K,H.u.andThen a2,_,V3.u _<|ø a7,K,he⟩
   |ok c x=>
    obtain⟨rfl,al,ai,aw⟩:=ab;refine .inr ⟨c,x,K,by rw[ä m z 0 _ _ _<|zO a2 B3.u ζ];rfl,H.u.andThen a2,N3.u.kept a2,al,ai,V3.u _<|ú (k:=λr v x=>A8 (aE v<|Nd.mk 15 x 0 0 [] f 0 (-1) D) λc y=>C<|.ok c (y,i++[f])) a7<|Ev.pure.eq λr=>K⟩
  have HY:Hid (∀m c x,aV B q n w m/\gG m n u (i++[f])/\aH m B a b L q d c/\F8 l.nx c/\Ev L (λr=>part L r d s i .obj) (.ok ⟨c.i,c.N++[(Nd.mk 15 x 0 0 [] f 0 (-1) D)],c.T⟩ ((Q c.N:Int),i++[f]))->μ ε 95 #[pV a,.agg #[U 15,U x,U 0,U 0,sN,ι ⟨ξ f⟩,U 0,U 0,U D]] m λe a5=>
   e=π (U (Q c.N:Int))/\Hid (sB w B a b L q d s n u (λr=>part L r d s i .obj) (π<|U (Q c.N:Int)) a5)):=by
   rintro m c x ⟨R,n4,p4,g4,e4⟩;have g5:_/\_/\_/\_:=g4;rw[am]at g5;simp only[è]at g5;refine(Q6 M p4 (Nd.mk 15 x 0 0 [] f 0 (-1) D) 0 none 0 0 ⟨_,K,kW _ _ _ _,Ä⟩ K W (kQ hB R.size) λg hg=>a9 g<|kQ R.size hg).mono ?_;rintro e a5 ⟨rfl,k5,p5⟩;refine⟨K,R.andThen k5,_,e4,K,n4.kept k5,p5,?_⟩;simp only[F8,qQ,jQ,xQ];omega
  clear V2 V3 S hp H N3 B3;go_wp2_with fail;go_region_with (first|(go_at_call 215;refine(HX.u _<|Ψ _ _ 1).mono ?_;rintro e m (⟨t,p,rfl,H4⟩|⟨c,x,rfl,aq,H4⟩);exact⟨K,H4.u⟩)|(go_at_call 95;refine(HY.u _ _ _<|Í H4).mono ?_;rintro e a5 ⟨rfl,H5⟩));all_goals go_wp2_with fail
  all_goals go_ret
  all_goals exact H5.u
def zg(H:cY L)(w)(q)(d)(s)(m t z)(i)(P:w.heap[z]?=C (γ #[pV a] 113 (0,0)))(hn:gG w m t i)(hl:Q i<=1001)(ag:m<=V w.heap)(a9:∀g,V w.heap<=g->q g)(hB:B<=V w.heap)(h:aH w B a b L q d s):
 μ ε 295 #[pV z,pV t] w (sB w B a b L q d s m t λr=>part L r d s i .par):=by
 have hi:=h.at';have ap:=H.jq;have an:=h.fq;have ah:=(aG P);have T:Hid (∀j,I No w j->j.heap[z]?=C (γ #[pV a] 113 (0,0))):=λj k=>(k.block z ah λx=>x).trans P;have ac:δ w (J z 0)=C (pV a):=cr P K;have HA:Hid (∀j,I No w j->μ ε 136 #[pV a] j λe v=>e=π (U ((tk L s.i).at':Int))/\Hid (I No w v)/\δ v (J z 0)=C (pV a)):=λj k=>(xP H<|h.y k).mono (by
  rintro e v ⟨he,M⟩;have a6:=k.trans M Ξ;exact⟨he,a6,cr (T.u v a6) K⟩);have ό:Hid (∀o,Ev L (λr=>A8 (aO L s i) λu f=>A8 (bC L r d u) λF x=>A8 (aE F<|Nd.mk 16 0 0 0 [] f 0 x ((tk L s.i).at':Int)) λc y=>C<|.ok c (y,i++[f])) o->Ev L (λr=>part L r d s i .par) o):=λo ho=>ho;have HN:Hid (∀j,I No w j->μ ε 272 #[pV a,pV t] j λe v=>
  (∃n p,e=gu n p/\Hid (sB w B a b L q d s m t (λr=>part L r d s i .par) (gu n p) v))\/
  (∃u f,e=π (ι ⟨ξ f⟩)/\Hid (aO L s i=C (.ok u f))/\aV B q m j v/\gG v m t (i++[f])/\aH v B a b L q d u)):=by
  intro j k;refine(QY H (h.y k) m t i (hn.P k λ_ _ _ _ x=>x.elim) hl<|kQ ag k.size).mono ?_;rintro e v ⟨hk,hr⟩;rcases D:aO L s i with _|⟨u,f⟩|⟨n,p⟩
  .grind
  .grind[O]
  .rw[D]at hr;have ae:n≠0:=by
    unfold aO bF at D;split at D
    .grind
    .grind
   exact .inl ⟨n,p,hr,aV.after (C9 k) hk,_,ό.u _<|ø<|Ev.pure.eq λr=>D,K,ae⟩
 clear h hn P;generalize ((tk L s.i).at':Int)=A at*;go_in;go_wp2_with fail;go_region_with (first|(go_at_call 136;refine(HA.u _<|Ψ _ _ 1).mono ?_;rintro e ak ⟨rfl,M,ad⟩)|(go_at_call 272;refine(HN.u _<|Í W).mono ?_;rintro e ab (⟨n,p,rfl,HF⟩|⟨u,f,rfl,D,a2,a8,a3⟩);exact⟨K,HF.u⟩));all_goals
  have G:=O<|aV.after (C9<|Í M) a2;have S:=O (QX a2 (T.u ak<|Í M) ζ);have al:δ ab (J z 0)=C (pV a):=cr S.u K;have N3:=O a8;have V3:=O λo (ho:Ev L (λr=>A8 (bC L r d u) λF x=>A8 (aE F<|Nd.mk 16 0 0 0 [] f 0 x A) λc y=>C<|.ok c (y,i++[f])) o)=>ό.u o<|ú (k:=λr u f=>A8 (bC L r d u) λF x=>A8 (aE F<|Nd.mk 16 0 0 0 [] f 0 x A) λc y=>C<|.ok c (y,i++[f])) (Ev.pure.eq λr=>Í D) ho;have aj:=gI<|Í D;have a5:=O a3;have ao:=a3.at';clear a2 a3 a8 M ac ad HA HN ό T;have HX:Hid (∀j,I No ab j->μ ε 213 #[pV a] j λe l=>
   (∃n p,e=gu n p/\Hid (sB w B a b L q d s m t (λr=>part L r d s i .par) (gu n p) l))\/
   (∃c x,e=π (U x)/\δ l (J z 0)=C (pV a)/\Hid (aV B q m w l/\gG l m t (i++[f])/\aH l B a b L q d c/\L9 u c/\Ev L (λr=>part L r d s i .par) (.ok ⟨c.i,c.N++[(Nd.mk 16 0 0 0 [] f 0 x A)],c.T⟩ ((Q c.N:Int),i++[f]))))):=by
   intro j k;refine(SY H (a5.u.y k) (λg hg=>a9 g<|kQ G.u.size<|kQ k.size hg)<|kQ hB<|kQ G.u.size k.size).mono ?_;rintro e l ⟨N,o,a7,aa⟩;have R:=(C9 k).trans N;cases o with
   |fail n p=>
    obtain⟨rfl,he⟩:=aa;exact .inl ⟨n,p,K,G.u.andThen R,_,V3.u _<|ø a7,K,he⟩
   |ok c x=>
    obtain⟨rfl,ai,af⟩:=aa;refine .inr ⟨c,x,K,by rw[ä l z 0 _ _ _<|zO R S.u ζ];rfl,G.u.andThen R,N3.u.kept R,ai,af,V3.u _<|ú (k:=λr F x=>A8 (aE F<|Nd.mk 16 0 0 0 [] f 0 x A) λc y=>C<|.ok c (y,i++[f])) a7<|Ev.pure.eq λr=>K⟩
  have HY:Hid (∀l c x,aV B q m w l/\gG l m t (i++[f])/\aH l B a b L q d c/\L9 u c/\Ev L (λr=>part L r d s i .par) (.ok ⟨c.i,c.N++[(Nd.mk 16 0 0 0 [] f 0 x A)],c.T⟩ ((Q c.N:Int),i++[f]))->μ ε 141 #[pV a,.agg #[U 16,U 0,U 0,U 0,sN,ι ⟨ξ f⟩,U 0,U x,U A]] l λe a4=>
   e=π (U (Q c.N:Int))/\Hid (sB w B a b L q d s m t (λr=>part L r d s i .par) (π<|U (Q c.N:Int)) a4)):=by
   rintro l c x ⟨N,n4,p4,g4,e4⟩;have g5:_/\_/\_/\_:=g4;rw[aj]at g5;simp only[è]at g5;refine(U0 H p4 (Nd.mk 16 0 0 0 [] f 0 x A) none 0 0 ⟨_,K,kW _ _ _ _,Ä⟩ W (kQ hB N.size) λg hg=>a9 g<|kQ N.size hg).mono ?_;rintro e a4 ⟨rfl,k5,p5⟩;refine⟨K,N.andThen k5,_,e4,K,n4.kept k5,p5,?_⟩;simp only[F8,qQ,jQ,xQ];omega
  clear V3 a5 G N3 S;go_wp2_with fail;go_region_with (first|(go_at_call 213;refine(HX.u _<|Ψ _ _ 1).mono ?_;rintro e l (⟨n,p,rfl,Z⟩|⟨c,x,rfl,am,Z⟩);exact⟨K,Z.u⟩)|(go_at_call 141;refine(HY.u _ _ _<|Í Z).mono ?_;rintro e a4 ⟨rfl,H5⟩));all_goals go_wp2_with fail
  all_goals go_ret
  all_goals exact H5.u
end
section
variable{w:E}{B b:Nat}{c:υ}{L:List Tk}{a:Nat->Prop}{d:Nat}{s:St}
def aV.mono{a ok'}{i}{e f}(h:aV B a i e f)(j:∀g,a g->ok' g):aV B ok' i e f:=
 I.mono h λ_ _ x=>x.elim (λx=>.inl ⟨x.1,x.2.1,j _ x.2.2⟩) .inr
theorem aV.trans{a}{j}{m n o}(h:aV B a j m n)(k:aV B a j n o):aV B a j m o:=by
 refine⟨k.os.trans h.os,k.tape.trans h.tape,k.output.trans h.output,kQ h.size k.size,λi p q=>?_⟩;have t:=h.block i p q;refine(k.block i (yQ p h.size) λx=>q ?_).trans t;obtain⟨l,⟨f,e,g,u,r⟩,v⟩|⟨l,f,e,g,u,r⟩:=x
 .exact .inl ⟨l,⟨f,e,g,η,r⟩,v⟩
 .exact .inr ⟨l,f,e,g,η,r⟩
def aV.grown{a}{g}{f w h:E}{o n}{e}{v}{p}(k:aV B a g f w)(l:ρ w (V f.heap) e o v n p)(j:w.grownBy h (Θ v)):aV B a g f h:=
 Ã k (ü j) (λi q m=>by have:=(A9 l i m.symm).1;omega)
theorem aV.alloc{a}{g}{e f}(h:aV B a g e f)(o):aV B a g e (f.alloc o):=h.andThen<|(Kept.refl _ _ _).alloc o
def xp{p}{r}{d}{s g}{e}{x}(f:p=.obj\/p=.par)(h:part L r d s e p=C (.ok g x)):Q x.2=Q e+1:=by
 obtain rfl|rfl:=f;all_goals
  simp only[part,A8]at h;repeat' split at h
  all_goals first
   |(simp only[zQ,Out.ok.injEq]at h;obtain⟨_,rfl⟩:=h;simp)
   |simp at h
def jY{p}{d}{s j}{e}{x}(i:p=.obj\/p=.par)(h:Ev L (λr=>part L r d s e p)<|.ok j x):Q x.2=Q e+1:=by
 obtain⟨f,g⟩:=h;exact xp i<|g f<|vQ _
def FE(s e:St):Prop:=s.i<e.i/\Q e.N+s.i+1<=Q s.N+e.i/\Q e.T+s.i<=Q s.T+e.i/\Q s.N<=Q e.N
def LW(w:E)(B b:Nat)(c:υ)(L:List Tk)(a:Nat->Prop)(d:Nat)(s:St)(k:Nat)(m:Sp->Option (Out uZ))(e:ò)(g:E):Prop:=
 aV B a k w g/\∃o,Ev L m o/\match o with
  |.ok f l=>∃h i,e=π (Y h (Q l) i)/\ρ g (V w.heap) 3 1 (Y h (Q l) i) (Q l) (C8 l)/\Q l<=f.i/\aH g B b c L a d f/\FE s f
  |.fail j p=>e=gu j p/\j≠0
def QC{f}{h}{g}{e p}(k:aV B a f w g)(j:Ev L h<|.fail e p)(i:e≠0):LW w B b c L a d s f h (gu e p) g:=⟨k,_,j,K,i⟩
def zb{i}{j}{f}{e}{l}{g}{h}(n:aV B a i w f)(k:Ev L j<|.ok e l)(p:ρ f (V w.heap) 3 1 (Y g (Q l) h) (Q l)<|C8 l)(o:Q l<=e.i)(q:aH f B b c L a d e)(m:FE s e):
 LW w B b c L a d s i j (π<|Y g (Q l) h) f:=⟨n,_,k,_,_,K,p,o,q,m⟩
def TY(B b:Nat)(c:υ)(L:List Tk)(j:Nat)(p:oT)(m:Nat):Prop:=
 ∀(w) (a) (d) (s) (e h i) (f),w.heap[i]?=C (γ #[pV b] 113 (0,0))->gG w e h f->Q f<=1001->e<=V w.heap->Q L-s.i<=m->(∀g,V w.heap<=g->a g)->B<=V w.heap->aH w B b c L a d s->
  μ ε j #[pV i,pV h] w (sB w B b c L a d s e h λr=>part L r d s f p)
def lF(w:E)(e b:Nat):Prop:=w.heap[e]?=C (γ #[pV b] 113 (0,0))
def lF.j6{a}{i e}{w f}(h:lF w e b)(g:aV B a i w f):lF f e b:=QX g h ζ
theorem lF.P{e}{S}{w w'}(h:lF w e b)(f:I S w w')(g:¬S e):lF w' e b:=(f.block e (aG h) g).trans h
def lF.grown{w f:E}{e g m n}{v}{o}(h:lF w e b)(k:ρ w g 3 m v n o)(i:w.grownBy f (Θ v)):lF f e b:=by
 refine h.P (ü i) λl=>?_;obtain⟨_,p,j⟩:=A9 k e l.symm;rw[show w.heap[e]?=_ from h]at j;grind
def gG.grown{w j:E}{f i l q n}{g}{v}{r}(h:gG w f i g)(o:ρ w l 3 q v n r)(m:w.grownBy j (Θ v)):gG j f i g:=by
 refine h.P (ü m) λk t e x p=>?_;obtain⟨_,u,y⟩:=A9 o k p.symm;grind
theorem gG.alloc{w}{e g}{f}(h:gG w e g f)(o):gG (w.alloc o) e g f:=h.P (ν No _ o) λ_ _ _ _ x=>x.elim
theorem lF.alloc{w}{e}(h:lF w e b)(o):lF (w.alloc o) e b:=h.P (ν No _ o) λx=>x
def YE(kf:Nat)(cf:∀(am) (ύ:E),(callFunc kf am).run ε ύ=.ok (.enter kf am) ύ){q}(aq:q=.obj\/q=.par)(hL:cY L)(ar)(hC:∀m',m'<=ar->TY B b c L kf q m')(E)(N nb bx)(an:lF w bx b)(hn:gG w N nb [])(ao:N<=V w.heap)(hm:Q L-s.i<=ar)(ap:∀g,V w.heap<=g->a g)(hB:B<=V w.heap)(h:aH w B b c L a d s):
 μ ε 273 #[pV b,ι ⟨E.toArray⟩,.func (.func kf) #[] #[pV bx,pV nb]] w (LW w B b c L a d s N λr=>r.M q E d s [] []):=by
 have b5:=hL.jq;have hi:=h.at';have HP:=O h;have HX:=O an;have HN:=O hn;clear h an hn;go_in;go_wp2_with fail;go_loopw [7] (λaz wr=>∃(T:List bZ) (e:uZ) (i:St) (A:Option Addr) (D:Nat),az=Y A (Q e) D/\Q e<=i.i/\Hid (Q T=Q e)/\Hid (gG wr N nb T)/\Hid (lF wr bx b)/\Hid (aV B a N w wr)/\Hid (L9 s i)/\Hid (wr.ownsRow (V w.heap) 3 1 (Y A (Q e) D) (Q e)<|C8 e)/\
  Hid (aH wr B b c L (λg=>a g/\C g≠Θ (Y A (Q e) D)) d i)/\Hid (∀o,Ev L (λr=>r.M q E d i T e) o->Ev L (λr=>r.M q E d s [] []) o)) (λ_ wr=>Q L-qI wr b);case atStart=>exact⟨[],[],s,none,0,K,θ,K,HN.u,HX.u,(Kept.refl _ _ _).mj,⟨vQ _,W,W,W⟩,kW _ _ _ _,HP.u.mono λg k _=>⟨k,Ä⟩,λ_ h=>h⟩
 case round=>
  obtain⟨T,e,i,A,D,rfl,au,NL,NR,XR,KR,Z,OR,PR,u⟩:=hrel;have HT:=H7 hL PR.u E;have b2:=PR.u.at';have b4:=PR.u.j3;generalize hq:aL L i.i [E]=ax at*;have S:=O hq;clear hq;go_wp2_with fail;refine HT.mono ?_;clear HT;rintro ae aj ⟨rfl,f,n⟩;have z:=O<|KR.u.andThen<|f.mono λ_ h=>h.1;have N3:=O<|NR.u.kept f;have X3:=O<|XR.u.j6<|f.mj (lo:=0);have ac:=O n;have M:=O (G9 OR.u f ζ);clear f n OR PR KR NR XR;cases ax
  .have l:aH aj B b c L (λg=>a g/\C g≠Θ (Y A (Q e) D)) d i:=by simpa using ac.u
   clear ac;by_cases hz:Q e=0
   .have HC:Hid ((if Q e=0 then C (.ok i ()) else aC L i [44])=C (Out.ok i ())):=by show _=_;rw[yY hz]
    have ha:=List.eq_nil_of_length_eq_zero hz;subst ha;simp only[xQ]at M l au NL⊢;clear hz;have hj:=Z.u.1;have HM:=hC (Q L-i.i) W aj _ d i N nb bx T X3.u N3.u (by have h0:=NL.u;omega) (kQ ao z.u.size) (vQ _) (λg k=>⟨ap g<|kQ z.u.size k,λhx=>by have:=(M.u.lt g hx.symm).2;omega⟩) (kQ hB z.u.size) l;clear l;go_wp2_with fail;refine HM.mono ?_;clear HM;rintro ae ak ⟨f,o,a5,a7⟩;have t:=O<|z.u.trans<|f.mono λ_ h=>h.1;have X4:=O<|X3.u.j6 f;have j:=O (PM M.u f ζ);have F:=O a5;clear f a5 z M X3 N3;cases o with
    |fail er p=>
     obtain⟨rfl,he⟩:=a7;exact⟨K,QC t.u (u.u _<|EP S.u HC.u<|ø F.u) he⟩
    |ok P al=>
     obtain⟨rfl,a6,n,k⟩:=a7;have NX:=O<|jY aq F.u;obtain⟨y,aa⟩:=al;have H:=O a6;clear a6;simp only at H NX;have a2:=O n;have G:=O k;have av:=n.at';clear n k;have VN:=O λo (ho:Ev L (λr=>r.M q E d P aa<|[]++[y]) o)=>u.u o<|EP S.u HC.u<|ú (k:=λr s ab=>r.M q E d s ab.2<|[]++[ab.1]) F.u ho;clear u;obtain⟨i0,af,ag,ah,ai⟩:=ý Tryz.fy;have a9:=O<|j.u.alloc<|γ #[U y] 3;have aw:0+1<=P.i:=by
      have v:=G.u.1;first|(simp only[è]at v;omega)|omega
     go_wp2_with (at_builtin;refine wpList_append_own_at _ K _ _ 63 K (V w.heap) 3 i0 (U 0) 1 8 Ê af ag ah ai K ζ _ _ _ K a9.u (J (V ak.heap) 0) 1 1 [U y] K K ?c1 ?c2 ?c3 ?c4 ?c5 ?_);case c1=>grind[cell_one_new]
     case c2=>intro ay hu;simp at hu;obtain rfl:=hu;rfl
     case c3=>grind[Δ]
     case c4=>omega
     case c5=>have:=t.u.size;simp;omega
     .intro v' b0 x m _ a4;obtain⟨a3,c2,a8⟩:=B8 x;rw[a8]at x a4⊢;have PG:=O ((a2.u.alloc<|γ #[U y] 3).grown (v:=Y A 0 D) (v':=Y a3 (0+1) c2) (j.u.alloc _) (.inl K) m ù);have KG:=O<|(t.u.alloc<|γ #[U y] 3).grown (j.u.alloc _) m;have NG:=O<|(H.u.alloc<|γ #[U y] 3).grown (j.u.alloc _) m;have XG:=O<|(X4.u.alloc<|γ #[U y] 3).grown (j.u.alloc _) m;have OG:=O x;clear x m a4 a9 a2 j t a8 H X4;go_wp2_with fail;go_roundw;case rel=>
       have h1:=Z.u;have v:=G.u;simp only[F8,L9]at h1 v;refine⟨aa,[y],P,a3,c2,θ,W,(by have h3:=NX.u;simp_all),NG.u,XG.u,KG.u,⟨W,W,W,W⟩,?_,?_,VN.u⟩<;>grind[ρ,C8]
      case measure=>
       have v:=G.u;have h3:=PG.u.j3;grind[F8]
   .have b6:(0:Int)<(Q e:Int):=W;have HN:=I7 hL l [44];go_wp2_with fail;refine HN.mono ?_;clear HN;rintro ae b1 ⟨f,hr⟩;have R:=O<|z.u.andThen<|f.mono λ_ h=>h.1;have N6:=O<|N3.u.kept f;have X6:=O<|X3.u.j6<|f.mj (lo:=0);have O6:=O (G9 M.u f ζ);clear f z M l N3 X3;obtain⟨hb,rfl,l⟩|⟨hb,rfl⟩:=hr
    .have b3:=l.at';have HC:Hid ((if Q e=0 then C (.ok i ()) else aC L i [44])=C (Out.ok i.nx ())):=by show _=_;rw[wY hz,aC,hb];rfl
     clear hb;have hj:=Z.u.1;have HM:=hC (Q L-i.nx.i) (by grind[è]) b1 _ d i.nx N nb bx T X6.u N6.u (by have h0:=NL.u;omega) (kQ ao R.u.size) (vQ _) (λg k=>⟨ap g<|kQ R.u.size k,λhx=>by have:=(O6.u.lt g hx.symm).2;omega⟩) (kQ hB R.u.size) l;clear l;go_wp2_with fail;refine HM.mono ?_;clear HM;rintro ae ak ⟨f,o,a5,a7⟩;have t:=O<|R.u.trans<|f.mono λ_ h=>h.1;have X4:=O<|X6.u.j6 f;have j:=O (PM O6.u f ζ);have F:=O a5;clear f a5 R O6 X6 N6;cases o with
     |fail er p=>
      obtain⟨rfl,he⟩:=a7;exact⟨K,QC t.u (u.u _<|EP S.u HC.u<|ø F.u) he⟩
     |ok P al=>
      obtain⟨rfl,a6,n,k⟩:=a7;have NX:=O<|jY aq F.u;obtain⟨y,aa⟩:=al;have H:=O a6;clear a6;simp only at H NX;have a2:=O n;have G:=O k;have av:=n.at';clear n k;have VN:=O λo (ho:Ev L (λr=>r.M q E d P aa<|e++[y]) o)=>u.u o<|EP S.u HC.u<|ú (k:=λr s ab=>r.M q E d s ab.2<|e++[ab.1]) F.u ho;clear u;obtain⟨i0,af,ag,ah,ai⟩:=ý Tryz.fy;have a9:=O<|j.u.alloc<|γ #[U y] 3;have aw:Q e+1<=P.i:=by
       have v:=G.u.1;first|grind[è]|omega
      go_wp2_with (at_builtin;refine wpList_append_own_at _ K _ _ 63 K (V w.heap) 3 i0 (U 0) 1 8 Ê af ag ah ai K ζ _ _ _ K a9.u (J (V ak.heap) 0) 1 1 [U y] K K ?c1 ?c2 ?c3 ?c4 ?c5 ?_);case c1=>grind[cell_one_new]
      case c2=>intro ay hu;simp at hu;obtain rfl:=hu;rfl
      case c3=>grind[Δ]
      case c4=>omega
      case c5=>have:=t.u.size;simp;omega
      .intro v' b0 x m _ a4;obtain⟨a3,c2,a8⟩:=B8 x;rw[a8]at x a4⊢;have PG:=O ((a2.u.alloc<|γ #[U y] 3).grown (v:=Y A (Q e) D) (v':=Y a3 (Q e+1) c2) (j.u.alloc _) (.inl K) m ù);have KG:=O<|(t.u.alloc<|γ #[U y] 3).grown (j.u.alloc _) m;have NG:=O<|(H.u.alloc<|γ #[U y] 3).grown (j.u.alloc _) m;have XG:=O<|(X4.u.alloc<|γ #[U y] 3).grown (j.u.alloc _) m;have OG:=O x;clear x m a4 a9 a2 j t a8 H X4;go_wp2_with fail;go_roundw;case rel=>
        have h1:=Z.u;have v:=G.u;simp only[F8,L9,è]at h1 v;refine⟨aa,e++[y],P,a3,c2,θ,η,(by have h3:=NX.u;simp_all),NG.u,XG.u,KG.u,⟨W,W,W,W⟩,?_,?_,VN.u⟩<;>grind[ρ,T4]
       case measure=>
        have v:=G.u;have h3:=PG.u.j3;grind[F8,è]
    .exact⟨K,QC R.u (u.u _<|VF S.u<|by rw[wY hz,aC,hb];rfl) ζ⟩
  .have l:aH aj B b c L (λg=>a g/\C g≠Θ (Y A (Q e) D)) d i.nx:=by simpa using ac.u
   have PY:=O<|l.mono (ok':=a) λg k _=>k.1;have EV:=O<|u.u _<|VH S.u;have GX:=O (show FE s i.nx by
    have v:=Z.u;grind[FE,L9,è]);clear u ac l;go_wp2_with fail;go_ret;exact zb z.u EV.u M.u (by grind[è]) PY.u GX.u
end
section
variable{B a:Nat}{b:υ}{L:List Tk}
theorem heap_alloc_old(w:E)(o){k}(c:k<V w.heap):(w.alloc o).heap[k]?=w.heap[k]?:=ÿ _ _ _ c
def Oh(t:cY L)(m)(hE:∀n,n<=m->bG B a b L 215 (λd s r=>r.expr d s) n):IZ B a b L 289 DJ m:=by
 intro e w v d s F j k h;have ad:=h.fq;have c:=O<|((Kept.refl B v w).alloc<|γ #[pV a] 113).alloc<|γ #[sN] 23;have P:=O<|(h.alloc<|γ #[pV a] 113).alloc<|γ #[sN] 23;have x:Hid (lF (ω (ω w<|γ #[pV a] 113)<|γ #[sN] 23) (V w.heap) a):=lF.alloc (rY w _) _;have NM:Hid (gG (ω (ω w<|γ #[pV a] 113)<|γ #[sN] 23) (V w.heap) (V w.heap+1) []):=by
  refine⟨W,none,0,?_,kW _ _ _ _⟩;have:=rY (ω w<|γ #[pV a] 113)<|γ #[sN] 23;simpa using this
 have q:Hid (∀o,Ev L (λr=>A8 (r.M .obj [125] d s [] []) λs' l=>aE s'<|Nd.mk 10 0 0 0 l [] 0 (-1) e) o->Ev L (λr=>DJ e d s r) o):=λo u=>u;have R:=O (YE 296 (λ_ _=>Ω) (.inl K) t (Q L-s.i) (λn af w v d s lo nb bx a9 a4 hn D a6 F j k h=>Oa t n (λa8 ac=>hE a8 W) w v d s lo nb bx a9 a4 hn D a6 F j k h) [125] (V w.heap) (V w.heap+1) (V w.heap) x.u NM.u â (vQ _) (λg f=>j g<|kQ c.u.size f) (kQ k c.u.size) P.u);generalize a3:(λr=>DJ e d s r)=M at q;have S:Hid (DJ e d s=M):=a3;rw[S.u];go_in;go_wp2_with fail;refine R.u.mono ?_;rintro a2 aa ⟨A,o,a5,G⟩;have Z:=O<|c.u.l9 A;have X3:=O<|x.u.j6 A;have y:=O a5;have hz:=c.u.size;have c:=O Z.u;cases o with
 |fail er p=>
  obtain⟨rfl,he⟩:=G;exact⟨K,D3 c.u (q.u _<|ø y.u) he⟩
 |ok i l=>
  obtain⟨la,lc,rfl,u,D,hp,f⟩:=G;have ae:_/\_/\_/\_:=f;have P:=O hp;have z:=O u;have ab:δ aa (J (V w.heap) 0)=C (pV a):=cr X3.u K;have T:=O (Q6 t P.u (Nd.mk 10 0 0 0 l [] 0 (-1) e) 0 la (Q l) lc ⟨_,K,C7 z.u<|wQ _,λg f=>j g<|by have:=(A9 z.u g f).1;omega⟩ K W (kQ k c.u.size) λg f=>j g<|kQ c.u.size f);have H:=O<|q.u _<|ú y.u Ç;have N:=O (show F8 s ⟨i.i,i.N++[Nd.mk 10 0 0 0 l [] 0 (-1) e],i.T⟩ by
   grind[F8,qQ,jQ,xQ]);have a7:0<=(Q i.N:Int)/\Q i.N<(Q (i.N++[Nd.mk 10 0 0 0 l [] 0 (-1) e]):Int):=â;go_wp2_with fail;refine T.u.mono ?_;rintro a2 ag ⟨rfl,k9,p9⟩;have K9:=O<|c.u.trans k9;have P9:=O p9;go_wp2;go_ret;exact G0 K9.u H.u P9.u N.u a7
def Ww(F:cY L)(a2)(hK:∀m',m'<=a2->bG B a b L 217 (λd s r=>r.block d s) m'):IZ B a b L 288 (AH L) a2:=by
 intro u w N d s hm A D h;have ai:=h.fq;have c:=O<|(Kept.refl B N w).alloc<|γ #[pV a] 113;have P:=O<|h.alloc<|γ #[pV a] 113;have BX:Hid (lF (ω w<|γ #[pV a] 113) (V w.heap) a):=rY w _;have k:Hid (∀o,Ev L (λr=>A8 (aC L s [40]) λs1 _=>A8 (r.M .par [41] d s1 [] []) λR l=>A8 (bC L r d R) λz t=>A8 (r.block d z) λs4 x=>aE s4<|Nd.mk 6 x 0 0 l [] 0 t u) o->Ev L (λr=>AH L u d s r) o):=λo M=>M;have q:=O<|I7 F P.u [40];generalize a8:(λr=>AH L u d s r)=FF at k;have a4:Hid (AH L u d s=FF):=a8;rw[a4.u];go_in;go_wp2_with fail;refine q.u.mono ?_;rintro e H ⟨i,hr⟩;have m:=O<|c.u.trans i;have X1:=O<|BX.u.j6<|i.mj (lo:=0);have ap:V w.heap<V H.heap:=by have:=i.size;simp at this;omega
 have c:=O m.u;obtain⟨hb,rfl,j⟩|⟨hb,rfl⟩:=hr;case inr=>exact⟨K,D3 c.u (k.u _<|ø<|U3 hb) ζ⟩
 replace k:=O<|Ev.vb k.u<|Q8 hb;have ab:=j.at';simp only[è]at ab;have m:=O<|c.u.alloc<|γ #[sN] 23;have P:=O<|j.alloc<|γ #[sN] 23;have S:=O<|X1.u.alloc<|γ #[sN] 23;have a5:H.cell? (J (V w.heap) 0)=C (pV a):=cr X1.u K;have NM:Hid (gG (H.alloc<|γ #[sN] 23) (V w.heap) (V H.heap) []):=⟨W,none,0,rY _ _,kW _ _ _ _⟩;have c:=O m.u;have q:=O (YE 295 (λ_ _=>Ω) (.inr K) F (Q L-s.nx.i) (λm' ao w N d s lo nb bx ae a9 hn hl ac hm A D h=>zg F w N d s lo nb bx ae a9 hn hl ac A D h) [41] (V w.heap) (V H.heap) (V w.heap) S.u NM.u â (vQ _) (λg f=>A g<|kQ c.u.size f) (kQ D c.u.size) P.u);go_wp2_with fail;refine q.u.mono ?_;rintro e af ⟨i,o,v,y⟩;have m:=O<|c.u.l9 i;have T:=O<|S.u.j6 i;have n:=O v;have hz:=c.u.size;clear i v q c S a5;have c:=O m.u;clear m;cases o with
 |fail er p=>
  obtain⟨rfl,G⟩:=y;exact⟨K,D3 c.u (k.u _<|ø n.u) G⟩
 |ok s1 l=>
  obtain⟨la,lc,rfl,M,hl,j,f⟩:=y;have aa:_/\_/\_/\_:=f;simp only[è]at aa;have O1:=O M;have al:=j.at';have a6:δ af (J (V w.heap) 0)=C (pV a):=cr T.u K;replace k:=O<|Ev.vb k.u n.u;clear n;have q:=O<|SY F j (λg f=>A g<|kQ c.u.size f)<|kQ D c.u.size;clear j M f;go_wp2_with fail;refine q.u.mono ?_;rintro e a3 ⟨i,o,v,y⟩;have m:=O<|c.u.trans i;have Z:=O<|T.u.j6<|i.mj (lo:=0);have O4:=O (G9 O1.u i ζ);have n:=O v;clear i v q c T O1 a6;have c:=O m.u;clear m;cases o with
  |fail er p=>
   obtain⟨rfl,G⟩:=y;exact⟨K,D3 c.u (k.u _<|ø n.u) G⟩
  |ok R t=>
   obtain⟨rfl,j,f⟩:=y;have aj:_/\_/\_/\_:=f;have am:=j.at';have a7:δ a3 (J (V w.heap) 0)=C (pV a):=cr Z.u K;replace k:=O<|Ev.vb k.u n.u;clear n;have q:=O (hK (Q L-R.i) W a3 N d R (vQ _) (λg f=>A g<|kQ c.u.size f) (kQ D c.u.size) j);clear j f;go_wp2_with fail;refine q.u.mono ?_;rintro e ag ⟨i,o,v,y⟩;have m:=O<|c.u.trans i;have X5:=O<|Z.u.j6<|i.mj (lo:=0);have O5:=O (G9 O4.u i ζ);have n:=O v;clear i v q c Z O4 a7;have c:=O m.u;clear m;cases o with
   |fail er p=>
    obtain⟨rfl,G⟩:=y;exact⟨K,D3 c.u (k.u _<|ø n.u) G⟩
   |ok z x=>
    obtain⟨rfl,j,f,hx⟩:=y;have ak:_/\_/\_/\_:=f;have an:=j.at';have ah:δ ag (J (V w.heap) 0)=C (pV a):=cr X5.u K;have HX:=O (U0 F j (Nd.mk 6 x 0 0 l [] 0 t u) la (Q l) lc ⟨_,K,C7 O5.u<|wQ _,λg f=>A g<|by have:=(A9 O5.u g f).1;omega⟩ W (kQ D c.u.size) λg f=>A g<|kQ c.u.size f);have EV:=O<|k.u _<|ú (k:=λr s4 x=>aE s4<|Nd.mk 6 x 0 0 l [] 0 t u) n.u Ç;have GX:=O (show F8 s ⟨z.i,z.N++[Nd.mk 6 x 0 0 l [] 0 t u],z.T⟩ by
     grind[F8,qQ,jQ,xQ]);have ad:(0:Int)<=(Q z.N:Int)/\(Q z.N:Int)<(Q (z.N++[Nd.mk 6 x 0 0 l [] 0 t u]):Int):=â;clear j f k;go_wp2_with fail;refine HX.u.mono ?_;rintro e aq ⟨rfl,k9,p9⟩;have K9:=O<|c.u.trans k9;have P9:=O p9;clear k9 p9 HX;go_wp2_with fail;go_ret;exact G0 K9.u EV.u P9.u GX.u ad
def TX(B a:Nat)(b:υ)(L:List Tk)(m:Nat):Prop:=
 bG B a b L 268 (λd s r=>r.oper d s) m/\bG B a b L 215 (λd s r=>r.expr d s) m/\
 bG B a b L 217 (λd s r=>r.block d s) m/\bG B a b L 94 (λd s r=>r.gy d s) m
def ą(f:cY L)(t:IV L):∀m,TX B a b L m:=by
 intro m;induction m using Nat.strongRecOn with
 |ind m i=>
  have k:=λc h=>(i c h).2.1;have w:=ľ f t m k (λc h=>Ww f c λg j=>(i g W).2.2.1) (λc h=>Oh f c λg j=>k g W);have n:=Ox f m (λc h=>(i c h).1) w (λc h=>Zj f c λg j=>k g W);have u:∀c,c<=m->bG B a b L 268 (λd s r=>r.oper d s) c:=λc h=>if e:c=m then e ▸ n else (i c W).1;have v:∀c,c<=m->_:=λc h=>Pm f c (λg j=>u g W);have y:∀c,c<=m->_:=λc h=>B1e f c (λg j=>v g W);have l:=Ħ f m<|Ě f m λc h=>y c h;have q:∀c,c<=m->bG B a b L 215 (λd s r=>r.expr d s) c:=λc h=>if e:c=m then e ▸ l else k c W;have p:=C8d f m λc h=>(i c h).2.2.2;have o:=Qh f (λd s z x h=>Uw d s z x h) m q λc h=>(i c h).2.2.1;exact⟨n,l,p,Ă f m o⟩
end
def pM(w:E)(a:Nat)(v:υ)(N:List Nd):Prop:=∃b,ρ w a 93 9 v (Q N) b/\eN (gE w λg=>a<=g) N b
def LX(l:bZ)(w:E)(e:ò)(a:E):Prop:=
 Below (V w.heap) w a/\((∃b p,dZ l (.inl (b,p))/\e=π (.tuple #[.agg #[sN,sN,U 0],.agg #[U b,U p]]))\/
  ∃N T c d f g,dZ l (.inr (N,T))/\e=π (.tuple #[.agg #[Y c (Q N) d,Y f (Q T) g,U<|Q N-1],.agg #[U 0,U 0]])/\pM a (V w.heap) (Y c (Q N) d) N/\pL a (V w.heap) (Y f (Q T) g) T)
def iD(a:Nat)(w b:E):Prop:=I (λk=>k=a\/k=a+1) w b
def PL{w c d:E}{l}{a p}(b:Below (V w.heap) w c)(e:iD (V w.heap) c d)(f:dZ l<|.inl (a,p)):
 LX l w (π<|.tuple #[.agg #[sN,sN,U 0],.agg #[U a,U p]]) d:=
 ⟨b.trans<|I.ep e (λi g x=>W) b.size,.inl ⟨a,p,f,K⟩⟩
def zu{w a y:E}{l}{k o}{m p}{N}{T}{n q}{z A}(s:Below (V w.heap) w a)(c:iD (V w.heap) a y)
 (L:a.heap[V w.heap]?=C (γ z 61 (0,0))) (M:a.heap[V w.heap+1]?=C (γ A 29 (0,0)))
 (t:ρ a (V w.heap) 93 9 (Y k (Q N) m) (Q N) n) (D:eN (gE a λg=>V w.heap<=g) N n)
 (u:ρ a (V w.heap) 88 4 (Y o (Q T) p) (Q T) q) (B:eN (eI a λg=>V w.heap<=g) T q) (F:dZ l<|.inr (N,T)):
 LX l w (π<|.tuple #[.agg #[Y k (Q N) m,Y o (Q T) p,U<|Q N-1],.agg #[U 0,U 0]]) y:=by
 have G:∀g,(g=V w.heap\/g=V w.heap+1)->∀b e r,a.heap[g]?=C (γ b e r)->e=61\/e=29:=by
  rintro g (rfl|rfl) b e r f
  .grind
  .grind
 have v:∀g,V w.heap<=g->g<V a.heap->(g=V w.heap\/g=V w.heap+1)->(∃b e,a.heap[g]?=C (γ b e (0,0))/\(e=156\/e=3))->False:=by
  rintro g _ _ j ⟨b,e,f,d⟩;obtain rfl|rfl:=G g j _ _ _ f<;>obtain d|d:=d<;>exact absurd d ζ
 refine⟨s.trans<|I.ep c (λi H x=>W) s.size,.inr ⟨N,T,k,m,o,p,F,K,⟨n,A3 t c λg h j=>?_,D.imp<|gE.P c v λ_ x _=>x⟩,⟨q,A3 u c λg h j=>?_,B.imp<|eI.P c v λ_ x _=>x⟩⟩⟩
 .obtain⟨_,b,f⟩:=A9 t g h;grind
 .obtain⟨_,b,f⟩:=A9 u g h;grind
def iD.put{c}{a b}{q o}{v}(h:iD c a b)(d:q=c\/q=c+1):iD c a (σ b (J q o) v):=
 Ã h (I.set b (J q o) v) (λi _ x=>η)
theorem iD.drew{c}{a b}(h:iD c a b):iD c a b.drew:=Ã h (Ψ No b 1) å
theorem iD.alloc{c}{a b}{o}(h:iD c a b):iD c a (b.alloc o):=Ã h (ν No b o) å
def JN{b}{a}{c d e f g}{o}:iD b a (((σ (σ (σ (σ (σ a (J b 0) c) (J b 1) d) (J b 2) e) (J (b+1) 0) f) (J (b+1) 1) g).alloc o).drew):=
 ((((((iD.put (I.refl _ _)<|.inl K).put<|.inl K).put<|.inl K).put<|.inr K).put<|.inr K).alloc).drew
def VJ{B}{f}{w b}{q:Nat}{a}{e}(d:Kept B f w b)(h:w.heap[q]?=C (γ a e (0,0)))(c:e≠115/\e≠93/\e≠88):b.heap[q]?=C (γ a e (0,0)):=zO d h c
def Eg(s)(w:E)(af:s.size<=Δ):μ ε 24 #[ι s] w (LX s.data.toList w):=by
 have HS:=λa=>ė s a af;go_in;go_wp2_with fail;refine(HS _).mono ?_;rintro aa a ⟨ad,a9,rfl,ho,d⟩;have P:V w.heap+1<V a.heap:=by have:=d.size;simp at this;omega
 have R:V w.heap<V a.heap:=W;have f:Hid (a.heap[V w.heap]?=C (γ #[sN,sN,U 0] 61 (0,0))):=by
  rw[d.block (V w.heap) â,ÿ _ _ _ θ];exact rY w _
 have i:Hid (a.heap[V w.heap+1]?=C (γ #[U 0,U 0] 29 (0,0))):=by
  show _=_;rw[d.block (V w.heap+1) θ];have:=rY (ω w<|γ #[sN,sN,U 0] 61)<|γ #[U 0,U 0] 29;simpa using this
 have D:=O ((((Below.refl (V w.heap) w).alloc (vQ _)<|γ #[sN,sN,U 0] 61).alloc θ<|γ #[U 0,U 0] 29).trans<|d.mono â);have F:=O<|C7 ho (â:V w.heap<=_);by_cases j:(O8 s.data.toList).2.1=0
 .have ab:((O8 s.data.toList).2.1!=0)=false:=by simp[j]
  obtain⟨a3,ac,L⟩:=Qz _ j;have ag:V w.heap<=V a.heap:=W;have Z:=D4b (w:=(a.alloc<|γ #[U 0,U ((O8 s.data.toList).2.2:Int)] 29).alloc<|γ #[Y ad (Q (O8 s.data.toList).1) a9,U 0,U 0,sN,sN] 115)
   (pb:=V a.heap+1) (ok:=λg=>V w.heap<=g) ⟨a3,L⟩ (λah=>(ą ⟨a3,L⟩ (VD _) ah).2.2.2) (λg H=>by simp at H;omega) â (C9e θ â (λg H=>by simp at H;omega) ac<|F.u.alloc _);have G:=O j;clear F L;go_wp2_with fail;refine Z.mono ?_;clear Z;rintro aa c ⟨n,o,a2,k⟩;have l:Hid (c.heap[V w.heap]?=C (γ #[sN,sN,U 0] 61 (0,0))):=
   VJ n (by rw[ÿ _ _ _ â,ÿ _ _ _ R];exact f.u) ζ;have y:Hid (c.heap[V w.heap+1]?=C (γ #[U 0,U 0] 29 (0,0))):=
   VJ n (by rw[ÿ _ _ _ ù,ÿ _ _ _ P];exact i.u) ζ;have S:V w.heap+1<V c.heap:=by have:=n.size;simp at this;omega
  have T:V w.heap<V c.heap:=W;have B:=O (((D.u.alloc ag _).alloc â _).trans<|n.below â);have e:=O a2;have u:δ c (J (V w.heap) 0)=C (sN):=cr l.u K;have v:δ c (J (V w.heap) 1)=C (sN):=cr l.u K;have x:δ c (J (V w.heap) 2)=C (U 0):=cr l.u K;have qf:=λo=>æ c _ o _ _ l.u;have r:δ c (J (V w.heap+1) 0)=C (U 0):=cr y.u K;have t:δ c (J (V w.heap+1) 1)=C (U 0):=cr y.u K;have pf:=λo=>æ c _ o _ _ y.u;clear n a2 P R D f i;cases o with
  |fail m p=>
   obtain⟨rfl,a4⟩:=k;have ae:(m !=0)=true:=by simp[a4]
   have h:=O (show dZ s.data.toList (.inl (m,p)) from ⟨a4,.inr ⟨G.u,.inl e.u⟩⟩);clear e;go_wp2_with fail;go_region;all_goals go_wp2_with fail
   exact ç (v:=.tuple #[.agg #[sN,sN,U 0],.agg #[U m,U p]]) (by simp[ã,results24,go_sem,u,v,x,r,t,S,T]) K<|PL B.u JN h.u
  |ok b a7=>
   by_cases z:(tk (O8 s.data.toList).1 b.i).x=6
   .simp only[z,if_true]at k;by_cases q:1200<Q b.N\/300<Q b.T
    .rw[yY q]at k;subst k;have h:=O (show dZ s.data.toList (.inl (2,0)) from ⟨ζ,.inr ⟨G.u,.inr ⟨b,a7,e.u,q,K,K⟩⟩⟩);clear q z;have ae:((2:Int)!=0)=true:=ζ;clear e;go_wp2_with fail;go_region;all_goals go_wp2_with fail
     exact ç (v:=.tuple #[.agg #[sN,sN,U 0],.agg #[U 2,U 0]]) (by simp[ã,results24,go_sem,u,v,x,r,t,S,T]) K<|PL B.u JN h.u
    .rw[wY q]at k;obtain⟨rfl,hp⟩:=k;have h:=O (show dZ s.data.toList (.inr (b.N,b.T)) from ⟨G.u,b,a7,e.u,W,W,K,K⟩);obtain⟨nv,yv,nx,yx,d,M,N,a5,a6⟩:=hp.blk;obtain⟨na,nc,rfl⟩:=B8 M;obtain⟨ya,yc,rfl⟩:=B8 N;have c3:δ c (J (V a.heap+1) 3)=C (Y na (Q b.N) nc):=cr d K;have c4:δ c (J (V a.heap+1) 4)=C (Y ya (Q b.T) yc):=cr d K;have ai:=(aG d);have aj:Q b.N<=1200:=W;have OO:=O N;have RR:=O a6;have ON:=O M;have RN:=O a5;clear hp d M N a5 a6 q z e;generalize A:Q b.N=nn at*;have a8:=O A;clear A;go_wp2_with fail;go_region;go_wp2_with fail;have A:=a8.u;subst A;exact ç (v:=.tuple #[.agg #[Y na (Q b.N) nc,Y ya (Q b.T) yc,U<|(Q b.N:Int)-1],.agg #[U 0,U 0]]) (by simp[ã,results24,go_sem,u,v,x,r,t,S,T]) K<|zu B.u JN l.u y.u ON.u RN.u OO.u RR.u h.u
   .exact absurd (D0e e.u) z
 .have ab:((O8 s.data.toList).2.1!=0)=true:=by simp[j]
  have h:=O (show dZ s.data.toList (.inl ((O8 s.data.toList).2.1,((O8 s.data.toList).2.2:Int))) from ⟨j,.inl ⟨K,K⟩⟩);have u:δ a (J (V w.heap) 0)=C (sN):=cr f.u K;have v:δ a (J (V w.heap) 1)=C (sN):=cr f.u K;have x:δ a (J (V w.heap) 2)=C (U 0):=cr f.u K;have qf:=λo=>æ a _ o _ _ f.u;have r:δ a (J (V w.heap+1) 0)=C (U 0):=cr i.u K;have t:δ a (J (V w.heap+1) 1)=C (U 0):=cr i.u K;have pf:=λo=>æ a _ o _ _ i.u;clear F f i j;generalize (O8 s.data.toList).2.1=m at*;generalize ((O8 s.data.toList).2.2:Int)=p at*;go_wp2_with fail;go_region;all_goals go_wp2_with fail
  exact ç (v:=.tuple #[.agg #[sN,sN,U 0],.agg #[U m,U p]]) (by simp[ã,results24,go_sem,u,v,x,r,t,P,R]) K<|PL D.u JN h.u
