/-
  A part of the proof.
-/
import Derived.Test.YtjhlphgdgpebfaaGreatDoorWriteA
import Derived.Test.YtjhlphgdgpebfaaGreatDoorCheckA
import Derived.Test.YtjhlphgdgpebfaaGreatDoorBindC
set_option maxHeartbeats 0
set_option linter.all false
set_option maxRecDepth 100000
namespace Go.Proofs.YtjhlphgdgpebfaaGreatDoor
open _root_.Array renaming size->V
open Bool renaming false->κ
open Go renaming Addr->è,Calls->μ,info_parts->ò,maxLen->Γ,wpList_append_own->Ê,Value->χ,cell_of_row->á,frozen_of_row->ã
open Ending renaming returned->π
open Obj renaming cells->γ
open Go.Proofs.Tryz renaming prog->η,underlying63->ü,underlying3->Ó
open Value renaming slice->Y,string->ζ,ownBlock->Δ
open World renaming ownsRow->ξ,cell?->δ,alloc->σ,setCell->ρ
open List renaming length->Q,toArray->ν,length_singleton->Ë
open Option renaming some->C
open Go.Proofs.Tryz
open Go.RowKit Go.Maps
def cI(T:List Ty)(x:Int):Tr:=tr T x.toNat
theorem Cw:∀l a,J8 (l++a)=J8 l++J8 a
 |[],_=>Θ
 |t::r,a=>by rw[jZ,J8,J8,Cw r a,qZ]
theorem A6d(t):J8 [t]=flat t:=by simp[J8]
def vl(T)(a:uZ){j}(b):J8 ((a.take<|j+1).map<|cI T)=J8 ((a.take j).map<|cI T)++flat (cI T a[j]):=by
 grind[nQ,zY,Cw,A6d]
def Wd{T}{z}(a:aX T)(c)(b:T[z].x=10):flat (tr T z)=J8 (T[z].M.map<|cI T):=by
 rw[X7 a c,flat,yY b,wY W,IX a c<|.inr b];rfl
def vj{T}{z}(a:aX T)(c)(b:T[z].x≠10):flat (tr T z)=[tr T z]:=by
 simp_all[X7,flat,wY]
def Af:∀l,Q l*5<=dW l
 |[]=>ι
 |t::r=>by have:=Af r;grind[jQ,dW]
theorem E4d(T)(a:uZ)(j):dW ((a.take j).map<|cI T)<=dW (a.map<|cI T):=by
 grind[cI,zY,List.take_append_drop,Aa]
def PC{T}{ls a:uZ}{j}(h:a.map (cI T)=J8 ((ls.take j).map<|cI T)):Q a*5<=dW (ls.map<|cI T):=by
 have b:=Af<|J8<|(ls.take j).map<|cI T;have c:=GQ ((ls.take j).map<|cI T) λx _=>Am x;grind[E4d]
def A0e{T}{z}(a:aX T)(b)(c:T[z].x=10):dW (T[z].M.map<|cI T)<=wg (tr T z):=by
 have e:(T[z].M.map λx=>tr T x.toNat)=T[z].M.map (cI T):=K;rw[X7 a b,wg,wY W,IX a b<|.inr c,e];simp
def SH{l}(a:l≠[])(h:∀t∈l,flat t≠[]):J8 l≠[]:=by
 cases l with
 |nil=>grind
 |cons t r=>
  rw[J8];simp_all
def XQ(t)(h:Wf t):flat t≠[]:=by
 induction h with
 |plain k i e=>grind[flat]
 |obj j g a b c d _=>simp_all[flat,wY]
 |arr t a _=>simp_all[flat,wY]
 |fn t l a b _ _=>simp_all[flat,wY]
 |uni g e h f=>
  rw[flat,yY K];exact SH θ f
def ApP(T:List Ty)(f:uZ)(w:E)(e:Ending)(d:E):Prop:=∃(b:Option è) (c:Nat) (a:uZ),e=π (Y b (Q a) c)/\I No w d/\ξ d (V w.heap) 3 1 (Y b (Q a) c) (Q a) (C8 a)/\(∀x∈a,0<=x/\x<Q T)/\a.map (cI T)=J8 (f.map<|cI T)
section
variable{a b N:Nat}{T:List Ty}{D:Dt}
def UB(a b N:Nat)(T:List Ty)(D:Dt)(m:Nat):Prop:=∀(c) (w) (d) (e),(∀x∈c,0<=x/\x<(m:Int)/\x<Q T)->dY w a b N T D->ξ w 0 3 1 (Y d (Q c) e) (Q c) (C8 c)->Q c<=100000000->dW (c.map<|cI T)<=1000000000->
 μ η 191 #[pV a,Y d (Q c) e] w (ApP T c w)
theorem Zo(hf:tG T){an}(IH:∀z,z<an->UB a b N T D z):UB a b N T D an:=by
 intro f w la lc ay ag b0 hn bh;have p:=ag.ok;obtain⟨i0,hi,ak,al,am⟩:=ò Tryz.fy;have ab:Hid (∀m,I No w m->dY m a b N T D):=λm ha=>ag.y ha;have FO:Hid (∀m,I No w m->ξ m 0 3 1 (Y la (Q f) lc) (Q f) (C8 f)):=λm ha=>A3 b0 ha λ_ _ x=>x;go_in;go_wp2;go_loopw [11,5] (λa9 u wr=>∃(j:Nat) (c:uZ) (G:Option è) (F:Nat),j<=Q f/\a9=U j/\u=Y G (Q c) F/\Hid (I No w wr)/\Hid (wr.ownsRow (V w.heap) 3 1 (Y G (Q c) F) (Q c)<|C8 c)/\Hid (∀x∈c,0<=x/\x<Q T)/\Hid (c.map (cI T)=J8 ((f.take j).map<|cI T))) (λa9 _ _=>Q f-(intOf a9).toNat);case atStart=>exact⟨0,[],none,0,wQ _,K,K,I.refl _ _,kW _ _ _ _,(show∀x∈([]:uZ),_ from ι),(show _=_ from Θ)⟩
 case round=>
  obtain⟨j,c,G,F,hj,rfl,rfl,CR,y,IR,t⟩:=hrel;by_cases L:j<Q f
  .have bj:=ay f[j]<|mQ L;have a3:=O<|vl T f L;have be:=PC t.u;have az:=QL (kZ.2 ⟨f[j],mQ L,K⟩:cI T f[j]∈f.map (cI T));obtain⟨b8,ax,hg,ba,av,y0⟩:=D6 (FO.u wr CR.u) L;subst ax;unfold Γ at av;generalize f[j]=xx at*;obtain⟨z,rfl⟩:∃z:Nat,xx=z:=⟨xx.toNat,W⟩;have n:z<Q T:=W;have b2:cI T z=tr T z:=by simp[cI]
   rw[b2]at az a3;obtain⟨b5,c3,b6,-,bd,-,ar⟩:=(ab.u wr CR.u).cell;obtain⟨g3,fa,fc,M,P,rfl,r,b9,aq,x0,x1,x2,x3,-,a8⟩:=ar z n;unfold Γ at aq;have au:=hf z n;have ah:=(p z n).lg;have HU:=O λd=>Wd p n d;have Z:=O λd=>vj p n d;have a6:=λd=>A0e p n d;have ai:T[z].x=10->T[z].M≠[]:=by
    intro d;obtain s|s|s|s|s:=p z n
    .omega
    .omega
    .omega
    .omega
    .grind
   have a5:=λx (e:x∈T[z].M)=>BR p x.toNat θ;generalize T[z].x=k at*;generalize T[z].eo=fs at*;generalize T[z].M=o at*;generalize T[z].fh=a7 at*;have A:I No w (wr.alloc<|γ #[U k,Y fa (Q fs) fc,Y M (Q o) P,U a7] 88):=CR.u.trans (I.alloc _ _ _) λ_ _ x=>x;have SZ:=CR.u.size;by_cases d:k=10
   .subst d;have HA:=O (IH z W o _ M P (λx e=>θ) (ab.u _ A) (a8.alloc _) au.1 W);have v:=O<|y.u.alloc<|γ #[U 10,Y fa (Q fs) fc,Y M (Q o) P,U a7] 88;have ao:Hid (J8 (o.map<|cI T)≠[]):=SH ð (λbm s=>by
     obtain⟨x,e,rfl⟩:=kZ.1 s;exact XQ _<|a5 x e);have bi:=a6 K;have S:=O<|HU.u K;have B:=O A;clear A y CR a8 a6 ai a5 ah HU Z;go_wp2_with fail;refine HA.u.mono ?_;rintro b7 b3 ⟨b4,c2,g,rfl,h2,h3,h4,H⟩;have bc:=PC (ls:=o) (j:=Q o) (by rw[vZ];exact H);have b1:0<Q g:=by
     obtain h0|h0:=Nat.eq_zero_or_pos (Q g)
     .have:=congrArg Q H;rw[lZ,h0]at this;exact absurd (List.length_eq_zero_iff.1 this.symm) ao.u
     .omega
    obtain⟨q,rfl,bf,bg,-,-,aj⟩:=D5 h3 b1;have af:=O<|A3 v.u h2 λ_ _ x=>x;have HN:Hid (∀i u,(C8 g)[i]?=C u->δ b3 (((J q 0):è).add i)=C u):=by
     intro i u h;have ap:((J q 0):è).add i=(J q i):=by unfold Addr.add;split<;>simp_all
     rw[ap];exact aj i u h
    have H1:Hid (∀u∈C8 g,u.oneCell'=true):=by
     intro u h;unfold C8 at h;obtain⟨x,-,rfl⟩:=kZ.1 h;rfl
    have HL:Hid (Q (C8 g)=Q g*1):=(show _=_ from by simp[C8]);have ae:=O<|B.u.trans h2 λ_ _ x=>x;have H4:=O h4;have H5:=O H;clear HA v h2 h3 h4 H aj B;go_wp2_with (at_builtin;refine Ê _ K _ _ 63 K (V w.heap) 3 i0 (U 0) 1 8 ü hi ak al am K ε _ _ _ K af.u (J q 0) (Q g) c2 (C8 g) K HL.u HN.u H1.u ?c3 ?c4 ?c5 ?_);case c3=>simp only[Γ];omega
    case c4=>omega
    case c5=>have:=ae.u.size;omega
    intro v' aa l r _;have e3:Q c+Q g=Q (c++g):=ι;rw[e3,show C8 c++C8 g=C8 (c++g) from by simp[C8]]at l;obtain⟨a4,c4,rfl⟩:=B8 l;have a2:=O l;have R:Hid (I No w aa):=(((I.mono ae.u (S':=λk=>V w.heap<=k) λ_ _ x=>x.elim).trans (I.grown r) λk d x=>(A9 af.u k x.symm).1)).mono (λk d x=>W);clear l r;go_wp2;go_roundw;case rel=>
     refine⟨j+1,c++g,a4,c4,W,ç,K,R.u,a2.u,λx e=>?_,?_⟩
     .obtain e|e:=qW.1 e
      .exact IR.u x e
      .exact H4.u x e
     .show _=_;rw[a3.u,zY,t.u,H5.u,S.u]
    grind[intOf]
   .have bb:(k==10)=κ:=by simp[d]
    have S:=O<|Z.u d;have v:=O<|(y.u.alloc<|γ #[U k,Y fa (Q fs) fc,Y M (Q o) P,U a7] 88).alloc<|γ #[U (z:Int)] 3;have B:=O<|A.trans (I.alloc No _<|γ #[U (z:Int)] 3) λ_ _ x=>x;clear A y CR a8 a6 ai a5 ah HU Z;go_wp2_with (at_builtin;refine Ê _ K _ _ 63 K (V w.heap) 3 i0 (U 0) 1 8 ü hi ak al am K ε _ _ _ K v.u (J (wr.heap.size+1) 0) 1 1 [U (z:Int)] K K ?c1 ?c2 ?c3 ?c4 ?c5 ?_);case c1=>
     intro i u h;match i,h with
     |0,h=>simp_all[Addr.add]
    case c2=>intro u h;simp at h;subst h;rfl
    case c3=>simp only[Γ];omega
    case c4=>omega
    case c5=>simp;omega
    intro v' aa l r _;have e3:Q c+1=Q (c++[(z:Int)]):=ι;rw[e3,show C8 c++[U (z:Int)]=C8 (c++[(z:Int)]) from by simp[C8]]at l;obtain⟨a4,c4,rfl⟩:=B8 l;have a2:=O l;have R:Hid (I No w aa):=(((I.mono B.u (S':=λk=>V w.heap<=k) λ_ _ x=>x.elim).trans (I.grown r) λk d x=>(A9 v.u k x.symm).1)).mono (λk d x=>W);clear l r;go_wp2;go_roundw;case rel=>
     refine⟨j+1,c++[(z:Int)],a4,c4,W,ç,K,R.u,a2.u,λx e=>?_,?_⟩
     .obtain e|e:=qW.1 e
      .exact IR.u x e
      grind
     .show _=_;rw[a3.u,zY,t.u,S.u];rfl
    grind[intOf]
  .have aw:j=Q f:=W;subst aw;rw[vZ]at t;go_wp2_with fail;go_ret;exact⟨G,F,c,K,CR.u,y.u,IR.u,t.u⟩
def Cc(c:tG T)(m):UB a b N T D m:=by
 induction m using Nat.strongRecOn<;>grind[Nat.strongRecOn,Zo]
end
theorem XH:∀(l a) (t),dd a (l++[t])=if (dd a l).any (λu=>key u==key t) then dd a l else dd a l++[t]
 |[],a,t=>Θ
 |u::r,a,t=>by
  rw[jZ,dd,dd];split<;>exact XH r _ t
def Qb(l)(k):(dd [] l).any (λu=>key u==k)=decide ((l.map key).count k≠0):=by
 rw[Bool.eq_iff_iff,List.any_eq_true,decide_eq_true_iff];constructor
 .rintro⟨u,a,e⟩;have:u∈l:=by
   obtain h|h:=GA _ _ u a
   .grind
   .omega
  grind[key,kZ,List.count_pos_iff]
 .intro h;have b:k∈l.map key:=List.count_pos_iff.1 W;obtain⟨x,c,e⟩:=kZ.1 b;obtain⟨u,a,d⟩:=FY l [] x c;grind
def ZM:Keyed η 9:=string_keyed underlying9
def Df(l:bZ)(h:Q l<=1000000000):keyOf η 9 (ζ ⟨ν l⟩)=C (.string l):=by
 have a:(⟨ν l⟩:ByteArray).size<=Γ:=by simp[ByteArray.size];unfold Γ;omega
 unfold keyOf;simp_all[mapKey]
structure Seen(w:E)(q:Nat)(m:Nat)(ks:List bZ):Prop where
 own:∃n D,w.ownsMap η 9 (plainElem (H:=Unit) η 3) q n D/\n<=m/\IsMap D/\∀s:bZ,D.atKey (.string s) (.lit<|.int .i64 0)=.lit (.int .i64 ((ks.count s:Nat):Int))
def Seen.new(w:E):Seen (σ w<|.map #[] 0) (V w.heap) 0 []:=⟨0,.map [],World.ownsMap_made w _ _ _,vQ _,isMap_empty,λ_=>K⟩
theorem Seen.P{S}{w w'}{q m}{a}(h:Seen w q m a)(f:I S w w')(g:¬S q):Seen w' q m a:=by
 obtain⟨n,D,⟨c,b,d,e⟩,r⟩:=h.own;exact⟨n,D,⟨c,b,by rw[f.block q (aG d) g];omega,e⟩,r⟩
def Seen.look{w}{q m}{b}(h:Seen w q m b)(s)(g:Q s<=1000000000):
 (Instr.lookup 210 (.map<|C q) (ζ ⟨ν s⟩) κ).run η w=.ok (.int .i64<|(b.count s:Nat)) w:=by
 obtain⟨n,D,e,j,i,d⟩:=h.own;obtain⟨c,f,a,_⟩:=e.lookup_int ZM underlying210 Ó (Tryz.lj _)<|Df s g;rw[d s]at a;simp at a;rw[a];exact f
def Seen.put{w}{q m}{a}(h:Seen w q m a)(s)(i:Q s<=1000000000)(t:m<=1000000000)(r:Q a<=200000000):
 ∃b,(Instr.mapUpdate 210 (.map<|C q) (ζ ⟨ν s⟩)<|.int .i64<|((a.count s:Nat))+1).run η w=.ok () b/\Seen b q (m+1) (a++[s])/\I (λk=>k=q) w b:=by
 obtain⟨n,D,e,v,c,o⟩:=h.own;have p:a.count s<=Q a:=List.count_le_length;have l:(Lit.int .i64<|((a.count s:Nat):Int)+1).wf=true:=by
  have:=U7 (a.count s+1) W;simpa using this
 obtain⟨b,g,f,d⟩:=e.update ZM underlying210 Ä (Df s i)<|plainElem_int Ó l;refine⟨b,g,⟨n+1,_,f,W,c.put _ _,λu=>?_⟩,(I.grown d).mono λk _ x=>θ⟩;by_cases j:u=s
 .subst j;rw[atKey_put_same c<|show WideAt.IsKeyLit (.string u) from trivial];simp
 grind[atKey_put_other,List.count,List.count_singleton]
def XN(b f N:Nat)(T:List Ty)(D:Dt)(g:Nat->Prop)(d:uZ)(w:E)(e:Ending)(c:E):Prop:=
 ∃(r:Nat) (a:List Ty),e=π (.int .i64 r)/\Q a<=1/\r<Q (T++a)/\iK c b f N (T++a) D g/\tG (T++a)/\tr (T++a) r=mE (d.map<|cI T)/\∃v,δ w (J b 0)=C v/\I (mH b v) w c
def A6f{T}{z}(b:aX T)(c)(d:T[z].x=5):tr T z=.nd 5 [] []:=by
 obtain a|a|a|a|a:=b z c<;>simp_all[X7,wY]
section
variable{a b N:Nat}{T:List Ty}{D:Dt}
def zd{ok}(w)(hO:iK w a b N T D ok)(ch:∀g,V w.heap<=g->ok g)(hf:tG T)(e:uZ)(d8:∀x∈e,0<=x/\x<Q T)(dc:e≠[])(la)(lc)(ci:ξ w 0 3 1 (Y la (Q e) lc) (Q e)<|C8 e)(hn:Q e<=2001)(di:dW (e.map<|cI T)<=200000000)(hN:Q T+1<=N):
 μ η 143 #[pV a,Y la (Q e) lc] w (XN a b N T D ok e w):=by
 have h:=hO.lx;have a9:=O hO;have bt:=O ch;have hT:=h.ok;have db:=@run_makeMap η;obtain⟨i0,hi,cq,cs,ct⟩:=ò Tryz.fy;have da:=h.gm.lt;have G:I No w (σ w<|.map #[] 0):=I.alloc _ _ _;have HA:=O (Cc hf (Q T) e (σ w<|.map #[] 0) la lc (λx d=>θ) (h.y G) (ci.alloc _) W W);have SN:=O<|Seen.new w;have HS:=O<|h.y G;have bs:Hid (J8 (e.map<|cI T)≠[]):=SH ð (λt ht=>by
  obtain⟨x,d,rfl⟩:=kZ.1 ht;exact XQ _<|BR hT x.toNat θ);obtain⟨S,yx,b3,dl,-⟩:=h.blk;have V0:Hid (δ w (J a 0)=C S):=(show _=_ from cr b3 K);have bi:=O G;have cg:=(aG b3);go_in;go_wp2_with fail;refine HA.u.mono ?_;rintro a3 n ⟨pa,cu,c,rfl,L,h2,h3,h4⟩;have de:=PC (ls:=e) (j:=Q e) (by rw[vZ];exact h4);simp only[World.size_alloc]at h2;have S1:=O<|SN.u.P L λx=>x;have az:=O<|HS.u.y L;have bj:=O<|bi.u.trans L λ_ _ x=>x;have df:V w.heap+1<=V n.heap:=by have:=L.size;simpa using this
 have FP:Hid (∀i,I (λk=>k=V w.heap) n i->ξ i 0 3 1 (Y pa (Q c) cu) (Q c) (C8 c)):=λi F=>C7 (A3 h2 F λg q x=>by have:=(A9 h2 g q).1;omega)<|wQ _;have ap:Hid (∀i,I (λk=>k=V w.heap) n i->dY i a b N T D):=by
  intro i F;refine az.u.P F (az.u.gm.P F W) λk cy a3 s _ x=>?_;obtain⟨dq,cv,⟨es,cl,hh,_⟩,_⟩:=S1.u.own;have x':=x;rw[x',hh]at s;cases s
 have FC:Hid (∀i,I (λk=>k=V w.heap) n i->I No w i):=λi F=>((bj.u.mono (S':=λk=>k=V w.heap) λ_ _ x=>x.elim).trans F λ_ _ x=>x).mono (λk s x=>W);have HI:=O h3;have HP:=O h4;clear L h2 h3 h4 HA SN HS;go_wp2_with fail;go_loopw [15,5] (λan u wr=>∃(j:Nat) (f:uZ) (B:Option è) (A:Nat),j<=Q c/\an=.int .i64 (j:Int)/\u=Y B (Q f) A/\Hid (I (λk=>k=V w.heap) n wr)/\Hid (wr.ownsRow (V n.heap) 3 1 (Y B (Q f) A) (Q f)<|C8 f)/\Hid (∀x∈f,0<=x/\x<(Q T:Int))/\
  Hid (Seen wr (V w.heap) j<|(c.take j).map λx=>key<|cI T x)/\Hid (f.map (cI T)=dd [] ((c.take j).map<|cI T))/\Hid (∀x∈c.take j,(cI T x).k≠5)) (λan _ _=>Q c-(intOf an).toNat);case atStart=>exact⟨0,[],none,0,wQ _,K,K,I.refl _ _,kW _ _ _ _,(show∀x∈([]:uZ),_ from ι),S1.u,(show _=_ from K),(show∀x∈c.take 0,_ from ι)⟩
 case round=>
  obtain⟨j,f,B,A,hj,rfl,rfl,CR,H,IR,SR,v,NR⟩:=hrel;have dj:=CR.u.size;have cz:Q f<=Q c:=by
   have p:=congrArg Q v.u;have e2:∀(a8 i:List Tr),Q (dd i a8)<=Q i+Q a8:=by
    intro a8;induction a8 with
    |nil=>grind[dd]
    |cons t r ih=>
     grind[dd]
   have e3:=e2 ((c.take j).map<|cI T) [];simp at p e3;omega
  by_cases M:j<Q c
  .have dk:=HI.u c[j]<|mQ M;have ak:cI T c[j]∈J8 (e.map<|cI T):=by rw[<-HP.u];exact kZ.2 ⟨_,mQ M,K⟩
   have cp:wg (cI T c[j])<=200000000:=by
    have p:=QL ak;have e2:=GQ (e.map<|cI T) λx _=>Am x;omega
   have d9:=mQ M;have aa:=O<|nQ M;obtain⟨g,cj,q,cd,ah,y0⟩:=D6 (FP.u wr CR.u) M;subst cj;unfold Γ at ah;generalize c[j]=xx at*;obtain⟨z,rfl⟩:∃z:Nat,xx=(z:Int):=⟨xx.toNat,W⟩;have hz:z<Q T:=W;have P:cI T (z:Int)=tr T z:=by simp[cI]
   rw[P]at cp ak;have ae:=O<|ap.u wr CR.u;obtain⟨cw,c3,cx,-,d6,-,b6⟩:=ae.u.cell;obtain⟨g3,fa,fc,dm,dp,rfl,d4,d1,a4,x0,-,-,-,-,-⟩:=b6 z hz;unfold Γ at a4;clear b6;have bh:=O λs=>A6f hT hz s;have au:Hid ((tr T z).k=T[z].x):=(show _=_ from by rw[X7 hT hz];rfl);have Z:=O (Ņ wr ae.u hf z hz W);have p:dV true T z=key (tr T z):=K;have aj:Q (key<|tr T z)<=1000000000:=by
    have:=Ay (bn:=true) (T:=T) (i:=z);rw[p]at this;omega
   rw[p]at Z;by_cases ai:T[z].x=5
   .generalize T[z].x=k at*;subst ai;have a2:Hid (mE (e.map<|cI T)=tr T z):=by
     show _=_;unfold mE;rw[yY<|List.any_eq_true.2 ⟨tr T z,ak,by rw[au.u];rfl⟩];exact(bh.u K).symm
    have o:=O<|FC.u wr CR.u;clear CR H SR Z;go_wp2_with fail;go_ret;exact⟨z,[],K,ι,ð,by rw[iY];exact a9.u.y o.u,ð,by rw[iY];exact a2.u.symm,S,V0.u,o.u.mono λ_ _ x=>x.elim⟩
   .have d5:(T[z].x==5)=κ:=by simp[ai]
    have ba:(tr T z).k≠5:=by rw[au.u];exact ai
    have br:=O ba;generalize T[z].x=k at*;generalize b2:key (tr T z)=l at*;have av:=O b2;clear b2;have c8:=O SR.u;have bg:=O CR.u;have b1:=O H.u;clear SR CR H ba;go_wp2_with fail;refine Z.u.mono ?_;rintro a3 dr ⟨rfl,R⟩;have a4:=bg.u.trans R λ_ _ x=>x.elim;have al:=c8.u.P R λx=>x;have dg:=R.size;have d7:=al.look l aj;obtain⟨ao,cm,am,a7⟩:=al.put l aj W à;have bb:=am.look l aj;have b7:((((c.take j).map λx=>key<|cI T x)++[l]).count l:Int)=(((c.take j).map λx=>key<|cI T x).count l:Int)+1:=ι;rw[b7]at bb;have d2:((c.take j).map λx=>key<|cI T x).count l<=200000000:=by
     have:=List.count_le_length (a:=l) (l:=(c.take j).map λx=>key<|cI T x);rw[lZ,List.length_take]at this;omega
    have bo:Hid ((dd []<|(c.take j).map<|cI T).any (λu=>key u==l)=decide (((c.take j).map λx=>key<|cI T x).count l≠0)):=by
     have:=Qb ((c.take j).map<|cI T) l;rw[List.map_map]at this;exact this
    have c6:Hid ((c.take<|j+1).map (λx=>key<|cI T x)=((c.take j).map λx=>key<|cI T x)++[l]):=by
     show _=_;rw[aa.u,zY];simp[P,av.u]
    generalize ((c.take j).map λx=>key<|cI T x).count l=af at*;have aq:=O<|a4.trans a7 λ_ _ x=>x;have bw:=O am;have bq:=O<|R.mono (S':=λk=>k=V w.heap) (λ_ _ x=>x.elim)|>.trans a7 (λ_ _ x=>x);have dh:=a7.size;have ax:=O (A3 b1.u bq.u λg q x=>by have:=(A9 b1.u g q).1;omega);clear al am R a7 a4 b7 Z;have aw:Hid (∀x∈c.take (j+1),(cI T x).k≠5):=by
     intro x d;rw[aa.u]at d;obtain d|d:=qW.1 d
     .exact NR.u x d
     .simp at d;subst d;rw[P];exact br.u
    have b0:Hid (Seen ao (V w.heap) (j+1)<|(c.take<|j+1).map λx=>key<|cI T x):=by
     have:=bw.u;rw[<-c6.u]at this;exact this
    have ar:Hid (dd [] ((c.take<|j+1).map<|cI T)=if af≠0 then dd [] ((c.take j).map<|cI T) else dd [] ((c.take j).map<|cI T)++[tr T z]):=by
     show _=_;rw[aa.u,zY,bY,List.map_nil,P,XH,av.u,bo.u];simp only[decide_eq_true_eq]
    by_cases G:af=0
    .subst G;have ca:((0:Nat):Int)+1=1:=K;rw[ca]at cm bb;have ay:=O<|ax.u.alloc<|γ #[.int .i64 (z:Int)] 3;go_wp2_with (at_builtin;refine Ê _ K _ _ 63 K (V n.heap) 3 i0 (.int .i64 0) 1 8 ü hi cq cs ct K ε _ _ _ K ay.u (J (V ao.heap) 0) 1 1 [.int .i64 (z:Int)] K K ?c1 ?c2 ?c3 ?c4 ?c5 ?_);case c1=>
      intro a6 u m;match a6,m with
      |0,m=>simp_all[Addr.add]
     case c2=>intro u m;simp at m;subst m;rfl
     case c3=>simp only[Γ];omega
     case c4=>omega
     case c5=>simp;omega
     intro v' bf a5 b8 _;have e3:Q f+1=Q (f++[(z:Int)]):=ι;rw[e3,show C8 f++[.int .i64 (z:Int)]=C8 (f++[(z:Int)]) from by simp[C8]]at a5;obtain⟨c9,c4,rfl⟩:=B8 a5;have bu:=O a5;have b5:=I.alloc (λk=>V n.heap<=k) ao<|γ #[.int .i64 (z:Int)] 3;have ag:=b5.trans (I.grown b8) λk s x=>(A9 ay.u k x.symm).1;have bm:Hid (I (λk=>k=V w.heap) n bf):=((aq.u.mono (S':=λk=>k=V w.heap\/V n.heap<=k) λ_ _ x=>.inl x).trans ag λ_ _ x=>.inr x).mono (λk s x=>W);have bx:Hid (Seen bf (V w.heap) (j+1)<|(c.take<|j+1).map λx=>key<|cI T x):=b0.u.P ag W;clear a5 b8 b5 ag;go_wp2;go_roundw;case rel=>
      refine⟨j+1,f++[(z:Int)],c9,c4,W,ç,K,bm.u,bu.u,λx d=>?_,bx.u,?_,aw.u⟩
      .obtain d|d:=qW.1 d
       .exact IR.u x d
       grind
      .show _=_;rw[ar.u,wY ι,zY,v.u];rfl
     grind[intOf]
    .have d3:((af:Int)+1==1)=κ:=à;go_wp2_with fail;go_roundw;case rel=>exact⟨j+1,f,B,A,W,ç,K,aq.u,ax.u,IR.u,b0.u,(show _=_ from by rw[ar.u,yY G,v.u]),aw.u⟩
     grind[intOf]
  .have cf:j=Q c:=W;subst cf;rw[vZ]at v NR;have o:=O<|FC.u wr CR.u;have ae:=O<|ap.u wr CR.u;have cc:(J8<|e.map<|cI T).any (λt=>t.k==5)=κ:=by
    rw[<-HP.u,List.any_map,Bool.eq_false_iff];intro d;obtain⟨x,d,a3⟩:=List.any_eq_true.1 d;exact NR.u x d θ
   have a2:Hid (mE (e.map<|cI T)=match f.map (cI T) with
    |[]=>.nd 5 [] []
    |[t]=>t
    |t::u::r=>.nd 10 []<|t::u::r):=by
    show _=_;unfold mE;rw[wY θ,<-HP.u,<-v.u];rfl
   have cb:f≠[]:=by
    rintro rfl;have p:=v.u;have bc:=bs.u;rw[<-HP.u]at bc;obtain⟨t,r,e2⟩:=List.exists_cons_of_ne_nil bc;obtain⟨u,m,-⟩:=FY (c.map<|cI T) [] t θ;rw[<-p]at m;simp at m
   have ab:=O H.u;clear CR H SR cc;have d0:Q f<=100000000:=W;match f,cb with
   |[x],_=>
    obtain⟨g,ce,q,cd,ah,y0⟩:=D6 (ls:=[x]) (C7 ab.u<|wQ _) (j:=0) ι;subst ce;unfold Γ at ah;have d:=IR.u x ι;simp only[List.getElem_cons_zero]at y0;obtain⟨z,rfl⟩:∃z:Nat,x=(z:Int):=⟨x.toNat,W⟩;have P:cI T (z:Int)=tr T z:=by simp[cI]
    simp only[jQ,xQ,Nat.zero_add]at*;go_wp2_with fail;go_ret;exact⟨z,[],K,ι,ð,by rw[iY];exact a9.u.y o.u,ð,by rw[iY,a2.u];rfl,S,V0.u,o.u.mono λ_ _ x=>x.elim⟩
   |x::y::r,_=>
    have ht:eJ ⟨10,[],x::y::r,0⟩ (Q T):=.inr (.inr<|.inr<|.inr ⟨K,K,ι,λu m=>IR.u u m⟩);have ck:eI wr ok ⟨10,[],x::y::r,0⟩ [.int .i64 10,sN,Y B (Q (x::y::r)) A,.int .i64 0]:=⟨_,_,K,kW _ _ _ _,C7 ab.u<|wQ _,λg q=>by grind[Δ],λg q=>bt.u g<|by have:=(A9 ab.u g q).1;omega⟩;have bv:=O<|KH wr (a9.u.y o.u) ⟨10,[],x::y::r,0⟩ none B 0 0 (Q (x::y::r)) A ck ht hN;have c7:Hid (tr (T++[⟨10,[],x::y::r,0⟩]) (Q T)=mE (e.map<|cI T)):=by
     show _=_;rw[wG hT ht,a2.u];simp[cI]
    have bp:Hid (tG<|T++[⟨10,[],x::y::r,0⟩]):=by
     intro a6 hi;by_cases b9:a6<Q T
     .rw[List.getElem_append_left b9];exact hf a6 b9
     .grind
    have e0:(((Q (x::y::r):Nat):Int)==0)=κ:=à;have p:(((Q (x::y::r):Nat):Int)==1)=κ:=à;generalize Q (x::y::r)=nn at*;go_wp2_with fail;refine bv.u.mono ?_;rintro a3 ds ⟨rfl,⟨v5,be,b4⟩,bd⟩;have cn:v5=S:=by
     have e6:wr.cell? (J a 0)=C S:=by rw[World.cell?_of_block<|o.u.block a cg λx=>x];exact V0.u
     rw[be]at e6;exact xZ e6
    subst cn;have bn:=O<|(o.u.mono (S':=mH a v5) λ_ _ x=>x.elim).trans b4 λ_ _ x=>x;have bz:=O bd;clear b4 bd be;go_wp2;go_ret;exact⟨Q T,[⟨10,[],x::y::r,0⟩],K,ι,ι,bz.u,bp.u,c7.u,v5,V0.u,bn.u⟩
end
section
variable{j w:E}{c:Cx}{a b f i:Nat}{h k e:χ}{g:Int}{Z:List Ty}{d:uZ}
def TG(a:Nat)(w:E)(v:χ):Prop:=∀ov,δ w (J a 6)=C ov->∀l,Δ v=C l->ov.ownBlock≠C l
theorem aW.ov(p:aW j w c a b f i h k g e Z d):∃ov D,δ w (J a 6)=C ov/\w.heap[a]?=C (γ (rM c h k g b i e ov) 66 (0,0))/\ξ w (V j.heap) 3 1 ov (Q d) (C8 d)/\iK w b f 4000 (tl c Z) D (λl=>ov.ownBlock≠C l)/\∀l,V w.heap<=l->ov.ownBlock≠C l:=by
 obtain⟨ov,D,m,n,q⟩:=p.st;refine⟨ov,D,cr m K,m,n,q,λl r o=>?_⟩;have:=(n.lt l o).2;omega
def aW.sw{m}(o:aW j w c a b f i h k g e Z d)(r:KG w m){v}(A:∀l,Δ v=C l->V w.heap<=l):TG a m v:=by
 obtain⟨ov,D,t,p,u,x,y⟩:=o.ov;intro s n l z;have q:=r.2 _ _ _ _ p ε ε;have:s=ov:=by
  rw[á m a 6 _ _ _ q]at n;exact(xZ n).symm
 grind
def Ĵ{T}{t}(n:Fw T)(p:Q t.M<=100000000/\Q t.eo<=2001):Fw (T++[t]):=by
 intro m o;by_cases l:m<Q T
 .rw[List.getElem_append_left l];exact n m l
 grind
def RK(s:aW j w c a b f i h k g e Z d)(t)(l o)(n m q p)(N:ξ w 0 156 2 (Y l n m) (Q t.eo)<|I0 t.eo)(R:ξ w 0 3 1 (Y o q p) (Q t.M)<|C8 t.M)(z:TG a w<|Y l n m)(A:TG a w<|Y o q p)(P:eJ t (Q (tl c Z)))(M:Q t.M<=100000000/\Q t.eo<=2001)(H:Q (tl c Z)+1<=4000):
 μ η 28 #[pV b,.agg #[U t.x,Y l n m,Y o q p,U t.fh]] w λx v=>x=π (U<|Q (tl c Z))/\aW j v c a b f i h k g e (Z++[t]) d/\KG w v:=by
 obtain⟨ov,D,y,B,F,G,h5⟩:=s.ov;refine(KH w G t l o n m q p ⟨_,_,K,N,R,λr u=>z ov y r u,λr u=>A ov y r u⟩ P H).mono ?_;rintro x v ⟨rfl,⟨a4,T,L⟩,S⟩;obtain⟨a2,a3⟩:=s.grow T L B F S<|Ĵ s.fq M;grind
def A4e(n:aW j w c a b f i h k g e Z d)(l:uZ)(F:∀x∈l,0<=x/\x<(Q (tl c Z)))(H:l≠[])(o)(p)(L:ξ w 0 3 1 (Y o (Q l) p) (Q l)<|C8 l)(G:Q l<=2001)(P:dW (l.map<|cI<|tl c Z)<=200000000)(z:Q (tl c Z)+1<=4000):
 μ η 143 #[pV b,Y o (Q l) p] w λs q=>∃(r:Nat) (m:List Ty),s=π (U r)/\Q m<=1/\r<Q (tl c<|Z++m)/\tr (tl c<|Z++m) r=mE (l.map<|cI<|tl c Z)/\aW j q c a b f i h k g e (Z++m) d/\KG w q:=by
 obtain⟨ov,D,R,t,u,v,y⟩:=n.ov;refine(zd w v y n.fq l F H o p L G P z).mono ?_;rintro s q ⟨r,m,rfl,S,T,M,B,ht,a4,N,A⟩;obtain⟨a2,a3⟩:=n.grow N A t u M B;grind[pY]
end
section
variable{a b N:Nat}{T:List Ty}{D:Dt}
def zj{n}(w)(f:iK w a b N T D n)(k:tG T)(M:Q T+1<=N):
 μ η 143 #[pV a,sN] w (XN a b N T D n [] w):=by
 have h:=f.lx;have P:=h.ok;have a8:=@run_makeMap η;have j:I No w (σ w<|.map #[] 0):=I.alloc _ _ _;have r:=O (Cc k (Q T) [] (σ w<|.map #[] 0) none 0 (λx hx=>θ) (h.y j) (kW _ _ _ _) ι<|by simp[dW]);obtain⟨q,yx,R,a9,-⟩:=h.blk;have c:Hid (δ w (J a 0)=C q):=(show _=_ from cr R K);have m:eJ ⟨5,[],[],0⟩ (Q T):=.inl ⟨ε,ε,K,K⟩;have z:Hid (∀u,I No w u->_):=λu hu=>KH u (f.y hu) ⟨5,[],[],0⟩ none none 0 0 0 0 ⟨_,_,K,kW _ _ _ _,kW _ _ _ _,λg Z=>by grind[Δ],λg Z=>by grind[Δ]⟩ m M;have B:Hid (tr (T++[⟨5,[],[],0⟩]) (Q T)=mE (([]:uZ).map<|cI T)):=by
  rw[wG P m];rfl
 have v:Hid (tG<|T++[⟨5,[],[],0⟩]):=by
  intro i hi;by_cases l:i<Q T
  .rw[List.getElem_append_left l];exact k i l
  .grind
 have s:=O j;go_in;go_wp2_with fail;refine r.u.mono ?_;rintro e ab ⟨pa,aa,o,rfl,H,h2,h3,L⟩;have a2:o=[]:=by
  have d:Q (o.map<|cI T)=0:=by rw[L];simp[J8]
  rw[lZ]at d;exact List.length_eq_zero_iff.1 d
 subst a2;have a7:=O<|s.u.trans H λ_ _ x=>x;simp;go_wp2;go_loopw [15,5] (λa6 u wr=>a6=U 0/\u=sN/\Hid (I No w wr)) (λ_ _ _=>0);case atStart=>grind
 case round=>
  obtain⟨rfl,rfl,CR⟩:=hrel;have y:=O<|z.u wr CR.u;have G:=A4 CR.u c.u;have F:=O G;go_wp2_with fail;refine y.u.mono ?_;rintro e ac ⟨rfl,⟨p,a4,S⟩,a3⟩;have a5:p=q:=by
   have:=F.u;rw[a4]at this;exact xZ this
  subst a5;have t:=O<|(CR.u.mono λ_ _ x=>x.elim).trans S λ_ _ x=>x;have A:=O a3;go_wp2;go_ret;exact⟨Q T,[⟨5,[],[],0⟩],K,ι,ι,A.u,v.u,B.u,p,c.u,t.u⟩
end
section
variable{e w:E}{c:Cx}{d b f i:Nat}{h l g:χ}{j:Int}{Z:List Ty}{a:uZ}{k:Of}
def Tp(n:aW e w c d b f i h l j g Z a)(y:Q (tl c Z)+1<=4000):
 μ η 143 #[pV b,sN] w λp o=>∃(r:Nat) (m:List Ty),p=π (U r)/\Q m<=1/\r<Q (tl c<|Z++m)/\tr (tl c<|Z++m) r=mE []/\aW e o c d b f i h l j g (Z++m) a/\KG w o:=by
 obtain⟨ov,D,M,t,u,x,N⟩:=n.ov;refine(zj w x n.fq y).mono ?_;rintro p o ⟨r,m,rfl,z,q,F,B,s,v,G,A⟩;obtain⟨H,L⟩:=n.grow G A t u F B;rw[pY]at q s;exact⟨r,m,K,z,q,s,H,L⟩
def oH(e w:E)(c:Cx)(d b f i:Nat)(h l:χ)(j:Int)(g:χ)(Z:List Ty)(a:uZ)(t:Tr)(o:Ending)(n:E):Prop:=
 ∃(x:Nat) (m:List Ty),o=π (U x)/\Q m<=2/\x<Q (tl c<|Z++m)/\tr (tl c<|Z++m) x=t/\aW e n c d b f i h l j g (Z++m) a/\KG w n
def xo(A:aW e w c d b f i h l j g Z a)(y)(S:∀x∈y.M,Lk c Z a k x)(hn:Q y.M<=1200)(la)(lc)(ah:ξ w 0 3 1 (Y la (Q y.M) lc) (Q y.M)<|C8 y.M)(bo:dW (y.M.map<|bB k)<=25000000)(hN:Q (tl c Z)+2<=4000):
 μ η 101 #[pV d,eE y la lc] w (oH e w c d b f i h l j g Z a<|BL k y):=by
 unfold BL eE;obtain⟨kd,va,vb,vc,m,tx,vn,vt,vp⟩:=y;simp only at*;obtain⟨oa,oc,bn,fz,q0,q1,q2,q3,q4,q5,q6,qp,qo⟩:=A.cell;have hT:=A.ts;obtain⟨i0,av,b5,b6,b7⟩:=ò Tryz.fy;have ap:=O qo;have ao:=O q3;have H0:=O A;have HO:=O ah;have HL:=O S;have B:∀x∈m,0<=a.getD x.toNat 0/\a.getD x.toNat 0<(Q (tl c Z):Int)/\cI (tl c Z) (a.getD x.toNat 0)=bB k x:=λx D=>by
  obtain⟨a5,r,L,s,v,b3,a4⟩:=S x D;have e2:a.getD x.toNat 0=(r:Int):=by rw[s,tQ,lQ,gQ L];exact v
  rw[e2];refine⟨W,W,?_⟩;unfold cI;rw[tQ];exact a4
 have be:=O B;have T:(m.map λx=>a.getD x.toNat 0).map (cI<|tl c Z)=m.map (bB k):=by
  rw[List.map_map];exact List.map_congr_left λx D=>(B x D).2.2
 have HU:Hid (∀(u:E) (q:Option è) (p:Nat),I No w u->(m=[]->q=none/\p=0)->ξ u (V w.heap) 3 1 (Y q (Q m) p) (Q m) (C8<|m.map λx=>a.getD x.toNat 0)->μ η 143 #[pV b,Y q (Q m) p] u λs w'=>∃(r:Nat) (n:List Ty),s=π (U (r:Int))/\Q n<=1/\r<Q (tl c<|Z++n)/\tr (tl c<|Z++n) r=mE (m.map<|bB k)/\aW e w' c d b f i h l j g (Z++n) a/\KG u w'):=λu q p t az b2=>by
  by_cases R:m=[]
  .obtain⟨rfl,rfl⟩:=az R;subst R;exact Tp (A.y t) W
  .have:=A4e (A.y t) (m.map λx=>a.getD x.toNat 0) (λx D=>by
    obtain⟨ak,hy,rfl⟩:=kZ.1 D;exact⟨(B ak hy).1,(B ak hy).2.1⟩) (by simpa using R) q p (by rw[lZ];exact C7 b2<|wQ _) (by rw[lZ];omega) (by rw[T];omega) W;rw[T,lZ]at this;exact this
 have a8:Hid (∀(u:E) (n:List Ty) (r:Nat),aW e u c d b f i h l j g (Z++n) a->Q n<=1->r<Q (tl c<|Z++n)->_):=λu n r t hX v=>RK t ⟨8,[],[],(r:Int)⟩ none none 0 0 0 0 (kW _ _ _ _) (kW _ _ _ _) (λ_ _ ar N=>by simp[Δ]at N) (λ_ _ ar N=>by simp[Δ]at N) (.inr<|.inr<|.inl ⟨K,K,K,Int.natCast_nonneg r,Int.ofNat_lt.2 v⟩) ⟨ι,ι⟩ (by rw[U8]at hN⊢;rw[qQ];omega);simp only at a8;have A1:=I.alloc No w<|aM kd va vb vc (Y la (Q m) lc) tx vn vt vp;have al:=O A1;clear A ah S B T qp qo q0 q1 q2 q4 q5 fz A1 hT;go_in;go_wp2_with fail;go_loopw [11,5] (λa6 u wr=>∃(o:Nat) (q:Option è) (p:Nat),o<=Q m/\a6=U (o:Int)/\u=Y q o p/\Hid (o=0->q=none/\p=0)/\Hid (I No w wr)/\Hid (wr.ownsRow (V w.heap) 3 1 (Y q o p) o<|C8<|(m.take o).map λx=>a.getD x.toNat 0)) (λa6 _ _=>Q m-(intOf a6).toNat);case atStart=>exact⟨0,none,0,wQ _,K,K,λ_=>⟨K,K⟩,al.u,kW _ _ _ _⟩
 case round=>
  obtain⟨o,q,p,hj,rfl,rfl,NR,CR,F⟩:=hrel;have ai:=A4 CR.u q6;have bp:V w.heap<=wr.heap.size:=CR.u.size;by_cases P:o<Q m
  .obtain⟨g2,ay,bf,bg,ax,v0⟩:=D6 (A3 HO.u CR.u λ_ _ x=>x) P;subst ay;obtain⟨a5,r,L,s,v,b3,a4⟩:=HL.u m[o]<|mQ P;obtain⟨go,b1,bh,bi,bj,b0,y0,-⟩:=ap.u a5 L;subst b1;rw[v]at y0;have bd:=A4 CR.u y0;have HT:Hid ((m.take<|o+1).map (λx=>a.getD x.toNat 0)=(m.take o).map (λx=>a.getD x.toNat 0)++[(r:Int)]):=by
    show _=_;rw[nQ P,zY,List.map_singleton,s,tQ,lQ,gQ L,v];rfl
   obtain⟨a9,ab⟩:∃a9,a9=(m.take o).map (λx=>a.getD x.toNat 0):=⟨_,K⟩;rw[<-ab]at F HT;clear ab;rw[s]at v0;have au:=blt bd;have a3:=blt ai;simp only at au a3;have bm:(a5:Int)<(Q a:Int):=W;unfold Γ at ax b0;have a7:=O<|F.u.alloc<|γ #[U (r:Int)] 3;clear s v a4 y0;go_wp2_with (at_builtin;refine Ê _ K _ _ 63 K (V w.heap) 3 i0 (U 0) 1 8 ü av b5 b6 b7 K ε _ _ _ K a7.u (J wr.heap.size 0) 1 1 [U (r:Int)] K K ?c1 ?c2 ?c3 ?c4 ?c5 ?_);case c1=>
    intro b8 u t;match b8,t with
    |0,t=>simp at t;subst t;simp[Addr.add]
   case c2=>intro u t;simp at t;subst t;rfl
   case c3=>simp only[Γ];omega
   case c4=>omega
   case c5=>simp;omega
   intro v' aj a2 af _;obtain⟨aq,c4,rfl⟩:=B8 a2;have an:=O a2;have ae:I (λz=>V w.heap<=z) wr aj:=(I.alloc (λz=>V w.heap<=z) wr<|γ #[U (r:Int)] 3).trans (I.grown af) λz H x=>(A9 a7.u z x.symm).1;have am:Hid (I No w aj):=((CR.u.mono (S':=λz=>V w.heap<=z) λ_ _ x=>x.elim).trans ae λ_ _ x=>x).mono (λz H x=>W);clear a2 af ae;go_wp2_with fail;go_roundw;case rel=>exact⟨o+1,aq,c4,W,ç,K,λs=>W,am.u,(show ξ _ _ _ _ _ _ _ from by rw[HT.u,T4];exact an.u)⟩
   case measure=>simp[intOf];omega
  .have aw:o=Q m:=W;subst aw;rw[vZ]at F;have NN:Hid (m=[]->q=none/\p=0):=λs=>NR.u (by rw[s];rfl);have ba:=A4 CR.u ao.u;have a3:=blt ba;simp only at a3;clear NR q6 ai;go_wp2_with fail;go_region_with (first
    |(go_at_call 143;refine(HU.u _ q p (B6 CR.u<|I.drewN _ _ 1) NN.u<|A3 F.u (I.drewN No _ 1) λ_ _ x=>x).mono ?_;rintro s bb ⟨r,n,rfl,hX,v,ht,G,H⟩;have bq:δ bb (J d 3)=C (pV b):=by (obtain⟨_,_,_,_,_,_,_,b9,_⟩:=G.cell;exact b9))
    |(go_at_call 28;refine(a8.u _ n r G hX v).mono ?_;rintro s bc ⟨rfl,aa,ag⟩));all_goals
    have HQ:Hid (oH e w c d b f i h l j g Z a (.nd 8 [] [mE<|m.map<|bB k]) (π<|U (Q (tl c<|Z++n):Int)) bc):=by
     have M:Z++(n++[⟨8,[],[],(r:Int)⟩])=(Z++n)++[⟨8,[],[],(r:Int)⟩]:=(qZ _ _ _).symm;have b4:=wG G.ts (t:=⟨8,[],[],(r:Int)⟩)<|.inr<|.inr<|.inl ⟨K,K,K,Int.natCast_nonneg r,Int.ofNat_lt.2 v⟩;refine⟨Q (tl c<|Z++n),n++[⟨8,[],[],(r:Int)⟩],K,?_,?_,?_,?_,((KG.y<|B6 CR.u<|I.drewN _ _ 1).trans H).trans ag⟩
     .rw[qQ,Ë];omega
     .rw[M,U8,U8,qQ,qQ,qQ,Ë];omega
     .rw[M,<-pY,b4];simp[ht]
     .rw[M];exact aa
    clear G H aa ag ht;go_wp2_with fail;go_ret;exact HQ.u
def kL(c:Cx)(a:uZ)(x:Int):bZ×Int:=((aA c.N x).text,a.getD (aA c.N x).a.toNat 0)
def vw(hB:dO e c d b f i h g)(a3:aW e w c d b f i h l j g Z a)(s)(ac:∀x∈s.M,∃n:Nat,x=(n:Int)/\∃hj,Lk c Z a k c.N[n].a/\S6 c.N[n].text)(av:(s.M.map λx=>(aA c.N x).text).Nodup)(hn:Q s.M<=1200)(B)(D)(au:ξ w 0 3 1 (Y B (Q s.M) D) (Q s.M)<|C8 s.M)(hN:Q (tl c Z)+1<=4000):
 μ η 100 #[pV d,eE s B D] w (oH e w c d b f i h l j g Z a<|DK c.N k s):=by
 unfold DK eE;obtain⟨kd,va,vb,vc,m,tx,vn,vt,vp⟩:=s;simp only at*;obtain⟨i0,b9,bm,bn,bo⟩:=ò Tryz.j7;have hT:=a3.ts;have H0:=O a3;have HO:=O au;have HL:=O ac;have aa:∀x∈m,0<=(kL c a x).2/\(kL c a x).2<(Q (tl c Z):Int)/\tr (tl c Z) (kL c a x).2.toNat=bB k (aA c.N x).a/\S6 (kL c a x).1:=λx hx=>by
  obtain⟨n,rfl,hj,⟨p,r,hp,z,hr,bj,ad⟩,be⟩:=ac x hx;have A:aA c.N (n:Int)=c.N[n]:=B7 hj;have e2:(kL c a (n:Int)).2=(r:Int):=by
   unfold kL;rw[A,z];show a.getD (Int.toNat (p:Int)) 0=_;rw[tQ,lQ,gQ hp];exact hr
  refine⟨W,W,?_,?_⟩
  .rw[e2,tQ,A];exact ad
  .unfold kL;rw[A];exact be
 have am:Hid (eJ ⟨7,m.map<|kL c a,[],0⟩ (Q (tl c Z))):=.inr (.inl ⟨K,K,by rw[List.map_map];exact av,λp hp=>by
  obtain⟨x,hx,rfl⟩:=kZ.1 hp;obtain⟨a1,a2,_,a4⟩:=aa x hx;exact⟨a4,a1,a2⟩⟩);have b4:Hid (tr (tl c Z++[⟨7,m.map<|kL c a,[],0⟩]) (Q (tl c Z))=.nd 7 (m.map λx=>(aA c.N x).text) (m.map λx=>bB k (aA c.N x).a)):=by
  show _=_;rw[wG hT am.u];have A:(m.map<|kL c a).map (λp=>tr (tl c Z) p.2.toNat)=m.map λx=>bB k (aA c.N x).a:=by
   rw[List.map_map];exact List.map_congr_left λx hx=>(aa x hx).2.2.1
  have e2:(m.map<|kL c a).map (·.1)=m.map λx=>(aA c.N x).text:=by
   rw[List.map_map];rfl
  simp only[A,e2];simp
 obtain⟨oa,oc,ca,fz,q0,q1,q2,q3,q4,q5,q6,qp,qo⟩:=a3.cell;have b2:=O q3;have al:=O qo;have ak:=O<|hB.fx a3.P;have c3:=hB.ok.fp;have A1:=I.alloc No w<|aM kd va vb vc (Y B (Q m) D) tx vn vt vp;have nb:=rY w<|aM kd va vb vc (Y B (Q m) D) tx vn vt vp;have n4:δ (w.alloc<|aM kd va vb vc (Y B (Q m) D) tx vn vt vp) (J (V w.heap) 4)=C (Y B (Q m) D):=cr nb K;have ai:=O A1;have b1:=O q0;have b3:=O q6;have bt:Hid (I (SW e d b f) e w):=a3.P;clear a3 au ac aa qp qo q1 q2 q3 q4 q5 fz A1 nb hT q0 q6 av;go_in;go_wp2_with fail;have hz:=rY (w.alloc<|aM kd va vb vc (Y B (Q m) D) tx vn vt vp)<|γ #[U 7,sN,sN,U 0] 88;have Z0:=O hz;have C3:=O<|B6 ai.u<|I.alloc No (w.alloc<|aM kd va vb vc (Y B (Q m) D) tx vn vt vp)<|γ #[U 7,sN,sN,U 0] 88;simp only[Array.size_push,World.alloc]at Z0;clear hz ai;go_loopw [13] (λag wr=>∃(n:Nat) (t:Option è) (u:Nat),n<=Q m/\ag=U (n:Int)/\Hid (I No w wr)/\Hid (wr.heap[V w.heap+1]?=C (γ #[U 7,Y t n u,sN,U 0] 88 (0,0)))/\Hid (wr.ownsRow (V w.heap) 156 2 (Y t n u) n<|I0<|(m.take n).map<|kL c a)) (λag _=>Q m-(intOf ag).toNat);case atStart=>exact⟨0,none,0,wQ _,K,C3.u,Z0.u,kW _ _ _ _⟩
 case round=>
  clear Z0 C3 n4;obtain⟨n,t,u,hj,rfl,CR,y,F⟩:=hrel;have cb:V w.heap<=wr.heap.size:=CR.u.size;have bi:=(aG y.u);by_cases a9:n<Q m
  .obtain⟨g2,bc,bw,bz,bb,v0⟩:=D6 (A3 HO.u CR.u λ_ _ x=>x) a9;subst bc;obtain⟨jj,z,aq,⟨p,r,hp,ea,hr,bj,ad⟩,-⟩:=HL.u m[n]<|mQ a9;obtain⟨go,bh,c6,c7,c8,bg,y0,-⟩:=al.u p hp;subst bh;rw[hr]at y0;have HT:Hid ((m.take<|n+1).map (kL c a)=(m.take n).map (kL c a)++[(c.N[jj].text,(r:Int))]):=by
    show _=_;rw[nQ a9,zY,List.map_singleton,z];unfold kL;rw[show aA c.N (jj:Int)=c.N[jj] from B7 aq,ea,tQ,lQ,gQ hp,hr];rfl
   obtain⟨a7,ap⟩:∃a7,a7=(m.take n).map (kL c a):=⟨_,K⟩;rw[<-ap]at F HT;clear ap;have bp:=A4 CR.u b1.u;have af:=A4 CR.u b3.u;have ah:=A4 CR.u y0;obtain⟨a8,nc,H,L,bf,hg,c5,bd,⟨x0,x1,x2,x3,x4,x5,x6,x7,x8⟩,-,-⟩:=ak.u.at (CR.u.ep (λ_ _ x=>x.elim)<|vQ _) jj aq;generalize c.N[jj]=s at*;obtain⟨G,ce,N,P,M,q,R,T,S⟩:=s;subst bf;simp only at*;subst ea;rw[z]at v0;have d0:wr.cell? (J (V w.heap+1) 1)=C (Y t n u):=cr y.u K;have zf:∀o,wr.frozen? (J (V w.heap+1) o)=κ:=λo=>ã wr _ o _ _ y.u;have aw:Δ (Y t n u)≠C (V w.heap+1):=I6 F.u y.u ε;unfold Γ at bb bd bg;have c9:(p:Int)<(Q a:Int):=W;have bx:(jj:Int)<(Q c.N:Int):=W;have b8:=blt ah;have ab:=blt af;simp only at b8 ab;clear z hr ad y0 HL al HO;have A2:=I.alloc No wr<|aM G (p:Int) N P (Y H (Q M) L) q R T S;have ae:=rY wr<|aM G (p:Int) N P (Y H (Q M) L) q R T S;have A:=á _ _ 1 _ _ _ ae;have e5:=á _ _ 5 _ _ _ ae;replace A:δ (wr.alloc<|aM G (p:Int) N P (Y H (Q M) L) q R T S) (J wr.heap.size 1)=C (U (p:Int)):=A.trans K;replace e5:δ (wr.alloc<|aM G (p:Int) N P (Y H (Q M) L) q R T S) (J wr.heap.size 5)=C (ζ ⟨ν q⟩):=e5.trans K;have cd:=A4 A2 af;have cf:=A4 A2 ah;have an:=A4 A2 d0;have bs:∀o,(wr.alloc<|aM G (p:Int) N P (Y H (Q M) L) q R T S).frozen? (J (V w.heap+1) o)=κ:=λo=>U4 bi<|zf o;have ay:V (wr.alloc<|aM G (p:Int) N P (Y H (Q M) L) q R T S).heap=wr.heap.size+1:=Array.size_push _;have aj:=O A2;clear A2 ae zf;go_wp2_with fail;clear x0 x1 x2 x3 x4 x5 x6 x7 x8 v0 bp af ah d0;generalize (wr.alloc<|aM G (p:Int) N P (Y H (Q M) L) q R T S)=v at*;have b6:=O<|((A3 F.u aj.u λ_ _ x=>x).drew).alloc<|γ #[ζ ⟨ν q⟩,U (r:Int)] 156;have az:(v.drew.alloc<|γ #[ζ ⟨ν q⟩,U (r:Int)] 156).heap[wr.heap.size+1]?=C (γ #[ζ ⟨ν q⟩,U (r:Int)] 156 (0,0)):=by
    have:=rY v.drew<|γ #[ζ ⟨ν q⟩,U (r:Int)] 156;rw[show V v.drew.heap=wr.heap.size+1 from ay]at this;exact this
   have b5:=O az;have bv:δ (v.alloc<|γ #[ζ ⟨ν q⟩,U (r:Int)] 156) (J (V w.heap+1) 1)=C (Y t n u):=I9 (by rw[ay];omega) an;clear az;go_region_law (
    refine step_append_lies _ Θ _ _ _ Θ (V w.heap) 156 i0 _ 2 24 underlying86 b9 bm bn bo K W (Y t n u) n (I0 a7) Θ b6.u (J (wr.heap.size+1) 0) 1 1 [ζ ⟨ν q⟩,U (r:Int)] Θ Θ (World.news_of_block (cs:=#[ζ ⟨ν q⟩,U (r:Int)]) (t:=156) (fr:=(0,0)) b5.u) (by simp[Value.oneCell']) W (by simp only[Γ];omega) W à (V v.heap+1) ι ?_;intro gg bu b0 ax a5 b7 c4;have z4:δ b0 (J (V w.heap+1) 1)=C (Y t n u):=by rw[a5.cell_far _ à<|Ne.symm aw];exact I9 (w:=v.drew) à an
    have y4:b0.frozen? (J (V w.heap+1) 1)=κ:=by rw[a5.frozen_far _ à<|Ne.symm aw];exact U4 (w:=v.drew) à<|bs 1);all_goals
    have HP:=O (KL (o:=1) (n0:=V w.heap) (w:=w) y.u W F.u ε (I.ep CR.u (λ_ _ x=>x.elim)<|vQ _) (vQ _) (B6 aj.u<|B6 (I.drewN No v 1)<|I.alloc No v.drew<|γ #[ζ ⟨ν q⟩,U (r:Int)] 156) a5 ax);clear ax a5 b7;go_wp2_with fail;go_roundw;case rel=>exact⟨n+1,_,_,W,ç,(I.below HP.u.2.2.2.1).mono λcc hk x=>W,HP.u.2.2.2.2.2.1,(show ξ _ _ _ _ _ _ _ from by rw[HT.u,PD];exact HP.u.2.2.2.2.1)⟩
    case measure=>simp[intOf];omega
  .have ba:n=Q m:=W;subst ba;rw[vZ]at F;have bq:=A4 CR.u b2.u;have ab:=blt bq;simp only at ab;have d0:wr.cell? (J (V w.heap+1) 0)=C (U 7):=cr y.u K;have d1:wr.cell? (J (V w.heap+1) 1)=C (Y t (Q m) u):=cr y.u K;have d2:wr.cell? (J (V w.heap+1) 2)=C (sN):=cr y.u K;have d3:wr.cell? (J (V w.heap+1) 3)=C (U 0):=cr y.u K;have HP:Hid (∀a6,I No wr a6->μ η 28 #[pV b,.agg #[U 7,Y t (Q m) u,sN,U 0]] a6 λz w'=>z=π (U (Q (tl c Z):Int))/\aW e w' c d b f i h l j g (Z++[⟨7,m.map<|kL c a,[],0⟩]) a/\KG a6 w'):=λa6 hu=>
    RK (H0.u.y<|B6 CR.u hu) ⟨7,m.map<|kL c a,[],0⟩ t none (Q m) u 0 0 (by
     have:=C7 (A3 F.u hu λ_ _ x=>x)<|wQ _;rw[lZ];exact this) (kW _ _ _ _) (H0.u.sw (KG.y<|B6 CR.u hu) λa8 hg=>(F.u.lt a8 hg).1) (λ_ _ a8 hg=>by simp[Δ]at hg) am.u ⟨ι,by rw[lZ];omega⟩ hN;clear HL HO ak;go_wp2_with fail;go_region_with (go_at_call 28;refine(HP.u _<|I.drewN _ _ 1).mono ?_;rintro z br ⟨rfl,ao,ar⟩);all_goals
    have HQ:Hid (oH e w c d b f i h l j g Z a (.nd 7 (m.map λx=>(aA c.N x).text)<|m.map λx=>bB k (aA c.N x).a) (π<|U (Q (tl c Z):Int)) br):=by
     refine⟨Q (tl c Z),[⟨7,m.map<|kL c a,[],0⟩],K,ι,by rw[<-pY,qQ,Ë];omega,by rw[<-pY];exact b4.u,ao,(KG.y<|B6 CR.u<|I.drewN _ _ 1).trans ar⟩
    clear ao ar;go_wp2_with fail;go_ret;exact HQ.u
end
def KQ(a b:E):Prop:=V a.heap<=V b.heap/\∀(q:Nat) (c) (e) (d),a.heap[q]?=C (γ c e d)->e≠120->e≠88->e≠3->e≠66->b.heap[q]?=C (γ c e d)
theorem KQ.refl(a):KQ a a:=⟨vQ _,λ_ _ _ _ h _ _ _ _=>h⟩
theorem KQ.trans{a b c}(h:KQ a b)(k:KQ b c):KQ a c:=⟨kQ h.1 k.1,λq d e f x g i j l=>k.2 q d e f (h.2 q d e f x g i j l) g i j l⟩
def KQ.kg{a b}(h:KG a b):KQ a b:=⟨h.1,λq c e d x f g _ _=>h.2 q c e d x f g⟩
theorem KQ.y{a b}(h:I No a b):KQ a b:=.kg<|.y h
section
variable{e w:E}{c:Cx}{a f d j:Nat}{i k fv:χ}{h:Int}{Z:List Ty}{b:uZ}{l:Of}
def aW.push{w1 w2:E}{x}{ov m}(L:aW e w c a f d j i k h fv Z b)(G:δ w (J a 6)=C ov)(M:I No w w1)(R:w1.grownBy w2 ov.ownBlock)(ho:w2.ownsRow (V e.heap) 3 1 m (Q b+1)<|C8 b++[U x]){s}(a6:Δ m=ov.ownBlock\/Δ m=C s)(aa:V w.heap<=s):
 w2.cell? (J a 6)=C ov/\w2.frozen? (J a 6)=κ/\a<w2.heap.size/\aW e (w2.setCell (J a 6) m) c a f d j i k h fv Z (b++[x])/\KQ w (w2.setCell (J a 6) m):=by
 obtain⟨N,⟨q,D,t,A,v⟩,P⟩:=L;have p:q=ov:=by
  rw[á w a 6 _ _ _ t]at G;exact xZ G
 subst p;have a4:∀{o:Nat} {y:Array χ} {p:TypeId} {z:Nat×Nat},w.heap[o]?=C (γ y p z)->p≠3->C o≠Δ q:=λ{o y p z} S he n=>by
  obtain⟨_,H,F⟩:=A9 A o n.symm;grind
 have B:=(M.mono λ_ _ x=>x.elim).trans (I.grown R) λ_ _ x=>x;have u:w2.heap[a]?=C (γ (rM c i k h f j fv q) 66 (0,0)):=by
  rw[B.block a (aG t)<|a4 t ε];exact t
 have r:I (λo=>C o=Δ q\/o=a) w (w2.setCell (J a 6) m):=(B.mono λ_ _ x=>.inl x).trans (I.set _ _ _) λ_ _ x=>.inr x;have T:KQ w (w2.setCell (J a 6) m):=⟨r.size,λa5 y p z hq _ _ h3 h4=>by
  rw[r.block a5 (aG hq) ?_]<;>grind⟩;have a2:¬(C d=Δ q\/d=a):=by
  rintro(n|n)
  .obtain⟨_,H,F⟩:=A9 A d n.symm;exact v.gm.tag _ _ _ F
  .subst n;exact v.gm.tag _ _ _ t
 have a3:∀g,Δ q≠C g->g<V w.heap->Δ m≠C g:=λg a7 a8 n=>θ;refine⟨cr u K,ã w2 a 6 _ _ u,(aG u),⟨?_,⟨m,D,?_,?_,?_⟩,P⟩,T⟩
 .refine N.trans r ?_;rintro o S (n|rfl)
  .have:=(A9 A o n.symm).1;omega
  .exact .inl K
 .rw[heap_setCell_same w2 a 6 _ _ _ u];rfl
 .have:w2.ownsRow (V e.heap) 3 1 m (Q (b++[x])) (C8<|b++[x]):=by
   rw[qQ,Ë,T4];exact ho
  refine A3 this (I.set _ _ _) λg a9 n=>?_;grind
 .refine v.P r (v.gm.P r a2) ?_ a3;grind
theorem aW.set(H:aW e w c a f d j i k h fv Z b){oc g}(A:δ w (J a 6)=C (Y (C<|J g 0) (Q b) oc))(r)(x):
 aW e (ρ w (J g r)<|U x) c a f d j i k h fv Z (b.set r x)/\KQ w (ρ w (J g r)<|U x):=by
 obtain⟨M,⟨S,D,u,R,v⟩,N⟩:=H;have n:S=Y (C<|J g 0) (Q b) oc:=by
  rw[á w a 6 _ _ _ u]at A;exact xZ A
 subst n;obtain⟨T,G,P⟩:=A9 R g K;have o:I (λm=>m=g) w (ρ w (J g r)<|U x):=I.set w (J g r)<|U x;have F:∀{m:Nat} {s:Array χ} {n:TypeId} {t:Nat×Nat},w.heap[m]?=C (γ s n t)->n≠3->m≠g:=λ{m s n t} z y p=>θ;refine⟨⟨M.trans o λm z p=>W,⟨Y (C<|J g 0) (Q b) oc,D,?_,?_,?_⟩,N⟩,o.size,λq s n t B _ _ L _=>by rw[o.block q (aG B)<|F B L];omega⟩
 .rw[o.block a (aG u)<|F u ε];omega
 .grind[List.length_set,wP]
 .refine v.P o (v.gm.P o λp=>?_) ?_ λ_ x _=>x
  .subst p;exact v.gm.tag _ _ _ P
  .rintro m G n z y p;obtain rfl|rfl|⟨_,hok⟩:=y
   .grind
   .grind
   .exact hok (by rw[show m=g from p];rfl)
end
