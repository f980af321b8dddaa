/-
  A part of the proof.
-/
import Derived.Test.YtllclkcjdhoohaaGreatDoorScanB
import Derived.Deep.DeepCutAuto
import Derived.Laws.AppendOwnNone
set_option maxHeartbeats 0
set_option linter.all false
set_option maxRecDepth 100000
namespace Go.Proofs.YtllclkcjdhoohaaGreatDoor
open _root_.Array renaming size->V
open Bool renaming true->τ,false->κ
open Fr renaming no->Å
open Go renaming maxLen->Δ,Value->υ,Calls->μ,Addr->í,info_parts->ý,wpList_append_own->Ù,frozen_of_row->æ
open Ending renaming returned->π
open Instr renaming lookup->Ì,mapUpdate->Ï
open Obj renaming cells->γ
open Go.Proofs.Tryz renaming prog->ε
open Value renaming string->ι,ownBlock->Θ,slice->Y
open World renaming alloc->ω,ownsRow->ρ,cell?->δ,setCell->σ
open I renaming grown->ü,drewN->Ψ,alloc->ν,refl->ì
open List renaming length->Q,toArray->ξ
open Nat renaming add_assoc->þ,add_zero->Ð
open Nd renaming fl->ģ
open Option renaming some->C
open Go.Proofs.Tryz
open Go.RowKit Go.Maps
def EO:Keyed ε 9:=string_keyed underlying9
def DH(l:bZ)(h:Q l<=1000000):keyOf ε 9 (ι ⟨ξ l⟩)=C (.string l):=by
 have a:(⟨ξ l⟩:ByteArray).size<=Δ:=by simp[ByteArray.size];unfold Δ;omega
 unfold keyOf;simp_all[mapKey]
def Zi(w:E):(zeroValue 3).run ε w=.ok (.int .i64 0) w:=î
structure iV(w:E)(q m:Nat)(f:Fr):Prop where
 own:∃n D,w.ownsMap ε 9 (plainElem (H:=Unit) ε 3) q n D/\n<=m/\IsMap D/\∀(s:bZ) (d:DataW Unit),D.atKey (.string s) d=match f s with
  |C j=>.lit<|.int .i64 j
  |none=>d
def iV.new(w:E):iV (ω w<|.map #[] 0) (V w.heap) 0 Å:=⟨0,.map [],World.ownsMap_made w _ _ _,vQ _,isMap_empty,λ_ _=>K⟩
def iV.more{w}{q m a}{f}(h:iV w q m f)(d:m<=a):iV w q a f:=by
 obtain⟨n,D,b,c,r⟩:=h.own;exact⟨n,D,b,W,r⟩
theorem iV.lt{w}{q m}{f}(h:iV w q m f):q<V w.heap:=by
 obtain⟨n,D,⟨b,a,c,_⟩,_⟩:=h.own;grind
theorem iV.P{S}{w w'}{q m}{f}(h:iV w q m f)(e:I S w w')(g:¬S q):iV w' q m f:=by
 obtain⟨n,D,⟨b,a,c,d⟩,r⟩:=h.own;exact⟨n,D,⟨b,a,by rw[e.block q (aG c) g];omega,d⟩,r⟩
theorem iV.et{w}{q m}{f}(h:iV w q m f){cs}{e}{fz}:w.heap[q]?≠C (γ cs e fz):=by
 obtain⟨n,D,⟨b,a,c,_⟩,_⟩:=h.own;grind
def iV.look{w}{q m}{f}(h:iV w q m f)(s)(l:Q s<=1000000):
 (Ì 266 (.map<|C q) (ι ⟨ξ s⟩) τ).run ε w=.ok (.tuple #[.int .i64<|(f s).getD 0,.bool (f s).isSome]) w:=by
 obtain⟨n,D,⟨t,p,k,F,_,rfl⟩,_,_,i⟩:=h.own;have a:=i s<|.lit<|.int .i64 0;have b:=i s<|.lit<|.int .i64 1;obtain⟨g,_,e⟩|⟨r,y,_,_,g,u,e,_⟩:=fit_look τ EO underlying266 (Zi w) k F<|DH s l
 .rw[e]at a b;cases d:f s with
  |none=>rw[g];rfl
  |some j=>
   rw[d]at a b;simp only[DataW.lit.injEq,Lit.int.injEq,true_and]at a b;omega
 .rw[e]at a b;cases d:f s with
  |none=>
   rw[d]at a b;simp only at a b;rw[a]at b;simp at b
  |some j=>
   rw[d]at a;simp only at a;have:=plainElem_int_inv underlying3 W;obtain⟨c,o,rfl,_⟩:=this;simp only[DataW.lit.injEq,Lit.int.injEq,true_and]at a;rw[g,o,a];rfl
def iV.put{w}{q m}{f}(h:iV w q m f)(s)(j)(l:Q s<=1000000)(v:m<=1000000)(t:0<=j/\j<=1000000):
 ∃a,(Ï 266 (.map<|C q) (ι ⟨ξ s⟩)<|.int .i64 j).run ε w=.ok () a/\iV a q (m+1) (f.set s j)/\I (λk=>k=q) w a:=by
 obtain⟨n,D,e,y,b,r⟩:=h.own;have p:(Lit.int .i64 j).wf=τ:=by
  simp[Lit.wf,IntKind.min,IntKind.max,IntKind.bits,IntKind.signed];omega
 obtain⟨a,i,g,c⟩:=e.update EO underlying266 Ñ (DH s l)<|plainElem_int underlying3 p;refine⟨a,i,⟨n+1,_,g,W,b.put _ _,λu d=>?_⟩,(ü c).mono λk _ x=>η⟩;by_cases o:u=s
 .subst o;rw[atKey_put_same b<|show WideAt.IsKeyLit (.string u) from trivial];simp[Fr.set]
 grind[atKey_put_other,Fr.set]
structure hG(w:E)(B bb:Nat)(nv av tv:υ)(ms:List Nat)(m:Nat)(fs:List Fr)(ts:uZ):Prop where
 low:B<=bb
 blk:w.heap[bb]?=C (γ #[nv,av,tv] 166 (0,0))
 ar:ρ w B 266 1 av (Q fs)<|ms.map λq=>.map<|C q
 js:ρ w B 3 1 tv (Q ts)<|C8 ts
 len:Q ms=Q fs
 nd:ms.Nodup
 ge:∀q∈ms,B<=q
 fr:∀i (h:i<Q ms) (h':i<Q fs),iV w ms[i] m fs[i]
section
variable{w w':E}{B bb m:Nat}{d c tv:υ}{a:List Nat}{b:List Fr}{e:uZ}
theorem hG.P{S}(h:hG w B bb d c tv a m b e)(f:I S w w')(l:¬S bb)(n:∀g,Θ c=C g->¬S g)(o:∀g,Θ tv=C g->¬S g)(p:∀q∈a,¬S q):hG w' B bb d c tv a m b e:=
 ⟨h.low,by rw[f.block bb (aG h.blk) l];exact h.blk,A3 h.ar f n,A3 h.js f o,h.len,h.nd,h.ge,λi j k=>(h.fr i j k).P f<|p _<|mQ j⟩
theorem hG.y(h:hG w B bb d c tv a m b e)(f:I No w w'):hG w' B bb d c tv a m b e:=h.P f id (λ_ _=>id) (λ_ _=>id) λ_ _=>id
def hG.more{f}(h:hG w B bb d c tv a m b e)(k:m<=f):hG w B bb d c tv a f b e:=⟨h.low,h.blk,h.ar,h.js,h.len,h.nd,h.ge,λi g j=>(h.fr i g j).more k⟩
theorem hG.cell(h:hG w B bb d c tv a m b e){i}(l):∃g f,c=Y (C<|J g 0) (Q a) f/\g<V w.heap/\Q a<=f/\f<=Δ/\δ w (J g i)=C (.map<|C a[i]):=by
 have j:=h.ar;rw[<-h.len]at j;obtain⟨k,f,rfl⟩:=B8 j;grind[D5]
def hG.put(h:hG w B bb d c tv a m b e)(f)(x)(j)(Z:Q x<=1000000)(P:m<=1000000)(M:0<=j/\j<=1000000):
 ∃w',(Ï 266 (.map<|C<|a.getLast f) (ι ⟨ξ x⟩)<|U j).run ε w=.ok () w'/\hG w' B bb d c tv a (m+1) (I2 b x j) e/\I (λk=>k=a.getLast f) w w':=by
 have s:=h.len;have a4:=List.length_pos_iff.2 f;have a3:b≠[]:=by
  rintro rfl;simp at s;exact f s
 have N:a.getLast f=a[Q a-1]:=by rw[List.getLast_eq_getElem]
 have a2:kG b=b[Q a-1]'W:=by
  unfold kG;have D:Q b-1=Q a-1:=W;rw[List.getLastD_eq_getLast?,List.getLast?_eq_getElem?,D,gQ W];rfl
 have p:=h.fr (Q a-1) W W;obtain⟨w',S,hF,l⟩:=p.put x j Z P M;refine⟨w',by rw[N];exact S,?_,η⟩;have nb:bb≠a[Q a-1]:=λo=>by
  have:=p.et (cs:=#[d,c,tv]) (e:=166) (fz:=(0,0));rw[<-o]at this;exact this h.blk
 have t:∀{v:υ} {n:Nat} {y:List υ} {q:TypeId} {u:Nat},ρ w B q u v n y->∀g,Θ v=C g->g≠a[Q a-1]:=by
  intro v n y q u R g G F;obtain⟨_,A,H⟩:=A9 R g G;have:=p.et (cs:=A) (e:=q) (fz:=(0,0));rw[<-F]at this;exact this H
 have T:Q (I2 b x j)=Q b:=by
  unfold I2;rw[qQ,List.length_dropLast];simp;omega
 refine⟨h.low,by rw[l.block bb (aG h.blk) nb];exact h.blk,by rw[T];exact A3 h.ar l<|t h.ar,A3 h.js l<|t h.js,W,h.nd,h.ge,λi r z=>?_⟩;by_cases L:i=Q a-1
 .subst L;grind[I2,set]
 .have o:(I2 b x j)[i]'z=b[i]'W:=by
   refine xZ ?_;rw[<-gQ,Ķ b x j i W,gQ]
  rw[o];refine((h.fr i r W).P l ?_).more W;exact(List.pairwise_iff_getElem.1 h.nd) i (Q a-1) r W W
def D3e(h:hG w B bb d c tv a m b e)(f)(s:Q a<=1000000):μ ε 268 #[pV bb] w λj w'=>j=π (.map<|C<|a.getLast f)/\I No w w':=by
 have r:=List.length_pos_iff.2 f;obtain⟨g,i,rfl,p,o,k,t⟩:=h.cell (i:=Q a-1) W;have l:a.getLast f=a[Q a-1]:=by rw[List.getLast_eq_getElem]
 rw[l];have n:δ w (J bb 1)=C (Y (C<|J g 0) (Q a) i):=cr h.blk K;unfold Δ at k;generalize a[Q a-1]=q at*;go_in;go_wp2;go_region;all_goals go_wp2
 all_goals go_ret
 all_goals exact⟨K,Ψ No _ 1⟩
end
theorem Dk(x):∀(a) (k) (i),bM x (a.drop k)=C i->bM x a=C i
 |a,0,i,h=>h
 |[],k+1,i,h=>η
 |f::r,k+1,i,h=>by
  have:=Dk x r k i h;grind[bM]
def š(x)(a:List Fr)(k)(b:k<Q a):bM x (a.drop k)=match bM x (a.drop<|k+1) with
 |C i=>C i
 |none=>a[k] x:=by
 grind[List.drop_eq_getElem_cons,bM]
section
variable{w d:E}{B b m:Nat}{f e h:υ}{c:List Nat}{a:List Fr}{g:uZ}
def C9d(L:hG w B b f e h c m a g)(ac:Q c<=1000000)(p u y A)(r:Option í)(t s)(x:bZ)(D F l)(hx:Q x<=1000000):
 μ ε 266 #[pV b,.agg #[U p,U u,U y,U A,Y r t s,ι ⟨ξ x⟩,U D,U F,U l]] w λH d=>
  I No w d/\H=match bM x a with
   |C j=>π<|U j
   |none=>gu 5 l:=by
 have aa:=L.len;obtain⟨ad,S,rfl⟩:=B8 L.ar;have a7:=rY w<|γ #[U p,U u,U y,U A,Y r t s,ι ⟨ξ x⟩,U D,U F,U l] 82;have N:I No w (ω w<|γ #[U p,U u,U y,U A,Y r t s,ι ⟨ξ x⟩,U D,U F,U l] 82):=ν No _ _;have Z:Hid (∀i,I No (ω w<|γ #[U p,U u,U y,U A,Y r t s,ι ⟨ξ x⟩,U D,U F,U l] 82) i->δ i (J (V w.heap) 5)=C (ι ⟨ξ x⟩)/\δ i (J (V w.heap) 8)=C (U l)/\δ i (J b 1)=C (Y ad (Q a) S)/\V w.heap<V i.heap/\b<V i.heap):=λi n=>by
  refine⟨A4 n ?_,A4 n ?_,?_,?_,?_⟩
  .simp
  .simp
  .have:=((L.y N).y n).blk;rw[cell_of_row i b 1 _ _ _ this];rfl
  .have:=n.size;grind
  .exact(Array.getElem?_eq_some_iff.1 ((L.y N).y n).blk).1
 have FM:Hid (∀i,I No (ω w<|γ #[U p,U u,U y,U A,Y r t s,ι ⟨ξ x⟩,U D,U F,U l] 82) i->∀k (T:k<Q a),∃o q,ad=C (J o 0)/\o<V i.heap/\Q a<=S/\S<=Δ/\δ i (J o k)=C (.map<|C q)/\
  (Ì 266 (.map<|C q) (ι ⟨ξ x⟩) τ).run ε i.drew=.ok (.tuple #[U<|(a[k] x).getD 0,.bool (a[k] x).isSome]) i.drew):=λi n k T=>by
  have hb:=(L.y N).y n;obtain⟨o,c',H,h1,h2,h3,h4⟩:=hb.cell (i:=k) W;simp at H;obtain⟨rfl,_,rfl⟩:=H;have P:=((hb.y<|Ψ No i 1).fr k W T).look x hx;exact⟨o,_,K,h1,W,h3,h4,P⟩
 have HG:=O<|zM;have HA:=O N;have a9:Q a<=1000000:=W;generalize hR:bM x a=a2;have HR:=O hR;generalize (⟨ξ x⟩:ByteArray)=xs at*;go_in;have b0:=(Z.u _<|ì _ _).2.2.1;go_wp2;go_loopw [5] (λv wr=>∃k z,k<=Q a/\v=U z/\z=k-1/\Hid (bM x (a.drop k)=none)/\Hid (I No (ω w<|γ #[U p,U u,U y,U A,Y r t s,ι xs,U D,U F,U l] 82) wr)) (λv _=>(intOf v+1).toNat);case atStart=>exact⟨Q a,Q a-1,vQ _,ï,K,by grind[Hid,bM],ì _ _⟩
 case round=>
  obtain⟨k,z,T,rfl,hz,HK,G⟩:=hrel;obtain⟨a6,f8,fb,l1,l2⟩:=Z.u _ G.u;cases k with
  |zero=>
   have ab:bM x a=none:=by simpa using HK.u
   obtain rfl:a2=none:=by rw[<-HR.u];omega
   go_wp2_with fail;refine(HG.u _ _ _).mono ?_;rintro H ae ⟨rfl,hc⟩;exact⟨K,B6 (B6 HA.u G.u) hc,K⟩
  |succ k=>
   have a5:z=k:=W;clear hz;subst a5;have a3:k<Q a:=W;obtain⟨o,q,rfl,hg,a8,a4,x0,R⟩:=FM.u _ G.u k a3;unfold Δ at a4;have M:=š x a k a3;rw[HK.u]at M;simp only at M;cases P:a[k] x with
   |none=>
    rw[P]at R M;simp at R;have HN:=O M;go_wp2;go_region;all_goals go_wp2
    all_goals go_roundw
    case rel=>exact⟨k,k-1,W,ï,K,HN.u,B6 G.u<|Ψ No _ 1⟩
    simp_all[measure,intOf]
   |some j=>
    rw[P]at R M;simp at R;obtain rfl:a2=C j:=by rw[<-HR.u];grind[Dk]
    go_wp2;go_region;all_goals go_wp2
    all_goals go_ret
    all_goals exact⟨B6 (B6 HA.u G.u)<|Ψ No _ 1,K⟩
end
def cV(B a:Nat)(f:υ)(w g:E):Prop:=I (λk=>B<=k/\(k=a\/Θ f=C k\/(∃c e,w.heap[k]?=C (γ c 266 e))\/∃d b,w.heap[k]?=C (.map d b))) w g
theorem cV.refl(B a)(b)(w):cV B a b w w:=ì _ _
theorem cV.y{B bb}{tv}{w a}(h:I No w a):cV B bb tv w a:=h.mono λ_ _ x=>x.elim
theorem cV.trans{B d}{e}{a b c}(h:cV B d e a b)(k:cV B d e b c):cV B d e a c:=by
 refine⟨k.os.trans h.os,k.tape.trans h.tape,k.output.trans h.output,kQ h.size k.size,λi f g=>?_⟩;have j:=h.block i f g;refine(k.block i (yQ f h.size) λx=>g ⟨x.1,?_⟩).trans j;grind
def cV.below{B b}{d}{w a}(h:cV B b d w a)(c:B<=V w.heap):Below B w a:=I.ep h (λ_ _ x=>x.1) c
def cV.row{B b}{d}{w e}(i:cV B b d w e){a}{c}{v}{n}{f}(h:ρ w a 3 c v n f)(l:Θ v≠C b)(o:∀g,Θ v=C g->Θ d≠C g):ρ e a 3 c v n f:=by
 refine A3 h i λg j p=>?_;obtain⟨_,k,m⟩:=A9 h g j;grind
structure dF(w0 w:E)(B bb:Nat)(nv tv:υ)(m:Nat)(fs:List Fr)(ts:uZ):Prop where
 hz:V w0.heap<=B
 le:B<=V w.heap
 jh:Below (V w0.heap) w0 w
 st:∃av ms,hG w B bb nv av tv ms m fs ts
def cW(N:List Nd)(i:Nat):Int:=(N.getD i kB).at'
def aI(j w:E)(B a:Nat)(g b:υ)(N:List Nd)(m:Nat)(h:uZ)(r:Br)(e:Ending)(c:E):Prop:=
 cV B a b w c/\match r with
  |.bad d i=>e=gu d (cW N i)
  |.ok f l=>e=rT/\dF j c B a g b m f (dG h l)
def lD(h:E)(B c:Nat)(e g:υ)(N:List Nd)(t:Nt):Prop:=∀(b f) (w) (m) (a) (d),Em N b f t->dF h w B c e g m a d->a≠[]->m+2*nN t<=100000->Q a+nN t<=100000->Q d=Q N->
 μ ε 224 #[pV c,U<|bW b f t] w (aI h w B c e g N (m+2*nN t) d<|dU a b t)
def dF.kept{i w g}{B b}{d f}{m}{c}{e}(h:dF i w B b d f m c e)(a:I No w g):dF i g B b d f m c e:=by
 obtain⟨j,l,k⟩:=h.st;exact⟨h.hz,kQ h.le a.size,h.jh.trans<|I.ep a å h.jh.size,j,l,k.y a⟩
section
variable{d:E}{B a:Nat}{c b:υ}{N:List Nd}
def wv(f)(a5:∀p∈f,1<=p.k/\lD d B a c b N p)(h t)(w)(m)(k)(u)(he:dM N h t f)(am:dF d w B a c b m k u)(a3:k≠[])(hm:m+2*aB f<=100000)(hf:Q k+aB f<=100000)(aq:Q u=Q N)
 (q) (r) (ho:ρ w 0 3 1 (Y q (Q f) r) (Q f)<|C8<|px h f) (ah:Θ (Y q (Q f) r)≠C a) (ai:∀g,Θ (Y q (Q f) r)=C g->Θ b≠C g):
 μ ε 166 #[pV a,Y q (Q f) r] w (aI d w B a c b N (m+2*aB f) u<|bE κ k h f):=by
 have x:=λp hp=>(a5 p hp).1;have y:=rG f h x;have PX:Hid (∀j (L:j<Q f),(px h f)[j]?=C (bW (h+aB (f.take j)) (t+cK (f.take j)) f[j])):=Ej f h t x;have NT:Hid (∀j,aB (f.take j)<=aB f):=λj=>by
  grind[yN,List.take_append_drop]
 have NS:Hid (∀j (L:j<Q f),aB (f.take<|j+1)=aB (f.take j)+nN f[j]):=λj L=>by
  grind[nQ,yN,aB]
 have a9:Hid (∀j l n,bE κ k h (f.take j)=.ok l n->Q l=Q k):=λj l n e=>X0 (f.take j) κ k h a3 l n e;have RW:Hid (∀G,cV B a b w G->G.ownsRow 0 3 1 (Y q (Q (px h f)) r) (Q (px h f)) (C8<|px h f)):=λG ha=>by
  rw[y];exact ha.row ho ah ai
 have a8:=O a5;have HE:=O he;have ak:Q f<=100000:=by
  have:=Kf f x;omega
 generalize ao:px h f=s at*;rw[<-y];have F:=O y;clear y ak;generalize ab:bE κ k h f=S;have P:=O ab;go_in;go_wp2;go_loopw [8] (λv wr=>∃(j:Nat) (l:List Fr) (n:List (Nat×Int)),j<=Q s/\v=U j/\Hid (bE κ k h (f.take j)=.ok l n)/\Hid (dF d wr B a c b (m+2*aB (f.take j)) l<|dG u n)/\Hid (cV B a b w wr)) (λv _=>Q s-(intOf v).toNat);case atStart=>exact⟨0,k,[],wQ _,K,Ω,by grind[Hid,aB,dG],cV.refl _ _ _ _⟩
 case round=>
  obtain⟨j,l,n,L,rfl,A,R,D⟩:=hrel;by_cases a4:j<Q s
  .have o:j<Q f:=by have:=F.u;omega
   obtain⟨g,e1,hg,an,aa,x1⟩:=D6 (RW.u _ D.u) a4;subst e1;unfold Δ at aa;have ad:s[j]=bW (h+aB (f.take j)) (t+cK (f.take j)) f[j]:=by
    have:=PX.u j o;rw[gQ a4]at this;simpa using this
   rw[ad]at x1;have aj:=a9.u j l n A.u;have ag:=NS.u j o;have ap:=NT.u<|j+1;have HC:=O ((a8.u f[j]<|mQ o).2 _ _ wr _ l (dG u n) (dM.at HE.u j o) R.u (T2 a3 aj) W W<|by grind[yX]);have BT:=O<|Rj x k h j o;have BD:Hid (∀e i,bE κ k h (f.take<|j+1)=.bad e i->S=.bad e i):=λe i H=>by rw[<-P.u];grind[yr]
   generalize bW (h+aB (f.take j)) (t+cK (f.take j)) f[j]=ix at*;generalize ac:dU l (h+aB (f.take j)) f[j]=br at*;have a6:=O ac;have a7:=O ag;go_wp2_with fail;refine HC.u.mono ?_;rintro e ar ⟨af,z⟩;have K2:=O<|D.u.trans af;have a2:=BT.u;rw[A.u,Br.jf,a6.u]at a2;cases br with
   |bad T i=>
    obtain rfl:e=gu T (cW N i):=z;obtain rfl:=BD.u T i a2;exact⟨K,K2.u,K⟩
   |ok al l2=>
    obtain⟨rfl,Z⟩:=z;rw[<-A3e,þ,<-Nat.mul_add,<-a7.u]at Z;have M:=O Z;go_wp2;grind[intOf]
  .have ae:j=Q s:=W;subst ae;have z:S=.ok l n:=by
    rw[<-P.u,<-A.u,F.u,vZ]
   have H:=R.u;rw[F.u,vZ]at H;have M:=O H;subst z;go_wp2;go_end0;exact⟨D.u,K,M.u⟩
end
def Hl(w:E)(b)(h)(f)(m:ρ w 0 3 1 (Y h (Q b) f) (Q b)<|C8 b)(hn:Q b<=100000):
 μ ε 160 #[Y h (Q b) f] w λe p=>∃i l,e=π (Y i (Q b) l)/\I No w p/\ρ p (V w.heap) 3 1 (Y i (Q b) l) (Q b) (C8 b):=by
 obtain⟨Z,L,R,S,T⟩:=ý Tryz.fy;have a9:=λw a a2 c n' A=>Lib.run_eql_slice_nil w _ _ a a2 c n' A underlying80;obtain⟨d,D⟩|⟨g,a4,a5,d,hb,G,a7,hm,a6,a8⟩:=m.2
 .have:=List.length_eq_zero_iff.1 D;subst this;simp at d;obtain⟨rfl,-,rfl⟩:=d;go_in;go_wp2;go_ret;exact⟨none,0,K,ì _ _,K,.inl ⟨K,K⟩⟩
 .simp at d;obtain⟨rfl,-,rfl⟩:=d;have P:=(aG G);have v:Hid (ρ (ω w<|γ #[] 3) (V w.heap) 3 1 (Y (C<|J (V w.heap) 0) 0 0) 0 []):=
   ⟨K,.inr ⟨V w.heap,0,#[],K,vQ _,rY w _,vQ _,wQ _,K,K⟩⟩;have s:Hid (Q (C8 b)=Q b*1):=by simp[Hid,C8]
  have t:Hid (∀j u,(C8 b)[j]?=C u->δ (ω w<|γ #[] 3) (((J g 0):í).add j)=C u):=by
   intro j u M;have e:=m.cells K j u M;have F:((J g 0):í).add j=(J g j):=by unfold Addr.add;split<;>simp_all
   rw[F]at e⊢;exact I9 P e
  have q:Hid (∀u∈C8 b,u.oneCell'=τ):=by
   intro u o;simp only[C8,kZ]at o;obtain⟨x,-,rfl⟩:=o;rfl
  go_in;go_wp2_with (at_builtin;refine Ù _ K _ _ 80 K (V w.heap) 3 Z (U 0) 1 8 underlying80 L R S T K ζ _ 0 [] K v.u (J g 0) (Q b) f (C8 b) K s.u t.u q.u ?c3 ?c4 ?c5 ?_);case c3=>omega
  case c4=>omega
  case c5=>simp
  intro v' a3 n H _;obtain⟨z,B,rfl⟩:=B8 n;have y:=O n;have r:Hid (I No w a3):=by
   refine((ν (λk=>V w.heap<=k) w _).trans (ü H) λk N x=>?_).mono (λk N x=>W);have x':C k=C (V w.heap):=x;simp at x';omega
  go_wp2;go_ret;exact⟨z,B,K,r.u,by simpa using y.u⟩
def oE(w:E)(a:uZ)(e:Ending)(d:E):Prop:=∃b c,e=π (Y b (Q a) c)/\I No w d/\ρ d (V w.heap) 3 1 (Y b (Q a) c) (Q a) (C8 a)
def rJ{w:E}{base}(b:base<=V w.heap)(a)(d:Q a<=1000):ρ (ω w<|γ (ξ (C8 a)) 3) base 3 1 (Y (C<|J (V w.heap) 0) (Q a) (Q a)) (Q a) (C8 a):=by
 have c:Q (C8 a)=Q a:=by simp[C8]
 exact⟨W,.inr ⟨V w.heap,Q a,ξ (C8 a),K,b,rY w _,vQ _,Ñ,η,η⟩⟩
section
variable(w:E)(a c d:Int)(b:uZ)(e:Option í)(f:Nat)(j:ByteArray)(g i h:Int)
def RV(k)(l:k=1\/k=2\/k=3\/k=4\/k=5\/k=16):μ ε 101 #[.agg #[U k,U a,U c,U d,Y e (Q b) f,ι j,U g,U i,U h]] w (oE w []):=by
 obtain rfl|rfl|rfl|rfl|rfl|rfl:=l<;>
 .go_in;go_wp2;go_ret;exact⟨none,0,K,ν No _ _,K,.inl ⟨K,K⟩⟩
def RX(k)(n:k=8\/k=13\/k=14\/k=15\/k=17\/k=18\/k=21\/k=24\/k=25):μ ε 101 #[.agg #[U k,U a,U c,U d,Y e (Q b) f,ι j,U g,U i,U h]] w (oE w [a]):=by
 obtain rfl|rfl|rfl|rfl|rfl|rfl|rfl|rfl|rfl:=n<;>
 .have l:=λm=>O (rJ (w:=ω w<|γ #[U m,U a,U c,U d,Y e (Q b) f,ι j,U g,U i,U h] 82) (base:=V w.heap) θ [a] θ);go_in;go_wp2;go_ret;exact⟨_,_,K,B6 (ν No _ _)<|ν No _ _,by simpa[C8]using (l _).u⟩
def DV(k)(o:k=9\/k=12\/k=19\/k=23\/k=22/\d=-1):μ ε 101 #[.agg #[U k,U a,U c,U d,Y e (Q b) f,ι j,U g,U i,U h]] w (oE w [a,c]):=by
 obtain rfl|rfl|rfl|rfl|⟨rfl,rfl⟩:=o<;>
 .have l:=λm n=>O (rJ (w:=ω w<|γ #[U m,U a,U c,U n,Y e (Q b) f,ι j,U g,U i,U h] 82) (base:=V w.heap) θ [a,c] θ);go_in;go_wp2;go_ret;exact⟨_,_,K,B6 (ν No _ _)<|ν No _ _,by simpa[C8]using (l _ _).u⟩
def GV(l)(m:l=20\/l=22/\d≠-1):μ ε 101 #[.agg #[U l,U a,U c,U d,Y e (Q b) f,ι j,U g,U i,U h]] w (oE w [a,c,d]):=by
 obtain rfl|⟨rfl,hc⟩:=m
 .have k:=O (rJ (w:=ω w<|γ #[U 20,U a,U c,U d,Y e (Q b) f,ι j,U g,U i,U h] 82) (base:=V w.heap) θ [a,c,d] θ);go_in;go_wp2;go_ret;exact⟨_,_,K,B6 (ν No _ _)<|ν No _ _,by simpa[C8]using k.u⟩
 .have k:=O (rJ (w:=ω w<|γ #[U 22,U a,U c,U d,Y e (Q b) f,ι j,U g,U i,U h] 82) (base:=V w.heap) θ [a,c,d] θ);go_in;go_wp2;go_ret;exact⟨_,_,K,B6 (ν No _ _)<|ν No _ _,by simpa[C8]using k.u⟩
def RY(k)(s:k=10\/k=11\/k=26)(u:ρ w 0 3 1 (Y e (Q b) f) (Q b)<|C8 b)(t:Q b<=100000):μ ε 101 #[.agg #[U k,U a,U c,U d,Y e (Q b) f,ι j,U g,U i,U h]] w (oE w b):=by
 obtain rfl|rfl|rfl:=s<;>
 .have m:=λo=>O<|Hl (ω w<|γ #[U o,U a,U c,U d,Y e (Q b) f,ι j,U g,U i,U h] 82) b e f (A3 u (ν No _ _) Ξ) t;go_in;go_wp2_with fail;refine(m _).u.mono ?_;rintro y z ⟨p,q,rfl,r,v⟩;have n:=O<|C7 v (θ:V w.heap<=_);have l:=O<|B6 (ν No _ _) r;go_wp2;go_ret;exact⟨p,q,K,l.u,n.u⟩
end
def C2e(w:E)(o)(a):ρ (ω (w.alloc o)<|γ #[U a] 3) (V w.heap) 3 1 (Y (C<|J (V w.heap+1) 0) 1 1) 1 [U a]:=by
 have:=rJ (w:=w.alloc o) (base:=V w.heap) θ [a] θ;simp_all[C8]
section
variable(w:E)(b e f:Int)(a:uZ)(d:Option í)(c:Nat)(j:ByteArray)(g i h:Int)
def Gq(s:ρ w 0 3 1 (Y d (Q a) c) (Q a)<|C8 a)(hn:Q a<=100000):μ ε 101 #[.agg #[U 7,U b,U e,U f,Y d (Q a) c,ι j,U g,U i,U h]] w (oE w<|b::a):=by
 obtain⟨v,r,T,Z,a2⟩:=ý Tryz.fy;have n:Hid (ρ (ω (ω w<|γ #[U 7,U b,U e,U f,Y d (Q a) c,ι j,U g,U i,U h] 82)<|γ #[U b] 3) (V w.heap) 3 1 (Y (C<|J (V w.heap+1) 0) 1 1) 1 [U b]):=C2e w _ b;have p:=O<|B6 (ν No w<|γ #[U 7,U b,U e,U f,Y d (Q a) c,ι j,U g,U i,U h] 82)<|ν No _<|γ #[U b] 3;obtain⟨m,N⟩|⟨q,a3,a4,m,hb,hg,a6,hm,a5,a7⟩:=s.2
 .have:=List.length_eq_zero_iff.1 N;subst this;simp at m;obtain⟨rfl,-,rfl⟩:=m;go_in;go_wp2_with (at_builtin;refine wpList_append_own_none K _ _ 80 K (V w.heap) 3 v 1 underlying80 r _ _ _ K n.u K ?_);go_wp2;go_ret;exact⟨_,_,K,p.u,n.u⟩
 .simp at m;obtain⟨rfl,-,rfl⟩:=m;have B:Hid (Q (C8 a)=Q a*1):=by simp[Hid,C8]
  have D:Hid (∀o u,(C8 a)[o]?=C u->δ (ω (ω w<|γ #[U 7,U b,U e,U f,Y (C<|J q 0) (Q a) c,ι j,U g,U i,U h] 82)<|γ #[U b] 3) (((J q 0):í).add o)=C u):=by
   intro o u R;have L:=s.cells K o u R;exact A4 p.u L
  have z:Hid (∀u∈C8 a,u.oneCell'=τ):=by
   intro u t;simp only[C8,kZ]at t;obtain⟨x,-,rfl⟩:=t;rfl
  go_in;go_wp2_with (at_builtin;refine Ù _ K _ _ 80 K (V w.heap) 3 v (U 0) 1 8 underlying80 r T Z a2 K ζ _ 1 _ K n.u (J q 0) (Q a) c (C8 a) K B.u D.u z.u ?c3 ?c4 ?c5 ?_);case c3=>grind[Δ]
  case c4=>omega
  case c5=>simp;omega
  intro v' y l P _;have M:1+Q a=Q (b::a):=by simp[Nat.add_comm]
  rw[M]at l;replace l:ρ y (V w.heap) 3 1 v' (Q (b::a)) (C8<|b::a):=l;obtain⟨G,H,rfl⟩:=B8 l;have F:=O l;have A:Hid (I No w y):=by
   refine((p.u.mono å).trans (ü P) λk S x=>(A9 n.u k x.symm).1).mono (λk S x=>W)
  go_wp2;go_ret;exact⟨G,H,K,A.u,F.u⟩
end
def ZO{w:E}{q}{x y z}{t}(h:w.heap[q]?=C (γ #[x,y,z] t (0,0)))(v):(σ w (J q 1) v).heap[q]?=C (γ #[x,v,z] t (0,0)):=by
 rw[heap_setCell_same w q 1 _ _ v h];rfl
def Hz{w:E}{e f}{a b}{n o}{c d}{l m}{p q}(h:ρ w e a n c l p)(i:ρ w f b o d m q)(t:a≠b){g}(j:Θ c=C g):Θ d≠C g:=by
 intro k;obtain⟨_,r,u⟩:=A9 h g j;obtain⟨_,s,v⟩:=A9 i g k;grind
theorem I6{w:E}{b}{e a}{s}{v}{n}{x}(f:ρ w b e s v n x){q}{c}{d}(i:w.heap[q]?=C (γ c a d))(j:e≠a):Θ v≠C q:=by
 intro g;obtain⟨_,h,k⟩:=A9 f q g;grind
section
variable{w w1 w2:E}{B b m:Nat}{h f d e:υ}{c:List Nat}{a:List Fr}{i:uZ}
def hG.push(n:hG w B b h f e c m a i){q}(hq:V w.heap<=q)(hB:B<=q)(v:I No w w1)(M:iV w1 q 0 Å)(p:I (λk=>C k=Θ f) w1 w2)(ho:w2.ownsRow B 266 1 d (Q a+1)<|(c.map λq=>.map<|C q)++[.map<|C q]):
 hG (w2.setCell (J b 1) d) B b h d e (c++[q]) m (a++[Å]) i/\cV B b e w (w2.setCell (J b 1) d):=by
 have o:=n.y v;have S:=I6 o.ar o.blk ζ;have T:∀g,Θ e=C g->¬C g=Θ f:=λg N l=>Hz o.js o.ar ζ N l.symm;have D:∀{x:Nat} {m:Nat} {s:Fr},iV w1 x m s->¬C x=Θ f:=λj l=>by
  obtain⟨_,H,P⟩:=A9 o.ar _ l.symm;exact j.et P
 have z:w2.heap[b]?=C (γ #[h,f,e] 166 (0,0)):=by
  rw[p.block b (aG o.blk) λl=>S l.symm];exact o.blk
 have Z:=A3 o.js p T;have G:=ZO z d;have u:I (λk=>k=b) w2 (w2.setCell (J b 1) d):=I.set w2 (J b 1) d;have R:=n.len;have A:∀{x:Nat} {m:Nat} {s:Fr},iV w1 x m s->iV (w2.setCell (J b 1) d) x m s:=λj=>by
  refine(j.P p<|D j).P u ?_;rintro rfl;exact(j.P p<|D j).et z
 have a2:∀x∈c,x<V w.heap:=λx j=>by
  obtain⟨r,t,rfl⟩:=List.getElem_of_mem j;exact(n.fr r t W).lt
 refine⟨⟨n.low,G,?_,A3 Z u ?_,?_,?_,?_,?_⟩,?_⟩
 .grind[A3,I6]
 .grind[I6]
 .grind
 .rw[List.nodup_append];refine⟨n.nd,θ,λy ha F hb=>?_⟩;grind
 .intro x j;obtain j|j:=qW.1 j
  .exact n.ge x j
  grind
 .intro r y F;by_cases t:r<Q c
  .rw[List.getElem_append_left t,List.getElem_append_left W];exact A ((n.fr r t W).P v id)
  .have L:r=Q c:=by simp at y;omega
   subst L;rw[List.getElem_append_right<|vQ _,List.getElem_append_right W];simp only[Nat.sub_self,List.getElem_cons_zero,R];exact(A M).more<|wQ _
 .refine I.trans (I.trans (v.mono λ_ _ x=>x.elim) p λk _ l=>?_) u λk _ l=>⟨l ▸ n.low,.inl l⟩;obtain⟨g1,H,g2⟩:=A9 n.ar k l.symm;grind
def hG.r9(j:hG w B b h f e c m a i)(H:a≠[]):∃g l,f=Y (C<|J g 0) (Q a) l/\Q a<=l/\l<=Δ/\g<V w.heap/\hG (σ w (J b 1)<|Y (C<|J g 0) (Q a-1) l) B b h (Y (C<|J g 0) (Q a-1) l) e c.dropLast m a.dropLast i/\cV B b e w (σ w (J b 1)<|Y (C<|J g 0) (Q a-1) l):=by
 have Z:=List.length_pos_iff.2 H;have u:=j.len;obtain⟨_,S⟩|⟨g,p,s,rfl,D,o,L,v,F,z⟩:=j.ar.2
 .omega
 .have A:=ZO j.blk<|Y (C<|J g 0) (Q a-1) p;have r:I (λk=>k=b) w (σ w (J b 1)<|Y (C<|J g 0) (Q a-1) p):=I.set w (J b 1) _;have G:Q a.dropLast=Q a-1:=List.length_dropLast;have T:Q c.dropLast=Q a-1:=by rw[List.length_dropLast,u]
  have y:ρ w B 266 1 (Y (C<|J g 0) (Q a-1) p) (Q a-1) (c.dropLast.map λq=>.map<|C q):=by
   refine⟨η,.inr ⟨g,p,s,K,D,o,W,v,F,?_⟩⟩;rw[Nat.mul_one]at z⊢;have:(s.toList.take (Q a)).take (Q a-1)=(c.map λq=>Value.map<|C q).take (Q a-1):=by rw[z]
   rw[List.take_take,Nat.min_eq_left W]at this;rw[this,List.dropLast_eq_take,u,List.map_take]
  refine⟨g,p,K,L,v,(aG o),⟨j.low,A,?_,A3 j.js r ?_,?_,?_,?_,?_⟩,r.mono λk _ n=>⟨n ▸ j.low,.inl n⟩⟩
  .rw[G];exact A3 y r (λg o n=>I6 y j.blk ζ<|n ▸ o)
  .rintro g o rfl;exact I6 j.js j.blk ζ o
  .omega
  .exact j.nd.sublist<|List.dropLast_sublist _
  .exact λx M=>j.ge x<|(List.dropLast_sublist _).subset M
  .intro N P R;rw[List.getElem_dropLast,List.getElem_dropLast];have t:=j.fr N W W;refine t.P r ?_;rintro n;exact t.et<|n ▸ j.blk
end
def ł:(prog.info? 266).map (λi=>(i.zero,i.size,i.bytes))=C (C<|.map none,1,8):=î
section
variable{f w:E}{B a m:Nat}{d c:υ}{b:List Fr}{e:uZ}{N:List Nd}
def XZ(t:Nat)(cf:∀(R) (L:E),(callFunc t R).run ε L=.ok (.enter t R) L)(h:dF f w B a d c m b e)(ar:Q b<=100000)(D)(r)(hr:∀i l,r=.ok i l->i≠[]/\Q i<=100001)(c1 c2)(HD:∀q,cV B a c w q->dF f q B a d c m (b++[Å]) e->μ ε t #[c1,c2] q (aI f q B a d c N D e r)):
 μ ε 270 #[pV a,.func (.func t) #[] #[c1,c2]] w (aI f w B a d c N D e r.pop):=by
 obtain⟨i0,hi,aj,ak,al⟩:=ý ł;have ay:=@run_makeMap ε;obtain⟨av,ms,k⟩:=h.st;have ax:=k.len;have n:=h.le;have A:=(aG k.blk);have b1:δ w (J a 1)=C av:=cr k.blk K;have a2:I No w (ω (ω w<|.map #[] 0)<|γ #[.map<|C (V w.heap)] 266):=B6 (ν No _ _)<|ν No _ _;have G:=O (k.y a2).ar;have HF:Hid (iV (ω (ω w<|.map #[] 0)<|γ #[.map<|C (V w.heap)] 266) (V w.heap) 0 Å):=(iV.new w).P (ν No _ _) id;have p:=O a2;have v:=O k;have j:=O h;have HR:=O hr;have a7:=O HD;obtain⟨M,P,rfl⟩:=B8 k.ar;go_in;go_wp2_with (at_builtin;refine Ù _ K _ _ 164 K B 266 i0 (.map none) 1 8 underlying164 hi aj ak al K ζ _ (Q b) _ K G.u (J (V w.heap+1) 0) 1 1 [.map<|C (V w.heap)] K K ?c1 ?c2 ?c3 ?c4 ?c5 ?_);case c1=>
  have:=cell_one_new (ω w<|.map #[] 0) (.map<|C (V w.heap)) 266;simp_all
 case c2=>intro b0 hu;simp at hu;obtain rfl:=hu;rfl
 case c3=>grind[Δ]
 case c4=>omega
 case c5=>simp;omega
 intro v' u a5 a3 _;obtain⟨ai,s⟩:=v.u.push (vQ _) n p.u HF.u (ü a3) a5;have S:u.heap[a]?=C (γ #[d,Y M (Q b) P,c] 166 (0,0)):=by
  rw[(ü a3).block a (yQ A p.u.size) λx=>I6 G.u (by rw[p.u.block a A id];exact v.u.blk) ζ x.symm,p.u.block a A id];exact v.u.blk
 have ao:δ u (J a 1)=C (Y M (Q b) P):=cr S K;have z2:=λo=>æ u a o _ _ S;obtain⟨ab,a9,rfl⟩:=B8 a5;have a6:Hid (dF f (σ u (J a 1)<|Y ab (Q b+1) a9) B a d c m (b++[Å]) e):=⟨j.u.hz,kQ n s.size,j.u.jh.trans<|(s.below n).mono j.u.hz,_,_,ai⟩;have HC:=O<|a7.u _ s a6.u;have K2:=O s;go_wp2;refine HC.u.mono ?_;rintro x F ⟨ag,Z⟩;have H:=O<|K2.u.trans ag;cases r with
 |bad er am=>
  obtain rfl:x=gu er (cW N am):=Z;exact⟨K,H.u,K⟩
 |ok i l=>
  obtain⟨rfl,ad⟩:=Z;obtain⟨a4,au⟩:=HR.u i l K;obtain⟨an,az,z⟩:=ad.st;obtain⟨g,T,rfl,aq,af,hg,hp,ah⟩:=z.r9 a4;unfold Δ at af;have aw:=List.length_pos_iff.2 a4;have ap:F.cell? (J a 1)=C (Y (C<|J g 0) (Q i) T):=cr z.blk K;have z3:=λo=>æ F a o _ _ z.blk;have HP:=O hp;have a8:=O ah;go_wp2;go_region;all_goals go_end0
  all_goals
   have y:=H.u.trans a8.u;have ae:dF f (F.setCell (J a 1)<|Y (C<|J g 0) (Q i-1) T) B a d c D i.dropLast (dG e l):=⟨j.u.hz,kQ n y.size,j.u.jh.trans<|(y.below n).mono j.u.hz,_,_,HP.u⟩;exact⟨y.trans<|cV.y<|Ψ No _ 1,K,ae.kept<|Ψ No _ 1⟩
end
def dM.np{N}{o}:∀{a} {b c},dM N b c (a++[.ty o])->dM N b c a:=by
 intro a b c ⟨A,B,h,d⟩;refine⟨A,B,?_,d⟩;rw[h];have:∀(a:List Nt) (b c:Nat),U2 b c (a++[.ty o])=U2 b c a:=by
  intro a;induction a with
  |nil=>intro b c;rfl
  |cons p r e=>grind[U2]
 grind
theorem fA{o}:∀(d) (a) (c) (b),bE a c b (d++[.ty o])=bE a c b d
 |[],a,c,b=>Ω
 |.ty _::r,a,c,b=>by rw[jZ,bE,bE,fA r]
 |.nd k f n e::r,a,c,b=>by rw[jZ,bE,bE];simp only[fA r]
def LK{p}(h:p.k=-1)(a:Gd p):p=.ty none:=by
 cases p with
 |ty t=>cases t<;>grind[Nt.k]
 |nd k c n b=>
  simp_all[Gd,Nt.k,bO]
def eE(n:Nd)(a:Option í)(b:Nat):υ:=.agg #[U n.x,U n.a,U n.b,U n.c,Y a (Q n.M) b,ι ⟨ξ n.text⟩,U n.n,U n.ty,U n.at']
structure zJ(N:List Nd)(b tb:Nat)(ps:List Nt)(nd:Nd)(qs:List Nt):Prop where
 k:∀p∈qs,1<=p.k/\p∈ps
 em:dM N b tb qs
 bn:∀fs,bE κ fs b ps=bE κ fs b qs
 n:aB qs=aB ps
 run:∀(w:E) (la:Option í) (lc:Nat),ρ w 0 3 1 (Y la (Q nd.M) lc) (Q nd.M) (C8 nd.M)->Q nd.M<=100000->μ ε 101 #[eE nd la lc] w (oE w<|px b qs)
def xz{k}{tx}{a5}{A}(hg:Gd<|.nd k tx a5 A)(hk:k≠6/\k≠17/\k≠26){a3}{b t}(B:dM a3 b t A)(nd)(a:nd.fl=bV k tx a5 (bD b t A)):∃qs,zJ a3 b t A nd qs:=by
 rw[Gd]at hg;obtain⟨d,a6⟩:=hg;obtain⟨kd,va,vb,vc,ls,a9,vn,vt,vp⟩:=nd;have T:∀p∈A,Gd p:=λp H=>tN a6 H;unfold bO at d;by_cases N:k=1\/k=2\/k=3\/k=4\/k=5
 .rw[yY N]at d;have h:=N;have:A=[]:=by simpa using d
  subst this;obtain rfl|rfl|rfl|rfl|rfl:=h<;>
  .simp[ģ,bV,bD]at a;obtain⟨rfl,rfl,rfl,rfl,rfl,-⟩:=a;exact⟨[],θ,B,λ_=>K,K,λw g i _ _=>RV w _ _ _ [] g i _ _ _ _ _ θ⟩
 rw[wY N]at d;by_cases u:k=6
 .omega
 rw[wY u]at d;by_cases m:k=7
 .rw[yY m]at d;have h:=m;subst h;obtain⟨x,xs,u,m,n⟩:=d;have c:∀p∈A,1<=p.k:=λp H=>by
   have:p.k∈A.map Nt.k:=kZ.2 ⟨p,H,K⟩;rw[u]at this;obtain e|e:=jW.1 this
   .rw[e];exact m.1
   .exact(n _ e).1
  rw[X9 b t A c]at a;simp[ģ,bV]at a;obtain⟨rfl,D,rfl,rfl,v,-⟩:=a;have l:px b A=va::ls:=by
   have s:=rG A b c;have a7:=congrArg Q u;simp at a7;revert D v s;cases px b A with
   |nil=>grind
   |cons y ys=>grind
  exact⟨A,λp H=>⟨c p H,H⟩,B,λ_=>K,K,λw g i M s=>by rw[l];exact Gq w va 0 0 ls g i _ _ _ _ M s⟩
 rw[wY m]at d;by_cases n:k=8\/k=13\/k=15\/k=18\/k=21\/k=24\/k=25
 .rw[yY n]at d;have h:=n;obtain⟨x,u,m⟩:=d;obtain⟨p,rfl,n⟩:=k1 u;have c:∀q∈[p],1<=q.k:=by simp[n];exact m.1
  rw[X9 b t _ c]at a;have s:=rG [p] b c;match l:px b [p],s with
  |[y],_=>
   rw[l]at a;obtain rfl|rfl|rfl|rfl|rfl|rfl|rfl:=h<;>
   .simp[ģ,bV]at a;obtain⟨rfl,rfl,rfl,rfl,rfl,-⟩:=a;exact⟨[p],λq f=>⟨c q f,f⟩,B,λ_=>K,K,λw g i _ _=>by rw[l];exact RX w _ _ _ [] g i _ _ _ _ _ θ⟩
 rw[wY n]at d;by_cases D:k=9\/k=12\/k=19
 .rw[yY D]at d;have h:=D;obtain⟨x,y,u,m,D⟩:=d;obtain⟨p,q,rfl,n,v⟩:=k2 u;have c:∀F∈[p,q],1<=F.k:=by simp[n,v];exact⟨m.1,D.1⟩
  rw[X9 b t _ c]at a;have s:=rG [p,q] b c;match l:px b [p,q],s with
  |[y,z],_=>
   rw[l]at a;obtain rfl|rfl|rfl:=h<;>
   .simp[ģ,bV]at a;obtain⟨rfl,rfl,rfl,rfl,rfl,-⟩:=a;exact⟨[p,q],λq f=>⟨c q f,f⟩,B,λ_=>K,K,λw g i _ _=>by rw[l];exact DV w _ _ _ [] g i _ _ _ _ _ θ⟩
 rw[wY D]at d;by_cases v:k=10
 .rw[yY v]at d;have h:=v;subst h;have c:∀q∈A,1<=q.k:=λp H=>ù;rw[X9 b t _ c]at a;simp[ģ,bV]at a;obtain⟨rfl,rfl,rfl,rfl,rfl,-⟩:=a;exact⟨A,λq f=>⟨c q f,f⟩,B,λ_=>K,K,λw g i M s=>RY w _ _ _ _ g i _ _ _ _ _ θ M s⟩
 rw[wY v]at d;by_cases L:k=11
 .rw[yY L]at d;have h:=L;subst h;have c:=λp H=>(d _<|kZ.2 ⟨p,H,K⟩).1;rw[X9 b t _ c]at a;simp[ģ,bV]at a;obtain⟨rfl,rfl,rfl,rfl,rfl,-⟩:=a;exact⟨A,λq f=>⟨c q f,f⟩,B,λ_=>K,K,λw g i M s=>RY w _ _ _ _ g i _ _ _ _ _ θ M s⟩
 rw[wY L]at d;by_cases G:k=14
 .rw[yY G]at d;have h:=G;subst h;obtain⟨x,u,m⟩:=d;obtain⟨p,q,rfl,n,v⟩:=k2 u;obtain⟨a2,rfl⟩:=xV (T q θ)<|.inr v;have c:∀q∈[p],1<=q.k:=by simp[n];exact m.1
  have Z:bD b t [p,.ty a2]=px b [p]++[bW (b+nN p) (t+nT p)<|.ty a2]:=by
   rw[<-X9 b t _ c];simp[bD]
  rw[Z]at a;have s:=rG [p] b c;match l:px b [p],s with
  |[y],_=>
   rw[l]at a;simp[ģ,bV]at a;obtain⟨rfl,rfl,rfl,rfl,rfl,-⟩:=a;exact⟨[p],λq f=>⟨c q f,η⟩,dM.np B,λ_=>fA [p] _ _ _,Ω,λw g i _ _=>by rw[l];exact RX w _ _ _ [] g i _ _ _ _ _ θ⟩
 rw[wY G]at d;by_cases S:k=16
 .rw[yY S]at d;have h:=S;subst h;obtain⟨x,u,m⟩:=d;obtain⟨p,rfl,n⟩:=k1 u;obtain⟨a2,rfl⟩:=xV (T p θ)<|n ▸ m;simp[ģ,bV]at a;obtain⟨rfl,rfl,rfl,rfl,rfl,-⟩:=a;exact⟨[],θ,dM.np B,λ_=>fA [] _ _ _,Ω,λw g i _ _=>RV w _ _ _ [] g i _ _ _ _ _ θ⟩
 rw[wY S]at d;by_cases h9:k=17
 .omega
 rw[wY h9]at d;by_cases P:k=20
 .rw[yY P]at d;have h:=P;subst h;obtain⟨x,y,z,u,m,D,L⟩:=d;obtain⟨p,q,r,rfl,n,v,G⟩:=k3 u;have c:∀F∈[p,q,r],1<=F.k:=by simp[n,v,G];exact⟨m.1,D.1,L.1⟩
  rw[X9 b t _ c]at a;have s:=rG [p,q,r] b c;match l:px b [p,q,r],s with
  |[y,z,aa],_=>
   rw[l]at a;simp[ģ,bV]at a;obtain⟨rfl,rfl,rfl,rfl,rfl,-⟩:=a;exact⟨[p,q,r],λq f=>⟨c q f,f⟩,B,λ_=>K,K,λw g i _ _=>by rw[l];exact GV w _ _ _ [] g i _ _ _ _ _ θ⟩
 rw[wY P]at d;by_cases R:k=22
 .rw[yY R]at d;have h:=R;subst h;obtain⟨x,z,u,m,D⟩:=d;obtain⟨p,q,r,rfl,n,v,G⟩:=k3 u;obtain rfl|rfl:=D
  .have c:∀F∈[p,q,r],1<=F.k:=by simp[n,v,G];exact m.1
   have hr:∃j:Nat,px b [p,q,r]=[bW b t p,bW (b+nN p) (t+nT p) q,j]:=by
    rw[<-X9 b t _ c];cases r with
    |ty o=>cases o<;>simp[Nt.k]at G
    |nd k' t' n' a8=>exact⟨b+nN p+nN q+aB a8,by grind[bD,Em.ix]⟩
   obtain⟨j,l⟩:=hr;rw[X9 b t _ c,l]at a;simp[ģ,bV]at a;obtain⟨rfl,rfl,rfl,rfl,rfl,-⟩:=a;exact⟨[p,q,r],λq f=>⟨c q f,f⟩,B,λ_=>K,K,λw g i _ _=>by rw[l];exact GV w _ _ _ [] g i _ _ _ _ _<|.inr ⟨K,show (j:Int)≠-1 by omega⟩⟩
  .obtain rfl:=LK G (T r θ);have c:∀F∈[p,q],1<=F.k:=by simp[n,v];exact m.1
   have Z:bD b t [p,q,.ty none]=px b [p,q]++[-1]:=by
    rw[<-X9 b t _ c];simp[bD,bW]
   rw[Z]at a;have s:=rG [p,q] b c;match l:px b [p,q],s with
   |[y,z],_=>
    rw[l]at a;simp[ģ,bV]at a;obtain⟨rfl,rfl,rfl,rfl,rfl,-⟩:=a;exact⟨[p,q],λF f=>⟨c F f,η⟩,dM.np B,λ_=>fA [p,q] _ _ _,Ω,λw g i _ _=>by rw[l];exact DV w _ _ _ [] g i _ _ _ _ _ θ⟩
 rw[wY R]at d;by_cases a4:k=23
 .rw[yY a4]at d;have h:=a4;subst h;obtain⟨x,u,m⟩:=d;obtain⟨p,q,rfl,n,v⟩:=k2 u;have c:∀F∈[p,q],1<=F.k:=by simp[n,v];exact m.1
  rw[X9 b t _ c]at a;have s:=rG [p,q] b c;match l:px b [p,q],s with
  |[y,z],_=>
   rw[l]at a;simp[ģ,bV]at a;obtain⟨rfl,rfl,rfl,rfl,rfl,-⟩:=a;exact⟨[p,q],λq f=>⟨c q f,f⟩,B,λ_=>K,K,λw g i _ _=>by rw[l];exact DV w _ _ _ [] g i _ _ _ _ _ θ⟩
 grind
def cU(w:E)(b:υ)(N:List Nd):Prop:=∃a,ρ w 0 82 9 b (Q N) a/\eN (gE w λ_=>True) N a
theorem cU.at{d w:E}{s}{N}(h:cU d s N)(c:Below (V d.heap) d w)(i)(y):
 ∃g m f l,s=Y (C<|J g 0) (Q N) m/\g<V w.heap/\Q N<=m/\m<=Δ/\(δ w (J g<|i*9)=C (U N[i].x)/\δ w (J g<|i*9+1)=C (U N[i].a)/\δ w (J g<|i*9+2)=C (U N[i].b)/\δ w (J g<|i*9+3)=C (U N[i].c)/\
  δ w (J g<|i*9+4)=C (Y f (Q N[i].M) l)/\δ w (J g<|i*9+5)=C (ι ⟨ξ N[i].text⟩)/\δ w (J g<|i*9+6)=C (U N[i].n)/\δ w (J g<|i*9+7)=C (U N[i].ty)/\δ w (J g<|i*9+8)=C (U N[i].at'))/\
  ρ w 0 3 1 (Y f (Q N[i].M) l) (Q N[i].M) (C8 N[i].M)/\∀q,Θ (Y f (Q N[i].M) l)=C q->q<V d.heap:=by
 obtain⟨H,r,A⟩:=h;obtain⟨G,m,rfl⟩:=B8 r;obtain⟨g,rfl,_,p,u,x,a⟩:=D5 r W;obtain⟨L,B,D⟩:=eN.at (λ_ _ h=>h.len) i y A;obtain⟨F,rfl,n,_⟩:=B;obtain⟨f,l,rfl⟩:=B8 n;have b:∀j v,δ d (J g j)=C v->δ w (J g j)=C v:=λj v e=>by
  have:=c.block g p;grind[δ]
 have t:I (λk=>V d.heap<=k) d w:=⟨c.os,c.tape,c.output,c.size,λk z _=>c.block k z⟩;refine⟨g,m,f,l,K,yQ p c.size,u,x,⟨b _ _<|a _ _ ?_,b _ _<|a _ _ ?_,b _ _<|a _ _ ?_,b _ _<|a _ _ ?_,b _ _<|a _ _ ?_,b _ _<|a _ _ ?_,b _ _<|a _ _ ?_,b _ _<|a _ _ ?_,b _ _<|a _ _ ?_⟩,A3 n t λq o=>by have:=(n.lt q o).2;omega,λq o=>(n.lt q o).2⟩
 .have:=D 0 W;grind
 .grind
 .grind
 .grind
 .grind
 .grind
 .grind
 .simp_all
 simp_all
def cV.other{B a}{c}{w d}(f:cV B a c w d){q}{b}{e}(h:w.heap[q]?=C (γ b e (0,0)))(i:e≠266)(g:q≠a)(j:Θ c≠C q):d.heap[q]?=C (γ b e (0,0)):=by
 rw[f.block q (aG h) λx=>?_]<;>grind
def dF.tv{n w}{B a m}{k d}{g}{l}(h:dF n w B a k d m g l){q}{f}{e}{i}(b:w.heap[q]?=C (γ f e i))(j:e≠3/\e≠166):q≠a/\Θ d≠C q:=by
 obtain⟨o,p,c⟩:=h.st;refine⟨?_,I6 c.js b<|Ne.symm j.1⟩;rintro rfl;rw[c.blk]at b;grind
def dF.low{i w}{B a m}{f c}{d}{g}(h:dF i w B a f c m d g):B<=a/\∀q,Θ c=C q->B<=q:=by
 obtain⟨j,k,b⟩:=h.st;exact⟨b.low,λq e=>(b.js.lt q e).1⟩
section
variable{b:E}{B a:Nat}{d c:υ}{N:List Nd}
def BV(f)(s:∀p∈f,1<=p.k/\lD b B a d c N p)(j t)(w)(m)(k)(o)(u:dM N j t f)(h:dF b w B a d c m k o)(x:k≠[])(D:m+2*aB f<=100000)(v:Q k+aB f<=100000)(G:Q o=Q N)
 (l) (n) (i) (A:i=px j f) (r:ρ w 0 3 1 (Y l (Q i) n) (Q i)<|C8 i) (z:∀q,Θ (Y l (Q i) n)=C q->q<V b.heap\/B<=q/\q≠a/\Θ c≠C q):
 μ ε 166 #[pV a,Y l (Q i) n] w (aI b w B a d c N (m+2*aB f) o<|bE κ k j f):=by
 subst A;have y:=rG f j λp F=>(s p F).1;obtain⟨M,P⟩:=h.low;have L:=h.hz;rw[y]at r z⊢;refine wv f s j t w m k o u h x D v G l n r (λe=>?_) (λg H e=>?_)<;>grind
def Oo(f)(z:∀p∈f,1<=p.k/\lD b B a d c N p)(j G)(w)(m)(i)(o)(t:dM N j G f)(h:dF b w B a d c m i o)(Z:i≠[])(hm:m+2*aB f<=100000)(T:Q i+aB f<=100000)(a2:Q o=Q N)
 (k) (n) (g) (x:g=px j f) (y:ρ w 0 3 1 (Y k (Q g) n) (Q g)<|C8 g) (v:∀q,Θ (Y k (Q g) n)=C q->q<V b.heap)
 (r s) (A:w.heap[r]?=C (γ #[pV a] 161 (0,0))) (kd va vb vc) (xs) (vn vt vp) (D:w.heap[s]?=C (γ #[U kd,U va,U vb,U vc,Y k (Q g) n,ι xs,U vn,U vt,U vp] 82 (0,0))):
 μ ε 271 #[pV r,pV s] w (aI b w B a d c N (m+2*aB f) o<|bE κ i j f):=by
 have H:=O<|BV f z j G w m i o t h Z hm T a2 k n g x y λq hq=>.inl<|v q hq;have a4:δ w (J r 0)=C (pV a):=cr A K;have a5:δ w (J s 4)=C (Y k (Q g) n):=cr D K;generalize bE κ i j f=P at*;generalize m+2*aB f=mm at*;clear A D y v h t z x;go_in;go_wp2_with fail;refine H.u.mono ?_;rintro e a7 ⟨u,F⟩;cases P with
 |bad R a3=>
  obtain rfl:e=gu R (cW N a3):=F;exact⟨K,u,K⟩
 |ok a6 l=>
  obtain⟨rfl,S⟩:=F;have M:=O u;have L:=O S;go_wp2;go_end0;exact⟨M.u,K,L.u⟩
end
theorem pJ{o}{l}{n}{d}:∀(c) (a) (b),(∀p∈c,p.k=16)->bE τ a b (c++[.ty o,.nd 26 l n d])=(bE κ a b c).and λf=>bE κ f (b+aB c) d
 |[],a,b,_=>by
  rw[uY,bE,bE,bE];simp only[Bool.true_and,beq_self_eq_true,↓reduceIte,bE,Br.and_nil,aB,Ð];grind[Br.jf,bE]
 |.ty t::r,a,b,h=>by
  have:=h (.ty t) θ;cases t<;>simp[Nt.k]at this
 |.nd k m i j::r,a,b,h=>by
  have e:=h (.nd k m i j) θ;subst e;rw[jZ,bE,bE];simp only[Bool.true_and,Bool.false_and,show ((16:Int)==26)=κ from K,yZ,↓reduceIte,Br.and_assoc];congr 1;funext f;rw[pJ r f _ λp g=>h p<|by simp[g],aB,þ]
def dM.left{N}:∀{a d} {b c},dM N b c (a++d)->dM N b c a/\dM N (b+aB a) (c+cK a) d:=by
 intro a d b c ⟨A,B,h,f⟩;have e:∀(a:List Nt) (b c:Nat),U2 b c (a++d)=U2 b c a++U2 (b+aB a) (c+cK a) d:=by
  intro a;induction a with
  |nil=>intro b c;rfl
  |cons p r g=>intro b c;grind[U2,aB,cK]
 rw[e]at h;exact⟨⟨A,U2 (b+aB a) (c+cK a) d++B,η,f⟩,⟨A++U2 b c a,B,η,by grind[qQ,vM]⟩⟩
section
variable{e:E}{B a:Nat}{d c:υ}{N:List Nd}
def DX(e w:E)(B a:Nat)(d c:υ)(N:List Nd)(m:Nat)(g:uZ)(r:Br)(b:Ending)(h:E):Prop:=
 (∃f p,b=gu f p/\Hid (aI e w B a d c N m g r (gu f p) h))\/(b=rT/\Hid (aI e w B a d c N m g r (rT) h))
def aI.td{w k}{m}{j}{r}{b}(h:aI e w B a d c N m j r b k):DX e w B a d c N m j r b k:=by
 have g:=h.2;cases r with
 |bad n i=>
  obtain rfl:b=gu n (cW N i):=g;exact .inl ⟨_,_,K,h⟩
 |ok f l=>
  obtain⟨rfl,_⟩:=g;exact .inr ⟨K,h⟩
theorem aI.and{w j m}{g}{i}{f}{l}{k}{b}(o:cV B a c w j)(h:aI e j B a d c N g (dG i l) (k f) b m):aI e w B a d c N g i ((Br.ok f l).and k) b m:=by
 obtain⟨n,p⟩:=h;refine⟨o.trans n,?_⟩;rw[Br.jf];grind[dG]
def aI.more{w n}{m j}{k}{r}{g}(h:aI e w B a d c N m k r g n)(s:m<=j):aI e w B a d c N j k r g n:=by
 refine⟨h.1,?_⟩;have p:=h.2;cases r with
 |bad v i=>omega
 |ok f l=>
  obtain⟨q,b⟩:=p;obtain⟨o,u,t⟩:=b.st;exact⟨q,b.hz,b.le,b.jh,o,u,t.more s⟩
def aI.after{w g i}{m}{f}{r}{b}(j:cV B a c w g)(h:aI e g B a d c N m f r b i):aI e w B a d c N m f r b i:=⟨j.trans h.1,h.2⟩
def B8c(hN:cU e d N)(i)(an)(tx)(am)(j)(a6:∀p∈i,p.k=16/\lD e B a d c N p)(a7:∀p∈j,1<=p.k/\lD e B a d c N p)(b tb)(w)(m)(n)(s)
 (he:dM N b tb<|i++[.ty an,.nd 26 tx am j]) (h:dF e w B a d c m n s) (a5:n≠[]) (hm:m+2*(aB i+aB j)<=100000) (hf:Q n+(aB i+aB j)<=100000) (az:Q s=Q N) (b2:Q N<=100000)
 (u) (x) (r) (ah:r=px b i) (ho:ρ w 0 3 1 (Y u (Q r) x) (Q r)<|C8 r) (ag:∀q,Θ (Y u (Q r) x)=C q->q<V e.heap)
 (D F) (M:w.heap[D]?=C (γ #[pV a] 161 (0,0))) (kd vb vc) (xs) (vn vt vp) (A:w.heap[F]?=C (γ #[U kd,U<|(b+aB i+aB j:Nat),U vb,U vc,Y u (Q r) x,ι xs,U vn,U vt,U vp] 82 (0,0))):
 μ ε 290 #[pV D,pV F] w (aI e w B a d c N (m+2*(aB i+aB j)) s<|bE τ n b<|i++[.ty an,.nd 26 tx am j]):=by
 have af:=λp o=>(a6 p o).1;have ae:∀p∈i,1<=p.k:=λp o=>η;rw[pJ i n b af];obtain⟨aa,ab⟩:=he.left;have ac:=(dM.head ab).2;have a4:=(dM.head ac).1;rw[nN,Ð]at a4;obtain⟨ad,hi,L⟩:=Em.parts a4;have ak:=λp o=>(a7 p o).1;have ai:(N[b+aB i+aB j]).M=px (b+aB i) j:=by
  rw[X9 _ _ j ak]at L;simp[ģ,bV]at L;exact L.2.2.2.2.1
 have HA:=O (BV i (λp o=>⟨ae p o,(a6 p o).2⟩) b tb w m n s aa h a5 W W az u x r ah ho λq hq=>.inl<|ag q hq);have a8:=O<|X0 i κ n b a5;have ao:δ w (J D 0)=C (pV a):=cr M K;have ap:δ w (J F 4)=C (Y u (Q r) x):=cr A K;have l1:=(aG A);have FB:Hid (∀k,cV B a c w k->k.heap[D]?=C (γ #[pV a] 161 (0,0))/\k.heap[F]?=C (γ #[U kd,U ((b+aB i+aB j:Nat):Int),U vb,U vc,Y u (Q r) x,ι xs,U vn,U vt,U vp] 82 (0,0))):=λk t=>by
  obtain⟨x1,x2⟩:=h.tv M ζ;obtain⟨y1,y2⟩:=h.tv A ζ;exact⟨t.other M ζ x1 x2,t.other A ζ y1 y2⟩
 have S:Hid (b+aB i+aB j<Q N):=hi;have b4:b+aB i+aB j<=100000:=W;have H2:Hid (∀(k:E) (f:List Fr) (l:List<|Nat×Int),dF e k B a d c (m+2*aB i) f (dG s l)->Q f=Q n->cV B a c w k->∃g z v y,d=Y (C<|J g 0) (Q N) z/\g<V k.heap/\Q N<=z/\z<=Δ/\δ k (J g<|(b+aB i+aB j)*9+4)=C (Y v (Q (px (b+aB i) j)) y)/\δ k (J a 0)=C d/\a<V k.heap/\
  ∀G,I No k G->μ ε 166 #[pV a,Y v (Q (px (b+aB i) j)) y] G (DX e w B a d c N (m+2*(aB i+aB j)) s<|(Br.ok f l).and λf=>bE κ f (b+aB i) j)):=by
  intro k f l t ar au;obtain⟨g,z,v,y,e1,e2,e3,Z,e5,e6,e7⟩:=hN.at t.jh _ S.u;obtain⟨av,ms,al⟩:=t.st;rw[ai]at e5 e6 e7;refine⟨g,z,v,y,e1,e2,e3,Z,e5.2.2.2.2.1,cr al.blk K,(aG al.blk),λG h2=>?_⟩;refine(BV j a7 (b+aB i) _ G _ f (dG s l) ad (t.kept h2) (T2 a5 ar) W W (by grind[yX]) v y _ K (A3 e6 h2 λ_ _ b1=>b1) λq hq=>.inl<|e7 q hq).mono ?_;intro T w' o;have aj:=aI.and (k:=λf=>bE κ f (b+aB i) j) (au.trans<|cV.y h2) o;rw[þ,<-Nat.mul_add]at aj;exact aj.td
 generalize aq:bE κ n b i=R1 at*;generalize hj:b+aB i+aB j=jj at*;generalize ay:Q (px (b+aB i) j)=pl at*;generalize ax:m+2*(aB i+aB j)=mm at*;generalize aw:m+2*aB i=m1 at*;clear M A ho ag h he a6 a7 ah aa ab ac a4 ad L aq hj ay ax aw ai af ae ak hN;go_in;go_wp2_with fail;refine HA.u.mono ?_;rintro T P ⟨H,hr⟩;cases R1 with
 |bad er b0=>
  obtain rfl:T=gu er (cW N b0):=hr;exact⟨K,H,K⟩
 |ok f l=>
  obtain⟨rfl,hb⟩:=hr;obtain⟨a9,a3⟩:=FB.u P H;have d0:P.cell? (J D 0)=C (pV a):=cr a9 K;have d1:P.cell? (J F 1)=C (U (jj:Int)):=cr a3 K;have d2:=(aG a3);obtain⟨g,z,v,y,rfl,e2,e3,Z,e5,e6,e7,e8⟩:=H2.u P f l hb (a8.u f l K) H;have b3:=S.u;unfold Δ at Z;have H3:=O e8;clear H hb HA H2 FB a9 a3 e8 a8 ao ap S;go_wp2_with fail;go_region_with (go_at_call 166;refine(H3.u _<|Ψ _ _ 1).mono ?_;rintro T b5 (⟨er,p,rfl,R⟩|⟨rfl,R⟩);exact⟨K,R.u⟩);all_goals go_wp2_with fail
  all_goals go_end0
  all_goals exact R.u
def Sl.small{f}{r}(h:Sl (f++[Å]) r)(i:Q f<=100000):∀b l,r=.ok b l->b≠[]/\Q b<=100001:=by
 intro b l g;have:=h b l g;grind
def vq(S:cU e d N)(f)(o)(A)(n)(g)(a5:∀p∈f,p.k=16/\lD e B a d c N p)(a6:∀p∈g,1<=p.k/\lD e B a d c N p)(b tb)(w)(m)(q)(H)
 (T:dM N b tb<|f++[.ty o,.nd 26 A n g]) (h:dF e w B a d c m q H) (hm:m+2*(aB f+aB g)<=100000) (hf:Q q+1+(aB f+aB g)<=100000) (ac:Q H=Q N) (aa:Q N<=100000)
 (j) (k) (i) (a2:i=px b f) (ho:ρ w 0 3 1 (Y j (Q i) k) (Q i)<|C8 i) (Z:∀a8,Θ (Y j (Q i) k)=C a8->a8<V e.heap)
 (r s t) (y) (u x v):
 μ ε 269 #[pV a,.agg #[U r,U<|(b+aB f+aB g:Nat),U s,U t,Y j (Q i) k,ι y,U u,U x,U v]] w (aI e w B a d c N (m+2*(aB f+aB g)) H (bE τ (q++[Å]) b<|f++[.ty o,.nd 26 A n g]).pop):=by
 generalize a7:((b+aB f+aB g:Nat):Int)=D at*;have a3:q++[Å]≠[]:=θ;have G:I No w (ω (ω w<|γ #[pV a] 161)<|γ #[U r,U D,U s,U t,Y j (Q i) k,ι y,U u,U x,U v] 82):=B6 (ν No _ _)<|ν No _ _;have P:(ω (ω w<|γ #[pV a] 161)<|γ #[U r,U D,U s,U t,Y j (Q i) k,ι y,U u,U x,U v] 82).heap[V w.heap]?=C (γ #[pV a] 161 (0,0)):=by
  rw[Below.heap_alloc _ _ _ θ];have:=rY w<|γ #[pV a] 161;simpa using this
 have R:(ω (ω w<|γ #[pV a] 161)<|γ #[U r,U D,U s,U t,Y j (Q i) k,ι y,U u,U x,U v] 82).heap[V w.heap+1]?=C (γ #[U r,U D,U s,U t,Y j (Q i) k,ι y,U u,U x,U v] 82 (0,0)):=by
  have:=rY (ω w<|γ #[pV a] 161)<|γ #[U r,U D,U s,U t,Y j (Q i) k,ι y,U u,U x,U v] 82;simpa using this
 have F:=h.kept G;have HI:=O (XZ 290 (λ_ _=>Ω) F W (m+2*(aB f+aB g)) (bE τ (q++[Å]) b<|f++[.ty o,.nd 26 A n g]) (Sl.small (X0 _ _ _ _ a3) W) (pV (V w.heap)) (pV<|V w.heap+1) (λa9 M hb=>by
  obtain⟨x1,x2⟩:=F.tv P ζ;obtain⟨y1,y2⟩:=F.tv R ζ;have ah:=h.low;have hz:=h.hz;refine B8c S f o A n g a5 a6 b tb a9 m (q++[Å]) H T hb a3 hm η ac aa j k i a2 ?_ Z _ _ (M.other P ζ x1 x2) r s t y u x v (by rw[a7];exact M.other R ζ y1 y2);refine M.row (A3 ho G λ_ _ ae=>ae) (λL=>?_) (λag hg L=>?_)<;>grind));have HC:=O<|cV.y (B:=B) (bb:=a) (tv:=c) G;generalize ab:(bE τ (q++[Å]) b<|f++[.ty o,.nd 26 A n g]).pop=RR at*;generalize m+2*(aB f+aB g)=mm at*;clear ab F P R G Z ho a2 T a5 a6 h S a7;go_in;go_wp2_with fail;refine HI.u.mono ?_;rintro L ai z;have z:=aI.after HC.u z;have a4:=z.2;cases RR with
 |bad er ad=>
  obtain rfl:L=gu er (cW N ad):=a4;exact⟨K,z⟩
 |ok af l=>
  obtain⟨rfl,-⟩:=a4;have HP:=O z;go_wp2;go_end0;exact HP.u
def hG.top{w}{m}{i}{b}{f}{n}(h:hG w B a d i c b m f n)(g):iV w (b.getLast g) m (kG f):=by
 have o:=h.len;have p:=List.length_pos_iff.2 g;have l:b.getLast g=b[Q b-1]:=by rw[List.getLast_eq_getElem]
 have k:kG f=f[Q b-1]'W:=by
  unfold kG;have j:Q f-1=Q b-1:=W;rw[List.getLastD_eq_getLast?,List.getLast?_eq_getElem?,j,gQ W];rfl
 rw[l,k];exact h.fr (Q b-1) W W
theorem dF.step{w b}{m j}{n g}{p l}{f}{k}(h:dF e w B a d c m n p)(i:cV B a c w b)(o:hG b B a d f c k j g l):dF e b B a d c j g l:=
 ⟨h.hz,kQ h.le i.size,h.jh.trans<|(i.below h.le).mono h.hz,f,k,o⟩
def YO{w}{m}{b}{t}(h:dF e w B a d c m b t)(S:b≠[])(R:Q b<=100000)(Z:m<=100000)(x)(s:Q x<=1000000)(j)(G:0<=j/\j<=1000000)(u)(n:I No w u):
 μ ε 268 #[pV a] u λi f=>∃q,i=π (.map<|C q)/\I No w f/\(Ì 266 (.map<|C q) (ι ⟨ξ x⟩) τ).run ε f=.ok (.tuple #[U<|(kG b x).getD 0,.bool (kG b x).isSome]) f/\
  ∃g,(Ï 266 (.map<|C q) (ι ⟨ξ x⟩)<|U j).run ε f=.ok () g/\Hid (cV B a c w g/\dF e g B a d c (m+1) (I2 b x j) t):=by
 have A:=h.kept n;obtain⟨P,M,p⟩:=A.st;have T:=p.len;have k:M≠[]:=λi=>η;refine(D3e p k W).mono ?_;rintro i f ⟨rfl,o⟩;have l:=p.y o;obtain⟨g,H,L,F⟩:=l.put k x j s W G;have r:cV B a c f g:=by
  refine F.mono λa2 _ i=>?_;subst i;obtain⟨a3,D,⟨y,v,z,_⟩,_⟩:=(l.top k).own;exact⟨l.ge _<|List.getLast_mem k,.inr<|.inr<|.inr ⟨y,v,z⟩⟩
 exact⟨_,K,B6 n o,(l.top k).look x s,g,H,(cV.y<|B6 n o).trans r,(h.kept<|B6 n o).step r L⟩
theorem dF.blk{w}{m}{f}{g}(h:dF e w B a d c m f g):δ w (J a 0)=C d/\a<V w.heap:=by
 obtain⟨i,j,b⟩:=h.st;exact⟨cr b.blk K,(aG b.blk)⟩
theorem wE(g)(b)(h)(n)(o)(E)(j:1<=E.k):dU g b (.nd 17 h n [.ty o,E])=if (kG g h).isSome then .bad 6 (b+nN E) else (dU (if E.k=6 then I2 g h ((b+nN E:Nat)) else g) b E).jk h ((b+nN E:Nat)):=by
 have l:aB [.ty o,E]=nN E:=by simp[aB,nN]
 rw[dU];simp only[l];rw[wY ζ,wY ζ,yY trivial];congr 2;have i:∀f,bE κ f b [.ty o,E]=dU f b E:=λf=>by
  simp_all[bE,DA,Br.and_nil]
 rw[i];cases E with
 |ty o=>cases o<;>simp[Nt.k]at j
 |nd k t m p=>grind[vS,Nt.k]
def dF.fresh{w}{m}{g}{i}(h:dF e w B a d c m g i){q}(n:V w.heap<=q):B<=q/\q≠a/\Θ c≠C q:=by
 obtain⟨j,o,b⟩:=h.st;have k:=(aG b.blk);have l:=h.le;refine⟨W,W,λf=>?_⟩;have:=(b.js.lt _ f).2;omega
def MF{w q}(T:cV B a c w q){m}{j}{ts}{l0}(z:dF e q B a d c m j<|dG ts l0)(S:j≠[]){b G}{i o}{h}(g:zJ N b G i h o)(P:∀p∈i,1<=p.k->lD e B a d c N p)(hm:m+2*aB i<=100000)(hf:Q j+aB i<=100000)(a7:Q ts=Q N)
 (x) (y) (ho:ρ q 0 3 1 (Y x (Q h.M) y) (Q h.M)<|C8 h.M) (Z:Q h.M<=100000) (F) (a3:δ q (J F 0)=C (pV a)) (D) (a6:m+2*aB i<=D) (s) (u:I No q s):
 μ ε 101 #[eE h x y] s λt r=>∃k l,t=π (Y k (Q (px b o)) l)/\δ r (J F 0)=C (pV a)/\
  Hid (μ ε 166 #[pV a,Y k (Q (px b o)) l] r<|DX e w B a d c N D ts<|(Br.ok j l0).and λf=>bE κ f b i):=by
 refine(g.run s x y (A3 ho u λ_ _ a5=>a5) Z).mono ?_;rintro t r ⟨k,l,rfl,R,A⟩;have v:=B6 u R;have L:=z.kept v;refine⟨k,l,K,A4 v a3,?_⟩;have hn:=g.n;have M:=BV o (λp n=>⟨(g.k p n).1,P p (g.k p n).2 (g.k p n).1⟩) b G r m j (dG ts l0) g.em L S W W (by grind[yX]) k l _ K (C7 A<|wQ _) λa4 hq=>.inr<|z.fresh<|kQ u.size (A.lt a4 hq).1;refine M.mono ?_;intro t a8 n;have a2:=aI.and (k:=λf=>bE κ f b o) (T.trans<|cV.y v) n;have H:=funext λf=>g.bn f;rw[H];exact(a2.more W).td
theorem Br.and_zero(b)(k):(Br.ok b []).and k=k b:=by
 grind[Br.jf]
end
