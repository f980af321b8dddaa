/-
  A part of the proof.
-/
import Derived.Test.YtllclkcjdhoohaaGreatDoorBindA
import Derived.Test.YtllclkcjdhoohaaGreatDoorPlainR
import Derived.Test.YtllclkcjdhoohaaGreatDoorFitB
set_option maxHeartbeats 0
set_option linter.all false
set_option maxRecDepth 100000
namespace Go.Proofs.YtllclkcjdhoohaaGreatDoor
open _root_.Array renaming size->V
open Bool renaming true->τ,false->κ
open Go renaming Value->υ,cell_of_row->ä,maxLen->Δ,frozen_of_row->æ,Ending->ò,Calls->μ,bodyPost_ret->ç,results->ã
open Ending renaming returned->π
open IntKind renaming i64->χ
open Obj renaming cells->γ
open Go.Proofs.Tryz renaming prog->ε
open RowKit.Below renaming refl->ñ
open Value renaming slice->Y,string->ι
open World renaming alloc->ω,ownsRow->ρ,cell?->δ,block_lt_of_cell?->Ü,cell?_of_block->Ë
open I renaming alloc->ν,drewN->Ψ,refl->ì
open List renaming length->Q,getElem?_eq_some_iff->Î,toArray->ξ
open Option renaming some->C
open Go.Proofs.Tryz
open Go.RowKit Go.Maps
def yV:Keyed ε 3:=int_keyed underlying3
def C6f(a)(h:0<=a/\a<=1000000):(Lit.int χ a).wf=τ:=by
 grind[Lit.wf,IntKind.min,IntKind.max,IntKind.bits,IntKind.signed]
def zH(a)(h:0<=a/\a<=1000000):keyOf ε 3 (.int χ a)=C (.int χ a):=keyOf_int_mk underlying3<|C6f a h
def Jk(w:E):(zeroValue 3).run ε w=.ok (.int χ 0) w:=î
structure cQ(w:E)(q m:Nat)(f:Int->Option Int):Prop where
 own:∃n D,w.ownsMap ε 3 (plainElem (H:=Unit) ε 3) q n D/\n<=m/\IsMap D/\∀(s:Int) (d:DataW Unit),D.atKey (.int χ s) d=match f s with
  |C j=>.lit<|.int χ j
  |none=>d
def cQ.new(w:E):cQ (ω w<|.map #[] 0) (V w.heap) 0 (λ_=>none):=⟨0,.map [],World.ownsMap_made w _ _ _,vQ _,isMap_empty,λ_ _=>K⟩
def cQ.more{w}{q m a}{f}(h:cQ w q m f)(d:m<=a):cQ w q a f:=by
 obtain⟨n,D,b,c,r⟩:=h.own;exact⟨n,D,b,W,r⟩
theorem cQ.lt{w}{q m}{f}(h:cQ w q m f):q<V w.heap:=by
 obtain⟨n,D,⟨b,a,c,_⟩,_⟩:=h.own;grind
theorem cQ.P{S}{w w'}{q m}{f}(h:cQ w q m f)(e:I S w w')(g:¬S q):cQ w' q m f:=by
 obtain⟨n,D,⟨b,a,c,d⟩,r⟩:=h.own;exact⟨n,D,⟨b,a,by rw[e.block q (aG c) g];omega,d⟩,r⟩
theorem cQ.et{w}{q m}{f}(h:cQ w q m f){cs}{e}{fz}:w.heap[q]?≠C (γ cs e fz):=by
 obtain⟨n,D,⟨b,a,c,_⟩,_⟩:=h.own;grind
def cQ.look{w}{q m}{f}(h:cQ w q m f)(s)(l:0<=s/\s<=1000000):
 (Instr.lookup 64 (.map<|C q) (.int χ s) τ).run ε w=.ok (.tuple #[.int χ<|(f s).getD 0,.bool (f s).isSome]) w:=by
 obtain⟨n,D,⟨t,p,k,F,_,rfl⟩,_,_,i⟩:=h.own;have a:=i s<|.lit<|.int χ 0;have b:=i s<|.lit<|.int χ 1;obtain⟨g,_,e⟩|⟨r,y,_,_,g,u,e,_⟩:=fit_look τ yV underlying64 (Jk w) k F<|zH s l
 .rw[e]at a b;cases d:f s with
  |none=>rw[g];rfl
  |some j=>
   rw[d]at a b;simp at a b;omega
 .rw[e]at a b;cases d:f s with
  |none=>
   rw[d]at a b;simp only at a b;rw[a]at b;simp at b
  |some j=>
   rw[d]at a;simp only at a;have:=plainElem_int_inv underlying3 W;obtain⟨c,o,rfl,_⟩:=this;simp at a;rw[g,o,a];rfl
def cQ.get{w}{q m}{f}(h:cQ w q m f)(s)(i:0<=s/\s<=1000000):
 (Instr.lookup 64 (.map<|C q) (.int χ s) κ).run ε w=.ok (.int χ<|(f s).getD 0) w:=by
 obtain⟨n,D,g,_,_,e⟩:=h.own;obtain⟨c,d,a,_⟩:=g.lookup_int yV underlying64 underlying3 (Jk _)<|zH s i;rw[e s]at a;cases b:f s with
 |none=>
  rw[b]at a;simp at a;rw[d,<-a];rfl
 |some j=>
  rw[b]at a;simp at a;rw[d,<-a];rfl
def cQ.put{w}{q m}{f}(h:cQ w q m f)(s)(j)(l:0<=s/\s<=1000000)(v:m<=100000000)(t:0<=j/\j<=1000000):
 ∃a,(Instr.mapUpdate 64 (.map<|C q) (.int χ s)<|.int χ j).run ε w=.ok () a/\cQ a q (m+1) (λu=>if u=s then C j else f u)/\I (λk=>k=q) w a:=by
 obtain⟨n,D,e,y,b,r⟩:=h.own;have p:(Lit.int χ j).wf=τ:=by
  simp[Lit.wf,IntKind.min,IntKind.max,IntKind.bits,IntKind.signed];omega
 obtain⟨a,i,g,c⟩:=e.update yV underlying64 Ñ (zH s l)<|plainElem_int underlying3 p;refine⟨a,i,⟨n+1,_,g,W,b.put _ _,λu d=>?_⟩,(I.grown c).mono λk _ x=>η⟩;by_cases o:u=s
 .subst o;rw[atKey_put_same b<|show WideAt.IsKeyLit (.int χ u) from trivial];simp
 grind[atKey_put_other]
def J6:List Ty:=[⟨1,[],[],0⟩,⟨2,[],[],0⟩,⟨3,[],[],0⟩,⟨4,[],[],0⟩,⟨5,[],[],0⟩]
def tl(c:Cx)(Z:List Ty):List Ty:=c.T++J6++Z
theorem U8(c)(Z):Q (tl c Z)=Q c.T+5+Q Z:=by simp[tl,J6];omega
theorem pY(c)(Z a):tl c Z++a=tl c (Z++a):=by simp[tl]
def Fw(T:List Ty):Prop:=∀i (a:i<Q T),Q T[i].M<=100000000/\Q T[i].eo<=2001
structure gZ(T:List Ty)(ofs:uZ)(of:Of):Prop where
 len:Q ofs=Q of
 at':∀(i:Nat) (o:Option Tr),of[i]?=C o->match o with
  |none=>ofs[i]?=C (-1)
  |C t=>∃r:Nat,ofs[i]?=C (r:Int)/\r<Q T/\tr T r=t
def gZ.more{T}{b}{a}(h:gZ T b a)(e:aX T)(c):gZ (T++c) b a:=by
 refine⟨h.len,λi o d=>?_⟩;have:=h.at' i o d;grind[vA]
theorem gZ.set{T}{c}{b}(h:gZ T c b){i r}{t}(g:r<Q T)(k:tr T r=t):gZ T (c.set i r) (b.set i<|C t):=by
 refine⟨by rw[List.length_set,List.length_set];exact h.len,λj o a=>?_⟩;by_cases d:i=j
 .subst d;rw[List.getElem?_set_self']at a;cases e:b[i]? with
  |none=>grind
  |some l=>
   rw[e]at a;simp at a;subst a;have f:i<Q c:=by
    rw[h.len];exact(Î.1 e).1
   grind
 .rw[List.getElem?_set_ne d]at a;have:=h.at' j o a;grind
def rM(c:Cx)(e g:υ)(d:Int)(b f:Nat)(a ov:υ):Array υ:=
 #[e,g,U d,pV b,.map<|C f,a,ov,U 0,U (Q c.T),U<|(Q c.T+1:Nat),U<|(Q c.T+2:Nat),U<|(Q c.T+3:Nat),U<|(Q c.T+4:Nat)]
def lS(c:Cx):Int->Option Int:=λx=>if 0<=x/\x<Q c.N/\c.ts.getD x.toNat 0≠-1 then C (c.ts.getD x.toNat 0) else none
def SW(f:E)(e a d k:Nat):Prop:=k=e\/k=a\/k=d\/(a<=k/\∃b c,f.heap[k]?=C (γ b 99 c))
structure dO(w0:E)(c:Cx)(pb lb mb qb:Nat)(nv fv:υ):Prop where
 ok:jG c
 ey:cU w0 nv c.N
 names:cQ w0 qb 5000<|lS c
 fns:ρ w0 0 3 1 fv (Q c.N)<|C8 c.fn
 tp:∃cs,w0.heap[pb]?=C (γ cs 96 (0,0))
 ry:∃cs,w0.heap[lb]?=C (γ cs 169 (0,0))
 tm:∃es cl,w0.heap[mb]?=C (.map es cl)
 ne:qb≠mb
structure aW(w0 w:E)(c:Cx)(pb lb mb qb:Nat)(nv yv:υ)(mn:Int)(fv:υ)(Z:List Ty)(ofs:uZ):Prop where
 P:I (SW w0 pb lb mb) w0 w
 st:∃ov D,w.heap[pb]?=C (γ (rM c nv yv mn lb qb fv ov) 96 (0,0))/\ρ w (V w0.heap) 3 1 ov (Q ofs) (C8 ofs)/\iK w lb mb 4000 (tl c Z) D (λg=>ov.ownBlock≠C g)
 fq:Fw<|tl c Z
section
variable{d w:E}{c:Cx}{a e mb h:Nat}{j m i:υ}{l:Int}{Z:List Ty}{f:uZ}
theorem dO.lt(b:dO d c a e mb h j i):a<V d.heap/\e<V d.heap/\mb<V d.heap/\h<V d.heap:=by
 obtain⟨_,g⟩:=b.tp;obtain⟨_,k⟩:=b.ry;obtain⟨_,_,n⟩:=b.tm;exact⟨(aG g),(aG k),(aG n),b.names.lt⟩
theorem dO.not(g:dO d c a e mb h j i){k}{n}{b}{o}(u:d.heap[k]?=C (γ n b o))(t:b≠96/\b≠169/\b≠99):¬SW d a e mb k:=by
 obtain⟨_,p⟩:=g.tp;obtain⟨_,q⟩:=g.ry;obtain⟨_,_,r⟩:=g.tm;rintro(rfl|rfl|rfl|⟨_,_,_,s⟩)<;>grind
def dO.fx(k:dO d c a e mb h j i)(o:I (SW d a e mb) d w):cU w j c.N:=by
 obtain⟨u,n,q⟩:=k.ey;refine⟨u,A3 n o λg s x=>?_,q.imp<|gE.P o (λg _ _ t b=>?_) λ_ _ _=>trivial⟩
 .obtain⟨_,p,b⟩:=A9 n g s;exact k.not b ζ x
 .obtain⟨p,v,b,r⟩:=b;obtain rfl|rfl:=r<;>exact k.not b ζ t
def dO.nm(b:dO d c a e mb h j i)(o:I (SW d a e mb) d w):cQ w h 5000 (lS c):=by
 refine b.names.P o ?_;obtain⟨_,g⟩:=b.tp;obtain⟨_,k⟩:=b.ry;rintro(rfl|rfl|rfl|⟨_,_,_,n⟩)
 .exact b.names.et g
 .exact b.names.et k
 .exact b.ne K
 .exact b.names.et n
def dO.fn(b:dO d c a e mb h j i)(k:I (SW d a e mb) d w):ρ w 0 3 1 i (Q c.N) (C8 c.fn):=
 A3 b.fns k λg n x=>by
  obtain⟨_,p,o⟩:=A9 b.fns g n;exact b.not o ζ x
theorem aW.y{g}(k:aW d w c a e mb h j m l i Z f)(b:I No w g):aW d g c a e mb h j m l i Z f:=by
 obtain⟨n,⟨ov,D,o,p,q⟩,r⟩:=k;exact⟨n.trans b å,⟨ov,D,by rw[b.block a (aG o) λx=>x];omega,A3 p b Ξ,q.y b⟩,r⟩
def aW.jg{r}(A:aW d w c a e mb h j m l i Z f)(o:I (λk=>k=mb) w r)(q:∃D,gT r mb 4000 (tl c Z) D):aW d r c a e mb h j m l i Z f:=by
 obtain⟨B,⟨ov,D,t,u,v⟩,F⟩:=A;obtain⟨z,q⟩:=q;have y:∀k b n s,w.heap[k]?=C (γ b n s)->k≠mb:=λk b n s p x=>by subst x;exact v.gm.tag _ _ _ p
 refine⟨B.trans o λ_ _ x=>.inr<|.inr<|.inl x,⟨ov,z,?_,A3 u o λg G x=>?_,v.P o q (λk b n p _=>y k b n _ p) λ_ x _=>x⟩,F⟩
 .rw[o.block a (aG t)<|y _ _ _ _ t];omega
 .obtain⟨_,b,H⟩:=A9 u g G;grind
def aW.q9{b}(g:aW d w c a e mb h j m l i Z f)(n:I (λk=>k=mb) w b):I (SW d a e mb) d b:=g.P.trans n λ_ _ x=>.inr<|.inr<|.inl x
def aW.jr(b:aW d w c a e mb h j m l i Z f):∃D,dY w e mb 4000 (tl c Z) D:=by
 obtain⟨_,⟨ov,D,_,_,g⟩,_⟩:=b;exact⟨D,g.lx⟩
theorem aW.ts(b:aW d w c a e mb h j m l i Z f):aX (tl c Z):=by
 obtain⟨D,b⟩:=b.jr;exact b.ok
def aW.le(b:aW d w c a e mb h j m l i Z f):Q (tl c Z)<=4000:=by
 obtain⟨D,b⟩:=b.jr;exact b.fq
def KG(k b:E):Prop:=V k.heap<=V b.heap/\∀(q:Nat) (n) (g) (o),k.heap[q]?=C (γ n g o)->g≠169->g≠99->b.heap[q]?=C (γ n g o)
theorem KG.trans{g b c}(r:KG g b)(k:KG b c):KG g c:=⟨kQ r.1 k.1,λq n o p x s t=>k.2 q n o p (r.2 q n o p x s t) s t⟩
theorem KG.y{g b}(k:I No g b):KG g b:=⟨k.size,λq n o p x _ _=>by rw[k.block q (aG x) λy=>y];omega⟩
def KG.row{o b}(x:KG o b){p}{k}{s}{v}{n}{t}(A:ρ o p k s v n t)(y:k≠169)(z:k≠99):ρ b p k s v n t:=by
 obtain⟨u,q⟩:=A;refine⟨u,?_⟩;obtain q|⟨g,cap,cur,e1,e2,e3,r⟩:=q
 .grind
 .exact .inr ⟨g,cap,cur,e1,e2,x.2 _ _ _ _ e3 y z,r⟩
theorem aW.grow{n}{v}{r}(s:aW d w c a e mb h j m l i Z f)(F:δ w (J e 0)=C v)(t:I (mH e v) w n){ov}{D}(M:w.heap[a]?=C (γ (rM c j m l e h i ov) 96 (0,0)))(S:ρ w (V d.heap) 3 1 ov (Q f)<|C8 f)
 (a4:iK n e mb 4000 (tl c Z++r) D λg=>ov.ownBlock≠C g) (hf:Fw<|tl c Z++r):aW d n c a e mb h j m l i (Z++r) f/\KG w n:=by
 obtain⟨D0,T⟩:=s.jr;obtain⟨y0,yx,P,G,_⟩:=T.blk;have L:v=y0:=by
  rw[ä w e 0 _ _ _ P]at F;exact(xZ F).symm
 subst L;have a3:∀q (o:Array υ) (b:TypeId) (p:Nat×Nat),w.heap[q]?=C (γ o b p)->b≠169->b≠99->¬mH e v q:=by
  rintro q o b p x A B (rfl|y)
  .grind
  .obtain⟨_,H,u⟩:=A9 G q y.symm;grind
 have z:KG w n:=⟨t.size,λq o b p x A B=>by rw[t.block q (aG x)<|a3 q o b p x A B];omega⟩;refine⟨⟨s.P.trans t ?_,⟨ov,D,z.2 _ _ _ _ M ζ ζ,z.row S ζ ζ,by grind[pY]⟩,by grind[pY]⟩,z⟩;rintro k N (rfl|y)
 .exact .inr<|.inl K
 .by_cases a2:SW d a e mb k
  .omega
  .obtain⟨R,H,u⟩:=A9 G k y.symm;rw[s.P.block k N a2]at u;exact .inr<|.inr<|.inr ⟨R,_,_,u⟩
theorem aW.cell(s:aW d w c a e mb h j m l i Z f):∃q n,a<V w.heap/\(∀o,w.frozen? (J a o)=κ)/\δ w (J a 0)=C j/\δ w (J a 1)=C m/\δ w (J a 2)=C (U l)/\δ w (J a 3)=C (pV e)/\δ w (J a 4)=C (.map<|C h)/\δ w (J a 5)=C i/\δ w (J a 6)=C (Y q (Q f) n)/\
 (∀k,1<=k->k<=5->δ w (J a<|7+k)=C (U<|(Q c.T+k-1:Nat)))/\
 ∀p (u),∃g,q=C (J g 0)/\V d.heap<=g/\g<V w.heap/\Q f<=n/\n<=Δ/\δ w (J g p)=C (U f[p])/\(∀o,w.frozen? (J g o)=κ):=by
 obtain⟨x,⟨ov,D,b,r,A⟩,B⟩:=s;obtain⟨q,n,rfl⟩:=B8 r;refine⟨q,n,(aG b),λo=>æ w a o _ _ b,cr b K,cr b K,cr b K,cr b K,cr b K,cr b K,cr b K,λk M N=>?_,λp u=>?_⟩
 .rw[ä w a (7+k) _ _ _ b];have:k=1\/k=2\/k=3\/k=4\/k=5:=W;obtain rfl|rfl|rfl|rfl|rfl:=this<;>rfl
 .obtain⟨g,t,F,G,H,y,z⟩:=D5 r W;obtain⟨_,v,L⟩:=A9 r g (by rw[t];rfl);grind[C8,æ]
def aW.look{b}(k:gZ (tl c Z) f b){n}{t}(o:b[n]?=C (C t)):∃(r:Nat) (p:n<Q f),f[n]=r/\r<Q (tl c Z)/\tr (tl c Z) r=bB b n:=by
 obtain⟨r,g,q,s⟩:=k.at' n _ o;obtain⟨u,v⟩:=Î.1 g;grind[bB]
theorem TI(g:aX c.T){b}(k:b<Q c.T):tr (tl c Z) b=tr c.T b:=by
 unfold tl;grind[vA]
def nG(q:aX<|tl c Z){k}(o:1<=k)(p:k<=5):tr (tl c Z) (Q c.T+k-1)=eV k:=by
 have g:Q c.T+k-1<Q (tl c Z):=by rw[U8];omega
 have n:(tl c Z)[Q c.T+k-1]=⟨k,[],[],0⟩:=by
  have b:(tl c Z)[Q c.T+k-1]?=C ⟨k,[],[],0⟩:=by
   show (c.T++J6++Z)[Q c.T+k-1]?=_;rw[List.getElem?_append_left<|by grind[J6],List.getElem?_append_right W];have:k=1\/k=2\/k=3\/k=4\/k=5:=W;obtain rfl|rfl|rfl|rfl|rfl:=this<;>simp[J6]
  rw[gQ g]at b;exact xZ b
 grind[X7,eV]
end
def D1f(a b c d)(w:E):(Instr.field 99 (.agg #[a,b,c,d]) 0).run ε w=.ok a w:=î
def D0f(a b c d)(w:E):(Instr.field 99 (.agg #[a,b,c,d]) 2).run ε w=.ok c w:=î
def Hh(t:Ty)(w:E)(e:ò)(a:E):Prop:=∃b c d f,e=π (.agg #[U t.x,Y b (Q t.eo) c,Y d (Q t.M) f,U t.fh])/\I No w a/\
 ρ a 0 139 2 (Y b (Q t.eo) c) (Q t.eo) (I0 t.eo)/\ρ a 0 3 1 (Y d (Q t.M) f) (Q t.M) (C8 t.M)
def ĸ{a o N}{T}{D}(i:Nat)(w)(l)(h:dY w a o N T D):
 μ ε 215 #[pV a,U i] w (Hh T[i] w):=by
 obtain⟨r,c,s,u,A,v,k⟩:=h.cell;obtain⟨g,e,f,m,n,rfl,z,y,j,B,F,G,H,p,q⟩:=k i l;have b:=O p;have d:=O q;unfold Δ at j;generalize T[i]=t at*;go_in;go_wp2;exact ç (by simp[ã,results215,go_sem]) K ⟨e,f,m,n,K,ν _ _ _,A3 b.u (ν No _ _) Ξ,A3 d.u (ν No _ _) Ξ⟩
def AG{m y N}{T}{D}(i)(w)(v:i<Q T)(h:dY w m y N T D):
 ∃d f j k,(ρ w 0 139 2 (Y d (Q T[i].eo) f) (Q T[i].eo) (I0 T[i].eo)/\ρ w 0 3 1 (Y j (Q T[i].M) k) (Q T[i].M) (C8 T[i].M))/\∀a,I No w a->
  μ ε 215 #[pV m,U i] a λe B=>e=π (.agg #[U T[i].x,Y d (Q T[i].eo) f,Y j (Q T[i].M) k,U T[i].fh])/\B=a.alloc (γ #[U T[i].x,Y d (Q T[i].eo) f,Y j (Q T[i].M) k,U T[i].fh] 99):=by
 obtain⟨F,c,l,G,x,H,s⟩:=h.cell;obtain⟨g,d,f,j,k,rfl,u,L,r,n,o,p,q,z,A⟩:=s i v;refine⟨d,f,j,k,⟨z,A⟩,λa b=>?_⟩;replace l:=A4 b l;replace n:=A4 b n;replace o:=A4 b o;replace p:=A4 b p;replace q:=A4 b q;have M:=yQ u b.size;have P:=yQ x b.size;unfold Δ at r;generalize T[i]=t at*;go_in;go_wp2;exact ç (by simp[ã,results215,go_sem]) K ⟨K,K⟩
section
variable{i w:E}{c:Cx}{b d f h:Nat}{g k e:υ}{j:Int}{Z:List Ty}{a:uZ}
def wU(c:Cx)(n:Nd):Int:=if n.ty=-1 then ((Q c.T+4:Nat)) else n.ty
def kF(c:Cx)(a:uZ)(l:Nat):Int:=if (aA c.N l).ty≠-1 then (aA c.N l).ty else if (aA c.N l).x=17 then a.getD (aA c.N l).a.toNat 0 else ((Q c.T+4:Nat))
def VZ(m:aW i w c b d f h g k j e Z a)(n)(p)(q):
 μ ε 151 #[pV b,eE n p q] w λl u=>l=π (U<|wU c n)/\I No w u:=by
 obtain⟨A,B,x,v,D,F,G,H,L,M,N,s,P⟩:=m.cell;have r:=s 5 W W;obtain⟨y,S,T,vc,z,R,vn,t,vp⟩:=n;unfold wU eE;simp at r;by_cases o:t=-1
 .subst o;simp;generalize ((Q c.T+4:Nat):Int)=a2 at*;go_in;go_wp2;go_ret;exact⟨K,ν No _ _⟩
 .simp;go_in;go_wp2;go_ret;exact⟨K,ν No _ _⟩
def zD(s:dO i c b d f h g e)(n:aW i w c b d f h g k j e Z a)(l)(o:l<Q c.N):
 μ ε 218 #[pV b,U l] w λm q=>m=gu 9 (cW c.N l)/\I No w q:=by
 obtain⟨G,H,A,v,L,M,N,P,R,S,T,qp,qo⟩:=n.cell;obtain⟨x,F,B,D,rfl,y,z,u,⟨x0,x1,x2,x3,x4,x5,x6,x7,x8⟩,-,-⟩:=(s.fx n.P).at (ñ _ _) l o;have m:cW c.N l=c.N[l].at':=by unfold cW;rw[lQ,gQ o];rfl
 rw[m];unfold Δ at u;generalize c.N[l].at'=p at*;have r:=zM w 9 p;go_in;go_wp2_with fail;refine r.mono ?_;rintro m q ⟨rfl,t⟩;exact⟨K,K,t⟩
def ZJ(o:aW i w c b d f h g k j e Z a)(m)(t:m<Q a)(r:Nat)(v:a[m]=r)(x):
 μ ε 152 #[pV b,U m] w λn A=>n=π (U (tl c Z)[r].x)/\I No w A:=by
 obtain⟨oa,oc,S,H,q0,q1,q2,q3,q4,q5,q6,qp,z⟩:=o.cell;obtain⟨L,rfl,N,P,R,u,B,-⟩:=z m t;rw[v]at B;unfold Δ at u;obtain⟨D,y⟩:=o.jr;have p:Hid (∀l,I No w l->μ ε 215 #[pV d,U (r:Int)] l (Hh (tl c Z)[r] l)):=λl q=>ĸ r l x<|y.y q;have M:=D1f;generalize (tl c Z)[r]=a2 at*;go_in;go_wp2;go_region_with (go_at_call 215;refine(p.u _<|Ψ _ _ 1).mono ?_;rintro n a3 ⟨F,G,T,lc,rfl,s,-,-⟩);all_goals
  go_wp2;go_ret;exact⟨K,B6 (Ψ _ _ 1) s⟩
def YA(p:aW i w c b d f h g k j e Z a)(l)(s:l<Q a)(r:Nat)(t:a[l]=r)(u):
 μ ε 95 #[pV b,U l] w λm n=>m=π (.bool<|(tl c Z)[r].x==5)/\I No w n:=by
 have o:=ZJ p l s r t u;generalize (tl c Z)[r].x=v at*;go_in;go_wp2_with fail;refine o.mono ?_;rintro m n ⟨rfl,q⟩;go_wp2;go_ret;exact⟨K,q⟩
def OD(u:dO i c b d f h g e)(m:aW i w c b d f h g k j e Z a)(l)(p:l<Q c.N)(o:(aA c.N l).ty=-1->(aA c.N l).x=17->∃n:Nat,(aA c.N l).a=n/\n<Q a):
 μ ε 148 #[pV b,U l] w λt G=>t=π (U<|kF c a l)/\I No w G:=by
 obtain⟨oa,oc,hp,H,q0,q1,q2,q3,q4,q5,q6,D,B⟩:=m.cell;obtain⟨L,nc,la,lc,rfl,N,P,v,⟨x0,x1,x2,x3,x4,x5,x6,x7,x8⟩,-,-⟩:=(u.fx m.P).at (ñ _ _) l p;have A:=D 5 W W;unfold Δ at v;simp only[show 7+5=12 from K,show Q c.T+5-1=Q c.T+4 by omega]at A;unfold kF;rw[B7 p]at o⊢;generalize c.N[l]=z at*;obtain⟨y,va,vb,vc,ls,tx,vn,F,vp⟩:=z;simp only at*;generalize ((Q c.T+4:Nat):Int)=a3 at*;by_cases s:F=-1
 .subst s;rw[wY θ];by_cases q:y=17
  .subst q;obtain⟨n,rfl,r⟩:=o K K;obtain⟨M,rfl,R,S,T,x,y0,-⟩:=B n r;rw[yY K,tQ,lQ,gQ r];simp;unfold Δ at x;generalize a[n]=a2 at*;go_in;go_wp2;go_region;all_goals go_wp2
   all_goals go_ret
   all_goals exact⟨K,B6 (ν No _ _)<|Ψ _ _ 1⟩
  .rw[wY q];go_in;go_wp2;go_ret;exact⟨K,ν No _ _⟩
 .rw[yY s];go_in;go_wp2;go_ret;exact⟨K,ν No _ _⟩
end
def Qw(w:E)(a b:bZ)(x)(c)(d:δ w (J c 5)=C (ι ⟨ξ a⟩)):
 μ ε 217 #[.agg #[ι ⟨ξ b⟩,U x],pV c] w λe f=>e=π (.bool<|b==a)/\I No w f:=by
 have g:=Ü w _ d;by_cases h:b=a
 .subst h;go_in;go_wp2;go_ret;exact⟨F9 θ,ν _ _ _⟩
 .go_in;go_wp2;go_ret;exact⟨F9 θ,ν _ _ _⟩
section
variable{i w:E}{c:Cx}{e b a h:Nat}{g k f:υ}{j:Int}{Z:List Ty}{d:uZ}
def Sd(o:aW i w c e b a h g k j f Z d)(r l)(v:r<Q (tl c Z))(u:l<Q (tl c Z)):
 μ ε 255 #[pV b,U r,U l] w λn m=>n=π (.bool<|F7 (tr (tl c Z) r)<|tr (tl c Z) l)/\I (λy=>y=a) w m/\aW i m c e b a h g k j f Z d:=by
 obtain⟨D,x⟩:=o.jr;refine(SG (r+l+1) r l w D W v u x).mono ?_;rintro n m ⟨s,p,q,t,_⟩;exact⟨s,p,o.jg p ⟨q,t⟩⟩
def nI(i w:E)(c:Cx)(e b a h:Nat)(g k:υ)(j:Int)(f:υ)(Z:List Ty)(d:uZ)(o:Nat)(n:Bool)(l:ò)(m:E):Prop:=I (λp=>p=a) w m/\match n with
 |τ=>l=rT/\aW i m c e b a h g k j f Z d
 |κ=>l=gu 9 (cW c.N o)
def vH(i w:E)(c:Cx)(e b a h:Nat)(g k:υ)(j:Int)(f:υ)(Z:List Ty)(d:uZ)(n:Nat)(o:Option Tr)(l:ò)(m:E):Prop:=I (λp=>p=a) w m/\match o with
 |none=>l=gu 9 (cW c.N n)
 |C t=>aW i m c e b a h g k j f Z d/\∃x:Nat,l=π (U x)/\x<Q (tl c Z)/\tr (tl c Z) x=t
def Dc(G:dO i c e b a h g f)(z:aW i w c e b a h g k j f Z d)(m)(L:m<Q c.N)(p)(N:p<Q d)(r:Nat)(P:d[p]=r)(R:r<Q (tl c Z))(l)(H:l<Q (tl c Z)):
 μ ε 219 #[pV e,U m,U p,U l] w (nI i w c e b a h g k j f Z d m<|F7 (tr (tl c Z) r)<|tr (tl c Z) l):=by
 obtain⟨oa,oc,a5,fz,q0,q1,q2,q3,q4,q5,q6,qp,S⟩:=z.cell;obtain⟨go,rfl,a2,a3,a4,M,y0,-⟩:=S p N;rw[P]at y0;unfold Δ at M;have v:Hid (∀u,I No w u->_):=λu s=>Sd (z.y s) r l R H;have A:Hid (∀u,aW i u c e b a h g k j f Z d->_):=λu s=>zD G s m L;generalize F7 (tr (tl c Z) r) (tr (tl c Z) l)=D at*;cases D
 .go_in;go_wp2;go_region_with (go_at_call 255;refine(v.u _<|Ψ _ _ 1).mono ?_;rintro y T ⟨rfl,q,o⟩);all_goals
   have n:=O<|(Ψ (λt=>t=a) w 1).trans q Ξ;have B:=A.u _ o;go_wp2_with fail;refine B.mono ?_;rintro y a6 ⟨rfl,F⟩;exact⟨K,n.u.trans F å,K⟩
 .go_in;go_wp2;go_region_with (go_at_call 255;refine(v.u _<|Ψ _ _ 1).mono ?_;rintro y T ⟨rfl,q,o⟩);all_goals
   have n:=O<|(Ψ (λt=>t=a) w 1).trans q Ξ;go_wp2;go_end0;exact⟨n.u,K,o⟩
end
def D9{a b}{q:Nat}{c}{e}(d:I No a b)(h:a.heap[q]?=C (γ c e (0,0))):b.heap[q]?=C (γ c e (0,0)):=by
 rw[d.block q (aG h) λx=>x];omega
def NO{k B N}{T}{D}(i)(w)(z)(h:dY w k B N T D):
 ∃g c b d f j,δ w (J k 0)=C (Y (C<|J g 0) (Q T) c)/\δ w (J g<|i*4)=C (U T[i].x)/\δ w (J g<|i*4+1)=C (Y b (Q T[i].eo) d)/\δ w (J g<|i*4+2)=C (Y f (Q T[i].M) j)/\δ w (J g<|i*4+3)=C (U T[i].fh)/\
  (ρ w 0 139 2 (Y b (Q T[i].eo) d) (Q T[i].eo) (I0 T[i].eo)/\ρ w 0 3 1 (Y f (Q T[i].M) j) (Q T[i].M) (C8 T[i].M))/\∀a:E,δ a (J k 0)=C (Y (C<|J g 0) (Q T) c)->δ a (J g<|i*4)=C (U T[i].x)->δ a (J g<|i*4+1)=C (Y b (Q T[i].eo) d)->δ a (J g<|i*4+2)=C (Y f (Q T[i].M) j)->δ a (J g<|i*4+3)=C (U T[i].fh)->
  μ ε 215 #[pV k,U i] a λe F=>e=π (.agg #[U T[i].x,Y b (Q T[i].eo) d,Y f (Q T[i].M) j,U T[i].fh])/\F=a.alloc (γ #[U T[i].x,Y b (Q T[i].eo) d,Y f (Q T[i].M) j,U T[i].fh] 99):=by
 have L:=h.fq;obtain⟨G,c,l,u,A,v,n⟩:=h.cell;obtain⟨g,b,d,f,j,rfl,y,H,x,m,q,r,s,o,p⟩:=n i z;refine⟨g,c,b,d,f,j,l,m,q,r,s,⟨o,p⟩,λa l m q r s=>?_⟩;have M:g<V a.heap:=Ü a _ m;have P:k<V a.heap:=Ü a _ l;unfold Δ at x;clear n h o p y A v u;generalize T[i]=t at*;go_in;go_wp2;exact ç (v:=.agg #[U t.x,Y b (Q t.eo) d,Y f (Q t.M) j,U t.fh]) (by simp[ã,results215,go_sem]) K ⟨K,K⟩
section
variable{j w:E}{c:Cx}{b d g i:Nat}{h l f:υ}{k:Int}{Z:List Ty}{e:uZ}{a:Of}
def uw{T:List Ty}(m:aX T){r}(o:r<Q T)(s:T[r].x≠5)(q:bZ)(t:¬(T[r].x=8/\q=[108,101,110,103,116,104])){n:Nd}(v:n.text=q)(u:bB a n.a=tr T r):
 N9 a n=I8 q (T[r].eo.map (·.1)) (T[r].eo.map λp=>tr T p.2.toNat):=by
 unfold N9;rw[u,jU m o,wY s,v,wY t,TD m o,qP m o];by_cases x:T[r].x=7<;>simp_all[wY,OI,BW,I8]
def XP(hB:dO j c b d g i h f)(S:aW j w c b d g i h l k f Z e)(o)(hi:o<Q c.N)(p)(hp:p<Q e)(an:c.N[o].a=p)(r:Nat)(hr:e[p]=r)(aa:r<Q (tl c Z))(he:bB a c.N[o].a=tr (tl c Z) r):
 μ ε 149 #[pV b,U o] w (vH j w c b d g i h l k f Z e o<|N9 a c.N[o]):=by
 obtain⟨oa,oc,b4,fz,q0,q1,q2,q3,q4,q5,q6,qp,qo⟩:=S.cell;obtain⟨go,rfl,b1,b2,bi,b3,y0,-⟩:=qo p hp;rw[hr]at y0;obtain⟨bd,nc,la,lc,rfl,hg,bh,az,⟨x0,x1,x2,x3,x4,x5,x6,x7,x8⟩,-,-⟩:=(hB.fx S.P).at (ñ _ _) o hi;have a6:=qp 1 W W;simp only[show 7+1=8 from K,show Q c.T+1-1=Q c.T by omega]at a6;have bf:=hB.ok.fp;have hT:=S.ts;unfold Δ at az b3;obtain⟨bc,aq⟩:=S.jr;obtain⟨gt,ct,fa,fc,b6,b7,z0,z1,z2,z3,z4,⟨ag,-⟩,aj⟩:=NO r w aa aq;have HG:=O aj;have af:=O ag;clear aj ag;have HW:Hid (∀ad,I No w ad->_):=λad hu=>zD hB (S.y hu) o hi;have H0:=O S;have aw:=O (nG hT (k:=1) W W);have ax:Q c.T<Q (tl c Z):=by rw[U8];omega
 have E5:Hid ((tl c Z)[r].x=5->N9 a c.N[o]=C (tr (tl c Z) r)):=λT=>by
  simp_all[N9,jU,yY]
 have E8:Hid ((tl c Z)[r].x=8->c.N[o].text=[108,101,110,103,116,104]->N9 a c.N[o]=C (eV 1)):=λu ht=>by
  unfold N9;grind[jU]
 have EF:Hid ((tl c Z)[r].x≠5->¬((tl c Z)[r].x=8/\c.N[o].text=[108,101,110,103,116,104])->N9 a c.N[o]=I8 c.N[o].text ((tl c Z)[r].eo.map (·.1)) ((tl c Z)[r].eo.map λp=>tr (tl c Z) p.2.toNat)):=λT u=>uw hT aa T _ u K he;have av:=O (hT r aa).nh;have a9:=O aa;rw[an]at x1;clear qp qo S hr aq hB an he;generalize N9 a c.N[o]=FT at*;generalize c.N[o]=nd at*;generalize (tl c Z)[r]=b9 at*;obtain⟨kd,va,vb,vc,ls,A,vn,vt,vp⟩:=nd;obtain⟨M,v,ba,bb⟩:=b9;simp only at*;have B:=ν No w<|aM kd (p:Int) vb vc (Y la (Q ls) lc) A vn vt vp;have nb:=rY w<|aM kd (p:Int) vb vc (Y la (Q ls) lc) A vn vt vp;have n1:δ (w.alloc<|aM kd (p:Int) vb vc (Y la (Q ls) lc) A vn vt vp) (J (V w.heap) 1)=C (U (p:Int)):=cr nb K;have n5:δ (w.alloc<|aM kd (p:Int) vb vc (Y la (Q ls) lc) A vn vt vp) (J (V w.heap) 5)=C (ι ⟨A.toArray⟩):=cr nb K;replace q3:=A4 B q3;replace q6:=A4 B q6;replace a6:=A4 B a6;replace y0:=A4 B y0;replace z0:=A4 B z0;replace z1:=A4 B z1;replace z2:=A4 B z2;replace z3:=A4 B z3;replace z4:=A4 B z4;have ao:=blt q3;have ai:=blt y0;have al:=blt z0;have ar:=blt z1;have am:=blt n1;simp only at ao ai al ar am;have ae:=O B;clear B nb;go_in;go_wp2_with fail;clear q0 q1 q2 q4 q5 fz x0 x1 x2 x3 x4 x5 x6 x7 x8 b4 hg b1 b2;generalize (w.alloc<|aM kd (p:Int) vb vc (Y la (Q ls) lc) A vn vt vp)=ύ at*;go_cut [6] (λv6 wc=>∃ac:Nat,v6=pV ac/\Hid (I No ύ wc)/\δ wc (J ac 0)=C (U M)/\δ wc (J ac 1)=C (Y fa (Q v) fc));case first=>
  go_region_held3 (λG=>G.cell? (J b 3)=C (pV d)/\G.cell? (J b 6)=C (Y (C<|J go 0) (Q e) oc)/\G.cell? (J go p)=C (U (r:Int))/\G.cell? (J (V w.heap) 1)=C (U (p:Int))/\
   G.cell? (J d 0)=C (Y (C<|J gt 0) (Q (tl c Z)) ct)/\G.cell? (J gt<|r*4)=C (U M)/\G.cell? (J gt<|r*4+1)=C (Y fa (Q v) fc)/\G.cell? (J gt<|r*4+2)=C (Y b6 (Q ba) b7)/\G.cell? (J gt<|r*4+3)=C (U bb))
   (go_keep)
   (first
    |((go_at_call 215;go_split_ands;refine(HG.u _ W W W W W).mono ?_;rintro F G ⟨rfl,rfl⟩)));all_goals go_wp2_with fail
  all_goals go_meet
  all_goals exact⟨_,K,B6 (B6 (ν No _ _)<|ν No _ _)<|Ψ No _ 1,θ,θ⟩
 case rest=>
  obtain⟨ac,rfl,N,t0,L⟩:=hcut;have s:=O<|B6 ae.u N.u;replace q3:=A4 N.u q3;replace q6:=A4 N.u q6;replace a6:=A4 N.u a6;replace y0:=A4 N.u y0;replace n1:=A4 N.u n1;replace n5:=A4 N.u n5;have b5:=blt q3;have ay:=blt y0;have b0:=blt n1;simp only at b5 ay b0;have FO:=O<|A3 af.u s.u Ξ;clear z0 z1 z2 z3 z4 ao ai al ar am HG af ae N;by_cases T:M=5
  .have e5:=E5.u T;subst T;go_wp2_with fail;go_quiet (fail);go_wp2_with fail;go_ret;rw[e5];exact⟨(B6 s.u<|Ψ No _ _).mono å,H0.u.y<|B6 s.u<|Ψ No _ _,r,K,a9.u,K⟩
  have be:(M==5)=κ:=by simpa using T
  have bg:=uG;have a8:=O (Js 217 (λ_ _=>Ω) wc fa fc v FO.u A (V w.heap) λad hu b8 x=>Qw ad A b8 x _<|A4 hu n5);have P:Hid (¬(M=8/\A=[108,101,110,103,116,104])->∀(x:Int),RL v A x->(∃q:Nat,∃H:q<Q v,x=q/\FT=C (tr (tl c Z) v[q].2.toNat)/\(0<=v[q].2/\v[q].2<(r:Int)))\/x=-1/\FT=none):=by
   intro u x y;have eF:=EF.u T u;obtain⟨q,H,rfl,h1,h2⟩|⟨rfl,h1⟩:=y
   .exact .inl ⟨q,H,K,by grind[OT],av.u _<|mQ H⟩
   .grind[RI]
  clear EF E5;by_cases ab:A=[108,101,110,103,116,104]
  .subst ab;by_cases u:M=8
   .have e8:=O<|E8.u u K;subst u;clear E8 P a8;go_wp2_with fail;go_ret;exact⟨s.u.mono å,by rw[e8.u];exact⟨H0.u.y s.u,Q c.T,K,ax,by simpa using aw.u⟩⟩
   .have g8:(M==8)=κ:=by simpa using u
    replace P:=O<|P.u λF=>u F.1;clear E8 u;go_wp2_with fail;refine a8.u.mono ?_;rintro F a7 ⟨⟨x,rfl,y⟩,n⟩;obtain⟨q,H,rfl,m,a5⟩|⟨rfl,m⟩:=P.u x y
    .obtain⟨g2,rfl,ah,ak,a3,v0,v1⟩:=Y8 (A3 FO.u n Ξ) H;replace L:=A4 n L;have a4:=blt L;simp only at a4;have t:=O<|B6 s.u n;have D:=O m;obtain⟨z,R⟩:∃z:Nat,v[q].2=(z:Int):=⟨v[q].2.toNat,W⟩;rw[R]at v1 a5 m;have a2:=O m;unfold Δ at a3;clear v0 y n m D R;go_wp2_with fail;go_ret;have ap:=a9.u;exact⟨t.u.mono å,by rw[a2.u];exact⟨H0.u.y t.u,z,K,W,K⟩⟩
    .have HX:=O<|HW.u a7<|B6 s.u n;have t:=O<|B6 s.u n;have D:=O m;clear y n m;go_wp2_with fail;refine HX.u.mono ?_;rintro F au ⟨rfl,h7⟩;exact⟨K,(B6 t.u h7).mono å,by rw[D.u];rfl⟩
  .have gx:(A==[108,101,110,103,116,104])=κ:=by simpa using ab
   replace P:=O<|P.u λF=>ab F.2;clear E8 ab;by_cases u:M=8
   .subst u;go_wp2_with fail;refine a8.u.mono ?_;rintro F a7 ⟨⟨x,rfl,y⟩,n⟩;obtain⟨q,H,rfl,m,a5⟩|⟨rfl,m⟩:=P.u x y
    .obtain⟨g2,rfl,ah,ak,a3,v0,v1⟩:=Y8 (A3 FO.u n Ξ) H;replace L:=A4 n L;have a4:=blt L;simp only at a4;have t:=O<|B6 s.u n;have D:=O m;obtain⟨z,R⟩:∃z:Nat,v[q].2=(z:Int):=⟨v[q].2.toNat,W⟩;rw[R]at v1 a5 m;have a2:=O m;unfold Δ at a3;clear v0 y n m D R;go_wp2_with fail;go_ret;have ap:=a9.u;exact⟨t.u.mono å,by rw[a2.u];exact⟨H0.u.y t.u,z,K,W,K⟩⟩
    .have HX:=O<|HW.u a7<|B6 s.u n;have t:=O<|B6 s.u n;have D:=O m;clear y n m;go_wp2_with fail;refine HX.u.mono ?_;rintro F au ⟨rfl,h7⟩;exact⟨K,(B6 t.u h7).mono å,by rw[D.u];rfl⟩
   .have g8:(M==8)=κ:=by simpa using u
    clear u;go_wp2_with fail;refine a8.u.mono ?_;rintro F a7 ⟨⟨x,rfl,y⟩,n⟩;obtain⟨q,H,rfl,m,a5⟩|⟨rfl,m⟩:=P.u x y
    .obtain⟨g2,rfl,ah,ak,a3,v0,v1⟩:=Y8 (A3 FO.u n Ξ) H;replace L:=A4 n L;have a4:=blt L;simp only at a4;have t:=O<|B6 s.u n;have D:=O m;obtain⟨z,R⟩:∃z:Nat,v[q].2=(z:Int):=⟨v[q].2.toNat,W⟩;rw[R]at v1 a5 m;have a2:=O m;unfold Δ at a3;clear v0 y n m D R;go_wp2_with fail;go_ret;have ap:=a9.u;exact⟨t.u.mono å,by rw[a2.u];exact⟨H0.u.y t.u,z,K,W,K⟩⟩
    .have HX:=O<|HW.u a7<|B6 s.u n;have t:=O<|B6 s.u n;have D:=O m;clear y n m;go_wp2_with fail;refine HX.u.mono ?_;rintro F au ⟨rfl,h7⟩;exact⟨K,(B6 t.u h7).mono å,by rw[D.u];rfl⟩
end
def Lk(c:Cx)(Z:List Ty)(a:uZ)(b:Of)(x:Int):Prop:=∃(p r:Nat) (h:p<Q a),x=p/\a[p]=r/\r<Q (tl c Z)/\tr (tl c Z) r=bB b x
section
variable{i w:E}{c:Cx}{a e f h:Nat}{g k d:υ}{j:Int}{Z:List Ty}{b:uZ}{of:Of}
def RE(m:aW i w c a e f h g k j d Z b){p:Nat}(o:Lk c Z b of p):
 μ ε 152 #[pV a,U p] w λl v=>l=π (U (bB of p).k)/\I No w v:=by
 obtain⟨u,r,q,l,s,n,t⟩:=o;have:p=u:=W;subst this;rw[<-t,jU m.ts n];exact ZJ m p q r s n
def CU(c:Cx)(n:Nat)(m:Bool)(w:E)(l:ò)(o:E):Prop:=I No w o/\match m with
 |τ=>l=rT
 |κ=>l=gu 9 (cW c.N n)
def Dr(M:dO i c a e f h g d)(L:aW i w c a e f h g k j d Z b)(t)(hi:t<Q c.N)(l)(N:∀x∈l,Lk c Z b of x)(S)(T)(P:ρ w 0 3 1 (Y S (Q l) T) (Q l)<|C8 l)(hn:Q l<=2):
 μ ε 228 #[pV a,U t,Y S (Q l) T] w (CU c t (l.all<|jH of) w):=by
 have HW:Hid (∀u,aW i u c a e f h g k j d Z b->_):=λu hu=>zD M hu t hi;have D:=O L;have HO:=O P;have HL:=O N;clear L P N M;go_in;go_wp2_with fail;go_loopw [11] (λv wr=>∃m:Nat,m<=Q l/\v=U (m:Int)/\Hid (∀x∈l.take m,jH of x=τ)/\Hid (I No w wr)) (λv _=>Q l-(intOf v).toNat);case atStart=>exact⟨0,wQ _,K,(show∀x∈l.take 0,_ from θ),ì _ _⟩
 case round=>
  obtain⟨m,hj,rfl,F,o⟩:=hrel;by_cases z:m<Q l
  .obtain⟨g2,a5,a8,a9,a4,y0⟩:=D6 (A3 HO.u o.u Ξ) z;subst a5;have n:=HL.u l[m]<|mQ z;obtain⟨p,a7,hp,q,R,a6,ht⟩:=n;have s:=RE (of:=of) (D.u.y o.u) (p:=p) ⟨p,a7,hp,K,R,a6,η⟩;have G:Hid ((jH of l[m]=τ↔(bB of (p:Int)).k=1\/(bB of (p:Int)).k=5)):=by
    show _↔_;unfold jH;rw[q];simp
   have HM:=O<|mQ z;have a2:Hid (∀x∈l.take (m+1),x∈l.take m\/x=l[m]):=λx n=>by
    grind[nQ,qW,zW]
   rw[q]at y0;unfold Δ at a4;clear q R ht;generalize (bB of (p:Int)).k=y at*;by_cases A:y=1\/y=5
   .have H:Hid (∀x∈l.take (m+1),jH of x=τ):=λx n=>by
     obtain n|rfl:=a2.u x n
     .exact F.u x n
     .exact G.u.2 A
    obtain rfl|rfl:=A
    .go_wp2_with fail;refine s.mono ?_;rintro q B ⟨rfl,r⟩;go_wp2_with fail;go_roundw;case rel=>exact⟨m+1,W,ï,H.u,o.u.trans r Ξ⟩
     grind[intOf]
    .go_wp2_with fail;refine s.mono ?_;rintro q B ⟨rfl,r⟩;go_wp2_with fail;go_roundw;case rel=>exact⟨m+1,W,ï,H.u,o.u.trans r Ξ⟩
     grind[intOf]
   .have aa:(y !=1)=τ:=â;have k5:(y !=5)=τ:=â;have HF:Hid (l.all (jH of)=κ):=by
     show _=_;rw[Bool.eq_false_iff];intro n;exact A<|G.u.1<|List.all_eq_true.1 n _ HM.u
    go_wp2_with fail;refine s.mono ?_;rintro q B ⟨rfl,r⟩;have HX:=O<|HW.u B<|D.u.y<|B6 o.u r;have HC:=O<|B6 o.u r;clear r s;go_wp2_with fail;refine HX.u.mono ?_;rintro q ab ⟨rfl,h3⟩;exact⟨K,B6 HC.u h3,by rw[HF.u];rfl⟩
  .have a3:m=Q l:=W;subst a3;have HT:Hid (l.all (jH of)=τ):=by
    show _=_;rw[List.all_eq_true];intro x n;exact F.u x η
   go_wp2_with fail;go_end0;exact⟨o.u,by rw[HT.u]⟩
def ZG{r}{n}{p s}{l m}(q:I No l m)(o:δ l (J n 1)=C (U p)/\δ l (J n 2)=C (U s)/\Hid (I No r l)):δ m (J n 1)=C (U p)/\δ m (J n 2)=C (U s)/\Hid (I No r m):=
 ⟨A4 q o.1,A4 q o.2.1,B6 o.2.2.u q⟩
def D3f(hB:dO i c a e f h g d)(s:aW i w c a e f h g k j d Z b)(q)(hi:q<Q c.N)(ha:Lk c Z b of c.N[q].a)(hb:Lk c Z b of c.N[q].b):
 μ ε 227 #[pV a,U q] w (vH i w c a e f h g k j d Z b q<|sT of c.N[q]):=by
 obtain⟨oa,oc,aj,fz,q0,q1,q2,q3,q4,q5,q6,qp,qo⟩:=s.cell;have hT:=s.ts;have ax:Q c.T+4<Q (tl c Z):=by rw[U8];omega
 obtain⟨ar,nc,G,H,ah,hg,az,ag,⟨x0,x1,x2,x3,x4,x5,x6,x7,x8⟩,-,-⟩:=(hB.fx s.P).at (ñ _ _) q hi;have y:=qp 1 W W;have M:=qp 3 W W;have N:=qp 5 W W;simp only[show 7+1=8 from K,show 7+3=10 from K,show 7+5=12 from K,show Q c.T+1-1=Q c.T by omega,show Q c.T+3-1=Q c.T+2 by omega,show Q c.T+5-1=Q c.T+4 by omega]at y M N;have ae:=O (nG hT (k:=1) W W);have af:=O (nG hT (k:=3) W W);have a9:=O (nG hT (k:=5) W W);have ay:=hB.ok.fp;unfold Δ at ag;obtain⟨p,ap,hp,a5,hr,al,an⟩:=ha;obtain⟨n,r',ai,a6,ad,am,ao⟩:=hb;have HK:Hid (∀u (x:Nat),I No w u->(x=p\/x=n)->μ ε 152 #[pV a,U (x:Int)] u λa2 z=>a2=π (U (bB of (x:Int)).k)/\I No u z):=λu x hu hx=>by
  obtain rfl|rfl:=hx
  .exact RE (s.y hu) ⟨x,ap,hp,K,hr,al,η⟩
  .exact RE (s.y hu) ⟨x,r',ai,K,ad,am,η⟩
 have HW:Hid (∀u,I No w u->_):=λu hu=>zD hB (s.y hu) q hi;have H0:=O s;have m:Hid (sT of c.N[q]=if (bB of (p:Int)).k=5\/(bB of (n:Int)).k=5 then C iM else if (bB of (p:Int)).k≠(bB of (n:Int)).k\/((bB of (p:Int)).k≠1/\(bB of (p:Int)).k≠3) then none else C<|eV (bB of (p:Int)).k):=by
  show _=_;unfold sT;rw[a5,a6]
 rw[a5]at x1;rw[a6]at x2;clear qp qo s hr ad hB a5 a6 an ao q1 q2 q3 q4 q5 q6 fz;generalize sT of c.N[q]=v at*;generalize c.N[q]=nd at*;obtain⟨F,va,vb,R,L,P,S,vt,T⟩:=nd;subst ah;simp only at*;have A:=ν No w<|aM F (p:Int) (n:Int) R (Y G (Q L) H) P S vt T;have nb:=rY w<|aM F (p:Int) (n:Int) R (Y G (Q L) H) P S vt T;have n1:δ (w.alloc<|aM F (p:Int) (n:Int) R (Y G (Q L) H) P S vt T) (J (V w.heap) 1)=C (U (p:Int)):=cr nb K;have n2:δ (w.alloc<|aM F (p:Int) (n:Int) R (Y G (Q L) H) P S vt T) (J (V w.heap) 2)=C (U (n:Int)):=cr nb K;replace y:=A4 A y;replace M:=A4 A M;replace N:=A4 A N;have ac:=blt n2;simp only at ac;have a3:=O A;clear A nb;go_in;go_wp2_with fail;clear q0 x0 x1 x2 x3 x4 x5 x6 x7 x8 aj hg;generalize (w.alloc<|aM F (p:Int) (n:Int) R (Y G (Q L) H) P S vt T)=t at*;have S0:Hid (δ t.drew (J (V w.heap) 1)=C (U (p:Int))/\δ t.drew (J (V w.heap) 2)=C (U (n:Int))/\Hid (I No t t.drew)):=⟨n1,n2,Ψ _ _ 1⟩;generalize aa:(bB of (p:Int)).k=r at*;generalize ab:(bB of (n:Int)).k=D at*;have a7:=O aa;have a8:=O ab;clear aa ab;go_cut [6,7] (λv6 v7 wc=>v6=U r/\v7=U D/\Hid (I No t wc));case first=>
  go_region_held3 (λz=>δ z (J (V w.heap) 1)=C (U (p:Int))/\δ z (J (V w.heap) 2)=C (U (n:Int))/\Hid (I No t z))
   (first
    |exact S0.u
    |exact ZG hc ⟨W,W,W⟩
    |(go_split_ands;exact ZG hc ⟨À,À,À⟩)
    |(go_split_ands;exact⟨À,À,À⟩))
   (first
    |((go_at_call 152;go_split_ands;refine(HK.u _ _ (B6 a3.u<|Hid.u (p:=I No t _) W) θ).mono ?_;rintro a2 z ⟨rfl,hc⟩)));all_goals go_wp2_with fail
  all_goals go_meet
  all_goals exact⟨by rw[a7.u],by rw[a8.u],η⟩
 case rest=>
  obtain⟨rfl,rfl,B⟩:=hcut;have l:=O<|B6 a3.u B.u;replace y:=A4 B.u y;replace M:=A4 B.u M;replace N:=A4 B.u N;have ak:=blt y;simp only at ak;clear S0 HK a7 a8 n1 n2 ac B a3;by_cases h5:r=5
  .have o:Hid (v=C iM):=by show _=_;rw[m.u,yY<|.inl h5]
   subst h5;clear m;go_wp2_with fail;go_ret;exact⟨l.u.mono å,by rw[o.u];exact⟨H0.u.y l.u,Q c.T+4,K,W,by simpa[eV,iM]using a9.u⟩⟩
  have av:(r==5)=κ:=by simpa using h5
  by_cases h6:D=5
  .have o:Hid (v=C iM):=by show _=_;rw[m.u,yY<|.inr h6]
   subst h6;clear m;go_wp2_with fail;go_ret;exact⟨l.u.mono å,by rw[o.u];exact⟨H0.u.y l.u,Q c.T+4,K,W,by simpa[eV,iM]using a9.u⟩⟩
  have aw:(D==5)=κ:=by simpa using h6
  by_cases a4:r=D
  .subst a4;by_cases h1:r=1
   .have o:Hid (v=C (eV 1)):=by show _=_;rw[m.u,wY W,wY W,h1]
    subst h1;clear m;go_wp2_with fail;go_ret;exact⟨l.u.mono å,by rw[o.u];exact⟨H0.u.y l.u,Q c.T,K,W,by simpa using ae.u⟩⟩
   .by_cases h3:r=3
    .have o:Hid (v=C (eV 3)):=by show _=_;rw[m.u,wY W,wY W,h3]
     subst h3;clear m;go_wp2_with fail;go_ret;exact⟨l.u.mono å,by rw[o.u];exact⟨H0.u.y l.u,Q c.T+2,K,W,by simpa using af.u⟩⟩
    .have o:Hid (v=none):=by show _=_;rw[m.u,wY W,yY W]
     have g1:(r !=1)=τ:=by simpa using h1
     have g3:(r !=3)=τ:=by simpa using h3
     clear m;have HX:=O<|HW.u wc l.u;go_wp2_with fail;refine HX.u.mono ?_;rintro a2 aq ⟨rfl,h7⟩;exact⟨K,(B6 l.u h7).mono å,by rw[o.u];rfl⟩
  .have o:Hid (v=none):=by show _=_;rw[m.u,wY W,yY<|.inl a4]
   have au:(r !=D)=τ:=by simpa using a4
   clear m;have HX:=O<|HW.u wc l.u;go_wp2_with fail;refine HX.u.mono ?_;rintro a2 aq ⟨rfl,h7⟩;exact⟨K,(B6 l.u h7).mono å,by rw[o.u];rfl⟩
end
def KC(a b:E):Prop:=V a.heap<=V b.heap/\∀(q:Nat) (c) (e) (d),a.heap[q]?=C (γ c e d)->b.heap[q]?=C (γ c e d)
theorem KC.refl(a):KC a a:=⟨vQ _,λ_ _ _ _ h=>h⟩
theorem KC.trans{a b c}(h:KC a b)(k:KC b c):KC a c:=⟨kQ h.1 k.1,λq d e f x=>k.2 q d e f<|h.2 q d e f x⟩
theorem KC.y{a b}(h:I No a b):KC a b:=⟨h.size,λq c e d x=>by rw[h.block q (aG x) λy=>y];omega⟩
theorem KC.cell{a b}(h:KC a b){q o}{v}(d:δ a (J q o)=C v):δ b (J q o)=C v:=by
 have j:=Ü a _ d;cases c:a.heap[q]? with
 |none=>
  grind
 |some i=>
  cases i with
  |cells f e g=>
   have:=h.2 q f e g c;grind[Ë]
  |_=>simp[δ,c]at d
def KC.row{a b}(h:KC a b){c}{e}{f}{v}{n}{i}(k:ρ a c e f v n i):ρ b c e f v n i:=by
 obtain⟨j,d⟩:=k;refine⟨j,?_⟩;obtain d|⟨g,cap,cur,e1,e2,e3,r⟩:=d
 .grind
 .exact .inr ⟨g,cap,cur,e1,e2,h.2 _ _ _ _ e3,r⟩
def aW.kc{p w d}{c}{n i b o}{l r f}{j}{Z}{m}(h:aW p w c n i b o l r j f Z m)(a:I (λk=>k=b) w d):KC w d:=by
 obtain⟨D,g⟩:=h.jr;exact⟨a.size,λq s e t x=>by rw[a.block q (aG x) λy=>by subst y;exact g.gm.tag _ _ _ x];omega⟩
structure gV(c:Cx)(Z:List Ty)(ofs:uZ)(of:Of)(i:Nat):Prop where
 pe:∀x,Pe c.N i x->Lk c Z ofs of x
 has:∀x,Tg c.N i x->∃(j a:Nat),x=(j:Int)/\j<Q c.N/\kF c ofs j=(a:Int)/\a<Q (tl c Z)/\tr (tl c Z) a=Z5 c of x/\((aA c.N j).ty=-1->(aA c.N j).x=17->∃n:Nat,(aA c.N j).a=(n:Int)/\n<Q ofs)
 res:∀x:Int,∃a:Nat,wU c (aA c.N x)=(a:Int)/\a<Q (tl c Z)/\tr (tl c Z) a=lJ c.T (aA c.N x)
 wt:∀x,Py c.T x->∃a:Nat,x=(a:Int)/\a<Q (tl c Z)/\tr (tl c Z) a=tr c.T x.toNat
def RG{c}(m:jG c){Z}(G:aX<|tl c Z){q}{f}(F:gZ (tl c Z) q f){k}(D:EJ c f k){i}(a2:i<=k):gV c Z q f i:=by
 have L:∀j:Nat,(h:j<Q c.N)->aP c.N[j].x->(j<k\/c.N[j].x=6)->Lk c Z q f (j:Int):=λj h s l=>by
  obtain⟨a4,o⟩:=D.ex j h s l;obtain⟨r,w,z,A,B⟩:=aW.look (c:=c) (Z:=Z) F o;exact⟨j,r,w,K,z,A,B⟩
 have v:Q c.T+4<Q (tl c Z)/\tr (tl c Z) (Q c.T+4)=iM:=⟨by grind[U8],by have:=nG G (k:=5) W W;grind[eV,iM]⟩;have u:∀x,Py c.T x->∃a:Nat,x=(a:Int)/\a<Q (tl c Z)/\tr (tl c Z) a=tr c.T x.toNat:=λx ⟨j,e,d,_⟩=>⟨j,e,W,by rw[TI m.ok d,e];rfl⟩;refine⟨λx ⟨j,e,d,h,s⟩=>η,λx ⟨j,e,h,a3,d⟩=>?_,λx=>?_,u⟩
 .have e1:=B7 h;have b:=pW m (j:Int);by_cases o:(aA c.N (j:Int)).ty=-1
  .by_cases y:(aA c.N (j:Int)).x=17
   .have N:=((m.ew j h).ly η).2;have T:Lk c Z q f c.N[j].a:=by
     obtain d|⟨_,n,g,M,t,l⟩:=d
     .obtain⟨n,g,M,t,s⟩:=N;grind
     .rw[g];exact L n t (by rw[l];exact⟨ζ,ζ⟩)<|.inr l
    obtain⟨p,r,P,g,hr,R,S⟩:=T;refine⟨j,r,e,h,?_,R,?_,λ_ _=>⟨p,η,P⟩⟩
    .unfold kF;grind
    .unfold Z5;grind
   .refine⟨j,Q c.T+4,e,h,?_,v.1,?_,λ_ h=>absurd h y⟩<;>simp_all[kF,wY,Z5]
  .obtain b|b:=b
   .omega
   .obtain⟨a,g,H,S⟩:=u _ b;refine⟨j,a,e,h,?_,H,?_,λh=>absurd h o⟩<;>simp_all[kF,yY,Z5]
 .have b:=pW m x;by_cases o:(aA c.N x).ty=-1
  .grind[wU,lJ]
  .obtain b|b:=b<;>simp_all[absurd,wU,wY,lJ]
section
variable{i w:E}{c:Cx}{b f d h:Nat}{j l g:υ}{k:Int}{Z:List Ty}{e:uZ}{a:Of}
theorem nI.part{q}{n}{o}{m}(r:nI i w c b f d h j l k g Z e q n o m):(o=gu 9 (cW c.N q)/\n=κ/\I (λp=>p=d) w m)\/(o=rT/\n=τ/\I (λp=>p=d) w m/\aW i m c b f d h j l k g Z e):=by
 obtain⟨s,t⟩:=r;grind
def Rg{m n}{q:Nat}{o}{p}{T}{N}{D}(t:gT m d N T D)(s:I (λu=>u=d) m n)(r:m.heap[q]?=C (γ o p (0,0))):n.heap[q]?=C (γ o p (0,0)):=by
 rw[s.block q (aG r) λx=>by subst x;exact t.tag _ _ _ r];omega
theorem aW.blk(p:aW i w c b f d h j l k g Z e){m}{q:Nat}{n}{o}(r:I (λu=>u=d) w m)(s:w.heap[q]?=C (γ n o (0,0))):m.heap[q]?=C (γ n o (0,0)):=by
 obtain⟨D,t⟩:=p.jr;exact Rg t.gm r s
def YV(G:dO i c b f d h j g)(z:aW i w c b f d h j l k g Z e)(m)(hi:m<Q c.N)(p)(hp:p<Q e)(aj:c.N[m].a=p)(r:Nat)(hr:e[p]=r)(a7:r<Q (tl c Z))(he:bB a c.N[m].a=tr (tl c Z) r)
 (q) (b3:q<Q e) (ak:c.N[m].b=q) (s:Nat) (am:e[q]=s) (b5:s<Q (tl c Z)) (aw:bB a c.N[m].b=tr (tl c Z) s):
 μ ε 150 #[pV b,U m] w (vH i w c b f d h j l k g Z e m<|M3 a c.N[m]):=by
 obtain⟨oa,oc,a6,fz,q0,q1,q2,q3,q4,q5,L,qp,qo⟩:=z.cell;have hT:=z.ts;have av:Q c.T<Q (tl c Z):=by rw[U8];omega
 have b4:tr (tl c Z) (Q c.T)=eV 1:=by simpa using nG hT (k:=1) W W
 obtain⟨au,nc,la,lc,az,hg,be,ay,⟨x0,x1,x2,x3,x4,x5,x6,x7,x8⟩,-,-⟩:=(G.fx z.P).at (ñ _ _) m hi;have a8:=qp 1 W W;simp only[show 7+1=8 from K,show Q c.T+1-1=Q c.T by omega]at a8;have bd:=G.ok.fp;unfold Δ at ay;have HF:Hid (∀u,I No w u->_):=λu v=>Dc G (z.y v) m hi q b3 s am b5 (Q c.T) av;have HW:Hid (∀u,aW i u c b f d h j l k g Z e->_):=λu v=>zD G v m hi;have H0:=O z;have E0:Hid (F7 (tr (tl c Z) s) (tr (tl c Z) (Q c.T))=κ->M3 a c.N[m]=none):=λn=>by
  grind[M3]
 have E5:Hid (F7 (tr (tl c Z) s) (tr (tl c Z) (Q c.T))=τ->(tl c Z)[r].x=5->M3 a c.N[m]=C (tr (tl c Z) r)):=λn A=>by
  simp_all[M3,yY,jU]
 have E8:Hid (F7 (tr (tl c Z) s) (tr (tl c Z) (Q c.T))=τ->(tl c Z)[r].x=8->M3 a c.N[m]=C (tr (tl c Z) (tl c Z)[r].fh.toNat)/\0<=(tl c Z)[r].fh/\(tl c Z)[r].fh<(r:Int)):=λn t=>by
  refine⟨?_,(hT r a7).of<|.inl t⟩;simp_all[M3,yY,jU,wY,qP]
 have EN:Hid (F7 (tr (tl c Z) s) (tr (tl c Z) (Q c.T))=τ->(tl c Z)[r].x≠5->(tl c Z)[r].x≠8->M3 a c.N[m]=none):=λn A t=>by
  unfold M3;grind[jU]
 have ad:=O a7;have ac:Hid (∀u,aW i u c b f d h j l k g Z e->_):=λu v=>NO r u a7 v.jr.choose_spec;have ab:Hid (∀u,aW i u c b f d h j l k g Z e->_):=λu (v:aW i u c b f d h j l k g Z e)=>v.cell;have HR:=O hr;rw[aj]at x1;rw[ak]at x2;clear qp qo z hr am G aj he aw ak b4 q1 q2 q3 q4 q5 L fz;generalize F7 (tr (tl c Z) s) (tr (tl c Z) (Q c.T))=aq at*;generalize M3 a c.N[m]=FT at*;generalize c.N[m]=nd at*;obtain⟨kd,va,vb,vc,ls,tx,vn,vt,vp⟩:=nd;subst az;simp only at*;have A1:=ν No w<|aM kd (p:Int) (q:Int) vc (Y la (Q ls) lc) tx vn vt vp;have nb:=rY w<|aM kd (p:Int) (q:Int) vc (Y la (Q ls) lc) tx vn vt vp;have n2:δ (w.alloc<|aM kd (p:Int) (q:Int) vc (Y la (Q ls) lc) tx vn vt vp) (J (V w.heap) 2)=C (U (q:Int)):=cr nb K;have ap:=A4 A1 a8;have a2:=blt ap;have T:=blt n2;simp only at a2 T;have D:=O A1;have NB:=O nb;clear A1 nb;go_in;go_wp2_with fail;clear q0 a8 x0 x1 x2 x3 x4 x5 x6 x7 x8 a6 hg;generalize (w.alloc<|aM kd (p:Int) (q:Int) vc (Y la (Q ls) lc) tx vn vt vp)=ύ at*;go_cut [] (λwc=>aq=τ/\Hid (I (λH=>H=d) ύ wc)/\Hid (aW i wc c b f d h (Y (C<|J au 0) (Q c.N) nc) l k g Z e));case first=>
  go_region_with (go_at_call 219;refine(HF.u _<|B6 D.u<|Ψ _ _ 1).mono ?_;intro ae bi hq;obtain⟨rfl,n,hc⟩|⟨rfl,n,hc,hC⟩:=nI.part hq;exact⟨K,((B6 D.u<|Ψ _ _ 1).mono å).trans hc Ξ,by rw[E0.u n];rfl⟩);all_goals go_wp2_with fail
  all_goals go_meet
  all_goals exact⟨n,(Ψ (λH=>H=d) ύ 1).trans hc Ξ,hC⟩
 case rest=>
  obtain⟨n,CW,N⟩:=hcut;have ao:=(H0.u.y D.u).blk CW.u NB.u;have n1:δ wc (J (V w.heap) 1)=C (U (p:Int)):=cr ao K;obtain⟨bh,b8,a6,fz,q0,q1,q2,q3,q4,q5,L,qp,qo⟩:=ab.u wc N.u;obtain⟨go,rfl,b0,b1,bf,b2,M,-⟩:=qo p hp;rw[HR.u]at M;obtain⟨F,ct,fa,fc,b6,b7,z0,z1,z2,z3,z4,-,ag⟩:=ac.u wc N.u;have HG:=O ag;have e0:=E5.u n;have P:=O<|E5.u n;have R:=O<|E8.u n;have S:=O<|EN.u n;have al:=blt q3;have af:=blt M;have ah:=blt z0;have an:=blt z1;have ai:=blt n1;simp only at al af ah an ai;unfold Δ at b2;have CX:=O<|(D.u.mono (S':=λH=>H=d) å).trans CW.u Ξ;clear ag ao q0 q1 q2 q4 q5 fz qp qo n E5 E8 EN E0 e0 n2 ap a2 T ac ab HF NB CW D b0 b1 a6;generalize (tl c Z)[r]=b9 at*;obtain⟨B,tf,ba,a4⟩:=b9;simp only at*;go_wp2_with fail;go_cut [6] (λv6 a9=>∃a3:Nat,v6=pV a3/\Hid (I No wc a9)/\δ a9 (J a3 0)=C (U B)/\δ a9 (J a3 3)=C (U a4));case first=>
   go_region_held3 (λo=>δ o (J b 3)=C (pV f)/\δ o (J b 6)=C (Y (C<|J go 0) (Q e) b8)/\δ o (J go p)=C (U (r:Int))/\δ o (J (V w.heap) 1)=C (U (p:Int))/\
    δ o (J f 0)=C (Y (C<|J F 0) (Q (tl c Z)) ct)/\δ o (J F<|r*4)=C (U B)/\δ o (J F<|r*4+1)=C (Y fa (Q tf) fc)/\δ o (J F<|r*4+2)=C (Y b6 (Q ba) b7)/\δ o (J F<|r*4+3)=C (U a4))
    (go_keep)
    (first
     |((go_at_call 215;go_split_ands;refine(HG.u _ W W W W W).mono ?_;rintro ae o ⟨rfl,rfl⟩)));all_goals go_wp2_with fail
   all_goals go_meet
   all_goals exact⟨_,K,B6 (B6 (ν No _ _)<|ν No _ _)<|Ψ No _ 1,θ,θ⟩
  case rest=>
   obtain⟨a3,rfl,y,t0,t3⟩:=hcut;replace L:=A4 y.u L;replace M:=A4 y.u M;replace n1:=A4 y.u n1;have a2:=blt L;have ax:=blt M;have T:=blt n1;simp only at a2 ax T;have CZ:=O<|CX.u.trans y.u å;have a5:=O<|N.u.y y.u;clear z0 z1 z2 z3 z4 al af ah an ai HG q3 CX N y;by_cases A:B=5
   .have e5:=O<|P.u A;subst A;clear P R S;go_wp2_with fail;go_quiet (fail);go_wp2_with fail;go_ret;exact⟨CZ.u.trans (Ψ No _ _) å,by rw[e5.u];exact⟨a5.u.y<|Ψ No _ _,r,K,ad.u,K⟩⟩
   have bb:(B==5)=κ:=by simpa using A
   by_cases t:B=8
   .obtain⟨e8,h1,h2⟩:=R.u t;have ar:=O e8;subst t;obtain⟨aa,rfl⟩:∃aa:Nat,a4=(aa:Int):=⟨a4.toNat,W⟩;clear P R S e8;go_wp2_with fail;go_ret;have bg:=ad.u;exact⟨CZ.u,by rw[ar.u];exact⟨a5.u,aa,K,W,θ⟩⟩
   .have en:=O<|S.u A t;have bc:(B !=8)=τ:=by simpa using t
    have HX:=O<|HW.u _ a5.u;clear P R S;go_wp2_with fail;refine HX.u.mono ?_;rintro ae bj ⟨rfl,h7⟩;exact⟨K,CZ.u.trans h7 å,by rw[en.u];rfl⟩
def D2f(hB:dO i c b f d h j g)(B:aW i w c b f d h j l k g Z e)(m)(hi:m<Q c.N)(ha:Lk c Z e a c.N[m].a)(D:Lk c Z e a c.N[m].b):
 μ ε 173 #[pV b,U m] w (vH i w c b f d h j l k g Z e m<|uR a c.N[m]):=by
 obtain⟨oa,oc,au,fz,q0,q1,q2,q3,q4,q5,q6,qp,qo⟩:=B.cell;have hT:=B.ts;have aq:Q c.T+4<Q (tl c Z):=by rw[U8];omega
 obtain⟨ah,nc,s,t,al,hg,ar,ak,⟨x0,x1,x2,x3,x4,x5,x6,x7,x8⟩,-,-⟩:=(hB.fx B.P).at (ñ _ _) m hi;have a3:=qp 1 W W;have ab:=qp 2 W W;have p3:=qp 3 W W;simp at a3 ab p3;have af:=O (nG hT (k:=1) W W);have ae:=O (nG hT (k:=2) W W);unfold Δ at ak;have HS:Hid (∀u,I No w u->_):=λu hu=>D3f hB (B.y hu) m hi ha D;obtain⟨p,a5⟩:∃p:Nat,c.N[m].a=p:=by obtain⟨p,_,_,G,_⟩:=ha;grind
 obtain⟨n,a6⟩:∃p:Nat,c.N[m].b=p:=by obtain⟨p,_,_,G,_⟩:=D;grind
 have HN:Hid (∀u,I No w u->∀s t,ρ u 0 3 1 (Y s 2 t) 2 (C8 [p,(n:Int)])->μ ε 228 #[pV b,U (m:Int),Y s 2 t] u (CU c m (jH a (p:Int)&&jH a (n:Int)) u)):=λu hu s t ho=>by
  have:=Dr (of:=a) hB (B.y hu) m hi [(p:Int),(n:Int)] (λx hx=>η) s t ho θ;simpa using this
 have z:Hid (uR a c.N[m]=if c.N[m].text=[61,61] then C (eV 2) else if c.N[m].text=[43] then sT a c.N[m] else if jH a (p:Int)&&jH a (n:Int) then C (if c.N[m].text=[60] then eV 2 else eV 1) else none):=by
  show _=_;unfold uR;rw[a5,a6]
 have H0:=O B;rw[a5]at x1;rw[a6]at x2;clear qp qo B hB a5 a6 D ha q1 q2 q3 q4 q5 q6 fz;generalize uR a c.N[m]=A at*;generalize sT a c.N[m]=ad at*;generalize c.N[m]=nd at*;obtain⟨H,va,vb,P,L,o,R,T,S⟩:=nd;subst al;simp only at*;have A1:=ν No w<|aM H (p:Int) (n:Int) P (Y s (Q L) t) o R T S;have y:=O A1;have am:=A4 A1 a3;have nb:=rY w<|aM H (p:Int) (n:Int) P (Y s (Q L) t) o R T S;have n5:δ (w.alloc<|aM H (p:Int) (n:Int) P (Y s (Q L) t) o R T S) (J (V w.heap) 5)=C (ι ⟨ξ o⟩):=cr nb K;have NB:=O nb;clear A1 nb am;by_cases F:o=[61,61]
 .have r:Hid (A=C (eV 2)):=by show _=_;rw[z.u,yY F]
  subst F;clear z HN;go_in;go_wp2_with fail;go_ret;exact⟨y.u.mono å,by rw[r.u];exact⟨H0.u.y y.u,Q c.T+1,K,W,by simpa using ae.u⟩⟩
 have ao:(o==[61,61])=κ:=by simpa using F
 by_cases M:o=[43]
 .have r:Hid (A=ad):=by show _=_;rw[z.u,wY F,yY M]
  have ag:=O<|HS.u _ y.u;subst M;clear z HN HS ao;go_in;go_wp2_with fail;refine ag.u.mono ?_;rintro G a2 ⟨q,hm⟩;cases ad with
  |none=>
   have aj:G=gu 9 (cW c.N m):=hm;subst aj;exact⟨K,(y.u.mono å).trans q Ξ,by rw[r.u];rfl⟩
  |some aw=>
   obtain⟨hC,x,rfl,hx,ht⟩:=hm;have HQ:Hid (vH i w c b f d h (Y (C<|J ah 0) (Q c.N) nc) l k g Z e m A (π<|U (x:Int)) a2):=⟨(y.u.mono å).trans q Ξ,by rw[r.u];grind⟩;clear q hC ht r;go_wp2_with fail;go_ret;exact HQ.u
 have av:(o==[43])=κ:=by simpa using M
 have H2:Hid (∀ac a8,ac=V (w.alloc<|aM H (p:Int) (n:Int) P (Y s (Q L) t) o R T S).heap->a8=2->μ ε 228 #[pV b,U (m:Int),Y (C<|J ac 0) 2 a8] (ω (w.alloc<|aM H (p:Int) (n:Int) P (Y s (Q L) t) o R T S)<|γ (ξ (C8 [(p:Int),(n:Int)])) 3) (CU c m (jH a (p:Int)&&jH a (n:Int))<|ω (w.alloc<|aM H (p:Int) (n:Int) P (Y s (Q L) t) o R T S)<|γ (ξ (C8 [(p:Int),(n:Int)])) 3)):=λac a8 hq hl=>by
  subst hq hl;exact HN.u _ (B6 y.u<|ν _ _ _) _ _ (rJ (wQ _) [(p:Int),(n:Int)] θ)
 simp only[C8,bY,List.map_nil]at H2;clear HN;generalize ai:(jH a (p:Int)&&jH a (n:Int))=bb at*;have EB:Hid ((bb=κ->A=none)/\(bb=τ->A=C (if o=[60] then eV 2 else eV 1))):=by
  constructor
  .intro D;rw[z.u,wY F,wY M,D];rfl
  .intro D;rw[z.u,wY F,wY M,D];rfl
 clear ai z F M;have C2:=O<|B6 y.u<|ν No _<|γ #[U (p:Int),U (n:Int)] 3;cases bb
 .have r:=O<|EB.u.1 K;clear EB;go_in;go_wp2_with fail;refine(H2.u _ _ θ K).mono ?_;rintro G a2 ⟨q,rfl⟩;exact⟨K,(B6 C2.u q).mono å,by rw[r.u];rfl⟩
 .have r:=O<|EB.u.2 K;clear EB;by_cases N:o=[60]
  .have e6:Hid (A=C (eV 2)):=by show _=_;rw[r.u,yY N]
   have ap:(o==[60])=τ:=by simpa using N
   clear r N;go_in;go_wp2_with fail;refine(H2.u _ _ θ K).mono ?_;rintro G a2 ⟨q,rfl⟩;have v:=O<|B6 C2.u q;have aa:=A4 v.u a3;have an:=A4 v.u ab;have b5:=D9 (B6 (ν No _<|γ #[U (p:Int),U (n:Int)] 3) q) NB.u;have a9:δ a2 (J (V w.heap) 5)=C (ι ⟨ξ o⟩):=cr b5 K;have a7:=blt aa;have a4:=blt a9;simp only at a7 a4;clear q b5;go_wp2_with fail;go_ret;exact⟨v.u.mono å,by rw[e6.u];exact⟨H0.u.y v.u,Q c.T+1,K,W,by simpa using ae.u⟩⟩
  .have e6:Hid (A=C (eV 1)):=by show _=_;rw[r.u,wY N]
   have ap:(o==[60])=κ:=by simpa using N
   clear r N;go_in;go_wp2_with fail;refine(H2.u _ _ θ K).mono ?_;rintro G a2 ⟨q,rfl⟩;have v:=O<|B6 C2.u q;have aa:=A4 v.u a3;have an:=A4 v.u ab;have b5:=D9 (B6 (ν No _<|γ #[U (p:Int),U (n:Int)] 3) q) NB.u;have a9:δ a2 (J (V w.heap) 5)=C (ι ⟨ξ o⟩):=cr b5 K;have a7:=blt aa;have a4:=blt a9;simp only at a7 a4;clear q b5;go_wp2_with fail;go_ret;exact⟨v.u.mono å,by rw[e6.u];exact⟨H0.u.y v.u,Q c.T,K,W,by simpa using af.u⟩⟩
def ŭ(hB:dO i c b f d h j g)(v:aW i w c b f d h j l k g Z e)(m)(hi:m<Q c.N)(ha:Lk c Z e a c.N[m].a):
 μ ε 174 #[pV b,U m] w (vH i w c b f d h j l k g Z e m<|uL a c.N[m]):=by
 obtain⟨oa,oc,ao,fz,q0,q1,q2,q3,q4,q5,q6,T,qo⟩:=v.cell;have hT:=v.ts;have am:Q c.T+4<Q (tl c Z):=by rw[U8];omega
 obtain⟨al,nc,o,q,ae,hg,an,ad,⟨x0,x1,x2,x3,x4,x5,x6,x7,x8⟩,-,-⟩:=(hB.fx v.P).at (ñ _ _) m hi;have a4:=T 1 W W;have a7:=T 2 W W;have p3:=T 3 W W;simp at a4 a7 p3;have a9:=O (nG hT (k:=1) W W);have aa:=O (nG hT (k:=2) W W);have ab:=O (nG hT (k:=3) W W);unfold Δ at ad;obtain⟨p,a2⟩:∃p:Nat,c.N[m].a=p:=by obtain⟨p,_,_,a6,_⟩:=ha;grind
 have S:Hid (∀u,I No w u->∀o q,ρ u 0 3 1 (Y o 1 q) 1 (C8 [p])->μ ε 228 #[pV b,U m,Y o 1 q] u (CU c m (jH a p) u)):=λu hu o q ho=>by
  have:=Dr (of:=a) hB (v.y hu) m hi [(p:Int)] (λx hx=>η) o q ho θ;simpa using this
 have r:Hid (uL a c.N[m]=if c.N[m].text=[33] then C (eV 2) else if c.N[m].text=[116,121,112,101,111,102] then C (eV 3) else if jH a (p:Int) then C (eV 1) else none):=by
  show _=_;unfold uL;rw[a2]
 have H0:=O v;rw[a2]at x1;clear T qo v hB a2 ha q1 q2 q3 q4 q5 q6 fz;generalize uL a c.N[m]=R at*;generalize c.N[m]=nd at*;obtain⟨y,va,B,D,z,n,F,H,G⟩:=nd;subst ae;simp only at*;have A1:=ν No w<|aM y (p:Int) B D (Y o (Q z) q) n F H G;have t:=O A1;have ag:=A4 A1 a4;have nb:=rY w<|aM y (p:Int) B D (Y o (Q z) q) n F H G;have n5:δ (w.alloc<|aM y (p:Int) B D (Y o (Q z) q) n F H G) (J (V w.heap) 5)=C (ι ⟨ξ n⟩):=cr nb K;have NB:=O nb;clear A1 nb ag;by_cases s:n=[33]
 .have L:Hid (R=C (eV 2)):=by show _=_;rw[r.u,yY s]
  subst s;clear r S;go_in;go_wp2_with fail;go_ret;exact⟨t.u.mono å,by rw[L.u];exact⟨H0.u.y t.u,Q c.T+1,K,W,by simpa using aa.u⟩⟩
 have ak:(n==[33])=κ:=by simpa using s
 by_cases A:n=[116,121,112,101,111,102]
 .have L:Hid (R=C (eV 3)):=by show _=_;rw[r.u,wY s,yY A]
  subst A;clear r S ak;go_in;go_wp2_with fail;go_ret;exact⟨t.u.mono å,by rw[L.u];exact⟨H0.u.y t.u,Q c.T+2,K,W,by simpa using ab.u⟩⟩
 have aq:(n==[116,121,112,101,111,102])=κ:=by simpa using A
 have H1:Hid (∀a5 a3,a5=V (w.alloc<|aM y (p:Int) B D (Y o (Q z) q) n F H G).heap->a3=1->μ ε 228 #[pV b,U (m:Int),Y (C<|J a5 0) 1 a3] (ω (w.alloc<|aM y (p:Int) B D (Y o (Q z) q) n F H G)<|γ (ξ (C8 [(p:Int)])) 3) (CU c m (jH a (p:Int))<|ω (w.alloc<|aM y (p:Int) B D (Y o (Q z) q) n F H G)<|γ (ξ (C8 [(p:Int)])) 3)):=λa5 a3 hq hl=>by
  subst hq hl;exact S.u _ (B6 t.u<|ν _ _ _) _ _ (rJ (wQ _) [(p:Int)] θ)
 simp only[C8,bY,List.map_nil]at H1;clear S;generalize ac:(jH a (p:Int))=bb at*;have P:Hid ((bb=κ->R=none)/\(bb=τ->R=C (eV 1))):=by
  constructor
  .intro hb;rw[r.u,wY s,wY A,hb];rfl
  .intro hb;rw[r.u,wY s,wY A,hb];rfl
 clear ac r s A;have C2:=O<|B6 t.u<|ν No _<|γ #[U (p:Int)] 3;cases bb
 .have L:=O<|P.u.1 K;clear P;go_in;go_wp2_with fail;refine(H1.u _ _ θ K).mono ?_;rintro a6 a8 ⟨M,rfl⟩;exact⟨K,(B6 C2.u M).mono å,by rw[L.u];rfl⟩
 .have e6:=O<|P.u.2 K;clear P;go_in;go_wp2_with fail;refine(H1.u _ _ θ K).mono ?_;rintro a6 a8 ⟨M,rfl⟩;have N:=O<|B6 C2.u M;have aj:=A4 N.u a4;have ap:=A4 N.u a7;have b5:=D9 (B6 (ν No _<|γ #[U (p:Int)] 3) M) NB.u;have ai:δ a8 (J (V w.heap) 5)=C (ι ⟨ξ n⟩):=cr b5 K;have ah:=blt aj;have af:=blt ai;simp only at ah af;clear M b5;go_wp2_with fail;go_ret;exact⟨N.u.mono å,by rw[e6.u];exact⟨H0.u.y N.u,Q c.T,K,W,by simpa using a9.u⟩⟩
end
def Hj{T}{i}(a:aX T)(b):sz (tr T i)=1+cR (T[i].M.map λx=>tr T x.toNat)+cR (T[i].eo.map λp=>tr T p.2.toNat)+(if T[i].x=8\/T[i].x=9 then sz (tr T T[i].fh.toNat) else 0):=by
 grind[X7,sz,yU,cR]
theorem WM{a:Type}(f)(l:List a){j}(b):cR ((l.take<|j+1).map f)=cR ((l.take j).map f)+sz (f l[j]):=by
 grind[nQ,zY,yU,List.map_singleton,cR]
def VW{a:Type}(f)(l:List a)(j):cR ((l.take j).map f)<=cR (l.map f):=by
 have:=congrArg (λl=>cR<|l.map f)<|List.take_append_drop j l;grind[zY,yU]
def ğ{lb mb af}{T}{ac}:∀(i) (w),i<Q T->dY w lb mb af T ac->sz (tr T i)<=1000000->
 μ ε 112 #[pV lb,U i] w λe w'=>e=π (U<|sz<|tr T i)/\I No w w':=by
 intro i;induction i using Nat.strongRecOn with
 |ind i ih=>
  intro w s h b8;have D:=h.ok;have b4:=h.fq;obtain⟨ad,av,aw,ax,b7,fz,a8⟩:=h.cell;obtain⟨ay,A,B,G,u,rfl,hg,b3,aj,x0,x1,x2,x3,aa,ab⟩:=a8 i s;have HL:=O (D i s).lg;have HF:=O (D i s).nh;have HO:=O λn=>(D i s).of n;have P:=O h;have HE:=O<|Hj D s;have ah:=Hj D s;have b2:cR (T[i].M.map λx=>tr T x.toNat)<=1000000:=W;have az:cR (T[i].eo.map λp=>tr T p.2.toNat)<=1000000:=W;have ag:(T[i].x=8\/T[i].x=9)->sz (tr T T[i].fh.toNat)<=1000000:=λt=>η;clear a8 h ah;unfold Δ at aj;generalize sz (tr T i)=au at*;generalize T[i].x=k at*;generalize T[i].fh=o at*;generalize b6:T[i].M=b at*;generalize b5:T[i].eo=a at*;have ap:Hid (∀j (F:j<Q b),∃c,G=C (J c 0)/\c<V w.heap/\Q b<=u/\u<=Δ/\δ w (J c j)=C (U b[j])):=by
   intro j F;obtain⟨c,h1,_,h2,h3,h4,h5⟩:=D5 ab W;exact⟨c,h1,h2,h3,h4,h5 j _<|by grind[C8]⟩
  have aq:=O λ(j:Nat) (F:j<a.length)=>Y8 aa F;clear ab aa;go_in;go_wp2;go_loopw [21,5] (λv a6 wr=>∃j:Nat,j<=Q b/\v=U (j:Int)/\a6=U ((1+cR ((b.take j).map λx=>tr T x.toNat):Nat):Int)/\Hid (I No (ω w<|γ #[U k,Y A (Q a) B,Y G (Q b) u,U o] 99) wr)) (λv _ _=>Q b-(intOf v).toNat);case atStart=>exact⟨0,wQ _,K,Ω,ì _ _⟩
  case round=>
   obtain⟨j,F,rfl,rfl,R⟩:=hrel;have M:=O<|(ν No w<|γ #[U k,Y A (Q a) B,Y G (Q b) u,U o] 99).trans R.u Ξ;by_cases m:j<Q b
   .obtain⟨c,rfl,r,al,a4,H⟩:=ap.u j m;have L:wr.cell? (J c j)=C (U b[j]):=by rw[Ë<|M.u.block c r λx=>x];exact H
    have ak:=yQ r M.u.size;have n:=HL.u b[j]<|mQ m;obtain⟨z,q⟩:∃z:Nat,b[j]=(z:Int):=⟨b[j].toNat,W⟩;have y:Hid (cR ((b.take<|j+1).map λx=>tr T x.toNat)=cR ((b.take j).map λx=>tr T x.toNat)+sz (tr T z)):=by
     show _=_;rw[WM _ b m,q];simp
    have a5:=VW (λx:Int=>tr T x.toNat) b<|j+1;rw[y.u]at a5;rw[q]at L n;have g:=ih z W wr W (P.u.y M.u) W;unfold Δ at a4;clear H q n;generalize cR ((b.take j).map λx=>tr T x.toNat)=t1 at*;generalize sz (tr T z)=t2 at*;go_wp2_with fail;refine g.mono ?_;clear g;rintro e a7 ⟨rfl,f⟩;go_wp2;go_roundw;case rel=>exact⟨j+1,W,ï,by rw[y.u];go_num,R.u.trans f Ξ⟩
    grind[intOf]
   .have a3:j=Q b:=W;subst a3;rw[vZ]at*;have d:wr.heap[V w.heap]?=C (γ #[U k,Y A (Q a) B,Y G (Q b) u,U o] 99 (0,0)):=by
     rw[R.u.block (V w.heap) θ λx=>x];exact rY w _
    have b0:wr.cell? (J (V w.heap) 0)=C (U k):=cr d K;have b1:wr.cell? (J (V w.heap) 1)=C (Y A (Q a) B):=cr d K;have ae:=O d;have ai:=(aG d);clear d;generalize an:cR (b.map λx=>tr T x.toNat)=s1 at*;clear an;go_wp2;go_loopw [34,5] (λv a6 ar=>∃j:Nat,j<=Q a/\v=U (j:Int)/\a6=U ((1+s1+cR ((a.take j).map λp=>tr T p.2.toNat):Nat):Int)/\Hid (I No wr ar)) (λv _ _=>Q a-(intOf v).toNat);case atStart=>exact⟨0,wQ _,K,Ω,ì _ _⟩
    case round=>
     obtain⟨j,F,rfl,rfl,S⟩:=hrel;have l:=O<|M.u.trans S.u Ξ;by_cases m:j<Q a
     .obtain⟨c,rfl,r,al,a4,H,L⟩:=aq.u j m;replace H:wr.cell? (J c<|j*2)=C (ι ⟨ξ a[j].1⟩):=by rw[Ë<|l.u.block c r λx=>x];exact H
      replace L:wr.cell? (J c<|j*2+1)=C (U a[j].2):=by rw[Ë<|l.u.block c r λx=>x];exact L
      have ak:=yQ r l.u.size;have n:=HF.u a[j]<|mQ m;obtain⟨z,q⟩:∃z:Nat,a[j].2=(z:Int):=⟨a[j].2.toNat,W⟩;have y:Hid (cR ((a.take<|j+1).map λp=>tr T p.2.toNat)=cR ((a.take j).map λp=>tr T p.2.toNat)+sz (tr T z)):=by
       show _=_;rw[WM _ a m,q];simp
      have a5:=VW (λp:bZ×Int=>tr T p.2.toNat) a<|j+1;rw[y.u]at a5;rw[q]at L n;have a2:I No wr (wr.alloc<|γ #[ι ⟨ξ a[j].1⟩,U (z:Int)] 139):=ν _ _ _;have g:=ih z W _ W (P.u.y<|l.u.trans a2 Ξ) W;have KF:=O<|S.u.trans a2 Ξ;unfold Δ at a4;clear q n a2;generalize am:(⟨ξ a[j].1⟩:ByteArray)=nm at*;clear am;generalize cR ((a.take j).map λp=>tr T p.2.toNat)=t1 at*;generalize sz (tr T z)=t2 at*;go_wp2_with fail;refine g.mono ?_;clear g;rintro e a7 ⟨rfl,f⟩;go_wp2;go_roundw;case rel=>exact⟨j+1,W,ï,by rw[y.u];go_num,KF.u.trans f Ξ⟩
      grind[intOf]
     .have a3:j=Q a:=W;subst a3;rw[vZ]at*;have d:wr.heap[V w.heap]?=C (γ #[U k,Y A (Q a) B,Y G (Q b) u,U o] 99 (0,0)):=by
       rw[S.u.block (V w.heap) ai λx=>x];exact ae.u
      have d0:wr.cell? (J (V w.heap) 0)=C (U k):=cr d K;have d3:wr.cell? (J (V w.heap) 3)=C (U o):=cr d K;clear d;generalize ao:cR (a.map λp=>tr T p.2.toNat)=s2 at*;clear ao;by_cases t:k=8\/k=9
      .have ho:=HO.u t;have a9:=ag t;obtain⟨z,rfl⟩:∃z:Nat,o=(z:Int):=⟨o.toNat,W⟩;have Z:=HE.u;rw[yY t,tQ]at Z;rw[tQ]at a9;have g:=O<|ih z W wr W (P.u.y l.u) a9;generalize sz (tr T z)=t3 at*;obtain rfl|rfl:=t
       .go_wp2_with fail;refine g.u.mono ?_;rintro e a7 ⟨rfl,f⟩;have N:=O<|l.u.trans f Ξ;clear f;go_wp2;go_ret;exact⟨M9 W,N.u⟩
       .go_wp2_with fail;refine g.u.mono ?_;rintro e a7 ⟨rfl,f⟩;have N:=O<|l.u.trans f Ξ;clear f;go_wp2;go_ret;exact⟨M9 W,N.u⟩
      .have Z:=HE.u;rw[wY t]at Z;have k8:(k==8)=κ:=â;have k9:(k==9)=κ:=â;go_wp2;go_ret;exact⟨M9 W,l.u⟩
