/-
  A part of the proof.
-/
import Derived.Test.YteocidgdmjaffaaGreatDoorBindA
import Derived.Test.YteocidgdmjaffaaGreatDoorPlainF
import Derived.Test.YteocidgdmjaffaaGreatDoorFitB
set_option maxHeartbeats 0
set_option linter.all false
set_option maxRecDepth 100000
namespace Go.Proofs.YteocidgdmjaffaaGreatDoor
open Go.Proofs.Tryz
open Go.RowKit Go.Maps
def wI:Keyed prog 3:=int_keyed underlying3
def Xy(a)(h:0<=a/\a<=1000000):(Lit.int .i64 a).wf=true:=by
 grind[Lit.wf,IntKind.min,IntKind.max,IntKind.bits,IntKind.signed]
def xS(a)(h:0<=a/\a<=1000000):keyOf prog 3 (.int .i64 a)=some (.int .i64 a):=keyOf_int_mk underlying3 (Xy a h)
def SM(w:E):(zeroValue 3).run prog w=.ok (.int .i64 0) w:=by kernel_rfl
structure eK(w:E)(q m:Nat)(f:Int->Option Int):Prop where
 own:∃n D,w.ownsMap prog 3 (plainElem (H:=Unit) prog 3) q n D/\n<=m/\IsMap D/\∀(s:Int) (d:DataW Unit),D.atKey (.int .i64 s) d=match f s with
  |some j=>.lit (.int .i64 j)
  |none=>d
def eK.new(w:E):eK (w.alloc (.map #[] 0)) w.heap.size 0 (λ_=>none):=⟨0,.map [],World.ownsMap_made w _ _ _,vQ _,isMap_empty,λ_ _=>rfl⟩
def eK.more{w}{q m a}{f}(h:eK w q m f)(d:m<=a):eK w q a f:=by
 obtain⟨n,D,b,c,r⟩:=h.own;exact⟨n,D,b,by omega,r⟩
theorem eK.lt{w}{q m}{f}(h:eK w q m f):q<w.heap.size:=by
 obtain⟨n,D,⟨b,a,c,_⟩,_⟩:=h.own;grind
theorem eK.P{S}{w w'}{q m}{f}(h:eK w q m f)(e:I S w w')(g:¬S q):eK w' q m f:=by
 obtain⟨n,D,⟨b,a,c,d⟩,r⟩:=h.own;exact⟨n,D,⟨b,a,by rw[e.block q (aI c) g];omega,d⟩,r⟩
theorem eK.eu{w}{q m}{f}(h:eK w q m f){cs}{e}{fz}:w.heap[q]?≠some (.cells cs e fz):=by
 obtain⟨n,D,⟨b,a,c,_⟩,_⟩:=h.own;grind
def eK.look{w}{q m}{f}(h:eK w q m f)(s)(l:0<=s/\s<=1000000):
 (Instr.lookup 46 (.map (some q)) (.int .i64 s) true).run prog w=.ok (.tuple #[.int .i64 ((f s).getD 0),.bool (f s).isSome]) w:=by
 obtain⟨n,D,⟨t,p,k,F,_,rfl⟩,_,_,i⟩:=h.own;have a:=i s (.lit (.int .i64 0));have b:=i s (.lit (.int .i64 1));obtain⟨g,_,e⟩|⟨r,y,_,_,g,u,e,_⟩:=fit_look true wI underlying46 (SM w) k F (xS s l)
 .rw[e]at a b;cases d:f s with
  |none=>rw[g];rfl
  |some j=>
   rw[d]at a b;simp at a b;omega
 .rw[e]at a b;cases d:f s with
  |none=>
   rw[d]at a b;simp only at a b;rw[a]at b;simp at b
  |some j=>
   rw[d]at a;simp only at a;have:=plainElem_int_inv underlying3 (by omega);obtain⟨c,o,rfl,_⟩:=this;simp at a;rw[g,o,a];rfl
def eK.get{w}{q m}{f}(h:eK w q m f)(s)(i:0<=s/\s<=1000000):
 (Instr.lookup 46 (.map (some q)) (.int .i64 s) false).run prog w=.ok (.int .i64 ((f s).getD 0)) w:=by
 obtain⟨n,D,g,_,_,e⟩:=h.own;obtain⟨c,d,a,_⟩:=g.lookup_int wI underlying46 underlying3 (SM _) (xS s i);rw[e s]at a;cases b:f s with
 |none=>
  rw[b]at a;simp at a;rw[d,<-a];rfl
 |some j=>
  rw[b]at a;simp at a;rw[d,<-a];rfl
theorem eK.put{w}{q m}{f}(h:eK w q m f)(s)(j)(l:0<=s/\s<=1000000)(v:m<=100000000)(t:0<=j/\j<=1000000):
 ∃a,(Instr.mapUpdate 46 (.map (some q)) (.int .i64 s) (.int .i64 j)).run prog w=.ok () a/\eK a q (m+1) (λu=>if u=s then some j else f u)/\I (λk=>k=q) w a:=by
 obtain⟨n,D,e,y,b,r⟩:=h.own;have p:(Lit.int .i64 j).wf=true:=by
  simp[Lit.wf,IntKind.min,IntKind.max,IntKind.bits,IntKind.signed];omega
 obtain⟨a,i,g,c⟩:=e.update wI underlying46 (by grind[maxLen]) (xS s l) (plainElem_int underlying3 p);refine⟨a,i,⟨n+1,_,g,by omega,b.put _ _,λu d=>?_⟩,(I.grown c).mono (λk _ x=>by grind)⟩;by_cases o:u=s
 .subst o;rw[atKey_put_same b (show WideAt.IsKeyLit (.int .i64 u) from trivial)];simp
 grind[atKey_put_other]
def I8:List Ty:=[⟨1,[],[],0⟩,⟨2,[],[],0⟩,⟨3,[],[],0⟩,⟨4,[],[],0⟩,⟨5,[],[],0⟩]
def tl(c:Cx)(Z:List Ty):List Ty:=c.T++I8++Z
theorem S9(c)(Z):(tl c Z).length=c.T.length+5+Z.length:=by simp[tl,I8];omega
theorem nL(c)(Z Y):tl c Z++Y=tl c (Z++Y):=by simp[tl]
def Fw(T:List Ty):Prop:=∀i (a:i<T.length),T[i].M.length<=100000000/\T[i].ej.length<=2001
structure fZ(T:List Ty)(ofs:bZ)(of:Of):Prop where
 len:ofs.length=of.length
 at':∀(i:Nat) (o:Option Tr),of[i]?=some o->match o with
  |none=>ofs[i]?=some (-1)
  |some t=>∃r:Nat,ofs[i]?=some (r:Int)/\r<T.length/\tr T r=t
def fZ.more{T}{b}{a}(h:fZ T b a)(d:aU T)(Y):fZ (T++Y) b a:=by
 refine⟨h.len,λi o c=>?_⟩;have:=h.at' i o c;grind[qX]
theorem fZ.set{T}{c}{b}(h:fZ T c b){i r}{t}(g:r<T.length)(k:tr T r=t):fZ T (c.set i r) (b.set i (some t)):=by
 refine⟨by rw[List.length_set,List.length_set];exact h.len,λj o a=>?_⟩;by_cases d:i=j
 .subst d;rw[List.getElem?_set_self']at a;cases e:b[i]? with
  |none=>grind
  |some l=>
   rw[e]at a;simp at a;subst a;have f:i<c.length:=by
    rw[h.len];exact(List.getElem?_eq_some_iff.1 e).1
   grind
 .rw[List.getElem?_set_ne d]at a;have:=h.at' j o a;grind
def tN(c:Cx)(e g:Value)(d:Int)(b f:Nat)(a ov:Value):Array Value:=
 #[e,g,U d,pV b,.map (some f),a,ov,U 0,U c.T.length,U ((c.T.length+1:Nat)),U ((c.T.length+2:Nat)),U ((c.T.length+3:Nat)),U ((c.T.length+4:Nat))]
def mL(c:Cx):Int->Option Int:=λx=>if 0<=x/\x<c.N.length/\c.ts.getD x.toNat 0≠-1 then some (c.ts.getD x.toNat 0) else none
def SW(f:E)(e a d k:Nat):Prop:=k=e\/k=a\/k=d\/(a<=k/\∃b c,f.heap[k]?=some (.cells b 81 c))
structure cP(w0:E)(c:Cx)(pb lb mb qb:Nat)(nv fv:Value):Prop where
 ok:jD c
 fe:cV w0 nv c.N
 names:eK w0 qb 5000 (mL c)
 fns:w0.ownsRow 0 3 1 fv c.N.length (C7 c.fn)
 tp:∃cs,w0.heap[pb]?=some (.cells cs 57 (0,0))
 qe:∃cs,w0.heap[lb]?=some (.cells cs 108 (0,0))
 tm:∃es cl,w0.heap[mb]?=some (.map es cl)
 ne:qb≠mb
structure aS(w0 w:E)(c:Cx)(pb lb mb qb:Nat)(nv yv:Value)(mn:Int)(fv:Value)(Z:List Ty)(ofs:bZ):Prop where
 P:I (SW w0 pb lb mb) w0 w
 st:∃ov D,w.heap[pb]?=some (.cells (tN c nv yv mn lb qb fv ov) 57 (0,0))/\w.ownsRow w0.heap.size 3 1 ov ofs.length (C7 ofs)/\gM w lb mb 4000 (tl c Z) D (λg=>ov.ownBlock≠some g)
 fq:Fw (tl c Z)
section
variable{d w:E}{c:Cx}{a e mb h:Nat}{j m i:Value}{l:Int}{Z:List Ty}{f:bZ}
theorem cP.lt(b:cP d c a e mb h j i):a<d.heap.size/\e<d.heap.size/\mb<d.heap.size/\h<d.heap.size:=by
 obtain⟨_,g⟩:=b.tp;obtain⟨_,k⟩:=b.qe;obtain⟨_,_,n⟩:=b.tm;exact⟨(aI g),(aI k),(aI n),b.names.lt⟩
theorem cP.not(g:cP d c a e mb h j i){k}{n}{b}{o}(u:d.heap[k]?=some (.cells n b o))(t:b≠57/\b≠108/\b≠81):¬SW d a e mb k:=by
 obtain⟨_,p⟩:=g.tp;obtain⟨_,q⟩:=g.qe;obtain⟨_,_,r⟩:=g.tm;rintro(rfl|rfl|rfl|⟨_,_,_,s⟩)<;>grind
def cP.fg(k:cP d c a e mb h j i)(o:I (SW d a e mb) d w):cV w j c.N:=by
 obtain⟨u,n,q⟩:=k.fe;refine⟨u,A3 n o λg s x=>?_,q.imp (fH.P o (λg _ _ t b=>?_) (λ_ _ _=>trivial))⟩
 .obtain⟨_,p,b⟩:=A9 n g s;exact k.not b (by decide) x
 .obtain⟨p,v,b,r⟩:=b;obtain rfl|rfl:=r<;>exact k.not b (by decide) t
def cP.nm(b:cP d c a e mb h j i)(o:I (SW d a e mb) d w):eK w h 5000 (mL c):=by
 refine b.names.P o ?_;obtain⟨_,g⟩:=b.tp;obtain⟨_,k⟩:=b.qe;rintro(rfl|rfl|rfl|⟨_,_,_,n⟩)
 .exact b.names.eu g
 .exact b.names.eu k
 .exact b.ne rfl
 .exact b.names.eu n
def cP.fn(b:cP d c a e mb h j i)(k:I (SW d a e mb) d w):w.ownsRow 0 3 1 i c.N.length (C7 c.fn):=
 A3 b.fns k λg n x=>by
  obtain⟨_,p,o⟩:=A9 b.fns g n;exact b.not o (by decide) x
theorem aS.y{g}(k:aS d w c a e mb h j m l i Z f)(b:I No w g):aS d g c a e mb h j m l i Z f:=by
 obtain⟨n,⟨ov,D,o,p,q⟩,r⟩:=k;exact⟨n.trans b (λ_ _ x=>x.elim),⟨ov,D,by rw[b.block a (aI o) (λx=>x)];omega,A3 p b (λ_ _ x=>x),q.y b⟩,r⟩
def aS.gy{r}(A:aS d w c a e mb h j m l i Z f)(o:I (λk=>k=mb) w r)(q:∃D,fS r mb 4000 (tl c Z) D):aS d r c a e mb h j m l i Z f:=by
 obtain⟨B,⟨ov,D,t,u,v⟩,F⟩:=A;obtain⟨z,q⟩:=q;have y:∀k b n s,w.heap[k]?=some (.cells b n s)->k≠mb:=λk b n s p x=>by subst x;exact v.fy.tag _ _ _ p
 refine⟨B.trans o (λ_ _ x=>.inr (.inr (.inl x))),⟨ov,z,?_,A3 u o (λg G x=>?_),v.P o q (λk b n p _=>y k b n _ p) (λ_ x _=>x)⟩,F⟩
 .rw[o.block a (aI t) (y _ _ _ _ t)];omega
 .obtain⟨_,b,H⟩:=A9 u g G;grind
def aS.o7{b}(g:aS d w c a e mb h j m l i Z f)(n:I (λk=>k=mb) w b):I (SW d a e mb) d b:=g.P.trans n (λ_ _ x=>.inr (.inr (.inl x)))
def aS.jf(b:aS d w c a e mb h j m l i Z f):∃D,dH w e mb 4000 (tl c Z) D:=by
 obtain⟨_,⟨ov,D,_,_,g⟩,_⟩:=b;exact⟨D,g.kt⟩
theorem aS.ts(b:aS d w c a e mb h j m l i Z f):aU (tl c Z):=by
 obtain⟨D,b⟩:=b.jf;exact b.ok
def aS.le(b:aS d w c a e mb h j m l i Z f):(tl c Z).length<=4000:=by
 obtain⟨D,b⟩:=b.jf;exact b.fq
def KG(k b:E):Prop:=k.heap.size<=b.heap.size/\∀(q:Nat) (n) (g) (o),k.heap[q]?=some (.cells n g o)->g≠108->g≠81->b.heap[q]?=some (.cells n g o)
theorem KG.trans{g b c}(r:KG g b)(k:KG b c):KG g c:=⟨kQ r.1 k.1,λq n o p x s t=>k.2 q n o p (r.2 q n o p x s t) s t⟩
theorem KG.y{g b}(k:I No g b):KG g b:=⟨k.size,λq n o p x _ _=>by rw[k.block q (aI x) (λy=>y)];omega⟩
def KG.row{o b}(x:KG o b){p}{k}{s}{v}{n}{t}(A:o.ownsRow p k s v n t)(y:k≠108)(z:k≠81):b.ownsRow p k s v n t:=by
 obtain⟨u,q⟩:=A;refine⟨u,?_⟩;obtain q|⟨g,cap,cur,e1,e2,e3,r⟩:=q
 .grind
 .exact .inr ⟨g,cap,cur,e1,e2,x.2 _ _ _ _ e3 y z,r⟩
theorem aS.grow{n}{v}{r}(s:aS d w c a e mb h j m l i Z f)(F:w.cell? (J e 0)=some v)(t:I (kC e v) w n){ov}{D}(M:w.heap[a]?=some (.cells (tN c j m l e h i ov) 57 (0,0)))(S:w.ownsRow d.heap.size 3 1 ov f.length (C7 f))
 (hs:gM n e mb 4000 (tl c Z++r) D (λg=>ov.ownBlock≠some g)) (hf:Fw (tl c Z++r)):aS d n c a e mb h j m l i (Z++r) f/\KG w n:=by
 obtain⟨D0,T⟩:=s.jf;obtain⟨y0,yx,P,G,_⟩:=T.eo;have L:v=y0:=by
  rw[cell_of_row w e 0 _ _ _ P]at F;exact(vZ F).symm
 subst L;have W:∀q (o:Array Value) (b:TypeId) (p:Nat×Nat),w.heap[q]?=some (.cells o b p)->b≠108->b≠81->¬kC e v q:=by
  rintro q o b p x A B (rfl|y)
  .grind
  .obtain⟨_,H,u⟩:=A9 G q y.symm;grind
 have z:KG w n:=⟨t.size,λq o b p x A B=>by rw[t.block q (aI x) (W q o b p x A B)];omega⟩;refine⟨⟨s.P.trans t ?_,⟨ov,D,z.2 _ _ _ _ M (by decide) (by decide),z.row S (by decide) (by decide),by grind[nL]⟩,by grind[nL]⟩,z⟩;rintro k N (rfl|y)
 .exact .inr (.inl rfl)
 .by_cases V:SW d a e mb k
  .omega
  .obtain⟨R,H,u⟩:=A9 G k y.symm;rw[s.P.block k N V]at u;exact .inr (.inr (.inr ⟨R,_,_,u⟩))
theorem aS.cell(s:aS d w c a e mb h j m l i Z f):∃q n,a<w.heap.size/\(∀o,w.frozen? (J a o)=false)/\w.cell? (J a 0)=some j/\w.cell? (J a 1)=some m/\w.cell? (J a 2)=some (U l)/\w.cell? (J a 3)=some (pV e)/\w.cell? (J a 4)=some (.map (some h))/\w.cell? (J a 5)=some i/\w.cell? (J a 6)=some (.slice q f.length n)/\
 (∀k,1<=k->k<=5->w.cell? (J a (7+k))=some (U ((c.T.length+k-1:Nat))))/\
 ∀p (u),∃g,q=some (J g 0)/\d.heap.size<=g/\g<w.heap.size/\f.length<=n/\n<=maxLen/\w.cell? (J g p)=some (U f[p])/\(∀o,w.frozen? (J g o)=false):=by
 obtain⟨x,⟨ov,D,b,r,A⟩,B⟩:=s;obtain⟨q,n,rfl⟩:=B8 r;refine⟨q,n,(aI b),λo=>frozen_of_row w a o _ _ b,cr b rfl,cr b rfl,cr b rfl,cr b rfl,cr b rfl,cr b rfl,cr b rfl,λk M N=>?_,λp u=>?_⟩
 .rw[cell_of_row w a (7+k) _ _ _ b];have:k=1\/k=2\/k=3\/k=4\/k=5:=by omega
  obtain rfl|rfl|rfl|rfl|rfl:=this<;>rfl
 .obtain⟨g,t,F,G,H,y,z⟩:=D4 r (by omega);obtain⟨_,v,L⟩:=A9 r g (by rw[t];rfl);grind[C7,frozen_of_row]
def aS.look{b}(k:fZ (tl c Z) f b){n}{t}(o:b[n]?=some (some t)):∃(r:Nat) (p:n<f.length),f[n]=r/\r<(tl c Z).length/\tr (tl c Z) r=aX b n:=by
 obtain⟨r,g,q,s⟩:=k.at' n _ o;obtain⟨u,v⟩:=List.getElem?_eq_some_iff.1 g;grind[aX]
theorem FL(g:aU c.T){b}(k:b<c.T.length):tr (tl c Z) b=tr c.T b:=by
 unfold tl;grind[qX]
def lE(q:aU (tl c Z)){k}(o:1<=k)(p:k<=5):tr (tl c Z) (c.T.length+k-1)=dV k:=by
 have g:c.T.length+k-1<(tl c Z).length:=by rw[S9];omega
 have n:(tl c Z)[c.T.length+k-1]=⟨k,[],[],0⟩:=by
  have b:(tl c Z)[c.T.length+k-1]?=some ⟨k,[],[],0⟩:=by
   show (c.T++I8++Z)[c.T.length+k-1]?=_;rw[List.getElem?_append_left (by grind[I8]),List.getElem?_append_right (by omega)];have:k=1\/k=2\/k=3\/k=4\/k=5:=by omega
   obtain rfl|rfl|rfl|rfl|rfl:=this<;>simp[I8]
  rw[gQ g]at b;exact vZ b
 grind[U0,dV]
end
def Xn(a b c d)(w:E):(Instr.field 81 (.agg #[a,b,c,d]) 0).run prog w=.ok a w:=by kernel_rfl
def Xq(a b c d)(w:E):(Instr.field 81 (.agg #[a,b,c,d]) 2).run prog w=.ok c w:=by kernel_rfl
def WE(t:Ty)(w:E)(e:Ending)(a:E):Prop:=∃b c d f,e=.returned (.agg #[U t.x,.slice b t.ej.length c,.slice d t.M.length f,U t.ew])/\I No w a/\
 a.ownsRow 0 137 2 (.slice b t.ej.length c) t.ej.length (G0 t.ej)/\a.ownsRow 0 3 1 (.slice d t.M.length f) t.M.length (C7 t.M)
def Qc{a o N}{T}{D}(i:Nat)(w)(l)(h:dH w a o N T D):
 Calls prog 79 #[pV a,U i] w (WE T[i] w):=by
 obtain⟨r,c,s,u,A,v,k⟩:=h.cell;obtain⟨g,e,f,m,n,rfl,z,y,j,B,F,G,H,p,q⟩:=k i l;have b:=O p;have d:=O q;unfold maxLen at j;generalize T[i]=t at*;go_in;go_wp2;exact bodyPost_ret (by simp[results,results79,go_sem]) rfl ⟨e,f,m,n,rfl,I.alloc _ _ _,A3 b.u (I.alloc No _ _) (λ_ _ x=>x),A3 d.u (I.alloc No _ _) (λ_ _ x=>x)⟩
def Oy{m y N}{T}{D}(i)(w)(v:i<T.length)(h:dH w m y N T D):
 ∃d f j k,(w.ownsRow 0 137 2 (.slice d T[i].ej.length f) T[i].ej.length (G0 T[i].ej)/\w.ownsRow 0 3 1 (.slice j T[i].M.length k) T[i].M.length (C7 T[i].M))/\∀a,I No w a->
  Calls prog 79 #[pV m,U i] a λe B=>e=.returned (.agg #[U T[i].x,.slice d T[i].ej.length f,.slice j T[i].M.length k,U T[i].ew])/\B=a.alloc (.cells #[U T[i].x,.slice d T[i].ej.length f,.slice j T[i].M.length k,U T[i].ew] 81):=by
 obtain⟨F,c,l,G,x,H,s⟩:=h.cell;obtain⟨g,d,f,j,k,rfl,u,L,r,n,o,p,q,z,A⟩:=s i v;refine⟨d,f,j,k,⟨z,A⟩,λa b=>?_⟩;replace l:=A4 b l;replace n:=A4 b n;replace o:=A4 b o;replace p:=A4 b p;replace q:=A4 b q;have M:=yQ u b.size;have P:=yQ x b.size;unfold maxLen at r;generalize T[i]=t at*;go_in;go_wp2;exact bodyPost_ret (by simp[results,results79,go_sem]) rfl ⟨rfl,rfl⟩
section
variable{i w:E}{c:Cx}{b d f h:Nat}{g k e:Value}{j:Int}{Z:List Ty}{a:bZ}
def sG(c:Cx)(n:C):Int:=if n.ty=-1 then ((c.T.length+4:Nat)) else n.ty
def iQ(c:Cx)(a:bZ)(l:Nat):Int:=if (aC c.N l).ty≠-1 then (aC c.N l).ty else if (aC c.N l).x=17 then a.getD (aC c.N l).a.toNat 0 else ((c.T.length+4:Nat))
def SY(m:aS i w c b d f h g k j e Z a)(n)(p)(q):
 Calls prog 54 #[pV b,fE n p q] w λl u=>l=.returned (U (sG c n))/\I No w u:=by
 obtain⟨A,B,x,v,D,F,G,H,L,M,N,s,P⟩:=m.cell;have r:=s 5 (by omega) (by omega);obtain⟨y,S,T,V,z,R,W,t,vp⟩:=n;unfold sG fE;simp at r;by_cases o:t=-1
 .subst o;simp;generalize ((c.T.length+4:Nat):Int)=a2 at*;go_in;go_wp2;go_ret;exact⟨rfl,I.alloc No _ _⟩
 .simp;go_in;go_wp2;go_ret;exact⟨rfl,I.alloc No _ _⟩
def uU(s:cP i c b d f h g e)(n:aS i w c b d f h g k j e Z a)(l)(o:l<c.N.length):
 Calls prog 82 #[pV b,U l] w λm q=>m=gu 9 (cI c.N l)/\I No w q:=by
 obtain⟨G,H,A,v,L,M,N,P,R,S,T,W,V⟩:=n.cell;obtain⟨x,F,B,D,rfl,y,z,u,⟨x0,x1,x2,x3,x4,x5,x6,x7,x8⟩,-,-⟩:=(s.fg n.P).at (Below.refl _ _) l o;have m:cI c.N l=c.N[l].at':=by unfold cI;rw[lQ,gQ o];rfl
 rw[m];unfold maxLen at u;generalize c.N[l].at'=p at*;have r:=Y0 w 9 p;go_in;go_wp2_with fail;refine r.mono ?_;rintro m q ⟨rfl,t⟩;exact⟨rfl,rfl,t⟩
def MT(o:aS i w c b d f h g k j e Z a)(m)(t:m<a.length)(r:Nat)(v:a[m]=r)(x):
 Calls prog 55 #[pV b,U m] w λn A=>n=.returned (U (tl c Z)[r].x)/\I No w A:=by
 obtain⟨W,oc,S,H,q0,q1,q2,q3,q4,q5,q6,qp,z⟩:=o.cell;obtain⟨L,rfl,N,P,R,u,B,-⟩:=z m t;rw[v]at B;unfold maxLen at u;obtain⟨D,y⟩:=o.jf;have p:Hid (∀l,I No w l->Calls prog 79 #[pV d,U (r:Int)] l (WE (tl c Z)[r] l)):=λl q=>Qc r l x (y.y q);have M:=Xn;generalize (tl c Z)[r]=a2 at*;go_in;go_wp2;go_region_with (go_at_call 79;refine(p.u _ (I.drewN _ _ 1)).mono ?_;rintro n a3 ⟨F,G,T,V,rfl,s,-,-⟩);all_goals
  go_wp2;go_ret;exact⟨rfl,B6 (I.drewN _ _ 1) s⟩
def WI(p:aS i w c b d f h g k j e Z a)(l)(s:l<a.length)(r:Nat)(t:a[l]=r)(u):
 Calls prog 31 #[pV b,U l] w λm n=>m=.returned (.bool ((tl c Z)[r].x==5))/\I No w n:=by
 have o:=MT p l s r t u;generalize (tl c Z)[r].x=v at*;go_in;go_wp2_with fail;refine o.mono ?_;rintro m n ⟨rfl,q⟩;go_wp2;go_ret;exact⟨rfl,q⟩
def LX(u:cP i c b d f h g e)(m:aS i w c b d f h g k j e Z a)(l)(p:l<c.N.length)(o:(aC c.N l).ty=-1->(aC c.N l).x=17->∃n:Nat,(aC c.N l).a=n/\n<a.length):
 Calls prog 51 #[pV b,U l] w λt G=>t=.returned (U (iQ c a l))/\I No w G:=by
 obtain⟨oa,oc,V,H,q0,q1,q2,q3,q4,q5,q6,D,B⟩:=m.cell;obtain⟨L,nc,W,lc,rfl,N,P,v,⟨x0,x1,x2,x3,x4,x5,x6,x7,x8⟩,-,-⟩:=(u.fg m.P).at (Below.refl _ _) l p;have A:=D 5 (by omega) (by omega);unfold maxLen at v;simp only[show 7+5=12 from rfl,show c.T.length+5-1=c.T.length+4 by omega]at A;unfold iQ;rw[B9 p]at o⊢;generalize c.N[l]=z at*;obtain⟨y,va,vb,vc,ls,tx,vn,F,vp⟩:=z;simp only at*;generalize ((c.T.length+4:Nat):Int)=a3 at*;by_cases s:F=-1
 .subst s;rw[zY (by simp)];by_cases q:y=17
  .subst q;obtain⟨n,rfl,r⟩:=o rfl rfl;obtain⟨M,rfl,R,S,T,x,y0,-⟩:=B n r;rw[wY rfl,tQ,lQ,gQ r];simp;unfold maxLen at x;generalize a[n]=a2 at*;go_in;go_wp2;go_region;all_goals go_wp2
   all_goals go_ret
   all_goals exact⟨rfl,B6 (I.alloc No _ _) (I.drewN _ _ 1)⟩
  .rw[zY q];go_in;go_wp2;go_ret;exact⟨rfl,I.alloc No _ _⟩
 .rw[wY s];go_in;go_wp2;go_ret;exact⟨rfl,I.alloc No _ _⟩
end
def Ve(w:E)(a b:Y)(x)(c)(d:w.cell? (J c 5)=some (.string ⟨a.toArray⟩)):
 Calls prog 81 #[.agg #[.string ⟨b.toArray⟩,U x],pV c] w λe f=>e=.returned (.bool (b==a))/\I No w f:=by
 have g:=World.block_lt_of_cell? w _ d;by_cases h:b=a
 .subst h;go_in;go_wp2;go_ret;exact⟨E7 (by simp),I.alloc _ _ _⟩
 .go_in;go_wp2;go_ret;exact⟨E7 (by simp),I.alloc _ _ _⟩
section
variable{i w:E}{c:Cx}{e b a h:Nat}{g k f:Value}{j:Int}{Z:List Ty}{d:bZ}
def vx(o:aS i w c e b a h g k j f Z d)(r l)(v:r<(tl c Z).length)(u:l<(tl c Z).length):
 Calls prog 120 #[pV b,U r,U l] w λn m=>n=.returned (.bool (D8 (tr (tl c Z) r) (tr (tl c Z) l)))/\I (λy=>y=a) w m/\aS i m c e b a h g k j f Z d:=by
 obtain⟨D,x⟩:=o.jf;refine(DS (r+l+1) r l w D (by omega) v u x).mono ?_;rintro n m ⟨s,p,q,t,_⟩;exact⟨s,p,o.gy p ⟨q,t⟩⟩
def kX(i w:E)(c:Cx)(e b a h:Nat)(g k:Value)(j:Int)(f:Value)(Z:List Ty)(d:bZ)(o:Nat)(n:Bool)(l:Ending)(m:E):Prop:=I (λp=>p=a) w m/\match n with
 |true=>l=rT/\aS i m c e b a h g k j f Z d
 |false=>l=gu 9 (cI c.N o)
def rG(i w:E)(c:Cx)(e b a h:Nat)(g k:Value)(j:Int)(f:Value)(Z:List Ty)(d:bZ)(n:Nat)(o:Option Tr)(l:Ending)(m:E):Prop:=I (λp=>p=a) w m/\match o with
 |none=>l=gu 9 (cI c.N n)
 |some t=>aS i m c e b a h g k j f Z d/\∃x:Nat,l=.returned (U x)/\x<(tl c Z).length/\tr (tl c Z) x=t
def OZ(G:cP i c e b a h g f)(z:aS i w c e b a h g k j f Z d)(m)(L:m<c.N.length)(p)(N:p<d.length)(r:Nat)(P:d[p]=r)(R:r<(tl c Z).length)(l)(H:l<(tl c Z).length):
 Calls prog 83 #[pV e,U m,U p,U l] w (kX i w c e b a h g k j f Z d m (D8 (tr (tl c Z) r) (tr (tl c Z) l))):=by
 obtain⟨oa,oc,a5,W,q0,q1,q2,q3,q4,q5,q6,qp,S⟩:=z.cell;obtain⟨go,rfl,a2,a3,a4,M,V,-⟩:=S p N;rw[P]at V;unfold maxLen at M;have v:Hid (∀u,I No w u->_):=λu s=>vx (z.y s) r l R H;have A:Hid (∀u,aS i u c e b a h g k j f Z d->_):=λu s=>uU G s m L;generalize D8 (tr (tl c Z) r) (tr (tl c Z) l)=D at*;cases D
 .go_in;go_wp2;go_region_with (go_at_call 120;refine(v.u _ (I.drewN _ _ 1)).mono ?_;rintro y T ⟨rfl,q,o⟩);all_goals
   have n:=O ((I.drewN (λt=>t=a) w 1).trans q (λ_ _ x=>x));have B:=A.u _ o;go_wp2_with fail;refine B.mono ?_;rintro y a6 ⟨rfl,F⟩;exact⟨rfl,n.u.trans F (λ_ _ x=>x.elim),rfl⟩
 .go_in;go_wp2;go_region_with (go_at_call 120;refine(v.u _ (I.drewN _ _ 1)).mono ?_;rintro y T ⟨rfl,q,o⟩);all_goals
   have n:=O ((I.drewN (λt=>t=a) w 1).trans q (λ_ _ x=>x));go_wp2;go_end0;exact⟨n.u,rfl,o⟩
end
def J4{a b}{q:Nat}{c}{e}(d:I No a b)(h:a.heap[q]?=some (.cells c e (0,0))):b.heap[q]?=some (.cells c e (0,0)):=by
 rw[d.block q (aI h) (λx=>x)];omega
def LS{k B N}{T}{D}(i)(w)(z)(h:dH w k B N T D):
 ∃g c b d f j,w.cell? (J k 0)=some (.slice (some (J g 0)) T.length c)/\w.cell? (J g (i*4))=some (U T[i].x)/\w.cell? (J g (i*4+1))=some (.slice b T[i].ej.length d)/\w.cell? (J g (i*4+2))=some (.slice f T[i].M.length j)/\w.cell? (J g (i*4+3))=some (U T[i].ew)/\
  (w.ownsRow 0 137 2 (.slice b T[i].ej.length d) T[i].ej.length (G0 T[i].ej)/\w.ownsRow 0 3 1 (.slice f T[i].M.length j) T[i].M.length (C7 T[i].M))/\∀a:E,a.cell? (J k 0)=some (.slice (some (J g 0)) T.length c)->a.cell? (J g (i*4))=some (U T[i].x)->a.cell? (J g (i*4+1))=some (.slice b T[i].ej.length d)->a.cell? (J g (i*4+2))=some (.slice f T[i].M.length j)->a.cell? (J g (i*4+3))=some (U T[i].ew)->
  Calls prog 79 #[pV k,U i] a λe F=>e=.returned (.agg #[U T[i].x,.slice b T[i].ej.length d,.slice f T[i].M.length j,U T[i].ew])/\F=a.alloc (.cells #[U T[i].x,.slice b T[i].ej.length d,.slice f T[i].M.length j,U T[i].ew] 81):=by
 have L:=h.fq;obtain⟨G,c,l,u,A,v,n⟩:=h.cell;obtain⟨g,b,d,f,j,rfl,y,H,x,m,q,r,s,o,p⟩:=n i z;refine⟨g,c,b,d,f,j,l,m,q,r,s,⟨o,p⟩,λa l m q r s=>?_⟩;have M:g<a.heap.size:=World.block_lt_of_cell? a _ m;have P:k<a.heap.size:=World.block_lt_of_cell? a _ l;unfold maxLen at x;clear n h o p y A v u;generalize T[i]=t at*;go_in;go_wp2;exact bodyPost_ret (v:=.agg #[U t.x,.slice b t.ej.length d,.slice f t.M.length j,U t.ew]) (by simp[results,results79,go_sem]) rfl ⟨rfl,rfl⟩
section
variable{j w:E}{c:Cx}{b d g i:Nat}{h l f:Value}{k:Int}{Z:List Ty}{e:bZ}{a:Of}
def zw{T:List Ty}(m:aU T){r}(o:r<T.length)(s:T[r].x≠5)(q:Y)(t:¬(T[r].x=8/\q=[108,101,110,103,116,104])){n:C}(v:n.text=q)(u:aX a n.a=tr T r):
 J7 a n=I3 q (T[r].ej.map (·.1)) (T[r].ej.map λp=>tr T p.2.toNat):=by
 unfold J7;rw[u,iH m o,zY s,v,zY t,GA m o,oD m o];by_cases x:T[r].x=7<;>simp_all[zY,JI,wR,I3]
def VQ(hB:cP j c b d g i h f)(S:aS j w c b d g i h l k f Z e)(o)(hi:o<c.N.length)(p)(hp:p<e.length)(an:c.N[o].a=p)(r:Nat)(hr:e[p]=r)(aa:r<(tl c Z).length)(he:aX a c.N[o].a=tr (tl c Z) r):
 Calls prog 52 #[pV b,U o] w (rG j w c b d g i h l k f Z e o (J7 a c.N[o])):=by
 obtain⟨oa,oc,b4,fz,q0,q1,q2,W,q4,q5,q6,qp,qo⟩:=S.cell;obtain⟨go,rfl,b1,b2,bi,b3,V,-⟩:=qo p hp;rw[hr]at V;obtain⟨bd,nc,la,lc,rfl,hg,bh,az,⟨x0,x1,x2,x3,x4,x5,x6,x7,x8⟩,-,-⟩:=(hB.fg S.P).at (Below.refl _ _) o hi;have a6:=qp 1 (by omega) (by omega);simp only[show 7+1=8 from rfl,show c.T.length+1-1=c.T.length by omega]at a6;have bf:=hB.ok.fh;have hT:=S.ts;unfold maxLen at az b3;obtain⟨bc,hs⟩:=S.jf;obtain⟨gt,ct,fa,fc,b6,b7,z0,z1,z2,z3,z4,⟨ag,-⟩,aj⟩:=LS r w aa hs;have HG:=O aj;have af:=O ag;clear aj ag;have HW:Hid (∀ad,I No w ad->_):=λad hu=>uU hB (S.y hu) o hi;have H0:=O S;have av:=O (lE hT (k:=1) (by omega) (by omega));have ax:c.T.length<(tl c Z).length:=by rw[S9];omega
 have E5:Hid ((tl c Z)[r].x=5->J7 a c.N[o]=some (tr (tl c Z) r)):=λT=>by
  simp_all[J7,iH,wY]
 have E8:Hid ((tl c Z)[r].x=8->c.N[o].text=[108,101,110,103,116,104]->J7 a c.N[o]=some (dV 1)):=λu ht=>by
  unfold J7;grind[iH]
 have EF:Hid ((tl c Z)[r].x≠5->¬((tl c Z)[r].x=8/\c.N[o].text=[108,101,110,103,116,104])->J7 a c.N[o]=I3 c.N[o].text ((tl c Z)[r].ej.map (·.1)) ((tl c Z)[r].ej.map λp=>tr (tl c Z) p.2.toNat)):=λT u=>zw hT aa T _ u rfl he;have au:=O (hT r aa).l9;have a9:=O aa;rw[an]at x1;clear qp qo S hr hs hB an he;generalize J7 a c.N[o]=FT at*;generalize c.N[o]=nd at*;generalize (tl c Z)[r]=b9 at*;obtain⟨kd,va,vb,vc,ls,A,vn,vt,vp⟩:=nd;obtain⟨M,v,ba,bb⟩:=b9;simp only at*;have B:=I.alloc No w (aL kd (p:Int) vb vc (.slice la ls.length lc) A vn vt vp);have nb:=yY w (aL kd (p:Int) vb vc (.slice la ls.length lc) A vn vt vp);have n1:(w.alloc (aL kd (p:Int) vb vc (.slice la ls.length lc) A vn vt vp)).cell? (J w.heap.size 1)=some (U (p:Int)):=cr nb rfl;have n5:(w.alloc (aL kd (p:Int) vb vc (.slice la ls.length lc) A vn vt vp)).cell? (J w.heap.size 5)=some (.string ⟨A.toArray⟩):=cr nb rfl;replace W:=A4 B W;replace q6:=A4 B q6;replace a6:=A4 B a6;replace V:=A4 B V;replace z0:=A4 B z0;replace z1:=A4 B z1;replace z2:=A4 B z2;replace z3:=A4 B z3;replace z4:=A4 B z4;have ao:=blt W;have ai:=blt V;have al:=blt z0;have aq:=blt z1;have am:=blt n1;simp only at ao ai al aq am;have ae:=O B;clear B nb;go_in;go_wp2_with fail;clear q0 q1 q2 q4 q5 fz x0 x1 x2 x3 x4 x5 x6 x7 x8 b4 hg b1 b2;generalize (w.alloc (aL kd (p:Int) vb vc (.slice la ls.length lc) A vn vt vp))=aw at*;go_cut [6] (λv6 wc=>∃ac:Nat,v6=pV ac/\Hid (I No aw wc)/\wc.cell? (J ac 0)=some (U M)/\wc.cell? (J ac 1)=some (.slice fa v.length fc));case first=>
  go_region_held3 (λG=>G.cell? (J b 3)=some (pV d)/\G.cell? (J b 6)=some (.slice (some (J go 0)) e.length oc)/\G.cell? (J go p)=some (U (r:Int))/\G.cell? (J w.heap.size 1)=some (U (p:Int))/\
   G.cell? (J d 0)=some (.slice (some (J gt 0)) (tl c Z).length ct)/\G.cell? (J gt (r*4))=some (U M)/\G.cell? (J gt (r*4+1))=some (.slice fa v.length fc)/\G.cell? (J gt (r*4+2))=some (.slice b6 ba.length b7)/\G.cell? (J gt (r*4+3))=some (U bb))
   (go_keep)
   (first
    |((go_at_call 79;go_split_ands;refine(HG.u _ (by omega) (by omega) (by omega) (by omega) (by omega)).mono ?_;rintro F G ⟨rfl,rfl⟩)));all_goals go_wp2_with fail
  all_goals go_meet
  all_goals exact⟨_,rfl,B6 (B6 (I.alloc No _ _) (I.alloc No _ _)) (I.drewN No _ 1),by simp,by simp⟩
 case rest=>
  obtain⟨ac,rfl,N,t0,L⟩:=hcut;have s:=O (B6 ae.u N.u);replace W:=A4 N.u W;replace q6:=A4 N.u q6;replace a6:=A4 N.u a6;replace V:=A4 N.u V;replace n1:=A4 N.u n1;replace n5:=A4 N.u n5;have b5:=blt W;have ay:=blt V;have b0:=blt n1;simp only at b5 ay b0;have FO:=O (A3 af.u s.u (λ_ _ x=>x));clear z0 z1 z2 z3 z4 ao ai al aq am HG af ae N;by_cases T:M=5
  .have e5:=E5.u T;subst T;go_wp2_with fail;go_quiet (fail);go_wp2_with fail;go_ret;rw[e5];exact⟨(B6 s.u (I.drewN No _ _)).mono (λ_ _ x=>x.elim),H0.u.y (B6 s.u (I.drewN No _ _)),r,rfl,a9.u,rfl⟩
  have be:(M==5)=false:=by simpa using T
  have bg:=vM;have a8:=O (QU 81 (λ_ _=>by rfl) wc fa fc v FO.u A w.heap.size (λad hu b8 x=>Ve ad A b8 x _ (A4 hu n5)));have P:Hid (¬(M=8/\A=[108,101,110,103,116,104])->∀(x:Int),JE v A x->(∃q:Nat,∃H:q<v.length,x=q/\FT=some (tr (tl c Z) v[q].2.toNat)/\(0<=v[q].2/\v[q].2<(r:Int)))\/x=-1/\FT=none):=by
   intro u x y;have eF:=EF.u T u;obtain⟨q,H,rfl,h1,h2⟩|⟨rfl,h1⟩:=y
   .exact .inl ⟨q,H,rfl,by grind[GT],au.u _ (mQ H)⟩
   .grind[KT]
  clear EF E5;by_cases ab:A=[108,101,110,103,116,104]
  .subst ab;by_cases u:M=8
   .have e8:=O (E8.u u rfl);subst u;clear E8 P a8;go_wp2_with fail;go_ret;exact⟨s.u.mono (λ_ _ x=>x.elim),by rw[e8.u];exact⟨H0.u.y s.u,c.T.length,rfl,ax,by simpa using av.u⟩⟩
   .have g8:(M==8)=false:=by simpa using u
    replace P:=O (P.u (λF=>u F.1));clear E8 u;go_wp2_with fail;refine a8.u.mono ?_;rintro F a7 ⟨⟨x,rfl,y⟩,n⟩;obtain⟨q,H,rfl,m,a5⟩|⟨rfl,m⟩:=P.u x y
    .obtain⟨g2,rfl,ah,ak,a3,v0,v1⟩:=U8 (A3 FO.u n (λ_ _ x=>x)) H;replace L:=A4 n L;have a4:=blt L;simp only at a4;have t:=O (B6 s.u n);have D:=O m;obtain⟨z,R⟩:∃z:Nat,v[q].2=(z:Int):=⟨v[q].2.toNat,by omega⟩;rw[R]at v1 a5 m;have a2:=O m;unfold maxLen at a3;clear v0 y n m D R;go_wp2_with fail;go_ret;have ap:=a9.u;exact⟨t.u.mono (λ_ _ x=>x.elim),by rw[a2.u];exact⟨H0.u.y t.u,z,rfl,by omega,rfl⟩⟩
    .have HX:=O (HW.u a7 (B6 s.u n));have t:=O (B6 s.u n);have D:=O m;clear y n m;go_wp2_with fail;refine HX.u.mono ?_;rintro F ar ⟨rfl,h7⟩;exact⟨rfl,(B6 t.u h7).mono (λ_ _ x=>x.elim),by rw[D.u];rfl⟩
  .have gx:(A==[108,101,110,103,116,104])=false:=by simpa using ab
   replace P:=O (P.u (λF=>ab F.2));clear E8 ab;by_cases u:M=8
   .subst u;go_wp2_with fail;refine a8.u.mono ?_;rintro F a7 ⟨⟨x,rfl,y⟩,n⟩;obtain⟨q,H,rfl,m,a5⟩|⟨rfl,m⟩:=P.u x y
    .obtain⟨g2,rfl,ah,ak,a3,v0,v1⟩:=U8 (A3 FO.u n (λ_ _ x=>x)) H;replace L:=A4 n L;have a4:=blt L;simp only at a4;have t:=O (B6 s.u n);have D:=O m;obtain⟨z,R⟩:∃z:Nat,v[q].2=(z:Int):=⟨v[q].2.toNat,by omega⟩;rw[R]at v1 a5 m;have a2:=O m;unfold maxLen at a3;clear v0 y n m D R;go_wp2_with fail;go_ret;have ap:=a9.u;exact⟨t.u.mono (λ_ _ x=>x.elim),by rw[a2.u];exact⟨H0.u.y t.u,z,rfl,by omega,rfl⟩⟩
    .have HX:=O (HW.u a7 (B6 s.u n));have t:=O (B6 s.u n);have D:=O m;clear y n m;go_wp2_with fail;refine HX.u.mono ?_;rintro F ar ⟨rfl,h7⟩;exact⟨rfl,(B6 t.u h7).mono (λ_ _ x=>x.elim),by rw[D.u];rfl⟩
   .have g8:(M==8)=false:=by simpa using u
    clear u;go_wp2_with fail;refine a8.u.mono ?_;rintro F a7 ⟨⟨x,rfl,y⟩,n⟩;obtain⟨q,H,rfl,m,a5⟩|⟨rfl,m⟩:=P.u x y
    .obtain⟨g2,rfl,ah,ak,a3,v0,v1⟩:=U8 (A3 FO.u n (λ_ _ x=>x)) H;replace L:=A4 n L;have a4:=blt L;simp only at a4;have t:=O (B6 s.u n);have D:=O m;obtain⟨z,R⟩:∃z:Nat,v[q].2=(z:Int):=⟨v[q].2.toNat,by omega⟩;rw[R]at v1 a5 m;have a2:=O m;unfold maxLen at a3;clear v0 y n m D R;go_wp2_with fail;go_ret;have ap:=a9.u;exact⟨t.u.mono (λ_ _ x=>x.elim),by rw[a2.u];exact⟨H0.u.y t.u,z,rfl,by omega,rfl⟩⟩
    .have HX:=O (HW.u a7 (B6 s.u n));have t:=O (B6 s.u n);have D:=O m;clear y n m;go_wp2_with fail;refine HX.u.mono ?_;rintro F ar ⟨rfl,h7⟩;exact⟨rfl,(B6 t.u h7).mono (λ_ _ x=>x.elim),by rw[D.u];rfl⟩
end
def Lk(c:Cx)(Z:List Ty)(a:bZ)(b:Of)(x:Int):Prop:=∃(p r:Nat) (h:p<a.length),x=p/\a[p]=r/\r<(tl c Z).length/\tr (tl c Z) r=aX b x
section
variable{i w:E}{c:Cx}{a e f h:Nat}{g k d:Value}{j:Int}{Z:List Ty}{b:bZ}{of:Of}
def DT(m:aS i w c a e f h g k j d Z b){p:Nat}(o:Lk c Z b of p):
 Calls prog 55 #[pV a,U p] w λl v=>l=.returned (U (aX of p).k)/\I No w v:=by
 obtain⟨u,r,q,l,s,n,t⟩:=o;have:p=u:=by omega
 subst this;rw[<-t,iH m.ts n];exact MT m p q r s n
def wW(c:Cx)(n:Nat)(m:Bool)(w:E)(l:Ending)(o:E):Prop:=I No w o/\match m with
 |true=>l=rT
 |false=>l=gu 9 (cI c.N n)
def XO(M:cP i c a e f h g d)(L:aS i w c a e f h g k j d Z b)(t)(hi:t<c.N.length)(l)(N:∀x∈l,Lk c Z b of x)(S)(T)(P:w.ownsRow 0 3 1 (.slice S l.length T) l.length (C7 l))(hn:l.length<=2):
 Calls prog 119 #[pV a,U t,.slice S l.length T] w (wW c t (l.all (iA of)) w):=by
 have HW:Hid (∀u,aS i u c a e f h g k j d Z b->_):=λu hu=>uU M hu t hi;have D:=O L;have HO:=O P;have HL:=O N;clear L P N M;go_in;go_wp2_with fail;go_loopw [11] (λv wr=>∃m:Nat,m<=l.length/\v=U (m:Int)/\Hid (∀x∈l.take m,iA of x=true)/\Hid (I No w wr)) (λv _=>l.length-(intOf v).toNat);case atStart=>exact⟨0,wQ _,rfl,(show∀x∈l.take 0,_ from by simp),I.refl _ _⟩
 case round=>
  obtain⟨m,hj,rfl,F,o⟩:=hrel;by_cases z:m<l.length
  .obtain⟨g2,a5,a8,a9,a4,y0⟩:=D6 (A3 HO.u o.u (λ_ _ x=>x)) z;subst a5;have n:=HL.u l[m] (mQ z);obtain⟨p,a7,hp,q,R,a6,ht⟩:=n;have s:=DT (of:=of) (D.u.y o.u) (p:=p) ⟨p,a7,hp,rfl,R,a6,by grind⟩;have G:Hid ((iA of l[m]=true↔(aX of (p:Int)).k=1\/(aX of (p:Int)).k=5)):=by
    show _↔_;unfold iA;rw[q];simp
   have HM:=O (mQ z);have a2:Hid (∀x∈l.take (m+1),x∈l.take m\/x=l[m]):=λx n=>by
    grind[nQ,qW,zW]
   rw[q]at y0;unfold maxLen at a4;clear q R ht;generalize (aX of (p:Int)).k=y at*;by_cases A:y=1\/y=5
   .have H:Hid (∀x∈l.take (m+1),iA of x=true):=λx n=>by
     obtain n|rfl:=a2.u x n
     .exact F.u x n
     .exact G.u.2 A
    obtain rfl|rfl:=A
    .go_wp2_with fail;refine s.mono ?_;rintro q B ⟨rfl,r⟩;go_wp2_with fail;go_roundw;case rel=>exact⟨m+1,by omega,by go_num,H.u,o.u.trans r (λ_ _ x=>x)⟩
     grind[intOf]
    .go_wp2_with fail;refine s.mono ?_;rintro q B ⟨rfl,r⟩;go_wp2_with fail;go_roundw;case rel=>exact⟨m+1,by omega,by go_num,H.u,o.u.trans r (λ_ _ x=>x)⟩
     grind[intOf]
   .have aa:(y !=1)=true:=by simp;omega
    have k5:(y !=5)=true:=by simp;omega
    have W:Hid (l.all (iA of)=false):=by
     show _=_;rw[Bool.eq_false_iff];intro n;exact A (G.u.1 (List.all_eq_true.1 n _ HM.u))
    go_wp2_with fail;refine s.mono ?_;rintro q B ⟨rfl,r⟩;have HX:=O (HW.u B (D.u.y (B6 o.u r)));have V:=O (B6 o.u r);clear r s;go_wp2_with fail;refine HX.u.mono ?_;rintro q ab ⟨rfl,h3⟩;exact⟨rfl,B6 V.u h3,by rw[W.u];rfl⟩
  .have a3:m=l.length:=by omega
   subst a3;have HT:Hid (l.all (iA of)=true):=by
    show _=_;rw[List.all_eq_true];intro x n;exact F.u x (by grind)
   go_wp2_with fail;go_end0;exact⟨o.u,by rw[HT.u]⟩
def ZK{W}{n}{p r}{l m}(q:I No l m)(o:l.cell? (J n 1)=some (U p)/\l.cell? (J n 2)=some (U r)/\Hid (I No W l)):m.cell? (J n 1)=some (U p)/\m.cell? (J n 2)=some (U r)/\Hid (I No W m):=
 ⟨A4 q o.1,A4 q o.2.1,B6 o.2.2.u q⟩
def Xg(hB:cP i c a e f h g d)(s:aS i w c a e f h g k j d Z b)(q)(hi:q<c.N.length)(ha:Lk c Z b of c.N[q].a)(hb:Lk c Z b of c.N[q].b):
 Calls prog 118 #[pV a,U q] w (rG i w c a e f h g k j d Z b q (pD of c.N[q])):=by
 obtain⟨oa,oc,aj,fz,q0,q1,q2,q3,q4,q5,q6,qp,qo⟩:=s.cell;have hT:=s.ts;have ax:c.T.length+4<(tl c Z).length:=by rw[S9];omega
 obtain⟨ar,nc,F,G,ah,hg,az,ag,⟨x0,x1,x2,x3,x4,x5,x6,x7,x8⟩,-,-⟩:=(hB.fg s.P).at (Below.refl _ _) q hi;have v:=qp 1 (by omega) (by omega);have L:=qp 3 (by omega) (by omega);have M:=qp 5 (by omega) (by omega);simp only[show 7+1=8 from rfl,show 7+3=10 from rfl,show 7+5=12 from rfl,show c.T.length+1-1=c.T.length by omega,show c.T.length+3-1=c.T.length+2 by omega,show c.T.length+5-1=c.T.length+4 by omega]at v L M;have ae:=O (lE hT (k:=1) (by omega) (by omega));have af:=O (lE hT (k:=3) (by omega) (by omega));have a9:=O (lE hT (k:=5) (by omega) (by omega));have ay:=hB.ok.fh;unfold maxLen at ag;obtain⟨p,ap,hp,a5,hr,al,an⟩:=ha;obtain⟨n,r',ai,a6,ad,am,ao⟩:=hb;have HK:Hid (∀u (x:Nat),I No w u->(x=p\/x=n)->Calls prog 55 #[pV a,U (x:Int)] u λa2 y=>a2=.returned (U (aX of (x:Int)).k)/\I No u y):=λu x hu hx=>by
  obtain rfl|rfl:=hx
  .exact DT (s.y hu) ⟨x,ap,hp,rfl,hr,al,by grind⟩
  .exact DT (s.y hu) ⟨x,r',ai,rfl,ad,am,by grind⟩
 have HW:Hid (∀u,I No w u->_):=λu hu=>uU hB (s.y hu) q hi;have V:=O s;have m:Hid (pD of c.N[q]=if (aX of (p:Int)).k=5\/(aX of (n:Int)).k=5 then some Z5 else if (aX of (p:Int)).k≠(aX of (n:Int)).k\/((aX of (p:Int)).k≠1/\(aX of (p:Int)).k≠3) then none else some (dV (aX of (p:Int)).k)):=by
  show _=_;unfold pD;rw[a5,a6]
 rw[a5]at x1;rw[a6]at x2;clear qp qo s hr ad hB a5 a6 an ao q1 q2 q3 q4 q5 q6 fz;generalize pD of c.N[q]=t at*;generalize c.N[q]=nd at*;obtain⟨D,va,vb,P,H,N,R,T,S⟩:=nd;subst ah;simp only at*;have z:=I.alloc No w (aL D (p:Int) (n:Int) P (.slice F H.length G) N R T S);have nb:=yY w (aL D (p:Int) (n:Int) P (.slice F H.length G) N R T S);have n1:(w.alloc (aL D (p:Int) (n:Int) P (.slice F H.length G) N R T S)).cell? (J w.heap.size 1)=some (U (p:Int)):=cr nb rfl;have n2:(w.alloc (aL D (p:Int) (n:Int) P (.slice F H.length G) N R T S)).cell? (J w.heap.size 2)=some (U (n:Int)):=cr nb rfl;replace v:=A4 z v;replace L:=A4 z L;replace M:=A4 z M;have ac:=blt n2;simp only at ac;have a3:=O z;clear z nb;go_in;go_wp2_with fail;clear q0 x0 x1 x2 x3 x4 x5 x6 x7 x8 aj hg;generalize (w.alloc (aL D (p:Int) (n:Int) P (.slice F H.length G) N R T S))=W at*;have S0:Hid (W.drew.cell? (J w.heap.size 1)=some (U (p:Int))/\W.drew.cell? (J w.heap.size 2)=some (U (n:Int))/\Hid (I No W W.drew)):=⟨n1,n2,I.drewN _ _ 1⟩;generalize aa:(aX of (p:Int)).k=r at*;generalize ab:(aX of (n:Int)).k=B at*;have a7:=O aa;have a8:=O ab;clear aa ab;go_cut [6,7] (λv6 v7 wc=>v6=U r/\v7=U B/\Hid (I No W wc));case first=>
  go_region_held3 (λy=>y.cell? (J w.heap.size 1)=some (U (p:Int))/\y.cell? (J w.heap.size 2)=some (U (n:Int))/\Hid (I No W y))
   (first
    |exact S0.u
    |exact ZK hc ⟨by omega,by omega,by omega⟩
    |(go_split_ands;exact ZK hc ⟨by assumption,by assumption,by assumption⟩)
    |(go_split_ands;exact⟨by assumption,by assumption,by assumption⟩))
   (first
    |((go_at_call 55;go_split_ands;refine(HK.u _ _ (B6 a3.u (Hid.u (p:=I No W _) (by omega))) (by simp)).mono ?_;rintro a2 y ⟨rfl,hc⟩)));all_goals go_wp2_with fail
  all_goals go_meet
  all_goals exact⟨by rw[a7.u],by rw[a8.u],by grind⟩
 case rest=>
  obtain⟨rfl,rfl,A⟩:=hcut;have l:=O (B6 a3.u A.u);replace v:=A4 A.u v;replace L:=A4 A.u L;replace M:=A4 A.u M;have ak:=blt v;simp only at ak;clear S0 HK a7 a8 n1 n2 ac A a3;by_cases h5:r=5
  .have o:Hid (t=some Z5):=by show _=_;rw[m.u,wY (.inl h5)]
   subst h5;clear m;go_wp2_with fail;go_ret;exact⟨l.u.mono (λ_ _ x=>x.elim),by rw[o.u];exact⟨V.u.y l.u,c.T.length+4,rfl,by omega,by simpa[dV,Z5]using a9.u⟩⟩
  have av:(r==5)=false:=by simpa using h5
  by_cases h6:B=5
  .have o:Hid (t=some Z5):=by show _=_;rw[m.u,wY (.inr h6)]
   subst h6;clear m;go_wp2_with fail;go_ret;exact⟨l.u.mono (λ_ _ x=>x.elim),by rw[o.u];exact⟨V.u.y l.u,c.T.length+4,rfl,by omega,by simpa[dV,Z5]using a9.u⟩⟩
  have aw:(B==5)=false:=by simpa using h6
  by_cases a4:r=B
  .subst a4;by_cases h1:r=1
   .have o:Hid (t=some (dV 1)):=by show _=_;rw[m.u,zY (by omega),zY (by omega),h1]
    subst h1;clear m;go_wp2_with fail;go_ret;exact⟨l.u.mono (λ_ _ x=>x.elim),by rw[o.u];exact⟨V.u.y l.u,c.T.length,rfl,by omega,by simpa using ae.u⟩⟩
   .by_cases h3:r=3
    .have o:Hid (t=some (dV 3)):=by show _=_;rw[m.u,zY (by omega),zY (by omega),h3]
     subst h3;clear m;go_wp2_with fail;go_ret;exact⟨l.u.mono (λ_ _ x=>x.elim),by rw[o.u];exact⟨V.u.y l.u,c.T.length+2,rfl,by omega,by simpa using af.u⟩⟩
    .have o:Hid (t=none):=by show _=_;rw[m.u,zY (by omega),wY (by omega)]
     have g1:(r !=1)=true:=by simpa using h1
     have g3:(r !=3)=true:=by simpa using h3
     clear m;have HX:=O (HW.u wc l.u);go_wp2_with fail;refine HX.u.mono ?_;rintro a2 aq ⟨rfl,h7⟩;exact⟨rfl,(B6 l.u h7).mono (λ_ _ x=>x.elim),by rw[o.u];rfl⟩
  .have o:Hid (t=none):=by show _=_;rw[m.u,zY (by omega),wY (.inl a4)]
   have au:(r !=B)=true:=by simpa using a4
   clear m;have HX:=O (HW.u wc l.u);go_wp2_with fail;refine HX.u.mono ?_;rintro a2 aq ⟨rfl,h7⟩;exact⟨rfl,(B6 l.u h7).mono (λ_ _ x=>x.elim),by rw[o.u];rfl⟩
end
def KC(a b:E):Prop:=a.heap.size<=b.heap.size/\∀(q:Nat) (c) (e) (d),a.heap[q]?=some (.cells c e d)->b.heap[q]?=some (.cells c e d)
theorem KC.refl(a):KC a a:=⟨vQ _,λ_ _ _ _ h=>h⟩
theorem KC.trans{a b c}(h:KC a b)(k:KC b c):KC a c:=⟨kQ h.1 k.1,λq d e f x=>k.2 q d e f (h.2 q d e f x)⟩
theorem KC.y{a b}(h:I No a b):KC a b:=⟨h.size,λq c e d x=>by rw[h.block q (aI x) (λy=>y)];omega⟩
theorem KC.cell{a b}(h:KC a b){q o}{v}(d:a.cell? (J q o)=some v):b.cell? (J q o)=some v:=by
 have j:=World.block_lt_of_cell? a _ d;cases c:a.heap[q]? with
 |none=>
  grind
 |some i=>
  cases i with
  |cells f e g=>
   have:=h.2 q f e g c;grind[World.cell?_of_block]
  |_=>simp[World.cell?,c]at d
def KC.row{a b}(h:KC a b){c}{e}{f}{v}{n}{i}(k:a.ownsRow c e f v n i):b.ownsRow c e f v n i:=by
 obtain⟨j,d⟩:=k;refine⟨j,?_⟩;obtain d|⟨g,cap,cur,e1,e2,e3,r⟩:=d
 .grind
 .exact .inr ⟨g,cap,cur,e1,e2,h.2 _ _ _ _ e3,r⟩
def aS.kc{p w d}{c}{n i b o}{l r f}{j}{Z}{m}(h:aS p w c n i b o l r j f Z m)(a:I (λk=>k=b) w d):KC w d:=by
 obtain⟨D,g⟩:=h.jf;exact⟨a.size,λq s e t x=>by rw[a.block q (aI x) (λy=>by subst y;exact g.fy.tag _ _ _ x)];omega⟩
structure fU(c:Cx)(Z:List Ty)(ofs:bZ)(of:Of)(i:Nat):Prop where
 pe:∀x,Pe c.N i x->Lk c Z ofs of x
 has:∀x,Tg c.N i x->∃(j a:Nat),x=(j:Int)/\j<c.N.length/\iQ c ofs j=(a:Int)/\a<(tl c Z).length/\tr (tl c Z) a=V9 c of x/\((aC c.N j).ty=-1->(aC c.N j).x=17->∃n:Nat,(aC c.N j).a=(n:Int)/\n<ofs.length)
 res:∀x:Int,∃a:Nat,sG c (aC c.N x)=(a:Int)/\a<(tl c Z).length/\tr (tl c Z) a=jJ c.T (aC c.N x)
 wt:∀x,Py c.T x->∃a:Nat,x=(a:Int)/\a<(tl c Z).length/\tr (tl c Z) a=tr c.T x.toNat
def DW{c}(m:jD c){Z}(G:aU (tl c Z)){q}{f}(F:fZ (tl c Z) q f){k}(D:yJ c f k){i}(W:i<=k):fU c Z q f i:=by
 have L:∀j:Nat,(h:j<c.N.length)->aO c.N[j].x->(j<k\/c.N[j].x=6)->Lk c Z q f (j:Int):=λj h s l=>by
  obtain⟨a3,o⟩:=D.ex j h s l;obtain⟨r,w,z,A,B⟩:=aS.look (c:=c) (Z:=Z) F o;exact⟨j,r,w,rfl,z,A,B⟩
 have v:c.T.length+4<(tl c Z).length/\tr (tl c Z) (c.T.length+4)=Z5:=⟨by grind[S9],by have:=lE G (k:=5) (by omega) (by omega);grind[dV,Z5]⟩;have u:∀x,Py c.T x->∃a:Nat,x=(a:Int)/\a<(tl c Z).length/\tr (tl c Z) a=tr c.T x.toNat:=λx ⟨j,e,d,_⟩=>⟨j,e,by omega,by rw[FL m.ok d,e];rfl⟩;refine⟨λx ⟨j,e,d,h,s⟩=>by grind,λx ⟨j,e,h,a2,d⟩=>?_,λx=>?_,u⟩
 .have V:=B9 h;have b:=nJ m (j:Int);by_cases o:(aC c.N (j:Int)).ty=-1
  .by_cases y:(aC c.N (j:Int)).x=17
   .have N:=((m.ep j h).lq (by grind)).2;have T:Lk c Z q f c.N[j].a:=by
     obtain d|⟨_,n,g,M,t,l⟩:=d
     .obtain⟨n,g,M,t,s⟩:=N;grind
     .rw[g];exact L n t (by rw[l];exact⟨by decide,by decide⟩) (.inr l)
    obtain⟨p,r,P,g,hr,R,S⟩:=T;refine⟨j,r,e,h,?_,R,?_,λ_ _=>⟨p,by grind,P⟩⟩
    .unfold iQ;grind
    .unfold V9;grind
   .refine⟨j,c.T.length+4,e,h,?_,v.1,?_,λ_ h=>absurd h y⟩<;>simp_all[iQ,zY,V9]
  .obtain b|b:=b
   .omega
   .obtain⟨a,g,H,S⟩:=u _ b;refine⟨j,a,e,h,?_,H,?_,λh=>absurd h o⟩<;>simp_all[iQ,wY,V9]
 .have b:=nJ m x;by_cases o:(aC c.N x).ty=-1
  .grind[sG,jJ]
  .obtain b|b:=b<;>simp_all[absurd,sG,zY,jJ]
section
variable{i w:E}{c:Cx}{b f d h:Nat}{j l g:Value}{k:Int}{Z:List Ty}{e:bZ}{a:Of}
theorem kX.part{q}{n}{o}{m}(r:kX i w c b f d h j l k g Z e q n o m):(o=gu 9 (cI c.N q)/\n=false/\I (λp=>p=d) w m)\/(o=rT/\n=true/\I (λp=>p=d) w m/\aS i m c b f d h j l k g Z e):=by
 obtain⟨s,t⟩:=r;grind
def Zt{m n}{q:Nat}{o}{p}{T}{N}{D}(t:fS m d N T D)(s:I (λu=>u=d) m n)(r:m.heap[q]?=some (.cells o p (0,0))):n.heap[q]?=some (.cells o p (0,0)):=by
 rw[s.block q (aI r) (λx=>by subst x;exact t.tag _ _ _ r)];omega
theorem aS.eo(p:aS i w c b f d h j l k g Z e){m}{q:Nat}{n}{o}(r:I (λu=>u=d) w m)(s:w.heap[q]?=some (.cells n o (0,0))):m.heap[q]?=some (.cells n o (0,0)):=by
 obtain⟨D,t⟩:=p.jf;exact Zt t.fy r s
def WS(G:cP i c b f d h j g)(z:aS i w c b f d h j l k g Z e)(m)(hi:m<c.N.length)(p)(hp:p<e.length)(aj:c.N[m].a=p)(r:Nat)(hr:e[p]=r)(a6:r<(tl c Z).length)(he:aX a c.N[m].a=tr (tl c Z) r)
 (q) (b3:q<e.length) (ak:c.N[m].b=q) (s:Nat) (am:e[q]=s) (b5:s<(tl c Z).length) (aw:aX a c.N[m].b=tr (tl c Z) s):
 Calls prog 53 #[pV b,U m] w (rG i w c b f d h j l k g Z e m (J2 a c.N[m])):=by
 obtain⟨oa,oc,a5,fz,q0,q1,q2,q3,q4,q5,L,qp,qo⟩:=z.cell;have hT:=z.ts;have av:c.T.length<(tl c Z).length:=by rw[S9];omega
 have b4:tr (tl c Z) c.T.length=dV 1:=by simpa using lE hT (k:=1) (by omega) (by omega)
 obtain⟨au,nc,la,lc,az,hg,be,ay,⟨x0,x1,x2,x3,x4,x5,x6,x7,x8⟩,-,-⟩:=(G.fg z.P).at (Below.refl _ _) m hi;have a7:=qp 1 (by omega) (by omega);simp only[show 7+1=8 from rfl,show c.T.length+1-1=c.T.length by omega]at a7;have bd:=G.ok.fh;unfold maxLen at ay;have HF:Hid (∀u,I No w u->_):=λu v=>OZ G (z.y v) m hi q b3 s am b5 c.T.length av;have HW:Hid (∀u,aS i u c b f d h j l k g Z e->_):=λu v=>uU G v m hi;have H0:=O z;have E0:Hid (D8 (tr (tl c Z) s) (tr (tl c Z) c.T.length)=false->J2 a c.N[m]=none):=λn=>by
  grind[J2]
 have E5:Hid (D8 (tr (tl c Z) s) (tr (tl c Z) c.T.length)=true->(tl c Z)[r].x=5->J2 a c.N[m]=some (tr (tl c Z) r)):=λn A=>by
  simp_all[J2,wY,iH]
 have E8:Hid (D8 (tr (tl c Z) s) (tr (tl c Z) c.T.length)=true->(tl c Z)[r].x=8->J2 a c.N[m]=some (tr (tl c Z) (tl c Z)[r].ew.toNat)/\0<=(tl c Z)[r].ew/\(tl c Z)[r].ew<(r:Int)):=λn t=>by
  refine⟨?_,(hT r a6).of (.inl t)⟩;simp_all[J2,wY,iH,zY,oD]
 have EN:Hid (D8 (tr (tl c Z) s) (tr (tl c Z) c.T.length)=true->(tl c Z)[r].x≠5->(tl c Z)[r].x≠8->J2 a c.N[m]=none):=λn A t=>by
  unfold J2;grind[iH]
 have ac:=O a6;have ab:Hid (∀u,aS i u c b f d h j l k g Z e->_):=λu v=>LS r u a6 v.jf.choose_spec;have aa:Hid (∀u,aS i u c b f d h j l k g Z e->_):=λu (v:aS i u c b f d h j l k g Z e)=>v.cell;have HR:=O hr;rw[aj]at x1;rw[ak]at x2;clear qp qo z hr am G aj he aw ak b4 q1 q2 q3 q4 q5 L fz;generalize D8 (tr (tl c Z) s) (tr (tl c Z) c.T.length)=aq at*;generalize J2 a c.N[m]=FT at*;generalize c.N[m]=nd at*;obtain⟨W,va,vb,vc,ls,tx,vn,vt,vp⟩:=nd;subst az;simp only at*;have A1:=I.alloc No w (aL W (p:Int) (q:Int) vc (.slice la ls.length lc) tx vn vt vp);have nb:=yY w (aL W (p:Int) (q:Int) vc (.slice la ls.length lc) tx vn vt vp);have n2:(w.alloc (aL W (p:Int) (q:Int) vc (.slice la ls.length lc) tx vn vt vp)).cell? (J w.heap.size 2)=some (U (q:Int)):=cr nb rfl;have ap:=A4 A1 a7;have V:=blt ap;have T:=blt n2;simp only at V T;have D:=O A1;have NB:=O nb;clear A1 nb;go_in;go_wp2_with fail;clear q0 a7 x0 x1 x2 x3 x4 x5 x6 x7 x8 a5 hg;generalize (w.alloc (aL W (p:Int) (q:Int) vc (.slice la ls.length lc) tx vn vt vp))=ad at*;go_cut [] (λwc=>aq=true/\Hid (I (λH=>H=d) ad wc)/\Hid (aS i wc c b f d h (.slice (some (J au 0)) c.N.length nc) l k g Z e));case first=>
  go_region_with (go_at_call 83;refine(HF.u _ (B6 D.u (I.drewN _ _ 1))).mono ?_;intro ae bi hq;obtain⟨rfl,n,hc⟩|⟨rfl,n,hc,hC⟩:=kX.part hq;exact⟨rfl,((B6 D.u (I.drewN _ _ 1)).mono (λ_ _ x=>x.elim)).trans hc (λ_ _ x=>x),by rw[E0.u n];rfl⟩);all_goals go_wp2_with fail
  all_goals go_meet
  all_goals exact⟨n,(I.drewN (λH=>H=d) ad 1).trans hc (λ_ _ x=>x),hC⟩
 case rest=>
  obtain⟨n,CW,N⟩:=hcut;have ao:=(H0.u.y D.u).eo CW.u NB.u;have n1:wc.cell? (J w.heap.size 1)=some (U (p:Int)):=cr ao rfl;obtain⟨bh,b8,a5,fz,q0,q1,q2,q3,q4,q5,L,qp,qo⟩:=aa.u wc N.u;obtain⟨go,rfl,b0,b1,bf,b2,M,-⟩:=qo p hp;rw[HR.u]at M;obtain⟨F,ct,fa,fc,b6,b7,z0,z1,z2,z3,z4,-,ag⟩:=ab.u wc N.u;have HG:=O ag;have e0:=E5.u n;have P:=O (E5.u n);have R:=O (E8.u n);have S:=O (EN.u n);have al:=blt q3;have af:=blt M;have ah:=blt z0;have an:=blt z1;have ai:=blt n1;simp only at al af ah an ai;unfold maxLen at b2;have CX:=O ((D.u.mono (S':=λH=>H=d) (λ_ _ x=>x.elim)).trans CW.u (λ_ _ x=>x));clear ag ao q0 q1 q2 q4 q5 fz qp qo n E5 E8 EN E0 e0 n2 ap V T ab aa HF NB CW D b0 b1 a5;generalize (tl c Z)[r]=b9 at*;obtain⟨B,tf,ba,a3⟩:=b9;simp only at*;go_wp2_with fail;go_cut [6] (λv6 a8=>∃a2:Nat,v6=pV a2/\Hid (I No wc a8)/\a8.cell? (J a2 0)=some (U B)/\a8.cell? (J a2 3)=some (U a3));case first=>
   go_region_held3 (λo=>o.cell? (J b 3)=some (pV f)/\o.cell? (J b 6)=some (.slice (some (J go 0)) e.length b8)/\o.cell? (J go p)=some (U (r:Int))/\o.cell? (J w.heap.size 1)=some (U (p:Int))/\
    o.cell? (J f 0)=some (.slice (some (J F 0)) (tl c Z).length ct)/\o.cell? (J F (r*4))=some (U B)/\o.cell? (J F (r*4+1))=some (.slice fa tf.length fc)/\o.cell? (J F (r*4+2))=some (.slice b6 ba.length b7)/\o.cell? (J F (r*4+3))=some (U a3))
    (go_keep)
    (first
     |((go_at_call 79;go_split_ands;refine(HG.u _ (by omega) (by omega) (by omega) (by omega) (by omega)).mono ?_;rintro ae o ⟨rfl,rfl⟩)));all_goals go_wp2_with fail
   all_goals go_meet
   all_goals exact⟨_,rfl,B6 (B6 (I.alloc No _ _) (I.alloc No _ _)) (I.drewN No _ 1),by simp,by simp⟩
  case rest=>
   obtain⟨a2,rfl,y,t0,t3⟩:=hcut;replace L:=A4 y.u L;replace M:=A4 y.u M;replace n1:=A4 y.u n1;have V:=blt L;have ax:=blt M;have T:=blt n1;simp only at V ax T;have CZ:=O (CX.u.trans y.u (λ_ _ x=>x.elim));have a4:=O (N.u.y y.u);clear z0 z1 z2 z3 z4 al af ah an ai HG q3 CX N y;by_cases A:B=5
   .have e5:=O (P.u A);subst A;clear P R S;go_wp2_with fail;go_quiet (fail);go_wp2_with fail;go_ret;exact⟨CZ.u.trans (I.drewN No _ _) (λ_ _ x=>x.elim),by rw[e5.u];exact⟨a4.u.y (I.drewN No _ _),r,rfl,ac.u,rfl⟩⟩
   have bb:(B==5)=false:=by simpa using A
   by_cases t:B=8
   .obtain⟨e8,h1,h2⟩:=R.u t;have ar:=O e8;subst t;obtain⟨a9,rfl⟩:∃a9:Nat,a3=(a9:Int):=⟨a3.toNat,by omega⟩;clear P R S e8;go_wp2_with fail;go_ret;have bg:=ac.u;exact⟨CZ.u,by rw[ar.u];exact⟨a4.u,a9,rfl,by omega,by simp⟩⟩
   .have en:=O (S.u A t);have bc:(B !=8)=true:=by simpa using t
    have HX:=O (HW.u _ a4.u);clear P R S;go_wp2_with fail;refine HX.u.mono ?_;rintro ae bj ⟨rfl,h7⟩;exact⟨rfl,CZ.u.trans h7 (λ_ _ x=>x.elim),by rw[en.u];rfl⟩
def Xk(hB:cP i c b f d h j g)(B:aS i w c b f d h j l k g Z e)(m)(hi:m<c.N.length)(ha:Lk c Z e a c.N[m].a)(D:Lk c Z e a c.N[m].b):
 Calls prog 77 #[pV b,U m] w (rG i w c b f d h j l k g Z e m (qP a c.N[m])):=by
 obtain⟨oa,oc,ar,fz,q0,q1,q2,q3,q4,q5,q6,qp,qo⟩:=B.cell;have hT:=B.ts;have ap:c.T.length+4<(tl c Z).length:=by rw[S9];omega
 obtain⟨ag,nc,s,t,ak,hg,aq,aj,⟨x0,x1,x2,x3,x4,x5,x6,x7,x8⟩,-,-⟩:=(hB.fg B.P).at (Below.refl _ _) m hi;have a2:=qp 1 (by omega) (by omega);have aa:=qp 2 (by omega) (by omega);have p3:=qp 3 (by omega) (by omega);simp at a2 aa p3;have ae:=O (lE hT (k:=1) (by omega) (by omega));have ad:=O (lE hT (k:=2) (by omega) (by omega));unfold maxLen at aj;have HS:Hid (∀u,I No w u->_):=λu hu=>Xg hB (B.y hu) m hi ha D;obtain⟨p,a4⟩:∃p:Nat,c.N[m].a=p:=by obtain⟨p,_,_,G,_⟩:=ha;grind
 obtain⟨n,a5⟩:∃p:Nat,c.N[m].b=p:=by obtain⟨p,_,_,G,_⟩:=D;grind
 have HN:Hid (∀u,I No w u->∀s t,u.ownsRow 0 3 1 (.slice s 2 t) 2 (C7 [p,(n:Int)])->Calls prog 119 #[pV b,U (m:Int),.slice s 2 t] u (wW c m (iA a (p:Int)&&iA a (n:Int)) u)):=λu hu s t ho=>by
  have:=XO (of:=a) hB (B.y hu) m hi [(p:Int),(n:Int)] (λx hx=>by
   grind) s t ho (by simp);simpa using this
 have z:Hid (qP a c.N[m]=if c.N[m].text=[61,61] then some (dV 2) else if c.N[m].text=[43] then pD a c.N[m] else if iA a (p:Int)&&iA a (n:Int) then some (if c.N[m].text=[60] then dV 2 else dV 1) else none):=by
  show _=_;unfold qP;rw[a4,a5]
 have H0:=O B;rw[a4]at x1;rw[a5]at x2;clear qp qo B hB a4 a5 D ha q1 q2 q3 q4 q5 q6 fz;generalize qP a c.N[m]=A at*;generalize pD a c.N[m]=ac at*;generalize c.N[m]=nd at*;obtain⟨H,va,vb,P,L,o,R,T,S⟩:=nd;subst ak;simp only at*;have A1:=I.alloc No w (aL H (p:Int) (n:Int) P (.slice s L.length t) o R T S);have y:=O A1;have al:=A4 A1 a2;have nb:=yY w (aL H (p:Int) (n:Int) P (.slice s L.length t) o R T S);have n5:(w.alloc (aL H (p:Int) (n:Int) P (.slice s L.length t) o R T S)).cell? (J w.heap.size 5)=some (.string ⟨o.toArray⟩):=cr nb rfl;have NB:=O nb;clear A1 nb al;by_cases F:o=[61,61]
 .have r:Hid (A=some (dV 2)):=by show _=_;rw[z.u,wY F]
  subst F;clear z HN;go_in;go_wp2_with fail;go_ret;exact⟨y.u.mono (λ_ _ x=>x.elim),by rw[r.u];exact⟨H0.u.y y.u,c.T.length+1,rfl,by omega,by simpa using ad.u⟩⟩
 have an:(o==[61,61])=false:=by simpa using F
 by_cases M:o=[43]
 .have r:Hid (A=ac):=by show _=_;rw[z.u,zY F,wY M]
  have af:=O (HS.u _ y.u);subst M;clear z HN HS an;go_in;go_wp2_with fail;refine af.u.mono ?_;rintro G V ⟨q,hm⟩;cases ac with
  |none=>
   have ai:G=gu 9 (cI c.N m):=hm;subst ai;exact⟨rfl,(y.u.mono (λ_ _ x=>x.elim)).trans q (λ_ _ x=>x),by rw[r.u];rfl⟩
  |some av=>
   obtain⟨hC,x,rfl,hx,ht⟩:=hm;have HQ:Hid (rG i w c b f d h (.slice (some (J ag 0)) c.N.length nc) l k g Z e m A (.returned (U (x:Int))) V):=⟨(y.u.mono (λ_ _ x=>x.elim)).trans q (λ_ _ x=>x),by rw[r.u];grind⟩;clear q hC ht r;go_wp2_with fail;go_ret;exact HQ.u
 have au:(o==[43])=false:=by simpa using M
 have H2:Hid (∀ab a7,ab=(w.alloc (aL H (p:Int) (n:Int) P (.slice s L.length t) o R T S)).heap.size->a7=2->Calls prog 119 #[pV b,U (m:Int),.slice (some (J ab 0)) 2 a7] ((w.alloc (aL H (p:Int) (n:Int) P (.slice s L.length t) o R T S)).alloc (.cells (C7 [(p:Int),(n:Int)]).toArray 3)) (wW c m (iA a (p:Int)&&iA a (n:Int)) ((w.alloc (aL H (p:Int) (n:Int) P (.slice s L.length t) o R T S)).alloc (.cells (C7 [(p:Int),(n:Int)]).toArray 3)))):=λab a7 hq hl=>by
  subst hq hl;exact HN.u _ (B6 y.u (I.alloc _ _ _)) _ _ (rM (wQ _) [(p:Int),(n:Int)] (by simp))
 simp only[C7,xZ,List.map_nil]at H2;clear HN;generalize ah:(iA a (p:Int)&&iA a (n:Int))=bb at*;have EB:Hid ((bb=false->A=none)/\(bb=true->A=some (if o=[60] then dV 2 else dV 1))):=by
  constructor
  .intro D;rw[z.u,zY F,zY M,D];rfl
  .intro D;rw[z.u,zY F,zY M,D];rfl
 clear ah z F M;have C2:=O (B6 y.u (I.alloc No _ (.cells #[U (p:Int),U (n:Int)] 3)));cases bb
 .have r:=O (EB.u.1 rfl);clear EB;go_in;go_wp2_with fail;refine(H2.u _ _ (by simp) rfl).mono ?_;rintro G V ⟨q,rfl⟩;exact⟨rfl,(B6 C2.u q).mono (λ_ _ x=>x.elim),by rw[r.u];rfl⟩
 .have r:=O (EB.u.2 rfl);clear EB;by_cases N:o=[60]
  .have e6:Hid (A=some (dV 2)):=by show _=_;rw[r.u,wY N]
   have ao:(o==[60])=true:=by simpa using N
   clear r N;go_in;go_wp2_with fail;refine(H2.u _ _ (by simp) rfl).mono ?_;rintro G V ⟨q,rfl⟩;have v:=O (B6 C2.u q);have a9:=A4 v.u a2;have am:=A4 v.u aa;have W:=J4 (B6 (I.alloc No _ (.cells #[U (p:Int),U (n:Int)] 3)) q) NB.u;have a8:V.cell? (J w.heap.size 5)=some (.string ⟨o.toArray⟩):=cr W rfl;have a6:=blt a9;have a3:=blt a8;simp only at a6 a3;clear q W;go_wp2_with fail;go_ret;exact⟨v.u.mono (λ_ _ x=>x.elim),by rw[e6.u];exact⟨H0.u.y v.u,c.T.length+1,rfl,by omega,by simpa using ad.u⟩⟩
  .have e6:Hid (A=some (dV 1)):=by show _=_;rw[r.u,zY N]
   have ao:(o==[60])=false:=by simpa using N
   clear r N;go_in;go_wp2_with fail;refine(H2.u _ _ (by simp) rfl).mono ?_;rintro G V ⟨q,rfl⟩;have v:=O (B6 C2.u q);have a9:=A4 v.u a2;have am:=A4 v.u aa;have W:=J4 (B6 (I.alloc No _ (.cells #[U (p:Int),U (n:Int)] 3)) q) NB.u;have a8:V.cell? (J w.heap.size 5)=some (.string ⟨o.toArray⟩):=cr W rfl;have a6:=blt a9;have a3:=blt a8;simp only at a6 a3;clear q W;go_wp2_with fail;go_ret;exact⟨v.u.mono (λ_ _ x=>x.elim),by rw[e6.u];exact⟨H0.u.y v.u,c.T.length,rfl,by omega,by simpa using ae.u⟩⟩
def Uv(hB:cP i c b f d h j g)(v:aS i w c b f d h j l k g Z e)(m)(hi:m<c.N.length)(ha:Lk c Z e a c.N[m].a):
 Calls prog 78 #[pV b,U m] w (rG i w c b f d h j l k g Z e m (qL a c.N[m])):=by
 obtain⟨oa,oc,ao,fz,q0,q1,q2,q3,q4,q5,q6,T,qo⟩:=v.cell;have hT:=v.ts;have am:c.T.length+4<(tl c Z).length:=by rw[S9];omega
 obtain⟨al,nc,o,q,ae,hg,an,ad,⟨x0,x1,x2,x3,x4,x5,x6,x7,x8⟩,-,-⟩:=(hB.fg v.P).at (Below.refl _ _) m hi;have a4:=T 1 (by omega) (by omega);have a7:=T 2 (by omega) (by omega);have p3:=T 3 (by omega) (by omega);simp at a4 a7 p3;have a9:=O (lE hT (k:=1) (by omega) (by omega));have aa:=O (lE hT (k:=2) (by omega) (by omega));have ab:=O (lE hT (k:=3) (by omega) (by omega));unfold maxLen at ad;obtain⟨p,a2⟩:∃p:Nat,c.N[m].a=p:=by obtain⟨p,_,_,a6,_⟩:=ha;grind
 have S:Hid (∀u,I No w u->∀o q,u.ownsRow 0 3 1 (.slice o 1 q) 1 (C7 [p])->Calls prog 119 #[pV b,U m,.slice o 1 q] u (wW c m (iA a p) u)):=λu hu o q ho=>by
  have:=XO (of:=a) hB (v.y hu) m hi [(p:Int)] (λx hx=>by
   grind) o q ho (by simp);simpa using this
 have r:Hid (qL a c.N[m]=if c.N[m].text=[33] then some (dV 2) else if c.N[m].text=[116,121,112,101,111,102] then some (dV 3) else if iA a (p:Int) then some (dV 1) else none):=by
  show _=_;unfold qL;rw[a2]
 have W:=O v;rw[a2]at x1;clear T qo v hB a2 ha q1 q2 q3 q4 q5 q6 fz;generalize qL a c.N[m]=R at*;generalize c.N[m]=nd at*;obtain⟨y,va,B,D,z,n,F,H,G⟩:=nd;subst ae;simp only at*;have V:=I.alloc No w (aL y (p:Int) B D (.slice o z.length q) n F H G);have t:=O V;have ag:=A4 V a4;have nb:=yY w (aL y (p:Int) B D (.slice o z.length q) n F H G);have n5:(w.alloc (aL y (p:Int) B D (.slice o z.length q) n F H G)).cell? (J w.heap.size 5)=some (.string ⟨n.toArray⟩):=cr nb rfl;have NB:=O nb;clear V nb ag;by_cases s:n=[33]
 .have L:Hid (R=some (dV 2)):=by show _=_;rw[r.u,wY s]
  subst s;clear r S;go_in;go_wp2_with fail;go_ret;exact⟨t.u.mono (λ_ _ x=>x.elim),by rw[L.u];exact⟨W.u.y t.u,c.T.length+1,rfl,by omega,by simpa using aa.u⟩⟩
 have ak:(n==[33])=false:=by simpa using s
 by_cases A:n=[116,121,112,101,111,102]
 .have L:Hid (R=some (dV 3)):=by show _=_;rw[r.u,zY s,wY A]
  subst A;clear r S ak;go_in;go_wp2_with fail;go_ret;exact⟨t.u.mono (λ_ _ x=>x.elim),by rw[L.u];exact⟨W.u.y t.u,c.T.length+2,rfl,by omega,by simpa using ab.u⟩⟩
 have aq:(n==[116,121,112,101,111,102])=false:=by simpa using A
 have H1:Hid (∀a5 a3,a5=(w.alloc (aL y (p:Int) B D (.slice o z.length q) n F H G)).heap.size->a3=1->Calls prog 119 #[pV b,U (m:Int),.slice (some (J a5 0)) 1 a3] ((w.alloc (aL y (p:Int) B D (.slice o z.length q) n F H G)).alloc (.cells (C7 [(p:Int)]).toArray 3)) (wW c m (iA a (p:Int)) ((w.alloc (aL y (p:Int) B D (.slice o z.length q) n F H G)).alloc (.cells (C7 [(p:Int)]).toArray 3)))):=λa5 a3 hq hl=>by
  subst hq hl;exact S.u _ (B6 t.u (I.alloc _ _ _)) _ _ (rM (wQ _) [(p:Int)] (by simp))
 simp only[C7,xZ,List.map_nil]at H1;clear S;generalize ac:(iA a (p:Int))=bb at*;have P:Hid ((bb=false->R=none)/\(bb=true->R=some (dV 1))):=by
  constructor
  .intro hb;rw[r.u,zY s,zY A,hb];rfl
  .intro hb;rw[r.u,zY s,zY A,hb];rfl
 clear ac r s A;have C2:=O (B6 t.u (I.alloc No _ (.cells #[U (p:Int)] 3)));cases bb
 .have L:=O (P.u.1 rfl);clear P;go_in;go_wp2_with fail;refine(H1.u _ _ (by simp) rfl).mono ?_;rintro a6 a8 ⟨M,rfl⟩;exact⟨rfl,(B6 C2.u M).mono (λ_ _ x=>x.elim),by rw[L.u];rfl⟩
 .have e6:=O (P.u.2 rfl);clear P;go_in;go_wp2_with fail;refine(H1.u _ _ (by simp) rfl).mono ?_;rintro a6 a8 ⟨M,rfl⟩;have N:=O (B6 C2.u M);have aj:=A4 N.u a4;have ap:=A4 N.u a7;have b5:=J4 (B6 (I.alloc No _ (.cells #[U (p:Int)] 3)) M) NB.u;have ai:a8.cell? (J w.heap.size 5)=some (.string ⟨n.toArray⟩):=cr b5 rfl;have ah:=blt aj;have af:=blt ai;simp only at ah af;clear M b5;go_wp2_with fail;go_ret;exact⟨N.u.mono (λ_ _ x=>x.elim),by rw[e6.u];exact⟨W.u.y N.u,c.T.length,rfl,by omega,by simpa using a9.u⟩⟩
end
def QP{T}{i}(a:aU T)(b):sz (tr T i)=1+cG (T[i].M.map λx=>tr T x.toNat)+cG (T[i].ej.map λp=>tr T p.2.toNat)+(if T[i].x=8\/T[i].x=9 then sz (tr T T[i].ew.toNat) else 0):=by
 grind[U0,sz,uR,cG]
theorem TP{a:Type}(f)(l:List a){j}(b):cG ((l.take (j+1)).map f)=cG ((l.take j).map f)+sz (f l[j]):=by
 grind[nQ,iY,uR,List.map_singleton,cG]
def QZ{a:Type}(f)(l:List a)(j):cG ((l.take j).map f)<=cG (l.map f):=by
 have:=congrArg (λl=>cG (l.map f)) (List.take_append_drop j l);grind[iY,uR]
def Jb{lb mb ac}{T}{aa}:∀(i) (w),i<T.length->dH w lb mb ac T aa->sz (tr T i)<=1000000->
 Calls prog 47 #[pV lb,U i] w λe w'=>e=.returned (U (sz (tr T i)))/\I No w w':=by
 intro i;induction i using Nat.strongRecOn with
 |ind i ih=>
  intro w s h b6;have D:=h.ok;have b2:=h.fq;obtain⟨ad,ar,au,av,b5,fz,a6⟩:=h.cell;obtain⟨aw,A,B,G,u,rfl,hg,az,ah,x0,x1,x2,x3,a8,a9⟩:=a6 i s;have HL:=O (D i s).kj;have HF:=O (D i s).l9;have HO:=O (λn=>(D i s).of n);have P:=O h;have HE:=O (QP D s);have af:=QP D s;have ay:cG (T[i].M.map λx=>tr T x.toNat)<=1000000:=by omega
  have ax:cG (T[i].ej.map λp=>tr T p.2.toNat)<=1000000:=by omega
  have ae:(T[i].x=8\/T[i].x=9)->sz (tr T T[i].ew.toNat)<=1000000:=λt=>by grind
  clear a6 h af;unfold maxLen at ah;generalize sz (tr T i)=aq at*;generalize T[i].x=k at*;generalize T[i].ew=o at*;generalize b4:T[i].M=b at*;generalize b3:T[i].ej=a at*;have an:Hid (∀j (F:j<b.length),∃c,G=some (J c 0)/\c<w.heap.size/\b.length<=u/\u<=maxLen/\w.cell? (J c j)=some (U b[j])):=by
   intro j F;obtain⟨c,h1,_,h2,h3,h4,h5⟩:=D4 a9 (by omega);exact⟨c,h1,h2,h3,h4,h5 j _ (by grind[C7])⟩
  have ao:=O (λ(j:Nat) (F:j<a.length)=>U8 a8 F);clear a9 a8;go_in;go_wp2;go_loopw [21,5] (λv a4 wr=>∃j:Nat,j<=b.length/\v=U (j:Int)/\a4=U ((1+cG ((b.take j).map λx=>tr T x.toNat):Nat):Int)/\Hid (I No (w.alloc (.cells #[U k,.slice A a.length B,.slice G b.length u,U o] 81)) wr)) (λv _ _=>b.length-(intOf v).toNat);case atStart=>exact⟨0,wQ _,rfl,by rfl,I.refl _ _⟩
  case round=>
   obtain⟨j,F,rfl,rfl,R⟩:=hrel;have M:=O ((I.alloc No w (.cells #[U k,.slice A a.length B,.slice G b.length u,U o] 81)).trans R.u (λ_ _ x=>x));by_cases m:j<b.length
   .obtain⟨c,rfl,r,aj,a2,H⟩:=an.u j m;have L:wr.cell? (J c j)=some (U b[j]):=by rw[World.cell?_of_block (M.u.block c r (λx=>x))];exact H
    have ai:=yQ r M.u.size;have n:=HL.u b[j] (mQ m);obtain⟨z,q⟩:∃z:Nat,b[j]=(z:Int):=⟨b[j].toNat,by omega⟩;have y:Hid (cG ((b.take (j+1)).map λx=>tr T x.toNat)=cG ((b.take j).map λx=>tr T x.toNat)+sz (tr T z)):=by
     show _=_;rw[TP _ b m,q];simp
    have a3:=QZ (λx:Int=>tr T x.toNat) b (j+1);rw[y.u]at a3;rw[q]at L n;have g:=ih z (by omega) wr (by omega) (P.u.y M.u) (by omega);unfold maxLen at a2;clear H q n;generalize cG ((b.take j).map λx=>tr T x.toNat)=t1 at*;generalize sz (tr T z)=t2 at*;go_wp2_with fail;refine g.mono ?_;clear g;rintro e a5 ⟨rfl,f⟩;go_wp2;go_roundw;case rel=>exact⟨j+1,by omega,by go_num,by rw[y.u];go_num,R.u.trans f (λ_ _ x=>x)⟩
    grind[intOf]
   .have Z:j=b.length:=by omega
    subst Z;rw[jZ]at*;have d:wr.heap[w.heap.size]?=some (.cells #[U k,.slice A a.length B,.slice G b.length u,U o] 81 (0,0)):=by
     rw[R.u.block w.heap.size (by simp) (λx=>x)];exact yY w _
    have b0:wr.cell? (J w.heap.size 0)=some (U k):=cr d rfl;have b1:wr.cell? (J w.heap.size 1)=some (.slice A a.length B):=cr d rfl;have ab:=O d;have ag:=(aI d);clear d;generalize al:cG (b.map λx=>tr T x.toNat)=s1 at*;clear al;go_wp2;go_loopw [34,5] (λv a4 ap=>∃j:Nat,j<=a.length/\v=U (j:Int)/\a4=U ((1+s1+cG ((a.take j).map λp=>tr T p.2.toNat):Nat):Int)/\Hid (I No wr ap)) (λv _ _=>a.length-(intOf v).toNat);case atStart=>exact⟨0,wQ _,rfl,by rfl,I.refl _ _⟩
    case round=>
     obtain⟨j,F,rfl,rfl,S⟩:=hrel;have l:=O (M.u.trans S.u (λ_ _ x=>x));by_cases m:j<a.length
     .obtain⟨c,rfl,r,aj,a2,H,L⟩:=ao.u j m;replace H:wr.cell? (J c (j*2))=some (.string ⟨a[j].1.toArray⟩):=by rw[World.cell?_of_block (l.u.block c r (λx=>x))];exact H
      replace L:wr.cell? (J c (j*2+1))=some (U a[j].2):=by rw[World.cell?_of_block (l.u.block c r (λx=>x))];exact L
      have ai:=yQ r l.u.size;have n:=HF.u a[j] (mQ m);obtain⟨z,q⟩:∃z:Nat,a[j].2=(z:Int):=⟨a[j].2.toNat,by omega⟩;have y:Hid (cG ((a.take (j+1)).map λp=>tr T p.2.toNat)=cG ((a.take j).map λp=>tr T p.2.toNat)+sz (tr T z)):=by
       show _=_;rw[TP _ a m,q];simp
      have a3:=QZ (λp:Y×Int=>tr T p.2.toNat) a (j+1);rw[y.u]at a3;rw[q]at L n;have W:I No wr (wr.alloc (.cells #[.string ⟨a[j].1.toArray⟩,U (z:Int)] 137)):=I.alloc _ _ _;have g:=ih z (by omega) _ (by omega) (P.u.y (l.u.trans W (λ_ _ x=>x))) (by omega);have KF:=O (S.u.trans W (λ_ _ x=>x));unfold maxLen at a2;clear q n W;generalize ak:(⟨a[j].1.toArray⟩:ByteArray)=nm at*;clear ak;generalize cG ((a.take j).map λp=>tr T p.2.toNat)=t1 at*;generalize sz (tr T z)=t2 at*;go_wp2_with fail;refine g.mono ?_;clear g;rintro e a5 ⟨rfl,f⟩;go_wp2;go_roundw;case rel=>exact⟨j+1,by omega,by go_num,by rw[y.u];go_num,KF.u.trans f (λ_ _ x=>x)⟩
      grind[intOf]
     .have Z:j=a.length:=by omega
      subst Z;rw[jZ]at*;have d:wr.heap[w.heap.size]?=some (.cells #[U k,.slice A a.length B,.slice G b.length u,U o] 81 (0,0)):=by
       rw[S.u.block w.heap.size ag (λx=>x)];exact ab.u
      have d0:wr.cell? (J w.heap.size 0)=some (U k):=cr d rfl;have d3:wr.cell? (J w.heap.size 3)=some (U o):=cr d rfl;clear d;generalize am:cG (a.map λp=>tr T p.2.toNat)=s2 at*;clear am;by_cases t:k=8\/k=9
      .have ho:=HO.u t;have a7:=ae t;obtain⟨z,rfl⟩:∃z:Nat,o=(z:Int):=⟨o.toNat,by omega⟩;have V:=HE.u;rw[wY t,tQ]at V;rw[tQ]at a7;have g:=O (ih z (by omega) wr (by omega) (P.u.y l.u) a7);generalize sz (tr T z)=t3 at*;obtain rfl|rfl:=t
       .go_wp2_with fail;refine g.u.mono ?_;rintro e a5 ⟨rfl,f⟩;have N:=O (l.u.trans f (λ_ _ x=>x));clear f;go_wp2;go_ret;exact⟨J5 (by omega),N.u⟩
       .go_wp2_with fail;refine g.u.mono ?_;rintro e a5 ⟨rfl,f⟩;have N:=O (l.u.trans f (λ_ _ x=>x));clear f;go_wp2;go_ret;exact⟨J5 (by omega),N.u⟩
      .have V:=HE.u;rw[zY t]at V;have k8:(k==8)=false:=by simp;omega
       have k9:(k==9)=false:=by simp;omega
       go_wp2;go_ret;exact⟨J5 (by omega),l.u⟩
