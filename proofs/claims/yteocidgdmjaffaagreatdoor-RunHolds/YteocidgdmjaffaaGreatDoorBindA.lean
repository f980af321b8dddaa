/-
  A part of the proof.
-/
import Derived.Test.YteocidgdmjaffaaGreatDoorNodeA
import Derived.Test.YteocidgdmjaffaaGreatDoorFitA
import Derived.Deep.DeepCutAuto
import Derived.Test.YteocidgdmjaffaaGreatDoorPlainD
import Derived.Laws.AppendOwnNone
set_option maxHeartbeats 0
set_option linter.all false
set_option maxRecDepth 100000
namespace Go.Proofs.YteocidgdmjaffaaGreatDoor
open Go.Proofs.Tryz
open Go.RowKit Go.Maps
def wJ:Keyed prog 9:=string_keyed underlying9
def xT(l:Y)(h:l.length<=1000000):keyOf prog 9 (.string ⟨l.toArray⟩)=some (.string l):=by
 have a:(⟨l.toArray⟩:ByteArray).size<=maxLen:=by simp[ByteArray.size];unfold maxLen;omega
 unfold keyOf;simp_all[mapKey]
def Ih(w:E):(zeroValue 3).run prog w=.ok (.int .i64 0) w:=by kernel_rfl
structure gW(w:E)(q m:Nat)(f:Fr):Prop where
 own:∃n D,w.ownsMap prog 9 (plainElem (H:=Unit) prog 3) q n D/\n<=m/\IsMap D/\∀(s:Y) (d:DataW Unit),D.atKey (.string s) d=match f s with
  |some j=>.lit (.int .i64 j)
  |none=>d
def gW.new(w:E):gW (w.alloc (.map #[] 0)) w.heap.size 0 Fr.no:=⟨0,.map [],World.ownsMap_made w _ _ _,vQ _,isMap_empty,λ_ _=>rfl⟩
def gW.more{w}{q m a}{f}(h:gW w q m f)(d:m<=a):gW w q a f:=by
 obtain⟨n,D,b,c,r⟩:=h.own;exact⟨n,D,b,by omega,r⟩
theorem gW.lt{w}{q m}{f}(h:gW w q m f):q<w.heap.size:=by
 obtain⟨n,D,⟨b,a,c,_⟩,_⟩:=h.own;grind
theorem gW.P{S}{w w'}{q m}{f}(h:gW w q m f)(e:I S w w')(g:¬S q):gW w' q m f:=by
 obtain⟨n,D,⟨b,a,c,d⟩,r⟩:=h.own;exact⟨n,D,⟨b,a,by rw[e.block q (aI c) g];omega,d⟩,r⟩
theorem gW.eu{w}{q m}{f}(h:gW w q m f){cs}{e}{fz}:w.heap[q]?≠some (.cells cs e fz):=by
 obtain⟨n,D,⟨b,a,c,_⟩,_⟩:=h.own;grind
def gW.look{w}{q m}{f}(h:gW w q m f)(s)(l:s.length<=1000000):
 (Instr.lookup 182 (.map (some q)) (.string ⟨s.toArray⟩) true).run prog w=.ok (.tuple #[.int .i64 ((f s).getD 0),.bool (f s).isSome]) w:=by
 obtain⟨n,D,⟨t,p,k,F,_,rfl⟩,_,_,i⟩:=h.own;have a:=i s (.lit (.int .i64 0));have b:=i s (.lit (.int .i64 1));obtain⟨g,_,e⟩|⟨r,y,_,_,g,u,e,_⟩:=fit_look true wJ underlying182 (Ih w) k F (xT s l)
 .rw[e]at a b;cases d:f s with
  |none=>rw[g];rfl
  |some j=>
   rw[d]at a b;simp only[DataW.lit.injEq,Lit.int.injEq,true_and]at a b;omega
 .rw[e]at a b;cases d:f s with
  |none=>
   rw[d]at a b;simp only at a b;rw[a]at b;simp at b
  |some j=>
   rw[d]at a;simp only at a;have:=plainElem_int_inv underlying3 (by omega);obtain⟨c,o,rfl,_⟩:=this;simp only[DataW.lit.injEq,Lit.int.injEq,true_and]at a;rw[g,o,a];rfl
theorem gW.put{w}{q m}{f}(h:gW w q m f)(s)(j)(l:s.length<=1000000)(v:m<=1000000)(t:0<=j/\j<=1000000):
 ∃a,(Instr.mapUpdate 182 (.map (some q)) (.string ⟨s.toArray⟩) (.int .i64 j)).run prog w=.ok () a/\gW a q (m+1) (f.set s j)/\I (λk=>k=q) w a:=by
 obtain⟨n,D,e,y,b,r⟩:=h.own;have p:(Lit.int .i64 j).wf=true:=by
  simp[Lit.wf,IntKind.min,IntKind.max,IntKind.bits,IntKind.signed];omega
 obtain⟨a,i,g,c⟩:=e.update wJ underlying182 (by grind[maxLen]) (xT s l) (plainElem_int underlying3 p);refine⟨a,i,⟨n+1,_,g,by omega,b.put _ _,λu d=>?_⟩,(I.grown c).mono (λk _ x=>by grind)⟩;by_cases o:u=s
 .subst o;rw[atKey_put_same b (show WideAt.IsKeyLit (.string u) from trivial)];simp[Fr.set]
 grind[atKey_put_other,Fr.set]
structure gG(w:E)(B bb:Nat)(nv av tv:Value)(ms:List Nat)(m:Nat)(fs:List Fr)(ts:bZ):Prop where
 low:B<=bb
 eo:w.heap[bb]?=some (.cells #[nv,av,tv] 97 (0,0))
 ar:w.ownsRow B 182 1 av fs.length (ms.map λq=>.map (some q))
 jh:w.ownsRow B 3 1 tv ts.length (C7 ts)
 len:ms.length=fs.length
 nd:ms.Nodup
 ge:∀q∈ms,B<=q
 fr:∀i (h:i<ms.length) (h':i<fs.length),gW w ms[i] m fs[i]
section
variable{w w':E}{B bb m:Nat}{d c tv:Value}{a:List Nat}{b:List Fr}{e:bZ}
theorem gG.P{S}(h:gG w B bb d c tv a m b e)(f:I S w w')(l:¬S bb)(n:∀g,c.ownBlock=some g->¬S g)(o:∀g,tv.ownBlock=some g->¬S g)(p:∀q∈a,¬S q):gG w' B bb d c tv a m b e:=
 ⟨h.low,by rw[f.block bb (aI h.eo) l];exact h.eo,A3 h.ar f n,A3 h.jh f o,h.len,h.nd,h.ge,λi j k=>(h.fr i j k).P f (p _ (mQ j))⟩
theorem gG.y(h:gG w B bb d c tv a m b e)(f:I No w w'):gG w' B bb d c tv a m b e:=h.P f id (λ_ _=>id) (λ_ _=>id) (λ_ _=>id)
def gG.more{f}(h:gG w B bb d c tv a m b e)(k:m<=f):gG w B bb d c tv a f b e:=⟨h.low,h.eo,h.ar,h.jh,h.len,h.nd,h.ge,λi g j=>(h.fr i g j).more k⟩
theorem gG.cell(h:gG w B bb d c tv a m b e){i}(l):∃g f,c=.slice (some (J g 0)) a.length f/\g<w.heap.size/\a.length<=f/\f<=maxLen/\w.cell? (J g i)=some (.map (some a[i])):=by
 have j:=h.ar;rw[<-h.len]at j;obtain⟨k,f,rfl⟩:=B8 j;grind[D4]
theorem gG.put(h:gG w B bb d c tv a m b e)(f)(x)(j)(V:x.length<=1000000)(P:m<=1000000)(M:0<=j/\j<=1000000):
 ∃w',(Instr.mapUpdate 182 (.map (some (a.getLast f))) (.string ⟨x.toArray⟩) (U j)).run prog w=.ok () w'/\gG w' B bb d c tv a (m+1) (G8 b x j) e/\I (λk=>k=a.getLast f) w w':=by
 have s:=h.len;have a3:=List.length_pos_iff.2 f;have a2:b≠[]:=by
  rintro rfl;simp at s;exact f s
 have N:a.getLast f=a[a.length-1]:=by rw[List.getLast_eq_getElem]
 have Z:iT b=b[a.length-1]'(by omega):=by
  unfold iT;have D:b.length-1=a.length-1:=by omega
  rw[List.getLastD_eq_getLast?,List.getLast?_eq_getElem?,D,gQ (by omega)];rfl
 have p:=h.fr (a.length-1) (by omega) (by omega);obtain⟨w',S,hF,l⟩:=p.put x j V P M;refine⟨w',by rw[N];exact S,?_,by grind⟩;have W:bb≠a[a.length-1]:=λo=>by
  have:=p.eu (cs:=#[d,c,tv]) (e:=97) (fz:=(0,0));rw[<-o]at this;exact this h.eo
 have t:∀{v:Value} {n:Nat} {y:List Value} {q:TypeId} {u:Nat},w.ownsRow B q u v n y->∀g,v.ownBlock=some g->g≠a[a.length-1]:=by
  intro v n y q u R g G F;obtain⟨_,A,H⟩:=A9 R g G;have:=p.eu (cs:=A) (e:=q) (fz:=(0,0));rw[<-F]at this;exact this H
 have T:(G8 b x j).length=b.length:=by
  unfold G8;rw[qQ,List.length_dropLast];simp;omega
 refine⟨h.low,by rw[l.block bb (aI h.eo) W];exact h.eo,by rw[T];exact A3 h.ar l (t h.ar),A3 h.jh l (t h.jh),by omega,h.nd,h.ge,λi r z=>?_⟩;by_cases L:i=a.length-1
 .subst L;grind[G8,set]
 .have o:(G8 b x j)[i]'z=b[i]'(by omega):=by
   refine vZ ?_;rw[<-gQ,Fy b x j i (by omega),gQ]
  rw[o];refine((h.fr i r (by omega)).P l ?_).more (by omega);exact(List.pairwise_iff_getElem.1 h.nd) i (a.length-1) r (by omega) (by omega)
def Ue(h:gG w B bb d c tv a m b e)(f)(s:a.length<=1000000):Calls prog 146 #[pV bb] w λj w'=>j=.returned (.map (some (a.getLast f)))/\I No w w':=by
 have r:=List.length_pos_iff.2 f;obtain⟨g,i,rfl,p,o,k,t⟩:=h.cell (i:=a.length-1) (by omega);have l:a.getLast f=a[a.length-1]:=by rw[List.getLast_eq_getElem]
 rw[l];have n:w.cell? (J bb 1)=some (.slice (some (J g 0)) a.length i):=cr h.eo rfl;unfold maxLen at k;generalize a[a.length-1]=q at*;go_in;go_wp2;go_region;all_goals go_wp2
 all_goals go_ret
 all_goals exact⟨rfl,I.drewN No _ 1⟩
end
theorem XJ(x):∀(a) (k) (i),bG x (a.drop k)=some i->bG x a=some i
 |a,0,i,h=>h
 |[],k+1,i,h=>by grind
 |f::r,k+1,i,h=>by
  have:=XJ x r k i h;grind[bG]
def Ry(x)(a:List Fr)(k)(b:k<a.length):bG x (a.drop k)=match bG x (a.drop (k+1)) with
 |some i=>some i
 |none=>a[k] x:=by
 grind[List.drop_eq_getElem_cons,bG]
section
variable{w d:E}{B b m:Nat}{f e h:Value}{c:List Nat}{a:List Fr}{g:bZ}
def Ng(L:gG w B b f e h c m a g)(ac:c.length<=1000000)(p u y A)(r:Option Addr)(t s)(x:Y)(D F l)(hx:x.length<=1000000):
 Calls prog 144 #[pV b,.agg #[U p,U u,U y,U A,.slice r t s,.string ⟨x.toArray⟩,U D,U F,U l]] w λH d=>
  I No w d/\H=match bG x a with
   |some j=>.returned (U j)
   |none=>gu 5 l:=by
 have aa:=L.len;obtain⟨ad,S,rfl⟩:=B8 L.ar;have a7:=yY w (.cells #[U p,U u,U y,U A,.slice r t s,.string ⟨x.toArray⟩,U D,U F,U l] 85);have N:I No w (w.alloc (.cells #[U p,U u,U y,U A,.slice r t s,.string ⟨x.toArray⟩,U D,U F,U l] 85)):=I.alloc No _ _;have V:Hid (∀i,I No (w.alloc (.cells #[U p,U u,U y,U A,.slice r t s,.string ⟨x.toArray⟩,U D,U F,U l] 85)) i->i.cell? (J w.heap.size 5)=some (.string ⟨x.toArray⟩)/\i.cell? (J w.heap.size 8)=some (U l)/\i.cell? (J b 1)=some (.slice ad a.length S)/\w.heap.size<i.heap.size/\b<i.heap.size):=λi n=>by
  refine⟨A4 n ?_,A4 n ?_,?_,?_,?_⟩
  .simp
  .simp
  .have:=((L.y N).y n).eo;rw[cell_of_row i b 1 _ _ _ this];rfl
  .have:=n.size;grind
  .exact(Array.getElem?_eq_some_iff.1 ((L.y N).y n).eo).1
 have FM:Hid (∀i,I No (w.alloc (.cells #[U p,U u,U y,U A,.slice r t s,.string ⟨x.toArray⟩,U D,U F,U l] 85)) i->∀k (T:k<a.length),∃o q,ad=some (J o 0)/\o<i.heap.size/\a.length<=S/\S<=maxLen/\i.cell? (J o k)=some (.map (some q))/\
  (Instr.lookup 182 (.map (some q)) (.string ⟨x.toArray⟩) true).run prog i.drew=.ok (.tuple #[U ((a[k] x).getD 0),.bool (a[k] x).isSome]) i.drew):=λi n k T=>by
  have hb:=(L.y N).y n;obtain⟨o,c',H,h1,h2,h3,h4⟩:=hb.cell (i:=k) (by omega);simp at H;obtain⟨rfl,_,rfl⟩:=H;have P:=((hb.y (I.drewN No i 1)).fr k (by omega) T).look x hx;exact⟨o,_,rfl,h1,by omega,h3,h4,P⟩
 have HG:=O (Y0);have W:=O N;have a9:a.length<=1000000:=by omega
 generalize hR:bG x a=a2;have HR:=O hR;generalize (⟨x.toArray⟩:ByteArray)=xs at*;go_in;have b0:=(V.u _ (I.refl _ _)).2.2.1;go_wp2;go_loopw [5] (λv wr=>∃k z,k<=a.length/\v=U z/\z=k-1/\Hid (bG x (a.drop k)=none)/\Hid (I No (w.alloc (.cells #[U p,U u,U y,U A,.slice r t s,.string xs,U D,U F,U l] 85)) wr)) (λv _=>(intOf v+1).toNat);case atStart=>exact⟨a.length,a.length-1,vQ _,by go_num,rfl,by grind[Hid,bG],I.refl _ _⟩
 case round=>
  obtain⟨k,z,T,rfl,hz,Z,G⟩:=hrel;obtain⟨a6,f8,fb,l1,l2⟩:=V.u _ G.u;cases k with
  |zero=>
   have ab:bG x a=none:=by simpa using Z.u
   obtain rfl:a2=none:=by rw[<-HR.u];omega
   go_wp2_with fail;refine(HG.u _ _ _).mono ?_;rintro H ae ⟨rfl,hc⟩;exact⟨rfl,B6 (B6 W.u G.u) hc,rfl⟩
  |succ k=>
   have a5:z=k:=by omega
   clear hz;subst a5;have a3:k<a.length:=by omega
   obtain⟨o,q,rfl,hg,a8,a4,x0,R⟩:=FM.u _ G.u k a3;unfold maxLen at a4;have M:=Ry x a k a3;rw[Z.u]at M;simp only at M;cases P:a[k] x with
   |none=>
    rw[P]at R M;simp at R;have HN:=O M;go_wp2;go_region;all_goals go_wp2
    all_goals go_roundw
    case rel=>exact⟨k,k-1,by omega,by go_num,rfl,HN.u,B6 G.u (I.drewN No _ 1)⟩
    simp_all[measure,intOf]
   |some j=>
    rw[P]at R M;simp at R;obtain rfl:a2=some j:=by rw[<-HR.u];grind[XJ]
    go_wp2;go_region;all_goals go_wp2
    all_goals go_ret
    all_goals exact⟨B6 (B6 W.u G.u) (I.drewN No _ 1),rfl⟩
end
def cH(B a:Nat)(f:Value)(w g:E):Prop:=I (λk=>B<=k/\(k=a\/f.ownBlock=some k\/(∃c e,w.heap[k]?=some (.cells c 182 e))\/∃d b,w.heap[k]?=some (.map d b))) w g
theorem cH.refl(B a)(b)(w):cH B a b w w:=I.refl _ _
theorem cH.y{B bb}{tv}{w a}(h:I No w a):cH B bb tv w a:=h.mono λ_ _ x=>x.elim
theorem cH.trans{B d}{e}{a b c}(h:cH B d e a b)(k:cH B d e b c):cH B d e a c:=by
 refine⟨k.os.trans h.os,k.tape.trans h.tape,k.output.trans h.output,kQ h.size k.size,λi f g=>?_⟩;have j:=h.block i f g;refine(k.block i (yQ f h.size) (λx=>g ⟨x.1,?_⟩)).trans j;grind
def cH.below{B b}{d}{w a}(h:cH B b d w a)(c:B<=w.heap.size):Below B w a:=I.ek h (λ_ _ x=>x.1) c
def cH.row{B b}{d}{w e}(i:cH B b d w e){a}{c}{v}{n}{f}(h:w.ownsRow a 3 c v n f)(l:v.ownBlock≠some b)(o:∀g,v.ownBlock=some g->d.ownBlock≠some g):e.ownsRow a 3 c v n f:=by
 refine A3 h i λg j p=>?_;obtain⟨_,k,m⟩:=A9 h g j;grind
structure cM(w0 w:E)(B bb:Nat)(nv tv:Value)(m:Nat)(fs:List Fr)(ts:bZ):Prop where
 hz:w0.heap.size<=B
 le:B<=w.heap.size
 jg:Below w0.heap.size w0 w
 st:∃av ms,gG w B bb nv av tv ms m fs ts
def cI(N:List C)(i:Nat):Int:=(N.getD i iM).at'
def aG(j w:E)(B a:Nat)(g b:Value)(N:List C)(m:Nat)(h:bZ)(r:Br)(e:Ending)(c:E):Prop:=
 cH B a b w c/\match r with
  |.bad d i=>e=gu d (cI N i)
  |.ok f l=>e=rT/\cM j c B a g b m f (cQ h l)
def X7(h:E)(B c:Nat)(e g:Value)(N:List C)(t:K):Prop:=∀(b f) (w) (m) (a) (d),Em N b f t->cM h w B c e g m a d->a≠[]->m+2*nN t<=100000->a.length+nN t<=100000->d.length=N.length->
 Calls prog 100 #[pV c,U (cR b f t)] w (aG h w B c e g N (m+2*nN t) d (cX a b t))
def cM.kept{i w g}{B b}{d f}{m}{c}{e}(h:cM i w B b d f m c e)(a:I No w g):cM i g B b d f m c e:=by
 obtain⟨j,l,k⟩:=h.st;exact⟨h.hz,kQ h.le a.size,h.jg.trans (I.ek a (λ_ _ x=>x.elim) h.jg.size),j,l,k.y a⟩
section
variable{d:E}{B a:Nat}{c b:Value}{N:List C}
def Kf(f)(a3:∀p∈f,1<=p.k/\X7 d B a c b N p)(h t)(w)(m)(k)(u)(he:cY N h t f)(ak:cM d w B a c b m k u)(Z:k≠[])(hm:m+2*aA f<=100000)(hf:k.length+aA f<=100000)(ao:u.length=N.length)
 (q) (r) (ho:w.ownsRow 0 3 1 (.slice q f.length r) f.length (C7 (px h f))) (af:(Value.slice q f.length r).ownBlock≠some a) (ag:∀g,(Value.slice q f.length r).ownBlock=some g->b.ownBlock≠some g):
 Calls prog 62 #[pV a,.slice q f.length r] w (aG d w B a c b N (m+2*aA f) u (bB false k h f)):=by
 have x:=λp hp=>(a3 p hp).1;have y:=oG f h x;have PX:Hid (∀j (L:j<f.length),(px h f)[j]?=some (cR (h+aA (f.take j)) (t+bV (f.take j)) f[j])):=QO f h t x;have NT:Hid (∀j,aA (f.take j)<=aA f):=λj=>by
  grind[uO,List.take_append_drop]
 have NS:Hid (∀j (L:j<f.length),aA (f.take (j+1))=aA (f.take j)+nN f[j]):=λj L=>by
  grind[nQ,uO,aA]
 have a7:Hid (∀j l n,bB false k h (f.take j)=.ok l n->l.length=k.length):=λj l n e=>T9 (f.take j) false k h Z l n e;have RW:Hid (∀G,cH B a b w G->G.ownsRow 0 3 1 (.slice q (px h f).length r) (px h f).length (C7 (px h f))):=λG ha=>by
  rw[y];exact ha.row ho af ag
 have a6:=O a3;have HE:=O he;have ai:f.length<=100000:=by
  have:=RO f x;omega
 generalize am:px h f=s at*;rw[<-y];have F:=O y;clear y ai;generalize a9:bB false k h f=S;have P:=O a9;go_in;go_wp2;go_loopw [8] (λv wr=>∃(j:Nat) (l:List Fr) (n:List (Nat×Int)),j<=s.length/\v=U j/\Hid (bB false k h (f.take j)=.ok l n)/\Hid (cM d wr B a c b (m+2*aA (f.take j)) l (cQ u n))/\Hid (cH B a b w wr)) (λv _=>s.length-(intOf v).toNat);case atStart=>exact⟨0,k,[],wQ _,rfl,by rfl,by grind[Hid,aA,cQ],cH.refl _ _ _ _⟩
 case round=>
  obtain⟨j,l,n,L,rfl,A,R,D⟩:=hrel;by_cases a2:j<s.length
  .have o:j<f.length:=by have:=F.u;omega
   obtain⟨g,e1,hg,al,a8,x1⟩:=D6 (RW.u _ D.u) a2;subst e1;unfold maxLen at a8;have ab:s[j]=cR (h+aA (f.take j)) (t+bV (f.take j)) f[j]:=by
    have:=PX.u j o;rw[gQ a2]at this;simpa using this
   rw[ab]at x1;have ah:=a7.u j l n A.u;have ae:=NS.u j o;have an:=NT.u (j+1);have HC:=O ((a6.u f[j] (mQ o)).2 _ _ wr _ l (cQ u n) (cY.at HE.u j o) R.u (O0 Z ah) (by omega) (by omega) (by grind[uS]));have BT:=O (Zv x k h j o);have BD:Hid (∀e i,bB false k h (f.take (j+1))=.bad e i->S=.bad e i):=λe i H=>by rw[<-P.u];grind[Lc]
   generalize cR (h+aA (f.take j)) (t+bV (f.take j)) f[j]=ix at*;generalize aa:cX l (h+aA (f.take j)) f[j]=br at*;have a4:=O aa;have a5:=O ae;go_wp2_with fail;refine HC.u.mono ?_;rintro e ap ⟨ad,z⟩;have K2:=O (D.u.trans ad);have W:=BT.u;rw[A.u,Br.gp,a4.u]at W;cases br with
   |bad T i=>
    obtain rfl:e=gu T (cI N i):=z;obtain rfl:=BD.u T i W;exact⟨rfl,K2.u,rfl⟩
   |ok aj l2=>
    obtain⟨rfl,V⟩:=z;rw[<-Xz,Nat.add_assoc,<-Nat.mul_add,<-a5.u]at V;have M:=O V;go_wp2;grind[intOf]
  .have ac:j=s.length:=by omega
   subst ac;have z:S=.ok l n:=by
    rw[<-P.u,<-A.u,F.u,jZ]
   have H:=R.u;rw[F.u,jZ]at H;have M:=O H;subst z;go_wp2;go_end0;exact⟨D.u,rfl,M.u⟩
end
def MY(w:E)(b)(h)(f)(m:w.ownsRow 0 3 1 (.slice h b.length f) b.length (C7 b))(hn:b.length<=100000):
 Calls prog 71 #[.slice h b.length f] w λe q=>∃i l,e=.returned (.slice i b.length l)/\I No w q/\q.ownsRow w.heap.size 3 1 (.slice i b.length l) b.length (C7 b):=by
 obtain⟨W,M,S,T,V⟩:=info_parts Tryz.fm;have a8:=λw a n c Z B=>Lib.run_eql_slice_nil w _ _ a n c Z B underlying54;obtain⟨d,F⟩|⟨g,a3,a4,d,hb,H,a6,hm,a5,a7⟩:=m.2
 .have:=List.length_eq_zero_iff.1 F;subst this;simp at d;obtain⟨rfl,-,rfl⟩:=d;go_in;go_wp2;go_ret;exact⟨none,0,rfl,I.refl _ _,rfl,.inl ⟨rfl,rfl⟩⟩
 .simp at d;obtain⟨rfl,-,rfl⟩:=d;have R:=(aI H);have y:Hid ((w.alloc (.cells #[] 3)).ownsRow w.heap.size 3 1 (.slice (some (J w.heap.size 0)) 0 0) 0 []):=
   ⟨rfl,.inr ⟨w.heap.size,0,#[],rfl,vQ _,yY w _,vQ _,wQ _,rfl,rfl⟩⟩;have t:Hid ((C7 b).length=b.length*1):=by simp[Hid,C7]
  have v:Hid (∀j u,(C7 b)[j]?=some u->(w.alloc (.cells #[] 3)).cell? (((J g 0):Addr).add j)=some u):=by
   intro j u N;have e:=m.cells rfl j u N;have G:((J g 0):Addr).add j=(J g j):=by unfold Addr.add;split<;>simp_all
   rw[G]at e⊢;exact I4 R e
  have r:Hid (∀u∈C7 b,u.oneCell'=true):=by
   intro u p;simp only[C7,qZ]at p;obtain⟨x,-,rfl⟩:=p;rfl
  go_in;go_wp2_with (at_builtin;refine wpList_append_own _ rfl _ _ 54 rfl w.heap.size 3 W (U 0) 1 8 underlying54 M S T V rfl (by decide) _ 0 [] rfl y.u (J g 0) b.length f (C7 b) rfl t.u v.u r.u ?c3 ?c4 ?c5 ?_);case c3=>omega
  case c4=>omega
  case c5=>simp
  intro v' a2 o L _;obtain⟨A,D,rfl⟩:=B8 o;have z:=O o;have s:Hid (I No w a2):=by
   refine((I.alloc (λk=>w.heap.size<=k) w _).trans (I.grown L) (λk P x=>?_)).mono (λk P x=>by omega);have x':some k=some w.heap.size:=x;simp at x';omega
  go_wp2;go_ret;exact⟨A,D,rfl,s.u,by simpa using z.u⟩
def mX(w:E)(a:bZ)(e:Ending)(d:E):Prop:=∃b c,e=.returned (.slice b a.length c)/\I No w d/\d.ownsRow w.heap.size 3 1 (.slice b a.length c) a.length (C7 a)
def rM{w:E}{base}(b:base<=w.heap.size)(a)(d:a.length<=1000):(w.alloc (.cells (C7 a).toArray 3)).ownsRow base 3 1 (.slice (some (J w.heap.size 0)) a.length a.length) a.length (C7 a):=by
 have c:(C7 a).length=a.length:=by simp[C7]
 exact⟨by omega,.inr ⟨w.heap.size,a.length,(C7 a).toArray,rfl,b,yY w _,vQ _,by grind[maxLen],by grind,by grind⟩⟩
section
variable(w:E)(a c d:Int)(b:bZ)(e:Option Addr)(f:Nat)(j:ByteArray)(g i h:Int)
def EH(k)(l:k=1\/k=2\/k=3\/k=4\/k=5\/k=16):Calls prog 40 #[.agg #[U k,U a,U c,U d,.slice e b.length f,.string j,U g,U i,U h]] w (mX w []):=by
 obtain rfl|rfl|rfl|rfl|rfl|rfl:=l<;>
 .go_in;go_wp2;go_ret;exact⟨none,0,rfl,I.alloc No _ _,rfl,.inl ⟨rfl,rfl⟩⟩
def EI(k)(n:k=8\/k=13\/k=14\/k=15\/k=17\/k=18\/k=21\/k=24\/k=25):Calls prog 40 #[.agg #[U k,U a,U c,U d,.slice e b.length f,.string j,U g,U i,U h]] w (mX w [a]):=by
 obtain rfl|rfl|rfl|rfl|rfl|rfl|rfl|rfl|rfl:=n<;>
 .have l:=λm=>O (rM (w:=w.alloc (.cells #[U m,U a,U c,U d,.slice e b.length f,.string j,U g,U i,U h] 85)) (base:=w.heap.size) (by simp) [a] (by simp));go_in;go_wp2;go_ret;exact⟨_,_,rfl,B6 (I.alloc No _ _) (I.alloc No _ _),by simpa[C7]using (l _).u⟩
def vU(k)(o:k=9\/k=12\/k=19\/k=23\/k=22/\d=-1):Calls prog 40 #[.agg #[U k,U a,U c,U d,.slice e b.length f,.string j,U g,U i,U h]] w (mX w [a,c]):=by
 obtain rfl|rfl|rfl|rfl|⟨rfl,rfl⟩:=o<;>
 .have l:=λm n=>O (rM (w:=w.alloc (.cells #[U m,U a,U c,U n,.slice e b.length f,.string j,U g,U i,U h] 85)) (base:=w.heap.size) (by simp) [a,c] (by simp));go_in;go_wp2;go_ret;exact⟨_,_,rfl,B6 (I.alloc No _ _) (I.alloc No _ _),by simpa[C7]using (l _ _).u⟩
def BM(l)(m:l=20\/l=22/\d≠-1):Calls prog 40 #[.agg #[U l,U a,U c,U d,.slice e b.length f,.string j,U g,U i,U h]] w (mX w [a,c,d]):=by
 obtain rfl|⟨rfl,hc⟩:=m
 .have k:=O (rM (w:=w.alloc (.cells #[U 20,U a,U c,U d,.slice e b.length f,.string j,U g,U i,U h] 85)) (base:=w.heap.size) (by simp) [a,c,d] (by simp));go_in;go_wp2;go_ret;exact⟨_,_,rfl,B6 (I.alloc No _ _) (I.alloc No _ _),by simpa[C7]using k.u⟩
 .have k:=O (rM (w:=w.alloc (.cells #[U 22,U a,U c,U d,.slice e b.length f,.string j,U g,U i,U h] 85)) (base:=w.heap.size) (by simp) [a,c,d] (by simp));go_in;go_wp2;go_ret;exact⟨_,_,rfl,B6 (I.alloc No _ _) (I.alloc No _ _),by simpa[C7]using k.u⟩
def EJ(k)(s:k=10\/k=11\/k=26)(u:w.ownsRow 0 3 1 (.slice e b.length f) b.length (C7 b))(t:b.length<=100000):Calls prog 40 #[.agg #[U k,U a,U c,U d,.slice e b.length f,.string j,U g,U i,U h]] w (mX w b):=by
 obtain rfl|rfl|rfl:=s<;>
 .have m:=λo=>O (MY (w.alloc (.cells #[U o,U a,U c,U d,.slice e b.length f,.string j,U g,U i,U h] 85)) b e f (A3 u (I.alloc No _ _) (λ_ _ x=>x)) t);go_in;go_wp2_with fail;refine(m _).u.mono ?_;rintro y z ⟨p,q,rfl,r,v⟩;have n:=O (C8 v (by simp:w.heap.size<=_));have l:=O (B6 (I.alloc No _ _) r);go_wp2;go_ret;exact⟨p,q,rfl,l.u,n.u⟩
end
def Wb(w:E)(o)(a):((w.alloc o).alloc (.cells #[U a] 3)).ownsRow w.heap.size 3 1 (.slice (some (J (w.heap.size+1) 0)) 1 1) 1 [U a]:=by
 have:=rM (w:=w.alloc o) (base:=w.heap.size) (by simp) [a] (by simp);simp_all[C7]
section
variable(w:E)(b e f:Int)(a:bZ)(d:Option Addr)(c:Nat)(j:ByteArray)(g i h:Int)
def OE(s:w.ownsRow 0 3 1 (.slice d a.length c) a.length (C7 a))(hn:a.length<=100000):Calls prog 40 #[.agg #[U 7,U b,U e,U f,.slice d a.length c,.string j,U g,U i,U h]] w (mX w (b::a)):=by
 obtain⟨v,r,T,V,W⟩:=info_parts Tryz.fm;have n:Hid (((w.alloc (.cells #[U 7,U b,U e,U f,.slice d a.length c,.string j,U g,U i,U h] 85)).alloc (.cells #[U b] 3)).ownsRow w.heap.size 3 1 (.slice (some (J (w.heap.size+1) 0)) 1 1) 1 [U b]):=Wb w _ b;have p:=O (B6 (I.alloc No w (.cells #[U 7,U b,U e,U f,.slice d a.length c,.string j,U g,U i,U h] 85)) (I.alloc No _ (.cells #[U b] 3)));obtain⟨m,N⟩|⟨q,a2,a3,m,hb,hg,a5,hm,a4,a6⟩:=s.2
 .have:=List.length_eq_zero_iff.1 N;subst this;simp at m;obtain⟨rfl,-,rfl⟩:=m;go_in;go_wp2_with (at_builtin;refine wpList_append_own_none rfl _ _ 54 rfl w.heap.size 3 v 1 underlying54 r _ _ _ rfl n.u rfl ?_);go_wp2;go_ret;exact⟨_,_,rfl,p.u,n.u⟩
 .simp at m;obtain⟨rfl,-,rfl⟩:=m;have B:Hid ((C7 a).length=a.length*1):=by simp[Hid,C7]
  have D:Hid (∀o u,(C7 a)[o]?=some u->((w.alloc (.cells #[U 7,U b,U e,U f,.slice (some (J q 0)) a.length c,.string j,U g,U i,U h] 85)).alloc (.cells #[U b] 3)).cell? (((J q 0):Addr).add o)=some u):=by
   intro o u R;have L:=s.cells rfl o u R;exact A4 p.u L
  have z:Hid (∀u∈C7 a,u.oneCell'=true):=by
   intro u t;simp only[C7,qZ]at t;obtain⟨x,-,rfl⟩:=t;rfl
  go_in;go_wp2_with (at_builtin;refine wpList_append_own _ rfl _ _ 54 rfl w.heap.size 3 v (U 0) 1 8 underlying54 r T V W rfl (by decide) _ 1 _ rfl n.u (J q 0) a.length c (C7 a) rfl B.u D.u z.u ?c3 ?c4 ?c5 ?_);case c3=>grind[maxLen]
  case c4=>omega
  case c5=>simp;omega
  intro Z y l P _;have M:1+a.length=(b::a).length:=by simp[Nat.add_comm]
  rw[M]at l;replace l:y.ownsRow w.heap.size 3 1 Z (b::a).length (C7 (b::a)):=l;obtain⟨G,H,rfl⟩:=B8 l;have F:=O l;have A:Hid (I No w y):=by
   refine((p.u.mono (λ_ _ x=>x.elim)).trans (I.grown P) (λk S x=>(A9 n.u k x.symm).1)).mono (λk S x=>by omega)
  go_wp2;go_ret;exact⟨G,H,rfl,A.u,F.u⟩
end
def XI{w:E}{q}{x y z}{t}(h:w.heap[q]?=some (.cells #[x,y,z] t (0,0)))(v):(w.setCell (J q 1) v).heap[q]?=some (.cells #[x,v,z] t (0,0)):=by
 rw[heap_setCell_same w q 1 _ _ v h];rfl
def ND{w:E}{e f}{a b}{n o}{c d}{l m}{p q}(h:w.ownsRow e a n c l p)(i:w.ownsRow f b o d m q)(t:a≠b){g}(j:c.ownBlock=some g):d.ownBlock≠some g:=by
 intro k;obtain⟨_,r,u⟩:=A9 h g j;obtain⟨_,s,v⟩:=A9 i g k;grind
theorem M4{w:E}{b}{e a}{s}{v}{n}{x}(f:w.ownsRow b e s v n x){q}{c}{d}(i:w.heap[q]?=some (.cells c a d))(j:e≠a):v.ownBlock≠some q:=by
 intro g;obtain⟨_,h,k⟩:=A9 f q g;grind
section
variable{w w1 w2:E}{B b m:Nat}{h f d e:Value}{c:List Nat}{a:List Fr}{i:bZ}
def gG.push(n:gG w B b h f e c m a i){q}(hq:w.heap.size<=q)(hB:B<=q)(v:I No w w1)(M:gW w1 q 0 Fr.no)(p:I (λk=>some k=f.ownBlock) w1 w2)(ho:w2.ownsRow B 182 1 d (a.length+1) ((c.map λq=>.map (some q))++[.map (some q)])):
 gG (w2.setCell (J b 1) d) B b h d e (c++[q]) m (a++[Fr.no]) i/\cH B b e w (w2.setCell (J b 1) d):=by
 have o:=n.y v;have S:=M4 o.ar o.eo (by decide);have T:∀g,e.ownBlock=some g->¬some g=f.ownBlock:=λg N l=>ND o.jh o.ar (by decide) N l.symm;have D:∀{x:Nat} {m:Nat} {s:Fr},gW w1 x m s->¬some x=f.ownBlock:=λj l=>by
  obtain⟨_,H,P⟩:=A9 o.ar _ l.symm;exact j.eu P
 have z:w2.heap[b]?=some (.cells #[h,f,e] 97 (0,0)):=by
  rw[p.block b (aI o.eo) (λl=>S l.symm)];exact o.eo
 have V:=A3 o.jh p T;have G:=XI z d;have u:I (λk=>k=b) w2 (w2.setCell (J b 1) d):=I.set w2 (J b 1) d;have R:=n.len;have A:∀{x:Nat} {m:Nat} {s:Fr},gW w1 x m s->gW (w2.setCell (J b 1) d) x m s:=λj=>by
  refine(j.P p (D j)).P u ?_;rintro rfl;exact(j.P p (D j)).eu z
 have a2:∀x∈c,x<w.heap.size:=λx j=>by
  obtain⟨r,t,rfl⟩:=List.getElem_of_mem j;exact(n.fr r t (by omega)).lt
 refine⟨⟨n.low,G,?_,A3 V u ?_,?_,?_,?_,?_⟩,?_⟩
 .grind[A3,M4]
 .grind[M4]
 .grind
 .rw[List.nodup_append];refine⟨n.nd,by simp,λy ha F hb=>?_⟩;grind
 .intro x j;obtain j|j:=qW.1 j
  .exact n.ge x j
  grind
 .intro r y F;by_cases t:r<c.length
  .rw[List.getElem_append_left t,List.getElem_append_left (by omega)];exact A ((n.fr r t (by omega)).P v id)
  .have L:r=c.length:=by simp at y;omega
   subst L;rw[List.getElem_append_right (vQ _),List.getElem_append_right (by omega)];simp only[Nat.sub_self,List.getElem_cons_zero,R];exact(A M).more (wQ _)
 .refine I.trans (I.trans (v.mono λ_ _ x=>x.elim) p λk _ l=>?_) u λk _ l=>⟨l ▸ n.low,.inl l⟩;obtain⟨W,H,Z⟩:=A9 n.ar k l.symm;grind
def gG.qn(j:gG w B b h f e c m a i)(H:a≠[]):∃g l,f=.slice (some (J g 0)) a.length l/\a.length<=l/\l<=maxLen/\g<w.heap.size/\gG (w.setCell (J b 1) (.slice (some (J g 0)) (a.length-1) l)) B b h (.slice (some (J g 0)) (a.length-1) l) e c.dropLast m a.dropLast i/\cH B b e w (w.setCell (J b 1) (.slice (some (J g 0)) (a.length-1) l)):=by
 have V:=List.length_pos_iff.2 H;have u:=j.len;obtain⟨_,S⟩|⟨g,p,s,rfl,D,o,L,v,F,z⟩:=j.ar.2
 .omega
 .have A:=XI j.eo (.slice (some (J g 0)) (a.length-1) p);have r:I (λk=>k=b) w (w.setCell (J b 1) (.slice (some (J g 0)) (a.length-1) p)):=I.set w (J b 1) _;have G:a.dropLast.length=a.length-1:=List.length_dropLast;have T:c.dropLast.length=a.length-1:=by rw[List.length_dropLast,u]
  have y:w.ownsRow B 182 1 (.slice (some (J g 0)) (a.length-1) p) (a.length-1) (c.dropLast.map λq=>.map (some q)):=by
   refine⟨by grind,.inr ⟨g,p,s,rfl,D,o,by omega,v,F,?_⟩⟩;rw[Nat.mul_one]at z⊢;have:(s.toList.take a.length).take (a.length-1)=(c.map λq=>Value.map (some q)).take (a.length-1):=by rw[z]
   rw[List.take_take,Nat.min_eq_left (by omega)]at this;rw[this,List.dropLast_eq_take,u,List.map_take]
  refine⟨g,p,rfl,L,v,(aI o),⟨j.low,A,?_,A3 j.jh r ?_,?_,?_,?_,?_⟩,r.mono λk _ n=>⟨n ▸ j.low,.inl n⟩⟩
  .rw[G];exact A3 y r (λg o n=>M4 y j.eo (by decide) (n ▸ o))
  .rintro g o rfl;exact M4 j.jh j.eo (by decide) o
  .omega
  .exact j.nd.sublist (List.dropLast_sublist _)
  .exact λx M=>j.ge x ((List.dropLast_sublist _).subset M)
  .intro N P R;rw[List.getElem_dropLast,List.getElem_dropLast];have t:=j.fr N (by omega) (by omega);refine t.P r ?_;rintro n;exact t.eu (n ▸ j.eo)
end
def Qk:(prog.info? 182).map (λi=>(i.zero,i.size,i.bytes))=some (some (.map none),1,8):=by kernel_rfl
section
variable{f w:E}{B a m:Nat}{d c:Value}{b:List Fr}{e:bZ}{N:List C}
def WH(t:Nat)(cf:∀(P) (W:E),(callFunc t P).run prog W=.ok (.enter t P) W)(h:cM f w B a d c m b e)(ap:b.length<=100000)(D)(r)(hr:∀i l,r=.ok i l->i≠[]/\i.length<=100001)(c1 c2)(HD:∀q,cH B a c w q->cM f q B a d c m (b++[Fr.no]) e->Calls prog t #[c1,c2] q (aG f q B a d c N D e r)):
 Calls prog 148 #[pV a,.func (.func t) #[] #[c1,c2]] w (aG f w B a d c N D e r.pop):=by
 obtain⟨i0,hi,ah,ai,aj⟩:=info_parts Qk;have aw:=@run_makeMap prog;obtain⟨av,ms,k⟩:=h.st;have au:=k.len;have n:=h.le;have A:=(aI k.eo);have b1:w.cell? (J a 1)=some av:=cr k.eo rfl;have V:I No w ((w.alloc (.map #[] 0)).alloc (.cells #[.map (some w.heap.size)] 182)):=B6 (I.alloc No _ _) (I.alloc No _ _);have G:=O (k.y V).ar;have HF:Hid (gW ((w.alloc (.map #[] 0)).alloc (.cells #[.map (some w.heap.size)] 182)) w.heap.size 0 Fr.no):=(gW.new w).P (I.alloc No _ _) id;have p:=O V;have v:=O k;have j:=O h;have HR:=O hr;have a5:=O HD;obtain⟨L,M,rfl⟩:=B8 k.ar;go_in;go_wp2_with (at_builtin;refine wpList_append_own _ rfl _ _ 95 rfl B 182 i0 (.map none) 1 8 underlying95 hi ah ai aj rfl (by decide) _ b.length _ rfl G.u (J (w.heap.size+1) 0) 1 1 [.map (some w.heap.size)] rfl rfl ?c1 ?c2 ?c3 ?c4 ?c5 ?_);case c1=>
  have:=cell_one_new (w.alloc (.map #[] 0)) (.map (some w.heap.size)) 182;simp_all
 case c2=>intro ay hu;simp at hu;obtain rfl:=hu;rfl
 case c3=>grind[maxLen]
 case c4=>omega
 case c5=>simp;omega
 intro v' u a3 Z _;obtain⟨ag,s⟩:=v.u.push (vQ _) n p.u HF.u (I.grown Z) a3;have R:u.heap[a]?=some (.cells #[d,.slice L b.length M,c] 97 (0,0)):=by
  rw[(I.grown Z).block a (yQ A p.u.size) (λx=>M4 G.u (by rw[p.u.block a A id];exact v.u.eo) (by decide) x.symm),p.u.block a A id];exact v.u.eo
 have am:u.cell? (J a 1)=some (.slice L b.length M):=cr R rfl;have z2:=λo=>frozen_of_row u a o _ _ R;obtain⟨a8,a7,rfl⟩:=B8 a3;have a4:Hid (cM f (u.setCell (J a 1) (.slice a8 (b.length+1) a7)) B a d c m (b++[Fr.no]) e):=⟨j.u.hz,kQ n s.size,j.u.jg.trans ((s.below n).mono j.u.hz),_,_,ag⟩;have HC:=O (a5.u _ s a4.u);have K2:=O s;go_wp2;refine HC.u.mono ?_;rintro x F ⟨ae,T⟩;have H:=O (K2.u.trans ae);cases r with
 |bad er ak=>
  obtain rfl:x=gu er (cI N ak):=T;exact⟨rfl,H.u,rfl⟩
 |ok i l=>
  obtain⟨rfl,a9⟩:=T;obtain⟨a2,aq⟩:=HR.u i l rfl;obtain⟨al,ax,z⟩:=a9.st;obtain⟨g,S,rfl,ao,ad,hg,hp,af⟩:=z.qn a2;unfold maxLen at ad;have ar:=List.length_pos_iff.2 a2;have an:F.cell? (J a 1)=some (.slice (some (J g 0)) i.length S):=cr z.eo rfl;have z3:=λo=>frozen_of_row F a o _ _ z.eo;have HP:=O hp;have a6:=O af;go_wp2;go_region;all_goals go_end0
  all_goals
   have y:=H.u.trans a6.u;have ab:cM f (F.setCell (J a 1) (.slice (some (J g 0)) (i.length-1) S)) B a d c D i.dropLast (cQ e l):=⟨j.u.hz,kQ n y.size,j.u.jg.trans ((y.below n).mono j.u.hz),_,_,HP.u⟩;exact⟨y.trans (cH.y (I.drewN No _ 1)),rfl,ab.kept (I.drewN No _ 1)⟩
end
def cY.mf{N}{o}:∀{a} {b c},cY N b c (a++[.ty o])->cY N b c a:=by
 intro a b c ⟨A,B,h,d⟩;refine⟨A,B,?_,d⟩;rw[h];have:∀(a:List K) (b c:Nat),R9 b c (a++[.ty o])=R9 b c a:=by
  intro a;induction a with
  |nil=>intro b c;rfl
  |cons p r e=>grind[R9]
 grind
theorem eG{o}:∀(d) (a) (c) (b),bB a c b (d++[.ty o])=bB a c b d
 |[],a,c,b=>by rfl
 |.ty _::r,a,c,b=>by rw[kZ,bB,bB,eG r]
 |.nd k f n e::r,a,c,b=>by rw[kZ,bB,bB];simp only[eG r]
def DL{p}(h:p.k=-1)(a:Gd p):p=.ty none:=by
 cases p with
 |ty t=>cases t<;>grind[K.k]
 |nd k c n b=>
  simp_all[Gd,K.k,bJ]
def fE(n:C)(a:Option Addr)(b:Nat):Value:=.agg #[U n.x,U n.a,U n.b,U n.c,.slice a n.M.length b,.string ⟨n.text.toArray⟩,U n.n,U n.ty,U n.at']
structure uJ(N:List C)(b tb:Nat)(ps:List K)(nd:C)(qs:List K):Prop where
 k:∀p∈qs,1<=p.k/\p∈ps
 em:cY N b tb qs
 bn:∀fs,bB false fs b ps=bB false fs b qs
 n:aA qs=aA ps
 run:∀(w:E) (la:Option Addr) (lc:Nat),w.ownsRow 0 3 1 (.slice la nd.M.length lc) nd.M.length (C7 nd.M)->nd.M.length<=100000->Calls prog 40 #[fE nd la lc] w (mX w (px b qs))
def Hw{k}{tx}{a4}{B}(hg:Gd (.nd k tx a4 B))(hk:k≠6/\k≠17/\k≠26){a2}{b u}(D:cY a2 b u B)(Z)(a:Z.fl=bP k tx a4 (aZ b u B)):∃qs,uJ a2 b u B Z qs:=by
 rw[Gd]at hg;obtain⟨d,a5⟩:=hg;obtain⟨kd,va,vb,vc,ls,a8,vn,vt,vp⟩:=Z;have V:∀p∈B,Gd p:=λp L=>pX a5 L;unfold bJ at d;by_cases P:k=1\/k=2\/k=3\/k=4\/k=5
 .rw[wY P]at d;have h:=P;have:B=[]:=by simpa using d
  subst this;obtain rfl|rfl|rfl|rfl|rfl:=h<;>
  .simp[C.fl,bP,aZ]at a;obtain⟨rfl,rfl,rfl,rfl,rfl,-⟩:=a;exact⟨[],by simp,D,λ_=>rfl,rfl,λw g i _ _=>EH w _ _ _ [] g i _ _ _ _ _ (by simp)⟩
 rw[zY P]at d;by_cases v:k=6
 .omega
 rw[zY v]at d;by_cases m:k=7
 .rw[wY m]at d;have h:=m;subst h;obtain⟨x,xs,v,m,n⟩:=d;have c:∀p∈B,1<=p.k:=λp L=>by
   have:p.k∈B.map K.k:=qZ.2 ⟨p,L,rfl⟩;rw[v]at this;obtain e|e:=jW.1 this
   .rw[e];exact m.1
   .exact(n _ e).1
  rw[U2 b u B c]at a;simp[C.fl,bP]at a;obtain⟨rfl,F,rfl,rfl,A,-⟩:=a;have l:px b B=va::ls:=by
   have s:=oG B b c;have a6:=congrArg List.length v;simp at a6;revert F A s;cases px b B with
   |nil=>grind
   |cons y ys=>grind
  exact⟨B,λp L=>⟨c p L,L⟩,D,λ_=>rfl,rfl,λw g i N s=>by rw[l];exact OE w va 0 0 ls g i _ _ _ _ N s⟩
 rw[zY m]at d;by_cases n:k=8\/k=13\/k=15\/k=18\/k=21\/k=24\/k=25
 .rw[wY n]at d;have h:=n;obtain⟨x,v,m⟩:=d;obtain⟨p,rfl,n⟩:=k1 v;have c:∀q∈[p],1<=q.k:=by simp[n];exact m.1
  rw[U2 b u _ c]at a;have s:=oG [p] b c;match l:px b [p],s with
  |[y],_=>
   rw[l]at a;obtain rfl|rfl|rfl|rfl|rfl|rfl|rfl:=h<;>
   .simp[C.fl,bP]at a;obtain⟨rfl,rfl,rfl,rfl,rfl,-⟩:=a;exact⟨[p],λq f=>⟨c q f,f⟩,D,λ_=>rfl,rfl,λw g i _ _=>by rw[l];exact EI w _ _ _ [] g i _ _ _ _ _ (by simp)⟩
 rw[zY n]at d;by_cases F:k=9\/k=12\/k=19
 .rw[wY F]at d;have h:=F;obtain⟨x,y,v,m,F⟩:=d;obtain⟨p,q,rfl,n,A⟩:=k2 v;have c:∀G∈[p,q],1<=G.k:=by simp[n,A];exact⟨m.1,F.1⟩
  rw[U2 b u _ c]at a;have s:=oG [p,q] b c;match l:px b [p,q],s with
  |[y,z],_=>
   rw[l]at a;obtain rfl|rfl|rfl:=h<;>
   .simp[C.fl,bP]at a;obtain⟨rfl,rfl,rfl,rfl,rfl,-⟩:=a;exact⟨[p,q],λq f=>⟨c q f,f⟩,D,λ_=>rfl,rfl,λw g i _ _=>by rw[l];exact vU w _ _ _ [] g i _ _ _ _ _ (by simp)⟩
 rw[zY F]at d;by_cases A:k=10
 .rw[wY A]at d;have h:=A;subst h;have c:∀q∈B,1<=q.k:=λp L=>by
   simp_all
  rw[U2 b u _ c]at a;simp[C.fl,bP]at a;obtain⟨rfl,rfl,rfl,rfl,rfl,-⟩:=a;exact⟨B,λq f=>⟨c q f,f⟩,D,λ_=>rfl,rfl,λw g i N s=>EJ w _ _ _ _ g i _ _ _ _ _ (by simp) N s⟩
 rw[zY A]at d;by_cases M:k=11
 .rw[wY M]at d;have h:=M;subst h;have c:=λp L=>(d _ (qZ.2 ⟨p,L,rfl⟩)).1;rw[U2 b u _ c]at a;simp[C.fl,bP]at a;obtain⟨rfl,rfl,rfl,rfl,rfl,-⟩:=a;exact⟨B,λq f=>⟨c q f,f⟩,D,λ_=>rfl,rfl,λw g i N s=>EJ w _ _ _ _ g i _ _ _ _ _ (by simp) N s⟩
 rw[zY M]at d;by_cases H:k=14
 .rw[wY H]at d;have h:=H;subst h;obtain⟨x,v,m⟩:=d;obtain⟨p,q,rfl,n,A⟩:=k2 v;obtain⟨t,rfl⟩:=uA (V q (by simp)) (.inr A);have c:∀q∈[p],1<=q.k:=by simp[n];exact m.1
  have W:aZ b u [p,.ty t]=px b [p]++[cR (b+nN p) (u+nT p) (.ty t)]:=by
   rw[<-U2 b u _ c];simp[aZ]
  rw[W]at a;have s:=oG [p] b c;match l:px b [p],s with
  |[y],_=>
   rw[l]at a;simp[C.fl,bP]at a;obtain⟨rfl,rfl,rfl,rfl,rfl,-⟩:=a;exact⟨[p],λq f=>⟨c q f,by grind⟩,cY.mf D,λ_=>eG [p] _ _ _,by rfl,λw g i _ _=>by rw[l];exact EI w _ _ _ [] g i _ _ _ _ _ (by simp)⟩
 rw[zY H]at d;by_cases T:k=16
 .rw[wY T]at d;have h:=T;subst h;obtain⟨x,v,m⟩:=d;obtain⟨p,rfl,n⟩:=k1 v;obtain⟨t,rfl⟩:=uA (V p (by simp)) (n ▸ m);simp[C.fl,bP]at a;obtain⟨rfl,rfl,rfl,rfl,rfl,-⟩:=a;exact⟨[],by simp,cY.mf D,λ_=>eG [] _ _ _,by rfl,λw g i _ _=>EH w _ _ _ [] g i _ _ _ _ _ (by simp)⟩
 rw[zY T]at d;by_cases h9:k=17
 .omega
 rw[zY h9]at d;by_cases R:k=20
 .rw[wY R]at d;have h:=R;subst h;obtain⟨x,y,z,v,m,F,M⟩:=d;obtain⟨p,q,r,rfl,n,A,H⟩:=k3 v;have c:∀G∈[p,q,r],1<=G.k:=by simp[n,A,H];exact⟨m.1,F.1,M.1⟩
  rw[U2 b u _ c]at a;have s:=oG [p,q,r] b c;match l:px b [p,q,r],s with
  |[y,z,a9],_=>
   rw[l]at a;simp[C.fl,bP]at a;obtain⟨rfl,rfl,rfl,rfl,rfl,-⟩:=a;exact⟨[p,q,r],λq f=>⟨c q f,f⟩,D,λ_=>rfl,rfl,λw g i _ _=>by rw[l];exact BM w _ _ _ [] g i _ _ _ _ _ (by simp)⟩
 rw[zY R]at d;by_cases S:k=22
 .rw[wY S]at d;have h:=S;subst h;obtain⟨x,z,v,m,F⟩:=d;obtain⟨p,q,r,rfl,n,A,H⟩:=k3 v;obtain rfl|rfl:=F
  .have c:∀G∈[p,q,r],1<=G.k:=by simp[n,A,H];exact m.1
   have hr:∃j:Nat,px b [p,q,r]=[cR b u p,cR (b+nN p) (u+nT p) q,j]:=by
    rw[<-U2 b u _ c];cases r with
    |ty o=>cases o<;>simp[K.k]at H
    |nd k' t' n' a7=>exact⟨b+nN p+nN q+aA a7,by grind[aZ,Em.ix]⟩
   obtain⟨j,l⟩:=hr;rw[U2 b u _ c,l]at a;simp[C.fl,bP]at a;obtain⟨rfl,rfl,rfl,rfl,rfl,-⟩:=a;exact⟨[p,q,r],λq f=>⟨c q f,f⟩,D,λ_=>rfl,rfl,λw g i _ _=>by rw[l];exact BM w _ _ _ [] g i _ _ _ _ _ (.inr ⟨rfl,show (j:Int)≠-1 by omega⟩)⟩
  .obtain rfl:=DL H (V r (by simp));have c:∀G∈[p,q],1<=G.k:=by simp[n,A];exact m.1
   have W:aZ b u [p,q,.ty none]=px b [p,q]++[-1]:=by
    rw[<-U2 b u _ c];simp[aZ,cR]
   rw[W]at a;have s:=oG [p,q] b c;match l:px b [p,q],s with
   |[y,z],_=>
    rw[l]at a;simp[C.fl,bP]at a;obtain⟨rfl,rfl,rfl,rfl,rfl,-⟩:=a;exact⟨[p,q],λG f=>⟨c G f,by grind⟩,cY.mf D,λ_=>eG [p,q] _ _ _,by rfl,λw g i _ _=>by rw[l];exact vU w _ _ _ [] g i _ _ _ _ _ (by simp)⟩
 rw[zY S]at d;by_cases a3:k=23
 .rw[wY a3]at d;have h:=a3;subst h;obtain⟨x,v,m⟩:=d;obtain⟨p,q,rfl,n,A⟩:=k2 v;have c:∀G∈[p,q],1<=G.k:=by simp[n,A];exact m.1
  rw[U2 b u _ c]at a;have s:=oG [p,q] b c;match l:px b [p,q],s with
  |[y,z],_=>
   rw[l]at a;simp[C.fl,bP]at a;obtain⟨rfl,rfl,rfl,rfl,rfl,-⟩:=a;exact⟨[p,q],λq f=>⟨c q f,f⟩,D,λ_=>rfl,rfl,λw g i _ _=>by rw[l];exact vU w _ _ _ [] g i _ _ _ _ _ (by simp)⟩
 grind
def cV(w:E)(b:Value)(N:List C):Prop:=∃a,w.ownsRow 0 85 9 b N.length a/\dS (fH w (λ_=>True)) N a
theorem cV.at{d w:E}{s}{N}(h:cV d s N)(c:Below d.heap.size d w)(i)(y):
 ∃g m f l,s=.slice (some (J g 0)) N.length m/\g<w.heap.size/\N.length<=m/\m<=maxLen/\(w.cell? (J g (i*9))=some (U N[i].x)/\w.cell? (J g (i*9+1))=some (U N[i].a)/\w.cell? (J g (i*9+2))=some (U N[i].b)/\w.cell? (J g (i*9+3))=some (U N[i].c)/\
  w.cell? (J g (i*9+4))=some (.slice f N[i].M.length l)/\w.cell? (J g (i*9+5))=some (.string ⟨N[i].text.toArray⟩)/\w.cell? (J g (i*9+6))=some (U N[i].n)/\w.cell? (J g (i*9+7))=some (U N[i].ty)/\w.cell? (J g (i*9+8))=some (U N[i].at'))/\
  w.ownsRow 0 3 1 (.slice f N[i].M.length l) N[i].M.length (C7 N[i].M)/\∀q,(Value.slice f N[i].M.length l).ownBlock=some q->q<d.heap.size:=by
 obtain⟨H,r,A⟩:=h;obtain⟨G,m,rfl⟩:=B8 r;obtain⟨g,rfl,_,p,u,x,a⟩:=D4 r (by omega);obtain⟨L,B,D⟩:=dS.at (λ_ _ h=>h.len) i y A;obtain⟨F,rfl,n,_⟩:=B;obtain⟨f,l,rfl⟩:=B8 n;have b:∀j v,d.cell? (J g j)=some v->w.cell? (J g j)=some v:=λj v e=>by
  have:=c.block g p;grind[World.cell?]
 have t:I (λk=>d.heap.size<=k) d w:=⟨c.os,c.tape,c.output,c.size,λk z _=>c.block k z⟩;refine⟨g,m,f,l,rfl,yQ p c.size,u,x,⟨b _ _ (a _ _ ?_),b _ _ (a _ _ ?_),b _ _ (a _ _ ?_),b _ _ (a _ _ ?_),b _ _ (a _ _ ?_),b _ _ (a _ _ ?_),b _ _ (a _ _ ?_),b _ _ (a _ _ ?_),b _ _ (a _ _ ?_)⟩,A3 n t (λq o=>by have:=(n.lt q o).2;omega),λq o=>(n.lt q o).2⟩
 .have:=D 0 (by omega);grind
 .grind
 .grind
 .grind
 .grind
 .grind
 .grind
 .simp_all
 simp_all
def cH.other{B a}{c}{w d}(f:cH B a c w d){q}{b}{e}(h:w.heap[q]?=some (.cells b e (0,0)))(i:e≠182)(g:q≠a)(j:c.ownBlock≠some q):d.heap[q]?=some (.cells b e (0,0)):=by
 rw[f.block q (aI h) (λx=>?_)]<;>grind
def cM.tv{n w}{B a m}{k d}{g}{l}(h:cM n w B a k d m g l){q}{f}{e}{i}(b:w.heap[q]?=some (.cells f e i))(j:e≠3/\e≠97):q≠a/\d.ownBlock≠some q:=by
 obtain⟨o,p,c⟩:=h.st;refine⟨?_,M4 c.jh b (Ne.symm j.1)⟩;rintro rfl;rw[c.eo]at b;grind
def cM.low{i w}{B a m}{f c}{d}{g}(h:cM i w B a f c m d g):B<=a/\∀q,c.ownBlock=some q->B<=q:=by
 obtain⟨j,k,b⟩:=h.st;exact⟨b.low,λq e=>(b.jh.lt q e).1⟩
section
variable{b:E}{B a:Nat}{d c:Value}{N:List C}
def wO(f)(s:∀p∈f,1<=p.k/\X7 b B a d c N p)(j t)(w)(m)(k)(o)(u:cY N j t f)(h:cM b w B a d c m k o)(x:k≠[])(D:m+2*aA f<=100000)(v:k.length+aA f<=100000)(G:o.length=N.length)
 (l) (n) (i) (A:i=px j f) (r:w.ownsRow 0 3 1 (.slice l i.length n) i.length (C7 i)) (z:∀q,(Value.slice l i.length n).ownBlock=some q->q<b.heap.size\/B<=q/\q≠a/\c.ownBlock≠some q):
 Calls prog 62 #[pV a,.slice l i.length n] w (aG b w B a d c N (m+2*aA f) o (bB false k j f)):=by
 subst A;have y:=oG f j (λp F=>(s p F).1);obtain⟨M,P⟩:=h.low;have L:=h.hz;rw[y]at r z⊢;refine Kf f s j t w m k o u h x D v G l n r (λe=>?_) (λg H e=>?_)<;>grind
def Tj(f)(z:∀p∈f,1<=p.k/\X7 b B a d c N p)(j G)(w)(m)(i)(o)(t:cY N j G f)(h:cM b w B a d c m i o)(V:i≠[])(W:m+2*aA f<=100000)(T:i.length+aA f<=100000)(a2:o.length=N.length)
 (k) (n) (g) (x:g=px j f) (y:w.ownsRow 0 3 1 (.slice k g.length n) g.length (C7 g)) (v:∀q,(Value.slice k g.length n).ownBlock=some q->q<b.heap.size)
 (r s) (A:w.heap[r]?=some (.cells #[pV a] 92 (0,0))) (kd va vb vc) (xs) (vn vt vp) (D:w.heap[s]?=some (.cells #[U kd,U va,U vb,U vc,.slice k g.length n,.string xs,U vn,U vt,U vp] 85 (0,0))):
 Calls prog 149 #[pV r,pV s] w (aG b w B a d c N (m+2*aA f) o (bB false i j f)):=by
 have H:=O (wO f z j G w m i o t h V W T a2 k n g x y (λq Z=>.inl (v q Z)));have a4:w.cell? (J r 0)=some (pV a):=cr A rfl;have a5:w.cell? (J s 4)=some (.slice k g.length n):=cr D rfl;generalize bB false i j f=P at*;generalize m+2*aA f=mm at*;clear A D y v h t z x;go_in;go_wp2_with fail;refine H.u.mono ?_;rintro e a7 ⟨u,F⟩;cases P with
 |bad R a3=>
  obtain rfl:e=gu R (cI N a3):=F;exact⟨rfl,u,rfl⟩
 |ok a6 l=>
  obtain⟨rfl,S⟩:=F;have M:=O u;have L:=O S;go_wp2;go_end0;exact⟨M.u,rfl,L.u⟩
end
theorem mN{o}{l}{n}{d}:∀(c) (a) (b),(∀p∈c,p.k=16)->bB true a b (c++[.ty o,.nd 26 l n d])=(bB false a b c).and λf=>bB false f (b+aA c) d
 |[],a,b,_=>by
  rw[bY,bB,bB,bB];simp only[Bool.true_and,beq_self_eq_true,↓reduceIte,bB,Br.and_nil,aA,Nat.add_zero];grind[Br.gp,bB]
 |.ty t::r,a,b,h=>by
  have:=h (.ty t) (by simp);cases t<;>simp[K.k]at this
 |.nd k m i j::r,a,b,h=>by
  have e:=h (.nd k m i j) (by simp);subst e;rw[kZ,bB,bB];simp only[Bool.true_and,Bool.false_and,show ((16:Int)==26)=false from rfl,wZ,↓reduceIte,Br.and_assoc];congr 1;funext f;rw[mN r f _ (λp g=>h p (by simp[g])),aA,Nat.add_assoc]
def cY.left{N}:∀{a d} {b c},cY N b c (a++d)->cY N b c a/\cY N (b+aA a) (c+bV a) d:=by
 intro a d b c ⟨A,B,h,f⟩;have e:∀(a:List K) (b c:Nat),R9 b c (a++d)=R9 b c a++R9 (b+aA a) (c+bV a) d:=by
  intro a;induction a with
  |nil=>intro b c;rfl
  |cons p r g=>intro b c;grind[R9,aA,bV]
 rw[e]at h;exact⟨⟨A,R9 (b+aA a) (c+bV a) d++B,by grind,f⟩,⟨A++R9 b c a,B,by grind,by grind[qQ,Z3]⟩⟩
section
variable{e:E}{B a:Nat}{d c:Value}{N:List C}
def wE(e w:E)(B a:Nat)(d c:Value)(N:List C)(m:Nat)(g:bZ)(r:Br)(b:Ending)(h:E):Prop:=
 (∃f p,b=gu f p/\Hid (aG e w B a d c N m g r (gu f p) h))\/(b=rT/\Hid (aG e w B a d c N m g r (rT) h))
def aG.rk{w k}{m}{j}{r}{b}(h:aG e w B a d c N m j r b k):wE e w B a d c N m j r b k:=by
 have g:=h.2;cases r with
 |bad n i=>
  obtain rfl:b=gu n (cI N i):=g;exact .inl ⟨_,_,rfl,h⟩
 |ok f l=>
  obtain⟨rfl,_⟩:=g;exact .inr ⟨rfl,h⟩
theorem aG.and{w j m}{g}{i}{f}{l}{k}{b}(o:cH B a c w j)(h:aG e j B a d c N g (cQ i l) (k f) b m):aG e w B a d c N g i ((Br.ok f l).and k) b m:=by
 obtain⟨n,p⟩:=h;refine⟨o.trans n,?_⟩;rw[Br.gp];grind[cQ]
def aG.more{w n}{m j}{k}{r}{g}(h:aG e w B a d c N m k r g n)(s:m<=j):aG e w B a d c N j k r g n:=by
 refine⟨h.1,?_⟩;have p:=h.2;cases r with
 |bad v i=>omega
 |ok f l=>
  obtain⟨q,b⟩:=p;obtain⟨o,u,t⟩:=b.st;exact⟨q,b.hz,b.le,b.jg,o,u,t.more s⟩
def aG.after{w g i}{m}{f}{r}{b}(j:cH B a c w g)(h:aG e g B a d c N m f r b i):aG e w B a d c N m f r b i:=⟨j.trans h.1,h.2⟩
def Jv(hN:cV e d N)(i)(am)(tx)(al)(j)(a6:∀p∈i,p.k=16/\X7 e B a d c N p)(a7:∀p∈j,1<=p.k/\X7 e B a d c N p)(b tb)(w)(m)(n)(s)
 (he:cY N b tb (i++[.ty am,.nd 26 tx al j])) (h:cM e w B a d c m n s) (a5:n≠[]) (hm:m+2*(aA i+aA j)<=100000) (hf:n.length+(aA i+aA j)<=100000) (ay:s.length=N.length) (b1:N.length<=100000)
 (u) (x) (r) (ah:r=px b i) (ho:w.ownsRow 0 3 1 (.slice u r.length x) r.length (C7 r)) (ag:∀q,(Value.slice u r.length x).ownBlock=some q->q<e.heap.size)
 (D F) (M:w.heap[D]?=some (.cells #[pV a] 92 (0,0))) (kd vb vc) (xs) (vn vt vp) (A:w.heap[F]?=some (.cells #[U kd,U ((b+aA i+aA j:Nat)),U vb,U vc,.slice u r.length x,.string xs,U vn,U vt,U vp] 85 (0,0))):
 Calls prog 188 #[pV D,pV F] w (aG e w B a d c N (m+2*(aA i+aA j)) s (bB true n b (i++[.ty am,.nd 26 tx al j]))):=by
 have af:=λp o=>(a6 p o).1;have ae:∀p∈i,1<=p.k:=λp o=>by grind
 rw[mN i n b af];obtain⟨aa,ab⟩:=he.left;have ac:=(cY.head ab).2;have a4:=(cY.head ac).1;rw[nN,Nat.add_zero]at a4;obtain⟨ad,hi,L⟩:=Em.parts a4;have ak:=λp o=>(a7 p o).1;have ai:(N[b+aA i+aA j]).M=px (b+aA i) j:=by
  rw[U2 _ _ j ak]at L;simp[C.fl,bP]at L;exact L.2.2.2.2.1
 have HA:=O (wO i (λp o=>⟨ae p o,(a6 p o).2⟩) b tb w m n s aa h a5 (by omega) (by omega) ay u x r ah ho (λq hq=>.inl (ag q hq)));have a8:=O (T9 i false n b a5);have an:w.cell? (J D 0)=some (pV a):=cr M rfl;have ao:w.cell? (J F 4)=some (.slice u r.length x):=cr A rfl;have l1:=(aI A);have FB:Hid (∀k,cH B a c w k->k.heap[D]?=some (.cells #[pV a] 92 (0,0))/\k.heap[F]?=some (.cells #[U kd,U ((b+aA i+aA j:Nat):Int),U vb,U vc,.slice u r.length x,.string xs,U vn,U vt,U vp] 85 (0,0))):=λk t=>by
  obtain⟨x1,x2⟩:=h.tv M (by decide);obtain⟨y1,y2⟩:=h.tv A (by decide);exact⟨t.other M (by decide) x1 x2,t.other A (by decide) y1 y2⟩
 have S:Hid (b+aA i+aA j<N.length):=hi;have b3:b+aA i+aA j<=100000:=by omega
 have H2:Hid (∀(k:E) (f:List Fr) (l:List (Nat×Int)),cM e k B a d c (m+2*aA i) f (cQ s l)->f.length=n.length->cH B a c w k->∃g z v y,d=.slice (some (J g 0)) N.length z/\g<k.heap.size/\N.length<=z/\z<=maxLen/\k.cell? (J g ((b+aA i+aA j)*9+4))=some (.slice v (px (b+aA i) j).length y)/\k.cell? (J a 0)=some d/\a<k.heap.size/\
  ∀G,I No k G->Calls prog 62 #[pV a,.slice v (px (b+aA i) j).length y] G (wE e w B a d c N (m+2*(aA i+aA j)) s ((Br.ok f l).and λf=>bB false f (b+aA i) j))):=by
  intro k f l t aq ar;obtain⟨g,z,v,y,e1,e2,e3,V,W,Z,e7⟩:=hN.at t.jg _ S.u;obtain⟨av,ms,hs⟩:=t.st;rw[ai]at W Z e7;refine⟨g,z,v,y,e1,e2,e3,V,W.2.2.2.2.1,cr hs.eo rfl,(aI hs.eo),λG h2=>?_⟩;refine(wO j a7 (b+aA i) _ G _ f (cQ s l) ad (t.kept h2) (O0 a5 aq) (by omega) (by omega) (by grind[uS]) v y _ rfl (A3 Z h2 (λ_ _ b0=>b0)) (λq hq=>.inl (e7 q hq))).mono ?_;intro T w' o;have aj:=aG.and (k:=λf=>bB false f (b+aA i) j) (ar.trans (cH.y h2)) o;rw[Nat.add_assoc,<-Nat.mul_add]at aj;exact aj.rk
 generalize ap:bB false n b i=R1 at*;generalize hj:b+aA i+aA j=jj at*;generalize ax:(px (b+aA i) j).length=pl at*;generalize aw:m+2*(aA i+aA j)=mm at*;generalize au:m+2*aA i=m1 at*;clear M A ho ag h he a6 a7 ah aa ab ac a4 ad L ap hj ax aw au ai af ae ak hN;go_in;go_wp2_with fail;refine HA.u.mono ?_;rintro T P ⟨H,hr⟩;cases R1 with
 |bad er az=>
  obtain rfl:T=gu er (cI N az):=hr;exact⟨rfl,H,rfl⟩
 |ok f l=>
  obtain⟨rfl,hb⟩:=hr;obtain⟨a9,a3⟩:=FB.u P H;have d0:P.cell? (J D 0)=some (pV a):=cr a9 rfl;have d1:P.cell? (J F 1)=some (U (jj:Int)):=cr a3 rfl;have d2:=(aI a3);obtain⟨g,z,v,y,rfl,e2,e3,V,W,Z,e7,e8⟩:=H2.u P f l hb (a8.u f l rfl) H;have b2:=S.u;unfold maxLen at V;have H3:=O e8;clear H hb HA H2 FB a9 a3 e8 a8 an ao S;go_wp2_with fail;go_region_with (go_at_call 62;refine(H3.u _ (I.drewN _ _ 1)).mono ?_;rintro T b4 (⟨er,p,rfl,R⟩|⟨rfl,R⟩);exact⟨rfl,R.u⟩);all_goals go_wp2_with fail
  all_goals go_end0
  all_goals exact R.u
def Sl.small{f}{r}(h:Sl (f++[Fr.no]) r)(i:f.length<=100000):∀b l,r=.ok b l->b≠[]/\b.length<=100001:=by
 intro b l g;have:=h b l g;grind
def A3c(S:cV e d N)(f)(o)(A)(n)(g)(a3:∀p∈f,p.k=16/\X7 e B a d c N p)(a4:∀p∈g,1<=p.k/\X7 e B a d c N p)(b tb)(w)(m)(q)(H)
 (T:cY N b tb (f++[.ty o,.nd 26 A n g])) (h:cM e w B a d c m q H) (hm:m+2*(aA f+aA g)<=100000) (hf:q.length+1+(aA f+aA g)<=100000) (aa:H.length=N.length) (a8:N.length<=100000)
 (j) (k) (i) (W:i=px b f) (ho:w.ownsRow 0 3 1 (.slice j i.length k) i.length (C7 i)) (V:∀a6,(Value.slice j i.length k).ownBlock=some a6->a6<e.heap.size)
 (r s t) (y) (u x v):
 Calls prog 147 #[pV a,.agg #[U r,U ((b+aA f+aA g:Nat)),U s,U t,.slice j i.length k,.string y,U u,U x,U v]] w (aG e w B a d c N (m+2*(aA f+aA g)) H (bB true (q++[Fr.no]) b (f++[.ty o,.nd 26 A n g])).pop):=by
 generalize a5:((b+aA f+aA g:Nat):Int)=D at*;have Z:q++[Fr.no]≠[]:=by simp
 have G:I No w ((w.alloc (.cells #[pV a] 92)).alloc (.cells #[U r,U D,U s,U t,.slice j i.length k,.string y,U u,U x,U v] 85)):=B6 (I.alloc No _ _) (I.alloc No _ _);have P:((w.alloc (.cells #[pV a] 92)).alloc (.cells #[U r,U D,U s,U t,.slice j i.length k,.string y,U u,U x,U v] 85)).heap[w.heap.size]?=some (.cells #[pV a] 92 (0,0)):=by
  rw[Below.heap_alloc _ _ _ (by simp)];have:=yY w (.cells #[pV a] 92);simpa using this
 have R:((w.alloc (.cells #[pV a] 92)).alloc (.cells #[U r,U D,U s,U t,.slice j i.length k,.string y,U u,U x,U v] 85)).heap[w.heap.size+1]?=some (.cells #[U r,U D,U s,U t,.slice j i.length k,.string y,U u,U x,U v] 85 (0,0)):=by
  have:=yY (w.alloc (.cells #[pV a] 92)) (.cells #[U r,U D,U s,U t,.slice j i.length k,.string y,U u,U x,U v] 85);simpa using this
 have F:=h.kept G;have HI:=O (WH 188 (λ_ _=>by rfl) F (by omega) (m+2*(aA f+aA g)) (bB true (q++[Fr.no]) b (f++[.ty o,.nd 26 A n g])) (Sl.small (T9 _ _ _ _ Z) (by omega)) (pV w.heap.size) (pV (w.heap.size+1)) (λa7 M hb=>by
  obtain⟨x1,x2⟩:=F.tv P (by decide);obtain⟨y1,y2⟩:=F.tv R (by decide);have af:=h.low;have hz:=h.hz;refine Jv S f o A n g a3 a4 b tb a7 m (q++[Fr.no]) H T hb Z hm (by grind) aa a8 j k i W ?_ V _ _ (M.other P (by decide) x1 x2) r s t y u x v (by rw[a5];exact M.other R (by decide) y1 y2);refine M.row (A3 ho G (λ_ _ ac=>ac)) (λL=>?_) (λae hg L=>?_)<;>grind));have HC:=O (cH.y (B:=B) (bb:=a) (tv:=c) G);generalize a9:(bB true (q++[Fr.no]) b (f++[.ty o,.nd 26 A n g])).pop=RR at*;generalize m+2*(aA f+aA g)=mm at*;clear a9 F P R G V ho W T a3 a4 h S a5;go_in;go_wp2_with fail;refine HI.u.mono ?_;rintro L ag z;have z:=aG.after HC.u z;have a2:=z.2;cases RR with
 |bad er ab=>
  obtain rfl:L=gu er (cI N ab):=a2;exact⟨rfl,z⟩
 |ok ad l=>
  obtain⟨rfl,-⟩:=a2;have HP:=O z;go_wp2;go_end0;exact HP.u
def gG.top{w}{m}{i}{b}{f}{n}(h:gG w B a d i c b m f n)(g):gW w (b.getLast g) m (iT f):=by
 have o:=h.len;have p:=List.length_pos_iff.2 g;have l:b.getLast g=b[b.length-1]:=by rw[List.getLast_eq_getElem]
 have k:iT f=f[b.length-1]'(by omega):=by
  unfold iT;have j:f.length-1=b.length-1:=by omega
  rw[List.getLastD_eq_getLast?,List.getLast?_eq_getElem?,j,gQ (by omega)];rfl
 rw[l,k];exact h.fr (b.length-1) (by omega) (by omega)
theorem cM.step{w b}{m j}{n g}{p l}{f}{k}(h:cM e w B a d c m n p)(i:cH B a c w b)(o:gG b B a d f c k j g l):cM e b B a d c j g l:=
 ⟨h.hz,kQ h.le i.size,h.jg.trans ((i.below h.le).mono h.hz),f,k,o⟩
def WO{w}{m}{b}{v}(h:cM e w B a d c m b v)(V:b≠[])(T:b.length<=100000)(Z:m<=100000)(x)(u:x.length<=1000000)(j)(L:0<=j/\j<=1000000)(y)(p:I No w y):
 Calls prog 146 #[pV a] y λi f=>∃q,i=.returned (.map (some q))/\I No w f/\(Instr.lookup 182 (.map (some q)) (.string ⟨x.toArray⟩) true).run prog f=.ok (.tuple #[U ((iT b x).getD 0),.bool (iT b x).isSome]) f/\
  ∃g,(Instr.mapUpdate 182 (.map (some q)) (.string ⟨x.toArray⟩) (U j)).run prog f=.ok () g/\Hid (cH B a c w g/\cM e g B a d c (m+1) (G8 b x j) v):=by
 have G:=h.kept p;obtain⟨S,R,s⟩:=G.st;have W:=s.len;have l:R≠[]:=λi=>by grind
 refine(Ue s l (by omega)).mono ?_;rintro i f ⟨rfl,r⟩;have o:=s.y r;obtain⟨g,M,P,H⟩:=o.put l x j u (by omega) L;have t:cH B a c f g:=by
  refine H.mono λk _ i=>?_;subst i;obtain⟨n,D,⟨A,z,F,_⟩,_⟩:=(o.top l).own;exact⟨o.ge _ (List.getLast_mem l),.inr (.inr (.inr ⟨A,z,F⟩))⟩
 exact⟨_,rfl,B6 p r,(o.top l).look x u,g,M,(cH.y (B6 p r)).trans t,(h.kept (B6 p r)).step t P⟩
theorem cM.eo{w}{m}{f}{g}(h:cM e w B a d c m f g):w.cell? (J a 0)=some d/\a<w.heap.size:=by
 obtain⟨i,j,b⟩:=h.st;exact⟨cr b.eo rfl,(aI b.eo)⟩
theorem sC(g)(b)(h)(n)(o)(E)(j:1<=E.k):cX g b (.nd 17 h n [.ty o,E])=if (iT g h).isSome then .bad 6 (b+nN E) else (cX (if E.k=6 then G8 g h ((b+nN E:Nat)) else g) b E).jb h ((b+nN E:Nat)):=by
 have l:aA [.ty o,E]=nN E:=by simp[aA,nN]
 rw[cX];simp only[l];rw[zY (by decide),zY (by decide),wY trivial];congr 2;have i:∀f,bB false f b [.ty o,E]=cX f b E:=λf=>by
  simp_all[bB,xF,Br.and_nil]
 rw[i];cases E with
 |ty o=>cases o<;>simp[K.k]at j
 |nd k t m p=>grind[qK,K.k]
def cM.fresh{w}{m}{g}{i}(h:cM e w B a d c m g i){q}(n:w.heap.size<=q):B<=q/\q≠a/\c.ownBlock≠some q:=by
 obtain⟨j,o,b⟩:=h.st;have k:=(aI b.eo);have l:=h.le;refine⟨by omega,by omega,λf=>?_⟩;have:=(b.jh.lt _ f).2;omega
def GI{w q}(T:cH B a c w q){m}{j}{ts}{l0}(z:cM e q B a d c m j (cQ ts l0))(S:j≠[]){b G}{i o}{h}(g:uJ N b G i h o)(P:∀p∈i,1<=p.k->X7 e B a d c N p)(hm:m+2*aA i<=100000)(hf:j.length+aA i<=100000)(a6:ts.length=N.length)
 (x) (y) (W:q.ownsRow 0 3 1 (.slice x h.M.length y) h.M.length (C7 h.M)) (V:h.M.length<=100000) (F) (a2:q.cell? (J F 0)=some (pV a)) (D) (a5:m+2*aA i<=D) (s) (u:I No q s):
 Calls prog 40 #[fE h x y] s λt r=>∃k l,t=.returned (.slice k (px b o).length l)/\r.cell? (J F 0)=some (pV a)/\
  Hid (Calls prog 62 #[pV a,.slice k (px b o).length l] r (wE e w B a d c N D ts ((Br.ok j l0).and λf=>bB false f b i))):=by
 refine(g.run s x y (A3 W u (λ_ _ a4=>a4)) V).mono ?_;rintro t r ⟨k,l,rfl,R,A⟩;have v:=B6 u R;have L:=z.kept v;refine⟨k,l,rfl,A4 v a2,?_⟩;have hn:=g.n;have M:=wO o (λp n=>⟨(g.k p n).1,P p (g.k p n).2 (g.k p n).1⟩) b G r m j (cQ ts l0) g.em L S (by omega) (by omega) (by grind[uS]) k l _ rfl (C8 A (wQ _)) (λa3 hq=>.inr (z.fresh (kQ u.size (A.lt a3 hq).1)));refine M.mono ?_;intro t a7 n;have Z:=aG.and (k:=λf=>bB false f b o) (T.trans (cH.y v)) n;have H:=funext λf=>g.bn f;rw[H];exact(Z.more (by omega)).rk
theorem Br.and_zero(b)(k):(Br.ok b []).and k=k b:=by
 grind[Br.gp]
end
