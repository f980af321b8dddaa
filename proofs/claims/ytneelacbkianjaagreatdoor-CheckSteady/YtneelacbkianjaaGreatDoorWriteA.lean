/-
  A part of the proof.
-/
import Derived.Test.YtneelacbkianjaaGreatDoorFitB
import Derived.Test.YtneelacbkianjaaGreatDoorSrt
import Derived.Shelf.SlSortCmp.NoneTotal
import Derived.Lib.SliceRun
set_option maxHeartbeats 16000000
set_option maxRecDepth 100000
namespace Go.Proofs.YtneelacbkianjaaGreatDoor
open Go.Proofs.Tryz
open Go.RowKit Go.Maps
def Wkp(B d:Nat)(w c:lZ):Prop:=I (λk=>B<=k/\(k=d\/∃a b,w.heap[k]? =some (.cells a 5 b))) w c
theorem Wkp.refl(B a:Nat)(w:lZ):Wkp B a w w:=I.refl _ _
theorem Wkp.trans{B d:Nat}{a b c:lZ}(h:Wkp B d a b)(k:Wkp B d b c):Wkp B d a c:=by
 refine⟨k.os.trans h.os,k.tape.trans h.tape,k.output.trans h.output,kQ h.size k.size,λi f g=> ?_⟩;have e:=h.block i f g;refine(k.block i (yQ f h.size) (λx=>g ⟨x.1, ?_⟩)).trans e;rcases x.2 with j|⟨cs,fz,hh⟩
 · exact .inl j
 · exact .inr ⟨cs,fz,by rw[<-e];exact hh⟩
theorem Wkp.still{B wb:Nat}{w a:lZ}(h:I No w a):Wkp B wb w a:=h.mono λ_ _ x=>x.elim
theorem Wkp.below{B c:Nat}{w a:lZ}(h:Wkp B c w a)(b:B<=w.heap.size):Below B w a:=I.toBelow h (λ_ _ x=>x.1) b
theorem Wkp.set{B a:Nat}(c:B<=a)(w:lZ)(o:Nat)(v:Value):Wkp B a w (w.setCell (J a o) v):=(I.set w _ v).mono λk _ x=>by
 have b:k=a:=x;exact⟨by omega,.inl b⟩
theorem Wkp.row{B i:Nat}{w f:lZ}(k:Wkp B i w f){b:Nat}{e:TypeId}{d:Nat}{v:Value}{n:Nat}{j:List Value}(h:w.ownsRow b e d v n j)(l:e≠5)(m:v.ownBlock≠some i):f.ownsRow b e d v n j:=by
 refine A4 h k λg c o=> ?_;rcases o.2 with rfl|⟨cs,fz,hh⟩
 · exact m c
 · obtain⟨_,p,a⟩:=A9 h g c;rw[hh]at a;simp only[zQ,xW]at a;exact l a.2.1.symm
def L9c:List TypeId:=[5,9,3,43,76,131,64,87,26,50]
structure Wk where
 b:Bool
 e:TypeId
 rest:Array Value
 lies:liesAt prog prog.depth e ((4+rest.size) / prog.cellsOf e) 0 54 1=true
 ne:∀t∈L9c,e≠t
instance:CoeOut Wk Bool:=⟨Wk.b⟩
def wkW(b:Bool):Wk:=⟨b,56,#[],by kernel_rfl,by decide⟩
section
variable{a b c d x:Value}{r:Array Value}
theorem I9b:(#[a,b,c,d]++r)[0]? =some a:=by rw[Array.getElem?_append_left (by simp)];rfl
theorem M5a:(#[a,b,c,d]++r)[1]? =some b:=by rw[Array.getElem?_append_left (by simp)];rfl
theorem Q4c:(#[a,b,c,d]++r)[2]? =some c:=by rw[Array.getElem?_append_left (by simp)];rfl
theorem Q3c:(#[a,b,c,d]++r)[3]? =some d:=by rw[Array.getElem?_append_left (by simp)];rfl
end
structure Wrt(w:lZ)(B wb:Nat)(tv:Value)(bn:Wk)(bs:bZ):Prop where
 low:B<=wb
 blk:∃p v,w.heap[wb]? =some (.cells (#[p,v,tv,.bool bn.b]++bn.rest) bn.e (0,0))/\(p= .pointer none\/p=pV wb)/\w.ownsRow B 5 1 v bs.length (Lib.byteCells bs)
theorem Wrt.still{w e:lZ}{B wb:Nat}{tv:Value}{a:Wk}{b:bZ}(h:Wrt w B wb tv a b)(d:I No w e):Wrt e B wb tv a b:=by
 obtain⟨f,p,v,c,i,g⟩:=h;exact⟨f,p,v,by rw[d.block wb (ltG c) (λx=>x)];exact c,i,A4 g d (λ_ _ x=>x)⟩
theorem Wrt.tys{w:lZ}{B a:Nat}{d:Value}{c:Wk}{e:bZ}(h:Wrt w B a d c e):w.cell? (J a 2)=some d/\w.cell? (J a 3)=some (.bool c.b)/\a<w.heap.size:=by
 obtain⟨f,p,v,b,i,g⟩:=h;exact⟨by rw[cell_of_row w a 2 _ _ _ b];exact Q4c,by rw[cell_of_row w a 3 _ _ _ b];exact Q3c,(ltG b)⟩
theorem Tryz.sizeBld:(prog.info? 54).map (·.size)=some 2:=by kernel_rfl
theorem Tryz.infoByte:(prog.info? 5).map (λi=>(i.zero,i.size,i.bytes))=some (some (.int .u8 0),1,1):=by kernel_rfl
theorem Tryz.cellsByte:prog.cellsOf 5=1:=by kernel_rfl
theorem D0b(b:Nat)(w:lZ)(d:w.cell? (J b 0)=some (pV b)):
 Calls prog 99 #[pV b] w λe c=>e=rT/\c=w:=by
 obtain⟨j,a,_⟩:=Option.map_eq_some_iff.1 Tryz.sizeBld;go_enter func99,ntmps99;go_wp2;rw[Lib.run_neq_ptr_same w _ underlying51 a];go_wp2;go_end0;exact⟨rfl,rfl⟩
theorem X2a(a:Wk)(b:Nat)(w:lZ)(h:w.cell? (J b 0)=some (.pointer none))(d:w.shape? b=some (a.e,4+a.rest.size))(i:w.frozen? (J b 0)=false):
 Calls prog 99 #[pV b] w λe g=>e=rT/\g=w.setCell (J b 0) (pV b):=by
 obtain⟨j,c,f⟩:=Option.map_eq_some_iff.1 Tryz.sizeBld;go_enter func99,ntmps99;go_wp2;rw[Lib.run_to_unsafe w (J b 0) underlying51 underlying160 c (by rw[f];decide) d (by show 0<4+a.rest.size;omega)];simp only[Result.andThen];rw[Oper.upon_value];go_wp2;rw[run_callFunc_extern func136 (by kernel_rfl) (by kernel_rfl) (by kernel_rfl) (e:=Extern.AbiNoEscape.same) (by kernel_rfl)];rw[Lib.run_noEscape];simp only[Result.andThen];rw[Oper.upon_value];go_wp2;rw[Lib.run_from_unsafe w (J b 0) underlying160 underlying51 c d a.lies];simp only[Result.andThen];rw[Oper.upon_value];go_wp2;go_end0;exact⟨rfl,rfl⟩
theorem F8b{w:lZ}{B a:Nat}{j:Value}{c:Wk}{f:bZ}(h:Wrt w B a j c f):
 Calls prog 99 #[pV a] w λe d=>e=rT/\Wkp B a w d/\d.heap.size=w.heap.size/\
  ∃v,d.heap[a]? =some (.cells (#[pV a,v,j,.bool c.b]++c.rest) c.e (0,0))/\d.ownsRow B 5 1 v f.length (Lib.byteCells f):=by
 obtain⟨l,p,v,b,n,i⟩:=h;have s:=(ltG b);rcases n with rfl|rfl
 · refine(X2a c a w (by rw[cell_of_row w a 0 _ _ _ b];exact I9b) (by simp[World.shape?,b,Nat.add_comm]) (frozen_of_row w a 0 _ _ b)).mono ?_;rintro e d ⟨rfl,rfl⟩;refine⟨rfl,Wkp.set l w 0 _,by simp,v,by rw[heap_setCell_same w a 0 _ _ _ b];simp,A4 i (I.set w (J a 0) _) λk m o=> ?_⟩;have q:k=a:=o;subst q;obtain⟨_,r,g⟩:=A9 i k m;rw[b]at g;simp only[zQ,xW]at g;exact absurd g.2.1 (c.ne _ (by decide))
 · refine(D0b a w (by rw[cell_of_row w a 0 _ _ _ b];exact I9b)).mono ?_;rintro e d ⟨rfl,rfl⟩;exact⟨rfl,Wkp.refl _ _ _,rfl,v,b,i⟩
theorem I9a{w:lZ}{B a:Nat}{u:Value}{d:Wk}{p:bZ}(h:Wrt w B a u d p)(s:ByteArray)(a5:p.length+s.size<=100000000000000)(P:B<=w.heap.size):
 Calls prog 58 #[pV a,.string s] w λe G=>e= .returned (.tuple #[U s.size,.nilIface])/\Wkp B a w G/\Wrt G B a u d (p++s.data.toList):=by
 obtain⟨i0,R,X,Y,Z⟩:=info_parts Tryz.infoByte;have A:=h.low;have K:=O (F8b h);clear h;go_enter func58,ntmps58;go_wp2_with fail
 refine K.o.mono ?_;rintro e H ⟨rfl,D,F,v,m,E⟩;have T:=(ltG m);have a2:H.cell? (J a 1)=some v:=by rw[cell_of_row H a 1 _ _ _ m];exact M5a
 have M:=O D;have y:=O m;have o:=O E;have N:=O F;clear D m E F;go_wp2_with (at_builtin;refine Lib.wpList_append_own_string _ rfl _ _ 52 9 rfl B 5 i0 underlying52 underlying9 R X Y Z _ _ _ rfl o.o s rfl ?c3 ?c4 ?c5 ?_)
 case c3=>unfold maxLen;omega
 case c4=>omega
 case c5=>rw[N.o];exact P
 intro v' c r q _;have V:v.ownBlock≠some a:=by
  intro g;obtain⟨_,j,b⟩:=A9 o.o a g;rw[y.o]at b;simp only[zQ,xW]at b;exact absurd b.2.1 (d.ne _ (by decide))
 have l:c.heap[a]? =some (.cells (#[pV a,v,u,.bool d.b]++d.rest) d.e (0,0)):=by
  rw[q.block a T (λe=>V e.symm)];exact y.o
 have d1:c.cell? (J a 1)=some v:=by rw[cell_of_row c a 1 _ _ _ l];exact M5a
 have a3:c.frozen? (J a 1)=false:=frozen_of_row c a 1 _ _ l;obtain⟨i,n,f,rfl⟩:∃i n f,v'= .slice i n f:=by
  rcases r.2 with ⟨t,_⟩|⟨a4,f,j,t,_⟩
  · exact⟨_,_,_,t⟩
  · exact⟨_,_,_,t⟩
 have x:=O l;have z:=O r;have L:=O q;clear l r q;go_wp2;go_ret2
 refine⟨rfl, ?_,A,_,.slice i n f,by rw[heap_setCell_same c a 1 _ _ _ x.o];simp,.inr rfl, ?_⟩
 · refine(M.o.trans ?_).trans (Wkp.set A c 1 _);refine(I.grown L.o).mono λk C g=> ?_;obtain⟨S,j,b⟩:=A9 o.o k g.symm;exact⟨S,.inr ⟨j,_,b⟩⟩
 · have:=A4 z.o (I.set c (J a 1) (.slice i n f)) λk C g=>by
    have W:k=a:=g;subst W;obtain⟨_,j,b⟩:=A9 z.o k C;rw[x.o]at b;simp only[zQ,xW]at b;exact absurd b.2.1 (d.ne _ (by decide))
   rw[Lib.byteCells_append,<-Lib.strCells_eq];simpa[bl]using this
def F8a(a:List ByteArray):bZ:=a.flatMap (λs=>s.data.toList)
theorem H4b(a:List ByteArray){j:Nat}(b:j<a.length):F8a (a.take (j+1))=F8a (a.take j)++a[j].data.toList:=by
 unfold F8a;rw[nQ b,List.flatMap_append];simp
theorem O4d(a:List ByteArray){j:Nat}(d:j<a.length):(F8a (a.take j)).length+a[j].size<=(F8a a).length:=by
 have b:=H4b a d;have c:F8a a=F8a (a.take (j+1))++F8a (a.drop (j+1)):=by
  unfold F8a;rw[<-List.flatMap_append,List.take_append_drop]
 rw[c,b];have:a[j].data.toList.length=a[j].size:=bl _;simp only[qQ];omega
theorem X6a{w:lZ}{B b:Nat}{o:Value}{k:Wk}{l:bZ}(h:Wrt w B b o k l)(a:List ByteArray)(g:Nat)(q:Nat×Nat)(f:w.heap[g]? =some (.cells (a.map Value.string).toArray 9 q))(T:a.length<=1000)(R:l.length+(F8a a).length<=100000000000000)(G:B<=w.heap.size):
 Calls prog 30 #[pV b,.slice (some (J g 0)) a.length a.length] w λe u=>e=rT/\Wkp B b w u/\Wrt u B b o k (l++F8a a):=by
 have s:=(ltG f);have K:g≠b:=by
  intro c;subst c;obtain⟨p,v,m,_⟩:=h.blk;rw[f]at m;simp only[zQ,xW]at m;exact absurd m.2.1.symm (k.ne _ (by decide))
 have A:Hid (∀wr,Wkp B b w wr->wr.heap[g]? =some (.cells (a.map Value.string).toArray 9 q)):=by
  intro wr H;rw[H.block g s (λx=> ?_)]
  · exact f
  · rcases x.2 with c|⟨cs,f2,c⟩
    · exact K c
    · rw[f]at c;simp only[zQ,xW]at c;exact absurd c.2.1 (by decide)
 have z:=O h;clear h f;go_enter func30,ntmps30;go_wp2_with fail
 go_loopw [8] (λv wr=>∃(j:Nat),j<=a.length/\v=U (j:Int)/\Hid (Wrt wr B b o k (l++F8a (a.take j)))/\Hid (Wkp B b w wr)) (λv _=>a.length - (intOf v).toNat)
 case atStart=>exact⟨0,wQ _,rfl,by simpa[F8a]using z,Wkp.refl _ _ _⟩
 case round=>
  obtain⟨j,N,rfl,i,d⟩:=hrel;by_cases n:j<a.length
  · have M:wr.cell? (J g j)=some (.string a[j]):=by
     rw[cell_of_row wr g j _ _ _ (A.o wr d.o)];simp[n]
    have S:g<wr.heap.size:=yQ s d.o.size;have P:=O4d a n;have V:b<wr.heap.size:=i.o.tys.2.2;have D:=O (H4b a n);have E:=O (I9a i.o a[j] (by simp only[qQ];omega) (kQ G d.o.size));have y:=O d.o;clear d i;go_wp2_with fail
    refine E.o.mono ?_;rintro e W ⟨rfl,r,t⟩;have C:=O r;have F:=O t;clear r t;go_wp2;go_roundw
    case rel=>exact⟨j+1,by omega,by go_num,by rw[D.o,<-List.append_assoc];exact F.o,y.o.trans C.o⟩
    case measure=>simp[intOf];omega
  · have L:j=a.length:=by omega
    subst L;rw[xZ]at *;go_wp2_with fail
    go_end0;exact⟨rfl,d.o,i.o⟩
structure Wsp(w:lZ)(B wb:Nat)(tv:Value)(bn:Wk)(T:List Ty)(bs:bZ):Prop where
 wrt:Wrt w B wb tv bn bs
 ok:TsOk T
 row:∃yx,w.ownsRow 0 76 4 tv T.length yx/\Rws (TyV w (λ_=>True)) T yx
theorem Wsp.kept{w n:lZ}{B d:Nat}{m:Value}{f:Wk}{T:List Ty}{u o:bZ}(h:Wsp w B d m f T u)(s:Wkp B d w n)(y:Wrt n B d m f o):Wsp n B d m f T o:=by
 obtain⟨E,z,F,t,D⟩:=h;obtain⟨p,v,A,_⟩:=E.blk;have l:∀k b e,w.heap[k]? =some (.cells b e (0,0))->(e=76\/e=131\/e=3)->¬(B<=k/\(k=d\/∃q r,w.heap[k]? =some (.cells q 5 r))):=by
  rintro k b e j i ⟨_,a|⟨q,r,a⟩⟩
  · subst a;rw[A]at j;simp only[zQ,xW]at j;rcases i with rfl|rfl|rfl<;>exact absurd j.2.1 (f.ne _ (by decide))
  · rw[j]at a;simp only[zQ,xW]at a;rcases i with rfl|rfl|rfl<;>exact absurd a.2.1 (by decide)
 refine⟨y,z,F,A4 t s λg C x=> ?_,D.imp (TyV.chg s (λg _ _ a c=> ?_) (λ_ _ _=>trivial))⟩
 · obtain⟨_,b,c⟩:=A9 t g C;exact l g b _ c (.inl rfl) x
 · obtain⟨b,e,c,i⟩:=c;rcases i with rfl|rfl
   · exact l g b _ c (.inr (.inl rfl)) a
   · exact l g b _ c (.inr (.inr rfl)) a
theorem Wsp.still{w d:lZ}{B wb:Nat}{tv:Value}{a:Wk}{T:List Ty}{b:bZ}(h:Wsp w B wb tv a T b)(c:I No w d):Wsp d B wb tv a T b:=h.kept (Wkp.still c) (h.wrt.still c)
theorem Wsp.cell{w:lZ}{B b:Nat}{n:Value}{d:Wk}{T:List Ty}{o:bZ}(h:Wsp w B b n d T o):∃a c,n= .slice a T.length c/\w.cell? (J b 2)=some (.slice a T.length c)/\w.cell? (J b 3)=some (.bool d.b)/\b<w.heap.size/\
 ∀i (j:i<T.length),∃g e f l m,a=some (J g 0)/\g<w.heap.size/\T.length<=c/\c<=maxLen/\w.cell? (J g (i * 4))=some (U T[i].kind)/\w.cell? (J g (i * 4+1))=some (.slice e T[i].fields.length f)/\w.cell? (J g (i * 4+2))=some (.slice l T[i].list.length m)/\
  w.cell? (J g (i * 4+3))=some (U T[i].of')/\w.ownsRow 0 131 2 (.slice e T[i].fields.length f) T[i].fields.length (G5 T[i].fields)/\w.ownsRow 0 3 1 (.slice l T[i].list.length m) T[i].list.length (C8 T[i].list):=by
 obtain⟨t,u,v,k,s⟩:=h;obtain⟨a,c,rfl⟩:=B9 k;obtain⟨p,q,r⟩:=t.tys;exact⟨a,c,rfl,p,q,r,λi j=>G6b k s j⟩
theorem T2c(k:Int)(c:1<=k)(d:k<=6)(w:lZ):Calls prog 36 #[U k] w λe b=>e= .returned (.string ⟨(U2 k).toArray⟩)/\b=w:=by
 have a:k=1\/k=2\/k=3\/k=4\/k=5\/k=6:=by omega
 rcases a with rfl|rfl|rfl|rfl|rfl|rfl<;>
 · go_enter func36,ntmps36;go_wp2;go_ret;exact⟨rfl,rfl⟩
def brk(k:Int)(a:Bool):Bool:=decide (k=10)||(decide (k=9) && !a)
theorem P2c{w:lZ}{B j:Nat}{q:Value}{l:Wk}{T:List Ty}{m:bZ}(h:Wsp w B j q l T m)(i:Nat)(p:i<T.length)(a:Bool):
 Calls prog 67 #[pV j,U (i:Int),.bool a] w λe r=>e= .returned (.bool (brk T[i].kind a))/\r=w:=by
 obtain⟨s,c,rfl,t,u,A,f⟩:=h.cell;obtain⟨g,v,x,C,D,rfl,z,y,o,E,F,G,H,-,-⟩:=f i p;unfold maxLen at o;clear f h;generalize T[i].kind=k at *;by_cases b:k=10
 · subst b;go_enter func67,ntmps67;go_wp2;go_ret;exact⟨rfl,rfl⟩
 · by_cases d:k=9
   · subst d;cases a<;>
     · go_enter func67,ntmps67;go_wp2;go_ret;exact⟨rfl,rfl⟩
   · have e:brk k a=false:=by simp[brk,b,d]
     rw[e];go_enter func67,ntmps67;go_wp2;go_ret;refine⟨?_,rfl⟩;have n:(k==10)=false:=by simp[b]
     show Ending.returned (Value.bool (k==10))=_;rw[n]
def wtr(a:Bool)(t:Tr):Tr:=if a then srt t else t
def wtx(a:Bool)(T:List Ty)(i:Nat):bZ:=txt' (wtr a (tr T i))
def D7(w:lZ)(B b:Nat)(f:Value)(c:Wk)(d:bZ)(e:Ending)(a:lZ):Prop:=e=rT/\Wkp B b w a/\Wrt a B b f c d
def S5c(B c:Nat)(d:Value)(a:Wk)(T:List Ty)(m:Nat):Prop:=∀(i:Nat) (w:lZ) (b:bZ),i+1<=m->i<T.length->Wsp w B c d a T b->B<=w.heap.size->b.length+(wtx a T i).length<=100000000000000->
 Calls prog 16 #[pV c,U (i:Int)] w (D7 w B c d a (b++wtx a T i))
theorem Wkp.other{w g:lZ}{B i:Nat}{o:Value}{c:Wk}{j:bZ}(k:Wkp B i w g)(n:Wrt w B i o c j){q:Nat}{d:Array Value}{e:TypeId}{f:Nat×Nat}(h:w.heap[q]? =some (.cells d e f))(l:e≠5)(m:e∈L9c):g.heap[q]? =some (.cells d e f):=by
 rw[k.block q (ltG h) (λx=> ?_)]
 · exact h
 · rcases x.2 with a|⟨cs2,f2,a⟩
   · subst a;obtain⟨p,v,b,_⟩:=n.blk;rw[h]at b;simp only[zQ,xW]at b;exact c.ne _ m b.2.1.symm
   · rw[h]at a;simp only[zQ,xW]at a;exact l a.2.1
theorem Wkp.own{w g:lZ}{B b:Nat}{s:Value}{d:Wk}{j:bZ}(l:Wkp B b w g)(q:Wrt w B b s d j){c f n:Nat}{e:TypeId}{v:Value}{i:List Value}(h:w.ownsRow c e f v n i)(m:e≠5)(o:e∈L9c):g.ownsRow c e f v n i:=by
 refine l.row h m λr=> ?_;obtain⟨_,t,a⟩:=A9 h b r;obtain⟨p,v,k,_⟩:=q.blk;rw[k]at a;simp only[zQ,xW]at a;exact d.ne _ o a.2.1
section
variable{B b:Nat}{c:Value}{a:Wk}{T:List Ty}{m:Nat}
theorem M8c(C:S5c B b c a T m)(w:lZ)(f:bZ)(h:Wsp w B b c a T f)(E:B<=w.heap.size)(k s r:Nat)(L D o:Value)(p:Option Addr)(q:Nat)(d:uZ)(F:k<d.length)(z:Nat)(y:d[k]=(z:Int))(K:z+1<=m)(H:z<T.length)(t:f.length+(wtx a T z).length<=100000000000000)
 (x:w.heap[s]? =some (.cells #[pV b] 64 (0,0))) (v:w.heap[r]? =some (.cells #[L,D,.slice p d.length q,o] 76 (0,0))) (u:w.ownsRow 0 3 1 (.slice p d.length q) d.length (C8 d)):
 Calls prog 34 #[U (k:Int),pV s,pV r] w (D7 w B b c a (f++wtx a T z)):=by
 have A:Hid (∀i,I No w i->Calls prog 16 #[pV b,U (z:Int)] i (D7 w B b c a (f++wtx a T z))):=by
  intro i n;refine(C z i f K H (h.still n) (kQ E n.size) t).mono ?_;rintro e Y ⟨rfl,j,l⟩;exact⟨rfl,(Wkp.still n).trans j,l⟩
 have N:w.cell? (J s 0)=some (pV b):=cr x rfl;have P:w.cell? (J r 2)=some (.slice p d.length q):=cr v rfl;obtain⟨g,rfl,R,W,G,M⟩:=D9 u F;rw[y]at M;unfold maxLen at G;have V:decide ((k:Int)<0)=false:=by simp
 have S:(k:Int)<(d.length:Int):=by omega
 clear h x v u y t;generalize wtx a T z=X at *;go_enter func34,ntmps34;go_wp2_with fail
 go_region_with ((go_at_call 16;refine(A.o _ (I.drewN _ _ 1)).mono ?_;rintro e Z ⟨rfl,j,l⟩))
 all_goals
  go_wp2;go_end0;exact⟨rfl,j,l⟩
def wup(a:Bool)(T:List Ty)(z:Nat)(d:Bool):bZ:=if d then [40]++wtx a T z++[41] else wtx a T z
theorem Y0b(IH:S5c B b c a T m)(w:lZ)(q:bZ)(h:Wsp w B b c a T q)(ab:B<=w.heap.size)(k A y:Nat)(x:Option Addr)(M:Nat)(f:uZ)(F:k<f.length)(z:Nat)(hz:f[k]=(z:Int))(ad:z+1<=m)(a7:z<T.length)(o:Bool)(a2:o=brk T[z].kind (decide (k+1=f.length)))(a3:q.length+(wup a T z o).length<=100000000000000)
 (hx:w.heap[A]? =some (.cells #[pV b] 64 (0,0))) (H:w.heap[y]? =some (.cells #[.slice x f.length M] 43 (0,0))) (v:w.ownsRow 0 3 1 (.slice x f.length M) f.length (C8 f)):
 Calls prog 66 #[U (k:Int),pV A,pV y] w (D7 w B b c a (q++wup a T z o)):=by
 have ah:=(ltG H);have ae:((k:Int)==IntKind.i64.wrap ((f.length:Int) - 1))=decide (k+1=f.length):=by
  obtain⟨_,_,_,ac,G,_⟩:=D9 v F;unfold maxLen at G;have e:IntKind.i64.wrap ((f.length:Int) - 1)=(f.length:Int) - 1:=by
   simp[IntKind.wrap,IntKind.bits,IntKind.signed];omega
  rw[e,Bool.eq_iff_iff];simp;omega
 have FN:Hid (∀n N,N=decide (k+1=f.length)->Calls prog 67 #[pV b,U (z:Int),.bool N] (w.drewN n) λe P=>e= .returned (.bool o)/\P=w.drewN n):=by
  intro n N u;rw[a2,u];exact P2c (h.still (I.drewN _ _ _)) z a7 _
 have S:Hid (∀d i,Wkp B b w d->Wrt d B b c a i->i.length+(wtx a T z).length<=100000000000000->Calls prog 16 #[pV b,U (z:Int)] d (D7 w B b c a (i++wtx a T z))):=by
  intro d i j K u;refine(IH z d i ad a7 (h.kept j K) (kQ ab j.size) u).mono ?_;rintro e P ⟨rfl,l,p⟩;exact⟨rfl,j.trans l,p⟩
 have R:Hid (∀d i (t:UInt8),Wkp B b w d->Wrt d B b c a i->i.length+1<=100000000000000->Calls prog 30 #[pV b,.slice (some (J d.heap.size 0)) 1 1] (d.alloc (.cells #[.string ⟨#[t]⟩] 9)) (D7 w B b c a (i++[t]))):=by
  intro d i t j K u;refine(X6a (K.still (I.alloc _ _ _)) [⟨#[t]⟩] d.heap.size (0,0) (qY d _) (by simp) (by simp[F8a];omega) (by simp;have:=j.size;omega)).mono ?_;rintro e P ⟨rfl,l,p⟩;exact⟨rfl,(j.trans (Wkp.still (I.alloc _ _ _))).trans l,by simpa[F8a]using p⟩
 have s:Hid (∀d,Wkp B b w d->d.cell? (J A 0)=some (pV b)/\d.cell? (J y 0)=some (.slice x f.length M)/\A<d.heap.size/\y<d.heap.size/\∀g,x=some (J g 0)->g<d.heap.size/\d.cell? (J g k)=some (U (z:Int))):=by
  intro d j;have a6:=j.other h.wrt hx (by decide) (by decide);have a4:=j.other h.wrt H (by decide) (by decide);refine⟨cr a6 rfl,cr a4 rfl,(ltG a6),(ltG a4),λg hg=> ?_⟩;obtain⟨g',e,E,_,_,a9⟩:=D9 (j.own h.wrt v (by decide) (by decide)) F;rw[hg]at e;cases e;rw[hz]at a9;exact⟨E,a9⟩
 obtain⟨g,rfl,hg,ac,G,y0⟩:=D9 v F;have W:=O h.wrt;unfold maxLen at G;have ag:decide ((k:Int)<0)=false:=by simp
 have af:(k:Int)<(f.length:Int):=by omega
 obtain⟨X,Y,-,-,r⟩:=s.o w (Wkp.refl _ _ _);have y1:=(r g rfl).2;clear h hx H v hz y0 r a2;have a5:Hid (wup a T z o=if o then [40]++wtx a T z++[41] else wtx a T z):=rfl;generalize wup a T z o=tx at *;generalize wtx a T z=tz at *;go_enter func66,ntmps66;go_wp2_with fail
 go_quiet ((go_at_call 67;refine Calls.quiet_of_same (FN.o _ _ ?_);rfl))
 cases o
 · have e:=a5.o;simp only[rZ,if_false]at e;subst e;obtain⟨X,Y,l1,l2,r⟩:=s.o _ (Wkp.still (I.drewN No w nq));obtain⟨E,y1⟩:=r g rfl;go_wp2_with fail
   go_region_with ((go_at_call 16;refine(S.o _ q ?_ ?_ a3).mono ?_;exact Wkp.still (I.drewN No w _);exact W.o.still (I.drewN No w _);rintro e C ⟨rfl,l,p⟩))
   all_goals
    go_wp2;go_end0;exact⟨rfl,l,p⟩
 · have e:=a5.o;simp only[if_true]at e;subst e;simp only[qQ,jQ,xQ]at a3;have L:Wkp B b w (w.drewN nq):=Wkp.still (I.drewN No w nq);obtain⟨X,Y,l1,l2,r⟩:=s.o _ L;have V:=O (R.o (w.drewN nq) q 40 L (W.o.still (I.drewN No w nq)) (by omega));clear r L;go_wp2_with fail
   refine V.o.mono ?_;rintro e C ⟨rfl,l,p⟩;obtain⟨d1,d2,m1,m2,Z⟩:=s.o C l;obtain⟨E,y2⟩:=Z g rfl;have H1:=O l;have H2:=O p;clear l p Z V;go_wp2_with fail
   go_region_with ((go_at_call 16;refine(S.o _ (q++[40]) (H1.o.trans (Wkp.still (I.drewN No C 1))) (H2.o.still (I.drewN No C 1)) (by simp;omega)).mono ?_;rintro e a8 ⟨rfl,D,h4⟩))
   all_goals
    obtain⟨d4,-,m4,-,-⟩:=s.o a8 D;have aa:=O (R.o a8 _ 41 D h4 (by simp;omega));clear D h4;go_wp2_with fail
    refine aa.o.mono ?_;rintro e ai ⟨rfl,h5,h6⟩;go_wp2;go_end0;exact⟨rfl,h5,by simpa using h6⟩
end
def L0(a:bZ)(f:Nat->bZ):Nat->bZ
 |0=>[]
 |n+1=>L0 a f n++((if n=0 then [] else a)++f n)
theorem O5d(a:bZ)(f:Nat->bZ){j n:Nat}(h:j<=n):(L0 a f j).length<=(L0 a f n).length:=by
  induction n with
  | zero => have : j = 0 := by omega
            subst this;exact vQ _
  | succ n c =>
    by_cases b:j=n+1
    · subst b;exact vQ _
    · have:=c (by omega)
      simp only[L0,qQ]
      omega
theorem H6b(a:bZ)(f:Nat->bZ)(j:Nat):L0 a f (j+1)=L0 a f j++((if j=0 then [] else a)++f j):=rfl
section
variable{B a:Nat}{c:Value}{b:Wk}
theorem Q1a(q:Nat)(S:∀(F:Array Value) (W:lZ),(callFunc q F).run prog W= .ok (.enter q F) W)(w:lZ)(p:bZ)(h:Wrt w B a c b p)(P:B<=w.heap.size)(n:Nat)(X:n<=1000000000)(d:ByteArray)(G H:Value)(f:Nat->bZ)(V:p.length+(L0 d.data.toList f n).length<=100000000000000)
 (C:∀(u:lZ) (j:Nat) (x:bZ),Wkp B a w u->Wrt u B a c b x->j<n->x.length+(f j).length<=100000000000000->Calls prog q #[U (j:Int),G,H] u (D7 w B a c b (x++f j))):
 Calls prog 33 #[pV a,U (n:Int),.string d,.func (.func q) #[] #[G,H]] w (D7 w B a c b (p++L0 d.data.toList f n)):=by
 have L:=O h;have D:=O C;have N:Hid (d.data.toList.length=d.size):=bl d;clear h C;go_enter func33,ntmps33;go_wp2_with fail
 go_loopw [10] (λv wr=>∃(j:Nat),j<=n/\v=U (j:Int)/\Hid (Wrt wr B a c b (p++L0 d.data.toList f j))/\Hid (Wkp B a w wr)) (λv _=>n - (intOf v).toNat)
 case atStart=>exact⟨0,wQ _,rfl,by simpa[L0]using L,Wkp.refl _ _ _⟩
 case round=>
  obtain⟨j,T,rfl,l,k⟩:=hrel;by_cases z:j<n
  · have m:=O5d d.data.toList f (show j+1<=n from z);have o:=O (H6b d.data.toList f j);rw[H6b]at m;simp only[qQ]at m;have Z:a<wr.heap.size:=l.o.tys.2.2;by_cases y:j=0
    · have r:=O (D.o wr j _ k.o l.o z (by simp only[qQ];omega));simp only[y,if_true,lY]at o;subst y;have A:=O k.o;clear k l m;go_wp2_with fail
      refine r.o.mono ?_;rintro e K ⟨rfl,g,i⟩;have s:=O g;have t:=O i;clear g i;go_wp2;go_roundw
      case rel=>exact⟨0+1,by omega,by go_num,by rw[o.o,<-List.append_assoc];exact t.o,s.o⟩
      case measure=>simp[intOf];omega
    · simp only[y,if_false]at o m;have Y:(0:Int)<(j:Int):=by omega
      have E:=O (I9a l.o d (by have:=N.o;simp only[qQ];omega) (kQ P k.o.size));have A:=O k.o;have M:=O m;clear k l m;go_wp2_with fail
      refine E.o.mono ?_;rintro e K ⟨rfl,g,i⟩;have r:=O (D.o K j _ (A.o.trans g) i z (by have:=M.o;simp only[qQ];omega));clear g i E;go_wp2_with fail
      refine r.o.mono ?_;rintro e a2 ⟨rfl,g,i⟩;have s:=O g;have t:=O i;clear g i;go_wp2;go_roundw
      case rel=>exact⟨j+1,by omega,by go_num,by rw[o.o];simpa using t,s.o⟩
      case measure=>simp[intOf];omega
  · have R:j=n:=by omega
    subst R;go_wp2_with fail
    go_end0;exact⟨rfl,k.o,l.o⟩
end
section
variable{B b:Nat}{c:Value}{a:Wk}{T:List Ty}{m:Nat}
def wus(a:Bool)(T:List Ty)(d:uZ)(j:Nat):bZ:=wup a T (d.getD j 0).toNat (brk (T.getD (d.getD j 0).toNat ty0).kind (decide (j+1=d.length)))
theorem X6b(F:S5c B b c a T m)(w:lZ)(l:bZ)(h:Wsp w B b c a T l)(t:B<=w.heap.size)(g:Option Addr)(i:Nat)(d:uZ)(R:d.length<=100000000)(u:∀x∈d,0<=x/\x<T.length/\x+1<=m)(A:w.ownsRow 0 3 1 (.slice g d.length i) d.length (C8 d))(y:l.length+(L0 [32,124,32] (wus a T d) d.length).length<=100000000000000):
 Calls prog 35 #[pV b,.slice g d.length i] w (D7 w B b c a (l++L0 [32,124,32] (wus a T d) d.length)):=by
 have E:Hid (∀f,f=(w.alloc (.cells #[pV b] 64)).alloc (.cells #[.slice g d.length i] 43)->Calls prog 33 #[pV b,U (d.length:Int),.string ⟨#[32,124,32]⟩,.func (.func 66) #[] #[pV w.heap.size,pV (w.heap.size+1)]] f (D7 w B b c a (l++L0 [32,124,32] (wus a T d) d.length))):=by
  intro f r;have p:I No w f:=by subst r;exact(I.alloc No _ _).trans (I.alloc No _ _) (λ_ _ x=>x)
  have q:=h.still p;have N:f.heap[w.heap.size]? =some (.cells #[pV b] 64 (0,0)):=by
   subst r;rw[Below.heap_alloc _ _ _ (by simp)];exact qY w _
  have L:f.heap[w.heap.size+1]? =some (.cells #[.slice g d.length i] 43 (0,0)):=by
   subst r;have:=qY (w.alloc (.cells #[pV b] 64)) (.cells #[.slice g d.length i] 43);simpa using this
  have K:f.ownsRow 0 3 1 (.slice g d.length i) d.length (C8 d):=A4 A p (λ_ _ x=>x);refine(Q1a 66 (λ_ _=>by go_simp) f l q.wrt (kQ t p.size) d.length (by omega) ⟨#[32,124,32]⟩ _ _ (wus a T d) y ?_).mono ?_
  · intro G j H k M s v;have S:=u d[j] (mQ s);obtain⟨z,C⟩:∃z:Nat,d[j]=(z:Int):=⟨d[j].toNat,by omega⟩;have D:z<T.length:=by omega
    have e:wus a T d j=wup a T z (brk T[z].kind (decide (j+1=d.length))):=by
     unfold wus;rw[show d.getD j 0=(z:Int) from by simp[s,C],tQ,getD_atQ D]
    rw[e]at v⊢;refine(Y0b F G H (q.kept k M) (kQ t (kQ p.size k.size)) j w.heap.size (w.heap.size+1) g i d s z C (by omega) D _ rfl v (k.other q.wrt N (by decide) (by decide)) (k.other q.wrt L (by decide) (by decide)) (k.own q.wrt K (by decide) (by decide))).mono ?_;rintro e P ⟨rfl,n,o⟩;exact⟨rfl,k.trans n,o⟩
  · rintro e P ⟨rfl,n,o⟩;exact⟨rfl,(Wkp.still p).trans n,o⟩
 clear h A u y;generalize L0 [32,124,32] (wus a T d) d.length=V at *;go_enter func35,ntmps35;go_wp2_with fail
 refine(E.o _ rfl).mono ?_;rintro e W ⟨rfl,n,o⟩;go_wp2;go_end0;exact⟨rfl,n,o⟩
end
def C3a(a:bZ)(f:Nat->bZ):Nat->bZ
 |0=>[]
 |n+1=>C3a a f n++(a++f n)
theorem T4a(a:bZ)(f:Nat->bZ):∀n,C3a a f (n+1)=a++f 0++C3a a (λj=>f (j+1)) n
 |0=>by simp[C3a]
 |n+1=>by
  rw[C3a,T4a a f n,C3a];simp
theorem L9a(a:bZ)(f:Nat->bZ):∀n,L0 a f (n+1)=f 0++C3a a (λj=>f (j+1)) n
 |0=>by simp[L0,C3a]
 |n+1=>by
  rw[L0,L9a a f n,C3a];simp
theorem A5c(a:bZ){f g:Nat->bZ}:∀n,(∀j,j<n->f j=g j)->C3a a f n=C3a a g n
 |0,_=>rfl
 |n+1,h=>by rw[C3a,C3a,A5c a n (λj b=>h j (by omega)),h n (by omega)]
theorem N8a(a:bZ){f g:Nat->bZ}:∀n,(∀j,j<n->f j=g j)->L0 a f n=L0 a g n
 |0,_=>rfl
 |n+1,h=>by rw[L0,L0,N8a a n (λj b=>h j (by omega)),h n (by omega)]
def tr0:Tr:= .nd 0 [] []
theorem Z6a:∀r:List Tr,D1a false r=C3a [44,32] (λj=>txt' (r.getD j tr0)) r.length
 |[]=>by simp[D1a,C3a]
 |t::r=>by
  rw[D1a,Z6a r,jQ,T4a];simp
theorem N1c:∀r:List Tr,D1a true r=L0 [44,32] (λj=>txt' (r.getD j tr0)) r.length
 |[]=>by simp[D1a,L0]
 |t::r=>by
  rw[D1a,Z6a r,jQ,L9a];simp
def upt(t:Tr)(a:Bool):bZ:=if brk t.k a then [40]++txt' t++[41] else txt' t
theorem T9c(t:Tr)(r:List Tr):(if t.k=10\/t.k=9/\r.length≠0 then [40]++txt' t++[41] else txt' t)=upt t (decide (0+1=(t::r).length)):=by
 unfold upt brk;have e:decide (0+1=(t::r).length)=decide (r.length=0):=by
  rw[Bool.eq_iff_iff];simp
 rw[e];by_cases a:t.k=10
 · simp[a]
 · by_cases b:t.k=9
   · by_cases c:r.length=0<;>simp[b,c]
   · simp[a,b]
theorem Z5a:∀r:List Tr,C2a false r=C3a [32,124,32] (λj=>upt (r.getD j tr0) (decide (j+1=r.length))) r.length
 |[]=>by simp[C2a,C3a]
 |t::r=>by
  rw[C2a,Z5a r,T9c,jQ,T4a];simp
theorem M9c:∀r:List Tr,C2a true r=L0 [32,124,32] (λj=>upt (r.getD j tr0) (decide (j+1=r.length))) r.length
 |[]=>by simp[C2a,L0]
 |t::r=>by
  rw[C2a,Z5a r,T9c,jQ,L9a];simp
theorem G2e(a:Bool)(t:Tr):(wtr a t).k=t.k:=by
 unfold wtr;split
 · exact H2e t
 · rfl
theorem J9b(a:Bool){k:Int}{c:List bZ}{b:List Tr}(h:k≠7):wtr a (.nd k c b)= .nd k c (b.map (wtr a)):=by
 cases a
 · have e:wtr false=id:=by funext t;simp[wtr]
   rw[e];simp
 · have e:wtr true=srt:=by funext t;simp[wtr]
   rw[e];exact T1a h
section
variable{bn:Bool}{T:List Ty}{i:Nat}
theorem M6c(a:TsOk T)(b:i<T.length)(c:1<=T[i].kind)(d:T[i].kind<=6):wtx bn T i=U2 T[i].kind:=by
 unfold wtx;rw[Y0 a b,J9b bn (by omega),txt',yY (by omega),yY (by omega),yY (by omega),yY (by omega)]
theorem M8d(a:TsOk T)(b:i<T.length)(h:T[i].kind=8):wtx bn T i=[91]++wtx bn T T[i].of'.toNat++[93]:=by
 unfold wtx;rw[Y0 a b,J9b bn (by omega),txt',yY (by omega),rY h,rY (.inl h)];simp[N0c]
theorem M1a(b:TsOk T)(c:i<T.length)(h:T[i].kind=9\/T[i].kind=10):T[i].fields=[]:=by
 rcases b i c with a|a|a|a|a
 · omega
 · omega
 · omega
 · exact a.2.1
 · exact a.2.1
theorem Y9d(a:TsOk T)(b:i<T.length)(h:T[i].kind=9):wtx bn T i=[40]++L0 [44,32] (λj=>wtx bn T (T[i].list.getD j 0).toNat) T[i].list.length++[41,32,61,62,32]++wtx bn T T[i].of'.toNat:=by
 have e:L0 [44,32] (λj=>wtx bn T (T[i].list.getD j 0).toNat) T[i].list.length=D1a true ((T[i].list.map λx=>tr T x.toNat).map (wtr bn)):=by
  rw[N1c,iZ,iZ];refine N8a _ _ λj c=> ?_;unfold wtx;simp[c]
 rw[e];unfold wtx;rw[Y0 a b,J9b bn (by omega),txt',yY (by omega),yY (by omega),rY h,rY (.inr h),M1a a b (.inl h)];simp[Y1b]
theorem M6d(a:TsOk T)(b:i<T.length)(h:T[i].kind=10):wtx bn T i=L0 [32,124,32] (wus bn T T[i].list) T[i].list.length:=by
 have e:L0 [32,124,32] (wus bn T T[i].list) T[i].list.length=C2a true ((T[i].list.map λx=>tr T x.toNat).map (wtr bn)):=by
  rw[M9c,iZ,iZ];refine N8a _ _ λj c=> ?_;have g:=(a i b).lst T[i].list[j] (mQ c);have d:T[i].list[j].toNat<T.length:=by omega
  unfold wus wup upt wtx;have f:(tr T T[i].list[j].toNat).k=T[T[i].list[j].toNat].kind:=by rw[Y0 a d];rfl
  simp[c,G2e,f,d]
 rw[e];unfold wtx;rw[Y0 a b,J9b bn (by omega),txt',yY (by omega),yY (by omega),yY (by omega),rY h,yY (by omega),M1a a b (.inr h)];simp
end
section
variable{B wb:Nat}{tv:Value}{bn:Wk}{T:List Ty}{m:Nat}
def I8e(B wb:Nat)(tv:Value)(bn:Wk)(T:List Ty)(i:Nat):Prop:=∀(d:i<T.length) (w:lZ) (a:bZ) (b:Option Addr) (c:Nat),T[i].kind=7->Wsp w B wb tv bn T a->B<=w.heap.size->w.ownsRow 0 131 2 (.slice b T[i].fields.length c) T[i].fields.length (G5 T[i].fields)->a.length+(wtx bn T i).length<=100000000000000->
 Calls prog 32 #[pV wb,.slice b T[i].fields.length c] w (D7 w B wb tv bn (a++wtx bn T i))
theorem Z5d{a0:lZ}(i:B<=a0.heap.size)(a:lZ)(q:Nat)(b:bZ)(s:ByteArray)(g:q=a.heap.size)(c:Wkp B wb a0 a)(h:Wrt a B wb tv bn b)(j:b.length+s.size<=100000000000000):
 Calls prog 30 #[pV wb,.slice (some (J q 0)) 1 1] (a.alloc (.cells #[.string s] 9)) (D7 a0 B wb tv bn (b++s.data.toList)):=by
 subst g;have e:s.data.toList.length=s.size:=bl s;refine(X6a (h.still (I.alloc _ _ _)) [s] a.heap.size (0,0) (qY a _) (by simp) (by simp[F8a];omega) (by simp;have:=c.size;omega)).mono ?_;rintro e k ⟨rfl,d,f⟩;exact⟨rfl,(c.trans (Wkp.still (I.alloc _ _ _))).trans d,by simpa[F8a]using f⟩
theorem M5c(IH:S5c B wb tv bn T m)(i:Nat)(bb:i<=m)(ak:I8e B wb tv bn T i)(M:i<T.length)(w:lZ)(D:bZ)(h:Wsp w B wb tv bn T D)(av:B<=w.heap.size)(aa:D.length+(wtx bn T i).length<=100000000000000)(ay:T[i].list.length<=100000000):
 Calls prog 16 #[pV wb,U (i:Int)] w (D7 w B wb tv bn (D++wtx bn T i)):=by
 have hT:=h.ok;obtain⟨ad,b5,b8,b6,c3,bc,al⟩:=h.cell;obtain⟨b9,g,l,c,d,rfl,hg,ba,aw,x0,x1,x2,x3,a3,a4⟩:=al i M;unfold maxLen at aw;clear al;have W:=O (λe=>M8d (bn:=bn) hT M e);have X:=O (λe=>Y9d (bn:=bn) hT M e);have V:=O (λe=>M6d (bn:=bn) hT M e);have Y:=O (λe1 e2=>M6c (bn:=bn) hT M e1 e2);have S:=O (λe A p=>ak M A p g l e);have ac:=hT i M;have an:=ac.lst;have H:=ac.of;have ax:T[i].kind=7\/T[i].kind=8\/T[i].kind=9\/T[i].kind=10\/(1<=T[i].kind/\T[i].kind<=6):=by
  rcases ac with r|r|r|r|r
  · exact .inr (.inr (.inr (.inr ⟨r.1,r.2.1⟩)))
  · exact .inl r.1
  · exact .inr (.inl r.1)
  · exact .inr (.inr (.inl r.1))
  · exact .inr (.inr (.inr (.inl r.1)))
 clear ac ak;generalize wtx bn T i=tx at *;generalize T[i].kind=k at *;generalize T[i].of'=o at *;generalize T[i].fields=f at *;generalize T[i].list=b at *;have y:I No w ((w.alloc (.cells #[pV wb] 64)).alloc (.cells #[U k,.slice g f.length l,.slice c b.length d,U o] 76)):=(I.alloc No _ _).trans (I.alloc No _ _) (λ_ _ x=>x);have t:=h.still y;have v:B<=((w.alloc (.cells #[pV wb] 64)).alloc (.cells #[U k,.slice g f.length l,.slice c b.length d,U o] 76)).heap.size:=kQ av y.size;have a6:Hid (∀e A p,D7 ((w.alloc (.cells #[pV wb] 64)).alloc (.cells #[U k,.slice g f.length l,.slice c b.length d,U o] 76)) B wb tv bn p e A->D7 w B wb tv bn p e A):=by
  rintro e A p ⟨rfl,n,q⟩;exact⟨rfl,(Wkp.still y).trans n,q⟩
 have P:((w.alloc (.cells #[pV wb] 64)).alloc (.cells #[U k,.slice g f.length l,.slice c b.length d,U o] 76)).heap[w.heap.size]? =some (.cells #[pV wb] 64 (0,0)):=by
  rw[Below.heap_alloc _ _ _ (by simp)];exact qY w _
 have r:((w.alloc (.cells #[pV wb] 64)).alloc (.cells #[U k,.slice g f.length l,.slice c b.length d,U o] 76)).heap[w.heap.size+1]? =some (.cells #[U k,.slice g f.length l,.slice c b.length d,U o] 76 (0,0)):=by
  have:=qY (w.alloc (.cells #[pV wb] 64)) (.cells #[U k,.slice g f.length l,.slice c b.length d,U o] 76);simpa using this
 have N:((w.alloc (.cells #[pV wb] 64)).alloc (.cells #[U k,.slice g f.length l,.slice c b.length d,U o] 76)).ownsRow 0 3 1 (.slice c b.length d) b.length (C8 b):=A4 a4 y (λ_ _ x=>x);have Z:((w.alloc (.cells #[pV wb] 64)).alloc (.cells #[U k,.slice g f.length l,.slice c b.length d,U o] 76)).ownsRow 0 131 2 (.slice g f.length l) f.length (G5 f):=A4 a3 y (λ_ _ x=>x);have C:Hid (∀a,Wkp B wb ((w.alloc (.cells #[pV wb] 64)).alloc (.cells #[U k,.slice g f.length l,.slice c b.length d,U o] 76)) a->a.cell? (J w.heap.size 0)=some (pV wb)/\a.cell? (J (w.heap.size+1) 2)=some (.slice c b.length d)/\a.cell? (J (w.heap.size+1) 3)=some (U o)/\w.heap.size<a.heap.size/\w.heap.size+1<a.heap.size):=by
  intro a u;have ao:=u.other t.wrt P (by decide) (by decide);have ah:=u.other t.wrt r (by decide) (by decide);exact⟨cr ao rfl,cr ah rfl,cr ah rfl,(ltG ao),(ltG ah)⟩
 have G:=O (λa a5 p s=>Z5d (wb:=wb) (tv:=tv) (bn:=bn) (a0:=((w.alloc (.cells #[pV wb] 64)).alloc (.cells #[U k,.slice g f.length l,.slice c b.length d,U o] 76))) v a a5 p s);have FW:Hid (∀a z p,Wkp B wb ((w.alloc (.cells #[pV wb] 64)).alloc (.cells #[U k,.slice g f.length l,.slice c b.length d,U o] 76)) a->Wrt a B wb tv bn p->z<i->p.length+(wtx bn T z).length<=100000000000000->Calls prog 16 #[pV wb,U (z:Int)] a (D7 ((w.alloc (.cells #[pV wb] 64)).alloc (.cells #[U k,.slice g f.length l,.slice c b.length d,U o] 76)) B wb tv bn (p++wtx bn T z))):=by
  intro a z p u hw hz hl;refine(IH z a p (by omega) (by omega) (t.kept u hw) (kQ v u.size) hl).mono ?_;rintro e A ⟨rfl,n,q⟩;exact⟨rfl,u.trans n,q⟩
 have FR:Hid (∀a p,Wkp B wb ((w.alloc (.cells #[pV wb] 64)).alloc (.cells #[U k,.slice g f.length l,.slice c b.length d,U o] 76)) a->Wrt a B wb tv bn p->p.length+(L0 [44,32] (λj=>wtx bn T (b.getD j 0).toNat) b.length).length<=100000000000000->Calls prog 33 #[pV wb,U (b.length:Int),.string ⟨#[44,32]⟩,.func (.func 34) #[] #[pV w.heap.size,pV (w.heap.size+1)]] a (D7 ((w.alloc (.cells #[pV wb] 64)).alloc (.cells #[U k,.slice g f.length l,.slice c b.length d,U o] 76)) B wb tv bn (p++L0 [44,32] (λj=>wtx bn T (b.getD j 0).toNat) b.length))):=by
  intro a p u hw hl;have ab:=t.kept u hw;have b3:=u.other t.wrt P (by decide) (by decide);have b1:=u.other t.wrt r (by decide) (by decide);have az:=u.own t.wrt N (by decide) (by decide);refine(Q1a 34 (λ_ _=>by go_simp) a p hw (kQ v u.size) b.length (by omega) ⟨#[44,32]⟩ _ _ (λj=>wtx bn T (b.getD j 0).toNat) hl ?_).mono ?_
  · intro a2 j au E b2 hj am;have be:=an b[j] (mQ hj);obtain⟨z,hz⟩:∃z:Nat,b[j]=(z:Int):=⟨b[j].toNat,by omega⟩;have e:wtx bn T (b.getD j 0).toNat=wtx bn T z:=by
     rw[show b.getD j 0=(z:Int) from by simp[hj,hz],tQ]
    rw[e]at am⊢;refine(M8c IH a2 au (ab.kept E b2) (kQ v (kQ u.size E.size)) j w.heap.size (w.heap.size+1) _ _ _ c d b hj z hz (by omega) (by omega) am (E.other ab.wrt b3 (by decide) (by decide)) (E.other ab.wrt b1 (by decide) (by decide)) (E.own ab.wrt az (by decide) (by decide))).mono ?_;rintro e A ⟨rfl,n,q⟩;exact⟨rfl,E.trans n,q⟩
  · rintro e A ⟨rfl,n,q⟩;exact⟨rfl,u.trans n,q⟩
 have af:=O t;have ag:=O (Wkp.refl B wb ((w.alloc (.cells #[pV wb] 64)).alloc (.cells #[U k,.slice g f.length l,.slice c b.length d,U o] 76)));rcases ax with rfl|rfl|rfl|rfl|⟨hk1,E⟩
 · have HC:=O (S.o rfl _ D t v Z aa);clear h t P r N Z a3 a4 FW G C W X V Y S y v;go_enter func16,ntmps16;go_wp2_with fail
   refine HC.o.mono ?_;rintro e K F;have b0:=a6.o _ _ _ F;obtain⟨rfl,n,q⟩:=b0;go_wp2;go_end0;exact⟨rfl,n,q⟩
 · have e:=W.o rfl;obtain⟨z,rfl⟩:∃z:Nat,o=(z:Int):=⟨o.toNat,by have:=H (.inl rfl);omega⟩;have ai:z<i:=by have:=H (.inl rfl);omega
   rw[tQ]at e;subst e;simp only[qQ,jQ,xQ]at aa;have a7:=O (G.o _ (w.heap.size+1+1) D ⟨#[91]⟩ (by simp) ag.o af.o.wrt (by simp[ByteArray.size];omega));clear h t P r N Z a3 a4 W X V Y S y v H;go_enter func16,ntmps16;go_wp2_with fail
   refine a7.o.mono ?_;rintro e K ⟨rfl,n,q⟩;obtain⟨d1,d2,d3,l1,l2⟩:=C.o K n;have a8:=O (FW.o K z _ n q ai (by simp;omega));clear n q a7;go_wp2_with fail
   refine a8.o.mono ?_;rintro e R ⟨rfl,L,h4⟩;obtain⟨d4,-,-,l4,-⟩:=C.o R L;have a9:=O (G.o R R.heap.size _ ⟨#[93]⟩ rfl L h4 (by simp[ByteArray.size];omega));clear L h4 a8;go_wp2_with fail
   refine a9.o.mono ?_;rintro e aj F;obtain⟨rfl,h5,h6⟩:=a6.o _ _ _ F;go_wp2;go_end0;exact⟨rfl,h5,by simpa using h6⟩
 · have e:=X.o rfl;obtain⟨z,rfl⟩:∃z:Nat,o=(z:Int):=⟨o.toNat,by have:=H (.inr rfl);omega⟩;have ai:z<i:=by have:=H (.inr rfl);omega
   rw[tQ]at e;subst e;generalize L0 [44,32] (λj=>wtx bn T (b.getD j 0).toNat) b.length=rb at *;simp only[qQ,jQ,xQ]at aa;have a7:=O (G.o _ (w.heap.size+1+1) D ⟨#[40]⟩ (by simp) ag.o af.o.wrt (by simp[ByteArray.size];omega));clear h t P r N Z a3 a4 W X V Y S y v H;go_enter func16,ntmps16;go_wp2_with fail
   refine a7.o.mono ?_;rintro e K ⟨rfl,n,q⟩;obtain⟨d1,d2,d3,l1,l2⟩:=C.o K n;have a8:=O (FR.o K _ n q (by simp;omega));clear n q a7;go_wp2_with fail
   refine a8.o.mono ?_;rintro e R ⟨rfl,L,h4⟩;obtain⟨d4,d5,d6,l4,l5⟩:=C.o R L;have a9:=O (G.o R R.heap.size _ ⟨#[41,32,61,62,32]⟩ rfl L h4 (by simp[ByteArray.size];omega));clear L h4 a8;go_wp2_with fail
   refine a9.o.mono ?_;rintro e aj ⟨rfl,h5,h6⟩;obtain⟨d7,-,d8,l7,l8⟩:=C.o aj h5;have ap:=O (FW.o aj z _ h5 h6 ai (by simp;omega));clear h5 h6 a9;go_wp2_with fail
   refine ap.o.mono ?_;rintro e bf F;obtain⟨rfl,h7,h8⟩:=a6.o _ _ _ F;go_wp2;go_end0;exact⟨rfl,h7,by simpa using h8⟩
 · have e:=V.o rfl;subst e;have HC:=O (X6b IH _ D t v c d b ay (λx b4=>by have:=an x b4;omega) N aa);clear h t P r N Z a3 a4 FW G C FR W X V Y S y v H;go_enter func16,ntmps16;go_wp2_with fail
   refine HC.o.mono ?_;rintro e K F;obtain⟨rfl,n,q⟩:=a6.o _ _ _ F;go_wp2;go_end0;exact⟨rfl,n,q⟩
 · have e:=Y.o hk1 E;subst e;obtain⟨d1,-,-,l1,l2⟩:=C.o _ ag.o;have d0:(((w.alloc (.cells #[pV wb] 64)).alloc (.cells #[U k,.slice g f.length l,.slice c b.length d,U o] 76))).cell? (J (w.heap.size+1) 0)=some (U k):=cr r rfl;have ar:=O af.o.wrt;have bd:(U2 k).length<=7:=by
    have hk:k=1\/k=2\/k=3\/k=4\/k=5\/k=6:=by omega
    rcases hk with rfl|rfl|rfl|rfl|rfl|rfl<;>decide
   have FP:Hid (∀ae a5,a5=w.heap.size+1+1->Calls prog 30 #[pV wb,.slice (some (J a5 0)) 1 1] (((((w.alloc (.cells #[pV wb] 64)).alloc (.cells #[U k,.slice g f.length l,.slice c b.length d,U o] 76))).drewN ae).alloc (.cells #[.string ⟨(U2 k).toArray⟩] 9)) (D7 w B wb tv bn (D++U2 k))):=by
    intro ae a5 hq;have hd:=I.drewN No ((w.alloc (.cells #[pV wb] 64)).alloc (.cells #[U k,.slice g f.length l,.slice c b.length d,U o] 76)) ae;refine(G.o (World.drewN ((w.alloc (.cells #[pV wb] 64)).alloc (.cells #[U k,.slice g f.length l,.slice c b.length d,U o] 76)) ae) a5 D ⟨(U2 k).toArray⟩ (by rw[hq];simp) (Wkp.still hd) (ar.o.still hd) (by simp[ByteArray.size];omega)).mono ?_;intro e A F;exact a6.o _ _ _ F
   clear h t P r N Z a3 a4 FW G C FR W X V Y S y v H;have e7:(k==7)=false:=by simp;omega
   have e8:(k==8)=false:=by simp;omega
   have e9:(k==9)=false:=by simp;omega
   have b7:(k==10)=false:=by simp;omega
   have aq:=O (λa=>T2c k hk1 E a);generalize U2 k=wk at *;go_enter func16,ntmps16;go_wp2_with fail
   go_region_with (first
    |(go_at_call 36;refine(aq.o _).mono ?_;rintro e A ⟨rfl,rfl⟩)
    |(go_at_call 30;refine(FP.o 1 _ (by simp)).mono ?_;rintro e K ⟨rfl,n,q⟩))
   all_goals
    go_wp2;go_end0;exact⟨rfl,n,q⟩
end
section
variable{a:Type}
theorem Z5(b:a->List Value)(e:∀x,(b x).length=2):∀(l:List a) (i c:Nat) (d:i<l.length),c<2->(l.flatMap b)[i * 2+c]? =(b l[i])[c]?
 |[],_,_,d,_=>by simp at d
 |x::r,0,c,_,f=>by
  rw[List.flatMap_cons,List.getElem?_append_left (by rw[e];omega)];simp
 |x::r,i+1,c,d,f=>by
  rw[List.flatMap_cons,List.getElem?_append_right (by rw[e];omega),e,show (i+1) * 2+c - 2=i * 2+c by omega,Z5 b e r i c (by simpa using d) f];rfl
theorem C1b(b:a->List Value)(c:∀x,(b x).length=2):∀l:List a,(l.flatMap b).length=l.length * 2
 |[]=>rfl
 |x::r=>by
  rw[List.flatMap_cons,qQ,c,C1b b c r,jQ];omega
end
theorem Q5c[Inhabited (bZ×Int)](d:Array (bZ×Int))(a:Array Value)(h:d.size * 2<=a.size):(Sort.putCells id 0 (Sort.flatK M5 2 d) a).toList.take (d.size * 2)=G5 d.toList:=by
 have k:(G5 d.toList).length=d.size * 2:=by
  unfold G5;rw[C1b M5 (λ_=>rfl)];simp
 refine List.ext_getElem? λt=> ?_;by_cases f:t<d.size * 2
 · have e:=Z5 M5 (λ_=>rfl) d.toList (t / 2) (t % 2) (by simp;omega) (by omega);rw[show t / 2 * 2+t % 2=t by omega]at e;unfold G5;rw[e,List.getElem?_take_of_lt f];have j:t<a.size:=by omega
   have g:(Sort.putCells id 0 (Sort.flatK M5 2 d) a).toList[t]? =some ((M5 d[t / 2]!)[t % 2]!):=by
    unfold Sort.putCells;rw[Array.getElem?_toList,Array.getElem?_mapIdx];simp only[j,Array.getElem?_eq_getElem,Option.map_some];rw[rY (by simp;omega)];simp only[Nat.sub_zero,id];rw[Sort.get_flatK _ _ _ _ f]
   rw[g];have b:t / 2<d.size:=by omega
   have i:d[t / 2]! =d.toList[t / 2]'(by simpa using b):=by simp[b]
   rw[i];have c:t % 2<(M5 (d.toList[t / 2]'(by simpa using b))).length:=by
    show t % 2<2;omega
   rw[gQ c,getElem!_pos (M5 (d.toList[t / 2]'(by simpa using b))) (t % 2) c]
 · rw[List.getElem?_eq_none (by simp;omega),List.getElem?_eq_none (by rw[k];omega)]
theorem Y6c(x y:bZ×Int)(W:lZ):Calls prog 64 #[.agg #[.string ⟨x.1.toArray⟩,U x.2],.agg #[.string ⟨y.1.toArray⟩,U y.2]] W λe b=>e= .returned (U (Lib.compareBytes x.1 y.1))/\∃q f,b=Sort.grow (W.drewN q) f:=by
 have a:=λc=>Tryz.strings_Compare ⟨x.1.toArray⟩ ⟨y.1.toArray⟩ c;generalize d:Lib.compareBytes x.1 y.1=r;simp only[d]at a;go_enter func64,ntmps64;go_wp2_with (go_at_call 65;refine(a _).mono ?_;rintro e b ⟨rfl,rfl⟩)
 go_ret;exact⟨rfl,0,_,by rw[Sort.alloc_eq_grow,Sort.alloc_eq_grow,Sort.grow_grow];rfl⟩
def E7c(x y:bZ×Int):Int:=Lib.compareBytes x.1 y.1
theorem swoN:Sort.SWO (ltOf E7c) where
 irrefl x:=by simp[ltOf,E7c,J4b]
 trans x y z h1 h2:=by
  have a1:=of_decide_eq_true h1;have a:=of_decide_eq_true h2;unfold E7c at a1 a;exact decide_eq_true ((I5a x.1 y.1 z.1 (by omega) (by omega)).2 (.inl a1))
 ntrans x y z h1 h2:=by
  have a1:=of_decide_eq_false h1;have a:=of_decide_eq_false h2;unfold E7c at a1 a;have b:=V9 x.1 y.1;have c:=V9 y.1 z.1;have d:=V9 x.1 z.1;have:=(I5a z.1 y.1 x.1 (by omega) (by omega)).1;refine decide_eq_false ?_;unfold E7c;omega
theorem W2c(w:lZ)(E:Nat)(a:List (bZ×Int))(R:(a.map (·.1)).Nodup)(v:Value)(B:w.ownsRow E 131 2 v a.length (G5 a))(a2:a.length<=100000000):
 Calls prog 63 #[v,.func (.func 64) #[] #[]] w λe l=>e=rT/\I (λk=>some k=v.ownBlock) w l/\l.ownsRow E 131 2 v a.length (G5 (P7a a)):=by
 rcases B.2 with ⟨rfl,H⟩|⟨g,s,m,rfl,L,f,S,P,u,X⟩
 · have d:=AnyF.slices_SortFunc_none Tryz.sortF none 0 (.func (.func 64) #[] #[]) w;refine Calls.mono (show Calls prog 63 _ _ _ from d) ?_;rintro e l ⟨rfl,rfl⟩;have:a=[]:=List.length_eq_zero_iff.1 H;subst this;have e:P7a ([]:List (bZ×Int))=[]:=List.length_eq_zero_iff.1 (F0a _);rw[e];exact⟨rfl,I.refl _ _,B⟩
 · have A:=(ltG f);have G:∀r w,(callFunc 64 r).run prog w= .ok (.enter 64 r) w:=enters_of func64 (by kernel_rfl) rfl;have K:Sort.HoldsK M5 2 w g 0 a.toArray:=by
    intro j c;rw[Sort.size_flatK]at c;simp only[List.size_toArray]at c;refine⟨?_,by rw[Nat.zero_add];exact frozen_of_row w g j _ _ f⟩;rw[Nat.zero_add,cell_of_row w g j _ _ _ f,Sort.get_flatK _ _ _ _ (by simpa using c)];have e:=Z5 M5 (λ_=>rfl) a (j / 2) (j % 2) (by omega) (by omega);rw[show j / 2 * 2+j % 2=j by omega]at e;have o:m[j]? =(G5 a)[j]? :=by
     rw[<-X,List.getElem?_take_of_lt c,Array.getElem?_toList]
    have p:j / 2<a.length:=by omega
    have t:j % 2<(M5 a[j / 2]).length:=by
     show j % 2<2;omega
    rw[o];unfold G5;rw[e,gQ t];simp[p,t]
   have d:=AnyQ.slices_SortFunc Tryz.sortF 2 Tryz.isAgg131 Tryz.sizeOf131 M5 (λ_=>rfl) (λx v D=>by simp[M5]at D;rcases D with rfl|rfl<;>rfl) E7c swoN 64 #[] g 0 s a.toArray w G (λ_ _ _ _ x y=>Y6c x y _) K A (by simp;omega);simp only[List.size_toArray]at d;refine Calls.mono (show Calls prog 63 _ _ _ from d) ?_;rintro e l ⟨rfl,b,n,Z,C,W,rfl⟩;have h:b.size=a.length:=by have:=C.1;simpa using this
   have p:b.toList=P7a a:=by
    have q:=C.2.2;have F:(b.extract 0 a.length).toList=b.toList:=by rw[<-h];simp
    have o:(a.toArray.extract 0 a.length).toList=a:=by simp
    rw[F,o]at q;refine N7a _ _ (q.trans (Y1 a).symm) ((q.map _).nodup_iff.2 R) ?_ (J6a a);rw[List.pairwise_iff_getElem];intro i j z c M;have:=W i j (wQ _) M (by rw[<-h];simpa using c);simp only[Array.length_toList]at z c;have this:=of_decide_eq_false this;unfold E7c at this;rw[getElem!_pos b i z,getElem!_pos b j c]at this;simp only[leN,ltN,Bool.not_eq_true',decide_eq_false_iff_not,Array.getElem_toList];exact this
   have Y:(sortWorldK M5 2 w g 0 n b Z).heap[g]? =some (.cells (Sort.putCells id 0 (Sort.flatK M5 2 b) m) 131 (0,0)):=by
    unfold sortWorldK Sort.grow Sort.putRowK Sort.putRow Sort.mapBlock Sort.ahead;rw[Array.getElem?_append_left (by simpa using A),Array.getElem?_modify,rY rfl,f];rfl
   refine⟨rfl, ?_, ?_⟩
   · refine⟨rfl,rfl,rfl,by simp[sortWorldK,Sort.grow,Sort.putRowK,Sort.putRow,Sort.mapBlock,Sort.ahead],λk N T=> ?_⟩;have V:¬g=k:=λe=>T (by subst e;rfl);unfold sortWorldK Sort.grow Sort.putRowK Sort.putRow Sort.mapBlock Sort.ahead;rw[Array.getElem?_append_left (by simpa using N),Array.getElem?_modify,yY V]
   · refine⟨?_,.inr ⟨g,s,_,rfl,L,Y,S,P, ?_, ?_⟩⟩
     · unfold G5;rw[C1b M5 (λ_=>rfl),F0a]
     · simp[Sort.putCells,u]
     · rw[<-p,<-h];exact Q5c b m (by rw[u,h];omega)
theorem E1c(w:lZ)(b:List (bZ×Int))(o:Option Addr)(i:Nat)(f:w.ownsRow 0 131 2 (.slice o b.length i) b.length (G5 b))(hn:b.length<=100000000):
 Calls prog 62 #[.slice o b.length i] w λe y=>∃p q,e= .returned (.slice p b.length q)/\I No w y/\y.ownsRow w.heap.size 131 2 (.slice p b.length q) b.length (G5 b):=by
 obtain⟨W,L,S,T,V⟩:=info_parts Tryz.infoField;have a5:∀(w:lZ) (a:Option Addr) (n c m h:Nat),(binOp .eql 74 (.slice a n c) (.slice none m h)).run prog w= .ok (.bool a.isNone) w:=λw a n c m h=>Lib.run_eql_slice_nil w _ _ a n c m h underlying74;rcases f.2 with ⟨d,H⟩|⟨g,Z,a2,d,hb,r,a4,hm,a3,R⟩
 · have:b=[]:=List.length_eq_zero_iff.1 H;subst this;simp only[Value.slice.injEq]at d;obtain⟨rfl,-,rfl⟩:=d;go_enter func62,ntmps62;go_wp2;go_ret;exact⟨none,0,rfl,I.refl _ _,rfl,.inl ⟨rfl,rfl⟩⟩
 · simp only[Value.slice.injEq]at d;obtain⟨rfl,-,rfl⟩:=d;have P:=(ltG r);have D:Hid ((w.alloc (.cells #[] 131)).ownsRow w.heap.size 131 2 (.slice (some (J w.heap.size 0)) 0 0) 0 []):=
    ⟨rfl,.inr ⟨w.heap.size,0,#[],rfl,vQ _,qY w _,vQ _,wQ _,rfl,rfl⟩⟩
   have B:=O (Y3c f);have C:Hid (∀j u,(G5 b)[j]? =some u->(w.alloc (.cells #[] 131)).cell? (((J g 0):Addr).add j)=some u):=by
    intro j u M;have e:=f.cells (g:=g) rfl j u M;have K:((J g 0):Addr).add j=(J g j):=by unfold Addr.add;split<;>simp_all
    rw[K]at e⊢;exact I5 P e
   have z:Hid (∀u∈G5 b,u.oneCell'=true):=by
    intro u t;unfold G5 at t;obtain⟨x,-,v⟩:=List.mem_flatMap.1 t;simp[M5]at v;rcases v with rfl|rfl<;>rfl
   clear f R r;go_enter func62,ntmps62;go_wp2_with (at_builtin;refine wpList_append_own _ rfl _ _ 74 rfl w.heap.size 131 W (.agg #[.string ⟨#[]⟩,U 0]) 2 24 underlying74 L S T V rfl (by decide) _ 0 [] rfl D.o (J g 0) b.length i (G5 b) rfl B.o C.o z.o ?c3 ?c4 ?c5 ?_)
   case c3=>simp only[maxLen];omega
   case c4=>omega
   case c5=>simp
   intro v' X l s _;obtain⟨F,G,rfl⟩:=B9 l;have E:=O l;have A:Hid (I No w X):=by
    refine((I.alloc (λk=>w.heap.size<=k) w _).trans (I.grown s) (λk N x=> ?_)).mono (λk N x=>by omega);have Y:some k=some w.heap.size:=x;simp only[zQ]at Y;omega
   clear l s;go_wp2;go_ret;exact⟨F,G,rfl,A.o,E.o⟩
def D5c(a:Bool)(T:List Ty)(p:bZ×Int):bZ:=[32]++p.1++[58,32]++wtx a T p.2.toNat++[59]
def A2a(a:Bool)(T:List Ty)(l:List (bZ×Int)):bZ:=l.flatMap (D5c a T)
def E3a(a:Bool)(l:List (bZ×Int)):List (bZ×Int):=if a then P7a l else l
theorem O8a{bn:Bool}{T:List Ty}(l:List (bZ×Int)){j:Nat}(a:j<l.length):A2a bn T (l.take (j+1))=A2a bn T (l.take j)++D5c bn T l[j]:=by
 unfold A2a;rw[nQ a,List.flatMap_append];simp
theorem U9b{bn:Bool}{T:List Ty}(l:List (bZ×Int)){j:Nat}(c:j<l.length):(A2a bn T (l.take j)).length+(D5c bn T l[j]).length<=(A2a bn T l).length:=by
 have a:=O8a (bn:=bn) (T:=T) l c;have b:A2a bn T l=A2a bn T (l.take (j+1))++A2a bn T (l.drop (j+1)):=by
  unfold A2a;rw[<-List.flatMap_append,List.take_append_drop]
 rw[b,a];simp only[qQ];omega
theorem B1c(a:Bool)(l:List (bZ×Int)):(E3a a l).length=l.length:=by
 unfold E3a;split
 · exact F0a l
 · rfl
theorem B0c{a:Bool}{l:List (bZ×Int)}{p:bZ×Int}(h:p∈E3a a l):p∈l:=by
 unfold E3a at h;split at h
 · exact(Y1 l).subset h
 · exact h
section
variable{bn:Bool}{T:List Ty}{i:Nat}
theorem I2b(b:TsOk T)(c:i<T.length)(h:T[i].kind=7):T[i].list=[]/\(T[i].fields.map (·.1)).Nodup:=by
 rcases b i c with a|a|a|a|a
 · omega
 · exact⟨a.2.1,a.2.2.1⟩
 · omega
 · omega
 · omega
theorem M7d(b:TsOk T)(c:i<T.length)(h:T[i].kind=7):wtx bn T i=[123]++A2a bn T (E3a bn T[i].fields)++(if T[i].fields.length=0 then [] else [32])++[125]:=by
 obtain⟨d,f⟩:=I2b b c h;have e:tr T i= .nd 7 (T[i].fields.map (·.1)) (T[i].fields.map λp=>(λz:Int=>tr T z.toNat) p.2):=by
  rw[Y0 b c,yY (by omega),d,h];simp
 unfold wtx;rw[e];cases bn with
 |false=>
  have a:∀t,wtr false t=t:=λt=>by simp[wtr]
  rw[a,G8c T[i].fields (λz:Int=>tr T z.toNat)];unfold A2a D5c E3a wtx;simp only[a];rfl
 |true=>
  have a:∀t,wtr true t=srt t:=λt=>by simp[wtr]
  rw[a,N9d _ (λz:Int=>tr T z.toNat) f,G8c _ (λz:Int=>srt (tr T z.toNat)),F0a];unfold A2a D5c E3a wtx;simp only[a];rfl
end
section
variable{B wb:Nat}{tv:Value}{bn:Wk}{T:List Ty}{m:Nat}
theorem O3d{a0:lZ}(p:B<=a0.heap.size)(a:lZ)(q:Nat)(f:bZ)(b c d:ByteArray)(j:q=a.heap.size)(g:Wkp B wb a0 a)(k:Wrt a B wb tv bn f)(r:f.length+b.size+c.size+d.size<=100000000000000):
 Calls prog 30 #[pV wb,.slice (some (J q 0)) 3 3] (a.alloc (.cells #[.string b,.string c,.string d] 9)) (D7 a0 B wb tv bn (f++(b.data.toList++c.data.toList++d.data.toList))):=by
 subst j;have l:b.data.toList.length=b.size:=bl b;have n:c.data.toList.length=c.size:=bl c;have o:d.data.toList.length=d.size:=bl d;refine(X6a (k.still (I.alloc _ _ _)) [b,c,d] a.heap.size (0,0) (qY a _) (by simp) (by simp[F8a];omega) (by simp;have:=g.size;omega)).mono ?_;rintro e s ⟨rfl,h,i⟩;exact⟨rfl,(g.trans (Wkp.still (I.alloc _ _ _))).trans h,by simpa[F8a]using i⟩
theorem I1b{w:lZ}{f:Nat}{c:Option Addr}{b:Nat}{a:List (bZ×Int)}(l:w.ownsRow f 131 2 (.slice c a.length b) a.length (G5 a)){j:Nat}(e:j<a.length):
 ∃g,c=some (J g 0)/\g<w.heap.size/\a.length<=b/\b<=maxLen/\w.cell? (J g (j * 2))=some (.string ⟨a[j].1.toArray⟩)/\w.cell? (J g (j * 2+1))=some (U a[j].2):=by
 obtain⟨g,rfl,-,k,h,i,d⟩:=F5 l (by omega);have a0:=Z5 M5 (λ_=>rfl) a j 0 e (by omega);have a1:=Z5 M5 (λ_=>rfl) a j 1 e (by omega);exact⟨g,rfl,k,h,i,d _ _ a0,d _ _ a1⟩
theorem B4c(IH:S5c B wb tv bn T m)(i:Nat)(bc:i<=m)(hi:i<T.length)(ba:T[i].fields.length<=2001):I8e B wb tv bn T i:=by
 intro _ w H fa fc ah h a3 ho a5;have hT:=h.ok;have hE:=M7d (bn:=bn.b) hT hi ah;have aq:=(I2b hT hi ah).2;have an:=(hT i hi).fld;have au:=B1c bn T[i].fields;have ap:∀p∈E3a bn T[i].fields,0<=p.2/\p.2<(i:Int):=λp hp=>an p (B0c hp);have bd:H.length+(A2a bn T (E3a bn T[i].fields)).length+2<=100000000000000:=by
  rw[hE]at a5;simp only[qQ,jQ,xQ]at a5;omega
 have ao:T[i].fields.length≠0->H.length+(A2a bn T (E3a bn T[i].fields)).length+3<=100000000000000:=by
  intro h0;rw[hE,yY h0]at a5;simp only[qQ,jQ,xQ]at a5;omega
 have D:=O hE;clear hE an ah a5;generalize wtx bn T i=tx at *;obtain⟨b8,c3,be⟩:=h.wrt.tys;generalize b9:T[i].fields=V at *;generalize a8:E3a bn V=b at *
 /- what follows,whatever was done ahead of it -/
 have o:Hid (∀a0:lZ,I No w a0->∀a q g s,q=a.heap.size->Wkp B wb a0 a->Wrt a B wb tv bn g->g.length+s.size<=100000000000000->Calls prog 30 #[pV wb,.slice (some (J q 0)) 1 1] (a.alloc (.cells #[.string s] 9)) (D7 a0 B wb tv bn (g++s.data.toList))):=
  λa0 r a q g s=>Z5d (kQ a3 r.size) a q g s
 have b7:Hid (∀a0:lZ,I No w a0->∀a q g s1 s2 s3,q=a.heap.size->Wkp B wb a0 a->Wrt a B wb tv bn g->g.length+s1.size+s2.size+s3.size<=100000000000000->Calls prog 30 #[pV wb,.slice (some (J q 0)) 3 3] (a.alloc (.cells #[.string s1,.string s2,.string s3] 9)) (D7 a0 B wb tv bn (g++(s1.data.toList++s2.data.toList++s3.data.toList)))):=
  λa0 r a q g s1 s2 s3=>O3d (kQ a3 r.size) a q g s1 s2 s3
 have FW:Hid (∀a0:lZ,I No w a0->∀a z g,Wkp B wb a0 a->Wrt a B wb tv bn g->z<i->g.length+(wtx bn T z).length<=100000000000000->Calls prog 16 #[pV wb,U (z:Int)] a (D7 a0 B wb tv bn (g++wtx bn T z))):=by
  intro a0 r a z g ha hw E M;refine(IH z a g (by omega) (by omega) ((h.still r).kept ha hw) (kQ a3 (kQ r.size ha.size)) M).mono ?_;rintro e w' ⟨rfl,K,L⟩;exact⟨rfl,ha.trans K,L⟩
 have al:Hid (∀a0:lZ,I No w a0->Wrt a0 B wb tv bn H):=λa0 r=>h.wrt.still r;have FR:Hid (∀a0:lZ,I No w a0->∀ga gc,a0.ownsRow 0 131 2 (.slice ga b.length gc) b.length (G5 b)->∀a,Wkp B wb a0 a->a.ownsRow 0 131 2 (.slice ga b.length gc) b.length (G5 b)):=
  λa0 r ga gc hr a ha=>ha.own (h.wrt.still r) hr (by decide) (by decide)
 have ar:=O aq;clear aq;generalize ay:bn.b=bb at *;clear ay;cases bb with
 |false=>
  have a9:b=V:=by rw[<-a8];rfl
  subst a9;clear a8 au;have c:I No w w:=I.refl _ _;have ai:=O ho;clear h ho;go_enter func32,ntmps32;go_wp2_with fail
  have X:=O (o.o w c w w.heap.size H ⟨#[123]⟩ rfl (Wkp.refl _ _ _) (al.o w c) (by simp[ByteArray.size];omega));refine X.o.mono ?_;rintro e u1 ⟨rfl,K,L⟩;have S:=O K;have R1:=O L;clear K L X;go_wp2_with fail
  go_loopw [19] (λv wr=>∃j:Nat,j<=b.length/\v=U (j:Int)/\Hid (Wrt wr B wb tv bn (H++[123]++A2a false T (b.take j)))/\Hid (Wkp B wb w wr)) (λv _=>b.length - (intOf v).toNat)
  case atStart=>exact⟨0,wQ _,rfl,by simpa[A2a]using R1,S.o⟩
  case round=>
   obtain⟨j,hj,rfl,f,d⟩:=hrel;have ad:B<=wr.heap.size:=kQ a3 (kQ c.size d.o.size);by_cases A:j<b.length
   · have M:=U9b (bn:=false) (T:=T) b A;have G:=O (O8a (bn:=false) (T:=T) b A);obtain⟨ax,af,hg,az,ae,x0,x1⟩:=I1b (FR.o w c _ _ ai.o wr d.o) A;subst af;unfold maxLen at ae;have N:=ap b[j] (mQ A);unfold D5c at M G;generalize b[j]=p at *;obtain⟨C,zz⟩:=p;obtain⟨z,rfl⟩:∃z:Nat,zz=(z:Int):=⟨zz.toNat,by have:=N.1;simp only at this;omega⟩;have ak:z<i:=by have:=N.2;simp only at this;omega
     simp only[tQ,qQ,jQ,xQ]at M G x0 x1;clear N;have n:I No wr (wr.alloc (.cells #[.string ⟨C.toArray⟩,U (z:Int)] 131)):=I.alloc _ _ _;have Z:=O (O3d (B:=B) (wb:=wb) (tv:=tv) (bn:=bn) (a0:=wr.alloc (.cells #[.string ⟨C.toArray⟩,U (z:Int)] 131)) (kQ ad n.size) _ (wr.heap.size+1) _ ⟨#[32]⟩ ⟨C.toArray⟩ ⟨#[58,32]⟩ (by simp) (Wkp.refl _ _ _) (f.o.still n) (by simp[ByteArray.size];omega));have WA:=O (f.o.still n);have W:=O (d.o.trans (Wkp.still n));have a6:wr.heap.size<(wr.alloc (.cells #[.string ⟨C.toArray⟩,U (z:Int)] 131)).heap.size:=by simp
     clear d f n;go_wp2_with fail
     refine Z.o.mono ?_;rintro e P ⟨rfl,x,h4⟩;have hq:=x.other WA.o (qY wr _) (by decide) (by decide);have d1:P.cell? (J wr.heap.size 1)=some (U (z:Int)):=cr hq rfl;have d2:wr.heap.size<P.heap.size:=yQ a6 x.size;have a2:=O (FW.o w c P z _ (W.o.trans x) h4 ak (by simp only[qQ,jQ,xQ];omega));clear x h4 hq WA W Z a6;go_wp2_with fail
     refine a2.o.mono ?_;rintro e a7 ⟨rfl,h5,h6⟩;have Y:=O (o.o w c a7 a7.heap.size _ ⟨#[59]⟩ rfl h5 h6 (by simp[ByteArray.size];omega));clear h5 h6 a2;go_wp2_with fail
     refine Y.o.mono ?_;rintro e b4 ⟨rfl,h7,h8⟩;have K7:=O h7;have R8:=O h8;clear h7 h8 Y;go_wp2;go_roundw
     case rel=>exact⟨j+1,by omega,by go_num,by rw[G.o];simpa using R8,K7.o⟩
     case measure=>simp[intOf];omega
   · have ag:j=b.length:=by omega
     subst ag;rw[xZ]at f;have a4:Wkp B wb w w:=Wkp.still c;by_cases E:b.length=0
     · have t:=O (o.o w c wr wr.heap.size _ ⟨#[125]⟩ rfl d.o f.o (by simp[ByteArray.size];omega));have k:=D.o;rw[rY E]at k;have F:=O k;clear k D;clear d f;have aj:(b.length:Int)=0:=by omega
       simp only[aj]at *;go_wp2_with fail
       refine t.o.mono ?_;rintro e R ⟨rfl,y,u⟩;go_wp2;go_end0;exact⟨rfl,a4.trans y,by rw[F.o];simpa using u⟩
     · have b1:(0:Int)<(b.length:Int):=by omega
       have b0:=ao E;have k:=D.o;rw[yY E]at k;have F:=O k;clear k D;have t:=O (o.o w c wr wr.heap.size _ ⟨#[32]⟩ rfl d.o f.o (by simp[ByteArray.size];omega));clear d f;go_wp2_with fail
       refine t.o.mono ?_;rintro e R ⟨rfl,y,u⟩;have aa:=O (o.o w c R R.heap.size _ ⟨#[125]⟩ rfl y u (by simp[ByteArray.size];omega));clear y u t;go_wp2_with fail
       refine aa.o.mono ?_;rintro e b5 ⟨rfl,ab,ac⟩;go_wp2;go_end0;exact⟨rfl,a4.trans ab,by rw[F.o];simpa using ac⟩
 |true=>
  have a9:b=P7a V:=by rw[<-a8];rfl
  have HC:=O (E1c w V fa fc ho (by omega));clear h ho;go_enter func32,ntmps32;go_wp2_with fail
  refine HC.o.mono ?_;rintro e b3 ⟨ga,gc,rfl,av,o1⟩;have am:=O (W2c b3 w.heap.size V ar.o _ o1 (by omega));have S:=O av;have O1:=O o1;clear av o1 HC;go_wp2_with fail
  refine am.o.mono ?_;rintro e l ⟨rfl,aw,o2⟩;have c:I No w l:=S.o.trans aw (λb2 hk b6=>by have:=(A9 O1.o b2 b6.symm).1;omega);rw[<-a9]at o2;have ai:=O (C9 o2 (wQ _));clear S O1 am aw o2 a9 ar a8;generalize V.length=bf at *;subst au;go_wp2_with fail
  have X:=O (o.o l c l l.heap.size H ⟨#[123]⟩ rfl (Wkp.refl _ _ _) (al.o l c) (by simp[ByteArray.size];omega));refine X.o.mono ?_;rintro e u1 ⟨rfl,K,L⟩;have S:=O K;have R1:=O L;clear K L X;go_wp2_with fail
  go_loopw [19] (λv wr=>∃j:Nat,j<=b.length/\v=U (j:Int)/\Hid (Wrt wr B wb tv bn (H++[123]++A2a true T (b.take j)))/\Hid (Wkp B wb l wr)) (λv _=>b.length - (intOf v).toNat)
  case atStart=>exact⟨0,wQ _,rfl,by simpa[A2a]using R1,S.o⟩
  case round=>
   obtain⟨j,hj,rfl,f,d⟩:=hrel;have ad:B<=wr.heap.size:=kQ a3 (kQ c.size d.o.size);by_cases A:j<b.length
   · have M:=U9b (bn:=true) (T:=T) b A;have G:=O (O8a (bn:=true) (T:=T) b A);obtain⟨ax,af,hg,az,ae,x0,x1⟩:=I1b (FR.o l c _ _ ai.o wr d.o) A;subst af;unfold maxLen at ae;have N:=ap b[j] (mQ A);unfold D5c at M G;generalize b[j]=p at *;obtain⟨C,zz⟩:=p;obtain⟨z,rfl⟩:∃z:Nat,zz=(z:Int):=⟨zz.toNat,by have:=N.1;simp only at this;omega⟩;have ak:z<i:=by have:=N.2;simp only at this;omega
     simp only[tQ,qQ,jQ,xQ]at M G x0 x1;clear N;have n:I No wr (wr.alloc (.cells #[.string ⟨C.toArray⟩,U (z:Int)] 131)):=I.alloc _ _ _;have Z:=O (O3d (B:=B) (wb:=wb) (tv:=tv) (bn:=bn) (a0:=wr.alloc (.cells #[.string ⟨C.toArray⟩,U (z:Int)] 131)) (kQ ad n.size) _ (wr.heap.size+1) _ ⟨#[32]⟩ ⟨C.toArray⟩ ⟨#[58,32]⟩ (by simp) (Wkp.refl _ _ _) (f.o.still n) (by simp[ByteArray.size];omega));have WA:=O (f.o.still n);have W:=O (d.o.trans (Wkp.still n));have a6:wr.heap.size<(wr.alloc (.cells #[.string ⟨C.toArray⟩,U (z:Int)] 131)).heap.size:=by simp
     clear d f n;go_wp2_with fail
     refine Z.o.mono ?_;rintro e P ⟨rfl,x,h4⟩;have hq:=x.other WA.o (qY wr _) (by decide) (by decide);have d1:P.cell? (J wr.heap.size 1)=some (U (z:Int)):=cr hq rfl;have d2:wr.heap.size<P.heap.size:=yQ a6 x.size;have a2:=O (FW.o l c P z _ (W.o.trans x) h4 ak (by simp only[qQ,jQ,xQ];omega));clear x h4 hq WA W Z a6;go_wp2_with fail
     refine a2.o.mono ?_;rintro e a7 ⟨rfl,h5,h6⟩;have Y:=O (o.o l c a7 a7.heap.size _ ⟨#[59]⟩ rfl h5 h6 (by simp[ByteArray.size];omega));clear h5 h6 a2;go_wp2_with fail
     refine Y.o.mono ?_;rintro e b4 ⟨rfl,h7,h8⟩;have K7:=O h7;have R8:=O h8;clear h7 h8 Y;go_wp2;go_roundw
     case rel=>exact⟨j+1,by omega,by go_num,by rw[G.o];simpa using R8,K7.o⟩
     case measure=>simp[intOf];omega
   · have ag:j=b.length:=by omega
     subst ag;rw[xZ]at f;have a4:Wkp B wb w l:=Wkp.still c;by_cases E:b.length=0
     · have t:=O (o.o l c wr wr.heap.size _ ⟨#[125]⟩ rfl d.o f.o (by simp[ByteArray.size];omega));have k:=D.o;rw[rY E]at k;have F:=O k;clear k D;clear d f;have aj:(b.length:Int)=0:=by omega
       simp only[aj]at *;go_wp2_with fail
       refine t.o.mono ?_;rintro e R ⟨rfl,y,u⟩;go_wp2;go_end0;exact⟨rfl,a4.trans y,by rw[F.o];simpa using u⟩
     · have b1:(0:Int)<(b.length:Int):=by omega
       have b0:=ao E;have k:=D.o;rw[yY E]at k;have F:=O k;clear k D;have t:=O (o.o l c wr wr.heap.size _ ⟨#[32]⟩ rfl d.o f.o (by simp[ByteArray.size];omega));clear d f;go_wp2_with fail
       refine t.o.mono ?_;rintro e R ⟨rfl,y,u⟩;have aa:=O (o.o l c R R.heap.size _ ⟨#[125]⟩ rfl y u (by simp[ByteArray.size];omega));clear y u t;go_wp2_with fail
       refine aa.o.mono ?_;rintro e b5 ⟨rfl,ab,ac⟩;go_wp2;go_end0;exact⟨rfl,a4.trans ab,by rw[F.o];simpa using ac⟩
theorem J1a(b:∀i (a:i<T.length),T[i].list.length<=100000000/\T[i].fields.length<=2001):∀m,S5c B wb tv bn T m
 |0=>λi w c g=>by omega
 |m+1=>λi w c f a h d e=>M5c (J1a b m) i (by omega) (B4c (J1a b m) i (by omega) a (b i a).2) a w c h d e (b i a).1
end
theorem L2a{w:lZ}{B c:Nat}{n:Value}{d:Wk}{l:bZ}(h:Wrt w B c n d l)(i:l≠[]):
 Calls prog 14 #[pV c] w λe D=>e= .returned (.string ⟨l.toArray⟩)/\Below B w D:=by
 obtain⟨F,p,v,k,_,f⟩:=h;have u:l.length≠0:=by simpa using i
 obtain⟨g,a,b,rfl,o,m,K,q,s,y⟩:∃g a b,v= .slice (some (J g 0)) l.length a/\B<=g/\w.heap[g]? =some (.cells b 5 (0,0))/\l.length<=a/\a<=maxLen/\b.size=a * 1/\b.toList.take (l.length * 1)=Lib.byteCells l:=by
  rcases f.2 with ⟨_,C⟩|⟨g,a,b,z,r⟩
  · exact absurd C u
  · exact⟨g,a,b,z,r⟩
 have E:w.drew.cell? (J c 1)=some (.slice (some (J g 0)) l.length a):=by
  have:w.drew.heap[c]? =some (.cells (#[p,.slice (some (J g 0)) l.length a,n,.bool d.b]++d.rest) d.e (0,0)):=k;rw[cell_of_row w.drew c 1 _ _ _ this];exact M5a
 have G:(Builtin.unsafeSliceData_ #[52] 90 #[.slice (some (J g 0)) l.length a]).run prog w.drew= .ok (pV g) w.drew:=
  Lib.run_unsafeSliceData_row _ _ _ _ _ _ (by omega)
 have H:(Builtin.unsafeString_ #[90,3] 9 #[pV g,U l.length]).run prog w.drew= .ok (.string ⟨l.toArray⟩) (w.drew.freeze (J g 0) l.length):=by
  refine Lib.run_unsafeString_row w.drew 90 3 9 5 underlying90 Tryz.cellsByte g b.size (by have t:w.drew.heap[g]? =some (.cells b 5 (0,0)):=m;simp[World.shape?,t]) l i (by omega) (by unfold maxLen at q;omega) ?_;intro j x A;have:=f.cells (g:=g) rfl j (.int .u8 x.toNat) (by simp[Lib.byteCells,A]);exact this
 clear f k y m s;go_enter func14,ntmps14;go_wp2;go_region
 all_goals (go_wp2;go_ret;exact⟨rfl,Lib.below_freeze (Below.drew (Below.refl B w)) (p:=(J g 0)) o _⟩)
def Few(T:List Ty):Prop:=∀i (a:i<T.length),T[i].list.length<=100000000/\T[i].fields.length<=2001
theorem Y8d{bn:Bool}{T:List Ty}{i:Nat}(a:TsOk T)(b:i<T.length):wtx bn T i≠[]:=by
 unfold wtx wtr;split
 · exact U5c _ (Z1d _ (G4b a i b))
 · exact U5c _ (G4b a i b)
theorem F8c{bn:Bool}{T:List Ty}{i:Nat}:(wtx bn T i).length<=wg (tr T i):=by
 unfold wtx wtr;split
 · exact kQ (T7b _) (Z0d _)
 · exact T7b _
section
variable{a b N:Nat}{T:List Ty}{D:Dt}
theorem J2c(w:lZ)(h:Shp w a b N T D)(P:Few T)(j:Bool)(d:Nat)(m:w.heap[d]? =some (.cells #[.pointer none,sN,sN,.bool j] 56 (0,0)))(i:Nat)(B:i<T.length)(hl:wg (tr T i)<=1000000000):
 Calls prog 24 #[pV a,pV d,U (i:Int)] w λe S=>e= .returned (.string ⟨(wtx j T i).toArray⟩)/\Below d w S:=by
 have A:=h.ok;obtain⟨_,_,yv,W,s,r,C⟩:=h;obtain⟨f,c,rfl⟩:=B9 r;have a4:=(ltG m);have a2:=(ltG s);have X:w.cell? (J a 0)=some (.slice f T.length c):=cr s rfl;have Y:w.cell? (J d 2)=some (sN):=cr m rfl;have Z:w.frozen? (J d 2)=false:=frozen_of_row w d 2 _ _ m;have q:=I.set w (J d 2) (.slice f T.length c);have u:∀g l e,w.heap[g]? =some (.cells l e (0,0))->e≠56->¬g=d:=by
  rintro g l e n t rfl;rw[m]at n;simp only[zQ,xW]at n;exact t n.2.1.symm
 have F:Wrt (w.setCell (J d 2) (.slice f T.length c)) d d (.slice f T.length c) (wkW j) []:=⟨vQ _,.pointer none,sN,by rw[heap_setCell_same w d 2 _ _ _ m];rfl,.inl rfl,kW _ _ _ _⟩;have E:Wsp (w.setCell (J d 2) (.slice f T.length c)) d d (.slice f T.length c) (wkW j) T []:=by
  refine⟨F,A,W,A4 (C9 r (wQ _)) q λg n x=> ?_,C.imp (TyV.chg q (λg _ _ R o=> ?_) (λ_ _ _=>trivial))⟩
  · obtain⟨_,l,o⟩:=A9 r g n;exact u g l _ o (by decide) x
  · obtain⟨l,e,o,t⟩:=o;exact u g l _ o (by rcases t with rfl|rfl<;>decide) R
 have a3:=F8c (bn:=(wkW j).b) (T:=T) (i:=i);have v:=O (J1a (B:=d) (wb:=d) (tv:=(.slice f T.length c)) (bn:=wkW j) P (i+1) i _ [] (vQ _) B E (by simp;omega) (by simp;omega));have L:=O (Y8d (bn:=j) A B);have G:=O (q.toBelow (B:=d) (λk _ x=>by have x':k=d:=x;omega) (by omega));clear E F q r C s m u;go_enter func24,ntmps24;go_wp2_with fail
 refine v.o.mono ?_;rintro e V ⟨rfl,y,p⟩;have a5:d<V.heap.size:=p.tys.2.2;rw[lY]at p;have M:=O (L2a p L.o);have H:=O (G.o.trans (y.below (by simp;omega)));clear y p v;go_wp2_with fail
 refine M.o.mono ?_;rintro e a6 ⟨rfl,z⟩;have K:=O (H.o.trans z);clear z;go_wp2;go_ret;exact⟨rfl,K.o⟩
theorem S3d(w:lZ)(h:Shp w a b N T D)(g:Few T)(i:Nat)(j:i<T.length)(l:wg (tr T i)<=1000000000):
 Calls prog 162 #[pV a,U (i:Int)] w λe m=>e= .returned (.string ⟨(wtx true T i).toArray⟩)/\I No w m:=by
 have f:=O (J2c _ (h.alloc (.cells #[.pointer none,sN,sN,.bool true] 56)) g true w.heap.size (qY w _) i j l);clear h;go_enter func162,ntmps162;go_wp2_with fail
 refine f.o.mono ?_;rintro e o ⟨rfl,c⟩;have d:=O (((I.alloc (λk=>w.heap.size<=k) w _).trans (I.below c) (λ_ _ x=>x)).mono (S':=λ_=>False) (λk n x=>by omega));clear c;go_wp2;go_ret;exact⟨rfl,d.o⟩
theorem P6c(w:lZ)(h:Shp w a b N T D)(g:Few T)(i:Nat)(j:i<T.length)(l:wg (tr T i)<=1000000000):
 Calls prog 10 #[pV a,U (i:Int)] w λe m=>e= .returned (.string ⟨(wtx false T i).toArray⟩)/\I No w m:=by
 have f:=O (J2c _ (h.alloc (.cells #[.pointer none,sN,sN,.bool false] 56)) g false w.heap.size (qY w _) i j l);clear h;go_enter func10,ntmps10;go_wp2_with fail
 refine f.o.mono ?_;rintro e o ⟨rfl,c⟩;have d:=O (((I.alloc (λk=>w.heap.size<=k) w _).trans (I.below c) (λ_ _ x=>x)).mono (S':=λ_=>False) (λk n x=>by omega));clear c;go_wp2;go_ret;exact⟨rfl,d.o⟩
end
