/-
  A part of the proof.
-/
import Derived.Test.YtneelacbkianjaaGreatDoorNodeA
import Derived.Test.YtneelacbkianjaaGreatDoorFitA
import Derived.Deep.DeepCutAuto
import Derived.Test.YtneelacbkianjaaGreatDoorPlainD
import Derived.Laws.AppendOwnNone
set_option maxHeartbeats 16000000
set_option maxRecDepth 100000
namespace Go.Proofs.YtneelacbkianjaaGreatDoor
open Go.Proofs.Tryz
open Go.RowKit Go.Maps
theorem W7d:Keyed prog 9:=string_keyed underlying9
theorem U2b(l:bZ)(h:l.length<=1000000):keyOf prog 9 (.string ⟨l.toArray⟩)=some (.string l):=by
 have a:(⟨l.toArray⟩:ByteArray).size<=maxLen:=by simp[ByteArray.size];unfold maxLen;omega
 unfold keyOf;simp only[underlying9];unfold mapKey;simp[underlying9,a]
theorem Y4d(w:lZ):(zeroValue 3).run prog w= .ok (.int .i64 0) w:=by kernel_rfl
structure FrM(w:lZ)(q m:Nat)(f:Fr):Prop where
 own:∃n D,w.ownsMap prog 9 (plainElem (H:=Unit) prog 3) q n D/\n<=m/\IsMap D/\∀(s:bZ) (d:DataW Unit),D.atKey (.string s) d=match f s with
  |some j=> .lit (.int .i64 j)
  |none=>d
theorem FrM.new(w:lZ):FrM (w.alloc (.map #[] 0)) w.heap.size 0 Fr.no:=⟨0,.map [],World.ownsMap_made w _ _ _,vQ _,isMap_empty,λ_ _=>rfl⟩
theorem FrM.more{w:lZ}{q m a:Nat}{f:Fr}(h:FrM w q m f)(d:m<=a):FrM w q a f:=by
 obtain⟨n,D,b,c,r⟩:=h.own;exact⟨n,D,b,by omega,r⟩
theorem FrM.lt{w:lZ}{q m:Nat}{f:Fr}(h:FrM w q m f):q<w.heap.size:=by
 obtain⟨n,D,⟨c,b,a,_⟩,_⟩:=h.own;exact(ltG a)
theorem FrM.chg{S:Nat->Prop}{w b:lZ}{q m:Nat}{f:Fr}(h:FrM w q m f)(g:I S w b)(i:¬S q):FrM b q m f:=by
 obtain⟨n,D,⟨d,c,a,e⟩,r⟩:=h.own;exact⟨n,D,⟨d,c,by rw[g.block q (ltG a) i];exact a,e⟩,r⟩
theorem FrM.notcells{w:lZ}{q m:Nat}{f:Fr}(h:FrM w q m f){cs:Array Value}{e:TypeId}{fz:Nat×Nat}:w.heap[q]? ≠some (.cells cs e fz):=by
 obtain⟨n,D,⟨c,b,a,_⟩,_⟩:=h.own;rw[a];simp
theorem FrM.look{w:lZ}{q m:Nat}{f:Fr}(h:FrM w q m f)(s:bZ)(o:s.length<=1000000):
 (Instr.lookup 177 (.map (some q)) (.string ⟨s.toArray⟩) true).run prog w= .ok (.tuple #[.int .i64 ((f s).getD 0),.bool (f s).isSome]) w:=by
 obtain⟨n,D,⟨u,t,l,F,_,rfl⟩,_,_,i⟩:=h.own;have a:=i s (.lit (.int .i64 0));have b:=i s (.lit (.int .i64 1));rcases fit_look true W7d underlying177 (Y4d w) l F (U2b s o) with ⟨g,_,e⟩|⟨k,y,_,_,g,r,e,_⟩
 · rw[e]at a b;cases d:f s with
   |none=>rw[g];rfl
   |some j=>
    rw[d]at a b;simp only[DataW.lit.injEq,Lit.int.injEq,true_and]at a b;omega
 · rw[e]at a b;cases d:f s with
   |none=>
    rw[d]at a b;simp only at a b;rw[a]at b;simp at b
   |some j=>
    rw[d]at a;simp only at a;have:∃c,k.val= .int .i64 c/\y=(.lit (.int .i64 c),[])/\(Lit.int .i64 c).wf=true:=plainElem_int_inv underlying3 (by rw[r]);obtain⟨c,p,rfl,_⟩:=this;simp only[DataW.lit.injEq,Lit.int.injEq,true_and]at a;rw[g,p,a];rfl
theorem FrM.put{w:lZ}{q m:Nat}{f:Fr}(h:FrM w q m f)(s:bZ)(j:Int)(p:s.length<=1000000)(v:m<=1000000)(t:0<=j/\j<=1000000):
 ∃a,(Instr.mapUpdate 177 (.map (some q)) (.string ⟨s.toArray⟩) (.int .i64 j)).run prog w= .ok () a/\FrM a q (m+1) (f.set s j)/\I (λk=>k=q) w a:=by
 obtain⟨n,D,i,y,c,e⟩:=h.own;have r:(Lit.int .i64 j).wf=true:=by
  simp[Lit.wf,IntKind.min,IntKind.max,IntKind.bits,IntKind.signed];omega
 obtain⟨a,o,l,g⟩:=i.update W7d underlying177 (by unfold maxLen;omega) (U2b s p) (plainElem_int underlying3 r);refine⟨a,o,⟨n+1,_,l,by omega,c.put _ _,λu d=> ?_⟩,(I.grown g).mono (λk _ x=>by simpa using x)⟩;by_cases b:u=s
 · subst b;rw[atKey_put_same c (show WideAt.IsKeyLit (.string u) from trivial)];simp[Fr.set]
 · rw[atKey_put_other (by simpa using b),e u];simp[Fr.set,b]
structure Bsx(w:lZ)(B bb:Nat)(nv av tv:Value)(ms:List Nat)(m:Nat)(fs:List Fr)(ts:uZ):Prop where
 low:B<=bb
 blk:w.heap[bb]? =some (.cells #[nv,av,tv] 99 (0,0))
 ar:w.ownsRow B 177 1 av fs.length (ms.map λq=> .map (some q))
 tos:w.ownsRow B 3 1 tv ts.length (C8 ts)
 len:ms.length=fs.length
 nd:ms.Nodup
 ge:∀q∈ms,B<=q
 fr:∀i (h:i<ms.length) (h':i<fs.length),FrM w ms[i] m fs[i]
section
variable{w d:lZ}{B bb m:Nat}{e c tv:Value}{a:List Nat}{b:List Fr}{f:uZ}
theorem Bsx.chg{S:Nat->Prop}(h:Bsx w B bb e c tv a m b f)(j:I S w d)(n:¬S bb)(o:∀g,c.ownBlock=some g->¬S g)(p:∀g,tv.ownBlock=some g->¬S g)(r:∀q∈a,¬S q):Bsx d B bb e c tv a m b f:=
 ⟨h.low,by rw[j.block bb (ltG h.blk) n];exact h.blk,A4 h.ar j o,A4 h.tos j p,h.len,h.nd,h.ge,λi k l=>(h.fr i k l).chg j (r _ (mQ k))⟩
theorem Bsx.still(h:Bsx w B bb e c tv a m b f)(g:I No w d):Bsx d B bb e c tv a m b f:=h.chg g id (λ_ _=>id) (λ_ _=>id) (λ_ _=>id)
theorem Bsx.more{g:Nat}(h:Bsx w B bb e c tv a m b f)(l:m<=g):Bsx w B bb e c tv a g b f:=⟨h.low,h.blk,h.ar,h.tos,h.len,h.nd,h.ge,λi j k=>(h.fr i j k).more l⟩
theorem Bsx.cell(h:Bsx w B bb e c tv a m b f){i:Nat}(q:i<a.length):∃g j,c= .slice (some (J g 0)) a.length j/\g<w.heap.size/\a.length<=j/\j<=maxLen/\w.cell? (J g i)=some (.map (some a[i])):=by
 have k:=h.ar;rw[<-h.len]at k;obtain⟨r,j,rfl⟩:=B9 k;obtain⟨g,rfl,_,p,l,n,o⟩:=F5 k (by omega);exact⟨g,j,rfl,p,l,n,o i _ (by simp[q])⟩
theorem Bsx.put(h:Bsx w B bb e c tv a m b f)(p:a≠[])(x:bZ)(j:Int)(T:x.length<=1000000)(P:m<=1000000)(N:0<=j/\j<=1000000):
 ∃d,(Instr.mapUpdate 177 (.map (some (a.getLast p))) (.string ⟨x.toArray⟩) (U j)).run prog w= .ok () d/\Bsx d B bb e c tv a (m+1) (I8 b x j) f/\I (λk=>k=a.getLast p) w d:=by
 have r:=h.len;have X:0<a.length:=List.length_pos_iff.2 p;have W:b≠[]:=by
  rintro rfl;simp at r;exact p r
 have y:a.getLast p=a[a.length - 1]:=by rw[List.getLast_eq_getElem]
 have H:H4a b=b[a.length - 1]'(by omega):=by
  unfold H4a;have F:b.length - 1=a.length - 1:=by omega
  rw[List.getLastD_eq_getLast?,List.getLast?_eq_getElem?,F,gQ (by omega)];rfl
 have q:=h.fr (a.length - 1) (by omega) (by omega);obtain⟨d,S,hF,o⟩:=q.put x j T P N;have Y:=q;refine⟨d,by rw[y];exact S, ?_,by rw[y];exact o⟩;have V:bb≠a[a.length - 1]:=λl=>by
  have:=q.notcells (cs:=#[e,c,tv]) (e:=99) (fz:=(0,0));rw[<-l]at this;exact this h.blk
 have A:∀{v:Value} {n:Nat} {D:List Value} {s:TypeId} {C:Nat},w.ownsRow B s C v n D->∀g,v.ownBlock=some g->g≠a[a.length - 1]:=by
  intro v n D s C R g K G;obtain⟨_,E,L⟩:=A9 R g K;have:=q.notcells (cs:=E) (e:=s) (fz:=(0,0));rw[<-G]at this;exact this L
 have z:(I8 b x j).length=b.length:=by
  unfold I8;rw[qQ,List.length_dropLast];simp only[jQ,xQ];omega
 refine⟨h.low,by rw[o.block bb (ltG h.blk) V];exact h.blk,by rw[z];exact A4 h.ar o (A h.ar),A4 h.tos o (A h.tos),by rw[z];exact r,h.nd,h.ge,λi t u=> ?_⟩;by_cases M:i=a.length - 1
 · subst M;have l:(I8 b x j)[a.length - 1]'u=(b[a.length - 1]'(by omega)).set x j:=by
    refine bY ?_;rw[<-gQ,Q5b b x j (a.length - 1) (by omega),H]
   rw[l];exact hF
 · have l:(I8 b x j)[i]'u=b[i]'(by omega):=by
    refine bY ?_;rw[<-gQ,A1c b x j i (by omega),gQ]
   rw[l];refine((h.fr i t (by omega)).chg o ?_).more (by omega);exact(List.pairwise_iff_getElem.1 h.nd) i (a.length - 1) t (by omega) (by omega)
theorem Q1d(h:Bsx w B bb e c tv a m b f)(i:a≠[])(t:a.length<=1000000):Calls prog 155 #[pV bb] w λl d=>l= .returned (.map (some (a.getLast i)))/\I No w d:=by
 have s:0<a.length:=List.length_pos_iff.2 i;obtain⟨g,k,rfl,r,p,n,v⟩:=h.cell (i:=a.length - 1) (by omega);have j:a.getLast i=a[a.length - 1]:=by rw[List.getLast_eq_getElem]
 rw[j];have o:w.cell? (J bb 1)=some (.slice (some (J g 0)) a.length k):=cr h.blk rfl;have u:bb<w.heap.size:=(ltG h.blk);clear h j;unfold maxLen at n;generalize a[a.length - 1]=q at *;go_enter func155,ntmps155;go_wp2_with fail
 go_region
 all_goals go_wp2
 all_goals go_ret
 all_goals exact⟨rfl,I.drewN No _ 1⟩
end
theorem I6b(x:bZ):∀(a:List Fr) (k:Nat) (i:Int),lookQ x (a.drop k)=some i->lookQ x a=some i
 |a,0,i,h=>h
 |[],k+1,i,h=>by simpa using h
 |f::r,k+1,i,h=>by
  have:=I6b x r k i h;rw[lookQ,this]
theorem R7d(x:bZ)(a:List Fr)(k:Nat)(b:k<a.length):lookQ x (a.drop k)=match lookQ x (a.drop (k+1)) with
 |some i=>some i
 |none=>a[k] x:=by
 rw[List.drop_eq_getElem_cons b,lookQ];rfl
section
variable{w c:lZ}{B b m:Nat}{f e g:Value}{d:List Nat}{a:List Fr}{h:uZ}
theorem S4c(r:Bsx w B b f e g d m a h)(a6:d.length<=1000000)(t C D E:Int)(u:Option Addr)(A y:Nat)(x:bZ)(F G n:Int)(hx:x.length<=1000000):
 Calls prog 153 #[pV b,.agg #[U t,U C,U D,U E,.slice u A y,.string ⟨x.toArray⟩,U F,U G,U n]] w λK c=>
  I No w c/\K=match lookQ x a with
   |some j=> .returned (U j)
   |none=>gu 5 n:=by
 have a4:=r.len;obtain⟨Y,P,rfl⟩:=B9 r.ar;have S:=qY w (.cells #[U t,U C,U D,U E,.slice u A y,.string ⟨x.toArray⟩,U F,U G,U n] 87);have L:I No w (w.alloc (.cells #[U t,U C,U D,U E,.slice u A y,.string ⟨x.toArray⟩,U F,U G,U n] 87)):=I.alloc No _ _;have V:Hid (∀i,I No (w.alloc (.cells #[U t,U C,U D,U E,.slice u A y,.string ⟨x.toArray⟩,U F,U G,U n] 87)) i->i.cell? (J w.heap.size 5)=some (.string ⟨x.toArray⟩)/\i.cell? (J w.heap.size 8)=some (U n)/\i.cell? (J b 1)=some (.slice Y a.length P)/\w.heap.size<i.heap.size/\b<i.heap.size):=λi o=>by
  refine⟨A8 o ?_,A8 o ?_, ?_, ?_, ?_⟩
  · rw[cell_of_row _ _ 5 _ _ _ S];rfl
  · rw[cell_of_row _ _ 8 _ _ _ S];rfl
  · have:=((r.still L).still o).blk;rw[cell_of_row i b 1 _ _ _ this];rfl
  · have:=o.size;simp only[World.size_alloc]at this;omega
  · exact(Array.getElem?_eq_some_iff.1 ((r.still L).still o).blk).1
 have FM:Hid (∀i,I No (w.alloc (.cells #[U t,U C,U D,U E,.slice u A y,.string ⟨x.toArray⟩,U F,U G,U n] 87)) i->∀k (T:k<a.length),∃p q,Y=some (J p 0)/\p<i.heap.size/\a.length<=P/\P<=maxLen/\i.cell? (J p k)=some (.map (some q))/\
  (Instr.lookup 177 (.map (some q)) (.string ⟨x.toArray⟩) true).run prog i.drew= .ok (.tuple #[U ((a[k] x).getD 0),.bool (a[k] x).isSome]) i.drew):=λi o k T=>by
  have hb:=(r.still L).still o;obtain⟨p,c',K,h1,h2,h3,h4⟩:=hb.cell (i:=k) (by omega);simp only[Value.slice.injEq]at K;obtain⟨rfl,_,rfl⟩:=K;have s:=((hb.still (I.drewN No i 1)).fr k (by omega) T).look x hx;exact⟨p,_,rfl,h1,by omega,h3,h4,s⟩
 have HG:=O (B1a);have W:=O L;have aa:a.length<=1000000:=by omega
 generalize Z:lookQ x a=R;have M:=O Z;clear r S L a4 Z a6;generalize (⟨x.toArray⟩:ByteArray)=xs at *;go_enter func153,ntmps153;have b0:=(V.o _ (I.refl _ _)).2.2.1;go_wp2_with fail
 go_loopw [5] (λv wr=>∃(k:Nat) (z:Int),k<=a.length/\v=U z/\z=(k:Int) - 1/\Hid (lookQ x (a.drop k)=none)/\Hid (I No (w.alloc (.cells #[U t,U C,U D,U E,.slice u A y,.string xs,U F,U G,U n] 87)) wr)) (λv _=>(intOf v+1).toNat)
 case atStart=>exact⟨a.length,(a.length:Int) - 1,vQ _,by go_num,rfl,by simp[Hid,lookQ],I.refl _ _⟩
 case round=>
  obtain⟨k,z,T,rfl,hz,X,H⟩:=hrel;obtain⟨a8,f8,fb,l1,l2⟩:=V.o _ H.o;cases k with
  |zero=>
   have a5:lookQ x a=none:=by simpa using X.o
   obtain rfl:R=none:=by rw[<-M.o];exact a5
   have ab:z<0:=by omega
   have ac:¬0<=z:=by omega
   go_wp2_with fail
   refine(HG.o _ _ _).mono ?_;rintro K ae ⟨rfl,hc⟩;exact⟨rfl,D3 (D3 W.o H.o) hc,rfl⟩
  |succ k=>
   have a7:z=(k:Int):=by omega
   clear hz;subst a7;have a2:k<a.length:=by omega
   obtain⟨p,q,rfl,hg,a9,a3,x0,N⟩:=FM.o _ H.o k a2;unfold maxLen at a3;have l:=R7d x a k a2;rw[X.o]at l;simp only at l;cases s:a[k] x with
   |none=>
    rw[s]at N l;simp only[Option.getD_none,Option.isSome_none]at N;have HN:=O l;clear l s M;go_wp2_with fail
    go_region
    all_goals go_wp2
    all_goals go_roundw
    case rel=>exact⟨k,(k:Int) - 1,by omega,by go_num,rfl,HN.o,D3 H.o (I.drewN No _ 1)⟩
    case measure=>simp[intOf]
   |some j=>
    rw[s]at N l;simp only[Option.getD_some,Option.isSome_some]at N;obtain rfl:R=some j:=by rw[<-M.o];exact I6b x a k j l
    clear l s M;go_wp2_with fail
    go_region
    all_goals go_wp2
    all_goals go_ret
    all_goals exact⟨D3 (D3 W.o H.o) (I.drewN No _ 1),rfl⟩
end
def Bkp(B a:Nat)(f:Value)(w g:lZ):Prop:=I (λk=>B<=k/\(k=a\/f.ownBlock=some k\/(∃c e,w.heap[k]? =some (.cells c 177 e))\/∃d b,w.heap[k]? =some (.map d b))) w g
theorem Bkp.refl(B a:Nat)(b:Value)(w:lZ):Bkp B a b w w:=I.refl _ _
theorem Bkp.still{B bb:Nat}{tv:Value}{w a:lZ}(h:I No w a):Bkp B bb tv w a:=h.mono λ_ _ x=>x.elim
theorem Bkp.trans{B d:Nat}{g:Value}{a b c:lZ}(h:Bkp B d g a b)(k:Bkp B d g b c):Bkp B d g a c:=by
 refine⟨k.os.trans h.os,k.tape.trans h.tape,k.output.trans h.output,kQ h.size k.size,λi j l=> ?_⟩;have e:=h.block i j l;refine(k.block i (yQ j h.size) (λx=>l ⟨x.1, ?_⟩)).trans e;rcases x.2 with f|f|⟨cs,fz,hh⟩|⟨es,cl,hh⟩
 · exact .inl f
 · exact .inr (.inl f)
 · exact .inr (.inr (.inl ⟨cs,fz,by rw[<-e];exact hh⟩))
 · exact .inr (.inr (.inr ⟨es,cl,by rw[<-e];exact hh⟩))
theorem Bkp.below{B b:Nat}{d:Value}{w a:lZ}(h:Bkp B b d w a)(c:B<=w.heap.size):Below B w a:=I.toBelow h (λ_ _ x=>x.1) c
theorem Bkp.row{B d:Nat}{i:Value}{w j:lZ}(m:Bkp B d i w j){c:Nat}{f:Nat}{v:Value}{n:Nat}{k:List Value}(h:w.ownsRow c 3 f v n k)(l:v.ownBlock≠some d)(o:∀g,v.ownBlock=some g->i.ownBlock≠some g):j.ownsRow c 3 f v n k:=by
 refine A4 h m λg a b=> ?_;obtain⟨_,p,e⟩:=A9 h g a;rcases b.2 with rfl|b|⟨cs,fz,h2⟩|⟨es,cl,h2⟩
 · exact l a
 · exact o g a b
 · rw[e]at h2;simp at h2
 · rw[e]at h2;simp at h2
structure Bnt(w0 w:lZ)(B bb:Nat)(nv tv:Value)(m:Nat)(fs:List Fr)(ts:uZ):Prop where
 hz:w0.heap.size<=B
 le:B<=w.heap.size
 bel:Below w0.heap.size w0 w
 st:∃av ms,Bsx w B bb nv av tv ms m fs ts
def atI(N:List Nd)(i:Nat):Int:=(N.getD i nd0).at'
def BnPost(j w:lZ)(B a:Nat)(g b:Value)(N:List Nd)(m:Nat)(h:uZ)(r:Br)(e:Ending)(c:lZ):Prop:=
 Bkp B a b w c/\match r with
  | .bad d i=>e=gu d (atI N i)
  | .ok f l=>e=rT/\Bnt j c B a g b m f (upd h l)
def A0a(h:lZ)(B c:Nat)(e g:Value)(N:List Nd)(t:Nt):Prop:=∀(b f:Nat) (w:lZ) (m:Nat) (a:List Fr) (d:uZ),Em N b f t->Bnt h w B c e g m a d->a≠[]->m+2 * nN t<=100000->a.length+nN t<=100000->d.length=N.length->
 Calls prog 107 #[pV c,U (ixN b f t)] w (BnPost h w B c e g N (m+2 * nN t) d (bnT a b t))
theorem Bnt.kept{i w g:lZ}{B b:Nat}{d f:Value}{m:Nat}{c:List Fr}{e:uZ}(h:Bnt i w B b d f m c e)(a:I No w g):Bnt i g B b d f m c e:=by
 obtain⟨j,l,k⟩:=h.st;exact⟨h.hz,kQ h.le a.size,h.bel.trans (I.toBelow a (λ_ _ x=>x.elim) h.bel.size),j,l,k.still a⟩
section
variable{c:lZ}{B a:Nat}{d b:Value}{N:List Nd}
theorem V7d(f:List Nt)(P:∀p∈f,1<=p.k/\A0a c B a d b N p)(h x:Nat)(w:lZ)(m:Nat)(k:List Fr)(y:uZ)(he:EmL N h x f)(a2:Bnt c w B a d b m k y)(a5:k≠[])(hm:m+2 * nNL f<=100000)(hf:k.length+nNL f<=100000)(an:y.length=N.length)
 (t:Option Addr) (u:Nat) (ho:w.ownsRow 0 3 1 (.slice t f.length u) f.length (C8 (px h f))) (aa:(Value.slice t f.length u).ownBlock≠some a) (ab:∀g,(Value.slice t f.length u).ownBlock=some g->b.ownBlock≠some g):
 Calls prog 69 #[pV a,.slice t f.length u] w (BnPost c w B a d b N (m+2 * nNL f) y (bnL false k h f)):=by
 have s:∀p∈f,1<=p.k:=λp hp=>(P p hp).1;have D:=G1a f h s;have PX:Hid (∀j (C:j<f.length),(px h f)[j]? =some (ixN (h+nNL (f.take j)) (x+nTL (f.take j)) f[j])):=W3d f h x s;have NT:Hid (∀j,nNL (f.take j)<=nNL f):=λj=>by
  have:=M3a (f.take j) (f.drop j);rw[List.take_append_drop]at this;omega
 have NS:Hid (∀j (C:j<f.length),nNL (f.take (j+1))=nNL (f.take j)+nN f[j]):=λj C=>by
  rw[nQ C,M3a,nNL,nNL];omega
 have ag:Hid (∀j l n,bnL false k h (f.take j)= .ok l n->l.length=k.length):=λj l n e=>W4 (f.take j) false k h a5 l n e;have RW:Hid (∀L,Bkp B a b w L->L.ownsRow 0 3 1 (.slice t (px h f).length u) (px h f).length (C8 (px h f))):=λL ha=>by
  rw[D];exact ha.row ho aa ab
 have ae:=O P;have HE:=O he;have H0:=O a2;have am:f.length<=100000:=by
  have:=U1b f s;omega
 clear ho aa ab P he a2;generalize ak:px h f=o at *;clear ak;rw[<-D];have H:=O D;have ap:o.length<=100000:=by omega
 clear D am;generalize a3:bnL false k h f=Y;have W:=O a3;clear a3;go_enter func69,ntmps69;go_wp2_with fail
 go_loopw [8] (λv wr=>∃(j:Nat) (l:List Fr) (n:List (Nat×Int)),j<=o.length/\v=U (j:Int)/\Hid (bnL false k h (f.take j)= .ok l n)/\Hid (Bnt c wr B a d b (m+2 * nNL (f.take j)) l (upd y n))/\Hid (Bkp B a b w wr)) (λv _=>o.length - (intOf v).toNat)
 case atStart=>exact⟨0,k,[],wQ _,rfl,by simp[Hid,bnL],by simpa[Hid,nNL,upd]using H0.o,Bkp.refl _ _ _ _⟩
 case round=>
  obtain⟨j,l,n,C,rfl,z,K,G⟩:=hrel;by_cases a7:j<o.length
  · have r:j<f.length:=by have:=H.o;omega
    obtain⟨g,e1,hg,ao,ai,x1⟩:=D9 (RW.o _ G.o) a7;subst e1;unfold maxLen at ai;have a6:o[j]=ixN (h+nNL (f.take j)) (x+nTL (f.take j)) f[j]:=by
     have:=PX.o j r;rw[gQ a7]at this;simpa using this
    rw[a6]at x1;have ac:=ag.o j l n z.o;have a9:=NS.o j r;have al:=NT.o (j+1);have V:=O ((ae.o f[j] (mQ r)).2 _ _ wr _ l (upd y n) (EmL.at HE.o j r) K.o (S6 a5 ac) (by omega) (by omega) (by rw[P4a];exact an));have S:=O (K5d s k h j r);have R:Hid (∀e i,bnL false k h (f.take (j+1))= .bad e i->Y= .bad e i):=λe i q=>by rw[<-W.o];exact V0d s k h (j+1) q
    generalize ixN (h+nNL (f.take j)) (x+nTL (f.take j)) f[j]=ix at *;generalize a4:bnT l (h+nNL (f.take j)) f[j]=br at *;have T:=O a4;have ad:=O a9;clear a6 a9 al ac a4;go_wp2_with fail
    refine V.o.mono ?_;rintro e aq ⟨a8,E⟩;have X:=O (G.o.trans a8);have A:=S.o;rw[z.o,Br.and_ok,T.o]at A;clear a8 V;cases br with
    |bad Z i=>
     obtain rfl:e=gu Z (atI N i):=E;obtain rfl:=R.o Z i A;exact⟨rfl,X.o,rfl⟩
    |ok ah l2=>
     obtain⟨rfl,M⟩:=E;rw[<-G6c,Nat.add_assoc,<-Nat.mul_add,<-ad.o]at M;have F:=O M;have af:=O A;clear M A S R T;go_wp2_with fail
     all_goals go_roundw
     case rel=>exact⟨j+1,ah,n++l2,by omega,by go_num,af.o,F.o,X.o⟩
     case measure=>simp[intOf];omega
  · have aj:j=o.length:=by omega
    subst aj;have E:Y= .ok l n:=by
     rw[<-W.o,<-z.o,H.o,xZ]
    have q:=K.o;rw[H.o,xZ]at q;have F:=O q;subst E;clear q K z;go_wp2_with fail
    go_end0;exact⟨G.o,rfl,F.o⟩
end
theorem B7b(w:lZ)(b:uZ)(o:Option Addr)(h:Nat)(i:w.ownsRow 0 3 1 (.slice o b.length h) b.length (C8 b))(hn:b.length<=100000):
 Calls prog 71 #[.slice o b.length h] w λe v=>∃p q,e= .returned (.slice p b.length q)/\I No w v/\v.ownsRow w.heap.size 3 1 (.slice p b.length q) b.length (C8 b):=by
 obtain⟨V,K,R,S,T⟩:=info_parts Tryz.infoInt;have a4:∀(w:lZ) (a:Option Addr) (n c m f:Nat),(binOp .eql 43 (.slice a n c) (.slice none m f)).run prog w= .ok (.bool a.isNone) w:=λw a n c m f=>Lib.run_eql_slice_nil w _ _ a n c m f underlying43;rcases i.2 with ⟨d,G⟩|⟨g,Y,Z,d,hb,r,a3,hm,a2,P⟩
 · have:b=[]:=List.length_eq_zero_iff.1 G;subst this;simp only[Value.slice.injEq]at d;obtain⟨rfl,-,rfl⟩:=d;go_enter func71,ntmps71;go_wp2;go_ret;exact⟨none,0,rfl,I.refl _ _,rfl,.inl ⟨rfl,rfl⟩⟩
 · simp only[Value.slice.injEq]at d;obtain⟨rfl,-,rfl⟩:=d;have N:=(ltG r);have C:Hid ((w.alloc (.cells #[] 3)).ownsRow w.heap.size 3 1 (.slice (some (J w.heap.size 0)) 0 0) 0 []):=
    ⟨rfl,.inr ⟨w.heap.size,0,#[],rfl,vQ _,qY w _,vQ _,wQ _,rfl,rfl⟩⟩
   have A:Hid ((C8 b).length=b.length * 1):=by simp[Hid,C8]
   have B:Hid (∀j u,(C8 b)[j]? =some u->(w.alloc (.cells #[] 3)).cell? (((J g 0):Addr).add j)=some u):=by
    intro j u L;have e:=i.cells (g:=g) rfl j u L;have H:((J g 0):Addr).add j=(J g j):=by unfold Addr.add;split<;>simp_all
    rw[H]at e⊢;exact I5 N e
   have y:Hid (∀u∈C8 b,u.oneCell'=true):=by
    intro u t;simp only[C8,jZ]at t;obtain⟨x,-,rfl⟩:=t;rfl
   clear i P r;go_enter func71,ntmps71;go_wp2_with (at_builtin;refine wpList_append_own _ rfl _ _ 43 rfl w.heap.size 3 V (U 0) 1 8 underlying43 K R S T rfl (by decide) _ 0 [] rfl C.o (J g 0) b.length h (C8 b) rfl A.o B.o y.o ?c3 ?c4 ?c5 ?_)
   case c3=>simp only[maxLen];omega
   case c4=>omega
   case c5=>simp
   intro v' W l s _;obtain⟨E,F,rfl⟩:=B9 l;have D:=O l;have z:Hid (I No w W):=by
    refine((I.alloc (λk=>w.heap.size<=k) w _).trans (I.grown s) (λk M x=> ?_)).mono (λk M x=>by omega);have X:some k=some w.heap.size:=x;simp only[zQ]at X;omega
   clear l s;go_wp2;go_ret;exact⟨E,F,rfl,z.o,by simpa using D.o⟩
def PaP(w:lZ)(a:uZ)(e:Ending)(d:lZ):Prop:=∃b c,e= .returned (.slice b a.length c)/\I No w d/\d.ownsRow w.heap.size 3 1 (.slice b a.length c) a.length (C8 a)
theorem F1a{w:lZ}{base:Nat}(c:base<=w.heap.size)(a:uZ)(d:a.length<=1000):(w.alloc (.cells (C8 a).toArray 3)).ownsRow base 3 1 (.slice (some (J w.heap.size 0)) a.length a.length) a.length (C8 a):=by
 have b:(C8 a).length=a.length:=by simp[C8]
 exact⟨by rw[b];omega,.inr ⟨w.heap.size,a.length,(C8 a).toArray,rfl,c,qY w _,vQ _,by unfold maxLen;omega,by simp[b],by simp;exact List.take_of_length_le (by omega)⟩⟩
section
variable(w:lZ)(a d c:Int)(b:uZ)(f:Option Addr)(e:Nat)(h:ByteArray)(i j g:Int)
theorem A9c(k:Int)(l:k=1\/k=2\/k=3\/k=4\/k=5\/k=16):Calls prog 39 #[.agg #[U k,U a,U d,U c,.slice f b.length e,.string h,U i,U j,U g]] w (PaP w []):=by
 rcases l with rfl|rfl|rfl|rfl|rfl|rfl<;>
 · go_enter func39,ntmps39;go_wp2;go_ret;exact⟨none,0,rfl,I.alloc No _ _,rfl,.inl ⟨rfl,rfl⟩⟩
theorem A8c(k:Int)(n:k=8\/k=13\/k=14\/k=15\/k=17\/k=18\/k=21\/k=24\/k=25):Calls prog 39 #[.agg #[U k,U a,U d,U c,.slice f b.length e,.string h,U i,U j,U g]] w (PaP w [a]):=by
 rcases n with rfl|rfl|rfl|rfl|rfl|rfl|rfl|rfl|rfl<;>
 · have l:=λm=>O (F1a (w:=w.alloc (.cells #[U m,U a,U d,U c,.slice f b.length e,.string h,U i,U j,U g] 87)) (base:=w.heap.size) (by simp) [a] (by simp));go_enter func39,ntmps39;go_wp2;go_ret;exact⟨_,_,rfl,D3 (I.alloc No _ _) (I.alloc No _ _),by simpa[C8]using (l _).o⟩
theorem A4b(k:Int)(o:k=9\/k=12\/k=19\/k=23\/k=22/\c= -1):Calls prog 39 #[.agg #[U k,U a,U d,U c,.slice f b.length e,.string h,U i,U j,U g]] w (PaP w [a,d]):=by
 rcases o with rfl|rfl|rfl|rfl|⟨rfl,rfl⟩<;>
 · have l:=λm n=>O (F1a (w:=w.alloc (.cells #[U m,U a,U d,U n,.slice f b.length e,.string h,U i,U j,U g] 87)) (base:=w.heap.size) (by simp) [a,d] (by simp));go_enter func39,ntmps39;go_wp2;go_ret;exact⟨_,_,rfl,D3 (I.alloc No _ _) (I.alloc No _ _),by simpa[C8]using (l _ _).o⟩
theorem L3b(l:Int)(m:l=20\/l=22/\c≠-1):Calls prog 39 #[.agg #[U l,U a,U d,U c,.slice f b.length e,.string h,U i,U j,U g]] w (PaP w [a,d,c]):=by
 rcases m with rfl|⟨rfl,hc⟩
 · have k:=O (F1a (w:=w.alloc (.cells #[U 20,U a,U d,U c,.slice f b.length e,.string h,U i,U j,U g] 87)) (base:=w.heap.size) (by simp) [a,d,c] (by simp));go_enter func39,ntmps39;go_wp2;go_ret;exact⟨_,_,rfl,D3 (I.alloc No _ _) (I.alloc No _ _),by simpa[C8]using k.o⟩
 · have k:=O (F1a (w:=w.alloc (.cells #[U 22,U a,U d,U c,.slice f b.length e,.string h,U i,U j,U g] 87)) (base:=w.heap.size) (by simp) [a,d,c] (by simp));have n:(c== -1)=false:=by simpa using hc
   go_enter func39,ntmps39;go_wp2;go_ret;exact⟨_,_,rfl,D3 (I.alloc No _ _) (I.alloc No _ _),by simpa[C8]using k.o⟩
theorem A7c(k:Int)(t:k=10\/k=11\/k=26)(v:w.ownsRow 0 3 1 (.slice f b.length e) b.length (C8 b))(u:b.length<=100000):Calls prog 39 #[.agg #[U k,U a,U d,U c,.slice f b.length e,.string h,U i,U j,U g]] w (PaP w b):=by
 rcases t with rfl|rfl|rfl<;>
 · have l:=λq=>O (B7b (w.alloc (.cells #[U q,U a,U d,U c,.slice f b.length e,.string h,U i,U j,U g] 87)) b f e (A4 v (I.alloc No _ _) (λ_ _ x=>x)) u);go_enter func39,ntmps39;go_wp2_with fail
   refine(l _).o.mono ?_;rintro y z ⟨r,s,rfl,m,n⟩;have p:=O (C9 n (by simp:w.heap.size<=_));have o:=O (D3 (I.alloc No _ _) m);clear m n l;go_wp2;go_ret;exact⟨r,s,rfl,o.o,p.o⟩
end
theorem O6d(w:lZ)(o:Obj)(a:Int):((w.alloc o).alloc (.cells #[U a] 3)).ownsRow w.heap.size 3 1 (.slice (some (J (w.heap.size+1) 0)) 1 1) 1 [U a]:=by
 have:=F1a (w:=w.alloc o) (base:=w.heap.size) (by simp) [a] (by simp);simpa[C8]using this
section
variable(w:lZ)(b i d:Int)(a:uZ)(h:Option Addr)(c:Nat)(f:ByteArray)(g j e:Int)
theorem Y0c(r:w.ownsRow 0 3 1 (.slice h a.length c) a.length (C8 a))(hn:a.length<=100000):Calls prog 39 #[.agg #[U 7,U b,U i,U d,.slice h a.length c,.string f,U g,U j,U e]] w (PaP w (b::a)):=by
 obtain⟨y,t,S,T,V⟩:=info_parts Tryz.infoInt;have n:Hid (((w.alloc (.cells #[U 7,U b,U i,U d,.slice h a.length c,.string f,U g,U j,U e] 87)).alloc (.cells #[U b] 3)).ownsRow w.heap.size 3 1 (.slice (some (J (w.heap.size+1) 0)) 1 1) 1 [U b]):=O6d w _ b;have q:=O (D3 (I.alloc No w (.cells #[U 7,U b,U i,U d,.slice h a.length c,.string f,U g,U j,U e] 87)) (I.alloc No _ (.cells #[U b] 3)));rcases r.2 with ⟨m,L⟩|⟨o,X,Y,m,Z,M,a3,hm,a2,R⟩
 · have:a=[]:=List.length_eq_zero_iff.1 L;subst this;simp only[Value.slice.injEq]at m;obtain⟨rfl,-,rfl⟩:=m;go_enter func39,ntmps39;go_wp2_with (at_builtin;refine wpList_append_own_none rfl _ _ 43 rfl w.heap.size 3 y 1 underlying43 t _ _ _ rfl n.o rfl ?_)
   go_wp2;go_ret;exact⟨_,_,rfl,q.o,n.o⟩
 · simp only[Value.slice.injEq]at m;obtain⟨rfl,-,rfl⟩:=m;have C:Hid ((C8 a).length=a.length * 1):=by simp[Hid,C8]
   have D:Hid (∀p u,(C8 a)[p]? =some u->((w.alloc (.cells #[U 7,U b,U i,U d,.slice (some (J o 0)) a.length c,.string f,U g,U j,U e] 87)).alloc (.cells #[U b] 3)).cell? (((J o 0):Addr).add p)=some u):=by
    intro p u N;have H:=r.cells (g:=o) rfl p u N;exact A8 q.o H
   have A:Hid (∀u∈C8 a,u.oneCell'=true):=by
    intro u v;simp only[C8,jZ]at v;obtain⟨x,-,rfl⟩:=v;rfl
   clear r R M;go_enter func39,ntmps39;go_wp2_with (at_builtin;refine wpList_append_own _ rfl _ _ 43 rfl w.heap.size 3 y (U 0) 1 8 underlying43 t S T V rfl (by decide) _ 1 _ rfl n.o (J o 0) a.length c (C8 a) rfl C.o D.o A.o ?c3 ?c4 ?c5 ?_)
   case c3=>simp only[maxLen];omega
   case c4=>omega
   case c5=>simp;omega
   intro W z l s _;have K:1+a.length=(b::a).length:=by simp[Nat.add_comm]
   rw[K]at l;replace l:z.ownsRow w.heap.size 3 1 W (b::a).length (C8 (b::a)):=l;obtain⟨F,G,rfl⟩:=B9 l;have E:=O l;have B:Hid (I No w z):=by
    refine((q.o.mono (S':=λk=>w.heap.size<=k) (λ_ _ x=>x.elim)).trans (I.grown s) (λk P x=>(A9 n.o k x.symm).1)).mono (λk P x=>by omega)
   clear l s;go_wp2;go_ret;exact⟨F,G,rfl,B.o,E.o⟩
end
theorem H5c{w:lZ}{q:Nat}{x y z:Value}{t:TypeId}(h:w.heap[q]? =some (.cells #[x,y,z] t (0,0)))(v:Value):(w.setCell (J q 1) v).heap[q]? =some (.cells #[x,v,z] t (0,0)):=by
 rw[heap_setCell_same w q 1 _ _ v h];rfl
theorem A7b{w:lZ}{f h:Nat}{b c:TypeId}{q r:Nat}{d e:Value}{o p:Nat}{s t:List Value}(i:w.ownsRow f b q d o s)(j:w.ownsRow h c r e p t)(k:b≠c){g:Nat}(l:d.ownBlock=some g):e.ownBlock≠some g:=by
 intro m;obtain⟨_,u,n⟩:=A9 i g l;obtain⟨_,v,a⟩:=A9 j g m;rw[n]at a;simp only[zQ,xW]at a;exact k a.2.1
theorem Q6{w:lZ}{b:Nat}{e c:TypeId}{s:Nat}{v:Value}{n:Nat}{x:List Value}(g:w.ownsRow b e s v n x){q:Nat}{d:Array Value}{f:Nat×Nat}(a:w.heap[q]? =some (.cells d c f))(h:e≠c):v.ownBlock≠some q:=by
 intro i;obtain⟨_,k,j⟩:=A9 g q i;rw[j]at a;simp only[zQ,xW]at a;exact h a.2.1
section
variable{w w1 w2:lZ}{B b m:Nat}{h d e f:Value}{c:List Nat}{a:List Fr}{i:uZ}
theorem Bsx.push(n:Bsx w B b h d f c m a i){q:Nat}(hq:w.heap.size<=q)(Z:B<=q)(A:I No w w1)(T:FrM w1 q 0 Fr.no)(p:I (λk=>some k=d.ownBlock) w1 w2)(F:w2.ownsRow B 177 1 e (a.length+1) ((c.map λq=> .map (some q))++[.map (some q)])):
 Bsx (w2.setCell (J b 1) e) B b h e f (c++[q]) m (a++[Fr.no]) i/\Bkp B b f w (w2.setCell (J b 1) e):=by
 have o:=n.still A;have W:d.ownBlock≠some b:=Q6 o.ar o.blk (by decide);have X:∀g,f.ownBlock=some g->¬some g=d.ownBlock:=λg r l=>A7b o.tos o.ar (by decide) r l.symm;have G:∀{x:Nat} {m:Nat} {v:Fr},FrM w1 x m v->¬some x=d.ownBlock:=λj l=>by
  obtain⟨_,C,V⟩:=A9 o.ar _ l.symm;exact j.notcells V
 have t:w2.heap[b]? =some (.cells #[h,d,f] 99 (0,0)):=by
  rw[p.block b (ltG o.blk) (λl=>W l.symm)];exact o.blk
 have H:=A4 o.tos p X;have L:=H5c t e;have u:I (λk=>k=b) w2 (w2.setCell (J b 1) e):=I.set w2 (J b 1) e;have E:=n.len;have D:∀{x:Nat} {m:Nat} {v:Fr},FrM w1 x m v->FrM (w2.setCell (J b 1) e) x m v:=λj=>by
  refine(j.chg p (G j)).chg u ?_;rintro rfl;exact(j.chg p (G j)).notcells t
 have Y:∀x∈c,x<w.heap.size:=λx j=>by
  obtain⟨s,y,rfl⟩:=List.getElem_of_mem j;exact(n.fr s y (by omega)).lt
 refine⟨⟨n.low,L, ?_,A4 H u ?_, ?_, ?_, ?_, ?_⟩, ?_⟩
 · have:=A4 F u (λg r l=>Q6 F t (by decide) (l ▸ r));simpa using this
 · rintro g r rfl;exact Q6 H t (by decide) r
 · simp[E]
 · rw[List.nodup_append];refine⟨n.nd,by simp,λz R K S=> ?_⟩;simp only[zW]at S;have:=Y z R;omega
 · intro x j;rcases qW.1 j with j|j
   · exact n.ge x j
   · simp only[zW]at j;omega
 · intro s z K;by_cases y:s<c.length
   · rw[List.getElem_append_left y,List.getElem_append_left (by omega)];exact D ((n.fr s y (by omega)).chg A id)
   · have M:s=c.length:=by simp at z;omega
     subst M;rw[List.getElem_append_right (vQ _),List.getElem_append_right (by omega)];simp only[Nat.sub_self,List.getElem_cons_zero,E];exact(D T).more (wQ _)
 · refine I.trans (I.trans (A.mono λ_ _ x=>x.elim) p λk _ l=> ?_) u λk _ l=>⟨l ▸ n.low,.inl l⟩;obtain⟨N,C,P⟩:=A9 n.ar k l.symm;exact⟨N,.inr (.inr (.inl ⟨C,_,P⟩))⟩
theorem Bsx.popd(j:Bsx w B b h d f c m a i)(F:a≠[]):∃g l,d= .slice (some (J g 0)) a.length l/\a.length<=l/\l<=maxLen/\g<w.heap.size/\Bsx (w.setCell (J b 1) (.slice (some (J g 0)) (a.length - 1) l)) B b h (.slice (some (J g 0)) (a.length - 1) l) f c.dropLast m a.dropLast i/\Bkp B b f w (w.setCell (J b 1) (.slice (some (J g 0)) (a.length - 1) l)):=by
 have R:0<a.length:=List.length_pos_iff.2 F;have u:=j.len;rcases j.ar.2 with ⟨_,P⟩|⟨g,p,s,rfl,C,o,H,v,D,z⟩
 · omega
 · have A:=H5c j.blk (.slice (some (J g 0)) (a.length - 1) p);have r:I (λk=>k=b) w (w.setCell (J b 1) (.slice (some (J g 0)) (a.length - 1) p)):=I.set w (J b 1) _;have E:a.dropLast.length=a.length - 1:=List.length_dropLast;have G:c.dropLast.length=a.length - 1:=by rw[List.length_dropLast,u]
   have y:w.ownsRow B 177 1 (.slice (some (J g 0)) (a.length - 1) p) (a.length - 1) (c.dropLast.map λq=> .map (some q)):=by
    refine⟨by rw[iZ,G,Nat.mul_one],.inr ⟨g,p,s,rfl,C,o,by omega,v,D, ?_⟩⟩;rw[Nat.mul_one]at z⊢;have:(s.toList.take a.length).take (a.length - 1)=(c.map λq=>Value.map (some q)).take (a.length - 1):=by rw[z]
    rw[List.take_take,Nat.min_eq_left (by omega)]at this;rw[this,List.dropLast_eq_take,u,List.map_take]
   refine⟨g,p,rfl,H,v,(ltG o),⟨j.low,A, ?_,A4 j.tos r ?_, ?_, ?_, ?_, ?_⟩,r.mono λk _ n=>⟨n ▸ j.low,.inl n⟩⟩
   · rw[E];exact A4 y r (λg o n=>Q6 y j.blk (by decide) (n ▸ o))
   · rintro g o rfl;exact Q6 j.tos j.blk (by decide) o
   · omega
   · exact j.nd.sublist (List.dropLast_sublist _)
   · exact λx K=>j.ge x ((List.dropLast_sublist _).subset K)
   · intro L M N;rw[List.getElem_dropLast,List.getElem_dropLast];have t:=j.fr L (by omega) (by omega);refine t.chg r ?_;rintro n;exact t.notcells (n ▸ j.blk)
end
theorem S5d:(prog.info? 177).map (λi=>(i.zero,i.size,i.bytes))=some (some (.map none),1,8):=by kernel_rfl
section
variable{e w:lZ}{B a m:Nat}{d c:Value}{b:List Fr}{f:uZ}{N:List Nd}
theorem J6c(y:Nat)(cf:∀(Z:Array Value) (W:lZ),(callFunc y Z).run prog W= .ok (.enter y Z) W)(h:Bnt e w B a d c m b f)(aq:b.length<=100000)(K:Nat)(r:Br)(hr:∀g l,r= .ok g l->g≠[]/\g.length<=100001)(c1 c2:Value)(P:∀v,Bkp B a c w v->Bnt e v B a d c m (b++[Fr.no]) f->Calls prog y #[c1,c2] v (BnPost e v B a d c N K f r)):
 Calls prog 157 #[pV a,.func (.func y) #[] #[c1,c2]] w (BnPost e w B a d c N K f r.pop):=by
 obtain⟨i0,hi,ag,ah,ai⟩:=info_parts S5d;have ax:=@run_makeMap prog;obtain⟨av,ms,i⟩:=h.st;have af:=i.len;have p:=h.le;have z:a<w.heap.size:=(ltG i.blk);have b1:w.cell? (J a 1)=some av:=cr i.blk rfl;have F:I No w ((w.alloc (.map #[] 0)).alloc (.cells #[.map (some w.heap.size)] 177)):=D3 (I.alloc No _ _) (I.alloc No _ _);have A:=O (i.still F).ar;have S:Hid (FrM ((w.alloc (.map #[] 0)).alloc (.cells #[.map (some w.heap.size)] 177)) w.heap.size 0 Fr.no):=(FrM.new w).chg (I.alloc No _ _) id;have j:=O F;have u:=O i;have k:=O h;have HR:=O hr;have R:=O P;obtain⟨X,Y,rfl⟩:=B9 i.ar;have aw:(ms.map λak=>Value.map (some ak)).length=b.length:=by simp[af]
 clear h i F hr P;go_enter func157,ntmps157;go_wp2_with (at_builtin;refine wpList_append_own _ rfl _ _ 97 rfl B 177 i0 (.map none) 1 8 underlying97 hi ag ah ai rfl (by decide) _ b.length _ rfl A.o (J (w.heap.size+1) 0) 1 1 [.map (some w.heap.size)] rfl rfl ?c1 ?c2 ?c3 ?c4 ?c5 ?_)
 case c1=>
  have:=cell_one_new (w.alloc (.map #[] 0)) (.map (some w.heap.size)) 177;simpa using this
 case c2=>intro az hu;simp at hu;rcases hu with rfl;rfl
 case c3=>simp only[maxLen];omega
 case c4=>omega
 case c5=>simp;omega
 intro v' n H x _;obtain⟨a7,q⟩:=u.o.push (vQ _) p j.o S.o (I.grown x) H;have l2:a<n.heap.size:=yQ z (kQ j.o.size (I.grown x).size);have C:n.heap[a]? =some (.cells #[d,.slice X b.length Y,c] 99 (0,0)):=by
  rw[(I.grown x).block a (yQ z j.o.size) (λD=>Q6 A.o (by rw[j.o.block a z id];exact u.o.blk) (by decide) D.symm),j.o.block a z id];exact u.o.blk
 have an:n.cell? (J a 1)=some (.slice X b.length Y):=cr C rfl;have z2:∀o,n.frozen? (J a o)=false:=λo=>frozen_of_row n a o _ _ C;obtain⟨ab,a9,rfl⟩:=B9 H;have L:Hid (Bnt e (n.setCell (J a 1) (.slice ab (b.length+1) a9)) B a d c m (b++[Fr.no]) f):=⟨k.o.hz,kQ p q.size,k.o.bel.trans ((q.below p).mono k.o.hz),_,_,a7⟩;have M:=O (R.o _ q L.o);have T:=O q;clear a7 q H x R L A S j u C;go_wp2_with fail
 refine M.o.mono ?_;clear M;rintro D t ⟨a4,h3⟩;have V:=O (T.o.trans a4);clear a4 T;cases r with
 |bad er aj=>
  obtain rfl:D=gu er (atI N aj):=h3;exact⟨rfl,V.o,rfl⟩
 |ok g l=>
  obtain⟨rfl,E⟩:=h3;obtain⟨a6,ar⟩:=HR.o g l rfl;obtain⟨am,ay,s⟩:=E.st;obtain⟨a3,a2,rfl,ap,ae,hg,hp,a5⟩:=s.popd a6;unfold maxLen at ae;have au:0<g.length:=List.length_pos_iff.2 a6;have l3:a<t.heap.size:=(ltG s.blk);have ao:t.cell? (J a 1)=some (.slice (some (J a3 0)) g.length a2):=cr s.blk rfl;have z3:∀o,t.frozen? (J a o)=false:=λo=>frozen_of_row t a o _ _ s.blk;have HP:=O hp;have al:=O E;have a8:=O a5;clear hp E a5 s;go_wp2_with fail
  go_region
  all_goals go_end0
  all_goals
   have G:=V.o.trans a8.o;have ad:Bnt e (t.setCell (J a 1) (.slice (some (J a3 0)) (g.length - 1) a2)) B a d c K g.dropLast (upd f l):=⟨k.o.hz,kQ p G.size,k.o.bel.trans ((G.below p).mono k.o.hz),_,_,HP.o⟩;exact⟨G.trans (Bkp.still (I.drewN No _ 1)),rfl,ad.kept (I.drewN No _ 1)⟩
end
theorem EmL.butty{N:List Nd}{o:Option Tr}:∀{qs:List Nt} {b a:Nat},EmL N b a (qs++[.ty o])->EmL N b a qs:=by
 intro qs b a ⟨A,B,h,c⟩;refine⟨A,B, ?_,c⟩;rw[h];have:∀(qs:List Nt) (b a:Nat),R9 b a (qs++[.ty o])=R9 b a qs:=by
  intro qs;induction qs with
  |nil=>intro b a;simp[R9,emN]
  |cons p r d=>intro b a;simp[R9,d]
 rw[this]
theorem bnL_butty{o:Option Tr}:∀(d:List Nt) (a:Bool) (c:List Fr) (b:Nat),bnL a c b (d++[.ty o])=bnL a c b d
 |[],a,c,b=>by simp[bnL]
 | .ty _::r,a,c,b=>by rw[vZ,bnL,bnL,bnL_butty r]
 | .nd k f n e::r,a,c,b=>by rw[vZ,bnL,bnL];simp only[bnL_butty r]
theorem k_ty{p:Nt}(h:p.k= -1)(a:Gd p):p= .ty none:=by
 cases p with
 |ty t=>cases t with
  |none=>rfl
  |some t=>simp[Nt.k]at h
 |nd k d n c=> 
  exfalso;rw[Gd]at a;have b:=a.1;simp only[Nt.k]at h;subst h;simp[shp]at b
def nvl(n:Nd)(a:Option Addr)(b:Nat):Value:= .agg #[U n.kind,U n.a,U n.b,U n.c,.slice a n.list.length b,.string ⟨n.text.toArray⟩,U n.n,U n.ty,U n.at']
structure S6c(N:List Nd)(b tb:Nat)(ps:List Nt)(nd:Nd)(qs:List Nt):Prop where
 k:∀p∈qs,1<=p.k/\p∈ps
 em:EmL N b tb qs
 bn:∀fs,bnL false fs b ps=bnL false fs b qs
 n:nNL qs=nNL ps
 run:∀(w:lZ) (la:Option Addr) (lc:Nat),w.ownsRow 0 3 1 (.slice la nd.list.length lc) nd.list.length (C8 nd.list)->nd.list.length<=100000->Calls prog 39 #[nvl nd la lc] w (PaP w (px b qs))
theorem X9c{k:Int}{Z:bZ}{n:Int}{B:List Nt}(X:Gd (.nd k Z n B))(hk:k≠6/\k≠17/\k≠26){N:List Nd}{b u:Nat}(D:EmL N b u B)(W:Nd)(a:W.fl=mkN k Z n (ixL b u B)):∃qs,S6c N b u B W qs:=by
 rw[Gd]at X;obtain⟨c,a3⟩:=X;obtain⟨kd,va,vb,vc,Y,a7,vn,vt,vp⟩:=W;have T:∀p∈B,Gd p:=λp G=>U1 a3 G;unfold shp at c;by_cases L:k=1\/k=2\/k=3\/k=4\/k=5
 · rw[rY L]at c;have h:=L;clear L;have:B=[]:=by simpa using c
   subst this;rcases h with rfl|rfl|rfl|rfl|rfl<;>
   · simp[Nd.fl,mkN,ixL]at a;obtain⟨rfl,rfl,rfl,rfl,rfl,-⟩:=a;exact⟨[],by simp,D,λ_=>rfl,rfl,λw g i _ _=>A9c w _ _ _ [] g i _ _ _ _ _ (by simp)⟩
 rw[yY L]at c;by_cases v:k=6
 · omega
 rw[yY v]at c;by_cases m:k=7
 · rw[rY m]at c;have h:=m;clear m;subst h;obtain⟨x,xs,v,m,o⟩:=c;have d:∀p∈B,1<=p.k:=λp G=>by
    have:p.k∈B.map Nt.k:=jZ.2 ⟨p,G,rfl⟩;rw[v]at this;rcases jW.1 this with e|e
    · rw[e];exact m.1
    · exact(o _ e).1
   rw[C9a b u B d]at a;simp[Nd.fl,mkN]at a;obtain⟨rfl,C,rfl,rfl,A,-⟩:=a;have l:px b B=va::Y:=by
    have s:=G1a B b d;have a4:=congrArg List.length v;simp at a4;revert C A s;cases px b B with
    |nil=>simp;omega
    |cons y ys=>simp;rintro rfl rfl _;exact⟨rfl,rfl⟩
   exact⟨B,λp G=>⟨d p G,G⟩,D,λ_=>rfl,rfl,λw g i K s=>by rw[l];exact Y0c w va 0 0 Y g i _ _ _ _ K s⟩
 rw[yY m]at c;by_cases o:k=8\/k=13\/k=15\/k=18\/k=21\/k=24\/k=25
 · rw[rY o]at c;have h:=o;clear o;obtain⟨x,v,m⟩:=c;obtain⟨p,rfl,o⟩:=k1 v;have d:∀q∈[p],1<=q.k:=by simp[o];exact m.1
   rw[C9a b u _ d]at a;have s:=G1a [p] b d;match l:px b [p],s with
   |[y],_=>
    rw[l]at a;rcases h with rfl|rfl|rfl|rfl|rfl|rfl|rfl<;>
    · simp[Nd.fl,mkN]at a;obtain⟨rfl,rfl,rfl,rfl,rfl,-⟩:=a;exact⟨[p],λq f=>⟨d q f,f⟩,D,λ_=>rfl,rfl,λw g i _ _=>by rw[l];exact A8c w _ _ _ [] g i _ _ _ _ _ (by simp)⟩
 rw[yY o]at c;by_cases C:k=9\/k=12\/k=19
 · rw[rY C]at c;have h:=C;clear C;obtain⟨x,y,v,m,C⟩:=c;obtain⟨p,q,rfl,o,A⟩:=k2 v;have d:∀E∈[p,q],1<=E.k:=by simp[o,A];exact⟨m.1,C.1⟩
   rw[C9a b u _ d]at a;have s:=G1a [p,q] b d;match l:px b [p,q],s with
   |[y,z],_=>
    rw[l]at a;rcases h with rfl|rfl|rfl<;>
    · simp[Nd.fl,mkN]at a;obtain⟨rfl,rfl,rfl,rfl,rfl,-⟩:=a;exact⟨[p,q],λq f=>⟨d q f,f⟩,D,λ_=>rfl,rfl,λw g i _ _=>by rw[l];exact A4b w _ _ _ [] g i _ _ _ _ _ (by simp)⟩
 rw[yY C]at c;by_cases A:k=10
 · rw[rY A]at c;have h:=A;clear A;subst h;have d:∀q∈B,1<=q.k:=λp G=>by
    have:=c _ (jZ.2 ⟨p,G,rfl⟩);omega
   rw[C9a b u _ d]at a;simp[Nd.fl,mkN]at a;obtain⟨rfl,rfl,rfl,rfl,rfl,-⟩:=a;exact⟨B,λq f=>⟨d q f,f⟩,D,λ_=>rfl,rfl,λw g i K s=>A7c w _ _ _ _ g i _ _ _ _ _ (by simp) K s⟩
 rw[yY A]at c;by_cases H:k=11
 · rw[rY H]at c;have h:=H;clear H;subst h;have d:∀q∈B,1<=q.k:=λp G=>(c _ (jZ.2 ⟨p,G,rfl⟩)).1;rw[C9a b u _ d]at a;simp[Nd.fl,mkN]at a;obtain⟨rfl,rfl,rfl,rfl,rfl,-⟩:=a;exact⟨B,λq f=>⟨d q f,f⟩,D,λ_=>rfl,rfl,λw g i K s=>A7c w _ _ _ _ g i _ _ _ _ _ (by simp) K s⟩
 rw[yY H]at c;by_cases F:k=14
 · rw[rY F]at c;have h:=F;clear F;subst h;obtain⟨x,v,m⟩:=c;obtain⟨p,q,rfl,o,A⟩:=k2 v;obtain⟨t,rfl⟩:=E5a (T q (by simp)) (.inr A);have d:∀q∈[p],1<=q.k:=by simp[o];exact m.1
   have V:ixL b u [p,.ty t]=px b [p]++[ixN (b+nN p) (u+nT p) (.ty t)]:=by
    rw[<-C9a b u _ d];simp[ixL]
   rw[V]at a;have s:=G1a [p] b d;match l:px b [p],s with
   |[y],_=>
    rw[l]at a;simp[Nd.fl,mkN]at a;obtain⟨rfl,rfl,rfl,rfl,rfl,-⟩:=a;exact⟨[p],λq f=>⟨d q f,by simp at f;simp[f]⟩,EmL.butty (qs:=[p]) D,λ_=>bnL_butty [p] _ _ _,by simp[nNL,nN],λw g i _ _=>by rw[l];exact A8c w _ _ _ [] g i _ _ _ _ _ (by simp)⟩
 rw[yY F]at c;by_cases S:k=16
 · rw[rY S]at c;have h:=S;clear S;subst h;obtain⟨x,v,m⟩:=c;obtain⟨p,rfl,o⟩:=k1 v;obtain⟨t,rfl⟩:=E5a (T p (by simp)) (o ▸ m);simp[Nd.fl,mkN]at a;obtain⟨rfl,rfl,rfl,rfl,rfl,-⟩:=a;exact⟨[],by simp,EmL.butty (qs:=[]) D,λ_=>bnL_butty [] _ _ _,by simp[nNL,nN],λw g i _ _=>A9c w _ _ _ [] g i _ _ _ _ _ (by simp)⟩
 rw[yY S]at c;by_cases h9:k=17
 · omega
 rw[yY h9]at c;by_cases M:k=20
 · rw[rY M]at c;have h:=M;clear M;subst h;obtain⟨x,y,z,v,m,C,H⟩:=c;obtain⟨p,q,r,rfl,o,A,F⟩:=k3 v;have d:∀E∈[p,q,r],1<=E.k:=by simp[o,A,F];exact⟨m.1,C.1,H.1⟩
   rw[C9a b u _ d]at a;have s:=G1a [p,q,r] b d;match l:px b [p,q,r],s with
   |[y,z,a8],_=>
    rw[l]at a;simp[Nd.fl,mkN]at a;obtain⟨rfl,rfl,rfl,rfl,rfl,-⟩:=a;exact⟨[p,q,r],λq f=>⟨d q f,f⟩,D,λ_=>rfl,rfl,λw g i _ _=>by rw[l];exact L3b w _ _ _ [] g i _ _ _ _ _ (by simp)⟩
 rw[yY M]at c;by_cases P:k=22
 · rw[rY P]at c;have h:=P;clear P;subst h;obtain⟨x,z,v,m,C⟩:=c;obtain⟨p,q,r,rfl,o,A,F⟩:=k3 v;rcases C with rfl|rfl
   · have d:∀E∈[p,q,r],1<=E.k:=by simp[o,A,F];exact m.1
     have hr:∃j:Nat,px b [p,q,r]=[ixN b u p,ixN (b+nN p) (u+nT p) q,(j:Int)]:=by
      rw[<-C9a b u _ d];cases r with
      |ty a5=>cases a5<;>simp[Nt.k]at F
      |nd k' t' n' a6=>exact⟨b+nN p+nN q+nNL a6,by simp only[ixL,Em.ix]⟩
     obtain⟨j,l⟩:=hr;rw[C9a b u _ d,l]at a;simp[Nd.fl,mkN]at a;obtain⟨rfl,rfl,rfl,rfl,rfl,-⟩:=a;exact⟨[p,q,r],λq f=>⟨d q f,f⟩,D,λ_=>rfl,rfl,λw g i _ _=>by rw[l];exact L3b w _ _ _ [] g i _ _ _ _ _ (.inr ⟨rfl,show (j:Int)≠-1 by omega⟩)⟩
   · obtain rfl:=k_ty F (T r (by simp));have d:∀E∈[p,q],1<=E.k:=by simp[o,A];exact m.1
     have V:ixL b u [p,q,.ty none]=px b [p,q]++[-1]:=by
      rw[<-C9a b u _ d];simp[ixL,ixN]
     rw[V]at a;have s:=G1a [p,q] b d;match l:px b [p,q],s with
     |[y,z],_=>
      rw[l]at a;simp[Nd.fl,mkN]at a;obtain⟨rfl,rfl,rfl,rfl,rfl,-⟩:=a;exact⟨[p,q],λE f=>⟨d E f,by simp at f;rcases f with rfl|rfl<;>simp⟩,EmL.butty (qs:=[p,q]) D,λ_=>bnL_butty [p,q] _ _ _,by simp[nNL,nN],λw g i _ _=>by rw[l];exact A4b w _ _ _ [] g i _ _ _ _ _ (by simp)⟩
 rw[yY P]at c;by_cases R:k=23
 · rw[rY R]at c;have h:=R;clear R;subst h;obtain⟨x,v,m⟩:=c;obtain⟨p,q,rfl,o,A⟩:=k2 v;have d:∀E∈[p,q],1<=E.k:=by simp[o,A];exact m.1
   rw[C9a b u _ d]at a;have s:=G1a [p,q] b d;match l:px b [p,q],s with
   |[y,z],_=>
    rw[l]at a;simp[Nd.fl,mkN]at a;obtain⟨rfl,rfl,rfl,rfl,rfl,-⟩:=a;exact⟨[p,q],λq f=>⟨d q f,f⟩,D,λ_=>rfl,rfl,λw g i _ _=>by rw[l];exact A4b w _ _ _ [] g i _ _ _ _ _ (by simp)⟩
 rw[yY R]at c;by_cases a2:k=26
 · omega
 rw[yY a2]at c;exact c.elim
def Nrow(w:lZ)(b:Value)(N:List Nd):Prop:=∃a,w.ownsRow 0 87 9 b N.length a/\Rws (NdV w (λ_=>True)) N a
theorem Nrow.at{f w:lZ}{t:Value}{N:List Nd}(h:Nrow f t N)(d:Below f.heap.size f w)(i:Nat)(z:i<N.length):
 ∃g n l m,t= .slice (some (J g 0)) N.length n/\g<w.heap.size/\N.length<=n/\n<=maxLen/\(w.cell? (J g (i * 9))=some (U N[i].kind)/\w.cell? (J g (i * 9+1))=some (U N[i].a)/\w.cell? (J g (i * 9+2))=some (U N[i].b)/\w.cell? (J g (i * 9+3))=some (U N[i].c)/\
  w.cell? (J g (i * 9+4))=some (.slice l N[i].list.length m)/\w.cell? (J g (i * 9+5))=some (.string ⟨N[i].text.toArray⟩)/\w.cell? (J g (i * 9+6))=some (U N[i].n)/\w.cell? (J g (i * 9+7))=some (U N[i].ty)/\w.cell? (J g (i * 9+8))=some (U N[i].at'))/\
  w.ownsRow 0 3 1 (.slice l N[i].list.length m) N[i].list.length (C8 N[i].list)/\∀q,(Value.slice l N[i].list.length m).ownBlock=some q->q<f.heap.size:=by
 obtain⟨F,s,B⟩:=h;obtain⟨E,n,rfl⟩:=B9 s;obtain⟨g,rfl,_,r,x,y,a⟩:=F5 s (by omega);obtain⟨G,C,c⟩:=Rws.at (z:=9) (λ_ _ h=>h.len) i z B;obtain⟨D,rfl,o,_⟩:=C;obtain⟨l,m,rfl⟩:=B9 o;have b:∀j v,f.cell? (J g j)=some v->w.cell? (J g j)=some v:=λj v e=>by
  have:=d.block g r;unfold World.cell? at *;simp only at *;rw[this];exact e
 have u:I (λk=>f.heap.size<=k) f w:=⟨d.os,d.tape,d.output,d.size,λk A _=>d.block k A⟩;refine⟨g,n,l,m,rfl,yQ r d.size,x,y,⟨b _ _ (a _ _ ?_),b _ _ (a _ _ ?_),b _ _ (a _ _ ?_),b _ _ (a _ _ ?_),b _ _ (a _ _ ?_),b _ _ (a _ _ ?_),b _ _ (a _ _ ?_),b _ _ (a _ _ ?_),b _ _ (a _ _ ?_)⟩,A4 o u (λq p=>by have:=(o.lt q p).2;omega),λq p=>(o.lt q p).2⟩
 · have:=c 0 (by omega);simpa using this
 · have:=c 1 (by omega);simpa using this
 · have:=c 2 (by omega);simpa using this
 · have:=c 3 (by omega);simpa using this
 · have:=c 4 (by omega);simpa using this
 · have:=c 5 (by omega);simpa using this
 · have:=c 6 (by omega);simpa using this
 · have:=c 7 (by omega);simpa using this
 · have:=c 8 (by omega);simpa using this
theorem Bkp.other{B b:Nat}{d:Value}{w f:lZ}(i:Bkp B b d w f){q:Nat}{c:Array Value}{e:TypeId}(h:w.heap[q]? =some (.cells c e (0,0)))(j:e≠177)(g:q≠b)(k:d.ownBlock≠some q):f.heap[q]? =some (.cells c e (0,0)):=by
 rw[i.block q (ltG h) (λx=> ?_)]
 · exact h
 rcases x.2 with a|a|⟨cs',fz,h2⟩|⟨es,cl,h2⟩
 · exact g a
 · exact k a
 · rw[h]at h2;simp only[zQ,xW]at h2;exact j h2.2.1
 · rw[h]at h2;simp at h2
theorem Bnt.tv{n w:lZ}{B b m:Nat}{k f:Value}{i:List Fr}{l:uZ}(h:Bnt n w B b k f m i l){q:Nat}{g:Array Value}{e:TypeId}{j:Nat×Nat}(a:w.heap[q]? =some (.cells g e j))(c:e≠3/\e≠99):q≠b/\f.ownBlock≠some q:=by
 obtain⟨o,p,d⟩:=h.st;refine⟨?_,Q6 d.tos a (Ne.symm c.1)⟩;rintro rfl;rw[d.blk]at a;simp only[zQ,xW]at a;exact c.2 a.2.1.symm
theorem Bnt.low{i w:lZ}{B a m:Nat}{f c:Value}{d:List Fr}{g:uZ}(h:Bnt i w B a f c m d g):B<=a/\∀q,c.ownBlock=some q->B<=q:=by
 obtain⟨j,k,b⟩:=h.st;exact⟨b.low,λq e=>(b.tos.lt q e).1⟩
section
variable{b:lZ}{B a:Nat}{d c:Value}{N:List Nd}
theorem S1a(f:List Nt)(t:∀p∈f,1<=p.k/\A0a b B a d c N p)(j u:Nat)(w:lZ)(m:Nat)(k:List Fr)(o:uZ)(v:EmL N j u f)(h:Bnt b w B a d c m k o)(z:k≠[])(E:m+2 * nNL f<=100000)(y:k.length+nNL f<=100000)(G:o.length=N.length)
 (l:Option Addr) (n:Nat) (i:uZ) (D:i=px j f) (s:w.ownsRow 0 3 1 (.slice l i.length n) i.length (C8 i)) (r:∀q,(Value.slice l i.length n).ownBlock=some q->q<b.heap.size\/B<=q/\q≠a/\c.ownBlock≠some q):
 Calls prog 69 #[pV a,.slice l i.length n] w (BnPost b w B a d c N (m+2 * nNL f) o (bnL false k j f)):=by
 subst D;have C:=G1a f j (λp F=>(t p F).1);obtain⟨L,H⟩:=h.low;have K:=h.hz;rw[C]at s r⊢;refine V7d f t j u w m k o v h z E y G l n s (λe=> ?_) (λg A e=> ?_)
 · rcases r a e with x|x
   · omega
   · exact x.2.1 rfl
 · rcases r g A with x|x
   · have:=H g e;omega
   · exact x.2.2 e
theorem O9c(f:List Nt)(D:∀p∈f,1<=p.k/\A0a b B a d c N p)(k G:Nat)(w:lZ)(m:Nat)(j:List Fr)(o:uZ)(y:EmL N k G f)(h:Bnt b w B a d c m j o)(R:j≠[])(S:m+2 * nNL f<=100000)(P:j.length+nNL f<=100000)(V:o.length=N.length)
 (l:Option Addr) (n:Nat) (g:uZ) (A:g=px k f) (C:w.ownsRow 0 3 1 (.slice l g.length n) g.length (C8 g)) (z:∀q,(Value.slice l g.length n).ownBlock=some q->q<b.heap.size)
 (t u:Nat) (E:w.heap[t]? =some (.cells #[pV a] 94 (0,0))) (W X Y Z:Int) (xs:ByteArray) (vn vt vp:Int) (s:w.heap[u]? =some (.cells #[U W,U X,U Y,U Z,.slice l g.length n,.string xs,U vn,U vt,U vp] 87 (0,0))):
 Calls prog 158 #[pV t,pV u] w (BnPost b w B a d c N (m+2 * nNL f) o (bnL false j k f)):=by
 have v:=O (S1a f D k G w m j o y h R S P V l n g A C (λq T=> .inl (z q T)));have a2:w.cell? (J t 0)=some (pV a):=cr E rfl;have a3:w.cell? (J u 4)=some (.slice l g.length n):=cr s rfl;have l1:=(ltG s);generalize bnL false j k f=L at *;generalize m+2 * nNL f=mm at *;clear E s C z h y D A;go_enter func158,ntmps158;go_wp2_with fail
 refine v.o.mono ?_;rintro e a6 ⟨r,F⟩;cases L with
 |bad M i=>
  obtain rfl:e=gu M (atI N i):=F;exact⟨rfl,r,rfl⟩
 |ok a4 a5=>
  obtain⟨rfl,x⟩:=F;have K:=O r;have H:=O x;clear r x v;go_wp2;go_end0;exact⟨K.o,rfl,H.o⟩
end
theorem bnL_fn{o:Option Tr}{l:bZ}{n:Int}{d:List Nt}:∀(c:List Nt) (a:List Fr) (b:Nat),(∀p∈c,p.k=16)->bnL true a b (c++[.ty o,.nd 26 l n d])=(bnL false a b c).and λf=>bnL false f (b+nNL c) d
 |[],a,b,_=>by
  rw[lY,bnL,bnL,bnL];simp only[Bool.true_and,beq_self_eq_true,↓reduceIte,bnL,Br.and_nil,nNL,Nat.add_zero];rw[Br.and_ok];generalize bnL false a b d=R;cases R<;>simp
 | .ty t::r,a,b,h=>by
  have:=h (.ty t) (by simp);cases t<;>simp[Nt.k]at this
 | .nd k m i j::r,a,b,h=>by
  have e:k=16:=h (.nd k m i j) (by simp);subst e;rw[vZ,bnL,bnL];simp only[Bool.true_and,Bool.false_and,show ((16:Int)==26)=false from rfl,rZ,↓reduceIte,Br.and_assoc];congr 1
  funext f
  rw[bnL_fn r f _ (λp g=>h p (by simp[g])),nNL,Nat.add_assoc]
theorem EmL.left{N:List Nd}:∀{a d:List Nt} {b c:Nat},EmL N b c (a++d)->EmL N b c a/\EmL N (b+nNL a) (c+nTL a) d:=by
 intro a d b c ⟨A,B,h,f⟩;have e:∀(a:List Nt) (b c:Nat),R9 b c (a++d)=R9 b c a++R9 (b+nNL a) (c+nTL a) d:=by
  intro a;induction a with
  |nil=>intro b c;simp[R9,nNL,nTL]
  |cons p r g=>intro b c;simp[R9,g,nNL,nTL,Nat.add_assoc]
 rw[e]at h;exact⟨⟨A,R9 (b+nNL a) (c+nTL a) d++B,by rw[h];simp,f⟩,⟨A++R9 b c a,B,by rw[h];simp,by rw[qQ,S7,f]⟩⟩
section
variable{e:lZ}{B a:Nat}{d c:Value}{N:List Nd}
def X5b(e w:lZ)(B a:Nat)(d c:Value)(N:List Nd)(m:Nat)(g:uZ)(r:Br)(b:Ending)(h:lZ):Prop:=
 (∃f p,b=gu f p/\Hid (BnPost e w B a d c N m g r (gu f p) h))\/(b=rT/\Hid (BnPost e w B a d c N m g r (rT) h))
theorem BnPost.ans{w k:lZ}{m:Nat}{j:uZ}{r:Br}{b:Ending}(h:BnPost e w B a d c N m j r b k):X5b e w B a d c N m j r b k:=by
 have g:=h.2;cases r with
 |bad n i=>
  obtain rfl:b=gu n (atI N i):=g;exact .inl ⟨_,_,rfl,h⟩
 |ok f l=>
  obtain⟨rfl,_⟩:=g;exact .inr ⟨rfl,h⟩
theorem BnPost.and{w o p:lZ}{n:Nat}{ts:uZ}{j:List Fr}{l:List (Nat×Int)}{k:List Fr->Br}{g:Ending}(r:Bkp B a c w o)(h:BnPost e o B a d c N n (upd ts l) (k j) g p):BnPost e w B a d c N n ts ((Br.ok j l).and k) g p:=by
 obtain⟨q,b⟩:=h;refine⟨r.trans q, ?_⟩;rw[Br.and_ok];cases m:k j with
 |bad t i=>
  rw[m]at b;exact b
 |ok f s=>
  rw[m]at b;show g=_/\Bnt _ _ _ _ _ _ _ f (upd ts (l++s));rw[G6c];exact b
theorem BnPost.more{w o:lZ}{m k:Nat}{n:uZ}{r:Br}{g:Ending}(h:BnPost e w B a d c N m n r g o)(s:m<=k):BnPost e w B a d c N k n r g o:=by
 refine⟨h.1, ?_⟩;have j:=h.2;cases r with
 |bad v i=>exact j
 |ok f l=>
  obtain⟨q,b⟩:=j;obtain⟨p,u,t⟩:=b.st;exact⟨q,b.hz,b.le,b.bel,p,u,t.more s⟩
theorem BnPost.after{w g i:lZ}{m:Nat}{f:uZ}{r:Br}{b:Ending}(j:Bkp B a c w g)(h:BnPost e g B a d c N m f r b i):BnPost e w B a d c N m f r b i:=⟨j.trans h.1,h.2⟩
theorem U8b(hN:Nrow e d N)(i:List Nt)(ak:Option Tr)(tx:bZ)(aj:Int)(j:List Nt)(a4:∀p∈i,p.k=16/\A0a e B a d c N p)(a5:∀p∈j,1<=p.k/\A0a e B a d c N p)(b tb:Nat)(w:lZ)(m:Nat)(o:List Fr)(s:uZ)
 (he:EmL N b tb (i++[.ty ak,.nd 26 tx aj j])) (h:Bnt e w B a d c m o s) (Z:o≠[]) (hm:m+2 * (nNL i+nNL j)<=100000) (hf:o.length+(nNL i+nNL j)<=100000) (ai:s.length=N.length) (ay:N.length<=100000)
 (u:Option Addr) (x:Nat) (r:uZ) (ae:r=px b i) (ho:w.ownsRow 0 3 1 (.slice u r.length x) r.length (C8 r)) (ad:∀q,(Value.slice u r.length x).ownBlock=some q->q<e.heap.size)
 (C D:Nat) (H:w.heap[C]? =some (.cells #[pV a] 94 (0,0))) (kd vb vc:Int) (xs:ByteArray) (vn vt vp:Int) (A:w.heap[D]? =some (.cells #[U kd,U ((b+nNL i+nNL j:Nat):Int),U vb,U vc,.slice u r.length x,.string xs,U vn,U vt,U vp] 87 (0,0))):
 Calls prog 186 #[pV C,pV D] w (BnPost e w B a d c N (m+2 * (nNL i+nNL j)) s (bnL true o b (i++[.ty ak,.nd 26 tx aj j]))):=by
 have a3:∀p∈i,p.k=16:=λp n=>(a4 p n).1;have ac:∀p∈i,1<=p.k:=λp n=>by rw[a3 p n];decide
 rw[bnL_fn i o b a3];obtain⟨a8,a9⟩:=he.left;have aa:=(EmL.head a9).2;have Y:=(EmL.head aa).1;rw[nN,Nat.add_zero]at Y;obtain⟨ab,hi,G⟩:=Em.parts Y;have ah:∀p∈j,1<=p.k:=λp n=>(a5 p n).1;have af:(N[b+nNL i+nNL j]).list=px (b+nNL i) j:=by
  rw[C9a _ _ j ah]at G;simp[Nd.fl,mkN]at G;exact G.2.2.2.2.1
 have HA:=O (S1a i (λp n=>⟨ac p n,(a4 p n).2⟩) b tb w m o s a8 h Z (by omega) (by omega) ai u x r ae ho (λq hq=> .inl (ad q hq)));have a6:=O (W4 i false o b Z);have al:w.cell? (J C 0)=some (pV a):=cr H rfl;have am:w.cell? (J D 4)=some (.slice u r.length x):=cr A rfl;have l1:=(ltG A);have FB:Hid (∀k,Bkp B a c w k->k.heap[C]? =some (.cells #[pV a] 94 (0,0))/\k.heap[D]? =some (.cells #[U kd,U ((b+nNL i+nNL j:Nat):Int),U vb,U vc,.slice u r.length x,.string xs,U vn,U vt,U vp] 87 (0,0))):=λk t=>by
  obtain⟨x1,x2⟩:=h.tv H (by decide);obtain⟨y1,y2⟩:=h.tv A (by decide);exact⟨t.other H (by decide) x1 x2,t.other A (by decide) y1 y2⟩
 have M:Hid (b+nNL i+nNL j<N.length):=hi;have b0:b+nNL i+nNL j<=100000:=by omega
 have H2:Hid (∀(k:lZ) (f:List Fr) (l:List (Nat×Int)),Bnt e k B a d c (m+2 * nNL i) f (upd s l)->f.length=o.length->Bkp B a c w k->∃g z v y,d= .slice (some (J g 0)) N.length z/\g<k.heap.size/\N.length<=z/\z<=maxLen/\k.cell? (J g ((b+nNL i+nNL j) * 9+4))=some (.slice v (px (b+nNL i) j).length y)/\k.cell? (J a 0)=some d/\a<k.heap.size/\
  ∀E,I No k E->Calls prog 69 #[pV a,.slice v (px (b+nNL i) j).length y] E (X5b e w B a d c N (m+2 * (nNL i+nNL j)) s ((Br.ok f l).and λf=>bnL false f (b+nNL i) j))):=by
  intro k f l t ao ap;obtain⟨g,z,v,y,e1,e2,e3,R,S,T,V⟩:=hN.at t.bel _ M.o;obtain⟨av,ms,hs⟩:=t.st;rw[af]at S T V;refine⟨g,z,v,y,e1,e2,e3,R,S.2.2.2.2.1,cr hs.blk rfl,(ltG hs.blk),λE X=> ?_⟩;refine(S1a j a5 (b+nNL i) _ E _ f (upd s l) ab (t.kept X) (S6 Z ao) (by omega) (by omega) (by rw[P4a];exact ai) v y _ rfl (A4 T X (λ_ _ ax=>ax)) (λq hq=> .inl (V q hq))).mono ?_;intro P w' n;have ag:=BnPost.and (k:=λf=>bnL false f (b+nNL i) j) (ap.trans (Bkp.still X)) n;rw[Nat.add_assoc,<-Nat.mul_add]at ag;exact ag.ans
 generalize an:bnL false o b i=R1 at *;generalize hj:b+nNL i+nNL j=jj at *;generalize au:(px (b+nNL i) j).length=pl at *;generalize ar:m+2 * (nNL i+nNL j)=mm at *;generalize aq:m+2 * nNL i=m1 at *;clear H A ho ad h he a4 a5 ae a8 a9 aa Y ab G an hj au ar aq af a3 ac ah hN;go_enter func186,ntmps186;go_wp2_with fail
 refine HA.o.mono ?_;rintro P K ⟨F,hr⟩;cases R1 with
 |bad er aw=>
  obtain rfl:P=gu er (atI N aw):=hr;exact⟨rfl,F,rfl⟩
 |ok f l=>
  obtain⟨rfl,hb⟩:=hr;obtain⟨a7,W⟩:=FB.o K F;have d0:K.cell? (J C 0)=some (pV a):=cr a7 rfl;have d1:K.cell? (J D 1)=some (U (jj:Int)):=cr W rfl;have d2:=(ltG W);obtain⟨g,z,v,y,rfl,e2,e3,R,S,T,V,e8⟩:=H2.o K f l hb (a6.o f l rfl) F;have az:=M.o;unfold maxLen at R;have H3:=O e8;clear F hb HA H2 FB a7 W e8 a6 al am M;go_wp2_with fail
  go_region_with (go_at_call 69;refine(H3.o _ (I.drewN _ _ 1)).mono ?_;rintro P b1 (⟨er,p,rfl,L⟩|⟨rfl,L⟩);exact⟨rfl,L.o⟩)
  all_goals go_wp2_with fail
  all_goals go_end0
  all_goals exact L.o
theorem Sl.small{f:List Fr}{r:Br}(h:Sl (f++[Fr.no]) r)(i:f.length<=100000):∀b l,r= .ok b l->b≠[]/\b.length<=100001:=by
 intro b l g;have:=h b l g;simp at this;refine⟨?_,by omega⟩;rintro rfl;simp at this
theorem D4c(R:Nrow e d N)(f:List Nt)(o:Option Tr)(A:bZ)(n:Int)(g:List Nt)(Y:∀p∈f,p.k=16/\A0a e B a d c N p)(Z:∀p∈g,1<=p.k/\A0a e B a d c N p)(b tb:Nat)(w:lZ)(m:Nat)(l:List Fr)(G:uZ)
 (S:EmL N b tb (f++[.ty o,.nd 26 A n g])) (h:Bnt e w B a d c m l G) (hm:m+2 * (nNL f+nNL g)<=100000) (hf:l.length+1+(nNL f+nNL g)<=100000) (a9:G.length=N.length) (a6:N.length<=100000)
 (j:Option Addr) (k:Nat) (i:uZ) (T:i=px b f) (W:w.ownsRow 0 3 1 (.slice j i.length k) i.length (C8 i)) (F:∀a3,(Value.slice j i.length k).ownBlock=some a3->a3<e.heap.size)
 (q r s:Int) (x:ByteArray) (t v u:Int):
 Calls prog 156 #[pV a,.agg #[U q,U ((b+nNL f+nNL g:Nat):Int),U r,U s,.slice j i.length k,.string x,U t,U v,U u]] w (BnPost e w B a d c N (m+2 * (nNL f+nNL g)) G (bnL true (l++[Fr.no]) b (f++[.ty o,.nd 26 A n g])).pop):=by
 generalize a2:((b+nNL f+nNL g:Nat):Int)=C at *;have V:l++[Fr.no]≠[]:=by simp
 have E:I No w ((w.alloc (.cells #[pV a] 94)).alloc (.cells #[U q,U C,U r,U s,.slice j i.length k,.string x,U t,U v,U u] 87)):=D3 (I.alloc No _ _) (I.alloc No _ _);have K:((w.alloc (.cells #[pV a] 94)).alloc (.cells #[U q,U C,U r,U s,.slice j i.length k,.string x,U t,U v,U u] 87)).heap[w.heap.size]? =some (.cells #[pV a] 94 (0,0)):=by
  rw[Below.heap_alloc _ _ _ (by simp)];have:=qY w (.cells #[pV a] 94);simpa using this
 have L:((w.alloc (.cells #[pV a] 94)).alloc (.cells #[U q,U C,U r,U s,.slice j i.length k,.string x,U t,U v,U u] 87)).heap[w.heap.size+1]? =some (.cells #[U q,U C,U r,U s,.slice j i.length k,.string x,U t,U v,U u] 87 (0,0)):=by
  have:=qY (w.alloc (.cells #[pV a] 94)) (.cells #[U q,U C,U r,U s,.slice j i.length k,.string x,U t,U v,U u] 87);simpa using this
 have D:=h.kept E;have P:=O (J6c 186 (λ_ _=>by go_simp) D (N:=N) (by omega) (m+2 * (nNL f+nNL g)) (bnL true (l++[Fr.no]) b (f++[.ty o,.nd 26 A n g])) (Sl.small (W4 _ _ _ _ V) (by omega)) (pV w.heap.size) (pV (w.heap.size+1)) (λa4 H hb=>by
  obtain⟨x1,x2⟩:=D.tv K (by decide);obtain⟨y1,y2⟩:=D.tv L (by decide);have a8:=h.low;have hz:=h.hz;refine U8b R f o A n g Y Z b tb a4 m (l++[Fr.no]) G S hb V hm (by simp;omega) a9 a6 j k i T ?_ F _ _ (H.other K (by decide) x1 x2) q r s x t v u (by rw[a2];exact H.other L (by decide) y1 y2);refine H.row (A4 W E (λ_ _ ab=>ab)) (λz=> ?_) (λa5 hg z=> ?_)
  · have:=F _ z;omega
  · have:=F _ hg;have:=a8.2 a5 z
    omega))
 have ad:=mkf;have M:=O (Bkp.still (B:=B) (bb:=a) (tv:=c) E);generalize a7:(bnL true (l++[Fr.no]) b (f++[.ty o,.nd 26 A n g])).pop=RR at *;generalize m+2 * (nNL f+nNL g)=mm at *;clear a7 D K L E F W T S Y Z h R a2;go_enter func156,ntmps156;go_wp2_with fail
 refine P.o.mono ?_;rintro z af y;have y:=BnPost.after M.o y;have X:=y.2;cases RR with
 |bad er aa=>
  obtain rfl:z=gu er (atI N aa):=X;exact⟨rfl,y⟩
 |ok ac ae=>
  obtain⟨rfl,-⟩:=X;have HP:=O y;clear y P M;go_wp2;go_end0;exact HP.o
theorem Bsx.top{w:lZ}{m:Nat}{i:Value}{b:List Nat}{f:List Fr}{n:uZ}(h:Bsx w B a d i c b m f n)(g:b≠[]):FrM w (b.getLast g) m (H4a f):=by
 have o:=h.len;have p:0<b.length:=List.length_pos_iff.2 g;have l:b.getLast g=b[b.length - 1]:=by rw[List.getLast_eq_getElem]
 have k:H4a f=f[b.length - 1]'(by omega):=by
  unfold H4a;have j:f.length - 1=b.length - 1:=by omega
  rw[List.getLastD_eq_getLast?,List.getLast?_eq_getElem?,j,gQ (by omega)];rfl
 rw[l,k];exact h.fr (b.length - 1) (by omega) (by omega)
theorem Bnt.step{w b:lZ}{m j:Nat}{n g:List Fr}{p l:uZ}{f:Value}{k:List Nat}(h:Bnt e w B a d c m n p)(i:Bkp B a c w b)(o:Bsx b B a d f c k j g l):Bnt e b B a d c j g l:=
 ⟨h.hz,kQ h.le i.size,h.bel.trans ((i.below h.le).mono h.hz),f,k,o⟩
theorem I8c{w:lZ}{m:Nat}{b:List Fr}{v:uZ}(h:Bnt e w B a d c m b v)(G:b≠[])(S:b.length<=100000)(T:m<=100000)(x:bZ)(u:x.length<=1000000)(j:Int)(H:0<=j/\j<=1000000)(y:lZ)(p:I No w y):
 Calls prog 155 #[pV a] y λf g=>∃q,f= .returned (.map (some q))/\I No w g/\(Instr.lookup 177 (.map (some q)) (.string ⟨x.toArray⟩) true).run prog g= .ok (.tuple #[U ((H4a b x).getD 0),.bool (H4a b x).isSome]) g/\
  ∃i,(Instr.mapUpdate 177 (.map (some q)) (.string ⟨x.toArray⟩) (U j)).run prog g= .ok () i/\Hid (Bkp B a c w i/\Bnt e i B a d c (m+1) (I8 b x j) v):=by
 have E:=h.kept p;obtain⟨R,P,s⟩:=E.st;have K:=s.len;have V:0<b.length:=List.length_pos_iff.2 G;have l:P≠[]:=λf=>by subst f;simp at K;omega
 refine(Q1d s l (by omega)).mono ?_;rintro f g ⟨rfl,r⟩;have o:=s.still r;obtain⟨i,L,M,F⟩:=o.put l x j u (by omega) H;have t:Bkp B a c g i:=by
  refine F.mono λk _ f=> ?_;subst f;obtain⟨n,D,⟨A,z,C,_⟩,_⟩:=(o.top l).own;exact⟨o.ge _ (List.getLast_mem l),.inr (.inr (.inr ⟨A,z,C⟩))⟩
 exact⟨_,rfl,D3 p r,(o.top l).look x u,i,L,(Bkp.still (D3 p r)).trans t,(h.kept (D3 p r)).step t M⟩
theorem Bnt.blk{w:lZ}{m:Nat}{f:List Fr}{g:uZ}(h:Bnt e w B a d c m f g):w.cell? (J a 0)=some d/\a<w.heap.size:=by
 obtain⟨i,j,b⟩:=h.st;exact⟨cr b.blk rfl,(ltG b.blk)⟩
theorem bn_let(g:List Fr)(b:Nat)(h:bZ)(n:Int)(o:Option Tr)(E:Nt)(i:1<=E.k):bnT g b (.nd 17 h n [.ty o,E])=if (H4a g h).isSome then .bad 6 (b+nN E) else (bnT (if E.k=6 then I8 g h ((b+nN E:Nat):Int) else g) b E).setF h ((b+nN E:Nat):Int):=by
 have m:nNL [.ty o,E]=nN E:=by simp[nNL,nN]
 rw[bnT];simp only[m];rw[yY (by decide),yY (by decide),rY trivial];congr 2
 have j:∀f,bnL false f b [.ty o,E]=bnT f b E:=λf=>by
  rw[bnL,L3a _ _ _ _ i];simp only[bnL,Br.and_nil]
 rw[j];cases E with
 |ty o=>cases o<;>simp[Nt.k]at i
 |nd k t p q=>by_cases l:k=6<;>simp[F4d,Nt.k,l]
theorem Bnt.fresh{w:lZ}{m:Nat}{g:List Fr}{i:uZ}(h:Bnt e w B a d c m g i){q:Nat}(n:w.heap.size<=q):B<=q/\q≠a/\c.ownBlock≠some q:=by
 obtain⟨j,o,b⟩:=h.st;have k:=(ltG b.blk);have l:=h.le;refine⟨by omega,by omega,λf=> ?_⟩;have:=(b.tos.lt _ f).2;omega
theorem T8a{w r:lZ}(S:Bkp B a c w r){m:Nat}{k:List Fr}{ts:uZ}{l0:List (Nat×Int)}(C:Bnt e r B a d c m k (upd ts l0))(R:k≠[]){b G:Nat}{h j:List Nt}{i:Nd}(g:S6c N b G h i j)(M:∀p∈h,1<=p.k->A0a e B a d c N p)(hm:m+2 * nNL h<=100000)(hf:k.length+nNL h<=100000)(Z:ts.length=N.length)
 (z:Option Addr) (A:Nat) (V:r.ownsRow 0 3 1 (.slice z i.list.length A) i.list.length (C8 i.list)) (T:i.list.length<=100000) (F:Nat) (Y:r.cell? (J F 0)=some (pV a)) (E:Nat) (a2:m+2 * nNL h<=E) (t:lZ) (v:I No r t):
 Calls prog 39 #[nvl i z A] t λu s=>∃l n,u= .returned (.slice l (px b j).length n)/\s.cell? (J F 0)=some (pV a)/\
  Hid (Calls prog 69 #[pV a,.slice l (px b j).length n] s (X5b e w B a d c N E ts ((Br.ok k l0).and λf=>bnL false f b h))):=by
 refine(g.run t z A (A4 V v (λ_ _ x=>x)) T).mono ?_;rintro u s ⟨l,n,rfl,P,D⟩;have y:=D3 v P;have K:=C.kept y;refine⟨l,n,rfl,A8 y Y, ?_⟩;have hn:=g.n;have L:=S1a j (λp o=>⟨(g.k p o).1,M p (g.k p o).2 (g.k p o).1⟩) b G s m k (upd ts l0) g.em K R (by omega) (by omega) (by rw[P4a];exact Z) l n _ rfl (C9 D (wQ _)) (λq X=> .inr (C.fresh (kQ v.size (D.lt q X).1)));refine L.mono ?_;intro u a3 o;have W:=BnPost.and (k:=λf=>bnL false f b j) (ts:=ts) (S.trans (Bkp.still y)) o;have H:(λf=>bnL false f b h)=λf=>bnL false f b j:=funext λf=>g.bn f;rw[H];exact(W.more (by omega)).ans
theorem Br.and_zero(b:List Fr)(k:List Fr->Br):(Br.ok b []).and k=k b:=by
 rw[Br.and_ok];cases k b<;>simp
end
