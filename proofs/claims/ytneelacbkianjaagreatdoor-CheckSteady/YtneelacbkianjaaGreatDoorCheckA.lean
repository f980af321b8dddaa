/-
  A part of the proof.
-/
import Derived.Test.YtneelacbkianjaaGreatDoorBindA
import Derived.Test.YtneelacbkianjaaGreatDoorPlainF
import Derived.Test.YtneelacbkianjaaGreatDoorFitB
set_option maxHeartbeats 16000000
set_option maxRecDepth 100000
namespace Go.Proofs.YtneelacbkianjaaGreatDoor
open Go.Proofs.Tryz
open Go.RowKit Go.Maps
theorem W8d:Keyed prog 3:=int_keyed underlying3
theorem G4e(a:Int)(h:0<=a/\a<=1000000):(Lit.int .i64 a).wf=true:=by
 simp[Lit.wf,IntKind.min,IntKind.max,IntKind.bits,IntKind.signed];omega
theorem U3b(a:Int)(h:0<=a/\a<=1000000):keyOf prog 3 (.int .i64 a)=some (.int .i64 a):=keyOf_int_mk underlying3 (G4e a h)
theorem Y5d(w:lZ):(zeroValue 3).run prog w= .ok (.int .i64 0) w:=by kernel_rfl
structure ImM(w:lZ)(q m:Nat)(f:Int->Option Int):Prop where
 own:∃n D,w.ownsMap prog 3 (plainElem (H:=Unit) prog 3) q n D/\n<=m/\IsMap D/\∀(s:Int) (d:DataW Unit),D.atKey (.int .i64 s) d=match f s with
  |some j=> .lit (.int .i64 j)
  |none=>d
theorem ImM.new(w:lZ):ImM (w.alloc (.map #[] 0)) w.heap.size 0 (λ_=>none):=⟨0,.map [],World.ownsMap_made w _ _ _,vQ _,isMap_empty,λ_ _=>rfl⟩
theorem ImM.more{w:lZ}{q m a:Nat}{f:Int->Option Int}(h:ImM w q m f)(d:m<=a):ImM w q a f:=by
 obtain⟨n,D,b,c,r⟩:=h.own;exact⟨n,D,b,by omega,r⟩
theorem ImM.chg{S:Nat->Prop}{w b:lZ}{q m:Nat}{f:Int->Option Int}(h:ImM w q m f)(g:I S w b)(i:¬S q):ImM b q m f:=by
 obtain⟨n,D,⟨d,c,a,e⟩,r⟩:=h.own;exact⟨n,D,⟨d,c,by rw[g.block q (ltG a) i];exact a,e⟩,r⟩
theorem ImM.notcells{w:lZ}{q m:Nat}{f:Int->Option Int}(h:ImM w q m f){cs:Array Value}{e:TypeId}{fz:Nat×Nat}:w.heap[q]? ≠some (.cells cs e fz):=by
 obtain⟨n,D,⟨c,b,a,_⟩,_⟩:=h.own;rw[a];simp
theorem ImM.get{w:lZ}{q m:Nat}{f:Int->Option Int}(h:ImM w q m f)(s:Int)(i:0<=s/\s<=1000000):
 (Instr.lookup 42 (.map (some q)) (.int .i64 s) false).run prog w= .ok (.int .i64 ((f s).getD 0)) w:=by
 obtain⟨n,D,g,_,_,e⟩:=h.own;obtain⟨c,d,a,_⟩:=g.lookup_int W8d underlying42 underlying3 (Y5d _) (U3b s i);rw[e s]at a;cases b:f s with
 |none=>
  rw[b]at a;simp only[DataW.lit.injEq,Lit.int.injEq,true_and]at a;rw[d,<-a];rfl
 |some j=>
  rw[b]at a;simp only[DataW.lit.injEq,Lit.int.injEq,true_and]at a;rw[d,<-a];rfl
theorem ImM.put{w:lZ}{q m:Nat}{f:Int->Option Int}(h:ImM w q m f)(s:Int)(j:Int)(p:0<=s/\s<=1000000)(v:m<=100000000)(t:0<=j/\j<=1000000):
 ∃a,(Instr.mapUpdate 42 (.map (some q)) (.int .i64 s) (.int .i64 j)).run prog w= .ok () a/\ImM a q (m+1) (λu=>if u=s then some j else f u)/\I (λk=>k=q) w a:=by
 obtain⟨n,D,i,y,c,e⟩:=h.own;have r:(Lit.int .i64 j).wf=true:=by
  simp[Lit.wf,IntKind.min,IntKind.max,IntKind.bits,IntKind.signed];omega
 obtain⟨a,o,l,g⟩:=i.update W8d underlying42 (by unfold maxLen;omega) (U3b s p) (plainElem_int underlying3 r);refine⟨a,o,⟨n+1,_,l,by omega,c.put _ _,λu d=> ?_⟩,(I.grown g).mono (λk _ x=>by simpa using x)⟩;by_cases b:u=s
 · subst b;rw[atKey_put_same c (show WideAt.IsKeyLit (.int .i64 u) from trivial)];simp[]
 · rw[atKey_put_other (by simpa using b),e u];simp[b]
def I9:List Ty:=[⟨1,[],[],0⟩,⟨2,[],[],0⟩,⟨3,[],[],0⟩,⟨4,[],[],0⟩,⟨5,[],[],0⟩]
def tl(c:Cx)(Z:List Ty):List Ty:=c.T++I9++Z
theorem T8(c:Cx)(Z:List Ty):(tl c Z).length=c.T.length+5+Z.length:=by simp[tl,I9];omega
theorem D9a(c:Cx)(Z Y:List Ty):tl c Z++Y=tl c (Z++Y):=by simp[tl]
def Fw(T:List Ty):Prop:=∀i (a:i<T.length),T[i].list.length<=100000000/\T[i].fields.length<=2001
structure OfR(T:List Ty)(ofs:uZ)(of:Of):Prop where
 len:ofs.length=of.length
 at':∀(i:Nat) (o:Option Tr),of[i]? =some o->match o with
  |none=>ofs[i]? =some (-1)
  |some t=>∃r:Nat,ofs[i]? =some (r:Int)/\r<T.length/\tr T r=t
theorem OfR.more{T:List Ty}{b:uZ}{a:Of}(h:OfR T b a)(f:TsOk T)(Y:List Ty):OfR (T++Y) b a:=by
 refine⟨h.len,λi o g=> ?_⟩;have:=h.at' i o g;cases o with
 |none=>exact this
 |some t=>
  obtain⟨r,c,d,e⟩:=this;exact⟨r,c,by simp;omega,by rw[H3a _ f d];exact e⟩
theorem OfR.set{T:List Ty}{e:uZ}{d:Of}(h:OfR T e d){i r:Nat}{t:Tr}(g:r<T.length)(k:tr T r=t):OfR T (e.set i (r:Int)) (d.set i (some t)):=by
 refine⟨by rw[List.length_set,List.length_set];exact h.len,λj o a=> ?_⟩;by_cases b:i=j
 · subst b;rw[List.getElem?_set_self']at a;cases c:d[i]? with
   |none=>rw[c]at a;simp at a
   |some l=>
    rw[c]at a;simp at a;subst a;have f:i<e.length:=by
     rw[h.len];exact(List.getElem?_eq_some_iff.1 c).1
    exact⟨r,by rw[List.getElem?_set_self f],g,k⟩
 · rw[List.getElem?_set_ne b]at a;have:=h.at' j o a;rw[List.getElem?_set_ne b];exact this
def pcs(c:Cx)(e h:Value)(d:Int)(b g:Nat)(a f:Value):Array Value:=
 #[e,h,U d,pV b,.map (some g),a,f,U 0,U (c.T.length:Int),U ((c.T.length+1:Nat):Int),U ((c.T.length+2:Nat):Int),U ((c.T.length+3:Nat):Int),U ((c.T.length+4:Nat):Int)]
def nmM(c:Cx):Int->Option Int:=λx=>if 0<=x/\x<c.N.length/\c.ts.getD x.toNat 0≠-1 then some (c.ts.getD x.toNat 0) else none
def SW(f:lZ)(e a d k:Nat):Prop:=k=e\/k=a\/k=d\/(a<=k/\∃b c,f.heap[k]? =some (.cells b 76 c))
structure Cbs(w0:lZ)(c:Cx)(pb lb mb qb:Nat)(nv fv:Value):Prop where
 ok:F5c c
 nodes:Nrow w0 nv c.N
 names:ImM w0 qb 5000 (nmM c)
 fns:w0.ownsRow 0 3 1 fv c.N.length (C8 c.fn)
 tp:∃cs,w0.heap[pb]? =some (.cells cs 46 (0,0))
 tlb:∃cs,w0.heap[lb]? =some (.cells cs 102 (0,0))
 tm:∃es cl,w0.heap[mb]? =some (.map es cl)
 ne:qb≠mb
structure Cst(w0 w:lZ)(c:Cx)(pb lb mb qb:Nat)(nv yv:Value)(mn:Int)(fv:Value)(Z:List Ty)(ofs:uZ):Prop where
 chg:I (SW w0 pb lb mb) w0 w
 st:∃ov D,w.heap[pb]? =some (.cells (pcs c nv yv mn lb qb fv ov) 46 (0,0))/\w.ownsRow w0.heap.size 3 1 ov ofs.length (C8 ofs)/\Sho w lb mb 4000 (tl c Z) D (λg=>ov.ownBlock≠some g)
 few:Fw (tl c Z)
section
variable{e w:lZ}{c:Cx}{a d f j:Nat}{i n l:Value}{m:Int}{Z:List Ty}{h:uZ}
theorem Cbs.not(o:Cbs e c a d f j i l){k:Nat}{u:Array Value}{b:TypeId}{v:Nat×Nat}(g:e.heap[k]? =some (.cells u b v))(s:b≠46/\b≠102/\b≠76):¬SW e a d f k:=by
 obtain⟨_,p⟩:=o.tp;obtain⟨_,q⟩:=o.tlb;obtain⟨_,_,t⟩:=o.tm;rintro(rfl|rfl|rfl|⟨_,_,_,r⟩)
 · rw[g]at p;simp only[zQ,xW]at p;exact s.1 p.2.1
 · rw[g]at q;simp only[zQ,xW]at q;exact s.2.1 q.2.1
 · rw[g]at t;simp at t
 · rw[g]at r;simp only[zQ,xW]at r;exact s.2.2 r.2.1
theorem Cbs.nrow(k:Cbs e c a d f j i l)(p:I (SW e a d f) e w):Nrow w i c.N:=by
 obtain⟨v,o,r⟩:=k.nodes;refine⟨v,A4 o p λg t x=> ?_,r.imp (NdV.chg p (λg _ _ u b=> ?_) (λ_ _ _=>trivial))⟩
 · obtain⟨_,q,b⟩:=A9 o g t;exact k.not b (by decide) x
 · obtain⟨q,y,b,s⟩:=b;rcases s with rfl|rfl<;>exact k.not b (by decide) u
theorem Cbs.nm(b:Cbs e c a d f j i l)(p:I (SW e a d f) e w):ImM w j 5000 (nmM c):=by
 refine b.names.chg p ?_;obtain⟨_,g⟩:=b.tp;obtain⟨_,k⟩:=b.tlb;rintro(rfl|rfl|rfl|⟨_,_,_,o⟩)
 · exact b.names.notcells g
 · exact b.names.notcells k
 · exact b.ne rfl
 · exact b.names.notcells o
theorem Cbs.fn(b:Cbs e c a d f j i l)(k:I (SW e a d f) e w):w.ownsRow 0 3 1 l c.N.length (C8 c.fn):=
 A4 b.fns k λg o x=>by
  obtain⟨_,q,p⟩:=A9 b.fns g o;exact b.not p (by decide) x
theorem Cst.still{k:lZ}(o:Cst e w c a d f j i n m l Z h)(b:I No w k):Cst e k c a d f j i n m l Z h:=by
 obtain⟨p,⟨t,D,g,q,r⟩,s⟩:=o;exact⟨p.trans b (λ_ _ x=>x.elim),⟨t,D,by rw[b.block a (ltG g) (λx=>x)];exact g,A4 q b (λ_ _ x=>x),r.still b⟩,s⟩
theorem Cst.memo{u:lZ}(B:Cst e w c a d f j i n m l Z h)(p:I (λk=>k=f) w u)(s:∃D,Mst u f 4000 (tl c Z) D):Cst e u c a d f j i n m l Z h:=by
 obtain⟨C,⟨H,D,q,y,z⟩,E⟩:=B;obtain⟨A,s⟩:=s;have t:∀k b o v,w.heap[k]? =some (.cells b o v)->k≠f:=λk b o v r x=>by subst x;exact z.mst.tag _ _ _ r
 refine⟨C.trans p (λ_ _ x=> .inr (.inr (.inl x))),⟨H,A, ?_,A4 y p (λg F x=> ?_),z.chg p s (λk b o r _=>t k b o _ r) (λ_ x _=>x)⟩,E⟩
 · rw[p.block a (ltG q) (t _ _ _ _ q)];exact q
 · obtain⟨_,b,G⟩:=A9 y g F;exact t _ _ _ _ G x
theorem Cst.swm{b:lZ}(g:Cst e w c a d f j i n m l Z h)(o:I (λk=>k=f) w b):I (SW e a d f) e b:=g.chg.trans o (λ_ _ x=> .inr (.inr (.inl x)))
theorem Cst.sho(b:Cst e w c a d f j i n m l Z h):∃D,Shp w d f 4000 (tl c Z) D:=by
 obtain⟨_,⟨k,D,_,_,g⟩,_⟩:=b;exact⟨D,g.shp⟩
theorem Cst.ts(b:Cst e w c a d f j i n m l Z h):TsOk (tl c Z):=by
 obtain⟨D,b⟩:=b.sho;exact b.ok
theorem Cst.le(b:Cst e w c a d f j i n m l Z h):(tl c Z).length<=4000:=by
 obtain⟨D,b⟩:=b.sho;exact b.few
def KG(k b:lZ):Prop:=k.heap.size<=b.heap.size/\∀(q:Nat) (o:Array Value) (g:TypeId) (p:Nat×Nat),k.heap[q]? =some (.cells o g p)->g≠102->g≠76->b.heap[q]? =some (.cells o g p)
theorem KG.trans{g b c:lZ}(s:KG g b)(k:KG b c):KG g c:=⟨kQ s.1 k.1,λq o p r x t u=>k.2 q o p r (s.2 q o p r x t u) t u⟩
theorem KG.still{g b:lZ}(k:I No g b):KG g b:=⟨k.size,λq o p r x _ _=>by rw[k.block q (ltG x) (λy=>y)];exact x⟩
theorem KG.row{p b:lZ}(y:KG p b){q:Nat}{k:TypeId}{t:Nat}{v:Value}{s:Nat}{u:List Value}(B:p.ownsRow q k t v s u)(z:k≠102)(A:k≠76):b.ownsRow q k t v s u:=by
 obtain⟨x,o⟩:=B;refine⟨x, ?_⟩;rcases o with o|⟨g,cap,cur,e1,e2,e3,r⟩
 · exact .inl o
 · exact .inr ⟨g,cap,cur,e1,e2,y.2 _ _ _ _ e3 z A,r⟩
theorem Cst.grow{r:lZ}{v:Value}{X:List Ty}(y:Cst e w c a d f j i n m l Z h)(G:w.cell? (J d 0)=some v)(B:I (L4a d v) w r){x:Value}{D:Dt}(M:w.heap[a]? =some (.cells (pcs c i n m d j l x) 46 (0,0)))(S:w.ownsRow e.heap.size 3 1 x h.length (C8 h))
 (T:Sho r d f 4000 (tl c Z++X) D (λg=>x.ownBlock≠some g)) (N:Fw (tl c Z++X)):Cst e r c a d f j i n m l (Z++X) h/\KG w r:=by
 obtain⟨D0,V⟩:=y.sho;obtain⟨Y,yx,u,H,_⟩:=V.blk;have L:v=Y:=by
  rw[cell_of_row w d 0 _ _ _ u]at G;exact(bY G).symm
 subst L;have W:∀(q:Nat) (s:Array Value) (b:TypeId) (t:Nat×Nat),w.heap[q]? =some (.cells s b t)->b≠102->b≠76->¬L4a d v q:=by
  rintro q s b t p z A (rfl|C)
  · rw[p]at u;simp only[zQ,xW]at u;exact z u.2.1
  · obtain⟨_,K,o⟩:=A9 H q C.symm;rw[p]at o;simp only[zQ,xW]at o;exact A o.2.1
 have E:KG w r:=⟨B.size,λq s b t p z A=>by rw[B.block q (ltG p) (W q s b t p z A)];exact p⟩;refine⟨⟨y.chg.trans B ?_,⟨x,D,E.2 _ _ _ _ M (by decide) (by decide),E.row S (by decide) (by decide),by rw[<-D9a];exact T⟩,by rw[<-D9a];exact N⟩,E⟩;rintro k P (rfl|C)
 · exact .inr (.inl rfl)
 · by_cases F:SW e a d f k
   · exact F
   · obtain⟨R,K,o⟩:=A9 H k C.symm;rw[y.chg.block k P F]at o;exact .inr (.inr (.inr ⟨R,_,_,o⟩))
theorem Cst.cell(v:Cst e w c a d f j i n m l Z h):∃r q,a<w.heap.size/\(∀o,w.frozen? (J a o)=false)/\w.cell? (J a 0)=some i/\w.cell? (J a 1)=some n/\w.cell? (J a 2)=some (U m)/\w.cell? (J a 3)=some (pV d)/\w.cell? (J a 4)=some (.map (some j))/\w.cell? (J a 5)=some l/\w.cell? (J a 6)=some (.slice r h.length q)/\
 (∀k:Nat,1<=k->k<=5->w.cell? (J a (7+k))=some (U ((c.T.length+k - 1:Nat):Int)))/\
 ∀p (u:p<h.length),∃g,r=some (J g 0)/\e.heap.size<=g/\g<w.heap.size/\h.length<=q/\q<=maxLen/\w.cell? (J g p)=some (U h[p])/\(∀o,w.frozen? (J g o)=false):=by
 obtain⟨F,⟨M,D,b,s,G⟩,H⟩:=v;obtain⟨r,q,rfl⟩:=B9 s;refine⟨r,q,(ltG b),λo=>frozen_of_row w a o _ _ b,cr b rfl,cr b rfl,cr b rfl,cr b rfl,cr b rfl,cr b rfl,cr b rfl,λk K L=> ?_,λp u=> ?_⟩
 · rw[cell_of_row w a (7+k) _ _ _ b];have:k=1\/k=2\/k=3\/k=4\/k=5:=by omega
   rcases this with rfl|rfl|rfl|rfl|rfl<;>rfl
 · obtain⟨g,t,z,A,B,x,y⟩:=F5 s (by omega);obtain⟨_,E,C⟩:=A9 s g (by rw[t];rfl);exact⟨g,t,z,A,B,x,y p _ (by simp[C8,u]),λo=>frozen_of_row w g o _ _ C⟩
theorem Cst.look{g:Of}(v:OfR (tl c Z) h g){b:Nat}{t:Tr}(k:g[b]? =some (some t)):∃(r:Nat) (x:b<h.length),h[b]=(r:Int)/\r<(tl c Z).length/\tr (tl c Z) r=ofA g (b:Int):=by
 obtain⟨r,o,p,q⟩:=v.at' b _ k;obtain⟨s,u⟩:=List.getElem?_eq_some_iff.1 o;refine⟨r,s,u,p, ?_⟩;unfold ofA;rw[tQ,lQ,k];exact q
theorem Y4b(g:TsOk c.T){b:Nat}(k:b<c.T.length):tr (tl c Z) b=tr c.T b:=by
 unfold tl;rw[kZ,H3a _ g k]
theorem D8a(p:TsOk (tl c Z)){k:Nat}(q:1<=k)(r:k<=5):tr (tl c Z) (c.T.length+k - 1)=plT (k:Int):=by
 have g:c.T.length+k - 1<(tl c Z).length:=by rw[T8];omega
 have o:(tl c Z)[c.T.length+k - 1]=⟨(k:Int),[],[],0⟩:=by
  have b:(tl c Z)[c.T.length+k - 1]? =some ⟨(k:Int),[],[],0⟩:=by
   show (c.T++I9++Z)[c.T.length+k - 1]? =_;rw[List.getElem?_append_left (by simp[I9];omega),List.getElem?_append_right (by omega)];have:k=1\/k=2\/k=3\/k=4\/k=5:=by omega
   rcases this with rfl|rfl|rfl|rfl|rfl<;>simp[I9]
  rw[gQ g]at b;exact bY b
 rw[Y0 p g,o];have:¬((k:Int)=8\/(k:Int)=9):=by omega
 simp[plT,this]
end
theorem G8e(a b c d:Value)(w:lZ):(Instr.field 76 (.agg #[a,b,c,d]) 0).run prog w= .ok a w:=by kernel_rfl
theorem G7e(a b c d:Value)(w:lZ):(Instr.field 76 (.agg #[a,b,c,d]) 2).run prog w= .ok c w:=by kernel_rfl
def GtP(t:Ty)(w:lZ)(e:Ending)(a:lZ):Prop:=∃b c d f,e= .returned (.agg #[U t.kind,.slice b t.fields.length c,.slice d t.list.length f,U t.of'])/\I No w a/\
 a.ownsRow 0 131 2 (.slice b t.fields.length c) t.fields.length (G5 t.fields)/\a.ownsRow 0 3 1 (.slice d t.list.length f) t.list.length (C8 t.list)
theorem S7d{f q N:Nat}{T:List Ty}{D:Dt}(i:Nat)(w:lZ)(p:i<T.length)(h:Shp w f q N T D):
 Calls prog 112 #[pV f,U (i:Int)] w (GtP T[i] w):=by
 have z:=h.few;obtain⟨r,c,s,u,B,v,d⟩:=h.cell;obtain⟨g,a,b,e,j,rfl,A,y,o,C,E,F,G,k,l⟩:=d i p;have m:=O k;have n:=O l;unfold maxLen at o;clear d h k l;generalize T[i]=t at *;go_enter func112,ntmps112;go_wp2;exact bodyPost_ret (v:= .agg #[U t.kind,.slice a t.fields.length b,.slice e t.list.length j,U t.of']) (by simp[results,results112,go_sem]) rfl ⟨a,b,e,j,rfl,I.alloc _ _ _,A4 m.o (I.alloc No _ _) (λ_ _ x=>x),A4 n.o (I.alloc No _ _) (λ_ _ x=>x)⟩
theorem H9e{l C N:Nat}{T:List Ty}{D:Dt}(i:Nat)(w:lZ)(B:i<T.length)(h:Shp w l C N T D):
 ∃d f j k,(w.ownsRow 0 131 2 (.slice d T[i].fields.length f) T[i].fields.length (G5 T[i].fields)/\w.ownsRow 0 3 1 (.slice j T[i].list.length k) T[i].list.length (C8 T[i].list))/\∀a,I No w a->
  Calls prog 112 #[pV l,U (i:Int)] a λe E=>e= .returned (.agg #[U T[i].kind,.slice d T[i].fields.length f,.slice j T[i].list.length k,U T[i].of'])/\E=a.alloc (.cells #[U T[i].kind,.slice d T[i].fields.length f,.slice j T[i].list.length k,U T[i].of'] 76):=by
 have H:=h.few;obtain⟨F,c,m,y,p,z,n⟩:=h.cell;obtain⟨g,d,f,j,k,rfl,o,G,A,s,u,v,x,q,r⟩:=n i B;refine⟨d,f,j,k,⟨q,r⟩,λa b=> ?_⟩;replace m:=A8 b m;replace s:=A8 b s;replace u:=A8 b u;replace v:=A8 b v;replace x:=A8 b x;have K:g<a.heap.size:=yQ o b.size;have L:l<a.heap.size:=yQ p b.size;unfold maxLen at A;clear n h q r o p z y b;generalize T[i]=t at *;go_enter func112,ntmps112;go_wp2;exact bodyPost_ret (v:= .agg #[U t.kind,.slice d t.fields.length f,.slice j t.list.length k,U t.of']) (by simp[results,results112,go_sem]) rfl ⟨rfl,rfl⟩
section
variable{e w:lZ}{c:Cx}{b d i g:Nat}{f k h:Value}{j:Int}{Z:List Ty}{a:uZ}
def A4c(c:Cx)(n:Nd):Int:=if n.ty= -1 then ((c.T.length+4:Nat):Int) else n.ty
def G4a(c:Cx)(a:uZ)(l:Nat):Int:=if (ndx c.N l).ty≠-1 then (ndx c.N l).ty else if (ndx c.N l).kind=17 then a.getD (ndx c.N l).a.toNat 0 else ((c.T.length+4:Nat):Int)
theorem R2b(m:Cst e w c b d i g f k j h Z a)(n:Nd)(r:Option Addr)(s:Nat):
 Calls prog 108 #[pV b,nvl n r s] w λq v=>q= .returned (U (A4c c n))/\I No w v:=by
 obtain⟨D,E,y,x,F,G,H,K,L,M,N,o,u⟩:=m.cell;have t:=o 5 (by omega) (by omega);clear o u m;obtain⟨B,R,S,T,C,P,V,p,W⟩:=n;unfold A4c nvl;simp only[show 7+5=12 from rfl,show c.T.length+5 - 1=c.T.length+4 by omega]at t;by_cases l:p= -1
 · subst l;simp only[if_true];generalize ((c.T.length+4:Nat):Int)=z at *;go_enter func108,ntmps108;go_wp2;go_ret;exact⟨rfl,I.alloc No _ _⟩
 · simp only[yY l];have A:(p== -1)=false:=by simpa using l
   go_enter func108,ntmps108;go_wp2;go_ret;exact⟨rfl,I.alloc No _ _⟩
theorem L5a(o:Cbs e c b d i g f h)(n:Cst e w c b d i g f k j h Z a)(l:Nat)(q:l<c.N.length):
 Calls prog 113 #[pV b,U (l:Int)] w λm r=>m=gu 9 (atI c.N l)/\I No w r:=by
 obtain⟨H,K,D,y,L,M,N,P,R,S,T,x,v⟩:=n.cell;obtain⟨z,G,E,F,rfl,A,C,u,⟨V,W,X,Y,x4,x5,x6,x7,x8⟩,-,-⟩:=(o.nrow n.chg).at (Below.refl _ _) l q;have B:=o.ok.lenN;have m:atI c.N l=c.N[l].at':=by unfold atI;rw[lQ,gQ q];rfl
 rw[m];unfold maxLen at u;clear x v n o m;generalize c.N[l].at'=p at *;have s:=B1a w 9 p;go_enter func113,ntmps113;go_wp2_with fail
 refine s.mono ?_;rintro m r ⟨rfl,t⟩;exact⟨rfl,rfl,t⟩
theorem F1d(n:Cst e w c b d i g f k j h Z a)(m:Nat)(x:m<a.length)(r:Nat)(p:a[m]=(r:Int))(z:r<(tl c Z).length):
 Calls prog 163 #[pV b,U (m:Int)] w λo B=>o= .returned (U (tl c Z)[r].kind)/\I No w B:=by
 obtain⟨T,V,P,G,W,X,Y,q3,q4,q5,q6,A,s⟩:=n.cell;obtain⟨H,rfl,L,M,N,y,C,-⟩:=s m x;rw[p]at C;unfold maxLen at y;obtain⟨D,q⟩:=n.sho;have t:Hid (∀l,I No w l->Calls prog 112 #[pV d,U (r:Int)] l (GtP (tl c Z)[r] l)):=λl u=>S7d r l z (q.still u);have K:=G8e;clear A s n p q;generalize (tl c Z)[r]=a2 at *;go_enter func163,ntmps163;go_wp2_with fail
 go_region_with (go_at_call 112;refine(t.o _ (I.drewN _ _ 1)).mono ?_;rintro o a3 ⟨E,F,R,S,rfl,v,-,-⟩)
 all_goals
  go_wp2_with fail
  go_ret;exact⟨rfl,D3 (I.drewN _ _ 1) v⟩
theorem S4d(n:Cst e w c b d i g f k j h Z a)(l:Nat)(t:l<a.length)(r:Nat)(o:a[l]=(r:Int))(u:r<(tl c Z).length):
 Calls prog 187 #[pV b,U (l:Int)] w λm p=>m= .returned (.bool ((tl c Z)[r].kind==5))/\I No w p:=by
 have q:=F1d n l t r o u;clear n o;generalize (tl c Z)[r].kind=v at *;go_enter func187,ntmps187;go_wp2_with fail
 refine q.mono ?_;rintro m p ⟨rfl,s⟩;go_wp2_with fail
 go_ret;exact⟨rfl,s⟩
theorem F7d(p:Cbs e c b d i g f h)(o:Cst e w c b d i g f k j h Z a)(l:Nat)(t:l<c.N.length)(s:(ndx c.N l).ty= -1->(ndx c.N l).kind=17->∃n:Nat,(ndx c.N l).a=(n:Int)/\n<a.length):
 Calls prog 74 #[pV b,U (l:Int)] w λz E=>z= .returned (U (G4a c a l))/\I No w E:=by
 obtain⟨oa,oc,T,F,q0,q1,q2,q3,q4,q5,q6,x,m⟩:=o.cell;obtain⟨G,nc,W,X,rfl,K,N,A,⟨x0,x1,x2,x3,x4,x5,x6,x7,x8⟩,-,-⟩:=(p.nrow o.chg).at (Below.refl _ _) l t;have D:=x 5 (by omega) (by omega);have M:=p.ok.lenN;unfold maxLen at A;simp only[show 7+5=12 from rfl,show c.T.length+5 - 1=c.T.length+4 by omega]at D;unfold G4a;rw[F7 t]at s⊢;clear x o p;generalize c.N[l]=C at *;obtain⟨v,va,vb,vc,Y,tx,vn,y,vp⟩:=C;simp only at *;generalize ((c.T.length+4:Nat):Int)=a3 at *;by_cases r:y= -1
 · subst r;rw[yY (by simp)];by_cases q:v=17
   · subst q;obtain⟨n,rfl,u⟩:=s rfl rfl;obtain⟨H,rfl,P,R,S,B,y0,-⟩:=m n u;rw[rY rfl,tQ,lQ,gQ u];simp only[Option.getD_some];unfold maxLen at B;generalize a[n]=a2 at *;clear m;go_enter func74,ntmps74;go_wp2_with fail
     go_region
     all_goals go_wp2_with fail
     all_goals go_ret
     all_goals exact⟨rfl,D3 (I.alloc No _ _) (I.drewN _ _ 1)⟩
   · rw[yY q];have L:(v==17)=false:=by simpa using q
     clear m;go_enter func74,ntmps74;go_wp2_with fail
     go_ret;exact⟨rfl,I.alloc No _ _⟩
 · rw[rY r];have V:(y != -1)=true:=by simpa using r
   clear m;go_enter func74,ntmps74;go_wp2_with fail
   go_ret;exact⟨rfl,I.alloc No _ _⟩
end
theorem N7c(w:lZ)(a b:bZ)(x:Int)(c:Nat)(d:w.cell? (J c 5)=some (.string ⟨a.toArray⟩)):
 Calls prog 115 #[.agg #[.string ⟨b.toArray⟩,U x],pV c] w λe f=>e= .returned (.bool (b==a))/\I No w f:=by
 have g:=World.block_lt_of_cell? w _ d;by_cases h:b=a
 · subst h;go_enter func115,ntmps115;go_wp2;go_ret;exact⟨F8 (by simp),I.alloc _ _ _⟩
 · go_enter func115,ntmps115;go_wp2;go_ret;exact⟨F8 (by simp),I.alloc _ _ _⟩
section
variable{f w:lZ}{c:Cx}{e b a h:Nat}{g k i:Value}{j:Int}{Z:List Ty}{d:uZ}
theorem D0e(o:Cst f w c e b a h g k j i Z d)(r l:Nat)(v:r<(tl c Z).length)(u:l<(tl c Z).length):
 Calls prog 160 #[pV b,U (r:Int),U (l:Int)] w λn m=>n= .returned (.bool (F2 (tr (tl c Z) r) (tr (tl c Z) l)))/\I (λy=>y=a) w m/\Cst f m c e b a h g k j i Z d:=by
 obtain⟨D,x⟩:=o.sho;refine(C3b (lb:=b) (mb:=a) (N:=4000) (T:=tl c Z) (r+l+1) r l w D (by omega) v u x).mono ?_;rintro n m ⟨s,p,q,t,_⟩;exact⟨s,p,o.memo p ⟨q,t⟩⟩
def FtQ(f w:lZ)(c:Cx)(e b a h:Nat)(g k:Value)(j:Int)(i:Value)(Z:List Ty)(d:uZ)(o:Nat)(n:Bool)(l:Ending)(m:lZ):Prop:=I (λp=>p=a) w m/\match n with
 |true=>l=rT/\Cst f m c e b a h g k j i Z d
 |false=>l=gu 9 (atI c.N o)
def ExQ(f w:lZ)(c:Cx)(e b a h:Nat)(g k:Value)(j:Int)(i:Value)(Z:List Ty)(d:uZ)(n:Nat)(o:Option Tr)(l:Ending)(m:lZ):Prop:=I (λp=>p=a) w m/\match o with
 |none=>l=gu 9 (atI c.N n)
 |some t=>Cst f m c e b a h g k j i Z d/\∃x:Nat,l= .returned (U (x:Int))/\x<(tl c Z).length/\tr (tl c Z) x=t
theorem X4d(A:Cbs f c e b a h g i)(q:Cst f w c e b a h g k j i Z d)(n:Nat)(K:n<c.N.length)(p:Nat)(M:p<d.length)(r:Nat)(B:d[p]=(r:Int))(N:r<(tl c Z).length)(l:Nat)(H:l<(tl c Z).length):
 Calls prog 111 #[pV e,U (n:Int),U (p:Int),U (l:Int)] w (FtQ f w c e b a h g k j i Z d n (F2 (tr (tl c Z) r) (tr (tl c Z) l))):=by
 obtain⟨oa,oc,a2,T,q0,q1,q2,q3,q4,q5,q6,P,C⟩:=q.cell;obtain⟨V,rfl,W,X,Y,L,S,-⟩:=C p M;rw[B]at S;unfold maxLen at L;have y:Hid (∀u,I No w u->_):=λu t=>D0e (q.still t) r l N H;have D:Hid (∀u,Cst f u c e b a h g k j i Z d->_):=λu t=>L5a A t n K;clear P C q B A;generalize F2 (tr (tl c Z) r) (tr (tl c Z) l)=F at *;cases F
 · go_enter func111,ntmps111;go_wp2_with fail
   go_region_with (go_at_call 160;refine(y.o _ (I.drewN _ _ 1)).mono ?_;rintro z R ⟨rfl,m,s⟩)
   all_goals
    have o:=O ((I.drewN (λv=>v=a) w 1).trans m (λ_ _ x=>x));have E:=D.o _ s;clear m;go_wp2_with fail
    refine E.mono ?_;rintro z a3 ⟨rfl,G⟩;exact⟨rfl,o.o.trans G (λ_ _ x=>x.elim),rfl⟩
 · go_enter func111,ntmps111;go_wp2_with fail
   go_region_with (go_at_call 160;refine(y.o _ (I.drewN _ _ 1)).mono ?_;rintro z R ⟨rfl,m,s⟩)
   all_goals
    have o:=O ((I.drewN (λv=>v=a) w 1).trans m (λ_ _ x=>x));clear m;go_wp2_with fail
    go_end0;exact⟨o.o,rfl,s⟩
end
theorem S9{a b:lZ}{q:Nat}{c:Array Value}{e:TypeId}(d:I No a b)(h:a.heap[q]? =some (.cells c e (0,0))):b.heap[q]? =some (.cells c e (0,0)):=by
 rw[d.block q (ltG h) (λx=>x)];exact h
theorem G0d{k B N:Nat}{T:List Ty}{D:Dt}(i:Nat)(w:lZ)(z:i<T.length)(h:Shp w k B N T D):
 ∃g c b d f j,w.cell? (J k 0)=some (.slice (some (J g 0)) T.length c)/\w.cell? (J g (i * 4))=some (U T[i].kind)/\w.cell? (J g (i * 4+1))=some (.slice b T[i].fields.length d)/\w.cell? (J g (i * 4+2))=some (.slice f T[i].list.length j)/\w.cell? (J g (i * 4+3))=some (U T[i].of')/\
  (w.ownsRow 0 131 2 (.slice b T[i].fields.length d) T[i].fields.length (G5 T[i].fields)/\w.ownsRow 0 3 1 (.slice f T[i].list.length j) T[i].list.length (C8 T[i].list))/\∀a:lZ,a.cell? (J k 0)=some (.slice (some (J g 0)) T.length c)->a.cell? (J g (i * 4))=some (U T[i].kind)->a.cell? (J g (i * 4+1))=some (.slice b T[i].fields.length d)->a.cell? (J g (i * 4+2))=some (.slice f T[i].list.length j)->a.cell? (J g (i * 4+3))=some (U T[i].of')->
  Calls prog 112 #[pV k,U (i:Int)] a λe C=>e= .returned (.agg #[U T[i].kind,.slice b T[i].fields.length d,.slice f T[i].list.length j,U T[i].of'])/\C=a.alloc (.cells #[U T[i].kind,.slice b T[i].fields.length d,.slice f T[i].list.length j,U T[i].of'] 76):=by
 have G:=h.few;obtain⟨E,c,l,u,A,v,n⟩:=h.cell;obtain⟨g,b,d,f,j,rfl,y,F,x,m,q,r,s,o,p⟩:=n i z;refine⟨g,c,b,d,f,j,l,m,q,r,s,⟨o,p⟩,λa l m q r s=> ?_⟩;have H:g<a.heap.size:=World.block_lt_of_cell? a _ m;have K:k<a.heap.size:=World.block_lt_of_cell? a _ l;unfold maxLen at x;clear n h o p y A v u;generalize T[i]=t at *;go_enter func112,ntmps112;go_wp2;exact bodyPost_ret (v:= .agg #[U t.kind,.slice b t.fields.length d,.slice f t.list.length j,U t.of']) (by simp[results,results112,go_sem]) rfl ⟨rfl,rfl⟩
section
variable{f w:lZ}{c:Cx}{b e j h:Nat}{g l i:Value}{k:Int}{Z:List Ty}{d:uZ}{a:Of}
theorem E0c{T:List Ty}(m:TsOk T){r:Nat}(o:r<T.length)(t:T[r].kind≠5)(q:bZ)(u:¬(T[r].kind=8/\q=[108,101,110,103,116,104])){n:Nd}(x:n.text=q)(v:ofA a n.a=tr T r):
 N9 a n=J1 q (T[r].fields.map (·.1)) (T[r].fields.map λp=>tr T p.2.toNat):=by
 unfold N9;rw[v,D7a m o,yY t,x,yY u,U8c m o,M9a m o];by_cases s:T[r].kind=7
 · rw[yY (by omega),L7b m o (.inl s)];simp
 · rw[R7a m o s];simp[J1]
theorem K3c(hB:Cbs f c b e j h g i)(P:Cst f w c b e j h g l k i Z d)(o:Nat)(hi:o<c.N.length)(p:Nat)(hp:p<d.length)(al:c.N[o].a=(p:Int))(r:Nat)(hr:d[p]=(r:Int))(S:r<(tl c Z).length)(he:ofA a c.N[o].a=tr (tl c Z) r):
 Calls prog 76 #[pV b,U (o:Int)] w (ExQ f w c b e j h g l k i Z d o (N9 a c.N[o])):=by
 obtain⟨oa,oc,b2,fz,q0,q1,q2,T,q4,q5,q6,qp,qo⟩:=P.cell;obtain⟨go,rfl,az,b0,bg,b1,R,-⟩:=qo p hp;rw[hr]at R;obtain⟨bb,nc,la,lc,rfl,hg,bf,ax,⟨x0,x1,x2,x3,x4,x5,x6,x7,x8⟩,-,-⟩:=(hB.nrow P.chg).at (Below.refl _ _) o hi;have a5:=qp 1 (by omega) (by omega);simp only[show 7+1=8 from rfl,show c.T.length+1 - 1=c.T.length by omega]at a5;have bd:=hB.ok.lenN;have hT:=P.ts;unfold maxLen at ax b1;obtain⟨ba,hs⟩:=P.sho;obtain⟨Y,ct,fa,fc,b4,b5,z0,z1,z2,z3,z4,⟨ae,-⟩,ah⟩:=G0d r w S hs;have HG:=O ah;have ad:=O ae;clear ah ae;have HW:Hid (∀ab,I No w ab->_):=λab hu=>L5a hB (P.still hu) o hi;have V:=O P;have ar:=O (D8a hT (k:=1) (by omega) (by omega));have av:c.T.length<(tl c Z).length:=by rw[T8];omega
 have E5:Hid ((tl c Z)[r].kind=5->N9 a c.N[o]=some (tr (tl c Z) r)):=λM=>by
  unfold N9;rw[he,D7a hT S,rY M]
 have E8:Hid ((tl c Z)[r].kind=8->c.N[o].text=[108,101,110,103,116,104]->N9 a c.N[o]=some (plT 1)):=λs ht=>by
  unfold N9;rw[he,D7a hT S,yY (by omega),rY ⟨s,ht⟩]
 have EF:Hid ((tl c Z)[r].kind≠5->¬((tl c Z)[r].kind=8/\c.N[o].text=[108,101,110,103,116,104])->N9 a c.N[o]=J1 c.N[o].text ((tl c Z)[r].fields.map (·.1)) ((tl c Z)[r].fields.map λp=>tr (tl c Z) p.2.toNat)):=λM s=>E0c hT S M _ s rfl he;have aq:=O (hT r S).fld;have a8:=O S;rw[al]at x1;clear qp qo P hr hs hB al he;generalize N9 a c.N[o]=FT at *;generalize c.N[o]=nd at *;generalize (tl c Z)[r]=b7 at *;obtain⟨kd,va,vb,vc,ls,A,vn,vt,vp⟩:=nd;obtain⟨H,v,b8,b9⟩:=b7;simp only at *;have B:=I.alloc No w (ndC kd (p:Int) vb vc (.slice la ls.length lc) A vn vt vp);have nb:=qY w (ndC kd (p:Int) vb vc (.slice la ls.length lc) A vn vt vp);have n1:(w.alloc (ndC kd (p:Int) vb vc (.slice la ls.length lc) A vn vt vp)).cell? (J w.heap.size 1)=some (U (p:Int)):=cr nb rfl;have n5:(w.alloc (ndC kd (p:Int) vb vc (.slice la ls.length lc) A vn vt vp)).cell? (J w.heap.size 5)=some (.string ⟨A.toArray⟩):=cr nb rfl;replace T:=A8 B T;replace q6:=A8 B q6;replace a5:=A8 B a5;replace R:=A8 B R;replace z0:=A8 B z0;replace z1:=A8 B z1;replace z2:=A8 B z2;replace z3:=A8 B z3;replace z4:=A8 B z4;have am:=blt T;have ag:=blt R;have aj:=blt z0;have ao:=blt z1;have ak:=blt n1;simp only at am ag aj ao ak;have ac:=O B;clear B nb;go_enter func76,ntmps76;go_wp2_with fail
 clear q0 q1 q2 q4 q5 fz x0 x1 x2 x3 x4 x5 x6 x7 x8 b2 hg az b0;generalize (w.alloc (ndC kd (p:Int) vb vc (.slice la ls.length lc) A vn vt vp))=au at *;go_cut [6] (λv6 wc=>∃aa:Nat,v6=pV aa/\Hid (I No au wc)/\wc.cell? (J aa 0)=some (U H)/\wc.cell? (J aa 1)=some (.slice fa v.length fc))
 case first=>
  go_region_held3 (λF=>F.cell? (J b 3)=some (pV e)/\F.cell? (J b 6)=some (.slice (some (J go 0)) d.length oc)/\F.cell? (J go p)=some (U (r:Int))/\F.cell? (J w.heap.size 1)=some (U (p:Int))/\
   F.cell? (J e 0)=some (.slice (some (J Y 0)) (tl c Z).length ct)/\F.cell? (J Y (r * 4))=some (U H)/\F.cell? (J Y (r * 4+1))=some (.slice fa v.length fc)/\F.cell? (J Y (r * 4+2))=some (.slice b4 b8.length b5)/\F.cell? (J Y (r * 4+3))=some (U b9))
   (go_keep)
   (first
    |((go_at_call 112;go_split_ands;refine(HG.o _ (by assumption) (by assumption) (by assumption) (by assumption) (by assumption)).mono ?_;rintro D F ⟨rfl,rfl⟩)))
  all_goals go_wp2_with fail
  all_goals go_meet
  all_goals exact⟨_,rfl,D3 (D3 (I.alloc No _ _) (I.alloc No _ _)) (I.drewN No _ 1),by simp[go_sem],by simp[go_sem]⟩
 case rest=>
  obtain⟨aa,rfl,K,t0,G⟩:=hcut;have t:=O (D3 ac.o K.o);replace T:=A8 K.o T;replace q6:=A8 K.o q6;replace a5:=A8 K.o a5;replace R:=A8 K.o R;replace n1:=A8 K.o n1;replace n5:=A8 K.o n5;have b3:=blt T;have aw:=blt R;have ay:=blt n1;simp only at b3 aw ay;have FO:=O (A4 ad.o t.o (λ_ _ x=>x));clear z0 z1 z2 z3 z4 am ag aj ao ak HG ad ac K;by_cases M:H=5
  · have e5:=E5.o M;subst M;go_wp2_with fail
    go_quiet (fail)
    go_wp2_with fail
    go_ret;rw[e5];exact⟨(D3 t.o (I.drewN No _ _)).mono (λ_ _ x=>x.elim),V.o.still (D3 t.o (I.drewN No _ _)),r,rfl,a8.o,rfl⟩
  have bc:(H==5)=false:=by simpa using M
  have be:=mkf;have a7:=O (V3b 115 (λ_ _=>by go_simp) wc fa fc v FO.o A w.heap.size (λab hu b6 x=>N7c ab A b6 x _ (A8 hu n5)));have L:Hid (¬(H=8/\A=[108,101,110,103,116,104])->∀(x:Int),Idx v A x->(∃q:Nat,∃E:q<v.length,x=q/\FT=some (tr (tl c Z) v[q].2.toNat)/\(0<=v[q].2/\v[q].2<(r:Int)))\/x= -1/\FT=none):=by
   intro s x y;have eF:=EF.o M s;rcases y with ⟨q,E,rfl,h1,h2⟩|⟨rfl,h1⟩
   · exact .inl ⟨q,E,rfl,by rw[eF];exact P0a E h1 h2,aq.o _ (mQ E)⟩
   · exact .inr ⟨rfl,by rw[eF];exact I3a h1⟩
  clear EF E5;by_cases a9:A=[108,101,110,103,116,104]
  · subst a9;by_cases s:H=8
    · have e8:=O (E8.o s rfl);subst s;clear E8 L a7;go_wp2_with fail
      go_ret;exact⟨t.o.mono (λ_ _ x=>x.elim),by rw[e8.o];exact⟨V.o.still t.o,c.T.length,rfl,av,by simpa using ar.o⟩⟩
    · have g8:(H==8)=false:=by simpa using s
      replace L:=O (L.o (λD=>s D.1));clear E8 s;go_wp2_with fail
      refine a7.o.mono ?_;rintro D a6 ⟨⟨x,rfl,y⟩,n⟩;rcases L.o x y with ⟨q,E,rfl,m,a4⟩|⟨rfl,m⟩
      · obtain⟨g2,rfl,af,ai,a2,v0,v1⟩:=Y5 (A4 FO.o n (λ_ _ x=>x)) E;replace G:=A8 n G;have a3:=blt G;simp only at a3;have u:=O (D3 t.o n);have C:=O m;obtain⟨z,N⟩:∃z:Nat,v[q].2=(z:Int):=⟨v[q].2.toNat,by omega⟩;rw[N]at v1 a4 m;have W:=O m;unfold maxLen at a2;clear v0 y n m C N;go_wp2_with fail
        go_ret;have an:=a8.o;exact⟨u.o.mono (λ_ _ x=>x.elim),by rw[W.o];exact⟨V.o.still u.o,z,rfl,by omega,rfl⟩⟩
      · have X:=O (HW.o a6 (D3 t.o n));have u:=O (D3 t.o n);have C:=O m;clear y n m;go_wp2_with fail
        refine X.o.mono ?_;rintro D ap ⟨rfl,h7⟩;exact⟨rfl,(D3 u.o h7).mono (λ_ _ x=>x.elim),by rw[C.o];rfl⟩
  · have gx:(A==[108,101,110,103,116,104])=false:=by simpa using a9
    replace L:=O (L.o (λD=>a9 D.2));clear E8 a9;by_cases s:H=8
    · subst s;go_wp2_with fail
      refine a7.o.mono ?_;rintro D a6 ⟨⟨x,rfl,y⟩,n⟩;rcases L.o x y with ⟨q,E,rfl,m,a4⟩|⟨rfl,m⟩
      · obtain⟨g2,rfl,af,ai,a2,v0,v1⟩:=Y5 (A4 FO.o n (λ_ _ x=>x)) E;replace G:=A8 n G;have a3:=blt G;simp only at a3;have u:=O (D3 t.o n);have C:=O m;obtain⟨z,N⟩:∃z:Nat,v[q].2=(z:Int):=⟨v[q].2.toNat,by omega⟩;rw[N]at v1 a4 m;have W:=O m;unfold maxLen at a2;clear v0 y n m C N;go_wp2_with fail
        go_ret;have an:=a8.o;exact⟨u.o.mono (λ_ _ x=>x.elim),by rw[W.o];exact⟨V.o.still u.o,z,rfl,by omega,rfl⟩⟩
      · have X:=O (HW.o a6 (D3 t.o n));have u:=O (D3 t.o n);have C:=O m;clear y n m;go_wp2_with fail
        refine X.o.mono ?_;rintro D ap ⟨rfl,h7⟩;exact⟨rfl,(D3 u.o h7).mono (λ_ _ x=>x.elim),by rw[C.o];rfl⟩
    · have g8:(H==8)=false:=by simpa using s
      clear s;go_wp2_with fail
      refine a7.o.mono ?_;rintro D a6 ⟨⟨x,rfl,y⟩,n⟩;rcases L.o x y with ⟨q,E,rfl,m,a4⟩|⟨rfl,m⟩
      · obtain⟨g2,rfl,af,ai,a2,v0,v1⟩:=Y5 (A4 FO.o n (λ_ _ x=>x)) E;replace G:=A8 n G;have a3:=blt G;simp only at a3;have u:=O (D3 t.o n);have C:=O m;obtain⟨z,N⟩:∃z:Nat,v[q].2=(z:Int):=⟨v[q].2.toNat,by omega⟩;rw[N]at v1 a4 m;have W:=O m;unfold maxLen at a2;clear v0 y n m C N;go_wp2_with fail
        go_ret;have an:=a8.o;exact⟨u.o.mono (λ_ _ x=>x.elim),by rw[W.o];exact⟨V.o.still u.o,z,rfl,by omega,rfl⟩⟩
      · have X:=O (HW.o a6 (D3 t.o n));have u:=O (D3 t.o n);have C:=O m;clear y n m;go_wp2_with fail
        refine X.o.mono ?_;rintro D ap ⟨rfl,h7⟩;exact⟨rfl,(D3 u.o h7).mono (λ_ _ x=>x.elim),by rw[C.o];rfl⟩
end
def Lk(c:Cx)(Z:List Ty)(a:uZ)(b:Of)(x:Int):Prop:=∃(p r:Nat) (h:p<a.length),x=(p:Int)/\a[p]=(r:Int)/\r<(tl c Z).length/\tr (tl c Z) r=ofA b x
section
variable{d w:lZ}{c:Cx}{a g i f:Nat}{e k h:Value}{j:Int}{Z:List Ty}{b:uZ}{of:Of}
theorem C3c(m:Cst d w c a g i f e k j h Z b){p:Nat}(o:Lk c Z b of (p:Int)):
 Calls prog 163 #[pV a,U (p:Int)] w λl v=>l= .returned (U (ofA of (p:Int)).k)/\I No w v:=by
 obtain⟨u,r,q,l,s,n,t⟩:=o;have:p=u:=by omega
 subst this;rw[<-t,D7a m.ts n];exact F1d m p q r s n
def NuQ(c:Cx)(n:Nat)(m:Bool)(w:lZ)(l:Ending)(o:lZ):Prop:=I No w o/\match m with
 |true=>l=rT
 |false=>l=gu 9 (atI c.N n)
theorem I4b(H:Cbs d c a g i f e h)(G:Cst d w c a g i f e k j h Z b)(y:Nat)(hi:y<c.N.length)(l:uZ)(K:∀x∈l,Lk c Z b of x)(P:Option Addr)(R:Nat)(L:w.ownsRow 0 3 1 (.slice P l.length R) l.length (C8 l))(hn:l.length<=2):
 Calls prog 118 #[pV a,U (y:Int),.slice P l.length R] w (NuQ c y (l.all (E7a of)) w):=by
 have HW:Hid (∀u,Cst d u c a g i f e k j h Z b->_):=λu hu=>L5a H hu y hi;have C:=O G;have X:=O L;have V:=O K;clear G L K H;go_enter func118,ntmps118;go_wp2_with fail
 go_loopw [11] (λv wr=>∃m:Nat,m<=l.length/\v=U (m:Int)/\Hid (∀x∈l.take m,E7a of x=true)/\Hid (I No w wr)) (λv _=>l.length - (intOf v).toNat)
 case atStart=>exact⟨0,wQ _,rfl,(show∀x∈l.take 0,_ from by simp),I.refl _ _⟩
 case round=>
  obtain⟨m,hj,rfl,D,q⟩:=hrel;by_cases t:m<l.length
  · obtain⟨g2,a5,a8,a9,a4,y0⟩:=D9 (A4 X.o q.o (λ_ _ x=>x)) t;subst a5;have n:=V.o l[m] (mQ t);obtain⟨p,a7,hp,o,M,a6,N⟩:=n;have s:=C3c (of:=of) (C.o.still q.o) (p:=p) ⟨p,a7,hp,rfl,M,a6,by rw[N,o]⟩;have E:Hid ((E7a of l[m]=true ↔ (ofA of (p:Int)).k=1\/(ofA of (p:Int)).k=5)):=by
     show _ ↔ _;unfold E7a;rw[o];simp
    have W:=O (mQ t);have a2:Hid (∀x∈l.take (m+1),x∈l.take m\/x=l[m]):=λx n=>by
     rw[nQ t,qW,zW]at n;exact n
    rw[o]at y0;unfold maxLen at a4;clear o M N;generalize (ofA of (p:Int)).k=z at *;by_cases A:z=1\/z=5
    · have F:Hid (∀x∈l.take (m+1),E7a of x=true):=λx n=>by
       rcases a2.o x n with n|rfl
       · exact D.o x n
       · exact E.o.2 A
      rcases A with rfl|rfl
      · go_wp2_with fail
        refine s.mono ?_;rintro o B ⟨rfl,r⟩;go_wp2_with fail
        go_roundw
        case rel=>exact⟨m+1,by omega,by go_num,F.o,q.o.trans r (λ_ _ x=>x)⟩
        case measure=>simp[intOf];omega
      · go_wp2_with fail
        refine s.mono ?_;rintro o B ⟨rfl,r⟩;go_wp2_with fail
        go_roundw
        case rel=>exact⟨m+1,by omega,by go_num,F.o,q.o.trans r (λ_ _ x=>x)⟩
        case measure=>simp[intOf];omega
    · have aa:(z !=1)=true:=by simp;omega
      have k5:(z !=5)=true:=by simp;omega
      have T:Hid (l.all (E7a of)=false):=by
       show _=_;rw[Bool.eq_false_iff];intro n;exact A (E.o.1 (List.all_eq_true.1 n _ W.o))
      go_wp2_with fail
      refine s.mono ?_;rintro o B ⟨rfl,r⟩;have HX:=O (HW.o B (C.o.still (D3 q.o r)));have S:=O (D3 q.o r);clear r s;go_wp2_with fail
      refine HX.o.mono ?_;rintro o ab ⟨rfl,h3⟩;exact⟨rfl,D3 S.o h3,by rw[T.o];rfl⟩
  · have a3:m=l.length:=by omega
    subst a3;have Y:Hid (l.all (E7a of)=true):=by
     show _=_;rw[List.all_eq_true];intro x n;exact D.o x (by rw[xZ];exact n)
    go_wp2_with fail
    go_end0;exact⟨q.o,by rw[Y.o]⟩
theorem F3d{W:lZ}{n:Nat}{p r:Int}{l m:lZ}(q:I No l m)(o:l.cell? (J n 1)=some (U p)/\l.cell? (J n 2)=some (U r)/\Hid (I No W l)):m.cell? (J n 1)=some (U p)/\m.cell? (J n 2)=some (U r)/\Hid (I No W m):=
 ⟨A8 q o.1,A8 q o.2.1,D3 o.2.2.o q⟩
theorem H0e(T:Cbs d c a g i f e h)(s:Cst d w c a g i f e k j h Z b)(q:Nat)(hi:q<c.N.length)(ha:Lk c Z b of c.N[q].a)(hb:Lk c Z b of c.N[q].b):
 Calls prog 117 #[pV a,U (q:Int)] w (ExQ d w c a g i f e k j h Z b q (K7b of c.N[q])):=by
 obtain⟨oa,oc,ai,fz,q0,q1,q2,q3,q4,q5,q6,qp,qo⟩:=s.cell;have hT:=s.ts;have au:c.T.length+4<(tl c Z).length:=by rw[T8];omega
 obtain⟨ao,nc,D,E,ag,hg,aw,af,⟨x0,x1,x2,x3,x4,x5,x6,x7,x8⟩,-,-⟩:=(T.nrow s.chg).at (Below.refl _ _) q hi;have v:=qp 1 (by omega) (by omega);have G:=qp 3 (by omega) (by omega);have H:=qp 5 (by omega) (by omega);simp only[show 7+1=8 from rfl,show 7+3=10 from rfl,show 7+5=12 from rfl,show c.T.length+1 - 1=c.T.length by omega,show c.T.length+3 - 1=c.T.length+2 by omega,show c.T.length+5 - 1=c.T.length+4 by omega]at v G H;have ad:=O (D8a hT (k:=1) (by omega) (by omega));have ae:=O (D8a hT (k:=3) (by omega) (by omega));have a6:=O (D8a hT (k:=5) (by omega) (by omega));have av:=T.ok.lenN;unfold maxLen at af;obtain⟨p,am,hp,V,hr,ak,ab⟩:=ha;obtain⟨n,r',ah,X,aa,al,ac⟩:=hb;have HK:Hid (∀u (x:Nat),I No w u->(x=p\/x=n)->Calls prog 163 #[pV a,U (x:Int)] u λS y=>S= .returned (U (ofA of (x:Int)).k)/\I No u y):=λu x Y hx=>by
  rcases hx with rfl|rfl
  · exact C3c (s.still Y) ⟨x,am,hp,rfl,hr,ak,by rw[ab,V]⟩
  · exact C3c (s.still Y) ⟨x,r',ah,rfl,aa,al,by rw[ac,X]⟩
 have HW:Hid (∀u,I No w u->_):=λu Y=>L5a T (s.still Y) q hi;have R:=O s;have m:Hid (K7b of c.N[q]=if (ofA of (p:Int)).k=5\/(ofA of (n:Int)).k=5 then some B3a else if (ofA of (p:Int)).k≠(ofA of (n:Int)).k\/((ofA of (p:Int)).k≠1/\(ofA of (p:Int)).k≠3) then none else some (plT (ofA of (p:Int)).k)):=by
  show _=_;unfold K7b;rw[V,X]
 rw[V]at x1;rw[X]at x2;clear qp qo s hr aa T V X ab ac q1 q2 q3 q4 q5 q6 fz;generalize K7b of c.N[q]=t at *;generalize c.N[q]=nd at *;obtain⟨C,va,vb,L,F,K,M,P,N⟩:=nd;subst ag;simp only at *;have z:=I.alloc No w (ndC C (p:Int) (n:Int) L (.slice D F.length E) K M P N);have nb:=qY w (ndC C (p:Int) (n:Int) L (.slice D F.length E) K M P N);have n1:(w.alloc (ndC C (p:Int) (n:Int) L (.slice D F.length E) K M P N)).cell? (J w.heap.size 1)=some (U (p:Int)):=cr nb rfl;have n2:(w.alloc (ndC C (p:Int) (n:Int) L (.slice D F.length E) K M P N)).cell? (J w.heap.size 2)=some (U (n:Int)):=cr nb rfl;replace v:=A8 z v;replace G:=A8 z G;replace H:=A8 z H;have a9:=blt n2;simp only at a9;have a2:=O z;clear z nb;go_enter func117,ntmps117;go_wp2_with fail
 clear q0 x0 x1 x2 x3 x4 x5 x6 x7 x8 ai hg;generalize (w.alloc (ndC C (p:Int) (n:Int) L (.slice D F.length E) K M P N))=W at *;have S0:Hid (W.drew.cell? (J w.heap.size 1)=some (U (p:Int))/\W.drew.cell? (J w.heap.size 2)=some (U (n:Int))/\Hid (I No W W.drew)):=⟨n1,n2,I.drewN _ _ 1⟩;generalize a7:(ofA of (p:Int)).k=r at *;generalize a8:(ofA of (n:Int)).k=B at *;have a4:=O a7;have a5:=O a8;clear a7 a8;go_cut [6,7] (λv6 v7 wc=>v6=U r/\v7=U B/\Hid (I No W wc))
 case first=>
  go_region_held3 (λy=>y.cell? (J w.heap.size 1)=some (U (p:Int))/\y.cell? (J w.heap.size 2)=some (U (n:Int))/\Hid (I No W y))
   (first
    |exact S0.o
    |exact F3d hc ⟨by assumption,by assumption,by assumption⟩
    |(go_split_ands;exact F3d hc ⟨by assumption,by assumption,by assumption⟩)
    |(go_split_ands;exact⟨by assumption,by assumption,by assumption⟩))
   (first
    |((go_at_call 163;go_split_ands;refine(HK.o _ _ (D3 a2.o (Hid.o (p:=I No W _) (by assumption))) (by first|exact .inl rfl|exact .inr rfl)).mono ?_;rintro S y ⟨rfl,hc⟩)))
  all_goals go_wp2_with fail
  all_goals go_meet
  all_goals exact⟨by rw[a4.o],by rw[a5.o],by go_split_ands;assumption⟩
 case rest=>
  obtain⟨rfl,rfl,A⟩:=hcut;have l:=O (D3 a2.o A.o);replace v:=A8 A.o v;replace G:=A8 A.o G;replace H:=A8 A.o H;have aj:=blt v;simp only at aj;clear S0 HK a4 a5 n1 n2 a9 A a2;by_cases h5:r=5
  · have o:Hid (t=some B3a):=by show _=_;rw[m.o,rY (.inl h5)]
    subst h5;clear m;go_wp2_with fail
    go_ret;exact⟨l.o.mono (λ_ _ x=>x.elim),by rw[o.o];exact⟨R.o.still l.o,c.T.length+4,rfl,by omega,by simpa[plT,B3a]using a6.o⟩⟩
  have aq:(r==5)=false:=by simpa using h5
  by_cases h6:B=5
  · have o:Hid (t=some B3a):=by show _=_;rw[m.o,rY (.inr h6)]
    subst h6;clear m;go_wp2_with fail
    go_ret;exact⟨l.o.mono (λ_ _ x=>x.elim),by rw[o.o];exact⟨R.o.still l.o,c.T.length+4,rfl,by omega,by simpa[plT,B3a]using a6.o⟩⟩
  have ar:(B==5)=false:=by simpa using h6
  by_cases a3:r=B
  · subst a3;by_cases h1:r=1
    · have o:Hid (t=some (plT 1)):=by show _=_;rw[m.o,yY (by omega),yY (by omega),h1]
      subst h1;clear m;go_wp2_with fail
      go_ret;exact⟨l.o.mono (λ_ _ x=>x.elim),by rw[o.o];exact⟨R.o.still l.o,c.T.length,rfl,by omega,by simpa using ad.o⟩⟩
    · by_cases h3:r=3
      · have o:Hid (t=some (plT 3)):=by show _=_;rw[m.o,yY (by omega),yY (by omega),h3]
        subst h3;clear m;go_wp2_with fail
        go_ret;exact⟨l.o.mono (λ_ _ x=>x.elim),by rw[o.o];exact⟨R.o.still l.o,c.T.length+2,rfl,by omega,by simpa using ae.o⟩⟩
      · have o:Hid (t=none):=by show _=_;rw[m.o,yY (by omega),rY (by omega)]
        have g1:(r !=1)=true:=by simpa using h1
        have g3:(r !=3)=true:=by simpa using h3
        clear m;have HX:=O (HW.o wc l.o);go_wp2_with fail
        refine HX.o.mono ?_;rintro S an ⟨rfl,h7⟩;exact⟨rfl,(D3 l.o h7).mono (λ_ _ x=>x.elim),by rw[o.o];rfl⟩
  · have o:Hid (t=none):=by show _=_;rw[m.o,yY (by omega),rY (.inl a3)]
    have ap:(r !=B)=true:=by simpa using a3
    clear m;have HX:=O (HW.o wc l.o);go_wp2_with fail
    refine HX.o.mono ?_;rintro S an ⟨rfl,h7⟩;exact⟨rfl,(D3 l.o h7).mono (λ_ _ x=>x.elim),by rw[o.o];rfl⟩
end
def KC(a b:lZ):Prop:=a.heap.size<=b.heap.size/\∀(q:Nat) (c:Array Value) (e:TypeId) (d:Nat×Nat),a.heap[q]? =some (.cells c e d)->b.heap[q]? =some (.cells c e d)
theorem KC.refl(a:lZ):KC a a:=⟨vQ _,λ_ _ _ _ h=>h⟩
theorem KC.trans{a b c:lZ}(h:KC a b)(k:KC b c):KC a c:=⟨kQ h.1 k.1,λq d e f x=>k.2 q d e f (h.2 q d e f x)⟩
theorem KC.still{a b:lZ}(h:I No a b):KC a b:=⟨h.size,λq c e d x=>by rw[h.block q (ltG x) (λy=>y)];exact x⟩
theorem KC.cell{a b:lZ}(h:KC a b){q o:Nat}{v:Value}(d:a.cell? (J q o)=some v):b.cell? (J q o)=some v:=by
 have j:=World.block_lt_of_cell? a _ d;cases c:a.heap[q]? with
 |none=>
  simp[World.cell?,c]at d
 |some i=>
  cases i with
  |cells f e g=>
   have:=h.2 q f e g c;rw[World.cell?_of_block (this.trans c.symm)];exact d
  |_=>simp[World.cell?,c]at d
theorem KC.row{a b:lZ}(h:KC a b){d:Nat}{e:TypeId}{f:Nat}{v:Value}{n:Nat}{i:List Value}(k:a.ownsRow d e f v n i):b.ownsRow d e f v n i:=by
 obtain⟨j,c⟩:=k;refine⟨j, ?_⟩;rcases c with c|⟨g,cap,cur,e1,e2,e3,r⟩
 · exact .inl c
 · exact .inr ⟨g,cap,cur,e1,e2,h.2 _ _ _ _ e3,r⟩
theorem Cst.kc{p w d:lZ}{c:Cx}{n i b o:Nat}{l r f:Value}{j:Int}{Z:List Ty}{m:uZ}(h:Cst p w c n i b o l r j f Z m)(a:I (λk=>k=b) w d):KC w d:=by
 obtain⟨D,g⟩:=h.sho;exact⟨a.size,λq s e t x=>by rw[a.block q (ltG x) (λy=>by subst y;exact g.mst.tag _ _ _ x)];exact x⟩
structure Lks(c:Cx)(Z:List Ty)(ofs:uZ)(of:Of)(i:Nat):Prop where
 pe:∀x,Pe c.N i x->Lk c Z ofs of x
 has:∀x,Tg c.N i x->∃(j a:Nat),x=(j:Int)/\j<c.N.length/\G4a c ofs j=(a:Int)/\a<(tl c Z).length/\tr (tl c Z) a=W8 c of x/\((ndx c.N j).ty= -1->(ndx c.N j).kind=17->∃n:Nat,(ndx c.N j).a=(n:Int)/\n<ofs.length)
 res:∀x:Int,∃a:Nat,A4c c (ndx c.N x)=(a:Int)/\a<(tl c Z).length/\tr (tl c Z) a=J8a c.T (ndx c.N x)
 wt:∀x,Py c.T x->∃a:Nat,x=(a:Int)/\a<(tl c Z).length/\tr (tl c Z) a=tr c.T x.toNat
theorem C9d{c:Cx}(w:F5c c){Z:List Ty}(M:TsOk (tl c Z)){y:uZ}{q:Of}(L:OfR (tl c Z) y q){k:Nat}(K:CkI c q k){i:Nat}(V:i<=k):Lks c Z y q i:=by
 have A:∀j:Nat,(h:j<c.N.length)->isE c.N[j].kind->(j<k\/c.N[j].kind=6)->Lk c Z y q (j:Int):=λj h l v=>by
  obtain⟨t,b⟩:=K.ex j h l v;obtain⟨r,E,F,G,H⟩:=Cst.look (c:=c) (Z:=Z) L b;exact⟨j,r,E,rfl,F,G,H⟩
 have s:c.T.length+4<(tl c Z).length/\tr (tl c Z) (c.T.length+4)=B3a:=⟨by rw[T8];omega,by have:=D8a M (k:=5) (by omega) (by omega);simpa[plT,B3a]using this⟩;have C:∀x,Py c.T x->∃a:Nat,x=(a:Int)/\a<(tl c Z).length/\tr (tl c Z) a=tr c.T x.toNat:=λx ⟨j,e,m,_⟩=>⟨j,e,by rw[T8];omega,by rw[Y4b w.ok m,e];rfl⟩;refine⟨λx ⟨j,e,m,h,l⟩=>by rw[e];exact A j h l (.inl (by omega)),λx ⟨j,e,h,W,m⟩=> ?_,λx=> ?_,C⟩
 · have u:ndx c.N (j:Int)=c.N[j]:=F7 h;have d:=K2a w (j:Int);by_cases b:(ndx c.N (j:Int)).ty= -1
   · by_cases g:(ndx c.N (j:Int)).kind=17
     · have P:=((w.flat j h).k17 (by rw[<-u];exact g)).2;have T:Lk c Z y q c.N[j].a:=by
        rcases m with m|⟨_,n,f,N,B,v⟩
        · obtain⟨n,f,N,B,l⟩:=P;rw[f];exact A n B l (.inl (by omega))
        · rw[f];exact A n B (by rw[v];exact⟨by decide,by decide⟩) (.inr v)
       obtain⟨p,r,D,f,R,S,o⟩:=T;refine⟨j,r,e,h, ?_,S, ?_,λ_ _=>⟨p,by rw[u];exact f,D⟩⟩
       · unfold G4a;rw[yY (by rw[b];simp),rY g,u,f,tQ,lQ,gQ D];exact R
       · unfold W8;rw[e,yY (by rw[b];simp),rY g,u];exact o
     · refine⟨j,c.T.length+4,e,h, ?_,s.1, ?_,λ_ h=>absurd h g⟩
       · unfold G4a;rw[yY (by rw[b];simp),yY g]
       · unfold W8;rw[e,yY (by rw[b];simp),yY g];exact s.2
   · rcases d with d|d
     · exact absurd d b
     · obtain⟨a,f,z,o⟩:=C _ d;refine⟨j,a,e,h, ?_,z, ?_,λh=>absurd h b⟩
       · unfold G4a;rw[rY b];exact f
       · unfold W8;rw[e,rY b];exact o
 · have d:=K2a w x;by_cases b:(ndx c.N x).ty= -1
   · exact⟨c.T.length+4,by unfold A4c;rw[rY b],s.1,by unfold J8a;rw[rY b];exact s.2⟩
   · rcases d with d|d
     · exact absurd d b
     · obtain⟨a,f,z,o⟩:=C _ d;exact⟨a,by unfold A4c;rw[yY b];exact f,z,by unfold J8a;rw[yY b];exact o⟩
section
variable{g w:lZ}{c:Cx}{b f d h:Nat}{j l i:Value}{k:Int}{Z:List Ty}{e:uZ}{a:Of}
theorem FtQ.part{s:Nat}{m:Bool}{o:Ending}{n:lZ}(t:FtQ g w c b f d h j l k i Z e s m o n):(o=gu 9 (atI c.N s)/\m=false/\I (λq=>q=d) w n)\/(o=rT/\m=true/\I (λq=>q=d) w n/\Cst g n c b f d h j l k i Z e):=by
 obtain⟨r,p⟩:=t;cases m
 · exact .inl ⟨p,rfl,r⟩
 · exact .inr ⟨p.1,rfl,r,p.2⟩
theorem K6d{m o:lZ}{q:Nat}{p:Array Value}{r:TypeId}{T:List Ty}{N:Nat}{D:Dt}(t:Mst m d N T D)(s:I (λu=>u=d) m o)(n:m.heap[q]? =some (.cells p r (0,0))):o.heap[q]? =some (.cells p r (0,0)):=by
 rw[s.block q (ltG n) (λx=>by subst x;exact t.tag _ _ _ n)];exact n
theorem Cst.blk(p:Cst g w c b f d h j l k i Z e){m:lZ}{q:Nat}{n:Array Value}{o:TypeId}(r:I (λu=>u=d) w m)(s:w.heap[q]? =some (.cells n o (0,0))):m.heap[q]? =some (.cells n o (0,0)):=by
 obtain⟨D,t⟩:=p.sho;exact K6d t.mst r s
theorem I2c(G:Cbs g c b f d h j i)(B:Cst g w c b f d h j l k i Z e)(n:Nat)(hi:n<c.N.length)(p:Nat)(hp:p<e.length)(ai:c.N[n].a=(p:Int))(r:Nat)(hr:e[p]=(r:Int))(y:r<(tl c Z).length)(T:ofA a c.N[n].a=tr (tl c Z) r)
 (s:Nat) (b1:s<e.length) (aj:c.N[n].b=(s:Int)) (t:Nat) (al:e[s]=(t:Int)) (b2:t<(tl c Z).length) (H:ofA a c.N[n].b=tr (tl c Z) t):
 Calls prog 77 #[pV b,U (n:Int)] w (ExQ g w c b f d h j l k i Z e n (M8 a c.N[n])):=by
 obtain⟨oa,oc,a5,fz,q0,q1,q2,q3,q4,q5,M,qp,qo⟩:=B.cell;have C:=B.ts;have au:c.T.length<(tl c Z).length:=by rw[T8];omega
 have K:tr (tl c Z) c.T.length=plT 1:=by simpa using D8a C (k:=1) (by omega) (by omega)
 obtain⟨ar,nc,Y,lc,ax,hg,bb,aw,⟨x0,x1,x2,x3,x4,x5,x6,x7,x8⟩,-,-⟩:=(G.nrow B.chg).at (Below.refl _ _) n hi;have a6:=qp 1 (by omega) (by omega);simp only[show 7+1=8 from rfl,show c.T.length+1 - 1=c.T.length by omega]at a6;have ba:=G.ok.lenN;unfold maxLen at aw;have HF:Hid (∀u,I No w u->_):=λu z=>X4d G (B.still z) n hi s b1 t al b2 c.T.length au;have HW:Hid (∀u,Cst g u c b f d h j l k i Z e->_):=λu z=>L5a G z n hi;have H0:=O B;have E0:Hid (F2 (tr (tl c Z) t) (tr (tl c Z) c.T.length)=false->M8 a c.N[n]=none):=λm=>by
  unfold M8;rw[H,<-K,m];rfl
 have E5:Hid (F2 (tr (tl c Z) t) (tr (tl c Z) c.T.length)=true->(tl c Z)[r].kind=5->M8 a c.N[n]=some (tr (tl c Z) r)):=λm v=>by
  unfold M8;rw[H,<-K,rY m,T,D7a C y,rY v]
 have E8:Hid (F2 (tr (tl c Z) t) (tr (tl c Z) c.T.length)=true->(tl c Z)[r].kind=8->M8 a c.N[n]=some (tr (tl c Z) (tl c Z)[r].of'.toNat)/\0<=(tl c Z)[r].of'/\(tl c Z)[r].of'<(r:Int)):=λm o=>by
  refine⟨?_,(C r y).of (.inl o)⟩;unfold M8;rw[H,<-K,rY m,T,D7a C y,yY (by omega),rY o,M9a C y,rY (.inl o)];rfl
 have EN:Hid (F2 (tr (tl c Z) t) (tr (tl c Z) c.T.length)=true->(tl c Z)[r].kind≠5->(tl c Z)[r].kind≠8->M8 a c.N[n]=none):=λm v o=>by
  unfold M8;rw[H,<-K,rY m,T,D7a C y,yY v,yY o]
 have ab:=O y;have aa:Hid (∀u,Cst g u c b f d h j l k i Z e->_):=λu z=>G0d r u y z.sho.choose_spec;have a9:Hid (∀u,Cst g u c b f d h j l k i Z e->_):=λu (z:Cst g u c b f d h j l k i Z e)=>z.cell;have HR:=O hr;rw[ai]at x1;rw[aj]at x2;clear qp qo B hr al G ai T H aj K q1 q2 q3 q4 q5 M fz;generalize F2 (tr (tl c Z) t) (tr (tl c Z) c.T.length)=ap at *;generalize M8 a c.N[n]=FT at *;generalize c.N[n]=nd at *;obtain⟨X,va,vb,vc,ls,tx,vn,vt,vp⟩:=nd;subst ax;simp only at *;have A1:=I.alloc No w (ndC X (p:Int) (s:Int) vc (.slice Y ls.length lc) tx vn vt vp);have nb:=qY w (ndC X (p:Int) (s:Int) vc (.slice Y ls.length lc) tx vn vt vp);have n2:(w.alloc (ndC X (p:Int) (s:Int) vc (.slice Y ls.length lc) tx vn vt vp)).cell? (J w.heap.size 2)=some (U (s:Int)):=cr nb rfl;have ao:=A8 A1 a6;have W:=blt ao;have V:=blt n2;simp only at W V;have E:=O A1;have NB:=O nb;clear A1 nb;go_enter func77,ntmps77;go_wp2_with fail
 clear q0 a6 x0 x1 x2 x3 x4 x5 x6 x7 x8 a5 hg;generalize (w.alloc (ndC X (p:Int) (s:Int) vc (.slice Y ls.length lc) tx vn vt vp))=ac at *;go_cut [] (λwc=>ap=true/\Hid (I (λL=>L=d) ac wc)/\Hid (Cst g wc c b f d h (.slice (some (J ar 0)) c.N.length nc) l k i Z e))
 case first=>
  go_region_with (go_at_call 111;refine(HF.o _ (D3 E.o (I.drewN _ _ 1))).mono ?_;intro ad bf hq;rcases FtQ.part hq with ⟨rfl,m,hc⟩|⟨rfl,m,hc,hC⟩;exact⟨rfl,((D3 E.o (I.drewN _ _ 1)).mono (λ_ _ x=>x.elim)).trans hc (λ_ _ x=>x),by rw[E0.o m];rfl⟩)
  all_goals go_wp2_with fail
  all_goals go_meet
  all_goals exact⟨m,(I.drewN (λL=>L=d) ac 1).trans hc (λ_ _ x=>x),hC⟩
 case rest=>
  obtain⟨m,CW,CS⟩:=hcut;have an:=(H0.o.still E.o).blk CW.o NB.o;have n1:wc.cell? (J w.heap.size 1)=some (U (p:Int)):=cr an rfl;obtain⟨be,b5,a5,fz,q0,q1,q2,q3,q4,q5,M,qp,qo⟩:=a9.o wc CS.o;obtain⟨go,rfl,ay,az,bc,b0,N,-⟩:=qo p hp;rw[HR.o]at N;obtain⟨F,ct,fa,fc,b3,b4,z0,z1,z2,z3,z4,-,af⟩:=aa.o wc CS.o;have HG:=O af;have e0:=E5.o m;have P:=O (E5.o m);have R:=O (E8.o m);have S:=O (EN.o m);have ak:=blt q3;have ae:=blt N;have ag:=blt z0;have am:=blt z1;have ah:=blt n1;simp only at ak ae ag am ah;unfold maxLen at b0;have CX:=O ((E.o.mono (S':=λL=>L=d) (λ_ _ x=>x.elim)).trans CW.o (λ_ _ x=>x));clear af an q0 q1 q2 q4 q5 fz qp qo m E5 E8 EN E0 e0 n2 ao W V aa a9 HF NB CW E ay az a5;generalize (tl c Z)[r]=b6 at *;obtain⟨D,tf,b7,a3⟩:=b6;simp only at *;go_wp2_with fail
  go_cut [6] (λv6 a7=>∃a2:Nat,v6=pV a2/\Hid (I No wc a7)/\a7.cell? (J a2 0)=some (U D)/\a7.cell? (J a2 3)=some (U a3))
  case first=>
   go_region_held3 (λq=>q.cell? (J b 3)=some (pV f)/\q.cell? (J b 6)=some (.slice (some (J go 0)) e.length b5)/\q.cell? (J go p)=some (U (r:Int))/\q.cell? (J w.heap.size 1)=some (U (p:Int))/\
    q.cell? (J f 0)=some (.slice (some (J F 0)) (tl c Z).length ct)/\q.cell? (J F (r * 4))=some (U D)/\q.cell? (J F (r * 4+1))=some (.slice fa tf.length fc)/\q.cell? (J F (r * 4+2))=some (.slice b3 b7.length b4)/\q.cell? (J F (r * 4+3))=some (U a3))
    (go_keep)
    (first
     |((go_at_call 112;go_split_ands;refine(HG.o _ (by assumption) (by assumption) (by assumption) (by assumption) (by assumption)).mono ?_;rintro ad q ⟨rfl,rfl⟩)))
   all_goals go_wp2_with fail
   all_goals go_meet
   all_goals exact⟨_,rfl,D3 (D3 (I.alloc No _ _) (I.alloc No _ _)) (I.drewN No _ 1),by simp[go_sem],by simp[go_sem]⟩
  case rest=>
   obtain⟨a2,rfl,A,t0,t3⟩:=hcut;replace M:=A8 A.o M;replace N:=A8 A.o N;replace n1:=A8 A.o n1;have W:=blt M;have av:=blt N;have V:=blt n1;simp only at W av V;have CZ:=O (CX.o.trans A.o (λ_ _ x=>x.elim));have a4:=O (CS.o.still A.o);clear z0 z1 z2 z3 z4 ak ae ag am ah HG q3 CX CS A;by_cases v:D=5
   · have e5:=O (P.o v);subst v;clear P R S;go_wp2_with fail
     go_quiet (fail)
     go_wp2_with fail
     go_ret;exact⟨CZ.o.trans (I.drewN No _ _) (λ_ _ x=>x.elim),by rw[e5.o];exact⟨a4.o.still (I.drewN No _ _),r,rfl,ab.o,rfl⟩⟩
   have b8:(D==5)=false:=by simpa using v
   by_cases o:D=8
   · obtain⟨e8,h1,h2⟩:=R.o o;have aq:=O e8;subst o;obtain⟨a8,rfl⟩:∃a8:Nat,a3=(a8:Int):=⟨a3.toNat,by omega⟩;clear P R S e8;go_wp2_with fail
     go_ret;have bd:=ab.o;exact⟨CZ.o,by rw[aq.o];exact⟨a4.o,a8,rfl,by omega,by simp⟩⟩
   · have en:=O (S.o v o);have b9:(D !=8)=true:=by simpa using o
     have HX:=O (HW.o _ a4.o);clear P R S;go_wp2_with fail
     refine HX.o.mono ?_;rintro ad bg ⟨rfl,h7⟩;exact⟨rfl,CZ.o.trans h7 (λ_ _ x=>x.elim),by rw[en.o];rfl⟩
theorem G9e(T:Cbs g c b f d h j i)(D:Cst g w c b f d h j l k i Z e)(m:Nat)(hi:m<c.N.length)(Y:Lk c Z e a c.N[m].a)(z:Lk c Z e a c.N[m].b):
 Calls prog 80 #[pV b,U (m:Int)] w (ExQ g w c b f d h j l k i Z e m (P0b a c.N[m])):=by
 obtain⟨oa,oc,av,fz,q0,q1,q2,q3,q4,q5,q6,qp,qo⟩:=D.cell;have hT:=D.ts;have aq:c.T.length+4<(tl c Z).length:=by rw[T8];omega
 obtain⟨ag,nc,s,t,ak,hg,au,aj,⟨x0,x1,x2,x3,x4,x5,x6,x7,x8⟩,-,-⟩:=(T.nrow D.chg).at (Below.refl _ _) m hi;have a4:=qp 1 (by omega) (by omega);have aa:=qp 2 (by omega) (by omega);have p3:=qp 3 (by omega) (by omega);simp only[show 7+1=8 from rfl,show 7+3=10 from rfl,show 7+2=9 from rfl,show c.T.length+1 - 1=c.T.length by omega,show c.T.length+3 - 1=c.T.length+2 by omega,show c.T.length+2 - 1=c.T.length+1 by omega]at a4 aa p3;have ae:=O (D8a hT (k:=1) (by omega) (by omega));have ad:=O (D8a hT (k:=2) (by omega) (by omega));have ap:=O (D8a hT (k:=3) (by omega) (by omega));have ar:=T.ok.lenN;unfold maxLen at aj;have HS:Hid (∀u,I No w u->_):=λu hu=>H0e T (D.still hu) m hi Y z;obtain⟨p,a2⟩:∃p:Nat,c.N[m].a=(p:Int):=by obtain⟨p,_,_,y,_⟩:=Y;exact⟨p,y⟩
 obtain⟨n,a3⟩:∃p:Nat,c.N[m].b=(p:Int):=by obtain⟨p,_,_,y,_⟩:=z;exact⟨p,y⟩
 have X:Hid (∀u,I No w u->∀s t,u.ownsRow 0 3 1 (.slice s 2 t) 2 (C8 [(p:Int),(n:Int)])->Calls prog 118 #[pV b,U (m:Int),.slice s 2 t] u (NuQ c m (E7a a (p:Int) && E7a a (n:Int)) u)):=λu hu s t ho=>by
  have:=I4b (of:=a) T (D.still hu) m hi [(p:Int),(n:Int)] (λx hx=>by
   simp only[jW,qZ,or_false]at hx;rcases hx with rfl|rfl
   · rw[<-a2];exact Y
   · rw[<-a3];exact z) s t ho (by simp)
  simpa using this
 have B:Hid (P0b a c.N[m]=if c.N[m].text=[61,61] then some (plT 2) else if c.N[m].text=[43] then K7b a c.N[m] else if E7a a (p:Int) && E7a a (n:Int) then some (if c.N[m].text=[60] then plT 2 else plT 1) else none):=by
  show _=_;unfold P0b;rw[a2,a3]
 have H0:=O D;rw[a2]at x1;rw[a3]at x2;clear qp qo D T a2 a3 z Y q1 q2 q3 q4 q5 q6 fz;generalize P0b a c.N[m]=C at *;generalize K7b a c.N[m]=ac at *;generalize c.N[m]=nd at *;obtain⟨F,va,vb,L,G,o,M,P,N⟩:=nd;subst ak;simp only at *;have A1:=I.alloc No w (ndC F (p:Int) (n:Int) L (.slice s G.length t) o M P N);have A:=O A1;have al:=A8 A1 a4;have nb:=qY w (ndC F (p:Int) (n:Int) L (.slice s G.length t) o M P N);have n5:(w.alloc (ndC F (p:Int) (n:Int) L (.slice s G.length t) o M P N)).cell? (J w.heap.size 5)=some (.string ⟨o.toArray⟩):=cr nb rfl;have NB:=O nb;clear A1 nb al;by_cases E:o=[61,61]
 · have r:Hid (C=some (plT 2)):=by show _=_;rw[B.o,rY E]
   subst E;clear B X;go_enter func80,ntmps80;go_wp2_with fail
   go_ret;exact⟨A.o.mono (λ_ _ x=>x.elim),by rw[r.o];exact⟨H0.o.still A.o,c.T.length+1,rfl,by omega,by simpa using ad.o⟩⟩
 have an:(o==[61,61])=false:=by simpa using E
 by_cases H:o=[43]
 · have r:Hid (C=ac):=by show _=_;rw[B.o,yY E,rY H]
   have af:=O (HS.o _ A.o);subst H;clear B X HS an;go_enter func80,ntmps80;go_wp2_with fail
   refine af.o.mono ?_;rintro y R ⟨q,hm⟩;cases ac with
   |none=>
    have ai:y=gu 9 (atI c.N m):=hm;subst ai;exact⟨rfl,(A.o.mono (λ_ _ x=>x.elim)).trans q (λ_ _ x=>x),by rw[r.o];rfl⟩
   |some ax=>
    obtain⟨hC,x,rfl,hx,ht⟩:=hm;have HQ:Hid (ExQ g w c b f d h (.slice (some (J ag 0)) c.N.length nc) l k i Z e m C (.returned (U (x:Int))) R):=⟨(A.o.mono (λ_ _ x=>x.elim)).trans q (λ_ _ x=>x),by rw[r.o];exact⟨hC,x,rfl,hx,ht⟩⟩;clear q hC ht r;go_wp2_with fail
    go_ret;exact HQ.o
 have aw:(o==[43])=false:=by simpa using H
 have W:Hid (∀ab a7,ab=(w.alloc (ndC F (p:Int) (n:Int) L (.slice s G.length t) o M P N)).heap.size->a7=2->Calls prog 118 #[pV b,U (m:Int),.slice (some (J ab 0)) 2 a7] ((w.alloc (ndC F (p:Int) (n:Int) L (.slice s G.length t) o M P N)).alloc (.cells (C8 [(p:Int),(n:Int)]).toArray 3)) (NuQ c m (E7a a (p:Int) && E7a a (n:Int)) ((w.alloc (ndC F (p:Int) (n:Int) L (.slice s G.length t) o M P N)).alloc (.cells (C8 [(p:Int),(n:Int)]).toArray 3)))):=λab a7 hq hl=>by
  subst hq hl;exact X.o _ (D3 A.o (I.alloc _ _ _)) _ _ (F1a (wQ _) [(p:Int),(n:Int)] (by simp))
 simp only[C8,uY,List.map_nil]at W;clear X;generalize ah:(E7a a (p:Int) && E7a a (n:Int))=bb at *;have V:Hid ((bb=false->C=none)/\(bb=true->C=some (if o=[60] then plT 2 else plT 1))):=by
  constructor
  · intro z;rw[B.o,yY E,yY H,z];rfl
  · intro z;rw[B.o,yY E,yY H,z];rfl
 clear ah B E H;have C2:=O (D3 A.o (I.alloc No _ (.cells #[U (p:Int),U (n:Int)] 3)));cases bb
 · have r:=O (V.o.1 rfl);clear V;go_enter func80,ntmps80;go_wp2_with fail
   refine(W.o _ _ (by simp) rfl).mono ?_;rintro y R ⟨q,rfl⟩;exact⟨rfl,(D3 C2.o q).mono (λ_ _ x=>x.elim),by rw[r.o];rfl⟩
 · have r:=O (V.o.2 rfl);clear V;by_cases K:o=[60]
   · have e6:Hid (C=some (plT 2)):=by show _=_;rw[r.o,rY K]
     have ao:(o==[60])=true:=by simpa using K
     clear r K;go_enter func80,ntmps80;go_wp2_with fail
     refine(W.o _ _ (by simp) rfl).mono ?_;rintro y R ⟨q,rfl⟩;have v:=O (D3 C2.o q);have a9:=A8 v.o a4;have am:=A8 v.o aa;have S:=S9 (D3 (I.alloc No _ (.cells #[U (p:Int),U (n:Int)] 3)) q) NB.o;have a8:R.cell? (J w.heap.size 5)=some (.string ⟨o.toArray⟩):=cr S rfl;have a6:=blt a9;have a5:=blt a8;simp only at a6 a5;clear q S;go_wp2_with fail
     go_ret;exact⟨v.o.mono (λ_ _ x=>x.elim),by rw[e6.o];exact⟨H0.o.still v.o,c.T.length+1,rfl,by omega,by simpa using ad.o⟩⟩
   · have e6:Hid (C=some (plT 1)):=by show _=_;rw[r.o,yY K]
     have ao:(o==[60])=false:=by simpa using K
     clear r K;go_enter func80,ntmps80;go_wp2_with fail
     refine(W.o _ _ (by simp) rfl).mono ?_;rintro y R ⟨q,rfl⟩;have v:=O (D3 C2.o q);have a9:=A8 v.o a4;have am:=A8 v.o aa;have S:=S9 (D3 (I.alloc No _ (.cells #[U (p:Int),U (n:Int)] 3)) q) NB.o;have a8:R.cell? (J w.heap.size 5)=some (.string ⟨o.toArray⟩):=cr S rfl;have a6:=blt a9;have a5:=blt a8;simp only at a6 a5;clear q S;go_wp2_with fail
     go_ret;exact⟨v.o.mono (λ_ _ x=>x.elim),by rw[e6.o];exact⟨H0.o.still v.o,c.T.length,rfl,by omega,by simpa using ae.o⟩⟩
theorem H4e(P:Cbs g c b f d h j i)(v:Cst g w c b f d h j l k i Z e)(m:Nat)(hi:m<c.N.length)(ha:Lk c Z e a c.N[m].a):
 Calls prog 81 #[pV b,U (m:Int)] w (ExQ g w c b f d h j l k i Z e m (S3b a c.N[m])):=by
 obtain⟨oa,oc,an,fz,q0,q1,q2,q3,q4,q5,q6,S,qo⟩:=v.cell;have hT:=v.ts;have ak:c.T.length+4<(tl c Z).length:=by rw[T8];omega
 obtain⟨aj,nc,o,q,ac,hg,am,ab,⟨x0,x1,x2,x3,x4,x5,x6,x7,x8⟩,-,-⟩:=(P.nrow v.chg).at (Below.refl _ _) m hi;have a3:=S 1 (by omega) (by omega);have a5:=S 2 (by omega) (by omega);have p3:=S 3 (by omega) (by omega);simp only[show 7+1=8 from rfl,show 7+3=10 from rfl,show 7+2=9 from rfl,show c.T.length+1 - 1=c.T.length by omega,show c.T.length+3 - 1=c.T.length+2 by omega,show c.T.length+2 - 1=c.T.length+1 by omega]at a3 a5 p3;have a7:=O (D8a hT (k:=1) (by omega) (by omega));have a8:=O (D8a hT (k:=2) (by omega) (by omega));have a9:=O (D8a hT (k:=3) (by omega) (by omega));have al:=P.ok.lenN;unfold maxLen at ab;obtain⟨p,R⟩:∃p:Nat,c.N[m].a=(p:Int):=by obtain⟨p,_,_,Y,_⟩:=ha;exact⟨p,Y⟩
 have N:Hid (∀u,I No w u->∀o q,u.ownsRow 0 3 1 (.slice o 1 q) 1 (C8 [(p:Int)])->Calls prog 118 #[pV b,U (m:Int),.slice o 1 q] u (NuQ c m (E7a a (p:Int)) u)):=λu hu o q ho=>by
  have:=I4b (of:=a) P (v.still hu) m hi [(p:Int)] (λx hx=>by
   simp only[jW,qZ,or_false]at hx;subst hx;rw[<-R];exact ha) o q ho (by simp)
  simpa using this
 have r:Hid (S3b a c.N[m]=if c.N[m].text=[33] then some (plT 2) else if c.N[m].text=[116,121,112,101,111,102] then some (plT 3) else if E7a a (p:Int) then some (plT 1) else none):=by
  show _=_;unfold S3b;rw[R]
 have V:=O v;rw[R]at x1;clear S qo v P R ha q1 q2 q3 q4 q5 q6 fz;generalize S3b a c.N[m]=M at *;generalize c.N[m]=nd at *;obtain⟨y,va,B,C,z,n,D,F,E⟩:=nd;subst ac;simp only at *;have T:=I.alloc No w (ndC y (p:Int) B C (.slice o z.length q) n D F E);have t:=O T;have ae:=A8 T a3;have nb:=qY w (ndC y (p:Int) B C (.slice o z.length q) n D F E);have n5:(w.alloc (ndC y (p:Int) B C (.slice o z.length q) n D F E)).cell? (J w.heap.size 5)=some (.string ⟨n.toArray⟩):=cr nb rfl;have NB:=O nb;clear T nb ae;by_cases s:n=[33]
 · have G:Hid (M=some (plT 2)):=by show _=_;rw[r.o,rY s]
   subst s;clear r N;go_enter func81,ntmps81;go_wp2_with fail
   go_ret;exact⟨t.o.mono (λ_ _ x=>x.elim),by rw[G.o];exact⟨V.o.still t.o,c.T.length+1,rfl,by omega,by simpa using a8.o⟩⟩
 have ai:(n==[33])=false:=by simpa using s
 by_cases A:n=[116,121,112,101,111,102]
 · have G:Hid (M=some (plT 3)):=by show _=_;rw[r.o,yY s,rY A]
   subst A;clear r N ai;go_enter func81,ntmps81;go_wp2_with fail
   go_ret;exact⟨t.o.mono (λ_ _ x=>x.elim),by rw[G.o];exact⟨V.o.still t.o,c.T.length+2,rfl,by omega,by simpa using a9.o⟩⟩
 have ap:(n==[116,121,112,101,111,102])=false:=by simpa using A
 have W:Hid (∀a4 a2,a4=(w.alloc (ndC y (p:Int) B C (.slice o z.length q) n D F E)).heap.size->a2=1->Calls prog 118 #[pV b,U (m:Int),.slice (some (J a4 0)) 1 a2] ((w.alloc (ndC y (p:Int) B C (.slice o z.length q) n D F E)).alloc (.cells (C8 [(p:Int)]).toArray 3)) (NuQ c m (E7a a (p:Int)) ((w.alloc (ndC y (p:Int) B C (.slice o z.length q) n D F E)).alloc (.cells (C8 [(p:Int)]).toArray 3)))):=λa4 a2 hq hl=>by
  subst hq hl;exact N.o _ (D3 t.o (I.alloc _ _ _)) _ _ (F1a (wQ _) [(p:Int)] (by simp))
 simp only[C8,uY,List.map_nil]at W;clear N;generalize aa:(E7a a (p:Int))=X at *;have L:Hid ((X=false->M=none)/\(X=true->M=some (plT 1))):=by
  constructor
  · intro hb;rw[r.o,yY s,yY A,hb];rfl
  · intro hb;rw[r.o,yY s,yY A,hb];rfl
 clear aa r s A;have C2:=O (D3 t.o (I.alloc No _ (.cells #[U (p:Int)] 3)));cases X
 · have G:=O (L.o.1 rfl);clear L;go_enter func81,ntmps81;go_wp2_with fail
   refine(W.o _ _ (by simp) rfl).mono ?_;rintro Y a6 ⟨H,rfl⟩;exact⟨rfl,(D3 C2.o H).mono (λ_ _ x=>x.elim),by rw[G.o];rfl⟩
 · have e6:=O (L.o.2 rfl);clear L;go_enter func81,ntmps81;go_wp2_with fail
   refine(W.o _ _ (by simp) rfl).mono ?_;rintro Y a6 ⟨H,rfl⟩;have K:=O (D3 C2.o H);have ah:=A8 K.o a3;have ao:=A8 K.o a5;have b5:=S9 (D3 (I.alloc No _ (.cells #[U (p:Int)] 3)) H) NB.o;have ag:a6.cell? (J w.heap.size 5)=some (.string ⟨n.toArray⟩):=cr b5 rfl;have af:=blt ah;have ad:=blt ag;simp only at af ad;clear H b5;go_wp2_with fail
   go_ret;exact⟨K.o.mono (λ_ _ x=>x.elim),by rw[e6.o];exact⟨V.o.still K.o,c.T.length,rfl,by omega,by simpa using a7.o⟩⟩
end
theorem V3c{T:List Ty}{i:Nat}(a:TsOk T)(b:i<T.length):sz (tr T i)=1+szL (T[i].list.map λx=>tr T x.toNat)+szL (T[i].fields.map λp=>tr T p.2.toNat)+(if T[i].kind=8\/T[i].kind=9 then sz (tr T T[i].of'.toNat) else 0):=by
 rw[Y0 a b,sz,H6a,H6a];split
 · simp only[szL];omega
 · simp only[szL];omega
theorem P5b{a:Type}(f:a->Tr)(l:List a){j:Nat}(b:j<l.length):szL ((l.take (j+1)).map f)=szL ((l.take j).map f)+sz (f l[j]):=by
 rw[nQ b,wY,H6a,List.map_singleton,szL,szL];omega
theorem V7a{a:Type}(f:a->Tr)(l:List a)(j:Nat):szL ((l.take j).map f)<=szL (l.map f):=by
 have:=congrArg (λl=>szL (l.map f)) (List.take_append_drop j l);simp only[wY,H6a]at this;omega
theorem W3c{lb mb a9:Nat}{T:List Ty}{a7:Dt}:∀(i:Nat) (w:lZ),i<T.length->Shp w lb mb a9 T a7->sz (tr T i)<=1000000->
 Calls prog 46 #[pV lb,U (i:Int)] w λe w'=>e= .returned (U (sz (tr T i):Int))/\I No w w':=by
 intro i;induction i using Nat.strongRecOn with
 |ind i Y=>
  intro w t h b2;have E:=h.ok;have aw:=h.few;obtain⟨ad,an,ao,ap,az,fz,a3⟩:=h.cell;obtain⟨aq,C,D,F,A,rfl,hg,av,ac,x0,x1,x2,x3,a5,a6⟩:=a3 i t;have HL:=O (E i t).lst;have HF:=O (E i t).fld;have HO:=O (λq=>(E i t).of q);have M:=O h;have HE:=O (V3c E t);have a2:=V3c E t;have au:szL (T[i].list.map λx=>tr T x.toNat)<=1000000:=by omega
  have ar:szL (T[i].fields.map λp=>tr T p.2.toNat)<=1000000:=by omega
  have aa:(T[i].kind=8\/T[i].kind=9)->sz (tr T T[i].of'.toNat)<=1000000:=λn=>by rw[rY n]at a2;omega
  clear a3 h a2;unfold maxLen at ac;generalize sz (tr T i)=am at *;generalize T[i].kind=k at *;generalize T[i].of'=o at *;generalize ay:T[i].list=b at *;generalize ax:T[i].fields=a at *;have aj:Hid (∀j (y:j<b.length),∃c,F=some (J c 0)/\c<w.heap.size/\b.length<=A/\A<=maxLen/\w.cell? (J c j)=some (U b[j])):=by
   intro j y;obtain⟨c,h1,_,h2,h3,h4,h5⟩:=F5 a6 (by omega);exact⟨c,h1,h2,h3,h4,h5 j _ (by simp[C8,y])⟩
  have ak:=O (λ(j:Nat) (y:j<a.length)=>Y5 a5 y);clear a6 a5;go_enter func46,ntmps46;go_wp2;go_loopw [21,5] (λv u wr=>∃j:Nat,j<=b.length/\v=U (j:Int)/\u=U ((1+szL ((b.take j).map λx=>tr T x.toNat):Nat):Int)/\Hid (I No (w.alloc (.cells #[U k,.slice C a.length D,.slice F b.length A,U o] 76)) wr)) (λv _ _=>b.length - (intOf v).toNat)
  case atStart=>exact⟨0,wQ _,rfl,by simp[szL],I.refl _ _⟩
  case round=>
   obtain⟨j,y,rfl,rfl,N⟩:=hrel;have K:=O ((I.alloc No w (.cells #[U k,.slice C a.length D,.slice F b.length A,U o] 76)).trans N.o (λ_ _ x=>x));by_cases m:j<b.length
   · obtain⟨c,rfl,s,af,W,G⟩:=aj.o j m;have H:wr.cell? (J c j)=some (U b[j]):=by rw[World.cell?_of_block (K.o.block c s (λx=>x))];exact G
     have ae:c<wr.heap.size:=yQ s K.o.size;have q:=HL.o b[j] (mQ m);obtain⟨z,r⟩:∃z:Nat,b[j]=(z:Int):=⟨b[j].toNat,by omega⟩;have B:Hid (szL ((b.take (j+1)).map λx=>tr T x.toNat)=szL ((b.take j).map λx=>tr T x.toNat)+sz (tr T z)):=by
      show _=_;rw[P5b _ b m,r];simp
     have X:=V7a (λx:Int=>tr T x.toNat) b (j+1);rw[B.o]at X;rw[r]at H q;have g:=Y z (by omega) wr (by omega) (M.o.still K.o) (by omega);unfold maxLen at W;clear G r q;generalize szL ((b.take j).map λx=>tr T x.toNat)=t1 at *;generalize sz (tr T z)=t2 at *;go_wp2_with fail
     refine g.mono ?_;clear g;rintro e Z ⟨rfl,f⟩;go_wp2;go_roundw
     case rel=>exact⟨j+1,by omega,by go_num,by rw[B.o];go_num,N.o.trans f (λ_ _ x=>x)⟩
     case measure=>simp[intOf];omega
   · have V:j=b.length:=by omega
     subst V;rw[xZ]at *;have d:wr.heap[w.heap.size]? =some (.cells #[U k,.slice C a.length D,.slice F b.length A,U o] 76 (0,0)):=by
      rw[N.o.block w.heap.size (by simp) (λx=>x)];exact qY w _
     have b0:wr.cell? (J w.heap.size 0)=some (U k):=cr d rfl;have b1:wr.cell? (J w.heap.size 1)=some (.slice C a.length D):=cr d rfl;have a8:=O d;have ab:=(ltG d);clear d;generalize ah:szL (b.map λx=>tr T x.toNat)=s1 at *;clear ah;go_wp2;go_loopw [34,5] (λv u al=>∃j:Nat,j<=a.length/\v=U (j:Int)/\u=U ((1+s1+szL ((a.take j).map λp=>tr T p.2.toNat):Nat):Int)/\Hid (I No wr al)) (λv _ _=>a.length - (intOf v).toNat)
     case atStart=>exact⟨0,wQ _,rfl,by simp[szL],I.refl _ _⟩
     case round=>
      obtain⟨j,y,rfl,rfl,P⟩:=hrel;have l:=O (K.o.trans P.o (λ_ _ x=>x));by_cases m:j<a.length
      · obtain⟨c,rfl,s,af,W,G,H⟩:=ak.o j m;replace G:wr.cell? (J c (j * 2))=some (.string ⟨a[j].1.toArray⟩):=by rw[World.cell?_of_block (l.o.block c s (λx=>x))];exact G
        replace H:wr.cell? (J c (j * 2+1))=some (U a[j].2):=by rw[World.cell?_of_block (l.o.block c s (λx=>x))];exact H
        have ae:c<wr.heap.size:=yQ s l.o.size;have q:=HF.o a[j] (mQ m);obtain⟨z,r⟩:∃z:Nat,a[j].2=(z:Int):=⟨a[j].2.toNat,by omega⟩;have B:Hid (szL ((a.take (j+1)).map λp=>tr T p.2.toNat)=szL ((a.take j).map λp=>tr T p.2.toNat)+sz (tr T z)):=by
         show _=_;rw[P5b _ a m,r];simp
        have X:=V7a (λp:bZ×Int=>tr T p.2.toNat) a (j+1);rw[B.o]at X;rw[r]at H q;have S:I No wr (wr.alloc (.cells #[.string ⟨a[j].1.toArray⟩,U (z:Int)] 131)):=I.alloc _ _ _;have g:=Y z (by omega) _ (by omega) (M.o.still (l.o.trans S (λ_ _ x=>x))) (by omega);have KF:=O (P.o.trans S (λ_ _ x=>x));unfold maxLen at W;clear r q S;generalize ag:(⟨a[j].1.toArray⟩:ByteArray)=nm at *;clear ag;generalize szL ((a.take j).map λp=>tr T p.2.toNat)=t1 at *;generalize sz (tr T z)=t2 at *;go_wp2_with fail
        refine g.mono ?_;clear g;rintro e Z ⟨rfl,f⟩;go_wp2;go_roundw
        case rel=>exact⟨j+1,by omega,by go_num,by rw[B.o];go_num,KF.o.trans f (λ_ _ x=>x)⟩
        case measure=>simp[intOf];omega
      · have V:j=a.length:=by omega
        subst V;rw[xZ]at *;have d:wr.heap[w.heap.size]? =some (.cells #[U k,.slice C a.length D,.slice F b.length A,U o] 76 (0,0)):=by
         rw[P.o.block w.heap.size ab (λx=>x)];exact a8.o
        have d0:wr.cell? (J w.heap.size 0)=some (U k):=cr d rfl;have d3:wr.cell? (J w.heap.size 3)=some (U o):=cr d rfl;clear d;generalize ai:szL (a.map λp=>tr T p.2.toNat)=s2 at *;clear ai;by_cases n:k=8\/k=9
        · have ho:=HO.o n;have a4:=aa n;obtain⟨z,rfl⟩:∃z:Nat,o=(z:Int):=⟨o.toNat,by omega⟩;have R:=HE.o;rw[rY n,tQ]at R;rw[tQ]at a4;have g:=O (Y z (by omega) wr (by omega) (M.o.still l.o) a4);generalize sz (tr T z)=t3 at *;rcases n with rfl|rfl
          · go_wp2_with fail
            refine g.o.mono ?_;rintro e Z ⟨rfl,f⟩;have L:=O (l.o.trans f (λ_ _ x=>x));clear f;go_wp2;go_ret;exact⟨M7 (by omega),L.o⟩
          · go_wp2_with fail
            refine g.o.mono ?_;rintro e Z ⟨rfl,f⟩;have L:=O (l.o.trans f (λ_ _ x=>x));clear f;go_wp2;go_ret;exact⟨M7 (by omega),L.o⟩
        · have R:=HE.o;rw[yY n]at R;have k8:(k==8)=false:=by simp;omega
          have k9:(k==9)=false:=by simp;omega
          go_wp2;go_ret;exact⟨M7 (by omega),l.o⟩
