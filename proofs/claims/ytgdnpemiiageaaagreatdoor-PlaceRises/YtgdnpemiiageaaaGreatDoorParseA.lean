/-
  A part of the proof.
-/
import Derived.Test.YtgdnpemiiageaaaGreatDoorScanA
import Derived.Maps.AppendAt
import Derived.Deep.QuietTactic
import Derived.BigQuiet
set_option maxHeartbeats 16000000
set_option maxRecDepth 100000
namespace Go.Proofs.YtgdnpemiiageaaaGreatDoor
open Go.RowKit
structure Chg (S:Nat->Prop) (w w':World):Prop where
 os:w'.os=w.os
 tape:w'.tape=w.tape
 output:w'.output=w.output
 size:w.heap.size<=w'.heap.size
 block:∀k,k<w.heap.size->¬S k->w'.heap[k]? =w.heap[k]?
theorem Chg.refl (S:Nat->Prop) (w:World):Chg S w w:=⟨rfl,rfl,rfl,Nat.le_refl _,fun _ _ _=>rfl⟩
theorem Chg.trans {S S':Nat->Prop} {a b c:World} (h:Chg S a b) (k:Chg S' b c) (hs:∀i,i<a.heap.size->S' i->S i):Chg S a c:=
  ⟨k.os.trans h.os,k.tape.trans h.tape,k.output.trans h.output,Nat.le_trans h.size k.size,
   fun i hi hn=>(k.block i (Nat.lt_of_lt_of_le hi h.size) (fun x=>hn (hs i hi x))).trans (h.block i hi hn)⟩
theorem Chg.mono {S S':Nat->Prop} {a b:World} (h:Chg S a b) (hs:∀i,i<a.heap.size->S i->S' i):Chg S' a b:=
 ⟨h.os,h.tape,h.output,h.size,fun i hi hn=>h.block i hi (fun x=>hn (hs i hi x))⟩
theorem Chg.alloc (S:Nat->Prop) (w:World) (o:Obj):Chg S w (w.alloc o):=⟨rfl,rfl,rfl,by simp,fun k hk _=>Below.heap_alloc _ _ _ hk⟩
theorem Chg.set (w:World) (a:Addr) (v:Value):Chg (fun k=>k=a.block) w (w.setCell a v):=
 ⟨rfl,rfl,rfl,by simp[World.setCell],fun k _ hn=>Below.heap_setCell _ _ _ _ hn⟩
theorem Chg.drewN (S:Nat->Prop) (w:World) (n:Nat):Chg S w (w.drewN n):=⟨rfl,rfl,rfl,Nat.le_refl _,fun _ _ _=>rfl⟩
theorem Chg.grown {w w':World} {row:Option Nat} (h:w.grownBy w' row):Chg (fun k=>some k=row) w w':=⟨h.os,h.tape,h.output,h.size,fun k hk hn=>h.block k hk hn⟩
theorem Chg.below {B:Nat} {w w':World} (h:Below B w w'):Chg (fun k=>B<=k) w w':=⟨h.os,h.tape,h.output,h.size,fun k _ hn=>h.block k (by omega)⟩
theorem Chg.toBelow {S:Nat->Prop} {B:Nat} {w w':World} (h:Chg S w w') (hs:∀i,i<w.heap.size->S i->B<=i) (hB:B<=w.heap.size):Below B w w':=
 ⟨h.os,h.tape,h.output,h.size,fun k hk=>h.block k (by omega) (fun x=>by have:=hs k (by omega) x;omega)⟩
theorem A8 {S:Nat->Prop} {w w':World} {base:Nat} {e:TypeId} {size:Nat} {v:Value} {n:Nat} {xs:List Value} (h:w.ownsRow base e size v n xs) (hc:Chg S w w')
 (hs:∀g,v.ownBlock=some g->¬S g):w'.ownsRow base e size v n xs:=by
 refine⟨h.1, ?_⟩;rcases h.2 with h2|⟨g,cap,cur,rfl,hb,hg,r⟩
 · exact .inl h2
 · exact .inr ⟨g,cap,cur,rfl,hb,by rw[hc.block g (Array.getElem?_eq_some_iff.1 hg).1 (hs g rfl)];exact hg,r⟩
theorem A9 {w:World} {base:Nat} {e:TypeId} {size:Nat} {v:Value} {n:Nat} {xs:List Value} (h:w.ownsRow base e size v n xs):∀g,v.ownBlock=some g->base<=g/\∃cur,w.heap[g]? =some (.cells cur e (0,0)):=by
 intro g hg;rcases h.2 with ⟨rfl,_⟩|⟨g',cap,cur,rfl,hb,hh,_⟩
 · simp[Value.ownBlock]at hg
 · simp only[Value.ownBlock,Option.some.injEq]at hg;subst hg;exact⟨hb,cur,hh⟩
theorem C9 {w:World} {base base':Nat} {e:TypeId} {size:Nat} {v:Value} {n:Nat} {xs:List Value} (h:w.ownsRow base e size v n xs) (hb:base'<=base):w.ownsRow base' e size v n xs:=by
 obtain⟨h1,h2⟩:=h;refine⟨h1, ?_⟩;rcases h2 with h2|⟨g,cap,cur,hv,hg,r⟩
 · exact .inl h2
 · exact .inr ⟨g,cap,cur,hv,Nat.le_trans hb hg,r⟩
theorem B6 {w:World} {base:Nat} {e:TypeId} {size:Nat} {v:Value} {n:Nat} {xs:List Value} (h:w.ownsRow base e size v n xs):∃ad c,v= .slice ad n c:=by
 rcases h.2 with ⟨rfl,rfl⟩|⟨g,cap,cur,hv,_⟩
 · exact⟨_,_,rfl⟩
 · exact⟨_,_,hv⟩
theorem I5c {w:World} {base:Nat} {e:TypeId} {size:Nat} {v:Value} {n:Nat} {xs:List Value} (h:w.ownsRow base e size v n xs):xs.length=n * size:=h.1
theorem E7 {w:World} {base:Nat} {e:TypeId} {size:Nat} {ad:Option Addr} {c n:Nat} {xs:List Value} (h:w.ownsRow base e size (.slice ad n c) n xs) (hn:0<n):
 ∃g,ad=some ⟨g,0,none⟩/\base<=g/\g<w.heap.size/\n<=c/\c<=maxLen/\∀j u,xs[j]? =some u->w.cell? ⟨g,j,none⟩=some u:=by
 have hc:=fun g hg=>h.cells (g:=g) hg;have hl:=h.lt;rcases h.2 with ⟨_,h0⟩|⟨g,cap,cur,hv,hb,hg,hn2,hm,_⟩
 · omega
 · simp only[Value.slice.injEq]at hv;obtain⟨rfl,_,rfl⟩:=hv;refine⟨g,rfl,hb,(hl g rfl).2,hn2,hm,fun j u hj=> ?_⟩;have:=hc g rfl j u hj;have hadd:(⟨g,0,none⟩:Addr).add j=⟨g,j,none⟩:=by unfold Addr.add;split<;>simp_all
   rw[hadd]at this;exact this
/-! ### Rows of structs -/
def Rws {α:Type} (R:α->List Value->Prop):List α->List Value->Prop
 |[],xs=>xs=[]
 |a::l,xs=>∃h t,xs=h++t/\R a h/\Rws R l t
theorem Rws.snoc {α:Type} {R:α->List Value->Prop}:∀{l:List α} {xs:List Value} {a:α} {h:List Value},Rws R l xs->R a h->Rws R (l++[a]) (xs++h)
 |[],xs,a,h,hx,hr=>by
  have:xs=[]:=hx;subst this;exact⟨h,[],by simp,hr,rfl⟩
 |b::l,xs,a,h,hx,hr=>by
  obtain⟨h1,t,rfl,hb,ht⟩:=hx;exact⟨h1,t++h,by simp,hb,Rws.snoc ht hr⟩
theorem Rws.imp {α:Type} {R R':α->List Value->Prop} (hi:∀a h,R a h->R' a h):∀{l:List α} {xs:List Value},Rws R l xs->Rws R' l xs
 |[],_,hx=>hx
 |_::_,_,hx=>by
  obtain⟨h1,t,he,hb,ht⟩:=hx;exact⟨h1,t,he,hi _ _ hb,Rws.imp hi ht⟩
theorem Rws.take {α:Type} {R:α->List Value->Prop} {z:Nat} (hz:∀a h,R a h->h.length=z):∀{l:List α} {xs:List Value} (k:Nat),Rws R l xs->Rws R (l.take k) (xs.take (k * z))
 |[],xs,k,hx=>by
  have:xs=[]:=hx;subst this;simp[Rws]
 |a::l,xs,0,hx=>by simp[Rws]
 |a::l,xs,k+1,hx=>by
  obtain⟨h1,t,rfl,hb,ht⟩:=hx;refine⟨h1,t.take (k * z), ?_,hb,Rws.take hz k ht⟩;have:=hz _ _ hb;rw[List.take_append,List.take_of_length_le (by rw[this];simp[Nat.add_mul]),this];congr 2
  simp[Nat.add_mul]
theorem Rws.at {α:Type} {R:α->List Value->Prop} {z:Nat} (hz:∀a h,R a h->h.length=z):∀{l:List α} {xs:List Value} (k:Nat) (hk:k<l.length),Rws R l xs->∃h,R l[k] h/\∀j,j<z->xs[k * z+j]? =h[j]?
 |[],_,k,hk,_=>by simp at hk
 |a::l,xs,0,_,hx=>by
  obtain⟨h1,t,rfl,hb,ht⟩:=hx;refine⟨h1,hb,fun j hj=> ?_⟩;have:=hz _ _ hb;rw[List.getElem?_append_left (by omega)];simp
 |a::l,xs,k+1,hk,hx=>by
  obtain⟨h1,t,rfl,hb,ht⟩:=hx;obtain⟨h,hr,hj⟩:=Rws.at hz k (by simpa using hk) ht;refine⟨h,hr,fun j hj'=> ?_⟩;have:=hz _ _ hb;rw[List.getElem?_append_right (by rw[this,Nat.add_mul];omega),this,<-hj j hj'];congr 1
  rw[Nat.add_mul];omega
def J4 (f:List UInt8×Int):List Value:=[.string ⟨f.1.toArray⟩,.int .i64 f.2]
def F6 (l:List (List UInt8×Int)):List Value:=l.flatMap J4
def C7 (l:List Int):List Value:=l.map (.int .i64)
def M2a (t:M.Tk):List Value:=[.int .i64 t.kind,.string ⟨t.text.toArray⟩,.int .i64 (t.at':Int)]
def B0a (L:List M.Tk):List Value:=L.flatMap M2a
theorem Z6b (L:List M.Tk) (t:M.Tk):B0a (L++[t])=B0a L++M2a t:=by simp[B0a]
theorem J2a (L:List (List UInt8×Int)) (t:List UInt8×Int):F6 (L++[t])=F6 L++J4 t:=by simp[F6]
theorem J9 (L:List Int) (t:Int):C7 (L++[t])=C7 L++[.int .i64 t]:=by simp[C7]
def TyV (w:World) (ok:Nat->Prop) (t:M.Ty) (xs:List Value):Prop:=
 ∃fv lv,xs=[.int .i64 t.kind,fv,lv,.int .i64 t.of']/\w.ownsRow 0 126 2 fv t.fields.length (F6 t.fields)/\w.ownsRow 0 3 1 lv t.list.length (C7 t.list)/\
  (∀g,fv.ownBlock=some g->ok g)/\(∀g,lv.ownBlock=some g->ok g)
def NdV (w:World) (ok:Nat->Prop) (n:M.Nd) (xs:List Value):Prop:=
 ∃lv,xs=[.int .i64 n.kind,.int .i64 n.a,.int .i64 n.b,.int .i64 n.c,lv,.string ⟨n.text.toArray⟩,.int .i64 n.n,.int .i64 n.ty,.int .i64 n.at']/\w.ownsRow 0 3 1 lv n.list.length (C7 n.list)/\
  (∀g,lv.ownBlock=some g->ok g)
theorem TyV.len {w:World} {ok:Nat->Prop} {t:M.Ty} {xs:List Value} (h:TyV w ok t xs):xs.length=4:=by obtain⟨_,_,rfl,_⟩:=h;rfl
theorem NdV.len {w:World} {ok:Nat->Prop} {t:M.Nd} {xs:List Value} (h:NdV w ok t xs):xs.length=9:=by obtain⟨_,rfl,_⟩:=h;rfl
def tag (w:World) (k:Nat):Prop:=∃cs e fz,w.heap[k]? =some (.cells cs e fz)/\(e=96\/e=72\/e=68)
def Kept (B:Nat) (ok:Nat->Prop) (w w':World):Prop:=Chg (fun k=>B<=k/\tag w k/\ok k) w w'
theorem Kept.refl (B:Nat) (ok:Nat->Prop) (w:World):Kept B ok w w:=Chg.refl _ _
theorem Kept.mono {B:Nat} {ok ok':Nat->Prop} {w w':World} (h:Kept B ok w w') (ho:∀g,ok g->ok' g):Kept B ok' w w':=Chg.mono h fun _ _ x=>⟨x.1,x.2.1,ho _ x.2.2⟩
theorem Kept.trans {B:Nat} {ok:Nat->Prop} {a b c:World} (h:Kept B ok a b) (k:Kept B ok b c):Kept B ok a c:=by
 refine⟨k.os.trans h.os,k.tape.trans h.tape,k.output.trans h.output,Nat.le_trans h.size k.size,fun i hi hn=> ?_⟩;have h1:=h.block i hi hn;refine(k.block i (Nat.lt_of_lt_of_le hi h.size) (fun x=>hn ⟨x.1, ?_,x.2.2⟩)).trans h1;obtain⟨cs,e,fz,hh,r⟩:=x.2.1;exact⟨cs,e,fz,by rw[<-h1];exact hh,r⟩
theorem Kept.trans' {B:Nat} {ok:Nat->Prop} {S:Nat->Prop} {a b c:World} (h:Kept B ok a b) (k:Chg S b c) (hs:∀i,i<a.heap.size->¬S i):Kept B ok a c:=Chg.trans h k fun i hi x=>(hs i hi x).elim
theorem Kept.alloc {B:Nat} {ok:Nat->Prop} {a b:World} (h:Kept B ok a b) (o:Obj):Kept B ok a (b.alloc o):=h.trans (Chg.alloc _ _ _)
theorem Kept.below {B:Nat} {ok:Nat->Prop} {w w':World} (h:Kept B ok w w') (hB:B<=w.heap.size):Below B w w':=Chg.toBelow h (fun _ _ x=>x.1) hB
theorem D9 {B:Nat} {ok:Nat->Prop} {w w':World} {base:Nat} {e:TypeId} {size:Nat} {v:Value} {n:Nat} {xs:List Value} (h:w.ownsRow base e size v n xs) (hc:Kept B ok w w')
 (he:e≠96/\e≠72/\e≠68):w'.ownsRow base e size v n xs:=by
 refine A8 h hc fun g hg hx=> ?_;obtain⟨_,cur,hh⟩:=A9 h g hg;obtain⟨cs,e',fz,hh',r⟩:=hx.2.1;rw[hh]at hh';simp only[Option.some.injEq,Obj.cells.injEq]at hh';obtain⟨_,rfl,_⟩:=hh';rcases r with r|r|r
 · exact he.1 r
 · exact he.2.1 r
 · exact he.2.2 r
theorem TyV.chg {S:Nat->Prop} {w w':World} {ok ok':Nat->Prop} (hc:Chg S w w') (hs:∀g,ok g->g<w.heap.size->S g->(∃cur e,w.heap[g]? =some (.cells cur e (0,0))/\(e=126\/e=3))->False) (ho:∀g,ok g->g<w.heap.size->ok' g) (t:M.Ty) (xs:List Value) (h:TyV w ok t xs):TyV w' ok' t xs:=by
 obtain⟨fv,lv,rfl,h1,h2,h3,h4⟩:=h;refine⟨fv,lv,rfl,A8 h1 hc fun g hg x=> ?_,A8 h2 hc fun g hg x=> ?_,fun g hg=>ho g (h3 g hg) (h1.lt g hg).2,fun g hg=>ho g (h4 g hg) (h2.lt g hg).2⟩
 · obtain⟨_,cur,hh⟩:=A9 h1 g hg;exact hs g (h3 g hg) (h1.lt g hg).2 x ⟨cur,_,hh,.inl rfl⟩
 · obtain⟨_,cur,hh⟩:=A9 h2 g hg;exact hs g (h4 g hg) (h2.lt g hg).2 x ⟨cur,_,hh,.inr rfl⟩
theorem NdV.chg {S:Nat->Prop} {w w':World} {ok ok':Nat->Prop} (hc:Chg S w w') (hs:∀g,ok g->g<w.heap.size->S g->(∃cur e,w.heap[g]? =some (.cells cur e (0,0))/\(e=126\/e=3))->False) (ho:∀g,ok g->g<w.heap.size->ok' g) (t:M.Nd) (xs:List Value) (h:NdV w ok t xs):NdV w' ok' t xs:=by
 obtain⟨lv,rfl,h2,h4⟩:=h;refine⟨lv,rfl,A8 h2 hc fun g hg x=> ?_,fun g hg=>ho g (h4 g hg) (h2.lt g hg).2⟩;obtain⟨_,cur,hh⟩:=A9 h2 g hg;exact hs g (h4 g hg) (h2.lt g hg).2 x ⟨cur,_,hh,.inr rfl⟩
structure LOk (L:List M.Tk):Prop where
 short:L.length<=1001
 last:∀i,i<L.length->((M.tk L i).kind=6 ↔ i+1=L.length)
structure Pst (w:World) (B pb:Nat) (tv:Value) (L:List M.Tk) (ok:Nat->Prop) (d:Nat) (s:M.St):Prop where
 low:B<=pb
 at':s.i<L.length
 few:s.N.length<=s.i/\s.T.length<=s.i
 toks:w.ownsRow 0 119 3 tv L.length (B0a L)
 oks:ok pb/\(∀v g,w.cell? ⟨pb,3,none⟩=some v->v.ownBlock=some g->ok g)/\∀v g,w.cell? ⟨pb,4,none⟩=some v->v.ownBlock=some g->ok g
 blk:∃nv yv nx yx,w.heap[pb]? =some (.cells #[tv,.int .i64 (s.i:Int),.int .i64 (d:Int),nv,yv] 96 (0,0))/\w.ownsRow B 72 9 nv s.N.length nx/\w.ownsRow B 68 4 yv s.T.length yx/\
  Rws (NdV w ok) s.N nx/\Rws (TyV w ok) s.T yx
theorem Pst.chg {S:Nat->Prop} {w w':World} {B pb:Nat} {tv:Value} {L:List M.Tk} {ok ok':Nat->Prop} {d:Nat} {s:M.St} (h:Pst w B pb tv L ok d s) (hc:Chg S w w')
 (hs:∀k cur e,w.heap[k]? =some (.cells cur e (0,0))->S k->e≠96/\e≠72/\e≠68/\tv.ownBlock≠some k/\((e=126\/e=3)->¬ok k))
 (ho:∀g,ok g->g<w.heap.size->ok' g):Pst w' B pb tv L ok' d s:=by
 obtain⟨h1,h2,h3,h4,h5,nv,yv,nx,yx,hb,hn,hy,hrn,hry⟩:=h;have hlt:=(Array.getElem?_eq_some_iff.1 hb).1;have key:∀g,ok g->g<w.heap.size->S g->(∃cur e,w.heap[g]? =some (.cells cur e (0,0))/\(e=126\/e=3))->False:=by
  rintro g hg _ hx ⟨cur,e,hh,he⟩;exact(hs g cur e hh hx).2.2.2.2 he hg
 have hbw:w'.heap[pb]? =w.heap[pb]? :=hc.block pb hlt (fun x=>(hs pb _ _ hb x).1 rfl);have hok5:ok' pb/\(∀v g,w'.cell? ⟨pb,3,none⟩=some v->v.ownBlock=some g->ok' g)/\∀v g,w'.cell? ⟨pb,4,none⟩=some v->v.ownBlock=some g->ok' g:=by
  have c3:w.cell? ⟨pb,3,none⟩=some nv:=by rw[cell_of_row w pb 3 _ _ _ hb];rfl
  have c4:w.cell? ⟨pb,4,none⟩=some yv:=by rw[cell_of_row w pb 4 _ _ _ hb];rfl
  refine⟨ho _ h5.1 hlt,fun v g hv hg=> ?_,fun v g hv hg=> ?_⟩
  · rw[World.cell?_of_block (a:=⟨pb,3,none⟩) hbw,c3]at hv;cases hv;exact ho g (h5.2.1 _ g c3 hg) (hn.lt g hg).2
  · rw[World.cell?_of_block (a:=⟨pb,4,none⟩) hbw,c4]at hv;cases hv;exact ho g (h5.2.2 _ g c4 hg) (hy.lt g hg).2
 refine⟨h1,h2,h3,A8 h4 hc fun g hg x=> ?_,hok5,nv,yv,nx,yx, ?_,A8 hn hc fun g hg x=> ?_,A8 hy hc fun g hg x=> ?_,hrn.imp (NdV.chg hc key ho),hry.imp (TyV.chg hc key ho)⟩
 · obtain⟨_,cur,hh⟩:=A9 h4 g hg;exact(hs g cur _ hh x).2.2.2.1 hg
 · rw[hc.block pb hlt (fun x=>(hs pb _ _ hb x).1 rfl)];exact hb
 · obtain⟨_,cur,hh⟩:=A9 hn g hg;exact(hs g cur _ hh x).2.1 rfl
 · obtain⟨_,cur,hh⟩:=A9 hy g hg;exact(hs g cur _ hh x).2.2.1 rfl
theorem Pst.still {w w':World} {B pb:Nat} {tv:Value} {L:List M.Tk} {ok:Nat->Prop} {d:Nat} {s:M.St} (h:Pst w B pb tv L ok d s) (hc:Chg (fun _=>False) w w'):Pst w' B pb tv L ok d s:=
 h.chg hc (fun _ _ _ _ x=>x.elim) (fun _ x _=>x)
theorem Pst.alloc {w:World} {B pb:Nat} {tv:Value} {L:List M.Tk} {ok:Nat->Prop} {d:Nat} {s:M.St} (h:Pst w B pb tv L ok d s) (o:Obj):Pst (w.alloc o) B pb tv L ok d s:=h.still (Chg.alloc _ _ _)
theorem Pst.mono {w:World} {B pb:Nat} {tv:Value} {L:List M.Tk} {ok ok':Nat->Prop} {d:Nat} {s:M.St} (h:Pst w B pb tv L ok d s) (ho:∀g,ok g->g<w.heap.size->ok' g):Pst w B pb tv L ok' d s:=
 h.chg (Chg.refl (fun _=>False) _) (fun _ _ _ _ x=>x.elim) ho
theorem B8 {B:Nat} {ok:Nat->Prop} {w w':World} (h:Chg (fun _=>False) w w'):Kept B ok w w':=h.mono fun _ _ x=>x.elim
theorem Pst.store {w:World} {B pb:Nat} {tv:Value} {L:List M.Tk} {ok:Nat->Prop} {d:Nat} {s:M.St} (h:Pst w B pb tv L ok d s) (o:Nat) (v:Value) (i' d':Nat) (hi:i'<L.length) (hf:s.i<=i')
 (hv:∀nv yv,(#[tv,.int .i64 (s.i:Int),.int .i64 (d:Int),nv,yv]:Array Value).setIfInBounds o v=#[tv,.int .i64 (i':Int),.int .i64 (d':Int),nv,yv]):
 Pst (w.setCell ⟨pb,o,none⟩ v) B pb tv L ok d' ⟨i',s.N,s.T⟩:=by
 obtain⟨h1,h2,h3,h4,h5,nv,yv,nx,yx,hb,hn,hy,hrn,hry⟩:=h;have hc:=Chg.set w ⟨pb,o,none⟩ v;have hno:∀{base:Nat} {e:TypeId} {size:Nat} {v:Value} {n:Nat} {xs:List Value},w.ownsRow base e size v n xs->e≠96->∀g,v.ownBlock=some g->¬g=pb:=by
  intro base e size v n xs ho he g hg hx;subst hx;obtain⟨_,cur,hh⟩:=A9 ho g hg;rw[hb]at hh;simp only[Option.some.injEq,Obj.cells.injEq]at hh;exact he hh.2.1.symm
 have key:∀g,ok g->g<w.heap.size->g=pb->(∃cur e,w.heap[g]? =some (.cells cur e (0,0))/\(e=126\/e=3))->False:=by
  rintro g _ _ rfl ⟨cur,e,hh,he⟩;rw[hb]at hh;simp only[Option.some.injEq,Obj.cells.injEq]at hh;rcases he with rfl|rfl
  · exact absurd hh.2.1 (by decide)
  · exact absurd hh.2.1 (by decide)
 have hb2:(w.setCell ⟨pb,o,none⟩ v).heap[pb]? =some (.cells #[tv,.int .i64 (i':Int),.int .i64 (d':Int),nv,yv] 96 (0,0)):=by rw[heap_setCell_same w pb o _ _ v hb,hv]
 refine⟨h1,hi,⟨by show s.N.length<=i';omega,by show s.T.length<=i';omega⟩,A8 h4 hc (hno h4 (by decide)), ?_,nv,yv,nx,yx,hb2,A8 hn hc (hno hn (by decide)),A8 hy hc (hno hy (by decide)),hrn.imp (NdV.chg hc key (fun _ x _=>x)),hry.imp (TyV.chg hc key (fun _ x _=>x))⟩;have c3:w.cell? ⟨pb,3,none⟩=some nv:=by rw[cell_of_row w pb 3 _ _ _ hb];rfl
 have c4:w.cell? ⟨pb,4,none⟩=some yv:=by rw[cell_of_row w pb 4 _ _ _ hb];rfl
 refine⟨h5.1,fun u g hu hg=> ?_,fun u g hu hg=> ?_⟩
 · rw[cell_of_row _ pb 3 _ _ _ hb2]at hu;cases hu;exact h5.2.1 _ g c3 hg
 · rw[cell_of_row _ pb 4 _ _ _ hb2]at hu;cases hu;exact h5.2.2 _ g c4 hg
theorem Pst.next {w:World} {B pb:Nat} {tv:Value} {L:List M.Tk} {ok:Nat->Prop} {d:Nat} {s:M.St} (h:Pst w B pb tv L ok d s) (hi:s.i+1<L.length):Pst (w.setCell ⟨pb,1,none⟩ (.int .i64 ((s.i:Int)+1))) B pb tv L ok d s.nx:=
 h.store 1 _ (s.i+1) d hi (by omega) (fun _ _=>by simp)
theorem Pst.deeper {w:World} {B pb:Nat} {tv:Value} {L:List M.Tk} {ok:Nat->Prop} {d:Nat} {s:M.St} (h:Pst w B pb tv L ok d s) (d':Nat):Pst (w.setCell ⟨pb,2,none⟩ (.int .i64 (d':Int))) B pb tv L ok d' s:=
 h.store 2 _ s.i d' h.at' (by omega) (fun _ _=>by simp)
theorem Pst.tokLt {w:World} {B pb:Nat} {tv:Value} {L:List M.Tk} {ok:Nat->Prop} {d:Nat} {s:M.St} (h:Pst w B pb tv L ok d s) {k:Nat} (hk:w.heap.size<=k):tv.ownBlock≠some k:=by
 intro hx;have:=(h.toks.lt k hx).2;omega
theorem Pst.setOwn {w:World} {B pb:Nat} {tv:Value} {L:List M.Tk} {ok:Nat->Prop} {d:Nat} {s:M.St} (h:Pst w B pb tv L ok d s) {q o:Nat} {cs:Array Value} {e:TypeId} {fz:Nat×Nat} (v:Value) (hq:w.heap[q]? =some (.cells cs e fz)) (ht:tv.ownBlock≠some q)
 (he:e≠96/\e≠72/\e≠68/\e≠126/\e≠3):Pst (w.setCell ⟨q,o,none⟩ v) B pb tv L ok d s:=by
 refine h.chg (Chg.set w ⟨q,o,none⟩ v) (fun k cur e' hk hs=> ?_) (fun _ x _=>x);have hs':k=q:=hs;subst hs';rw[hq]at hk;simp only[Option.some.injEq,Obj.cells.injEq]at hk;obtain⟨_,rfl,_⟩:=hk;exact⟨he.1,he.2.1,he.2.2.1,ht,fun x=>by rcases x with x|x;exact absurd x he.2.2.2.1;exact absurd x he.2.2.2.2⟩
theorem Kept.setOwn {B:Nat} {ok:Nat->Prop} {a b:World} (h:Kept B ok a b) {q o:Nat} (v:Value) (hq:a.heap.size<=q):Kept B ok a (b.setCell ⟨q,o,none⟩ v):=
 h.trans' (Chg.set b ⟨q,o,none⟩ v) (fun k hk hx=>by have hx':k=q:=hx;omega)
theorem Pst.tagged {w:World} {B pb:Nat} {tv:Value} {L:List M.Tk} {ok:Nat->Prop} {d:Nat} {s:M.St} (h:Pst w B pb tv L ok d s):B<=pb/\tag w pb/\ok pb:=by
 obtain⟨nv,yv,nx,yx,hb,_⟩:=h.blk;exact⟨h.low,⟨_,_,_,hb,.inl rfl⟩,h.oks.1⟩
theorem Pst.keptSet {w:World} {B pb:Nat} {tv:Value} {L:List M.Tk} {ok:Nat->Prop} {d:Nat} {s:M.St} (h:Pst w B pb tv L ok d s) (o:Nat) (v:Value):Kept B ok w (w.setCell ⟨pb,o,none⟩ v):=
 (Chg.set w ⟨pb,o,none⟩ v).mono fun k _ hk=>by have hk':k=pb:=hk;subst hk';exact h.tagged
open Go.RowKit
theorem Pst.cell {w:World} {B pb:Nat} {tv:Value} {L:List M.Tk} {ok:Nat->Prop} {d:Nat} {s:M.St} (h:Pst w B pb tv L ok d s):
 ∃g c nv yv,tv= .slice (some ⟨g,0,none⟩) L.length c/\L.length<=c/\c<=maxLen/\g<w.heap.size/\pb<w.heap.size/\w.cell? ⟨pb,0,none⟩=some (.slice (some ⟨g,0,none⟩) L.length c)/\w.cell? ⟨pb,1,none⟩=some (.int .i64 (s.i:Int))/\w.cell? ⟨pb,2,none⟩=some (.int .i64 (d:Int))/\
  w.cell? ⟨pb,3,none⟩=some nv/\w.cell? ⟨pb,4,none⟩=some yv/\(∀o,w.frozen? ⟨pb,o,none⟩=false)/\∀j u,(B0a L)[j]? =some u->w.cell? ⟨g,j,none⟩=some u:=by
 obtain⟨ad,c,rfl⟩:=B6 h.toks;obtain⟨g,rfl,_,hg,hc1,hc2,hcell⟩:=E7 h.toks (by have:=h.at';omega);obtain⟨nv,yv,nx,yx,hb,_⟩:=h.blk;have hlt:=(Array.getElem?_eq_some_iff.1 hb).1;have hc:=fun o=>cell_of_row w pb o _ _ _ hb;refine⟨g,c,nv,yv,rfl,hc1,hc2,hg,hlt,by rw[hc];rfl,by rw[hc];rfl,by rw[hc];rfl,by rw[hc];rfl,by rw[hc];rfl,fun o=> ?_,hcell⟩;simp[World.frozen?,hb]
theorem Q4a:∀(L:List M.Tk) (k:Nat) (h:k<L.length) (j:Nat),j<3->(B0a L)[3 * k+j]? =(M2a L[k])[j]?
 |[],k,h,_,_=>by simp at h
 |t::r,0,_,j,hj=>by
  simp only[B0a,List.flatMap_cons,Nat.mul_zero,Nat.zero_add,List.getElem_cons_zero];rw[List.getElem?_append_left (by simp[M2a];omega)]
 |t::r,k+1,h,j,hj=>by
  simp only[B0a,List.flatMap_cons,List.getElem_cons_succ];rw[List.getElem?_append_right (by simp[M2a];omega)];have:=Q4a r k (by simpa using h) j hj;rw[<-this];simp only[M2a,List.length_cons,List.length_nil,B0a];congr 1
  omega
theorem G9b {w:World} {g:Nat} {L:List M.Tk} {k:Nat} (h:k<L.length) (hc:∀j u,(B0a L)[j]? =some u->w.cell? ⟨g,j,none⟩=some u):
 w.cell? ⟨g,k * 3,none⟩=some (.int .i64 (M.tk L k).kind)/\w.cell? ⟨g,k * 3+1,none⟩=some (.string ⟨(M.tk L k).text.toArray⟩)/\w.cell? ⟨g,k * 3+2,none⟩=some (.int .i64 ((M.tk L k).at':Int)):=by
 have e:M.tk L k=L[k]:=by simp[M.tk,List.getD,h]
 rw[Nat.mul_comm k 3,e];exact⟨hc _ _ (Q4a L k h 0 (by omega)),hc _ _ (Q4a L k h 1 (by omega)),hc _ _ (Q4a L k h 2 (by omega))⟩
def tkv (t:M.Tk):Value:= .agg #[.int .i64 t.kind,.string ⟨t.text.toArray⟩,.int .i64 (t.at':Int)]
theorem A0 {p:Prop} (h:p):Hid p:=h
def gu (er p:Int):Ending:= .panicked [{ v:= .iface 108 (.agg #[.int .i64 er,.int .i64 p]),recovered:=false }]
theorem T9 (a b c:Value) (w:World):(Instr.field 119 (.agg #[a,b,c]) 0).run Tryz.prog w= .ok a w:=by kernel_rfl
theorem S7 (a b c:Value) (w:World):(Instr.field 119 (.agg #[a,b,c]) 1).run Tryz.prog w= .ok b w:=by kernel_rfl
theorem B5b (a b c:Value) (w:World):(Instr.field 119 (.agg #[a,b,c]) 2).run Tryz.prog w= .ok c w:=by kernel_rfl
section
variable {w:World} {B pb:Nat} {tv:Value} {L:List M.Tk} {ok:Nat->Prop} {d:Nat} {s:M.St}
theorem R6 (hL:LOk L) (h:Pst w B pb tv L ok d s):
 Calls Tryz.prog 86 #[.pointer (some ⟨pb,0,none⟩)] w fun e w'=>e= .returned (tkv (M.tk L s.i))/\Chg (fun _=>False) w w':=by
 obtain⟨g,c,nv,yv,rfl,hc1,hc2,hg,hlt,c0,c1,_,_,_,fz,hcell⟩:=h.cell;have hi:=h.at';have hs:=hL.short;obtain⟨x0,x1,x2⟩:=G9b hi hcell;clear h hcell;generalize M.tk L s.i=tk at *;obtain⟨kd,tx,pl⟩:=tk;simp only[tkv]at x0 x1 x2⊢;generalize (⟨tx.toArray⟩:ByteArray)=bx at *;generalize s.i=i at *;unfold maxLen at hc2;go_enter Tryz.func86,Tryz.ntmps86;go_wp2;go_region
 go_wp2;exact bodyPost_ret (v:= .agg #[.int .i64 kd,.string bx,.int .i64 pl]) (by simp[results,Tryz.results86,go_sem]) rfl ⟨rfl,(Chg.alloc _ _ _).trans (Chg.drewN _ _ 1) (fun _ _ x=>x)⟩
theorem N7a (hL:LOk L) (h:Pst w B pb tv L ok d s):
 Calls Tryz.prog 87 #[.pointer (some ⟨pb,0,none⟩)] w fun e w'=>e= .returned (.int .i64 ((M.tk L s.i).at':Int))/\Chg (fun _=>False) w w':=by
 have H:=R6 hL h;have hf0:=T9;have hf2:=B5b;generalize M.tk L s.i=tk at *;obtain⟨kd,tx,pl⟩:=tk;simp only[tkv]at H⊢;clear h hL;go_enter Tryz.func87,Tryz.ntmps87;go_wp2_with fail
 refine H.mono ?_;clear H;rintro e w1 ⟨rfl,hc⟩;go_wp2;go_ret;exact⟨rfl,hc⟩
theorem D4c (hL:LOk L) (h:Pst w B pb tv L ok d s):
 Calls Tryz.prog 53 #[.pointer (some ⟨pb,0,none⟩)] w fun e w'=>e= .returned (.bool (decide ((M.tk L s.i).kind=6)))/\Chg (fun _=>False) w w':=by
 have H:=R6 hL h;have hf0:=T9;have hf2:=B5b;generalize M.tk L s.i=tk at *;obtain⟨kd,tx,pl⟩:=tk;simp only[tkv]at H⊢;clear h hL;go_enter Tryz.func53,Tryz.ntmps53;go_wp2_with fail
 refine H.mono ?_;clear H;rintro e w1 ⟨rfl,hc⟩;go_wp2;go_ret;exact⟨F2 (by rw[Bool.eq_iff_iff];simp),hc⟩
theorem V8 (w:World) (er p:Int):Calls Tryz.prog 38 #[.int .i64 er,.int .i64 p] w fun e w'=>e=gu er p/\Chg (fun _=>False) w w':=by
 go_enter Tryz.func38,Tryz.ntmps38;go_wp2;exact⟨rfl,rfl,Chg.refl _ _⟩
theorem S8 (hL:LOk L) (h:Pst w B pb tv L ok d s) (er:Int):
 Calls Tryz.prog 54 #[.pointer (some ⟨pb,0,none⟩),.int .i64 er] w fun e w'=>e=gu er ((M.tk L s.i).at':Int)/\Chg (fun _=>False) w w':=by
 go_enter Tryz.func54,Tryz.ntmps54;go_wp2_with fail
 refine(N7a hL h).mono ?_;rintro e w1 ⟨rfl,hc⟩;go_wp2_with fail
 refine(V8 _ _ _).mono ?_;rintro e w2 ⟨rfl,hc2⟩;exact⟨rfl,rfl,hc.trans hc2 (fun _ _ x=>x)⟩
theorem I6c {S:Nat->Prop} {w wr:World} {cs:Array Value} {t:TypeId} (h:Chg S (w.alloc (.cells cs t)) wr) (hS:¬S w.heap.size):
 (∀o v,cs[o]? =some v->wr.cell? ⟨w.heap.size,o,none⟩=some v)/\(∀o,wr.frozen? ⟨w.heap.size,o,none⟩=false)/\w.heap.size<wr.heap.size:=by
 have hb:=h.block w.heap.size (by simp) hS;refine⟨fun o v hv=> ?_,fun o=> ?_, ?_⟩
 · rw[World.cell?_of_block (a:=⟨w.heap.size,o,none⟩) hb,World.cell?_alloc_new,hv]
 · rw[World.frozen?_of_block (a:=⟨w.heap.size,o,none⟩) hb];simp
 · have:=h.size;simp at this;omega
def Strs (w:World) (b:Nat) (ms:List (List UInt8)):Prop:=b<w.heap.size/\∀j (h:j<ms.length),w.cell? ⟨b,j,none⟩=some (.string ⟨ms[j].toArray⟩)
theorem Strs.still {w w':World} {b:Nat} {ms:List (List UInt8)} (h:Strs w b ms) (hc:Chg (fun _=>False) w w'):Strs w' b ms:=
 ⟨Nat.lt_of_lt_of_le h.1 hc.size,fun j hj=>by rw[World.cell?_of_block (hc.block b h.1 (fun x=>x))];exact h.2 j hj⟩
theorem B5c (w:World) (b c:Nat) (ms:List (List UInt8)) (t:List UInt8) (h:Strs w b ms) (hm:ms.length<=4000):
 Calls Tryz.prog 139 #[.slice (some ⟨b,0,none⟩) ms.length c,.string ⟨t.toArray⟩] w fun e w'=>(∃k:Int,e= .returned (.int .i64 k)/\decide (0<=k)=M.has ms t)/\w'=w:=by
 obtain⟨hb,hcell⟩:=h;go_enter Tryz.func139,Tryz.ntmps139;go_wp2;go_loop [8] (fun i=>∃k:Nat,k<=ms.length/\i= .int .i64 k/\Hid (M.has (ms.take k) t=false)) (fun i=>ms.length - (intOf i).toNat)
 case atStart=>exact⟨0,Nat.zero_le _,rfl,by simp[Hid,M.has]⟩
 case round=>
  obtain⟨k,hk,rfl,hq⟩:=hrel;by_cases hlt:k<ms.length
  · have hx:=hcell k hlt;have HS:Hid (M.has (ms.take (k+1)) t=(M.has (ms.take k) t||t==ms[k])):=M.M4c _ _ _ hlt;have HM:Hid (∀x,x=ms[k]->x∈ms):=fun x hx=>hx ▸ List.getElem_mem _;generalize hy:ms[k]=x at *;have HX:=HM.out x rfl;clear hcell HM hy;by_cases hp:x=t
    · subst hp;go_wp2;go_ret;exact⟨⟨_,rfl,by rw[M.W1c HX];simp⟩,rfl⟩
    · have hp':(t==x)=false:=by simp[Ne.symm hp]
      go_wp2;go_round
      case rel=>exact⟨k+1,by omega,by go_num,by show _=_;rw[HS.out,hq.out];simp;exact fun h=>hp h.symm⟩
      case measure=>simp[intOf];omega
  · go_wp2;go_ret;exact⟨⟨_,rfl,by have:=hq.out;rw[List.take_of_length_le (by omega)]at this;rw[this];simp⟩,rfl⟩
theorem L2a (w:World) (b c:Nat) (ms:List (List UInt8)) (t:List UInt8) (h:Strs w b ms) (hm:ms.length<=4000):
 Calls Tryz.prog 118 #[.slice (some ⟨b,0,none⟩) ms.length c,.string ⟨t.toArray⟩] w fun e w'=>e= .returned (.bool (M.has ms t))/\w'=w:=by
 have H:=B5c w b c ms t h hm;generalize M.has ms t=r at *;go_enter Tryz.func118,Tryz.ntmps118;go_wp2_with fail
 refine H.mono ?_;clear H;rintro e w1 ⟨⟨k,rfl,hk⟩,rfl⟩;go_wp2;all_goals go_ret
 all_goals exact⟨F2 (by simp_all),rfl⟩
theorem C3a (hL:LOk L) (h:Pst w B pb tv L ok d s) (b c:Nat) (ms:List (List UInt8)) (hm:Strs w b ms) (hn:ms.length<=4000):
 Calls Tryz.prog 88 #[.pointer (some ⟨pb,0,none⟩),.slice (some ⟨b,0,none⟩) ms.length c] w fun e w'=>e= .returned (.bool (M.isM L s.i ms))/\Chg (fun _=>False) w w':=by
 have H:=R6 hL h;have hf0:=T9;have hf1:=S7;unfold M.isM;generalize M.tk L s.i=tk at *;obtain⟨kd,tx,pl⟩:=tk;simp only[tkv]at H⊢;have HC:∀w1:World,Chg (fun _=>False) w w1->Calls Tryz.prog 118 #[.slice (some ⟨b,0,none⟩) ms.length c,.string ⟨tx.toArray⟩] w1 fun e w'=>e= .returned (.bool (M.has ms tx))/\w'=w1:=fun w1 h1=>L2a w1 b c ms tx (hm.still h1) hn;generalize M.has ms tx=r at *;clear h hL hm;go_enter Tryz.func88,Tryz.ntmps88;go_wp2_with fail
 refine H.mono ?_;clear H;rintro e w1 ⟨rfl,hc1⟩;have HC1:=A0 hc1;clear hc1;by_cases h5:kd=5
 · subst h5;go_wp2_with fail
   refine(HC _ (HC1.out.trans (Chg.alloc (fun _=>False) _ _) (fun _ _ x=>x))).mono ?_;clear HC;rintro e w2 ⟨rfl,rfl⟩;go_wp2;go_ret;exact⟨F2 (by simp),HC1.out.trans (Chg.alloc (fun _=>False) _ _) (fun _ _ x=>x)⟩
 · by_cases h2:kd=2
   · subst h2;go_wp2_with fail
     refine(HC _ (HC1.out.trans (Chg.alloc (fun _=>False) _ _) (fun _ _ x=>x))).mono ?_;clear HC;rintro e w2 ⟨rfl,rfl⟩;go_wp2;go_ret;exact⟨F2 (by simp),HC1.out.trans (Chg.alloc (fun _=>False) _ _) (fun _ _ x=>x)⟩
   · have h5':(kd==5)=false:=by simp[h5]
     have h2':(kd==2)=false:=by simp[h2]
     go_wp2_with fail
     go_ret;exact⟨F2 (by simp[h5,h2]),HC1.out.trans (Chg.alloc (fun _=>False) _ _) (fun _ _ x=>x)⟩
theorem LOk.mark (hL:LOk L) {i:Nat} {ms:List (List UInt8)} (hi:i<L.length) (h:M.isM L i ms=true):i+1<L.length:=by
 have h1:=(hL.last i hi).2;by_cases h2:i+1=L.length
 · have:=h1 h2;simp[M.isM,this]at h
 · omega
theorem G8c (w:World) (m:List UInt8) (t:TypeId):Strs (w.alloc (.cells #[.string ⟨m.toArray⟩] t)) w.heap.size [m]:=by
 refine⟨by simp,fun j hj=> ?_⟩;simp only[List.length_cons,List.length_nil,Nat.zero_add]at hj;have:j=0:=by omega
 subst this;simp[World.cell?_alloc_new]
theorem F5 (hL:LOk L) (h:Pst w B pb tv L ok d s) (m:List UInt8):
 Calls Tryz.prog 119 #[.pointer (some ⟨pb,0,none⟩),.string ⟨m.toArray⟩] w fun e w'=>e= .returned (.bool (M.isM L s.i [m]))/\Kept B ok w w'/\Pst w' B pb tv L ok d (if M.isM L s.i [m] then s.nx else s):=by
 have H:Calls Tryz.prog 88 #[.pointer (some ⟨pb,0,none⟩),.slice (some ⟨w.heap.size,0,none⟩) 1 1] (w.alloc (.cells #[.string ⟨m.toArray⟩] 9)) _:=C3a hL (h.alloc _) w.heap.size 1 [m] (G8c w m _) (by simp);have HM:=A0 (fun hq:M.isM L s.i [m]=true=>hL.mark h.at' hq);have hi:=h.at';have hs:=hL.short;generalize M.isM L s.i [m]=r at *;go_enter Tryz.func119,Tryz.ntmps119;go_wp2_with fail
 refine H.mono ?_;clear H;rintro e w1 ⟨rfl,hc⟩;have HP:=A0 ((h.alloc _).still hc);have HK:=A0 (((Kept.refl B ok w).alloc _).trans (B8 hc));clear hc h;cases r
 · go_wp2;go_ret;exact⟨rfl,HK.out,HP.out⟩
 · obtain⟨g,c,nv,yv,-,-,-,-,hlt,-,c1,-,-,-,fz,-⟩:=HP.out.cell;go_wp2;go_ret;exact⟨rfl,HK.out.trans (HP.out.keptSet _ _),HP.out.next (HM.out trivial)⟩
theorem G5 (hL:LOk L) (h:Pst w B pb tv L ok d s) (m:List UInt8):
 Calls Tryz.prog 142 #[.pointer (some ⟨pb,0,none⟩),.string ⟨m.toArray⟩] w fun e w'=>Kept B ok w w'/\
  (M.isM L s.i [m]=true/\e= .returned (.tuple #[])/\Pst w' B pb tv L ok d s.nx\/M.isM L s.i [m]=false/\e=gu 1 ((M.tk L s.i).at':Int)):=by
 have H:=F5 hL h m;have HF:=fun w1 (h1:Pst w1 B pb tv L ok d s)=>S8 hL h1 1;generalize M.isM L s.i [m]=r at *;generalize ((M.tk L s.i).at':Int)=p at *;go_enter Tryz.func142,Tryz.ntmps142;go_wp2_with fail
 refine H.mono ?_;clear H h;rintro e w1 ⟨rfl,hk,hp⟩;cases r
 · have HK:=A0 hk;have HP:=A0 hp;clear hk hp;go_wp2_with fail
   refine(HF _ (by simpa using HP.out)).mono ?_;rintro e w2 ⟨rfl,hc⟩;exact⟨rfl,HK.out.trans (B8 hc),.inr ⟨rfl,rfl⟩⟩
 · go_wp2;go_end0;exact⟨hk,rfl,by simpa using hp⟩
theorem Z6 (hL:LOk L) (h:Pst w B pb tv L ok d s) (hk:(M.tk L s.i).kind≠6):
 Calls Tryz.prog 165 #[.pointer (some ⟨pb,0,none⟩)] w fun e w'=>e= .returned (tkv (M.tk L s.i))/\Kept B ok w w'/\Pst w' B pb tv L ok d s.nx:=by
 have hm:s.i+1<L.length:=by
  have h1:=hL.last s.i h.at';have h2:=h.at';omega
 have H:=fun w1 (h1:Pst w1 B pb tv L ok d s)=>R6 hL h1;have hs:=hL.short;clear hk;generalize M.tk L s.i=tk at *;obtain⟨kd,tx,pl⟩:=tk;simp only[tkv]at H⊢;generalize (⟨tx.toArray⟩:ByteArray)=bx at *;go_enter Tryz.func165,Tryz.ntmps165;go_wp2_with fail
 refine(H _ (h.alloc _)).mono ?_;clear H;rintro e w1 ⟨rfl,hc⟩;have HP:=A0 ((h.alloc _).still hc);have HK:=A0 (((Kept.refl B ok w).alloc _).trans (B8 hc));obtain⟨qc,qf,hz⟩:=I6c hc (fun x=>x);have q0:=qc 0 _ rfl;have q1:=qc 1 _ rfl;have q2:=qc 2 _ rfl;obtain⟨-,-,-,-,-,-,-,-,hpb,-⟩:=h.cell;have HQ:=A0 ((hc.block w.heap.size (by simp) (fun x=>x)).trans (heap_alloc_new w _));have HT:=A0 (h.tokLt (Nat.le_refl _));clear hc h qc;obtain⟨g,c,nv,yv,-,-,-,-,hlt,-,c1,-,-,-,fz,-⟩:=HP.out.cell;go_wp2_with fail
 have hq:=HQ.out;have hne:pb≠w.heap.size:=by omega
 have P1:=HP.out.next hm;have P2:=P1.setOwn (q:=w.heap.size) (o:=0) (.int .i64 kd) (by rw[heap_setCell_other _ _ _ _ (by show w.heap.size≠pb;omega)];exact hq) HT.out (by decide);have P3:=P2.setOwn (q:=w.heap.size) (o:=1) (.string bx) (heap_setCell_same _ _ _ _ _ _ (by rw[heap_setCell_other _ _ _ _ (by show w.heap.size≠pb;omega)];exact hq)) HT.out (by decide);have P4:=P3.setOwn (q:=w.heap.size) (o:=2) (.int .i64 pl) (heap_setCell_same _ _ _ _ _ _ (heap_setCell_same _ _ _ _ _ _ (by rw[heap_setCell_other _ _ _ _ (by show w.heap.size≠pb;omega)];exact hq))) HT.out (by decide);exact bodyPost_ret (v:= .agg #[.int .i64 kd,.string bx,.int .i64 pl]) (by simp[results,Tryz.results165,go_sem,q0,q1,q2,hz]) rfl
  ⟨rfl,((((HK.out.trans (HP.out.keptSet _ _)).setOwn _ (Nat.le_refl _)).setOwn _ (Nat.le_refl _)).setOwn _ (Nat.le_refl _)).alloc _,P4.alloc _⟩
end
end Go.Proofs.YtgdnpemiiageaaaGreatDoor
