/-
  A part of the proof.
-/
import Derived.Test.YtgdnpemiiageaaaGreatDoorPlainA
import Derived.Lib.Bytealg
set_option maxHeartbeats 16000000
set_option maxRecDepth 100000
namespace Go.Proofs.YtgdnpemiiageaaaGreatDoor.M
inductive Tr where
 |nd (k:Int) (ns:List (List UInt8)) (ks:List Tr)
def Tr.k:Tr->Int
 | .nd k _ _=>k
def Tr.ns:Tr->List (List UInt8)
 | .nd _ ns _=>ns
def Tr.ks:Tr->List Tr
 | .nd _ _ ks=>ks
theorem Tr.ind {P:Tr->Prop} (h:∀k ns ks,(∀x∈ks,P x)->P (.nd k ns ks)):∀t,P t
 | .nd k ns ks=>h k ns ks (fun x _=>Tr.ind h x)
def P1a (k:Int):List UInt8:=
 if k=1 then [110,117,109] else if k=2 then [98,111,111,108] else if k=3 then [116,101,120,116] else if k=4 then [110,117,108,108] else if k=6 then [117,110,107,110,111,119,110] else [97,110,121]
mutual
def txt':Tr->List UInt8
 | .nd k ns ks=>
  if k=7 then [123]++G4b ns ks++(if ns.length=0 then [] else [32])++[125]
  else if k=8 then [91]++S3c ks++[93]
  else if k=9 then F3c ks
  else if k=10 then M1a true ks
  else P1a k
def S3c:List Tr->List UInt8
 |[]=>[]
 |t::_=>txt' t
def F3c:List Tr->List UInt8
 |[]=>[]
 |t::r=>[40]++P2a true r++[41,32,61,62,32]++txt' t
def P2a:Bool->List Tr->List UInt8
 |_,[]=>[]
 |fst,t::r=>(if fst then [] else [44,32])++txt' t++P2a false r
def M1a:Bool->List Tr->List UInt8
 |_,[]=>[]
 |fst,t::r=>(if fst then [] else [32,124,32])++(if t.k=10\/t.k=9/\r.length≠0 then [40]++txt' t++[41] else txt' t)++M1a false r
def G4b:List (List UInt8)->List Tr->List UInt8
 |_,[]=>[]
 |ns,t::r=>[32]++ns.headD []++[58,32]++txt' t++[59]++G4b ns.tail r
end
abbrev TT:=Int×List UInt8
def sg (x:List UInt8):TT:=(5,x)
mutual
def tks:Tr->List TT
 | .nd k ns ks=>
  if k=7 then sg [123]::(W2a ns ks++[sg [125]])
  else if k=8 then sg [91]::(J1d ks++[sg [93]])
  else if k=9 then J2d ks
  else if k=10 then R8a true ks
  else [(2,P1a k)]
def J1d:List Tr->List TT
 |[]=>[]
 |t::_=>tks t
def J2d:List Tr->List TT
 |[]=>[]
 |t::r=>sg [40]::(P5a true r++sg [41]::sg [61,62]::tks t)
def P5a:Bool->List Tr->List TT
 |_,[]=>[]
 |fst,t::r=>(if fst then [] else [sg [44]])++tks t++P5a false r
def R8a:Bool->List Tr->List TT
 |_,[]=>[]
 |fst,t::r=>(if fst then [] else [sg [124]])++(if t.k=10\/t.k=9/\r.length≠0 then sg [40]::(tks t++[sg [41]]) else tks t)++R8a false r
def W2a:List (List UInt8)->List Tr->List TT
 |_,[]=>[]
 |ns,t::r=>(1,ns.headD [])::sg [58]::(tks t++sg [59]::W2a ns.tail r)
end
def N8 (nm:List UInt8):Prop:=nm≠[]/\nm.length<=20/\Y1 nm=false/\(∀c∈nm,nam c.toNat=true)/\(∀c,nm.head? =some c->let' c.toNat=true)
inductive Wf:Tr->Prop
 |plain (k:Int):1<=k->k<=6->Wf (.nd k [] [])
 |obj (ns:List (List UInt8)) (ks:List Tr):ns.length=ks.length->ns.Nodup->(∀n∈ns,N8 n)->(∀x∈ks,Wf x)->Wf (.nd 7 ns ks)
 |arr (t:Tr):Wf t->Wf (.nd 8 [] [t])
 |fn (t:Tr) (ps:List Tr):Wf t->(∀x∈ps,Wf x)->Wf (.nd 9 [] (t::ps))
 |uni (ks:List Tr):2<=ks.length->(∀x∈ks,Wf x)->Wf (.nd 10 [] ks)
/-! ### Tags -/
def O1a (k:Int):Nat:=
 if k=1 then 1 else if k=2 then 2 else if k=3 then 4 else if k=4 then 8 else if k=7 then 16 else if k=8 then 32 else if k=9 then 64 else 127
mutual
def Z7:Tr->Nat
 | .nd k _ ks=>if k=10 then U0 ks else O1a k
def U0:List Tr->Nat
 |[]=>0
 |t::r=>Z7 t|||U0 r
end
/-! ### What F1 -/
def I0 (nm:List UInt8):List (List UInt8)->List Tr->Option Tr
 |n::ns,t::ks=>if n=nm then some t else I0 nm ns ks
 |_,_=>none
def L0:Nat->Tr->Tr->Bool
 |0,_,_=>false
 |f+1,a,b=>
  if a.k=5\/b.k=5\/b.k=6 then true
  else if a.k=10 then a.ks.all fun x=>L0 f x b
  else if b.k=10 then b.ks.any fun y=>L0 f a y
  else if a.k≠b.k then false
  else if a.k=7 then (b.ns.zip b.ks).all fun p=>match I0 p.1 a.ns a.ks with
   |none=>false
   |some x=>L0 f x p.2
  else if a.k=8 then match a.ks,b.ks with
   |x::_,y::_=>L0 f x y
   |_,_=>false
  else if a.k=9 then match a.ks,b.ks with
   |x::xs,y::ys=>decide (xs.length<=ys.length) && ((xs.zip ys).all fun p=>L0 f p.1 p.2||L0 f p.2 p.1) && L0 f x y
   |_,_=>false
  else true
mutual
def sz:Tr->Nat
 | .nd _ _ ks=>szL ks+1
def szL:List Tr->Nat
 |[]=>0
 |t::r=>sz t+szL r
end
theorem G4c:∀{ks:List Tr} {x:Tr},x∈ks->sz x<=szL ks
 |t::r,x,h=>by
  rcases List.mem_cons.1 h with rfl|h
  · simp[szL]
  · have:=G4c h;simp only[szL];omega
theorem N9 {t x:Tr} (h:x∈t.ks):sz x<sz t:=by
 obtain⟨k,ns,ks⟩:=t;have:=G4c h;simp only[sz,Tr.ks]at *;omega
theorem B7b (t:Tr):0<sz t:=by obtain⟨k,ns,ks⟩:=t;simp[sz]
theorem X0 {nm:List UInt8}:∀{ns:List (List UInt8)} {ks:List Tr} {t:Tr},I0 nm ns ks=some t->t∈ks
 |[],_,_,h=>by simp[I0]at h
 |_::_,[],_,h=>by simp[I0]at h
 |n::ns,x::ks,t,h=>by
  simp only[I0]at h;split at h
  · simp only[Option.some.injEq]at h;simp[h]
  · exact List.mem_cons_of_mem _ (X0 h)
theorem R4:∀(f g:Nat) (a b:Tr),sz a+sz b<f->sz a+sz b<g->L0 f a b=L0 g a b
 |0,_,_,_,h,_=>by omega
 |_,0,_,_,_,h=>by omega
 |f+1,g+1,a,b,hf,hg=>by
  have ha:=B7b a;have hb:=B7b b;simp only[L0];have e1:a.ks.all (fun x=>L0 f x b)=a.ks.all (fun x=>L0 g x b):=by
   rw[Bool.eq_iff_iff,List.all_eq_true,List.all_eq_true];exact forall_congr' fun x=>forall_congr' fun hx=>by have:=N9 hx;rw[R4 f g x b (by omega) (by omega)]
  have e2:b.ks.any (fun y=>L0 f a y)=b.ks.any (fun y=>L0 g a y):=by
   rw[Bool.eq_iff_iff,List.any_eq_true,List.any_eq_true];refine exists_congr fun y=> ?_;constructor
   · rintro⟨hy,h⟩;have:=N9 hy;exact⟨hy,by rw[<-R4 f g a y (by omega) (by omega)];exact h⟩
   · rintro⟨hy,h⟩;have:=N9 hy;exact⟨hy,by rw[R4 f g a y (by omega) (by omega)];exact h⟩
  have e3:((b.ns.zip b.ks).all fun p=>match I0 p.1 a.ns a.ks with|none=>false|some x=>L0 f x p.2)=((b.ns.zip b.ks).all fun p=>match I0 p.1 a.ns a.ks with|none=>false|some x=>L0 g x p.2):=by
   rw[Bool.eq_iff_iff,List.all_eq_true,List.all_eq_true];refine forall_congr' fun p=>forall_congr' fun hp=> ?_;have hy:=N9 (List.of_mem_zip hp).2;cases h:I0 p.1 a.ns a.ks with
   |none=>simp
   |some x=>
    have hx:=N9 (X0 h);simp only;rw[R4 f g x p.2 (by omega) (by omega)]
  rw[e1,e2,e3];obtain⟨ak,an,as'⟩:=a;obtain⟨bk,bn,bs⟩:=b;simp only[Tr.k,Tr.ns,Tr.ks]at *;have e4:∀(xs ys:List Tr),(∀x∈xs,x∈as')->(∀y∈ys,y∈bs)->((xs.zip ys).all fun p=>L0 f p.1 p.2||L0 f p.2 p.1)=((xs.zip ys).all fun p=>L0 g p.1 p.2||L0 g p.2 p.1):=by
   intro xs ys hxs hys;rw[Bool.eq_iff_iff,List.all_eq_true,List.all_eq_true];refine forall_congr' fun p=>forall_congr' fun hp=> ?_;have h1:=List.of_mem_zip hp;have h2:=N9 (t:= .nd ak an as') (hxs _ h1.1);have h3:=N9 (t:= .nd bk bn bs) (hys _ h1.2);rw[R4 f g p.1 p.2 (by omega) (by omega),R4 f g p.2 p.1 (by omega) (by omega)]
  cases as' with
  |nil=>rfl
  |cons x xs=>
   cases bs with
   |nil=>rfl
   |cons y ys=>
    have h2:=N9 (t:= .nd ak an (x::xs)) (x:=x) (by simp[Tr.ks]);have h3:=N9 (t:= .nd bk bn (y::ys)) (x:=y) (by simp[Tr.ks]);simp only;rw[R4 f g x y (by omega) (by omega),e4 xs ys (fun z hz=>by simp[hz]) (fun z hz=>by simp[hz])]
termination_by f=>f
def F1 (a b:Tr):Bool:=L0 (sz a+sz b+1) a b
theorem V9 (f:Nat) (a b:Tr) (h:sz a+sz b<f):L0 f a b=F1 a b:=R4 _ _ _ _ h (by omega)
theorem B7a (a b:Tr):F1 a b=
 if a.k=5\/b.k=5\/b.k=6 then true
 else if a.k=10 then a.ks.all fun x=>F1 x b
 else if b.k=10 then b.ks.any fun y=>F1 a y
 else if a.k≠b.k then false
 else if a.k=7 then (b.ns.zip b.ks).all fun p=>match I0 p.1 a.ns a.ks with
  |none=>false
  |some x=>F1 x p.2
 else if a.k=8 then match a.ks,b.ks with
  |x::_,y::_=>F1 x y
  |_,_=>false
 else if a.k=9 then match a.ks,b.ks with
  |x::xs,y::ys=>decide (xs.length<=ys.length) && ((xs.zip ys).all fun p=>F1 p.1 p.2||F1 p.2 p.1) && F1 x y
  |_,_=>false
 else true:=by
 have hb:=B7b b;have ha:=B7b a;rw[show F1 a b=L0 (sz a+sz b+1) a b from rfl,L0];have e1:a.ks.all (fun x=>L0 (sz a+sz b) x b)=a.ks.all (fun x=>F1 x b):=by
  rw[Bool.eq_iff_iff,List.all_eq_true,List.all_eq_true];exact forall_congr' fun x=>forall_congr' fun hx=>by have:=N9 hx;rw[V9 _ x b (by omega)]
 have e2:b.ks.any (fun y=>L0 (sz a+sz b) a y)=b.ks.any (fun y=>F1 a y):=by
  rw[Bool.eq_iff_iff,List.any_eq_true,List.any_eq_true];refine exists_congr fun y=> ?_;constructor
  · rintro⟨hy,h⟩;have:=N9 hy;exact⟨hy,by rw[<-V9 (sz a+sz b) a y (by omega)];exact h⟩
  · rintro⟨hy,h⟩;have:=N9 hy;exact⟨hy,by rw[V9 (sz a+sz b) a y (by omega)];exact h⟩
 have e3:((b.ns.zip b.ks).all fun p=>match I0 p.1 a.ns a.ks with|none=>false|some x=>L0 (sz a+sz b) x p.2)=((b.ns.zip b.ks).all fun p=>match I0 p.1 a.ns a.ks with|none=>false|some x=>F1 x p.2):=by
  rw[Bool.eq_iff_iff,List.all_eq_true,List.all_eq_true];refine forall_congr' fun p=>forall_congr' fun hp=> ?_;have hy:=N9 (List.of_mem_zip hp).2;cases h:I0 p.1 a.ns a.ks with
  |none=>simp
  |some x=>
   have hx:=N9 (X0 h);simp only;rw[V9 _ x p.2 (by omega)]
 rw[e1,e2,e3];obtain⟨ak,an,as'⟩:=a;obtain⟨bk,bn,bs⟩:=b;simp only[Tr.k,Tr.ns,Tr.ks]at *;have e4:∀(xs ys:List Tr),(∀x∈xs,x∈as')->(∀y∈ys,y∈bs)->((xs.zip ys).all fun p=>L0 (sz (.nd ak an as')+sz (.nd bk bn bs)) p.1 p.2||L0 (sz (.nd ak an as')+sz (.nd bk bn bs)) p.2 p.1)=((xs.zip ys).all fun p=>F1 p.1 p.2||F1 p.2 p.1):=by
  intro xs ys hxs hys;rw[Bool.eq_iff_iff,List.all_eq_true,List.all_eq_true];refine forall_congr' fun p=>forall_congr' fun hp=> ?_;have h1:=List.of_mem_zip hp;have h2:=N9 (t:= .nd ak an as') (hxs _ h1.1);have h3:=N9 (t:= .nd bk bn bs) (hys _ h1.2);rw[V9 _ p.1 p.2 (by omega),V9 _ p.2 p.1 (by omega)]
 cases as' with
 |nil=>rfl
 |cons x xs=>
  cases bs with
  |nil=>rfl
  |cons y ys=>
   have h2:=N9 (t:= .nd ak an (x::xs)) (x:=x) (by simp[Tr.ks]);have h3:=N9 (t:= .nd bk bn (y::ys)) (x:=y) (by simp[Tr.ks]);simp only;rw[V9 _ x y (by omega),e4 xs ys (fun z hz=>by simp[hz]) (fun z hz=>by simp[hz])]
def isS (l:List TT) (m:List UInt8):Bool:=match l with
 |[]=>false
 |(k,x)::_=>(k==5||k==2) && has [m] x
def Fol (r:List TT):Prop:=isS r [124]=false/\isS r [61,62]=false
def one (t:Tr) (last:Bool):List TT:=if t.k=10\/t.k=9/\last=false then sg [40]::(tks t++[sg [41]]) else tks t
def TyOk (t:Ty) (i:Nat):Prop:=
 (1<=t.kind/\t.kind<=6/\t.fields=[]/\t.list=[])\/
 (t.kind=7/\t.list=[]/\(t.fields.map (·.1)).Nodup/\∀p∈t.fields,N8 p.1/\0<=p.2/\p.2<i)\/
 (t.kind=8/\t.fields=[]/\t.list=[]/\0<=t.of'/\t.of'<i)\/
 (t.kind=9/\t.fields=[]/\0<=t.of'/\t.of'<i/\∀x∈t.list,0<=x/\x<i)\/
 (t.kind=10/\t.fields=[]/\2<=t.list.length/\∀x∈t.list,0<=x/\x<i)
def TsOk (T:List Ty):Prop:=∀i (h:i<T.length),TyOk T[i] i
theorem TyOk.fld {t:Ty} {i:Nat} (h:TyOk t i):∀p∈t.fields,0<=p.2/\p.2<i:=by
 intro p hp;rcases h with ⟨_,_,h,_⟩|⟨_,_,_,h⟩|⟨_,h,_⟩|⟨_,h,_⟩|⟨_,h,_⟩
 · simp[h]at hp
 · exact(h p hp).2
 · simp[h]at hp
 · simp[h]at hp
 · simp[h]at hp
theorem TyOk.lst {t:Ty} {i:Nat} (h:TyOk t i):∀x∈t.list,0<=x/\x<i:=by
 intro p hp;rcases h with ⟨_,_,_,h⟩|⟨_,h,_⟩|⟨_,_,h,_⟩|⟨_,_,_,_,h⟩|⟨_,_,_,h⟩
 · simp[h]at hp
 · simp[h]at hp
 · simp[h]at hp
 · exact h p hp
 · exact h p hp
theorem TyOk.of {t:Ty} {i:Nat} (h:TyOk t i) (hk:t.kind=8\/t.kind=9):0<=t.of'/\t.of'<i:=by
 rcases h with h|h|h|h|h
 · omega
 · omega
 · exact h.2.2.2
 · exact⟨h.2.2.1,h.2.2.2.1⟩
 · omega
def ty0:Ty:=⟨0,[],[],0⟩
def trF (T:List Ty):Nat->Nat->Tr
 |0,_=> .nd 0 [] []
 |f+1,i=> .nd (T.getD i ty0).kind ((T.getD i ty0).fields.map (·.1))
  ((if (T.getD i ty0).kind=8\/(T.getD i ty0).kind=9 then [trF T f (T.getD i ty0).of'.toNat] else [])++((T.getD i ty0).fields.map fun p=>trF T f p.2.toNat)++(T.getD i ty0).list.map fun x=>trF T f x.toNat)
def tr (T:List Ty) (i:Nat):Tr:=trF T (i+1) i
theorem getD_at {T:List Ty} {i:Nat} (h:i<T.length):T.getD i ty0=T[i]:=by simp[h]
theorem D8a {t:Ty} {i:Nat} (ht:TyOk t i) (g h:Nat->Tr) (e:∀j,j<i->g j=h j):
 (if t.kind=8\/t.kind=9 then [g t.of'.toNat] else [])++(t.fields.map fun p=>g p.2.toNat)++(t.list.map fun x=>g x.toNat)=(if t.kind=8\/t.kind=9 then [h t.of'.toNat] else [])++(t.fields.map fun p=>h p.2.toNat)++(t.list.map fun x=>h x.toNat):=by
 have e1:t.fields.map (fun p=>g p.2.toNat)=t.fields.map (fun p=>h p.2.toNat):=List.map_congr_left fun p hp=>e _ (by have:=ht.fld p hp;omega);have e2:t.list.map (fun x=>g x.toNat)=t.list.map (fun x=>h x.toNat):=List.map_congr_left fun p hp=>e _ (by have:=ht.lst p hp;omega);rw[e1,e2];by_cases hk:t.kind=8\/t.kind=9
 · rw[if_pos hk,if_pos hk,e _ (by have:=ht.of hk;omega)]
 · rw[if_neg hk,if_neg hk]
theorem G7b {T:List Ty} (hT:TsOk T):∀(f g i:Nat),i<T.length->i<f->i<g->trF T f i=trF T g i
 |0,_,_,_,h,_=>by omega
 |_,0,_,_,_,h=>by omega
 |f+1,g+1,i,hi,hf,hg=>by
  simp only[trF,getD_at hi];rw[D8a (hT i hi) (trF T f) (trF T g) (fun j hj=>G7b hT f g j (by omega) (by omega) (by omega))]
theorem U9b {T X:List Ty} (hT:TsOk T):∀(f i:Nat),i<T.length->trF (T++X) f i=trF T f i
 |0,_,_=>rfl
 |f+1,i,hi=>by
  have e:(T++X).getD i ty0=T[i]:=by rw[getD_at (by simp;omega)];exact List.getElem_append_left hi
  simp only[trF,getD_at hi,e];rw[D8a (hT i hi) (trF (T++X) f) (trF T f) (fun j hj=>U9b hT f j (by omega))]
theorem D3a {T:List Ty} (X:List Ty) {i:Nat} (hT:TsOk T) (hi:i<T.length):tr (T++X) i=tr T i:=U9b hT _ _ hi
theorem S6 {T:List Ty} {i:Nat} (hT:TsOk T) (hi:i<T.length):tr T i= .nd T[i].kind (T[i].fields.map (·.1))
 ((if T[i].kind=8\/T[i].kind=9 then [tr T T[i].of'.toNat] else [])++(T[i].fields.map fun p=>tr T p.2.toNat)++T[i].list.map fun x=>tr T x.toNat):=by
 rw[tr,trF,getD_at hi];rw[D8a (hT i hi) (trF T i) (tr T) (fun j hj=>G7b hT _ _ _ (by omega) (by omega) (by omega))]
theorem Y3a {T:List Ty} (hT:TsOk T) (i:Nat):i<T.length->Wf (tr T i):=by
 induction i using Nat.strongRecOn with
 |ind i ih=>
  intro hi;have h:=hT i hi;rw[S6 hT hi];have h':=h;rcases h' with ⟨h1,h2,h3,h4⟩|⟨h1,h2,h3,h4⟩|⟨h1,h2,h3,h4⟩|⟨h1,h2,h3,h4,h5⟩|⟨h1,h2,h3,h4⟩
  · rw[if_neg (by omega),h3,h4];exact Wf.plain _ h1 h2
  · rw[if_neg (by omega),h1,h2];simp only[List.map_nil,List.nil_append,List.append_nil];refine Wf.obj _ _ (by simp) h3 (fun n hn=> ?_) (fun x hx=> ?_)
    · obtain⟨p,hp,rfl⟩:=List.mem_map.1 hn;exact(h4 p hp).1
    · obtain⟨p,hp,rfl⟩:=List.mem_map.1 hx;have:=(h4 p hp).2;exact ih _ (by omega) (by omega)
  · rw[if_pos (.inl h1),h1,h2,h3];exact Wf.arr _ (ih _ (by omega) (by omega))
  · rw[if_pos (.inr h1),h1,h2];refine Wf.fn _ _ (ih _ (by omega) (by omega)) (fun x hx=> ?_);obtain⟨p,hp,rfl⟩:=List.mem_map.1 hx;have:=h5 p hp;exact ih _ (by omega) (by omega)
  · rw[if_neg (by omega),h1,h2];simp only[List.map_nil,List.nil_append];refine Wf.uni _ (by simpa using h3) (fun x hx=> ?_);obtain⟨p,hp,rfl⟩:=List.mem_map.1 hx;have:=h4 p hp;exact ih _ (by omega) (by omega)
theorem TsOk.snoc {T:List Ty} {t:Ty} (hT:TsOk T) (ht:TyOk t T.length):TsOk (T++[t]):=by
 intro i hi;by_cases h:i<T.length
 · rw[List.getElem_append_left h];exact hT i h
 · have:i=T.length:=by simp at hi;omega
   subst this;simpa using ht
theorem I2a {T:List Ty} {t:Ty} (hT:TsOk T) (ht:TyOk t T.length):tr (T++[t]) T.length= .nd t.kind (t.fields.map (·.1))
 ((if t.kind=8\/t.kind=9 then [tr T t.of'.toNat] else [])++(t.fields.map fun p=>tr T p.2.toNat)++t.list.map fun x=>tr T x.toNat):=by
 rw[S6 (hT.snoc ht) (by simp)];simp only[List.getElem_concat_length];rw[D8a ht (tr (T++[t])) (tr T) (fun j hj=>D3a _ hT hj)]
/-! ### The reader reads the same -/
def tt (L:List Tk) (i:Nat):List TT:=(L.drop i).map fun t=>(t.kind,t.text)
theorem tt_nil {L:List Tk} {i:Nat} (h:¬i<L.length):tt L i=[]:=by rw[tt,List.drop_of_length_le (by omega)];rfl
theorem B6b {L:List Tk} {i:Nat} (h:¬i<L.length):tk L i=⟨6,[],0⟩:=by
 simp only[tk,List.getD];rw[List.getElem?_eq_none (by omega)];rfl
theorem B7 {α β:Type} {x:Option (Out α)} {k:St->α->Option (Out β)} {s:St} {b:β} (h:A3 x k=some (.ok s b)):∃s1 a,x=some (.ok s1 a)/\k s1 a=some (.ok s b):=by
 unfold A3 at h;split at h
 · simp at h
 · simp at h
 · exact⟨_,_,rfl,h⟩
theorem J1 {L:List Tk} {s s':St} {m:List UInt8} {u:Unit} (h:need L s m=some (.ok s' u)):isM L s.i [m]=true/\s'=s.nx:=by
 unfold need at h;split at h
 · rename_i hm;simp only[Option.some.injEq,Out.ok.injEq]at h;exact⟨hm,h.1.symm⟩
 · simp[flt]at h
theorem L5a {s s':St} {t:Ty} {x:Int} (h:addT s t=some (.ok s' x)):s'=⟨s.i,s.N,s.T++[t]⟩/\x=s.T.length:=by
 simp only[addT,Option.some.injEq,Out.ok.injEq]at h;exact⟨h.1.symm,h.2.symm⟩
def NmL (L:List Tk):Prop:=∀i,(tk L i).kind=1->N8 (tk L i).text
theorem P8a (x:List UInt8) (h:I2 x≠0):1<=I2 x/\I2 x<=6:=by
 unfold I2 at *;split<;>simp_all
 split<;>simp_all
 split<;>simp_all
 split<;>simp_all
 split<;>simp_all
section
variable {L:List Tk} {f:Nat}
end
theorem O0c (l:List UInt8) (h:(first l).1=1):N8 (first l).2.1:=by
 unfold first at h⊢;cases hh:l.head? with
 |none=>rw[hh]at h;simp at h
 |some c=>
  rw[hh]at h;simp only at h⊢;cases hd:dig c.toNat
  · rw[hd]at h;cases hl:let' c.toNat
    · rw[hl]at h;simp only[Bool.false_eq_true,if_false]at h;split at h
      · unfold text at h;split at h<;>simp at h
      · unfold W5a at h;split at h<;>simp at h
    · rw[hl]at h;simp only[Bool.false_eq_true,if_false,if_true]at h⊢;unfold name at h⊢;split at h
      · simp at h
      · rename_i hn;rw[if_neg hn];cases hw:Y1 (l.take (sp nam l))
        · cases l with
          |nil=>simp at hh
          |cons c' r=>
           simp only[List.head?_cons,Option.some.injEq]at hh;subst hh;have hnam:nam c'.toNat=true:=by simp[nam,hl]
           have hs:sp nam (c'::r)=sp nam r+1:=by simp[sp,hnam]
           refine⟨by simp[hs], ?_,hw,fun d hd'=> ?_,fun d hd'=> ?_⟩
           · have:=List.length_take_le (sp nam (c'::r)) (c'::r);simp only;omega
           · simp only at hd';obtain⟨j,hj,rfl⟩:=List.mem_iff_getElem.1 hd';rw[List.getElem_take];simp only[List.length_take]at hj;exact B9b nam _ _ _ (by omega)
           · simp only[hs,List.take_succ_cons,List.head?_cons,Option.some.injEq]at hd';subst hd';exact hl
        · simp[hw]at h
  · rw[hd]at h;simp only[if_true]at h;unfold A4a at h;split at h<;>simp at h
theorem H9b:∀(f:Nat) (l:List UInt8) (a:Nat) (acc:List Tk),(∀t∈acc,t.kind=1->N8 t.text)->∀t∈(O0 f l a acc).1,t.kind=1->N8 t.text
 |0,l,a,acc,_=>by simp[O0]
 |f+1,l,a,acc,h=>by
  simp only[O0];split
  · intro t ht hk;simp only[List.mem_append,List.mem_singleton]at ht;rcases ht with ht|rfl
    · exact h t ht hk
    · simp at hk
  split
  · simp
  split
  · simp
  refine H9b f l _ _ fun t ht hk=> ?_;simp only[List.mem_append,List.mem_singleton]at ht;rcases ht with ht|rfl
  · exact h t ht hk
  · exact O0c _ hk
theorem J9c (l:List UInt8):NmL (I6 l).1:=by
 intro i hk;by_cases hi:i<(I6 l).1.length
 · have e:tk (I6 l).1 i=(I6 l).1[i]:=by simp[tk,List.getD,hi]
   rw[e]at hk⊢;have hm:=List.getElem_mem hi;revert hk hm;generalize (I6 l).1[i]=t;intro hk hm;unfold I6 at hm;split at hm
   · simp at hm
   · exact H9b _ _ _ _ (by simp) t hm hk
 · rw[B6b hi]at hk;simp at hk
/-! ### Behind others -/
def mvT (b:Int) (t:Ty):Ty:=⟨t.kind,t.fields.map fun p=>(p.1,p.2+b),t.list.map fun x=>x+b,t.of'+b⟩
theorem TyOk.mv {t:Ty} {i:Nat} (h:TyOk t i) (b:Nat):TyOk (mvT b t) (b+i):=by
 have hl:∀x∈t.list,0<=x/\x<i:=h.lst;rcases h with ⟨h1,h2,h3,h4⟩|⟨h1,h2,h3,h4⟩|⟨h1,h2,h3,h4,h5⟩|⟨h1,h2,h3,h4,h5⟩|⟨h1,h2,h3,h4⟩
 · exact .inl ⟨h1,h2,by simp[mvT,h3],by simp[mvT,h4]⟩
 · refine .inr (.inl ⟨h1,by simp[mvT,h2], ?_,fun p hp=> ?_⟩)
   · have:(mvT b t).fields.map (·.1)=t.fields.map (·.1):=by simp[mvT]
     rw[this];exact h3
   · obtain⟨q,hq,rfl⟩:=List.mem_map.1 hp;have:=h4 q hq;exact⟨this.1,by show 0<=q.2+b;omega,by show q.2+(b:Int)<((b+i:Nat):Int);omega⟩
 · exact .inr (.inr (.inl ⟨h1,by simp[mvT,h2],by simp[mvT,h3],by show 0<=t.of'+b;omega,by show t.of'+(b:Int)<((b+i:Nat):Int);omega⟩))
 · refine .inr (.inr (.inr (.inl ⟨h1,by simp[mvT,h2],by show 0<=t.of'+b;omega,by show t.of'+(b:Int)<((b+i:Nat):Int);omega,fun x hx=> ?_⟩)));obtain⟨q,hq,rfl⟩:=List.mem_map.1 hx;have:=hl q hq;exact⟨by omega,by omega⟩
 · refine .inr (.inr (.inr (.inr ⟨h1,by simp[mvT,h2],by simpa[mvT]using h3,fun x hx=> ?_⟩)));obtain⟨q,hq,rfl⟩:=List.mem_map.1 hx;have:=hl q hq;exact⟨by omega,by omega⟩
def U2 (T X:List Ty):List Ty:=T++X.map (mvT T.length)
def ltN (a b:List UInt8):Bool:=decide (Lib.compareBytes a b<0)
theorem A5b:∀a:List UInt8,Lib.compareBytes a a=0
 |[]=>rfl
 |a::as=>by
  unfold Lib.compareBytes;rw[if_neg (UInt8.lt_irrefl a),if_neg (UInt8.lt_irrefl a)];exact A5b as
theorem X4b:∀a b:List UInt8,Lib.compareBytes a b=0->a=b
 |[],[],_=>rfl
 |[],_::_,h=>by simp[Lib.compareBytes]at h
 |_::_,[],h=>by simp[Lib.compareBytes]at h
 |a::as,b::bs,h=>by
  unfold Lib.compareBytes at h;split at h
  · simp at h
  split at h
  · simp at h
  rename_i h1 h2;have:a=b:=UInt8.le_antisymm (UInt8.not_lt.1 h2) (UInt8.not_lt.1 h1);rw[this,X4b as bs h]
theorem S4:∀a b:List UInt8,Lib.compareBytes b a= - Lib.compareBytes a b
 |[],[]=>rfl
 |[],_::_=>rfl
 |_::_,[]=>rfl
 |a::as,b::bs=>by
  unfold Lib.compareBytes;by_cases h1:a<b
  · have h2:=UInt8.lt_asymm h1;simp[h1,h2]
  · by_cases h2:b<a
    · simp[h1,h2]
    · simp only[h1,h2,if_false];exact S4 as bs
theorem E1a:∀a b c:List UInt8,Lib.compareBytes a b<=0->Lib.compareBytes b c<=0->Lib.compareBytes a c<=0/\(Lib.compareBytes a b<0\/Lib.compareBytes b c<0->Lib.compareBytes a c<0)
 |[],[],c,_,h=>by
  refine⟨h,fun h'=> ?_⟩;rcases h' with h'|h'
  · simp[Lib.compareBytes]at h'
  · exact h'
 |[],_::_,[],_,h=>by simp[Lib.compareBytes]at h
 |[],_::_,_::_,_,_=>by simp[Lib.compareBytes]
 |_::_,[],_,h,_=>by simp[Lib.compareBytes]at h
 |_::_,_::_,[],_,h=>by simp[Lib.compareBytes]at h
 |a::as,b::bs,c::cs,h1,h2=>by
  have ih:=E1a as bs cs;unfold Lib.compareBytes at h1 h2⊢;by_cases hab:a<b
  · by_cases hbc:b<c
    · rw[if_pos (UInt8.lt_trans hab hbc)];simp
    · by_cases hcb:c<b
      · rw[if_neg hbc,if_pos hcb]at h2;simp at h2
      · have:b=c:=UInt8.le_antisymm (UInt8.not_lt.1 hcb) (UInt8.not_lt.1 hbc);subst this;rw[if_pos hab];simp
  · by_cases hba:b<a
    · rw[if_neg hab,if_pos hba]at h1;simp at h1
    · have:a=b:=UInt8.le_antisymm (UInt8.not_lt.1 hba) (UInt8.not_lt.1 hab);subst this;rw[if_neg (UInt8.lt_irrefl a),if_neg (UInt8.lt_irrefl a)]at h1⊢;by_cases hbc:a<c
      · rw[if_pos hbc];simp
      · by_cases hcb:c<a
        · rw[if_neg hbc,if_pos hcb]at h2;simp at h2
        · simp only[hbc,hcb,if_false]at h2⊢;exact ih h1 h2
theorem W9c (n n':List (List UInt8)) (x y:Tr) (xs ys:List Tr):F1 (.nd 9 n (x::xs)) (.nd 9 n' (y::ys))=(decide (xs.length<=ys.length) && ((xs.zip ys).all fun p=>F1 p.1 p.2||F1 p.2 p.1) && F1 x y):=by rw[B7a];rfl
def leN {α:Type} (a b:List UInt8×α):Bool:= !ltN b.1 a.1
def K1a {α:Type} (l:List (List UInt8×α)):List (List UInt8×α):=l.mergeSort leN
theorem B3c {α:Type} (a b c:List UInt8×α) (h1:leN a b=true) (h2:leN b c=true):leN a c=true:=by
 simp only[leN,ltN,Bool.not_eq_true',decide_eq_false_iff_not,Int.not_lt]at *;have e1:=S4 a.1 b.1;have e2:=S4 b.1 c.1;have e3:=S4 a.1 c.1;have:=(E1a a.1 b.1 c.1 (by omega) (by omega)).1;omega
theorem B4c {α:Type} (a b:List UInt8×α):(leN a b||leN b a)=true:=by
 simp only[leN,ltN,Bool.or_eq_true,Bool.not_eq_true',decide_eq_false_iff_not,Int.not_lt];have e1:=S4 a.1 b.1;omega
theorem T4 {α:Type} (l:List (List UInt8×α)):(K1a l).Perm l:=List.mergeSort_perm l leN
theorem E9a {α:Type} (l:List (List UInt8×α)):(K1a l).Pairwise (fun a b=>leN a b=true):=List.pairwise_mergeSort B3c B4c l
theorem I3a {α:Type}:∀(l l':List (List UInt8×α)),l.Perm l'->(l.map (·.1)).Nodup->l.Pairwise (fun a b=>leN a b=true)->l'.Pairwise (fun a b=>leN a b=true)->l=l'
 |[],l',hp,_,_,_=>(List.nil_perm.1 hp).symm
 |x::l,[],hp,_,_,_=>by simp at hp
 |x::l,y::l',hp,hn,h1,h2=>by
  have hx:x∈y::l':=hp.subset (by simp);have hy:y∈x::l:=hp.symm.subset (by simp);have hxy:x=y:=by
   rcases List.mem_cons.1 hx with h|h
   · exact h
   · rcases List.mem_cons.1 hy with h'|h'
     · exact h'.symm
     · have a1:=(List.pairwise_cons.1 h1).1 y h';have a2:=(List.pairwise_cons.1 h2).1 x h;simp only[leN,ltN,Bool.not_eq_true',decide_eq_false_iff_not,Int.not_lt]at a1 a2;have e1:=S4 x.1 y.1;have e2:=X4b x.1 y.1 (by omega);rw[List.map_cons,List.nodup_cons]at hn;exact absurd (List.mem_map.2 ⟨y,h',e2.symm⟩) hn.1
  subst hxy;rw[I3a l l' (List.perm_cons x|>.1 hp) (by rw[List.map_cons,List.nodup_cons]at hn;exact hn.2) (List.pairwise_cons.1 h1).2 (List.pairwise_cons.1 h2).2]
mutual
def srt:Tr->Tr
 | .nd k ns ks=>if k=7 then .nd 7 ((K1a (ns.zip (W4a ks))).map (·.1)) ((K1a (ns.zip (W4a ks))).map (·.2)) else .nd k ns (W4a ks)
def W4a:List Tr->List Tr
 |[]=>[]
 |t::r=>srt t::W4a r
end
theorem K2a:∀ks:List Tr,W4a ks=ks.map srt
 |[]=>rfl
 |t::r=>by rw[W4a,K2a r];rfl
def key (t:Tr):List UInt8:=txt' (srt t)
theorem J5d (t:Tr):(srt t).k=t.k:=by
 obtain⟨k,ns,ks⟩:=t;rw[srt];split
 · rename_i h;rw[h];rfl
 · rfl
theorem M5a {k:Int} {ns:List (List UInt8)} {ks:List Tr} (h:k≠7):srt (.nd k ns ks)= .nd k ns (ks.map srt):=by rw[srt,if_neg h,K2a]
theorem C0d (t:Tr) (h:Wf t):Wf (srt t):=by
 induction h with
 |plain k h1 h2=>
  rw[M5a (by omega)];exact Wf.plain k h1 h2
 |obj ns ks hl hn hm _ ih=>
  rw[srt,if_pos rfl,K2a];have hp:=T4 (ns.zip (ks.map srt));have e1:(ns.zip (ks.map srt)).map (·.1)=ns:=by
   rw[List.map_fst_zip];simp[hl]
  refine Wf.obj _ _ (by simp) ?_ (fun n hn'=> ?_) (fun x hx=> ?_)
  · have:=hp.map (·.1);rw[e1]at this;exact this.nodup_iff.2 hn
  · have:=(hp.map (·.1)).subset hn';rw[e1]at this;exact hm n this
  · have:=(hp.map (·.2)).subset hx;obtain⟨p,hp',rfl⟩:=List.mem_map.1 this;obtain⟨y,hy,e⟩:=List.mem_map.1 (List.of_mem_zip hp').2;rw[<-e];exact ih y hy
 |arr t _ ih=>
  rw[M5a (by decide)];exact Wf.arr _ ih
 |fn t ps _ _ iht ihp=>
  rw[M5a (by decide)];refine Wf.fn _ _ iht (fun x hx=> ?_);obtain⟨y,hy,rfl⟩:=List.mem_map.1 hx;exact ihp y hy
 |uni ks h2 _ ih=>
  rw[M5a (by decide)];refine Wf.uni _ (by simpa using h2) (fun x hx=> ?_);obtain⟨y,hy,rfl⟩:=List.mem_map.1 hx;exact ih y hy
/-! ### Unions -/
mutual
def flat:Tr->List Tr
 | .nd k ns ks=>if k=10 then I5 ks else [.nd k ns ks]
def I5:List Tr->List Tr
 |[]=>[]
 |t::r=>flat t++I5 r
end
def dd:List Tr->List Tr->List Tr
 |acc,[]=>acc
 |acc,t::r=>if acc.any (fun u=>key u==key t) then dd acc r else dd (acc++[t]) r
def Y2 (l:List Tr):Tr:=
 if (I5 l).any (fun t=>t.k==5) then .nd 5 [] []
 else match dd [] (I5 l) with
  |[]=> .nd 5 [] []
  |[t]=>t
  |t::u::r=> .nd 10 [] (t::u::r)
theorem E8b:∀(l acc:List Tr) (x:Tr),x∈acc->x∈dd acc l
 |[],acc,x,h=>h
 |t::r,acc,x,h=>by
  rw[dd];split
  · exact E8b r acc x h
  · exact E8b r _ x (by simp[h])
theorem E7b:∀(l acc:List Tr) (x:Tr),x∈l->∃u∈dd acc l,key u=key x
 |t::r,acc,x,h=>by
  rw[dd];rcases List.mem_cons.1 h with rfl|h
  · split
    · rename_i hc;rw[List.any_eq_true]at hc;obtain⟨u,hu,e⟩:=hc;exact⟨u,E8b r acc u hu,by simpa using e⟩
    · exact⟨x,E8b r _ x (by simp),rfl⟩
  · split
    · exact E7b r acc x h
    · exact E7b r _ x h
theorem E6b:∀(l acc:List Tr) (x:Tr),x∈dd acc l->x∈acc\/x∈l
 |[],acc,x,h=> .inl h
 |t::r,acc,x,h=>by
  rw[dd]at h;split at h
  · rcases E6b r acc x h with h|h
    · exact .inl h
    · exact .inr (by simp[h])
  · rcases E6b r _ x h with h|h
    · rcases List.mem_append.1 h with h|h
      · exact .inl h
      · simp at h;exact .inr (by simp[h])
    · exact .inr (by simp[h])
theorem N5a:∀{l:List Tr} {x:Tr},x∈I5 l->∃t∈l,x∈flat t
 |t::r,x,h=>by
  rw[I5,List.mem_append]at h;rcases h with h|h
  · exact⟨t,by simp,h⟩
  · obtain⟨u,hu,hx⟩:=N5a h;exact⟨u,by simp[hu],hx⟩
theorem W8c (t:Tr) (h:Wf t):∀x∈flat t,Wf x/\x.k≠10:=by
 induction h with
 |plain k h1 h2=>
  intro x hx;rw[flat,if_neg (by omega)]at hx;simp at hx;subst hx
  exact⟨Wf.plain k h1 h2,by simp only[Tr.k];omega⟩
 |obj ns ks a b c d _=>
  intro x hx;rw[flat,if_neg (by decide)]at hx;simp at hx;subst hx
  exact⟨Wf.obj ns ks a b c d,by simp[Tr.k]⟩
 |arr t a _=>
  intro x hx;rw[flat,if_neg (by decide)]at hx;simp at hx;subst hx
  exact⟨Wf.arr t a,by simp[Tr.k]⟩
 |fn t ps a b _ _=>
  intro x hx;rw[flat,if_neg (by decide)]at hx;simp at hx;subst hx
  exact⟨Wf.fn t ps a b,by simp[Tr.k]⟩
 |uni ks _ _ ih=>
  intro x hx;rw[flat,if_pos rfl]at hx;obtain⟨t,ht,hx⟩:=N5a hx;exact ih t ht x hx
theorem E4c:Wf (.nd 5 [] []):=Wf.plain 5 (by decide) (by decide)
theorem E9c (l:List Tr) (h:∀t∈l,Wf t):Wf (Y2 l):=by
 have hd:∀x∈dd [] (I5 l),Wf x:=by
  intro x hx;rcases E6b _ _ x hx with hx|hx
  · simp at hx
  · obtain⟨t,ht,hx⟩:=N5a hx;exact(W8c t (h t ht) x hx).1
 unfold Y2;split
 · exact E4c
 · split
   · exact E4c
   · rename_i t e;exact hd t (by rw[e];simp)
   · rename_i t u r e;exact Wf.uni _ (by simp) (fun x hx=>hd x (by rw[e];exact hx))
/-! ### Tags -/
mutual
theorem Q2a:∀t:Tr,Z7 t<128
 | .nd k ns ks=>by
  rw[Z7];split
  · exact S0a ks
  · unfold O1a;repeat' split
    all_goals decide
theorem S0a:∀l:List Tr,U0 l<128
 |[]=>by simp[U0]
 |t::r=>by
  rw[U0];exact Nat.or_lt_two_pow (n:=7) (Q2a t) (S0a r)
end
theorem G3b:∀qs:List (List UInt8×Tr),G4b (qs.map (·.1)) (qs.map (·.2))=qs.flatMap fun p=>[32]++p.1++[58,32]++txt' p.2++[59]
 |[]=>rfl
 |p::r=>by
  rw[List.map_cons,List.map_cons,G4b,List.headD_cons,List.tail_cons,G3b r,List.flatMap_cons]
theorem G9c {α β:Type} (g:α->β) (l:List (List UInt8×α)) (hn:(l.map (·.1)).Nodup):K1a (l.map fun p=>(p.1,g p.2))=(K1a l).map fun p=>(p.1,g p.2):=by
 refine(I3a _ _ (((T4 l).map _).trans (T4 _).symm) ?_ ?_ (E9a _)).symm
 · rw[List.map_map];have e:((fun p:List UInt8×β=>p.1) ∘ fun p:List UInt8×α=>(p.1,g p.2))=fun p=>p.1:=rfl;rw[e];exact((T4 l).map _).nodup_iff.2 hn
 · rw[List.pairwise_map];exact E9a l
theorem S8c (fs:List (List UInt8×Int)) (f:Int->Tr) (hn:(fs.map (·.1)).Nodup):srt (.nd 7 (fs.map (·.1)) (fs.map fun p=>f p.2))= .nd 7 ((K1a fs).map (·.1)) ((K1a fs).map fun p=>srt (f p.2)):=by
 have e:(fs.map (·.1)).zip (W4a (fs.map fun p=>f p.2))=fs.map fun p=>(p.1,(fun z=>srt (f z)) p.2):=by
  rw[K2a,List.map_map];induction fs with
  |nil=>rfl
  |cons p r ih=>
   rw[List.map_cons,List.nodup_cons]at hn;simp only[List.map_cons,List.zip_cons_cons,ih hn.2];rfl
 rw[srt,if_pos rfl,e,G9c (fun z=>srt (f z)) fs hn,List.map_map,List.map_map];rfl
theorem U8b (fs:List (List UInt8×Int)) (f:Int->Tr):txt' (.nd 7 (fs.map (·.1)) (fs.map fun p=>f p.2))=[123]++(fs.flatMap fun p=>[32]++p.1++[58,32]++txt' (f p.2)++[59])++(if fs.length=0 then [] else [32])++[125]:=by
 have e:=G3b (fs.map fun p=>(p.1,f p.2));rw[List.map_map,List.map_map]at e;have e2:G4b (fs.map (·.1)) (fs.map fun p=>f p.2)=fs.flatMap fun p=>[32]++p.1++[58,32]++txt' (f p.2)++[59]:=by
  refine Eq.trans e ?_;rw[List.flatMap_map]
 rw[txt',if_pos rfl,e2,List.length_map]
theorem B3a {α:Type} (l:List (List UInt8×α)):(K1a l).length=l.length:=(T4 l).length_eq
def Q (L:List Tk) (t:Ty):Prop:=t.fields.length<=L.length/\t.list.length<=L.length/\(t.kind=8\/t.kind=9\/t.of'=0)
def Qs (L:List Tk) (s:St):Prop:=s.i<=L.length/\∀t∈s.T,Q L t
structure QF (L:List Tk) (f:Nat):Prop where
 typ:∀d s s' x,Qs L s->(sp' L f).typ d s=some (.ok s' x)->Qs L s'/\s.i<s'.i
 union:∀d s s' x,Qs L s->(sp' L f).union d s=some (.ok s' x)->Qs L s'/\s.i<s'.i
 unionL:∀d s acc s' l,Qs L s->acc.length<=s.i->(sp' L f).unionL d s acc=some (.ok s' l)->Qs L s'/\s.i<=s'.i/\l.length<=s'.i
 member:∀d s s' x,Qs L s->(sp' L f).member d s=some (.ok s' x)->Qs L s'/\s.i<s'.i
 objL:∀d s fs s' x,Qs L s->fs.length<=s.i->(sp' L f).objL d s fs=some (.ok s' x)->Qs L s'/\s.i<s'.i
 fob:∀d s s' x,Qs L s->(sp' L f).fob d s=some (.ok s' x)->Qs L s'/\s.i<s'.i
 list:∀d s nm acc s' l,Qs L s->acc.length<=s.i->(sp' L f).list .typ [41] d s nm acc=some (.ok s' l)->Qs L s'/\s.i<s'.i/\l.length<=s'.i
def nsW (ns:List (List UInt8)):Nat:=(ns.map fun n=>n.length+8).sum
mutual
def wg:Tr->Nat
 | .nd _ ns ks=>16+nsW ns+wgL ks
def wgL:List Tr->Nat
 |[]=>0
 |t::r=>wg t+5+wgL r
end
theorem L8a:∀l:List Tr,wgL l=(l.map fun t=>wg t+5).sum
 |[]=>rfl
 |t::r=>by rw[wgL,L8a r,List.map_cons,List.sum_cons]
theorem U3b (l l':List Tr):wgL (l++l')=wgL l+wgL l':=by rw[L8a,L8a,L8a,List.map_append,List.sum_append]
theorem R9c (t:Tr):wgL [t]=wg t+5:=by simp[wgL]
theorem B4b:∀{l:List Tr} {x:Tr},x∈l->wg x+5<=wgL l
 |t::r,x,h=>by
  rw[wgL];rcases List.mem_cons.1 h with rfl|h
  · omega
  · have:=B4b h;omega
theorem H1b {l l':List Nat} (h:l.Perm l'):l.sum=l'.sum:=by
 induction h with
 |nil=>rfl
 |cons x _ ih=>rw[List.sum_cons,List.sum_cons,ih]
 |swap x y l=>simp only[List.sum_cons];omega
 |trans _ _ ih1 ih2=>rw[ih1,ih2]
theorem E3c {l l':List Tr} (h:l.Perm l'):wgL l=wgL l':=by rw[L8a,L8a,H1b (h.map _)]
theorem J3c {l l':List (List UInt8)} (h:l.Perm l'):nsW l=nsW l':=H1b (h.map _)
theorem K1b:∀(r:List Tr) (b:Bool),(∀x∈r,(txt' x).length<=wg x)->(P2a b r).length<=wgL r
 |[],_,_=>by simp[P2a]
 |t::r,b,h=>by
  have h1:=h t (by simp);have h2:=K1b r false (fun x hx=>h x (by simp[hx]));rw[P2a,wgL];simp only[List.length_append];have:(if b=true then ([]:List UInt8) else [44,32]).length<=2:=by split<;>simp
  omega
theorem J9b:∀(r:List Tr) (b:Bool),(∀x∈r,(txt' x).length<=wg x)->(M1a b r).length<=wgL r
 |[],_,_=>by simp[M1a]
 |t::r,b,h=>by
  have h1:=h t (by simp);have h2:=J9b r false (fun x hx=>h x (by simp[hx]));rw[M1a,wgL];simp only[List.length_append];have e1:(if b=true then ([]:List UInt8) else [32,124,32]).length<=3:=by split<;>simp
  have e2:(if t.k=10\/t.k=9/\r.length≠0 then [40]++txt' t++[41] else txt' t).length<=(txt' t).length+2:=by split<;>simp
  omega
theorem K0b:∀(r:List Tr) (ns:List (List UInt8)),(∀x∈r,(txt' x).length<=wg x)->(G4b ns r).length<=nsW ns+wgL r
 |[],_,_=>by simp[G4b]
 |t::r,ns,h=>by
  have h1:=h t (by simp);have h2:=K0b r ns.tail (fun x hx=>h x (by simp[hx]));rw[G4b,wgL];simp only[List.length_append,List.length_cons,List.length_nil];cases ns with
  |nil=>simp only[List.headD_nil,List.tail_nil,List.length_nil]at *;omega
  |cons n ns=>
   have e:nsW (n::ns)=n.length+8+nsW ns:=by simp[nsW]
   simp only[List.headD_cons,List.tail_cons]at *;omega
theorem L5c (k:Int):(P1a k).length<=7:=by
 unfold P1a;split
 · simp
 split
 · simp
 split
 · simp
 split
 · simp
 split<;>simp
theorem J8b (t:Tr):(txt' t).length<=wg t:=by
 induction t using Tr.ind with
 |h k ns ks ih=>
  rw[txt',wg];split
  · have h1:=K0b ks ns ih;have h2:(if ns.length=0 then ([]:List UInt8) else [32]).length<=1:=by split<;>simp
    simp only[List.length_append,List.length_cons,List.length_nil];omega
  split
  · cases ks with
    |nil=>simp[S3c];omega
    |cons t r=>
     have h1:=ih t (by simp);simp only[S3c,List.length_append,List.length_cons,List.length_nil,wgL];omega
  split
  · cases ks with
    |nil=>simp[F3c]
    |cons t r=>
     have h1:=ih t (by simp);have h2:=K1b r true (fun x hx=>ih x (by simp[hx]));simp only[F3c,List.length_append,List.length_cons,List.length_nil,wgL];omega
  split
  · have:=J9b ks true ih;omega
  · have:=L5c k;omega
theorem F9b:∀(ns:List (List UInt8)) (l:List Tr),nsW ((ns.zip l).map (·.1))<=nsW ns
 |[],_=>by simp[nsW]
 |_::_,[]=>by simp[nsW]
 |n::ns,t::l=>by
  have:=F9b ns l;unfold nsW at *;simp only[List.zip_cons_cons,List.map_cons,List.sum_cons]at *;omega
theorem F8b:∀(ns:List (List UInt8)) (l:List Tr),wgL ((ns.zip l).map (·.2))<=wgL l
 |[],_=>by simp[wgL]
 |_::_,[]=>by simp[wgL]
 |n::ns,t::l=>by
  have:=F8b ns l;simp only[List.zip_cons_cons,List.map_cons,wgL]at *;omega
theorem U1b:∀(l:List Tr),(∀x∈l,wg (srt x)<=wg x)->wgL (l.map srt)<=wgL l
 |[],_=>by simp[wgL]
 |t::r,h=>by
  have h1:=h t (by simp);have h2:=U1b r (fun x hx=>h x (by simp[hx]));simp only[List.map_cons,wgL];omega
theorem B9d (t:Tr):wg (srt t)<=wg t:=by
 induction t using Tr.ind with
 |h k ns ks ih=>
  have h0:=U1b ks ih;by_cases hk:k=7
  · subst hk;rw[srt,if_pos rfl,wg,wg];have hp:=T4 (ns.zip (W4a ks));have e1:=J3c (hp.map (·.1));have e2:=E3c (hp.map (·.2));have h1:=F9b ns (W4a ks);have h2:=F8b ns (W4a ks);rw[K2a]at *;omega
  · rw[M5a hk,wg,wg];omega
theorem J8a:∀(l:List Tr),(∀x∈l,wgL (flat x)<=wg x+5)->wgL (I5 l)<=wgL l
 |[],_=>by simp[I5,wgL]
 |t::r,h=>by
  have h1:=h t (by simp);have h2:=J8a r (fun x hx=>h x (by simp[hx]));rw[I5,U3b,wgL];omega
theorem U0b (t:Tr):wgL (flat t)<=wg t+5:=by
 induction t using Tr.ind with
 |h k ns ks ih=>
  rw[flat];split
  · have:=J8a ks ih;rw[wg];omega
  · rw[R9c];omega
theorem F2c (t:Tr) (h:Wf t):txt' t≠[]:=by
 induction h with
 |plain k h1 h2=>
  rw[txt',if_neg (by omega),if_neg (by omega),if_neg (by omega),if_neg (by omega)];unfold P1a;split
  · simp
  split
  · simp
  split
  · simp
  split
  · simp
  split<;>simp
 |obj ns ks a b c d _=>rw[txt',if_pos rfl];simp
 |arr t a _=>rw[txt',if_neg (by decide),if_pos rfl];simp
 |fn t ps a b _ _=>rw[txt',if_neg (by decide),if_neg (by decide),if_pos rfl,F3c];simp
 |uni ks h2 h ih=>
  rw[txt',if_neg (by decide),if_neg (by decide),if_neg (by decide),if_pos rfl];cases ks with
  |nil=>simp at h2
  |cons t r=>
   have h3:0<(txt' t).length:=List.length_pos_iff.2 (ih t (by simp));have h4:(txt' t).length<=(if t.k=10\/t.k=9/\r.length≠0 then [40]++txt' t++[41] else txt' t).length:=by split<;>simp;omega
   rw[M1a];intro e;have e2:=congrArg List.length e;simp only[List.length_append,List.length_nil]at e2;omega
end Go.Proofs.YtgdnpemiiageaaaGreatDoor.M
