/-
  A part of the proof.
-/
import Derived.Test.YtgdnpemiiageaaaGreatDoorPlainB
import Derived.Lib.ItoaNum
import Derived.Lib.Small
import Derived.Lib.Atoi
set_option maxHeartbeats 16000000
set_option maxRecDepth 100000
namespace Go.Proofs.YtgdnpemiiageaaaGreatDoor.M
inductive Nt where
 |nd (k:Int) (tx:List UInt8) (n:Int) (ps:List Nt)
 |ty (t:Option Tr)
def Nt.k:Nt->Int
 | .nd k _ _ _=>k
 | .ty none=>-1
 | .ty (some _)=>0
def bnK (k:Int) (tx:List UInt8):Nat:=if k=13 then 4 else if k=12 then (if tx=[42] then 3 else if tx=[43]\/tx=[45] then 2 else 1) else 5
def bnd:Nt->Nat
 | .nd k tx _ _=>bnK k tx
 | .ty _=>5
structure Pc where
 b:Nat
 k:Int
 s:List UInt8
def wi (least:Nat) (c:Pc):List UInt8:=if least<=c.b then c.s else [40]++c.s++[41]
def P7c (c:Pc):List UInt8:=if c.k= -1 then [] else [58,32]++c.s
def M2c (sep:List UInt8):List Pc->List UInt8
 |[]=>[]
 |[c]=>c.s
 |c::r=>c.s++sep++M2c sep r
def mg (d:Nat):List UInt8:=(List.replicate d [32,32]).flatten
def L5d (d:Nat) (cs:List Pc):List UInt8:=cs.flatMap fun c=>mg d++c.s++[10]
def pc0:Pc:=⟨5,0,[]⟩
def c0 (cs:List Pc):Pc:=cs.getD 0 pc0
def c1 (cs:List Pc):Pc:=cs.getD 1 pc0
def c2 (cs:List Pc):Pc:=cs.getD 2 pc0
def prE (k:Int) (tx:List UInt8) (n:Int) (cs:List Pc):List UInt8:=
 if k=1 then Lib.itoa n
 else if k=2 then [34]++tx++[34]
 else if k=3 then Lib.formatBool (n==1)
 else if k=4 then [110,117,108,108]
 else if k=5 then tx
 else if k=6 then [102,110,40]++M2c [44,32] cs.dropLast.dropLast++[41]++P7c (cs.dropLast.getLastD pc0)++[32]++(cs.getLastD pc0).s
 else if k=7 then wi 5 (c0 cs)++([40]++M2c [44,32] cs.tail++[41])
 else if k=8 then wi 5 (c0 cs)++([46]++tx)
 else if k=9 then wi 5 (c0 cs)++[91]++(c1 cs).s++[93]
 else if k=10 then (if cs.length=0 then [123,125] else [123,32]++M2c [44,32] cs++[32,125])
 else if k=11 then [91]++M2c [44,32] cs++[93]
 else if k=12 then wi (if bnK k tx=1 then 2 else bnK k tx) (c0 cs)++([32]++tx++[32])++wi (bnK k tx+1) (c1 cs)
 else if k=13 then tx++(if tx=[116,121,112,101,111,102] then [32] else [])++wi 4 (c0 cs)
 else if k=14 then wi 5 (c0 cs)++[32,97,115,32]++(c1 cs).s
 else if k=15 then (tx++[58,32])++(c0 cs).s
 else tx++P7c (c0 cs)
def prS (d:Nat) (k:Int) (tx:List UInt8) (cs:List Pc):List UInt8:=
 if k=17 then ([108,101,116,32]++tx)++P7c (c0 cs)++[32,61,32]++(c1 cs).s++[59]
 else if k=18 then (tx++[32,61,32])++(c0 cs).s++[59]
 else if k=19 then wi 5 (c0 cs)++([46]++tx)++[32,61,32]++(c1 cs).s++[59]
 else if k=20 then wi 5 (c0 cs)++[91]++(c1 cs).s++[93]++[32,61,32]++(c2 cs).s++[59]
 else if k=21 then [112,114,105,110,116,32]++(c0 cs).s++[59]
 else if k=22 then [105,102,32,40]++(c0 cs).s++[41,32]++(c1 cs).s++(if (c2 cs).k= -1 then [] else [32,101,108,115,101,32]++(c2 cs).s)
 else if k=23 then [119,104,105,108,101,32,40]++(c0 cs).s++[41,32]++(c1 cs).s
 else if k=24 then [114,101,116,117,114,110,32]++(c0 cs).s++[59]
 else if k=25 then (c0 cs).s++[59]
 else [123,10]++L5d (d+1) cs++mg d++[125]
mutual
def pr (d:Nat):Nt->List UInt8
 | .ty none=>[]
 | .ty (some t)=>txt' t
 | .nd k tx n ps=>if k=26 then prS d k tx (prL (d+1) ps) else if k<=16 then prE k tx n (prL d ps) else prS d k tx (prL d ps)
def prL (d:Nat):List Nt->List Pc
 |[]=>[]
 |p::r=>⟨bnd p,p.k,pr d p⟩::prL d r
end
def R3 (k:Int) (is:List Int) (n:Nd):Prop:=
 if k=6 then n.list=is.dropLast.dropLast/\n.ty=is.dropLast.getLastD 0/\n.a=is.getLastD 0/\2<=is.length
 else if k=7 then n.a=is.headD 0/\n.list=is.tail/\1<=is.length
 else if k=10\/k=11\/k=26 then n.list=is
 else if k=14 then is=[n.a,n.ty]
 else if k=16 then is=[n.ty]
 else if k=17 then is=[n.ty,n.a]
 else if k=9\/k=12\/k=19\/k=23 then is=[n.a,n.b]
 else if k=20\/k=22 then is=[n.a,n.b,n.c]
 else if k=8\/k=13\/k=15\/k=18\/k=21\/k=24\/k=25 then is=[n.a]
 else is=[]
mutual
def At (N:List Nd) (T:List Ty):Nt->Int->Prop
 | .ty none,i=>i= -1
 | .ty (some t),i=>∃j:Nat,i=j/\j<T.length/\tr T j=t
 | .nd k tx n ps,i=>∃j:Nat,i=j/\∃h:j<N.length,N[j].kind=k/\N[j].text=tx/\N[j].n=n/\∃is,R3 k is N[j]/\AtL N T ps is
def AtL (N:List Nd) (T:List Ty):List Nt->List Int->Prop
 |[],is=>is=[]
 |p::r,is=>∃i js,is=i::js/\At N T p i/\AtL N T r js
end
def isE (k:Int):Prop:=1<=k/\k<=14
def isT (k:Int):Prop:=k= -1\/k=0
def shp (k:Int) (ks:List Int):Prop:=
 if k=1\/k=2\/k=3\/k=4\/k=5 then ks=[]
 else if k=6 then∃ps r,ks=ps++[r,26]/\(∀x∈ps,x=16)/\isT r
 else if k=7 then∃x xs,ks=x::xs/\isE x/\∀y∈xs,isE y
 else if k=8\/k=13\/k=15\/k=18\/k=21\/k=24\/k=25 then∃x,ks=[x]/\isE x
 else if k=9\/k=12\/k=19 then∃x y,ks=[x,y]/\isE x/\isE y
 else if k=10 then∀x∈ks,x=15
 else if k=11 then∀x∈ks,isE x
 else if k=14 then∃x,ks=[x,0]/\isE x
 else if k=16 then∃x,ks=[x]/\isT x
 else if k=17 then∃x y,ks=[x,y]/\isT x/\isE y
 else if k=20 then∃x y z,ks=[x,y,z]/\isE x/\isE y/\isE z
 else if k=22 then∃x z,ks=[x,26,z]/\isE x/\(z=26\/z= -1)
 else if k=23 then∃x,ks=[x,26]/\isE x
 else if k=26 then∀x∈ks,17<=x/\x<=25
 else False
mutual
def Gd:Nt->Prop
 | .ty _=>True
 | .nd k _ _ ps=>shp k (ps.map Nt.k)/\GdL ps
def GdL:List Nt->Prop
 |[]=>True
 |p::r=>Gd p/\GdL r
end
mutual
def szN:Nt->Nat
 | .ty _=>1
 | .nd _ _ _ ps=>G5c ps+1
def G5c:List Nt->Nat
 |[]=>0
 |p::r=>szN p+G5c r
end
theorem Y7:∀{ps:List Nt} {p:Nt},GdL ps->p∈ps->Gd p
 |q::r,p,h,hm=>by
  rw[List.mem_cons]at hm;rcases hm with rfl|hm
  · exact h.1
  · exact Y7 h.2 hm
theorem K0a:∀{ps:List Nt} {p:Nt},p∈ps->szN p<=G5c ps
 |q::r,p,hm=>by
  rw[List.mem_cons]at hm;rw[G5c];rcases hm with rfl|hm
  · omega
  · have:=K0a hm;omega
theorem F5b {N:List Nd} {T:List Ty}:∀{ps:List Nt} {is:List Int},AtL N T ps is->is.length=ps.length
 |[],is,h=>by rw[AtL]at h;rw[h];rfl
 |p::r,is,h=>by
  rw[AtL]at h;obtain⟨i,js,rfl,_,h2⟩:=h;rw[List.length_cons,List.length_cons,F5b h2]
theorem k1 {ps:List Nt} {x:Int} (h:ps.map Nt.k=[x]):∃a,ps=[a]/\a.k=x:=by
 match ps,h with
 |[a],h=>exact⟨a,rfl,by simpa using h⟩
 |[],h=>simp at h
 |_::_::_,h=>simp at h
theorem k2 {ps:List Nt} {x y:Int} (h:ps.map Nt.k=[x,y]):∃a b,ps=[a,b]/\a.k=x/\b.k=y:=by
 match ps,h with
 |[a,b],h=>exact⟨a,b,rfl,by simpa using h⟩
 |[],h=>simp at h
 |[_],h=>simp at h
 |_::_::_::_,h=>simp at h
theorem k3 {ps:List Nt} {x y z:Int} (h:ps.map Nt.k=[x,y,z]):∃a b c,ps=[a,b,c]/\a.k=x/\b.k=y/\c.k=z:=by
 match ps,h with
 |[a,b,c],h=>exact⟨a,b,c,rfl,by simpa using h⟩
 |[],h=>simp at h
 |[_],h=>simp at h
 |[_,_],h=>simp at h
 |_::_::_::_::_,h=>simp at h
theorem N2a {a:Nt} (hg:Gd a) (h:isT a.k):∃t,a= .ty t:=by
 cases a with
 |ty t=>exact⟨t,rfl⟩
 |nd k tx n ps=>
  exfalso;rw[Gd]at hg;have h1:=hg.1;rcases h with h|h<;>(simp only[Nt.k]at h;subst h;simp[shp]at h1)
theorem at1 {N:List Nd} {T:List Ty} {a:Nt} {i:Int} (h:AtL N T [a] [i]):At N T a i:=by
 rw[AtL]at h;obtain⟨i',js,e,ha,_⟩:=h;simp only[List.cons.injEq]at e;rw[e.1];exact ha
theorem at2 {N:List Nd} {T:List Ty} {a b:Nt} {i j:Int} (h:AtL N T [a,b] [i,j]):At N T a i/\At N T b j:=by
 rw[AtL]at h;obtain⟨i',js,e,ha,hb⟩:=h;simp only[List.cons.injEq]at e;obtain⟨rfl,rfl⟩:=e;exact⟨ha,at1 hb⟩
theorem S5c (t:Nt):1<=szN t:=by
 cases t<;>simp[szN]
mutual
def nTy:Tr->Nat
 | .nd _ _ ks=>M8 ks+1
def M8:List Tr->Nat
 |[]=>0
 |t::r=>nTy t+M8 r
end
def ixT:Nat->List Tr->List Int
 |_,[]=>[]
 |b,t::r=>(((b+nTy t:Nat):Int) - 1)::ixT (b+nTy t) r
def C7a (k:Int) (ns:List (List UInt8)) (is:List Int):Ty:=
 if k=7 then ⟨7,ns.zip is,[],0⟩ else if k=8 then ⟨8,[],[],is.headD 0⟩ else if k=10 then ⟨10,[],is,0⟩ else ⟨k,[],[],0⟩
mutual
def emT (b:Nat):Tr->List Ty
 | .nd k ns ks=>if k=9 then emB b ks else M4 b ks++[C7a k ns (ixT b ks)]
def M4 (b:Nat):List Tr->List Ty
 |[]=>[]
 |t::r=>emT b t++M4 (b+nTy t) r
def emB (b:Nat):List Tr->List Ty
 |[]=>[⟨9,[],[],0⟩]
 |t::r=>M4 b r++emT (b+M8 r) t++[⟨9,[],ixT b r,((b+M8 r+nTy t:Nat):Int) - 1⟩]
end
mutual
def nN:Nt->Nat
 | .ty _=>0
 | .nd _ _ _ ps=>nNL ps+1
def nNL:List Nt->Nat
 |[]=>0
 |p::r=>nN p+nNL r
end
mutual
def nT:Nt->Nat
 | .ty none=>0
 | .ty (some t)=>nTy t
 | .nd _ _ _ ps=>nTL ps
def nTL:List Nt->Nat
 |[]=>0
 |p::r=>nT p+nTL r
end
def ixN (b tb:Nat):Nt->Int
 | .ty none=>-1
 | .ty (some t)=>((tb+nTy t:Nat):Int) - 1
 | .nd k tx n ps=>((b+nN (.nd k tx n ps):Nat):Int) - 1
def ixL:Nat->Nat->List Nt->List Int
 |_,_,[]=>[]
 |b,tb,p::r=>ixN b tb p::ixL (b+nN p) (tb+nT p) r
def mkN (k:Int) (tx:List UInt8) (n:Int) (is:List Int):Nd:=
 if k=6 then ⟨6,is.getLastD 0,0,0,is.dropLast.dropLast,tx,n,is.dropLast.getLastD 0,0⟩
 else if k=7 then ⟨7,is.headD 0,0,0,is.tail,tx,n,-1,0⟩
 else if k=10\/k=11\/k=26 then ⟨k,0,0,0,is,tx,n,-1,0⟩
 else if k=14 then ⟨14,is.getD 0 0,0,0,[],tx,n,is.getD 1 0,0⟩
 else if k=16 then ⟨16,0,0,0,[],tx,n,is.getD 0 0,0⟩
 else if k=17 then ⟨17,is.getD 1 0,0,0,[],tx,n,is.getD 0 0,0⟩
 else ⟨k,is.getD 0 0,is.getD 1 0,is.getD 2 0,[],tx,n,-1,0⟩
mutual
def emN (b tb:Nat):Nt->List Nd
 | .ty _=>[]
 | .nd k tx n ps=>M9 b tb ps++[mkN k tx n (ixL b tb ps)]
def M9 (b tb:Nat):List Nt->List Nd
 |[]=>[]
 |p::r=>emN b tb p++M9 (b+nN p) (tb+nT p) r
end
mutual
def emY (tb:Nat):Nt->List Ty
 | .ty none=>[]
 | .ty (some t)=>emT tb t
 | .nd _ _ _ ps=>T2 tb ps
def T2 (tb:Nat):List Nt->List Ty
 |[]=>[]
 |p::r=>emY tb p++T2 (tb+nT p) r
end
mutual
theorem W8 (b tb:Nat):∀t:Nt,(emN b tb t).length=nN t
 | .ty _=>rfl
 | .nd k tx n ps=>by rw[emN,List.length_append,M7 b tb ps,nN];rfl
theorem M7 (b tb:Nat):∀ps:List Nt,(M9 b tb ps).length=nNL ps
 |[]=>rfl
 |p::r=>by rw[M9,List.length_append,W8 b tb p,M7 _ _ r,nNL]
end
mutual
theorem Y8 (b:Nat):∀t:Tr,(emT b t).length=nTy t
 | .nd k ns ks=>by
  rw[emT,nTy];split
  · exact Y2c b ks
  · rw[List.length_append,D1a b ks];rfl
theorem D1a (b:Nat):∀l:List Tr,(M4 b l).length=M8 l
 |[]=>rfl
 |t::r=>by rw[M4,List.length_append,Y8 b t,D1a _ r,M8]
theorem Y2c (b:Nat):∀l:List Tr,(emB b l).length=M8 l+1
 |[]=>rfl
 |t::r=>by
  rw[emB,List.length_append,List.length_append,D1a b r,Y8 _ t,M8];simp only[List.length_cons,List.length_nil];omega
end
mutual
theorem E0a (tb:Nat):∀t:Nt,(emY tb t).length=nT t
 | .ty none=>rfl
 | .ty (some t)=>by rw[emY,Y8,nT]
 | .nd k tx n ps=>by rw[emY,L1a tb ps,nT]
theorem L1a (tb:Nat):∀ps:List Nt,(T2 tb ps).length=nTL ps
 |[]=>rfl
 |p::r=>by rw[T2,List.length_append,E0a tb p,L1a _ r,nTL]
end
theorem H1a (t:Tr):1<=nTy t:=by
 cases t with
 |nd k ns ks=>rw[nTy];omega
def Nd.fl (n:Nd):Nd:=⟨n.kind,n.a,n.b,n.c,n.list,n.text,n.n,n.ty,0⟩
theorem W7c (k:Int) (is:List Int) (n:Nd):R3 k is n.fl ↔ R3 k is n:=Iff.rfl
theorem W6c {k:Int} {tx:List UInt8} {n:Int} {ks is:List Int} (hs:shp k ks) (hlm:ks.length=is.length):R3 k is (mkN k tx n is):=by
 have hk:k=1\/k=2\/k=3\/k=4\/k=5\/k=6\/k=7\/k=8\/k=9\/k=10\/k=11\/k=12\/k=13\/k=14\/k=15\/k=16\/k=17\/k=18\/k=19\/k=20\/k=21\/k=22\/k=23\/k=24\/k=25\/k=26:=by
  refine Classical.byContradiction fun h=> ?_;rw[shp,if_neg (by omega),if_neg (by omega),if_neg (by omega),if_neg (by omega),if_neg (by omega),if_neg (by omega),if_neg (by omega),if_neg (by omega),if_neg (by omega),if_neg (by omega),if_neg (by omega),if_neg (by omega),if_neg (by omega),if_neg (by omega)]at hs;exact hs
 have l1:∀{l:List Int},l.length=1->l=[l.getD 0 0]:=fun {l} h=>by match l,h with|[a],_=>rfl
 have l2:∀{l:List Int},l.length=2->l=[l.getD 0 0,l.getD 1 0]:=fun {l} h=>by match l,h with|[a,b],_=>rfl
 have l3:∀{l:List Int},l.length=3->l=[l.getD 0 0,l.getD 1 0,l.getD 2 0]:=fun {l} h=>by match l,h with|[a,b,c],_=>rfl
 rcases hk with rfl|rfl|rfl|rfl|rfl|rfl|rfl|rfl|rfl|rfl|rfl|rfl|rfl|rfl|rfl|rfl|rfl|rfl|rfl|rfl|rfl|rfl|rfl|rfl|rfl|rfl
 · have h:ks=[]:=by simpa[shp]using hs
   show is=[];exact List.eq_nil_of_length_eq_zero (by rw[<-hlm,h];rfl)
 · have h:ks=[]:=by simpa[shp]using hs
   show is=[];exact List.eq_nil_of_length_eq_zero (by rw[<-hlm,h];rfl)
 · have h:ks=[]:=by simpa[shp]using hs
   show is=[];exact List.eq_nil_of_length_eq_zero (by rw[<-hlm,h];rfl)
 · have h:ks=[]:=by simpa[shp]using hs
   show is=[];exact List.eq_nil_of_length_eq_zero (by rw[<-hlm,h];rfl)
 · have h:ks=[]:=by simpa[shp]using hs
   show is=[];exact List.eq_nil_of_length_eq_zero (by rw[<-hlm,h];rfl)
 · obtain⟨a,r,h,_⟩:∃a r,ks=a++[r,26]/\(∀x∈a,x=16)/\isT r:=by simpa[shp]using hs
   exact⟨rfl,rfl,rfl,by rw[<-hlm,h];simp⟩
 · obtain⟨x,xs,h,_⟩:∃x xs,ks=x::xs/\isE x/\∀y∈xs,isE y:=by simpa[shp]using hs
   exact⟨rfl,rfl,by rw[<-hlm,h];simp⟩
 · obtain⟨x,h,_⟩:∃x,ks=[x]/\isE x:=by simpa[shp]using hs
   exact l1 (by rw[<-hlm,h];rfl)
 · obtain⟨x,y,h,_⟩:∃x y,ks=[x,y]/\isE x/\isE y:=by simpa[shp]using hs
   exact l2 (by rw[<-hlm,h];rfl)
 · rfl
 · rfl
 · obtain⟨x,y,h,_⟩:∃x y,ks=[x,y]/\isE x/\isE y:=by simpa[shp]using hs
   exact l2 (by rw[<-hlm,h];rfl)
 · obtain⟨x,h,_⟩:∃x,ks=[x]/\isE x:=by simpa[shp]using hs
   exact l1 (by rw[<-hlm,h];rfl)
 · obtain⟨x,h,_⟩:∃x,ks=[x,0]/\isE x:=by simpa[shp]using hs
   exact l2 (by rw[<-hlm,h];rfl)
 · obtain⟨x,h,_⟩:∃x,ks=[x]/\isE x:=by simpa[shp]using hs
   exact l1 (by rw[<-hlm,h];rfl)
 · obtain⟨x,h,_⟩:∃x,ks=[x]/\isT x:=by simpa[shp]using hs
   exact l1 (by rw[<-hlm,h];rfl)
 · obtain⟨x,y,h,_⟩:∃x y,ks=[x,y]/\isT x/\isE y:=by simpa[shp]using hs
   exact l2 (by rw[<-hlm,h];rfl)
 · obtain⟨x,h,_⟩:∃x,ks=[x]/\isE x:=by simpa[shp]using hs
   exact l1 (by rw[<-hlm,h];rfl)
 · obtain⟨x,y,h,_⟩:∃x y,ks=[x,y]/\isE x/\isE y:=by simpa[shp]using hs
   exact l2 (by rw[<-hlm,h];rfl)
 · obtain⟨x,y,z,h,_⟩:∃x y z,ks=[x,y,z]/\isE x/\isE y/\isE z:=by simpa[shp]using hs
   exact l3 (by rw[<-hlm,h];rfl)
 · obtain⟨x,h,_⟩:∃x,ks=[x]/\isE x:=by simpa[shp]using hs
   exact l1 (by rw[<-hlm,h];rfl)
 · obtain⟨x,z,h,_⟩:∃x z,ks=[x,26,z]/\isE x/\(z=26\/z= -1):=by simpa[shp]using hs
   exact l3 (by rw[<-hlm,h];rfl)
 · obtain⟨x,h,_⟩:∃x,ks=[x,26]/\isE x:=by simpa[shp]using hs
   exact l2 (by rw[<-hlm,h];rfl)
 · obtain⟨x,h,_⟩:∃x,ks=[x]/\isE x:=by simpa[shp]using hs
   exact l1 (by rw[<-hlm,h];rfl)
 · obtain⟨x,h,_⟩:∃x,ks=[x]/\isE x:=by simpa[shp]using hs
   exact l1 (by rw[<-hlm,h];rfl)
 · rfl
def E3a (d:Nat) (s:St) (r:Sp):Option (Out Int):=A3 (r.progL d s []) fun s2 l=>addN s2 ⟨26,0,0,0,l,[],0,-1,0⟩
def PRes (l:List UInt8):(Int×Int) ⊕ (List Nd×List Ty)->Prop
 | .inl (er,p)=>er≠0/\(((I6 l).2.1=er/\((I6 l).2.2:Int)=p)\/((I6 l).2.1=0/\(Ev (I6 l).1 (E3a 0 ⟨0,[],[]⟩) (.fail er p)\/∃s' x,Ev (I6 l).1 (E3a 0 ⟨0,[],[]⟩) (.ok s' x)/\(1200<s'.N.length\/300<s'.T.length)/\er=2/\p=0)))
 | .inr (N,T)=>(I6 l).2.1=0/\∃s' x,Ev (I6 l).1 (E3a 0 ⟨0,[],[]⟩) (.ok s' x)/\s'.N.length<=1200/\s'.T.length<=300/\s'.N=N/\s'.T=T
theorem A8b {l:List UInt8} {a:Int×Int} {b:List Nd×List Ty} (h:PRes l (.inl a)) (k:PRes l (.inr b)):False:=by
 obtain⟨er,p⟩:=a;obtain⟨N,T⟩:=b;obtain⟨h0,h⟩:=h;obtain⟨k1,s',x',k,k3,k4,_⟩:=k;rcases h with ⟨h1,h2⟩|⟨h1,h⟩
 · exact absurd (h1.symm.trans k1) h0
 · rcases h with h|⟨s,x,h,h3,_⟩
   · cases h.one k
   · have:=h.one k;simp only[Out.ok.injEq]at this;obtain⟨rfl,_⟩:=this;omega
theorem PRes.one {l:List UInt8} {a b:(Int×Int) ⊕ (List Nd×List Ty)} (h:PRes l a) (k:PRes l b):a=b:=by
 rcases a with ⟨er,p⟩|⟨N,T⟩<;>rcases b with ⟨er',p'⟩|⟨N',T'⟩
 · obtain⟨h0,h⟩:=h;obtain⟨k0,k⟩:=k;rcases h with ⟨h1,h2⟩|⟨h1,h⟩<;>rcases k with ⟨k1,k2⟩|⟨k1,k⟩
   · rw[<-h1,<-h2,<-k1,<-k2]
   · exact absurd (h1.symm.trans k1) h0
   · exact absurd (k1.symm.trans h1) k0
   · rcases h with h|⟨s,x,h,h3,rfl,rfl⟩<;>rcases k with k|⟨s',x',k,k3,rfl,rfl⟩
     · have:=h.one k;simp only[Out.fail.injEq]at this;rw[this.1,this.2]
     · cases h.one k
     · cases h.one k
     · rfl
 · exact absurd (A8b h k) (by simp)
 · exact absurd (A8b k h) (by simp)
 · obtain⟨_,s,x,h,_,_,rfl,rfl⟩:=h;obtain⟨_,s',x',k,_,_,rfl,rfl⟩:=k;have:=h.one k;simp only[Out.ok.injEq]at this;rw[this.1]
theorem Z3a (L:List Tk):∀f d s acc s' l,(sp' L f).progL d s acc=some (.ok s' l)->(tk L s'.i).kind=6
 |0,_,_,_,_,_,h=>by cases h
 |f+1,d,s,acc,s',l,h=>by
  change (if (tk L s.i).kind=6 then some (.ok s acc) else A3 ((sp' L f).stmt d s) fun s x=>(sp' L f).progL d s (acc++[x]))=_ at h
  split at h
  · rename_i h6;simp only[Option.some.injEq,Out.ok.injEq]at h;rw[<-h.1];exact h6
  · unfold A3 at h;split at h
    · cases h
    · cases h
    · exact Z3a L f _ _ _ _ _ h
theorem T8c {L:List Tk} {d:Nat} {s s':St} {x:Int} (h:Ev L (E3a d s) (.ok s' x)):(tk L s'.i).kind=6:=by
 obtain⟨f,hf⟩:=h;have h:=hf f (Nat.le_refl _);unfold E3a A3 at h;split at h
 · cases h
 · cases h
 · rename_i s2 l hh;have:=Z3a L f _ _ _ _ _ hh;simp only[addN,Option.some.injEq,Out.ok.injEq]at h;rw[<-h.1];exact this
def R1c (x:List UInt8):Prop:=x≠[]/\x.length<=9/\∀c∈x,dig c.toNat=true
def NuL (L:List Tk):Prop:=∀i,(tk L i).kind=3->R1c (tk L i).text
theorem N9c (l:List UInt8) (h:(first l).1=3):R1c (first l).2.1:=by
 unfold first at h⊢;cases hc:l.head? with
 |none=>rw[hc]at h;simp at h
 |some c=>
  rw[hc]at h;simp only at h⊢;cases hd:dig c.toNat with
  |true=>
   rw[hd]at h;simp only[if_true]at h⊢;unfold A4a at h⊢;split at h
   · simp at h
   · rename_i hn;rw[if_neg hn];have hle:=C5a dig l;cases l with
     |nil=>simp at hc
     |cons a r=>
      simp only[List.head?_cons,Option.some.injEq]at hc;subst hc;have hp:1<=sp dig (a::r):=by have:=M6a dig (a::r) 0 (by simp) (Nat.zero_le _) hd;omega
      refine⟨?_, ?_, ?_⟩
      · intro e;have:=congrArg List.length e;rw[List.length_take]at this;simp only[List.length_cons,List.length_nil]at this hle;omega
      · rw[List.length_take];omega
      · intro x hx;obtain⟨k,hk,rfl⟩:=List.getElem_of_mem hx;rw[List.getElem_take];rw[List.length_take]at hk;exact B9b dig (a::r) k (by omega) (by omega)
  |false=>
   rw[hd]at h;simp only[Bool.false_eq_true,if_false]at h;split at h
   · unfold name at h;split at h
     · simp at h
     · split at h<;>simp at h
   split at h
   · unfold text at h;split at h<;>simp at h
   · unfold W5a at h;split at h<;>simp at h
theorem H8b:∀(f:Nat) (l:List UInt8) (a:Nat) (acc:List Tk),(∀t∈acc,t.kind=3->R1c t.text)->∀t∈(O0 f l a acc).1,t.kind=3->R1c t.text
 |0,l,a,acc,_=>by simp[O0]
 |f+1,l,a,acc,h=>by
  simp only[O0];split
  · intro t ht hk;simp only[List.mem_append,List.mem_singleton]at ht;rcases ht with ht|rfl
    · exact h t ht hk
    · simp at hk
  split
  · simp
  split
  · simp
  refine H8b f l _ _ fun t ht hk=> ?_;simp only[List.mem_append,List.mem_singleton]at ht;rcases ht with ht|rfl
  · exact h t ht hk
  · exact N9c _ hk
theorem J5b (l:List UInt8):NuL (I6 l).1:=by
 intro i hk;by_cases hi:i<(I6 l).1.length
 · have e:tk (I6 l).1 i=(I6 l).1[i]:=by simp[tk,List.getD,hi]
   rw[e]at hk⊢;have hm:=List.getElem_mem hi;revert hk hm;generalize (I6 l).1[i]=t;intro hk hm;unfold I6 at hm;split at hm
   · simp at hm
   · exact H8b _ _ _ _ (by simp) t hm hk
 · rw[B6b hi]at hk;simp at hk
theorem L5b:∀(l:List UInt8) (acc:Nat),(∀c∈l,dig c.toNat=true)->∃n:Nat,Lib.decFrom acc l=some n/\(l.foldl (fun n c=>10 * n+(c.toNat:Int) - 48) (acc:Int))=(n:Int)
 |[],acc,_=>⟨acc,rfl,rfl⟩
 |c::r,acc,h=>by
  have hc:=h c (by simp);have hd:48<=c.toNat/\c.toNat<=57:=by
   unfold dig at hc;simpa using hc
  obtain⟨n,h1,h2⟩:=L5b r (acc * 10+(c.toNat - 48)) (fun x hx=>h x (by simp[hx]));refine⟨n, ?_, ?_⟩
  · rw[Lib.decFrom,Lib.digitVal,if_pos hd];exact h1
  · rw[List.foldl_cons];have e:10 * (acc:Int)+(c.toNat:Int) - 48=((acc * 10+(c.toNat - 48):Nat):Int):=by omega
    rw[e];exact h2
theorem T2b (x:List UInt8) (h:R1c x):Lib.atoi x=some (E8a x):=by
 obtain⟨h0,_,hd⟩:=h;cases x with
 |nil=>exact absurd rfl h0
 |cons c r=>
  obtain⟨n,h1,h2⟩:=L5b (c::r) 0 hd;have hc:=hd c (by simp);unfold dig at hc;have hc2:48<=c.toNat/\c.toNat<=57:=by simpa using hc
  have n1:(c==45)=false:=by
   rw[beq_eq_false_iff_ne];rintro rfl;simp at hc2
  have n2:(c==43)=false:=by
   rw[beq_eq_false_iff_ne];rintro rfl;simp at hc2
  have e:E8a (c::r)=(n:Int):=h2;rw[Lib.atoi,n1,n2,e];simp[Lib.decNat,h1]
def Up {α:Type} (n:Nat) (x:Option (Out α)):Prop:=∀s' a,x=some (.ok s' a)->n<=s'.N.length
def Ix (n:Nat) (x:Option (Out Int)):Prop:=∀s' a,x=some (.ok s' a)->n<=s'.N.length/\(n:Int)<=a
def Rx (n:Nat) (h:Int) (x:Option (Out Int)):Prop:=∀s' a,x=some (.ok s' a)->n<=s'.N.length/\(a=h\/(n:Int)<=a)
theorem Up.none {α:Type} {n:Nat}:Up n (none:Option (Out α)):=by intro _ _ h;cases h
theorem Ix.none {n:Nat}:Ix n none:=by intro _ _ h;cases h
theorem Rx.none {n:Nat} {x:Int}:Rx n x none:=by intro _ _ h;cases h
theorem Up.flt {α:Type} {n:Nat} {L:List Tk} {i:Nat} {e:Int}:Up n (flt L i e:Option (Out α)):=by intro _ _ h;simp[M.flt]at h
theorem Ix.flt {n:Nat} {L:List Tk} {i:Nat} {e:Int}:Ix n (M.flt L i e):=by intro _ _ h;simp[M.flt]at h
theorem Rx.flt {n:Nat} {x:Int} {L:List Tk} {i:Nat} {e:Int}:Rx n x (M.flt L i e):=by intro _ _ h;simp[M.flt]at h
theorem Up.ok {α:Type} {n:Nat} {s:St} {a:α} (h:n<=s.N.length):Up n (some (.ok s a)):=by
 intro _ _ e;simp only[Option.some.injEq,Out.ok.injEq]at e;obtain⟨rfl,rfl⟩:=e;exact h
theorem Rx.ok {n:Nat} {s:St} {a:Int} (h:n<=s.N.length):Rx n a (some (.ok s a)):=by
 intro _ _ e;simp only[Option.some.injEq,Out.ok.injEq]at e;obtain⟨rfl,rfl⟩:=e;exact⟨h,.inl rfl⟩
theorem Ix.ok {n:Nat} {s:St} {a:Int} (h:n<=s.N.length) (ha:(n:Int)<=a):Ix n (some (.ok s a)):=by
 intro _ _ e;simp only[Option.some.injEq,Out.ok.injEq]at e;obtain⟨rfl,rfl⟩:=e;exact⟨h,ha⟩
theorem Ix.up {n:Nat} {x:Option (Out Int)} (h:Ix n x):Up n x:=fun _ _ e=>(h _ _ e).1
theorem Up.low {α:Type} {n m:Nat} {x:Option (Out α)} (h:Up m x) (hn:n<=m):Up n x:=fun _ _ e=>Nat.le_trans hn (h _ _ e)
theorem Ix.low {n m:Nat} {x:Option (Out Int)} (h:Ix m x) (hn:n<=m):Ix n x:=fun _ _ e=>⟨Nat.le_trans hn (h _ _ e).1,by have:=(h _ _ e).2;omega⟩
theorem Up.bind {α β:Type} {n:Nat} {x:Option (Out α)} {k:St->α->Option (Out β)} (h:Up n x) (hk:∀s a,n<=s.N.length->Up n (k s a)):Up n (A3 x k):=by
 intro s' b e;obtain⟨s1,a,e1,e2⟩:=B7 e;exact hk s1 a (h _ _ e1) _ _ e2
theorem Ix.bind {α:Type} {n:Nat} {x:Option (Out α)} {k:St->α->Option (Out Int)} (h:Up n x) (hk:∀s a,n<=s.N.length->Ix n (k s a)):Ix n (A3 x k):=by
 intro s' b e;obtain⟨s1,a,e1,e2⟩:=B7 e;exact hk s1 a (h _ _ e1) _ _ e2
theorem Ix.bindx {n:Nat} {x:Option (Out Int)} {k:St->Int->Option (Out Int)} (h:Ix n x) (hk:∀s a,n<=s.N.length->(n:Int)<=a->Ix n (k s a)):Ix n (A3 x k):=by
 intro s' b e;obtain⟨s1,a,e1,e2⟩:=B7 e;exact hk s1 a (h _ _ e1).1 (h _ _ e1).2 _ _ e2
theorem Up.bindx {n:Nat} {x:Option (Out Int)} {k:St->Int->Option (Out Int)} (h:Ix n x) (hk:∀s a,n<=s.N.length->(n:Int)<=a->Up n (k s a)):Up n (A3 x k):=by
 intro s' b e;obtain⟨s1,a,e1,e2⟩:=B7 e;exact hk s1 a (h _ _ e1).1 (h _ _ e1).2 _ _ e2
theorem Rx.toIx {n:Nat} {h:Int} {x:Option (Out Int)} (hr:Rx n h x) (hh:(n:Int)<=h):Ix n x:=by
 intro s' a e;obtain⟨h1,h2⟩:=hr _ _ e;exact⟨h1,by omega⟩
theorem Ix.toRx {n:Nat} {h:Int} {x:Option (Out Int)} (hr:Ix n x):Rx n h x:=fun _ _ e=>⟨(hr _ _ e).1,.inr (hr _ _ e).2⟩
theorem Ix.add {n:Nat} {s:St} {t:Nd} (h:n<=s.N.length):Ix n (addN s t):=by
 intro s' a e;simp only[addN,Option.some.injEq,Out.ok.injEq]at e;obtain⟨rfl,rfl⟩:=e;simp;omega
theorem Up.addT {n:Nat} {s:St} {t:Ty} (h:n<=s.N.length):Up n (addT s t):=by
 intro s' a e;simp only[M.addT,Option.some.injEq,Out.ok.injEq]at e;obtain⟨rfl,rfl⟩:=e;exact h
theorem Up.need {n:Nat} {L:List Tk} {s:St} {m:List UInt8} (h:n<=s.N.length):Up n (need L s m):=by
 unfold M.need;split
 · exact Up.ok h
 · exact Up.flt
theorem Up.newName {n:Nat} {L:List Tk} {s:St} {ns:List (List UInt8)} (h:n<=s.N.length):Up n (newName L s ns):=by
 unfold M.newName;split
 · split
   · exact Up.flt
   · exact Up.ok h
 · exact Up.flt
theorem Up.inside {n:Nat} {L:List Tk} {b:Bool} {d:Nat} {s:St} {p:Nat->St->Option (Out Int)} (h:∀d,Up n (p d s)):Up n (inside L b d s p):=by
 unfold M.inside;split
 · split
   · exact Up.flt
   · exact h _
 · exact Up.flt
theorem Ix.inside {n:Nat} {L:List Tk} {b:Bool} {d:Nat} {s:St} {p:Nat->St->Option (Out Int)} (h:∀d,Ix n (p d s)):Ix n (inside L b d s p):=by
 unfold M.inside;split
 · split
   · exact Ix.flt
   · exact h _
 · exact Ix.flt
theorem Ix.two {n:Nat} {L:List Tk} {s:St} {l:Int} {p:St->Option (Out Int)} (h:Up n (p s.nx)):Ix n (two L s l p):=by
 unfold M.two;exact Ix.bind h fun s a hs=>Ix.add hs
structure Nla (r:Sp):Prop where
 typ:∀d s,Up s.N.length (r.typ d s)
 union:∀d s,Up s.N.length (r.union d s)
 unionL:∀d s l,Up s.N.length (r.unionL d s l)
 member:∀d s,Up s.N.length (r.member d s)
 objL:∀d s l,Up s.N.length (r.objL d s l)
 fob:∀d s,Up s.N.length (r.fob d s)
 list:∀p e d s a b,Up s.N.length (r.list p e d s a b)
 expr:∀d s,Ix s.N.length (r.expr d s)
 comp:∀d s,Ix s.N.length (r.comp d s)
 sum:∀d s,Ix s.N.length (r.sum d s)
 prod:∀d s,Ix s.N.length (r.prod d s)
 row:∀b d s x,Rx s.N.length x (r.row b d s x)
 oper:∀d s,Ix s.N.length (r.oper d s)
 tail:∀d s x,Rx s.N.length x (r.tail d s x)
 simple:∀d s,Ix s.N.length (r.simple d s)
 block:∀d s,Up s.N.length (r.block d s)
 blockL:∀d s a,Up s.N.length (r.blockL d s a)
 stmt:∀d s,Up s.N.length (r.stmt d s)
 any:∀d s,Up s.N.length (r.any d s)
 progL:∀d s a,Up s.N.length (r.progL d s a)
theorem Rx.low {n m:Nat} {h:Int} {x:Option (Out Int)} (hr:Rx m h x) (hn:n<=m):Rx n h x:=fun s' a e=>by
 obtain⟨h1,h2⟩:=hr _ _ e;exact⟨by omega,by omega⟩
theorem Nla.typeIf {r:Sp} (i:Nla r) {n:Nat} {L:List Tk} {d:Nat} {s:St} (h:n<=s.N.length):Up n (typeIf L r d s):=by
 unfold M.typeIf;split
 · exact(i.typ d s.nx).low h
 · exact Up.ok h
theorem Nla.part {r:Sp} (i:Nla r) {n:Nat} {L:List Tk} {d:Nat} {s:St} {ns:List (List UInt8)} {p:F7b} (h:n<=s.N.length):Up n (part L r d s ns p):=by
 cases p with
 |typ=>exact Up.bind ((i.typ d s).low h) fun s a hs=>Up.ok hs
 |expr=>exact Up.bind ((i.expr d s).up.low h) fun s a hs=>Up.ok hs
 |obj=>exact Up.bind (Up.newName h) fun s1 _ h1=>Up.bind (Up.need h1) fun s2 _ h2=>Up.bind ((i.expr d s2).up.low h2) fun s3 _ h3=>Up.bind (Ix.add h3).up fun s4 _ h4=>Up.ok h4
 |par=>exact Up.bind (Up.newName h) fun s1 _ h1=>Up.bind (i.typeIf h1) fun s2 _ h2=>Up.bind (Ix.add h2).up fun s4 _ h4=>Up.ok h4
theorem Nla.more {r:Sp} (i:Nla r) {n:Nat} {x0:Int} {d:Nat} {s:St} {t:Nd} (h:n<=s.N.length):Rx n x0 (A3 (addN s t) fun s x=>r.tail d s x):=by
 refine Ix.toRx (Ix.bindx (Ix.add h) fun s a hs ha=> ?_);exact((i.tail d s a).low hs).toIx ha
theorem Rx.bind {α:Type} {n:Nat} {x0:Int} {x:Option (Out α)} {k:St->α->Option (Out Int)} (h:Up n x) (hk:∀s a,n<=s.N.length->Rx n x0 (k s a)):Rx n x0 (A3 x k):=by
 intro s' b e;obtain⟨s1,a,e1,e2⟩:=B7 e;exact hk s1 a (h _ _ e1) _ _ e2
theorem K0c (L:List Tk) (r:Sp) (i:Nla r):Nla (step L r) where
 typ d s:=Up.inside fun d=>i.union d s
 union d s:=Up.bind (i.member d s) fun s1 a h1=>by
  split
  · exact Up.bind ((i.unionL d s1 _).low h1) fun s2 l h2=>Up.addT h2
  · exact Up.ok h1
 unionL d s acc:=by
  show Up _ (if _ then _ else _);split
  · exact Up.bind (i.member d s.nx) fun s1 a h1=>(i.unionL d s1 _).low h1
  · exact Up.ok (Nat.le_refl _)
 member d s:=by
  show Up _ (if _ then _ else _);split
  · exact i.objL d s.nx []
  split
  · exact Up.bind (i.typ d s.nx) fun s1 a h1=>Up.bind (Up.need h1) fun s2 _ h2=>Up.addT h2
  split
  · exact i.fob d s.nx
  split
  · exact Up.addT (Nat.le_refl _)
  · exact Up.flt
 objL d s fs:=by
  show Up _ (if _ then _ else _);split
  · exact Up.addT (Nat.le_refl _)
  · exact Up.bind (Up.newName (Nat.le_refl _)) fun s1 _ h1=>Up.bind (Up.need h1) fun s2 _ h2=>Up.bind ((i.typ d s2).low h2) fun s3 _ h3=>Up.bind (Up.need h3) fun s4 _ h4=>(i.objL d s4 _).low h4
 fob d s:=Up.bind (i.list _ _ d s _ _) fun s1 l h1=>by
  split
  · exact Up.bind ((i.typ d s1.nx).low h1) fun s2 _ h2=>Up.addT h2
  · split
    · exact Up.ok h1
    · exact Up.flt
 list p e d s ns acc:=by
  show Up _ (if _ then _ else _);split
  · exact Up.ok (Nat.le_refl _)
  · refine Up.bind ?_ fun s1 _ h1=>Up.bind (i.part h1) fun s2 x h2=>(i.list p e d s2 _ _).low h2;split
    · exact Up.ok (Nat.le_refl _)
    · exact Up.need (Nat.le_refl _)
 expr d s:=Ix.inside fun d=>i.comp d s
 comp d s:=Ix.bindx (i.sum d s) fun s1 a h1 ha=>by
  split
  · exact Ix.two ((i.sum d s1.nx).up.low h1)
  · exact Ix.ok h1 ha
 sum d s:=Ix.bindx (i.prod d s) fun s1 a h1 ha=>((i.row true d s1 a).low h1).toIx ha
 prod d s:=Ix.bindx (i.oper d s) fun s1 a h1 ha=>((i.row false d s1 a).low h1).toIx ha
 row b d s x:=by
  show Rx _ _ (if _ then _ else _);split
  · refine Ix.toRx (Ix.bindx (Ix.two ?_) fun s1 a h1 ha=>((i.row b d s1 a).low h1).toIx ha);cases b
    · exact(i.oper d s.nx).up
    · exact(i.prod d s.nx).up
  · exact Rx.ok (Nat.le_refl _)
 oper d s:=by
  show Ix _ (if _ then _ else _);split
  · exact Ix.bind (Up.inside fun d=>(i.oper d s.nx).up) fun s1 _ h1=>Ix.add h1
  · exact Ix.bindx (i.simple d s) fun s1 a h1 ha=>((i.tail d s1 a).low h1).toIx ha
 tail d s x:=by
  show Rx _ _ (if _ then _ else _);split
  · exact Rx.bind (i.list _ _ d s.nx _ _) fun s1 l h1=>i.more h1
  split
  · split
    · exact i.more (Nat.le_refl s.N.length)
    · exact Rx.flt
  split
  · exact Rx.bind (i.expr d s.nx).up fun s1 _ h1=>Rx.bind (Up.need h1) fun s2 _ h2=>i.more h2
  split
  · exact Rx.bind (i.typ d s.nx) fun s1 _ h1=>i.more h1
  · exact Rx.ok (Nat.le_refl _)
 simple d s:=by
  show Ix _ (if _ then _ else _);iterate 6
   split
   · exact Ix.add (Nat.le_refl s.N.length)
  split
  · exact Ix.bind (Up.need (Nat.le_refl s.N.length)) fun s1 _ h1=>Ix.bind ((i.list _ _ d s1 _ _).low h1) fun s2 _ h2=>Ix.bind (i.typeIf h2) fun s3 _ h3=>Ix.bind ((i.block d s3).low h3) fun s4 _ h4=>Ix.add h4
  split
  · exact Ix.bind (i.list _ _ d s.nx _ _) fun s1 _ h1=>Ix.add h1
  split
  · exact Ix.bind (i.list _ _ d s.nx _ _) fun s1 _ h1=>Ix.add h1
  · exact Ix.bind (Up.need (Nat.le_refl s.N.length)) fun s1 _ h1=>Ix.bindx ((i.expr d s1).low h1) fun s2 x h2 hx=>Ix.bind (Up.need h2) fun s3 _ h3=>Ix.ok h3 hx
 block d s:=Up.bind (Up.need (Nat.le_refl _)) fun s1 _ h1=>Up.bind ((i.blockL d s1 _).low h1) fun s2 _ h2=>(Ix.add h2).up
 blockL d s acc:=by
  show Up _ (if _ then _ else _);split
  · exact Up.ok (Nat.le_refl _)
  · exact Up.bind (i.stmt d s) fun s1 _ h1=>(i.blockL d s1 _).low h1
 stmt d s:=Up.inside fun d=>i.any d s
 any d s:=by
  show Up _ (if _ then _ else _);split
  · split
    · exact Up.bind (i.typeIf (Nat.le_refl s.N.length)) fun s1 _ h1=>Up.bind (Up.need h1) fun s2 _ h2=>Up.bind ((i.expr d s2).up.low h2) fun s3 _ h3=>Up.bind (Up.need h3) fun s4 _ h4=>(Ix.add h4).up
    · exact Up.flt
  split
  · exact Up.bind (i.expr d s.nx).up fun s1 _ h1=>Up.bind (Up.need h1) fun s2 _ h2=>(Ix.add h2).up
  split
  · exact Up.bind (i.expr d s.nx).up fun s1 _ h1=>Up.bind (Up.need h1) fun s2 _ h2=>(Ix.add h2).up
  split
  · refine Up.bind (Up.need (Nat.le_refl s.N.length)) fun s1 _ h1=>Up.bind ((i.expr d s1).up.low h1) fun s2 _ h2=>Up.bind (Up.need h2) fun s3 _ h3=>Up.bind ((i.block d s3).low h3) fun s4 _ h4=>Up.bind ?_ fun s5 _ h5=>(Ix.add h5).up;split
    · exact(i.block d s4.nx).low h4
    · exact Up.ok h4
  split
  · exact Up.bind (Up.need (Nat.le_refl s.N.length)) fun s1 _ h1=>Up.bind ((i.expr d s1).up.low h1) fun s2 _ h2=>Up.bind (Up.need h2) fun s3 _ h3=>Up.bind ((i.block d s3).low h3) fun s4 _ h4=>(Ix.add h4).up
  · refine Up.bindx (i.expr d s) fun s1 x h1 hx=> ?_;split
    · split
      · exact Up.flt
      · have hl:s.N.length<=(s1.N.take x.toNat).length:=by rw[List.length_take];omega
        exact Up.bind ((i.expr d ⟨s1.i+1,s1.N.take x.toNat,s1.T⟩).up.low hl) fun s2 _ h2=>Up.bind (Up.need h2) fun s3 _ h3=>(Ix.add h3).up
    · exact Up.bind (Up.need h1) fun s2 _ h2=>(Ix.add h2).up
 progL d s acc:=by
  show Up _ (if _ then _ else _);split
  · exact Up.ok (Nat.le_refl _)
  · exact Up.bind (i.stmt d s) fun s1 _ h1=>(i.progL d s1 _).low h1
theorem V9b (L:List Tk):∀f,Nla (sp' L f)
 |0=>⟨fun _ _=>Up.none,fun _ _=>Up.none,fun _ _ _=>Up.none,fun _ _=>Up.none,fun _ _ _=>Up.none,fun _ _=>Up.none,fun _ _ _ _ _ _=>Up.none,fun _ _=>Ix.none,fun _ _=>Ix.none,fun _ _=>Ix.none,fun _ _=>Ix.none,fun _ _ _ _=>Rx.none,fun _ _=>Ix.none,fun _ _ _=>Rx.none,fun _ _=>Ix.none,fun _ _=>Up.none,fun _ _ _=>Up.none,fun _ _=>Up.none,fun _ _=>Up.none,fun _ _ _=>Up.none⟩
 |f+1=>K0c L _ (V9b L f)
theorem O2c {L:List Tk} (d:Nat) (s s':St) (x:Int) (h:Ev L (fun r=>r.expr d s) (.ok s' x)):(s.N.length:Int)<=x:=by
 obtain⟨f,hf⟩:=h;exact((V9b L f).expr d s _ _ (hf f (Nat.le_refl _))).2
end Go.Proofs.YtgdnpemiiageaaaGreatDoor.M
