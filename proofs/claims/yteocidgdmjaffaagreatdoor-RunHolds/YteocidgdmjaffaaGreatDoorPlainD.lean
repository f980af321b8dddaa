/-
  A part of the proof.
-/
import Derived.Test.YteocidgdmjaffaaGreatDoorPlainA
set_option maxHeartbeats 0
set_option linter.all false
set_option maxRecDepth 100000
namespace Go.Proofs.YteocidgdmjaffaaGreatDoor
def eE(t:Tr)(a:Bool):Bool:=decide (t.k=10)||(decide (t.k=9)&&!a)
mutual
def iN:Tr->Nat
 |.nd k _ a=>if k=10 then tG a else kT a
def kT:List Tr->Nat
 |[]=>0
 |t::r=>max (iN t+1) (kT r)
def tG:List Tr->Nat
 |[]=>0
 |t::r=>max (iN t+(eE t (decide (r.length=0))).toNat) (tG r)
end
def uQ(t)(a):(one t a).length=(eV t).length+2*(eE t a).toNat:=by
 grind[one,eE]
theorem TS(a)(t)(r):(pF a (t::r)).length=(if a then 0 else 1)+(one t (decide (r.length=0))).length+(pF false r).length:=by
 grind[pF,sg,one,decide,qQ]
def hH(s:St)(t:Tr)(a:St)(x:Int):Prop:=a.N=s.N/\a.T=s.T++fQ s.T.length t/\x=((s.T.length+eL t:Nat))-1
def eH(s:St)(a:List Tr)(b:St)(l:bZ):Prop:=b.N=s.N/\b.T=s.T++M9 s.T.length a/\l=dW s.T.length a
theorem eH.nil(s):eH s [] s []:=⟨rfl,by simp[M9],rfl⟩
def eH.cons{s a d}{t}{x}{c}{l}(h:hH s t a x)(k:eH a c d l):eH s (t::c) d (x::l):=by
 have b:a.T.length=s.T.length+eL t:=by rw[h.2.1,qQ,pW]
 refine⟨k.1.trans h.1,?_,?_⟩
 .rw[k.2.1,b,h.2.1,M9,rZ]
 .rw[k.2.2,b,h.2.2,dW]
def hH.lg{s b c}{t}{x}{a}{l}(h:hH s t b x)(k:eH b a c l):eH s (t::a) c (x::l):=eH.cons h k
theorem eH.len{s b}{a}{l}(h:eH s a b l):b.T.length=s.T.length+R6 a:=by rw[h.2.1,qQ,uW]
theorem hH.len{s a}{t}{x}(h:hH s t a x):a.T.length=s.T.length+eL t:=by rw[h.2.1,qQ,pW]
theorem zK:∀(a) (b),(dW b a).length=a.length
 |[],_=>rfl
 |t::r,b=>by rw[dW,jQ,jQ,zK r]
theorem IQ(b)(k)(c)(a)(h:k≠9):fQ b (.nd k c a)=M9 b a++[iR k c (dW b a)]:=by grind[fQ]
def eH.row{s a}{b}{l}(h:eH s b a l)(k)(c)(d:k≠9)(t)(e:t=iR k c l):hH s (.nd k c b) ⟨a.i,a.N,a.T++[t]⟩ a.T.length:=by
 refine⟨h.1,?_,?_⟩
 .show a.T++[t]=_;rw[IQ _ _ _ _ d,<-h.2.2,e,h.2.1,rZ]
 .rw[h.len,eL];omega
structure YF(L:List Tk)(r:Sp):Prop where
 typ:∀d s s' x,r.typ d s=some (.ok s' x)->∃t,Wf t/\hH s t s' x/\(eV t).length+s.i<=s'.i/\iN t+1<=20-d/\aJ L s'.i [[124]]=false
 union:∀d s s' x,r.union d s=some (.ok s' x)->∃t,Wf t/\hH s t s' x/\(eV t).length+s.i<=s'.i/\iN t<=20-d/\aJ L s'.i [[124]]=false
 f7:∀d s acc s' l,r.f7 d s acc=some (.ok s' l)->∃ks l',l=acc++l'/\(∀x∈ks,Wf x)/\eH s ks s' l'/\(pF false ks).length+s.i<=s'.i/\tG ks<=20-d/\aJ L s'.i [[124]]=false/\(aJ L s.i [[124]]=true↔ks≠[])
 ft:∀d s s' x,r.ft d s=some (.ok s' x)->∃t,Wf t/\hH s t s' x/\(one t (!(aJ L s'.i [[124]]))).length+s.i<=s'.i/\iN t+(eE t (!(aJ L s'.i [[124]]))).toNat<=20-d
 jc:∀d s fs s' x,(fs.map (·.1)).Nodup->r.jc d s fs=some (.ok s' x)->∃ns ks,ns.length=ks.length/\(fs.map (·.1)++ns).Nodup/\(∀n∈ns,Q8 n)/\(∀x∈ks,Wf x)/\s'.N=s.N/\
  s'.T=s.T++M9 s.T.length ks++[⟨7,fs++ns.zip (dW s.T.length ks),[],0⟩]/\x=((s.T.length+R6 ks:Nat):Int)/\(oK ns ks).length+1+s.i<=s'.i/\kT ks<=20-d
 j9:∀d s s' x,r.j9 d s=some (.ok s' x)->∃t,Wf t/\hH s t s' x/\(one t (!(aJ L s'.i [[124]]))).length+s.i<=s'.i+1/\iN t+(eE t (!(aJ L s'.i [[124]]))).toNat<=20-d
 M:∀d s nm acc s' l,r.M .typ [41] d s nm acc=some (.ok s' l)->∃ks l',l=acc++l'/\(∀x∈ks,Wf x)/\eH s ks s' l'/\(mU (decide (acc.length=0)) ks).length+1+s.i<=s'.i/\kT ks<=20-d
def eY{L}{s c}{b}{a}(h:aN L s b=some (.ok c a)):(tk L s.i).x=1/\a=(tk L s.i).text/\a ∉ b/\c=s.nx:=by
 unfold aN at h;grind[bC,has]
def BE{L}{b}{d}{s a}{x}{p}(h:aQ L b d s p=some (.ok a x)):b=true/\d<20/\p (d+1) s=some (.ok a x):=by
 grind[aQ,bC]
def N8{d}{s c}{a b:d}(h:some (Out.ok s a)=some (.ok c b)):s=c/\a=b:=by
 grind
section
variable{L:List Tk}{r:Sp}
def Ie(i:YF L r):∀d s a x,(step L r).typ d s=some (.ok a x)->∃t,Wf t/\hH s t a x/\(eV t).length+s.i<=a.i/\iN t+1<=20-d/\aJ L a.i [[124]]=false:=by
 intro d s a x h;obtain⟨_,j,h⟩:=BE h;obtain⟨t,b,c,e,f,g⟩:=i.union _ _ _ _ h;grind
def Mk(i:YF L r):∀d s b x,(step L r).union d s=some (.ok b x)->∃t,Wf t/\hH s t b x/\(eV t).length+s.i<=b.i/\iN t<=20-d/\aJ L b.i [[124]]=false:=by
 intro d s b x h;obtain⟨q,y,m,f⟩:=B7 h;obtain⟨t,w1,u,g,c⟩:=i.ft _ _ _ _ m;have A:=uQ t (!(aJ L q.i [[124]]));split at f
 .rename_i p;obtain⟨H,l,n,o⟩:=B7 f;obtain⟨rfl,rfl⟩:=wM o;obtain⟨a,D,rfl,w2,v,F,w,j,G⟩:=i.f7 _ _ _ _ _ n;have z:1<=a.length:=by
   cases a with
   |nil=>grind
   |cons _ _=>simp
  have k:decide (a.length=0)=false:=decide_eq_false (by omega);rw[p]at g c;simp at g c;refine⟨.nd 10 [] (t::a),Wf.uni _ (by grind) (λx B=>?_),(u.lg v).row 10 [] (by decide) _ rfl,?_,?_,j⟩
  .grind
  .have e:eV (.nd 10 [] (t::a))=pF true (t::a):=by simp[eV]
   grind[TS]
  .rw[iN,wY rfl,tG,k];omega
 grind
def Wz(i:YF L r):∀d s c b l,(step L r).f7 d s c=some (.ok b l)->∃a e,l=c++e/\(∀x∈a,Wf x)/\eH s a b e/\(pF false a).length+s.i<=b.i/\tG a<=20-d/\aJ L b.i [[124]]=false/\(aJ L s.i [[124]]=true↔a≠[]):=by
 intro d s c b l h;have h:(if aJ L s.i [[124]] then A8 (r.ft d s.nx) λs x=>r.f7 d s (c++[x]) else some (.ok s c))=some (.ok b l):=h;split at h
 .rename_i k;obtain⟨g,y,o,p⟩:=B7 h;obtain⟨t,w1,j,f,m⟩:=i.ft _ _ _ _ o;obtain⟨a,e,rfl,w2,v,B,w,n,D⟩:=i.f7 _ _ _ _ _ p;have j:=j;have q:(!(aJ L g.i [[124]]))=decide (a.length=0):=by
   cases z:aJ L g.i [[124]]
   .grind
   .grind
  rw[q]at f m;have f:(one t (decide (a.length=0))).length+(s.i+1)<=g.i:=f;refine⟨t::a,y::e,by simp,λx A=>?_,j.lg v,?_,?_,n,by grind⟩
  .grind
  .grind[TS]
  grind[tG]
 .rename_i k;obtain⟨rfl,rfl⟩:=N8 h;have u:aJ L s.i [[124]]=false:=by simpa using k
  exact⟨[],[],by simp,by simp,eH.nil s,by simp[pF],by simp[tG],u,by grind⟩
def Ww(i:YF L r):∀d s a x,(step L r).ft d s=some (.ok a x)->∃t,Wf t/\hH s t a x/\(one t (!(aJ L a.i [[124]]))).length+s.i<=a.i/\iN t+(eE t (!(aJ L a.i [[124]]))).toNat<=20-d:=by
 intro d s a x h;have h:(if aJ L s.i [[123]] then r.jc d s.nx []
  else if aJ L s.i [[91]] then A8 (r.typ d s.nx) λs x=>A8 (aB L s [93]) λs _=>bK s ⟨8,[],[],x⟩
  else if aJ L s.i [[40]] then r.j9 d s.nx
  else if (tk L s.i).x=2/\G9 (tk L s.i).text≠0 then bK s.nx ⟨G9 (tk L s.i).text,[],[],0⟩ else bC L s.i 1)=some (.ok a x):=h;split at h
 .obtain⟨c,b,D,S,F,H,z,A,M,p,R⟩:=i.jc _ _ _ _ _ (by simp) h;have p:(oK c b).length+1+(s.i+1)<=a.i:=p;have q:=uQ (.nd 7 c b) (!(aJ L a.i [[124]]));have o:eE (.nd 7 c b) (!(aJ L a.i [[124]]))=false:=by simp[eE,Tr.k]
  have u:(eV (.nd 7 c b)).length=(oK c b).length+2:=by simp[eV]
  refine⟨.nd 7 c b,Wf.obj c b D (by grind) F H,⟨z,?_,?_⟩,?_,?_⟩
  .rw[A,IQ _ _ _ _ (by decide),rZ];rfl
  .rw[M,eL];show ((s.T.length+R6 b:Nat):Int)=_;omega
  .grind
  simp_all[iN,zY]
 split at h
 .obtain⟨e,y,j,l⟩:=B7 h;obtain⟨T,_,v,w⟩:=B7 l;obtain⟨_,rfl⟩:=J0 v;obtain⟨rfl,rfl⟩:=wM w;obtain⟨t,w1,g,f,n,P⟩:=i.typ _ _ _ _ j;have g:=g;have f:(eV t).length+(s.i+1)<=e.i:=f;have q:=uQ (.nd 8 [] [t]) (!(aJ L (e.i+1) [[124]]));have o:eE (.nd 8 [] [t]) (!(aJ L (e.i+1) [[124]]))=false:=by simp[eE,Tr.k]
  have u:(eV (.nd 8 [] [t])).length=(eV t).length+2:=by simp[eV,VB]
  have N:=g.lg (eH.nil e);refine⟨.nd 8 [] [t],Wf.arr t w1,N.row 8 [] (by decide) _ rfl,?_,?_⟩
  .show (one (.nd 8 [] [t]) (!(aJ L (e.i+1) [[124]]))).length+s.i<=e.i+1;grind
  .show iN (.nd 8 [] [t])+(eE (.nd 8 [] [t]) (!(aJ L (e.i+1) [[124]]))).toNat<=_;simp_all[iN,zY,kT,Bool.toNat_false]
 split at h
 .obtain⟨t,w1,g,f,n⟩:=i.j9 _ _ _ _ h;have f:(one t (!(aJ L a.i [[124]]))).length+(s.i+1)<=a.i+1:=f;exact⟨t,w1,g,by omega,n⟩
 split at h
 .rename_i B;obtain⟨rfl,rfl⟩:=wM h;have m:=Jd _ B.2;generalize G9 (tk L s.i).text=k at m;have q:=uQ (.nd k [] []) (!(aJ L (s.i+1) [[124]]));have o:eE (.nd k [] []) (!(aJ L (s.i+1) [[124]]))=false:=by
   have j:¬k=10:=by omega
   have l:¬k=9:=by omega
   simp[eE,Tr.k,j,l]
  have u:(eV (.nd k [] [])).length=1:=by
   rw[eV,zY (by omega),zY (by omega),zY (by omega),zY (by omega)];rfl
  have G:(⟨k,[],[],0⟩:Ty)=iR k [] []:=by rw[iR,zY (by omega),zY (by omega),zY (by omega)]
  refine⟨.nd k [] [],Wf.plain k m.1 m.2,(eH.nil s).row k [] (by omega) _ G,?_,?_⟩
  .show (one (.nd k [] []) (!(aJ L (s.i+1) [[124]]))).length+s.i<=s.i+1;grind
  .show iN (.nd k [] [])+(eE (.nd k [] []) (!(aJ L (s.i+1) [[124]]))).toNat<=_;grind[iN,kT]
 grind[bC]
def Zc(D:nY L)(i:YF L r):∀d s e g x,(e.map (·.1)).Nodup->(step L r).jc d s e=some (.ok g x)->∃f c,f.length=c.length/\(e.map (·.1)++f).Nodup/\(∀n∈f,Q8 n)/\(∀x∈c,Wf x)/\g.N=s.N/\
 g.T=s.T++M9 s.T.length c++[⟨7,e++f.zip (dW s.T.length c),[],0⟩]/\x=((s.T.length+R6 c:Nat))/\(oK f c).length+1+s.i<=g.i/\kT c<=20-d:=by
 intro d s e g x G h;have h:(if aJ L s.i [[125]] then bK s.nx ⟨7,e,[],0⟩
  else A8 (aN L s (e.map (·.1))) λs l=>A8 (aB L s [58]) λs _=>A8 (r.typ d s) λs x=>A8 (aB L s [59]) λs _=>r.jc d s (e++[(l,x)]))=some (.ok g x):=h;split at h
 .obtain⟨rfl,rfl⟩:=wM h;refine⟨[],[],rfl,by grind,by simp,by simp,rfl,by simp[M9,St.nx],by rfl,?_,by simp[kT]⟩;show (oK [] []).length+1+s.i<=s.i+1;grind[oK]
 .obtain⟨s1,l,w,h⟩:=B7 h;obtain⟨F,M,Z,rfl⟩:=eY w;obtain⟨s2,_,z,h⟩:=B7 h;obtain⟨_,rfl⟩:=J0 z;obtain⟨j,y,A,h⟩:=B7 h;obtain⟨s4,_,B,h⟩:=B7 h;obtain⟨_,rfl⟩:=J0 B;obtain⟨t,w1,k,v,N,P⟩:=i.typ _ _ _ _ A;have k:hH s t j y:=k;have v:(eV t).length+(s.i+1+1)<=j.i:=v;have H:((e++[(l,y)]).map (·.1)).Nodup:=by
   rw[iY,List.nodup_append];exact⟨G,by simp,λa R b S=>by grind⟩
  obtain⟨f,c,V,nd,W,hw,m,o,p,q,T⟩:=i.jc _ _ _ _ _ H h;have q:(oK f c).length+1+(j.i+1)<=g.i:=q;have m:=m;have o:g.T=j.T++M9 j.T.length c++[⟨7,e++[(l,y)]++f.zip (dW j.T.length c),[],0⟩]:=o;have p:x=((j.T.length+R6 c:Nat):Int):=p;refine⟨l::f,t::c,by grind,by grind,λn u=>?_,λa2 hz=>?_,m.trans k.1,?_,?_,?_,?_⟩
  .obtain rfl|u:=jW.1 u
   .rw[M];exact D _ F
   grind
  .grind
  .rw[o,k.len,k.2.1,k.2.2,M9,dW];simp
  .rw[p,k.len,R6,Nat.add_assoc]
  .grind[oK,jQ,qQ,List.tail_cons]
  grind[kT]
def Ia(i:YF L r):∀d s c x,(step L r).j9 d s=some (.ok c x)->∃t,Wf t/\hH s t c x/\(one t (!(aJ L c.i [[124]]))).length+s.i<=c.i+1/\iN t+(eE t (!(aJ L c.i [[124]]))).toNat<=20-d:=by
 intro d s c x h;obtain⟨f,l,q,h⟩:=B7 h;obtain⟨b,j,n,w1,a,k,p⟩:=i.M _ _ _ _ _ _ q;rw[bY]at n;rw[n]at h;split at h
 .obtain⟨m,y,v,h⟩:=B7 h;obtain⟨rfl,rfl⟩:=wM h;obtain⟨t,w2,g,o,A,B⟩:=i.typ _ _ _ _ v;have g:hH f t m y:=g;have o:(eV t).length+(f.i+1)<=m.i:=o;have w:eE (.nd 9 [] (t::b)) true=false:=by simp[eE,Tr.k]
  have z:=uQ (.nd 9 [] (t::b)) true;have F:(eV (.nd 9 [] (t::b))).length=(mU true b).length+(eV t).length+3:=by simp[eV,UZ];omega
  have k:=k;refine⟨.nd 9 [] (t::b),Wf.fn t b w2 w1,⟨g.1.trans a.1,?_,?_⟩,?_,?_⟩
  .show m.T++[_]=_;have e:fQ s.T.length (.nd 9 [] (t::b))=lX s.T.length (t::b):=by rw[fQ,wY rfl]
   rw[e,lX,g.2.1,g.2.2,a.len,a.2.1,a.2.2];simp
  .rw[g.len,a.len,eL,R6];omega
  .grind
  grind[eE,aJ,iN,kT]
 .match b,j,a,h with
  |[],j,a,h=>rw[a.2.2]at h;grind[dW,bC]
  |[t],j,a,h=>
   rw[a.2.2,dW,dW]at h;obtain⟨rfl,rfl⟩:=N8 h;have z:=uQ t (!(aJ L f.i [[124]]));have w:(eE t (!(aJ L f.i [[124]]))).toNat<=1:=by cases eE t (!(aJ L f.i [[124]]))<;>simp
   have k:(mU true [t]).length+1+s.i<=f.i:=k;have D:(mU true [t]).length=(eV t).length:=by simp[mU]
   rw[kT]at p;refine⟨t,w1 t (by simp),⟨a.1,?_,rfl⟩,by omega,by omega⟩;rw[a.2.1,M9,M9,lY]
  |t::u::b,j,a,h=>rw[a.2.2]at h;grind[dW,bC]
def Za(i:YF L r):∀d s k e g l,(step L r).M .typ [41] d s k e=some (.ok g l)->∃f j,l=e++j/\(∀x∈f,Wf x)/\eH s f g j/\(mU (decide (e.length=0)) f).length+1+s.i<=g.i/\kT f<=20-d:=by
 intro d s k e g l h;have h:(if aJ L s.i [[41]] then some (.ok s.nx e)
  else A8 (if e.length=0 then some (.ok s ()) else aB L s [44]) λs _=>A8 (part L r d s k .typ) λs x=>r.M .typ [41] d s x.2 (e++[x.1]))=some (.ok g l):=h;split at h
 .obtain⟨rfl,rfl⟩:=N8 h;refine⟨[],[],by simp,by simp,eH.nil s,?_,by simp[kT]⟩;show (mU _ []).length+1+s.i<=s.i+1;grind[mU]
 .obtain⟨m,_,p,h⟩:=B7 h;have o:m.N=s.N/\m.T=s.T/\m.i=s.i+(if e.length=0 then 0 else 1):=by
   split at p
   .grind
   .rename_i q;obtain⟨_,rfl⟩:=J0 p;exact⟨rfl,rfl,by rw[zY q];rfl⟩
  obtain⟨N,x,u,h⟩:=B7 h;obtain⟨B,y,v,w⟩:=B7 u;obtain⟨rfl,rfl⟩:=N8 w;obtain⟨t,w1,n,M,F,_⟩:=i.typ _ _ _ _ v;have n:hH s t B y:=by
   obtain⟨a,b,c⟩:=n;rw[o.1]at a;rw[o.2.1]at b c;exact⟨a,b,c⟩
  obtain⟨f,j,rfl,w2,D,A,G⟩:=i.M _ _ _ _ _ _ h;refine⟨t::f,y::j,by simp,λx H=>?_,n.lg D,?_,?_⟩
  .grind
  .have z:decide ((e++[y]).length=0)=false:=by simp
   rw[z]at A;simp only[mU,qQ];grind
  grind[kT]
end
def qY{L}(a:nY L):∀f,YF L (fV L f)
 |0=>by constructor<;>(intros;contradiction)
 |f+1=>⟨Ie (qY a f),Mk (qY a f),Wz (qY a f),Ww (qY a f),Zc a (qY a f),Ia (qY a f),Za (qY a f)⟩
structure Pt where
 b:Nat
 k:Int
 ts:List TT
 d:Nat
def rQ:Pt:=⟨5,0,[],0⟩
def p0(a:List Pt):Pt:=a.getD 0 rQ
def p1(a:List Pt):Pt:=a.getD 1 rQ
def p2(a:List Pt):Pt:=a.getD 2 rQ
def wt(a:Nat)(c:Pt):List TT:=if a<=c.b then c.ts else sg [40]::(c.ts++[sg [41]])
def wd(a:Nat)(c:Pt):Nat:=if a<=c.b then c.d else c.d+1
def mE(c:Pt):List TT:=if c.k=-1 then [] else sg [58]::c.ts
def X0:Bool->List Pt->List TT
 |_,[]=>[]
 |a,c::r=>(if a then [] else [sg [44]])++c.ts++X0 false r
def lW:List Pt->List TT
 |[]=>[]
 |c::r=>c.ts++lW r
def mx(a:Nat):List Pt->Nat
 |[]=>0
 |c::r=>max (c.d+a) (mx a r)
def MG(a:Y):TT:=if a=[116,121,112,101,111,102] then (2,a) else sg a
def lv(a:Y):Nat:=if iE 12 a=1 then 2 else iE 12 a
def ZX(k:Int)(b:Y)(n:Int)(a:List Pt):List TT:=
 if k=1 then [(3,Lib.itoa n)]
 else if k=2 then [(4,b)]
 else if k=3 then [(2,if n=1 then [116,114,117,101] else [102,97,108,115,101])]
 else if k=4 then [(2,[110,117,108,108])]
 else if k=5 then [(1,b)]
 else if k=6 then (2,[102,110])::sg [40]::(X0 true a.dropLast.dropLast++sg [41]::(mE (a.dropLast.getLastD rQ)++(a.getLastD rQ).ts))
 else if k=7 then wt 5 (p0 a)++sg [40]::(X0 true a.tail++[sg [41]])
 else if k=8 then wt 5 (p0 a)++[sg [46],(1,b)]
 else if k=9 then wt 5 (p0 a)++sg [91]::((p1 a).ts++[sg [93]])
 else if k=10 then sg [123]::(X0 true a++[sg [125]])
 else if k=11 then sg [91]::(X0 true a++[sg [93]])
 else if k=12 then wt (lv b) (p0 a)++sg b::wt (iE 12 b+1) (p1 a)
 else if k=13 then MG b::wt 4 (p0 a)
 else if k=14 then wt 5 (p0 a)++(2,[97,115])::(p1 a).ts
 else if k=15 then (1,b)::sg [58]::(p0 a).ts
 else if k=16 then (1,b)::mE (p0 a)
 else if k=17 then (2,[108,101,116])::(1,b)::(mE (p0 a)++sg [61]::((p1 a).ts++[sg [59]]))
 else if k=18 then (1,b)::sg [61]::((p0 a).ts++[sg [59]])
 else if k=19 then wt 5 (p0 a)++sg [46]::(1,b)::sg [61]::((p1 a).ts++[sg [59]])
 else if k=20 then wt 5 (p0 a)++sg [91]::((p1 a).ts++sg [93]::sg [61]::((p2 a).ts++[sg [59]]))
 else if k=21 then (2,[112,114,105,110,116])::((p0 a).ts++[sg [59]])
 else if k=22 then (2,[105,102])::sg [40]::((p0 a).ts++sg [41]::((p1 a).ts++(if (p2 a).k=-1 then [] else (2,[101,108,115,101])::(p2 a).ts)))
 else if k=23 then (2,[119,104,105,108,101])::sg [40]::((p0 a).ts++sg [41]::(p1 a).ts)
 else if k=24 then (2,[114,101,116,117,114,110])::((p0 a).ts++[sg [59]])
 else if k=25 then (p0 a).ts++[sg [59]]
 else sg [123]::(lW a++[sg [125]])
def dK(k:Int)(b:Y)(a:List Pt):Nat:=
 if k=6\/k=10\/k=16 then mx 0 a
 else if k=7 then max (wd 5 (p0 a)) (mx 1 a.tail)
 else if k=8 then wd 5 (p0 a)
 else if k=9 then max (wd 5 (p0 a)) ((p1 a).d+1)
 else if k=12 then max (wd (lv b) (p0 a)) (wd (iE 12 b+1) (p1 a))
 else if k=13 then wd 4 (p0 a)+1
 else if k=14 then max (wd 5 (p0 a)) (p1 a).d
 else if k=17 then max (p0 a).d ((p1 a).d+1)
 else if k=19 then max (wd 5 (p0 a)+1) ((p1 a).d+1)
 else if k=20 then max (wd 5 (p0 a)+1) (max ((p1 a).d+2) ((p2 a).d+1))
 else if k=22 then max ((p0 a).d+1) (max (p1 a).d (p2 a).d)
 else if k=23 then max ((p0 a).d+1) (p1 a).d
 else mx 1 a
mutual
def me:K->List TT×Nat
 |.ty none=>([],0)
 |.ty (some t)=>(eV t,iN t+1)
 |.nd k b n a=>(ZX k b n (dJ a),dK k b (dJ a))
def dJ:List K->List Pt
 |[]=>[]
 |p::r=>⟨qE p,p.k,(me p).1,(me p).2⟩::dJ r
end
def pt(t:K):Pt:=⟨qE t,t.k,(me t).1,(me t).2⟩
theorem WJ:∀a,dJ a=a.map pt
 |[]=>rfl
 |p::r=>by rw[dJ,WJ r];rfl
theorem Y7(p)(r):dJ (p::r)=pt p::dJ r:=rfl
def K.tx:K->Y
 |.nd _ a _ _=>a
 |.ty _=>[]
def own(k:Int)(a:Y)(n:Int)(b:List K):Prop:=
 if k=1 then a=[]/\0<=n/\n<=999999999
 else if k=2 then (a.length<=30/\∀c∈a,gH c.toNat=true)/\n=0
 else if k=3 then a=[]/\(n=0\/n=1)
 else if k=5\/k=8\/k=15\/k=16\/k=17\/k=18\/k=19 then Q8 a/\n=0
 else if k=12 then a∈[[61,61],[60],[43],[45],[42]]/\n=0
 else if k=13 then a∈[[33],[45],[116,121,112,101,111,102]]/\n=0
 else a=[]/\n=0/\(k=6->(b.dropLast.dropLast.map K.tx).Nodup)/\(k=10->(b.map K.tx).Nodup)
mutual
def Wn:K->Prop
 |.ty none=>True
 |.ty (some t)=>Wf t
 |.nd k b n a=>bJ k (a.map K.k)/\own k b n a/\dR a
def dR:List K->Prop
 |[]=>True
 |p::r=>Wn p/\dR r
end
theorem S4:∀a,dR a↔∀p∈a,Wn p
 |[]=>by simp[dR]
 |p::r=>by simp[dR,S4 r]
/-!### What has come W9 what was there -/
def eJ(s:St)(t:K)(a:St)(x:Int):Prop:=a.N.map C.fl=s.N.map C.fl++gU s.N.length s.T.length t/\a.T=s.T++fP s.T.length t/\x=cR s.N.length s.T.length t
def cJ(s:St)(a:List K)(b:St)(l:bZ):Prop:=b.N.map C.fl=s.N.map C.fl++R9 s.N.length s.T.length a/\b.T=s.T++W4 s.T.length a/\l=aZ s.N.length s.T.length a
theorem eJ.fh{s a}{t}{x}(h:eJ s t a x):a.N.length=s.N.length+nN t:=by
 have:=congrArg List.length h.1;grind[P8]
theorem eJ.jr{s a}{t}{x}(h:eJ s t a x):a.T.length=s.T.length+nT t:=by
 have:=congrArg List.length h.2.1;grind[sT]
theorem cJ.fh{s b}{a}{l}(h:cJ s a b l):b.N.length=s.N.length+aA a:=by
 have:=congrArg List.length h.1;grind[Z3]
theorem cJ.jr{s b}{a}{l}(h:cJ s a b l):b.T.length=s.T.length+bV a:=by
 have:=congrArg List.length h.2.1;grind[AH]
theorem cJ.nil(s):cJ s [] s []:=⟨by simp[R9],by simp[W4],rfl⟩
def eJ.cons{s b c}{t}{x}{a}{l}(h:eJ s t b x)(k:cJ b a c l):cJ s (t::a) c (x::l):=by
 refine⟨?_,?_,?_⟩
 .rw[k.1,h.fh,h.jr,h.1,R9,rZ]
 .rw[k.2.1,h.jr,h.2.1,W4,rZ]
 .rw[k.2.2,h.fh,h.jr,h.2.2,aZ]
theorem DR:∀(c d) (b a),R9 b a (c++d)=R9 b a c++R9 (b+aA c) (a+bV c) d
 |[],d,b,a=>by rfl
 |p::r,d,b,a=>by rw[kZ,R9,R9,DR r,aA,bV,rZ,Nat.add_assoc,Nat.add_assoc]
theorem QQ:∀(c b) (a),W4 a (c++b)=W4 a c++W4 (a+bV c) b
 |[],b,a=>by rfl
 |p::r,b,a=>by rw[kZ,W4,W4,QQ r,bV,rZ,Nat.add_assoc]
theorem rL:∀(c d) (b a),aZ b a (c++d)=aZ b a c++aZ (b+aA c) (a+bV c) d
 |[],d,b,a=>by rfl
 |p::r,d,b,a=>by rw[kZ,aZ,aZ,rL r,aA,bV,kZ,Nat.add_assoc,Nat.add_assoc]
def cJ.app{s d e}{b c}{l a}(h:cJ s b d l)(k:cJ d c e a):cJ s (b++c) e (l++a):=by
 refine⟨?_,?_,?_⟩
 .rw[k.1,h.fh,h.jr,h.1,DR,rZ]
 .rw[k.2.1,h.jr,h.2.1,QQ,rZ]
 .rw[k.2.2,h.fh,h.jr,h.2.2,rL]
theorem eJ.l{s a}{t}{x}(h:eJ s t a x):cJ s [t] a [x]:=h.cons (cJ.nil a)
def cJ.node{s a}{b}{l}(h:cJ s b a l)(i)(k)(c)(m)(n)(d:n.fl=bP k c m l):eJ s (.nd k c m b) ⟨i,a.N++[n],a.T⟩ a.N.length:=by
 refine⟨?_,?_,?_⟩
 .show (a.N++[n]).map C.fl=_;rw[iY,h.1,gU,<-h.2.2,xZ,List.map_nil,d,rZ]
 .show a.T=_;rw[h.2.1,fP]
 .rw[h.fh,cR,nN];omega
theorem eJ.none(s):eJ s (.ty none) s (-1):=⟨by simp[gU],by simp[fP],rfl⟩
theorem hH.n{s a}{t}{x}(h:hH s t a x):eJ s (.ty (some t)) a x:=⟨by simp[gU,h.1],by rw[h.2.1,fP],h.2.2⟩
def H7{s a}{n}{x}(h:aD s n=some (.ok a x)):a=⟨s.i,s.N++[n],s.T⟩/\x=s.N.length:=by
 grind[aD,zQ,Out.ok.injEq]
def dl2{c:Type}(l)(a b:c):(l++[a,b]).dropLast=l++[a]:=by
 simp
theorem zD{c:Type}(l)(a b:c):(l++[a,b]).dropLast.dropLast=l:=by simp
theorem MR{c:Type}(l)(a b x:c):(l++[a,b]).dropLast.getLastD x=a:=by simp
theorem MQ{c:Type}(l)(a b x:c):(l++[a,b]).getLastD x=b:=by simp
def CG(a b)(c)(h:a<=b):(wt a c).length<=(wt b c).length:=by
 grind[wt]
def CN(a)(c):c.d<=wd a c:=by
 grind[wd]
def CF(a b)(c)(h:a<=b):wd a c<=wd b c:=by
 grind[wd]
theorem nD(a)(c)(h:a<=c.b):wt a c=c.ts:=by grind[wt]
theorem nC(a)(c)(h:a<=c.b):wd a c=c.d:=by grind[wd]
def Yh(a)(c):(wt a c).length<=c.ts.length+2:=by
 grind[wt]
def Xw(a)(c):wd a c<=c.d+1:=by
 grind[wd]
theorem Am(a)(n):me (.nd 5 a n [])=([(1,a)],0):=rfl
theorem NA(a):∀c b,mx a (c++b)=max (mx a c) (mx a b)
 |[],b=>by rfl
 |x::c,b=>by rw[kZ,mx,NA a c b,mx];omega
theorem MP(d)(n)(c)(a b):me (.nd 6 d n (c++[a,b]))=((2,[102,110])::sg [40]::(X0 true (dJ c)++sg [41]::(mE (pt a)++(me b).1)),max (mx 0 (dJ c)) (max (me a).2 (me b).2)):=by
 have e:dJ (c++[a,b])=dJ c++[pt a,pt b]:=by simp[WJ]
 rw[me,e];show ((2,[102,110])::sg [40]::(X0 true (dJ c++[pt a,pt b]).dropLast.dropLast++sg [41]::(mE ((dJ c++[pt a,pt b]).dropLast.getLastD rQ)++((dJ c++[pt a,pt b]).getLastD rQ).ts)),mx 0 (dJ c++[pt a,pt b]))=_;grind[zD,MR,MQ,NA,mx,pt]
theorem Ak(c)(n)(a)(b):me (.nd 7 c n (a::b))=(wt 5 (pt a)++sg [40]::(X0 true (dJ b)++[sg [41]]),max (wd 5 (pt a)) (mx 1 (dJ b))):=rfl
theorem MO(b)(n)(a):me (.nd 8 b n [a])=(wt 5 (pt a)++[sg [46],(1,b)],wd 5 (pt a)):=rfl
theorem MN(c)(n)(a b):me (.nd 9 c n [a,b])=(wt 5 (pt a)++sg [91]::((me b).1++[sg [93]]),max (wd 5 (pt a)) ((me b).2+1)):=rfl
theorem TW(b)(n)(a):me (.nd 10 b n a)=(sg [123]::(X0 true (dJ a)++[sg [125]]),mx 0 (dJ a)):=rfl
theorem TX(b)(n)(a):me (.nd 11 b n a)=(sg [91]::(X0 true (dJ a)++[sg [93]]),mx 1 (dJ a)):=rfl
theorem TZ(c)(n)(a b):me (.nd 12 c n [a,b])=(wt (lv c) (pt a)++sg c::wt (iE 12 c+1) (pt b),max (wd (lv c) (pt a)) (wd (iE 12 c+1) (pt b))):=rfl
theorem UA(b)(n)(a):me (.nd 13 b n [a])=(MG b::wt 4 (pt a),wd 4 (pt a)+1):=rfl
theorem DJ(c)(n)(a b):me (.nd 14 c n [a,b])=(wt 5 (pt a)++(2,[97,115])::(me b).1,max (wd 5 (pt a)) (me b).2):=rfl
theorem UB(b)(n)(a):me (.nd 15 b n [a])=((1,b)::sg [58]::(me a).1,(me a).2+1):=by rfl
theorem UC(b)(n)(a):me (.nd 16 b n [a])=((1,b)::mE (pt a),(me a).2):=by rw[me];show (_,max (me a).2 0)=_;simp;rfl
theorem UD(c)(n)(a b):me (.nd 17 c n [a,b])=((2,[108,101,116])::(1,c)::(mE (pt a)++sg [61]::((me b).1++[sg [59]])),max (me a).2 ((me b).2+1)):=rfl
theorem UE(b)(n)(a):me (.nd 18 b n [a])=((1,b)::sg [61]::((me a).1++[sg [59]]),(me a).2+1):=by rfl
theorem UG(c)(n)(a b):me (.nd 19 c n [a,b])=(wt 5 (pt a)++sg [46]::(1,c)::sg [61]::((me b).1++[sg [59]]),max (wd 5 (pt a)+1) ((me b).2+1)):=rfl
theorem UJ(d)(n)(a b c):me (.nd 20 d n [a,b,c])=(wt 5 (pt a)++sg [91]::((me b).1++sg [93]::sg [61]::((me c).1++[sg [59]])),max (wd 5 (pt a)+1) (max ((me b).2+2) ((me c).2+1))):=rfl
theorem UL(b)(n)(a):me (.nd 21 b n [a])=((2,[112,114,105,110,116])::((me a).1++[sg [59]]),(me a).2+1):=by rfl
theorem UM(d)(n)(a b c):me (.nd 22 d n [a,b,c])=((2,[105,102])::sg [40]::((me a).1++sg [41]::((me b).1++(if c.k=-1 then [] else (2,[101,108,115,101])::(me c).1))),max ((me a).2+1) (max (me b).2 (me c).2)):=rfl
theorem UN(c)(n)(a b):me (.nd 23 c n [a,b])=((2,[119,104,105,108,101])::sg [40]::((me a).1++sg [41]::(me b).1),max ((me a).2+1) (me b).2):=rfl
theorem UO(b)(n)(a):me (.nd 24 b n [a])=((2,[114,101,116,117,114,110])::((me a).1++[sg [59]]),(me a).2+1):=by rfl
theorem UP(b)(n)(a):me (.nd 25 b n [a])=((me a).1++[sg [59]],(me a).2+1):=by rfl
theorem UQ(b)(n)(a):me (.nd 26 b n a)=(sg [123]::(lW (dJ a)++[sg [125]]),mx 1 (dJ a)):=rfl
theorem w1{n}(h:0<=n/\n<=999999999):Wn (.nd 1 [] n []):=by grind[Wn,dR,bJ,own]
theorem w2{a}(h:a.length<=30/\∀c∈a,gH c.toNat=true):Wn (.nd 2 a 0 []):=by grind[Wn,dR,bJ,own]
def w3{n}(h:n=0\/n=1):Wn (.nd 3 [] n []):=by grind[Wn,dR,bJ,own]
theorem w4:Wn (.nd 4 [] 0 []):=by grind[Wn,dR,bJ,own]
theorem w5{a}(h:Q8 a):Wn (.nd 5 a 0 []):=by grind[Wn,dR,bJ,own]
def w6{ps}{a b}(h:∀p∈ps,Wn p/\p.k=16)(e:(ps.map K.tx).Nodup)(c:Wn a)(f:iD a.k)(d:Wn b)(g:b.k=26):Wn (.nd 6 [] 0 (ps++[a,b])):=by
 rw[Wn];refine⟨?_,?_,?_⟩
 .grind[bJ]
 .grind[K.tx,zD,own]
 grind[S4]
def w7{a}{b}(c:Wn a)(d:aO a.k)(h:∀p∈b,Wn p/\aO p.k):Wn (.nd 7 [] 0 (a::b)):=by
 rw[Wn];refine⟨?_,by simp[own],?_⟩
 .grind[bJ]
 grind[S4]
def w8{b}{a}(h:Q8 b)(c:Wn a)(d:aO a.k):Wn (.nd 8 b 0 [a]):=by grind[Wn,dR,bJ,own]
def w9{a b}(c:Wn a)(e:aO a.k)(d:Wn b)(f:aO b.k):Wn (.nd 9 [] 0 [a,b]):=by simp[Wn,dR,bJ,own];grind
def ZV{a}(h:∀p∈a,Wn p/\p.k=15)(c:(a.map K.tx).Nodup):Wn (.nd 10 [] 0 a):=by
 rw[Wn];refine⟨?_,by grind[own],(S4 a).2 λp b=>(h p b).1⟩;grind[bJ]
def ZU{a}(h:∀p∈a,Wn p/\aO p.k):Wn (.nd 11 [] 0 a):=by
 rw[Wn];refine⟨?_,by simp[own],(S4 a).2 λp b=>(h p b).1⟩;grind[bJ]
theorem CP{c:Y}{a b}(h:c∈[[61,61],[60],[43],[45],[42]])(d:Wn a)(f:aO a.k)(e:Wn b)(g:aO b.k):Wn (.nd 12 c 0 [a,b]):=by
 rw[Wn];refine⟨?_,⟨h,rfl⟩,d,e,trivial⟩;grind[bJ]
theorem MF{b:Y}{a}(h:b∈[[33],[45],[116,121,112,101,111,102]])(c:Wn a)(d:aO a.k):Wn (.nd 13 b 0 [a]):=by
 rw[Wn];refine⟨?_,⟨h,rfl⟩,c,trivial⟩;grind[bJ]
def ZT{a}{t}(b:Wn a)(d:aO a.k)(c:Wf t):Wn (.nd 14 [] 0 [a,.ty (some t)]):=by grind[Wn,dR,bJ,own,K.k]
def ZS{b}{a}(h:Q8 b)(c:Wn a)(d:aO a.k):Wn (.nd 15 b 0 [a]):=by grind[Wn,dR,bJ,own]
def ME{b}{a}(h:Q8 b)(c:Wn a)(d:iD a.k):Wn (.nd 16 b 0 [a]):=by grind[Wn,dR,bJ,own]
def MD{c}{a b}(h:Q8 c)(d:Wn a)(f:iD a.k)(e:Wn b)(g:aO b.k):Wn (.nd 17 c 0 [a,b]):=by simp[Wn,dR,bJ,own];grind
def ZR{b}{a}(h:Q8 b)(c:Wn a)(d:aO a.k):Wn (.nd 18 b 0 [a]):=by grind[Wn,dR,bJ,own]
def ZQ{c}{a b}(h:Q8 c)(d:Wn a)(f:aO a.k)(e:Wn b)(g:aO b.k):Wn (.nd 19 c 0 [a,b]):=by simp[Wn,dR,bJ,own];grind
def ZP{a b c}(d:Wn a)(g:aO a.k)(e:Wn b)(h:aO b.k)(f:Wn c)(i:aO c.k):Wn (.nd 20 [] 0 [a,b,c]):=by simp[Wn,dR,bJ,own];grind
theorem yW{a}(b:Wn a)(c:aO a.k):Wn (.nd 21 [] 0 [a]):=by grind[Wn,dR,bJ,own]
def ZO{a b c}(d:Wn a)(g:aO a.k)(e:Wn b)(h:b.k=26)(f:Wn c)(i:c.k=26\/c.k=-1):Wn (.nd 22 [] 0 [a,b,c]):=by simp[Wn,dR,bJ,own];grind
def ZN{a b}(c:Wn a)(e:aO a.k)(d:Wn b)(f:b.k=26):Wn (.nd 23 [] 0 [a,b]):=by simp[Wn,dR,bJ,own];grind
def ZM{a}(b:Wn a)(c:aO a.k):Wn (.nd 24 [] 0 [a]):=by grind[Wn,dR,bJ,own]
def ZL{a}(b:Wn a)(c:aO a.k):Wn (.nd 25 [] 0 [a]):=by grind[Wn,dR,bJ,own]
def lT{a}(h:∀p∈a,Wn p/\17<=p.k/\p.k<=25):Wn (.nd 26 [] 0 a):=by
 rw[Wn];refine⟨?_,by simp[own],(S4 a).2 λp b=>(h p b).1⟩;grind[bJ]
def Lv(l d:Nat)(s a:St)(x:Int):Prop:=∃t,Wn t/\aO t.k/\eJ s t a x/\(wt l (pt t)).length+s.i<=a.i/\wd l (pt t)<=20-d
def Gw(l d:Nat)(s:St)(x:Int)(b:St)(y:Int):Prop:=∀c a,Wn a->aO a.k->eJ c a s x->wd l (pt a)<=20-d->
 ∃t,Wn t/\aO t.k/\eJ c t b y/\(wt l (pt t)).length+s.i<=(wt l (pt a)).length+b.i/\wd l (pt t)<=20-d
def Li(f a d:Nat)(Q:K->Prop)(s g:St)(c l:bZ):Prop:=∃b e,l=c++e/\(∀p∈b,Wn p/\Q p)/\cJ s b g e/\(X0 (decide (c.length=0)) (dJ b)).length+f+s.i<=g.i/\mx a (dJ b)<=20-d
def Fl(f d:Nat)(s c:St)(e l:bZ):Prop:=∃a b,l=e++b/\(∀p∈a,Wn p/\17<=p.k/\p.k<=25)/\cJ s a c b/\(lW (dJ a)).length+f+s.i<=c.i/\mx 1 (dJ a)<=20-d
def oP(b:Bool):Nat:=if b then 2 else 3
structure NF(L:List Tk)(r:Sp):Prop where
 expr:∀d s s' x,r.expr d s=some (.ok s' x)->d<20/\Lv 1 (d+1) s s' x
 comp:∀d s s' x,r.comp d s=some (.ok s' x)->Lv 1 d s s' x
 sum:∀d s s' x,r.sum d s=some (.ok s' x)->Lv 2 d s s' x
 prod:∀d s s' x,r.prod d s=some (.ok s' x)->Lv 3 d s s' x
 row:∀b d s x s' y,r.row b d s x=some (.ok s' y)->Gw (oP b) d s x s' y
 oper:∀d s s' x,r.oper d s=some (.ok s' x)->Lv 4 d s s' x
 tail:∀d s x s' y,r.tail d s x=some (.ok s' y)->Gw 5 d s x s' y
 simple:∀d s s' x,r.simple d s=some (.ok s' x)->Lv 5 d s s' x
 nj:∀e d s nm acc s' l,r.M .expr e d s nm acc=some (.ok s' l)->Li 1 1 d (λp=>aO p.k) s s' acc l
 pn:∀e d s nm acc s' l,nm.Nodup->r.M .obj e d s nm acc=some (.ok s' l)->∃ps l',l=acc++l'/\(nm++ps.map K.tx).Nodup/\(∀p∈ps,Wn p/\p.k=15)/\cJ s ps s' l'/\(X0 (decide (acc.length=0)) (dJ ps)).length+1+s.i<=s'.i/\mx 0 (dJ ps)<=20-d
 ph:∀e d s nm acc s' l,nm.Nodup->r.M .par e d s nm acc=some (.ok s' l)->∃ps l',l=acc++l'/\(nm++ps.map K.tx).Nodup/\(∀p∈ps,Wn p/\p.k=16)/\cJ s ps s' l'/\(X0 (decide (acc.length=0)) (dJ ps)).length+1+s.i<=s'.i/\mx 0 (dJ ps)<=20-d
 block:∀d s s' x,r.block d s=some (.ok s' x)->∃t,Wn t/\t.k=26/\eJ s t s' x/\(me t).1.length+s.i<=s'.i/\(me t).2<=20-d
 fx:∀d s acc s' l,r.fx d s acc=some (.ok s' l)->Fl 1 d s s' acc l
 gd:∀d s s' x,r.gd d s=some (.ok s' x)->∃t,Wn t/\(17<=t.k/\t.k<=25)/\eJ s t s' x/\(me t).1.length+s.i<=s'.i/\(me t).2+1<=20-d
 any:∀d s s' x,r.any d s=some (.ok s' x)->∃t,Wn t/\(17<=t.k/\t.k<=25)/\eJ s t s' x/\(me t).1.length+s.i<=s'.i/\(me t).2<=20-d
 gk:∀d s acc s' l,r.gk d s acc=some (.ok s' l)->Fl 0 d s s' acc l
def JB{L}{i}{a}(h:aJ L i a=true):(tk L i).text∈a:=by
 simp_all[aJ,has,Bool.and_eq_true,List.contains_iff_mem]
theorem oY(t):(pt t).ts=(me t).1:=rfl
theorem mS(t):(pt t).d=(me t).2:=rfl
theorem lP(t)(h:aO t.k):wt 1 (pt t)=(me t).1:=by
 refine nD _ _ ?_;show 1<=qE t;cases t<;>grind[qE,iE]
theorem lS(t)(h:aO t.k):wd 1 (pt t)=(me t).2:=by
 refine nC _ _ ?_;show 1<=qE t;cases t<;>grind[qE,iE]
section
variable{L:List Tk}{r:Sp}
theorem Gw.one{l d}{s i}{x y}{g}{t}(h:Gw l d g x i y)(n:Wn t)(k:aO t.k)(m:eJ s t g x)(p:(wt l (pt t)).length+s.i<=g.i)(j:wd l (pt t)<=20-d):Lv l d s i y:=by
 obtain⟨o,a,b,c,e,f⟩:=h s t n k m j;exact⟨o,a,b,c,by omega,f⟩
def Sv(i:NF L r):∀d s a x,(step L r).expr d s=some (.ok a x)->d<20/\Lv 1 (d+1) s a x:=by
 intro d s a x h;obtain⟨_,b,h⟩:=BE h;exact⟨b,i.comp _ _ _ _ h⟩
def RI{s g i}{x y}{part}(h:gN L g x part=some (.ok i y)){j d}(o:∀s i x,part s=some (.ok i x)->Lv j d s i x){t}(q:Wn t)(m:aO t.k)(n:eJ s t g x)
 (p:(tk L g.i).text∈[[61,61],[60],[43],[45],[42]]):∃u,Wn u/\aO u.k/\eJ s (.nd 12 (tk L g.i).text 0 [t,u]) i y/\(wt j (pt u)).length+g.i+1<=i.i/\wd j (pt u)<=20-d/\Wn (.nd 12 (tk L g.i).text 0 [t,u]):=by
 obtain⟨v,z,k,l⟩:=B7 h;obtain⟨rfl,rfl⟩:=H7 l;obtain⟨u,a,b,c,e,f⟩:=o _ _ _ k;have c:=c;have e:(wt j (pt u)).length+(g.i+1)<=v.i:=e;refine⟨u,a,b,(n.cons c.l).node _ 12 _ 0 _ rfl,?_,f,CP p q m a b⟩;omega
def Sq(i:NF L r):∀d s k x,(step L r).comp d s=some (.ok k x)->Lv 1 d s k x:=by
 intro d s k x h;obtain⟨l,y,m,j⟩:=B7 h;obtain⟨t,a,b,c,e,f⟩:=i.sum _ _ _ _ m;split at j
 .rename_i g;have g:=JB g;have o:(tk L l.i).text∈[[61,61],[60],[43],[45],[42]]:=by
   simp at g;obtain h|h:=g<;>rw[h]<;>decide
  obtain⟨u,p,q,c2,v,f2,w2⟩:=RI j (i.sum d) a b c o;have n:iE 12 (tk L l.i).text=1:=by
   simp at g;obtain h|h:=g<;>rw[h]<;>rfl
  have w:lv (tk L l.i).text=2:=by rw[lv,n];rfl
  refine⟨_,w2,by grind[aO,K.k],c2,?_,?_⟩<;>grind[lP,aO,K.k,TZ,qQ,jQ,Nat.reduceAdd,lS]
 .obtain⟨rfl,rfl⟩:=N8 j;have m:=CG 1 2 (pt t) (by decide);have j:=CF 1 2 (pt t) (by decide);exact⟨t,a,b,c,by omega,by omega⟩
def A0e(i:NF L r):∀d s g x,(step L r).sum d s=some (.ok g x)->Lv 2 d s g x:=by
 intro d s g x h;obtain⟨n,y,j,k⟩:=B7 h;obtain⟨t,a,b,c,e,f⟩:=i.prod _ _ _ _ j;have l:=CG 2 3 (pt t) (by decide);have m:=CF 2 3 (pt t) (by decide);exact Gw.one (i.row _ _ _ _ _ _ k) a b c (by omega) (by omega)
def Sz(i:NF L r):∀d s g x,(step L r).prod d s=some (.ok g x)->Lv 3 d s g x:=by
 intro d s g x h;obtain⟨n,y,j,k⟩:=B7 h;obtain⟨t,a,b,c,e,f⟩:=i.oper _ _ _ _ j;have l:=CG 3 4 (pt t) (by decide);have m:=CF 3 4 (pt t) (by decide);exact Gw.one (i.row _ _ _ _ _ _ k) a b c (by omega) (by omega)
def A2e(i:NF L r):∀b d s x a y,(step L r).row b d s x=some (.ok a y)->Gw (oP b) d s x a y:=by
 intro b d s x a y h t e q m n H;have h:(if aJ L s.i (J9 b) then A8 (gN L s x (if b then r.prod d else r.oper d)) λs y=>r.row b d s y else some (.ok s x))=some (.ok a y):=h;split at h
 .rename_i c;have c:=JB c;have p:(tk L s.i).text∈[[61,61],[60],[43],[45],[42]]:=by
   cases b
   .simp_all[J9,jW,yZ,or_false]
   .grind[J9]
  obtain⟨M,z,k,l⟩:=B7 h;have o:∀s a x,(if b then r.prod d else r.oper d) s=some (.ok a x)->Lv (oP b+1) d s a x:=by
   cases b
   .exact i.oper d
   .exact i.prod d
  obtain⟨u,v,A,c2,F,f2,w2⟩:=RI k o q m n p;have f:iE 12 (tk L s.i).text=oP b/\lv (tk L s.i).text=oP b:=by
   cases b
   .simp only[J9,jW,yZ,or_false]at c;rw[c];exact⟨rfl,rfl⟩
   .simp only[J9,jW,yZ,or_false]at c;obtain h|h:=c<;>rw[h]<;>exact⟨rfl,rfl⟩
  have g:wt (oP b) (pt (.nd 12 (tk L s.i).text 0 [e,u]))=(me (.nd 12 (tk L s.i).text 0 [e,u])).1:=nD _ _ (by show oP b<=iE 12 _;omega);have j:wd (oP b) (pt (.nd 12 (tk L s.i).text 0 [e,u]))=(me (.nd 12 (tk L s.i).text 0 [e,u])).2:=nC _ _ (by show oP b<=iE 12 _;omega);rw[TZ,f.1,f.2]at g j;simp only at g j;obtain⟨N,w,B,D,G,f3⟩:=i.row _ _ _ _ _ _ l t _ w2 (by grind[aO,K.k]) c2 (by omega);grind
 grind
def Sx(i:NF L r):∀d s g x,(step L r).oper d s=some (.ok g x)->Lv 4 d s g x:=by
 intro d s g x h;have h:(if aJ L s.i [[33],[45],[116,121,112,101,111,102]] then A8 (aQ L (jR L (s.i+1)) d s.nx r.oper) λg x=>aD g ⟨13,x,0,0,[],(tk L s.i).text,0,-1,(tk L s.i).at'⟩
  else A8 (r.simple d s) λs x=>r.tail d s x)=some (.ok g x):=h;split at h
 .rename_i l;have l:=JB l;obtain⟨n,y,j,k⟩:=B7 h;obtain⟨_,q,j⟩:=BE j;obtain⟨rfl,rfl⟩:=H7 k;obtain⟨t,a,b,c,e,f⟩:=i.oper _ _ _ _ j;have c:=c;have e:(wt 4 (pt t)).length+(s.i+1)<=n.i:=e;refine⟨.nd 13 (tk L s.i).text 0 [t],MF l a b,by grind[aO,K.k],c.l.node _ 13 _ 0 _ rfl,?_,?_⟩
  .rw[nD _ _ (by exact vQ _),oY,UA];grind
  .rw[nC _ _ (by exact vQ _),mS,UA];omega
 .obtain⟨n,y,j,k⟩:=B7 h;obtain⟨t,a,b,c,e,f⟩:=i.simple _ _ _ _ j;obtain⟨m,a,b,c,e,f⟩:=Gw.one (i.tail _ _ _ _ _ k) a b c e f;have o:=CG 4 5 (pt m) (by decide);have p:=CF 4 5 (pt m) (by decide);exact⟨m,a,b,c,by omega,by omega⟩
def Ti(R:nY L)(y:YF L r)(i:NF L r):∀d s x k y,(step L r).tail d s x=some (.ok k y)->Gw 5 d s x k y:=by
 intro d s x k z h M g H F G W;have h:(if aJ L s.i [[40]] then A8 (r.M .expr [41] d s.nx [] []) λk l=>A8 (aD k ⟨7,x,0,0,l,[],0,-1,gD s x⟩) λs x=>r.tail d s x
  else if aJ L s.i [[46]] then
   if (tk L (s.i+1)).x=1 then A8 (aD s.nx.nx ⟨8,x,0,0,[],(tk L (s.i+1)).text,0,-1,gD s x⟩) λs x=>r.tail d s x else bC L (s.i+1) 1
  else if aJ L s.i [[91]] then A8 (r.expr d s.nx) λk y=>A8 (aB L k [93]) λk _=>A8 (aD k ⟨9,x,y,0,[],[],0,-1,gD s x⟩) λs x=>r.tail d s x
  else if aJ L s.i [[97,115]] then A8 (r.typ d s.nx) λk t=>A8 (aD k ⟨14,x,0,0,[],[],0,t,gD s x⟩) λs x=>r.tail d s x
  else some (.ok s x))=some (.ok k z):=h;split at h
 .obtain⟨o,l,w,h⟩:=B7 h;obtain⟨P,u,A,h⟩:=B7 h;obtain⟨rfl,rfl⟩:=H7 A;obtain⟨B,l',rfl,a,c,e,f⟩:=i.nj _ _ _ _ _ _ _ w;have c:=c;have e:(X0 true (dJ B)).length+1+(s.i+1)<=o.i:=e;have j:wt 5 (pt (.nd 7 [] 0 (g::B)))=(me (.nd 7 [] 0 (g::B))).1:=nD _ _ (by exact vQ _);have m:wd 5 (pt (.nd 7 [] 0 (g::B)))=(me (.nd 7 [] 0 (g::B))).2:=nC _ _ (by exact vQ _);rw[Ak]at j m;simp only at j m;obtain⟨D,p,q,v,n,f3⟩:=i.tail _ _ _ _ _ h M _ (w7 H F a) (by grind[aO,K.k]) ((G.cons c).node _ 7 [] 0 _ rfl) (by omega);grind
 split at h
 .split at h
  .rename_i S;obtain⟨P,u,A,h⟩:=B7 h;obtain⟨rfl,rfl⟩:=H7 A;have j:wt 5 (pt (.nd 8 (tk L (s.i+1)).text 0 [g]))=(me (.nd 8 (tk L (s.i+1)).text 0 [g])).1:=nD _ _ (by exact vQ _);have m:wd 5 (pt (.nd 8 (tk L (s.i+1)).text 0 [g]))=(me (.nd 8 (tk L (s.i+1)).text 0 [g])).2:=nC _ _ (by exact vQ _);rw[MO]at j m;simp only at j m;obtain⟨D,p,q,v,n,f3⟩:=i.tail _ _ _ _ _ h M _ (w8 (R _ S) H F) (by grind[aO,K.k]) (cJ.node G.l _ 8 _ 0 _ rfl) (by omega);refine⟨D,p,q,v,?_,f3⟩;rw[j]at n;have n:_+(s.i+1+1)<=_:=n;grind
  grind[bC]
 split at h
 .obtain⟨o,V,w,h⟩:=B7 h;obtain⟨P,_,A,h⟩:=B7 h;obtain⟨_,rfl⟩:=J0 A;obtain⟨T,u,N,h⟩:=B7 h;obtain⟨rfl,rfl⟩:=H7 N;obtain⟨Z,t,a,b,c,e,f⟩:=i.expr _ _ _ _ w;rw[lP _ b]at e;rw[lS _ b]at f;have c:=c;have e:(me t).1.length+(s.i+1)<=o.i:=e;have j:wt 5 (pt (.nd 9 [] 0 [g,t]))=(me (.nd 9 [] 0 [g,t])).1:=nD _ _ (by exact vQ _);have m:wd 5 (pt (.nd 9 [] 0 [g,t]))=(me (.nd 9 [] 0 [g,t])).2:=nC _ _ (by exact vQ _);rw[MN]at j m;simp only at j m;obtain⟨D,p,q,v,n,f3⟩:=i.tail _ _ _ _ _ h M _ (w9 H F a b) (by grind[aO,K.k]) ((G.cons c.l).node _ 9 [] 0 _ rfl) (by omega);refine⟨D,p,q,v,?_,f3⟩;rw[j]at n;have n:_+(o.i+1)<=_:=n;grind
 split at h
 .obtain⟨o,V,w,h⟩:=B7 h;obtain⟨T,u,N,h⟩:=B7 h;obtain⟨rfl,rfl⟩:=H7 N;obtain⟨t,a,c,e,f,_⟩:=y.typ _ _ _ _ w;have c:=hH.n c;have e:(eV t).length+(s.i+1)<=o.i:=e;have j:wt 5 (pt (.nd 14 [] 0 [g,.ty (some t)]))=(me (.nd 14 [] 0 [g,.ty (some t)])).1:=nD _ _ (by exact vQ _);have m:wd 5 (pt (.nd 14 [] 0 [g,.ty (some t)]))=(me (.nd 14 [] 0 [g,.ty (some t)])).2:=nC _ _ (by exact vQ _);rw[DJ,me]at j m;simp only at j m;obtain⟨D,p,q,v,n,f3⟩:=i.tail _ _ _ _ _ h M _ (ZT H F a) (by grind[aO,K.k]) ((G.cons c.l).node _ 14 [] 0 _ rfl) (by omega);grind
 grind
def zF(L:List Tk):Prop:=∀i,(tk L i).x=3->0<=nA (tk L i).text/\nA (tk L i).text<=999999999
def zU(L:List Tk):Prop:=∀i,(tk L i).x=4->(tk L i).text.length<=30/\∀c∈(tk L i).text,gH c.toNat=true
def GP(y:YF L r){d}{s b}{x}(h:aY L r d s=some (.ok b x)):∃t,Wn t/\iD t.k/\eJ s t b x/\(mE (pt t)).length+s.i<=b.i/\(me t).2<=20-d:=by
 unfold aY at h;split at h
 .obtain⟨t,a,c,e,f,_⟩:=y.typ _ _ _ _ h;have c:=hH.n c;have e:(eV t).length+(s.i+1)<=b.i:=e;refine⟨.ty (some t),a,.inr rfl,c,?_,f⟩;have:mE (pt (.ty (some t)))=sg [58]::eV t:=rfl;grind
 .obtain⟨rfl,rfl⟩:=N8 h;exact⟨.ty none,trivial,.inl rfl,eJ.none s,by grind[mE,pt,K.k],wQ _⟩
def uM{d}{s}(k)(a)(n)(c)(g:Wn (.nd k a n []))(e:aO k)(h:iE k a=5)(b:(me (.nd k a n [])).1.length=1/\(me (.nd k a n [])).2=0)(f:bP k a n []=⟨k,0,0,0,[],a,n,-1,0⟩):
 Lv 5 d s ⟨s.nx.i,s.nx.N++[⟨k,0,0,0,[],a,n,-1,c⟩],s.nx.T⟩ s.nx.N.length:=by
 refine⟨_,g,e,cJ.node (cJ.nil s) _ k a n _ (by rw[f];rfl),?_,?_⟩
 .rw[nD _ _ (by show 5<=iE k a;omega),oY,b.1];show 1+s.i<=s.i+1;omega
 .rw[nC _ _ (by show 5<=iE k a;omega),mS,b.2];omega
def Tf(H:nY L)(M:zF L)(N:zU L)(y:YF L r)(i:NF L r):∀d s k x,(step L r).simple d s=some (.ok k x)->Lv 5 d s k x:=by
 intro d s k x h;have h:(if (tk L s.i).x=3 then aD s.nx ⟨1,0,0,0,[],[],nA (tk L s.i).text,-1,(tk L s.i).at'⟩
  else if (tk L s.i).x=4 then aD s.nx ⟨2,0,0,0,[],(tk L s.i).text,0,-1,(tk L s.i).at'⟩
  else if (tk L s.i).x=1 then aD s.nx ⟨5,0,0,0,[],(tk L s.i).text,0,-1,(tk L s.i).at'⟩
  else if aJ L s.i [[116,114,117,101]] then aD s.nx ⟨3,0,0,0,[],[],1,-1,(tk L s.i).at'⟩
  else if aJ L s.i [[102,97,108,115,101]] then aD s.nx ⟨3,0,0,0,[],[],0,-1,(tk L s.i).at'⟩
  else if aJ L s.i [[110,117,108,108]] then aD s.nx ⟨4,0,0,0,[],[],0,-1,(tk L s.i).at'⟩
  else if aJ L s.i [[102,110]] then A8 (aB L s.nx [40]) λm _=>A8 (r.M .par [41] d m [] []) λn l=>A8 (aY L r d n) λu t=>A8 (r.block d u) λA x=>
   aD A ⟨6,x,0,0,l,[],0,t,(tk L s.i).at'⟩
  else if aJ L s.i [[91]] then A8 (r.M .expr [93] d s.nx [] []) λk l=>aD k ⟨11,0,0,0,l,[],0,-1,(tk L s.i).at'⟩
  else if aJ L s.i [[123]] then A8 (r.M .obj [125] d s.nx [] []) λk l=>aD k ⟨10,0,0,0,l,[],0,-1,(tk L s.i).at'⟩
  else A8 (aB L s [40]) λs _=>A8 (r.expr d s) λs x=>A8 (aB L s [41]) λs _=>some (.ok s x))=some (.ok k x):=h;split at h
 .rename_i p;obtain⟨rfl,rfl⟩:=H7 h;exact uM 1 [] _ _ (w1 (M _ p)) (by simp[aO]) rfl ⟨rfl,rfl⟩ rfl
 split at h
 .rename_i p;obtain⟨rfl,rfl⟩:=H7 h;exact uM 2 _ 0 _ (w2 (N _ p)) (by simp[aO]) rfl ⟨rfl,rfl⟩ rfl
 split at h
 .rename_i p;obtain⟨rfl,rfl⟩:=H7 h;exact uM 5 _ 0 _ (w5 (H _ p)) (by simp[aO]) rfl ⟨rfl,rfl⟩ rfl
 split at h
 .obtain⟨rfl,rfl⟩:=H7 h;exact uM 3 [] 1 _ (w3 (.inr rfl)) (by simp[aO]) rfl ⟨rfl,rfl⟩ rfl
 split at h
 .obtain⟨rfl,rfl⟩:=H7 h;exact uM 3 [] 0 _ (w3 (.inl rfl)) (by simp[aO]) rfl ⟨rfl,rfl⟩ rfl
 split at h
 .obtain⟨rfl,rfl⟩:=H7 h;exact uM 4 [] 0 _ w4 (by simp[aO]) rfl ⟨rfl,rfl⟩ rfl
 split at h
 .obtain⟨m,_,g,h⟩:=B7 h;obtain⟨_,rfl⟩:=J0 g;obtain⟨n,l,o,h⟩:=B7 h;obtain⟨u,t,q,h⟩:=B7 h;obtain⟨A,b,G,h⟩:=B7 h;obtain⟨rfl,rfl⟩:=H7 h;obtain⟨j,w,rfl,T,a1,c1,v,f1⟩:=i.ph _ _ _ _ _ _ _ (by simp) o;obtain⟨V,B,R,c2,Z,f2⟩:=GP y q;obtain⟨W,D,S,F,e3,f3⟩:=i.block _ _ _ _ G;have c1:=c1;have v:(X0 true (dJ j)).length+1+(s.i+1+1)<=n.i:=v;have P:=c1.app (c2.cons F.l);refine⟨.nd 6 [] 0 (j++[V,W]),w6 a1 (by grind) B R D S,by grind[aO,K.k],P.node _ 6 [] 0 _ ?_,?_,?_⟩
  .show _=(⟨6,(l++[t,b]).getLastD 0,0,0,(l++[t,b]).dropLast.dropLast,[],0,(l++[t,b]).dropLast.getLastD 0,0⟩:C);rw[zD,MR,MQ];rfl
  .rw[nD _ _ (by exact vQ _),oY,MP];grind
  .rw[nC _ _ (by exact vQ _),mS,MP];omega
 split at h
 .obtain⟨m,l,g,h⟩:=B7 h;obtain⟨rfl,rfl⟩:=H7 h;obtain⟨j,w,rfl,a,c,e,f⟩:=i.nj _ _ _ _ _ _ _ g;have c:=c;have e:(X0 true (dJ j)).length+1+(s.i+1)<=m.i:=e;refine⟨.nd 11 [] 0 j,ZU a,by grind[aO,K.k],c.node _ 11 [] 0 _ rfl,?_,?_⟩
  .rw[nD _ _ (by exact vQ _),oY,TX];grind
  .rw[nC _ _ (by exact vQ _),mS,TX];omega
 split at h
 .obtain⟨m,l,g,h⟩:=B7 h;obtain⟨rfl,rfl⟩:=H7 h;obtain⟨j,w,rfl,T,a,c,e,f⟩:=i.pn _ _ _ _ _ _ _ (by simp) g;have c:=c;have e:(X0 true (dJ j)).length+1+(s.i+1)<=m.i:=e;refine⟨.nd 10 [] 0 j,ZV a (by grind),by grind[aO,K.k],c.node _ 10 [] 0 _ rfl,?_,?_⟩
  .rw[nD _ _ (by show 5<=iE 10 [];exact vQ _),oY,TW];grind
  .rw[nC _ _ (by show 5<=iE 10 [];exact vQ _),mS,TW];omega
 .obtain⟨m,_,g,h⟩:=B7 h;obtain⟨_,rfl⟩:=J0 g;obtain⟨n,z,o,h⟩:=B7 h;obtain⟨u,_,q,h⟩:=B7 h;obtain⟨_,rfl⟩:=J0 q;obtain⟨rfl,rfl⟩:=N8 h;obtain⟨hd,t,a,b,c,e,f⟩:=i.expr _ _ _ _ o;rw[lP _ b]at e;rw[lS _ b]at f;have c:eJ s t n.nx z:=c;have e:(me t).1.length+(s.i+1)<=n.i:=e;have g:=Yh 5 (pt t);have o:=Xw 5 (pt t);rw[oY]at g;rw[mS]at o;refine⟨t,a,b,c,?_,by omega⟩;show _<=n.i+1;omega
def ET{s a}{b:bZ}{u}(h:(if b.length=0 then some (.ok s ()) else aB L s [44])=some (.ok a u)):a.N=s.N/\a.T=s.T/\a.i=s.i+(if b.length=0 then 0 else 1):=by
 split at h
 .grind
 .rename_i c;obtain⟨_,rfl⟩:=J0 h;exact⟨rfl,rfl,by rw[zY c];rfl⟩
def eJ.base{s d e}{t}{x}(h:eJ d t e x)(f:d.N=s.N)(g:d.T=s.T):eJ s t e x:=by
 obtain⟨a,b,c⟩:=h;rw[f,g]at*;exact⟨a,b,c⟩
def JF(a:bZ)(y)(t)(d){i b c j}(g:b=i+(if a.length=0 then 0 else 1))(h:(me t).1.length+b<=c)(e:(X0 (decide ((a++[y]).length=0)) (dJ d)).length+1+c<=j):(X0 (decide (a.length=0)) (dJ (t::d))).length+1+i<=j:=by
 have f:decide ((a++[y]).length=0)=false:=by simp
 rw[f]at e;simp only[Y7,X0,qQ,oY];grind
def Ee(i:NF L r):∀e d s m g j l,(step L r).M .expr e d s m g=some (.ok j l)->Li 1 1 d (λp=>aO p.k) s j g l:=by
 intro e d s m g j l h;have h:(if aJ L s.i [e] then some (.ok s.nx g)
  else A8 (if g.length=0 then some (.ok s ()) else aB L s [44]) λs _=>A8 (part L r d s m .expr) λs x=>r.M .expr e d s x.2 (g++[x.1]))=some (.ok j l):=h;split at h
 .obtain⟨rfl,rfl⟩:=N8 h;refine⟨[],[],by simp,by simp,cJ.nil s,?_,by grind[mx,dJ]⟩;show (X0 _ []).length+1+s.i<=s.i+1;grind[X0]
 .obtain⟨G,_,o,h⟩:=B7 h;have k:=ET o;obtain⟨H,x,q,h⟩:=B7 h;obtain⟨M,y,u,v⟩:=B7 q;obtain⟨rfl,rfl⟩:=N8 v;obtain⟨D,t,a,b,c,e,f⟩:=i.expr _ _ _ _ u;rw[lP _ b]at e;rw[lS _ b]at f;have c:=c.base k.1 k.2.1;obtain⟨n,w,rfl,w2,A,z,B⟩:=i.nj _ _ _ _ _ _ _ h;refine⟨t::n,y::w,by simp,λp F=>?_,c.cons A,JF g y t n k.2.2 e z,?_⟩
  .grind
  grind[Y7,mx,mS]
def WK{a}{x:Y}(h:a.Nodup)(b:x ∉ a):(a++[x]).Nodup:=by
 grind
def Eg(M:nY L)(i:NF L r):∀e d s m j o l,m.Nodup->(step L r).M .obj e d s m j=some (.ok o l)->∃k q,l=j++q/\(m++k.map K.tx).Nodup/\(∀p∈k,Wn p/\p.k=15)/\cJ s k o q/\(X0 (decide (j.length=0)) (dJ k)).length+1+s.i<=o.i/\mx 0 (dJ k)<=20-d:=by
 intro e d s m j o l R h;have h:(if aJ L s.i [e] then some (.ok s.nx j)
  else A8 (if j.length=0 then some (.ok s ()) else aB L s [44]) λs _=>A8 (part L r d s m .obj) λs x=>r.M .obj e d s x.2 (j++[x.1]))=some (.ok o l):=h;split at h
 .obtain⟨rfl,rfl⟩:=N8 h;refine⟨[],[],by simp,by grind,by simp,cJ.nil s,?_,by grind[mx,dJ]⟩;show (X0 _ []).length+1+s.i<=s.i+1;grind[X0]
 .obtain⟨w,_,B,h⟩:=B7 h;have u:=ET B;obtain⟨s2,x,g,h⟩:=B7 h;obtain⟨s3,n,D,g⟩:=B7 g;obtain⟨N,P,S,rfl⟩:=eY D;obtain⟨s4,_,F,g⟩:=B7 g;obtain⟨_,rfl⟩:=J0 F;obtain⟨z,y,G,g⟩:=B7 g;obtain⟨s6,a2,H,g⟩:=B7 g;obtain⟨rfl,rfl⟩:=H7 H;obtain⟨rfl,rfl⟩:=N8 g;obtain⟨Z,t,a,b,c,e,f⟩:=i.expr _ _ _ _ G;rw[lP _ b]at e;rw[lS _ b]at f;have c:=eJ.base c u.1 u.2.1;have e:(me t).1.length+(w.i+1+1)<=z.i:=e;obtain⟨k,q,rfl,nd,w2,V,T,W⟩:=i.pn _ _ _ _ _ _ _ (WK R S) h;have A:=c.l.node z.i 15 n 0 ⟨15,y,0,0,[],n,0,-1,(tk L w.i).at'⟩ rfl;refine⟨.nd 15 n 0 [t]::k,_::q,by simp,by grind[K.tx],λp v=>?_,A.cons V,JF j _ _ k u.2.2 ?_ T,?_⟩
  .obtain rfl|v:=jW.1 v
   .exact⟨ZS (by rw[P];exact M _ N) a b,rfl⟩
   grind
  .rw[UB];grind
  grind[Y7,mx,mS,UB]
def Ei(M:nY L)(y:YF L r)(i:NF L r):∀e d s m g o l,m.Nodup->(step L r).M .par e d s m g=some (.ok o l)->∃j q,l=g++q/\(m++j.map K.tx).Nodup/\(∀p∈j,Wn p/\p.k=16)/\cJ s j o q/\(X0 (decide (g.length=0)) (dJ j)).length+1+s.i<=o.i/\mx 0 (dJ j)<=20-d:=by
 intro e d s m g o l R h;have h:(if aJ L s.i [e] then some (.ok s.nx g)
  else A8 (if g.length=0 then some (.ok s ()) else aB L s [44]) λs _=>A8 (part L r d s m .par) λs x=>r.M .par e d s x.2 (g++[x.1]))=some (.ok o l):=h;split at h
 .obtain⟨rfl,rfl⟩:=N8 h;refine⟨[],[],by simp,by grind,by simp,cJ.nil s,?_,by grind[mx,dJ]⟩;show (X0 _ []).length+1+s.i<=s.i+1;grind[X0]
 .obtain⟨w,_,D,h⟩:=B7 h;have u:=ET D;obtain⟨s2,x,k,h⟩:=B7 h;obtain⟨s3,n,F,k⟩:=B7 k;obtain⟨N,P,S,rfl⟩:=eY F;obtain⟨A,z,G,k⟩:=B7 k;obtain⟨s6,a2,H,k⟩:=B7 k;obtain⟨rfl,rfl⟩:=H7 H;obtain⟨rfl,rfl⟩:=N8 k;obtain⟨t,a,b,c,e,f⟩:=GP y G;have c:=eJ.base c u.1 u.2.1;have e:(mE (pt t)).length+(w.i+1)<=A.i:=e;obtain⟨j,q,rfl,Z,w2,V,T,W⟩:=i.ph _ _ _ _ _ _ _ (WK R S) h;have B:=c.l.node A.i 16 n 0 ⟨16,0,0,0,[],n,0,z,(tk L w.i).at'⟩ rfl;refine⟨.nd 16 n 0 [t]::j,_::q,by simp,by grind[K.tx],λp v=>?_,B.cons V,JF g _ _ j u.2.2 ?_ T,?_⟩
  .obtain rfl|v:=jW.1 v
   .exact⟨ME (by rw[P];exact M _ N) a b,rfl⟩
   grind
  .rw[UC];grind
  grind[Y7,mx,mS,UC]
def Dy(i:NF L r):∀d s b x,(step L r).block d s=some (.ok b x)->∃t,Wn t/\t.k=26/\eJ s t b x/\(me t).1.length+s.i<=b.i/\(me t).2<=20-d:=by
 intro d s b x h;obtain⟨o,_,j,h⟩:=B7 h;obtain⟨_,rfl⟩:=J0 j;obtain⟨m,l,k,h⟩:=B7 h;obtain⟨rfl,rfl⟩:=H7 h;obtain⟨g,n,rfl,a,c,e,f⟩:=i.fx _ _ _ _ _ k;have c:=c;have e:(lW (dJ g)).length+1+(s.i+1)<=m.i:=e;refine⟨.nd 26 [] 0 g,lT a,rfl,c.node _ 26 [] 0 _ rfl,?_,?_⟩
 .rw[UQ];grind
 .grind[UQ]
def Tc(i:NF L r):∀d s g j l,(step L r).fx d s g=some (.ok j l)->Fl 1 d s j g l:=by
 intro d s g j l h;have h:(if aJ L s.i [[125]] then some (.ok s.nx g) else A8 (r.gd d s) λs x=>r.fx d s (g++[x]))=some (.ok j l):=h;split at h
 .obtain⟨rfl,rfl⟩:=N8 h;refine⟨[],[],by simp,by simp,cJ.nil s,?_,by grind[mx,dJ]⟩;show (lW []).length+1+s.i<=s.i+1;grind[lW]
 .obtain⟨w,x,k,h⟩:=B7 h;obtain⟨t,a,b,c,e,f⟩:=i.gd _ _ _ _ k;obtain⟨n,m,rfl,w2,o,v,q⟩:=i.fx _ _ _ _ _ h;refine⟨t::n,x::m,by simp,λp u=>?_,c.cons o,?_,?_⟩
  .grind
  .grind[Y7,lW,qQ,oY]
  grind[Y7,mx,mS]
def Ep(i:NF L r):∀d s g j l,(step L r).gk d s g=some (.ok j l)->Fl 0 d s j g l:=by
 intro d s g j l h;have h:(if (tk L s.i).x=6 then some (.ok s g) else A8 (r.gd d s) λs x=>r.gk d s (g++[x]))=some (.ok j l):=h;split at h
 .obtain⟨rfl,rfl⟩:=N8 h;refine⟨[],[],by simp,by simp,cJ.nil s,?_,by grind[mx,dJ]⟩;grind[lW,dJ]
 .obtain⟨w,x,k,h⟩:=B7 h;obtain⟨t,a,b,c,e,f⟩:=i.gd _ _ _ _ k;obtain⟨n,m,rfl,w2,o,v,q⟩:=i.gk _ _ _ _ _ h;refine⟨t::n,x::m,by simp,λp u=>?_,c.cons o,?_,?_⟩
  .grind
  .grind[Y7,lW,qQ,oY]
  grind[Y7,mx,mS]
def Td(i:NF L r):∀d s g x,(step L r).gd d s=some (.ok g x)->∃t,Wn t/\(17<=t.k/\t.k<=25)/\eJ s t g x/\(me t).1.length+s.i<=g.i/\(me t).2+1<=20-d:=by
 intro d s g x h;obtain⟨_,j,h⟩:=BE h;obtain⟨t,a,b,c,e,f⟩:=i.any _ _ _ _ h;grind
end
theorem O8(k)(a)(n)(l):(bP k a n l).x=k:=by
 grind[bP]
def eJ.split{s a}{k}{c}{n}{b}{x}(h:eJ s (.nd k c n b) a x)(i):
 ∃l,(a.N.getD x.toNat iM).fl=bP k c n l/\cJ s b ⟨i,a.N.take x.toNat,a.T⟩ l:=by
 have m:=h.fh;obtain⟨d,g,j⟩:=h;rw[cR,nN]at j;rw[nN]at m;have f:x.toNat<a.N.length:=by omega
 have e:a.N=a.N.take x.toNat++[a.N.getD x.toNat iM]:=by
  have:a.N.getD x.toNat iM=a.N[x.toNat]:=by simp[f]
  rw[this,<-nQ f,List.take_of_length_le (by omega)]
 rw[e,gU,iY,xZ,List.map_nil,<-List.append_assoc]at d;have o:(a.N.take x.toNat).map C.fl=s.N.map C.fl++R9 s.N.length s.T.length b/\[(a.N.getD x.toNat iM).fl]=[bP k c n (aZ s.N.length s.T.length b)]:=by
  refine List.append_inj d ?_;rw[uZ,List.length_take,qQ,uZ,Z3];omega
 exact⟨_,by grind,o.1,g,rfl⟩
def yh{t:K}(h:aO t.k):∃k b n a,t=.nd k b n a:=by
 cases t with
 |nd k b n a=>simp
 |ty o=>cases o<;>simp[aO,K.k]at h
section
variable{L:List Tk}{r:Sp}
theorem A1e(i:NF L r){d}{s g V}{x a3}(h1:r.expr d s=some (.ok g x))(o:jT (g.N.getD x.toNat iM).x≠0)
 (h:(A8 (r.expr d ⟨g.i+1,g.N.take x.toNat,g.T⟩) λj v=>A8 (aB L j [59]) λs3 _=>aD s3 (iS (g.N.getD x.toNat iM) v))=some (.ok V a3)):
 ∃t,Wn t/\(17<=t.k/\t.k<=25)/\eJ s t V a3/\(me t).1.length+s.i<=V.i/\(me t).2<=20-d:=by
 obtain⟨hd,t,a,b,a4,e,f⟩:=i.expr _ _ _ _ h1;rw[lP _ b]at e;rw[lS _ b]at f;obtain⟨j,v,h2,h⟩:=B7 h;obtain⟨s3,_,h3,h⟩:=B7 h;obtain⟨_,rfl⟩:=J0 h3;obtain⟨rfl,rfl⟩:=H7 h;obtain⟨k,tx,aa,S,rfl⟩:=yh b;obtain⟨a9,l,D⟩:=a4.split (g.i+1);obtain⟨_,u,G,w,c2,H,f2⟩:=i.expr _ _ _ _ h2;rw[lP _ w]at H;rw[lS _ w]at f2;have H:(me u).1.length+(g.i+1)<=j.i:=H;have y:=D.app c2.l;generalize g.N.getD x.toNat iM=m at l o;have a6:m.x=k:=by
  have:=congrArg C.x l;rw[O8]at this;exact this
 rw[a6]at o;rw[Wn]at a;obtain⟨sh,c,W⟩:=a;have a5:k=5\/k=8\/k=9:=by
  unfold jT at o;split at o
  .omega
  split at o
  .omega
  split at o
  .omega
  .omega
 have y:=y;obtain rfl|rfl|rfl:=a5
 .have a7:S=[]:=by simpa[bJ]using sh
  subst a7;have z:=D.2.2;subst z;have c:=c;obtain⟨mk,P,R,Z,ml,n,F,my,B⟩:=m;simp[C.fl,bP]at l;obtain⟨rfl,rfl,rfl,rfl,rfl,rfl,rfl,rfl⟩:=l;rw[Am]at e f;have A:=y.node j.nx.i 18 n 0 (iS ⟨5,0,0,0,[],n,F,-1,B⟩ v) (by rw[c.2];rfl);refine⟨.nd 18 n 0 [u],ZR c.1 G w,by simp[K.k],A,?_,?_⟩
  .rw[UE];simp at e⊢;show _<=j.i+1;omega
  grind[UE]
 .obtain⟨q,M,N⟩:∃q,S.map K.k=[q]/\aO q:=by grind[bJ]
  obtain⟨p,rfl,rfl⟩:=k1 M;have c:=c;have z:=D.2.2;subst z;obtain⟨mk,P,R,Z,ml,n,F,my,B⟩:=m;simp[C.fl,bP]at l;obtain⟨rfl,rfl,rfl,rfl,rfl,rfl,rfl,rfl⟩:=l;rw[MO]at e f;have A:=y.node j.nx.i 19 n 0 (iS ⟨8,cR s.N.length s.T.length p,0,0,[],n,F,-1,B⟩ v) (by rw[c.2];rfl);refine⟨.nd 19 n 0 [p,u],ZQ c.1 W.1 N G w,by simp[K.k],A,?_,?_⟩
  .rw[UG];simp at e⊢;show _<=j.i+1;omega
  grind[UG]
 .obtain⟨q,T,M,N,a8⟩:∃q T,S.map K.k=[q,T]/\aO q/\aO T:=by grind[bJ]
  obtain⟨p,p2,rfl,rfl,rfl⟩:=k2 M;have c:tx=[]/\aa=0:=by simpa[own]using c
  obtain⟨rfl,rfl⟩:=c;obtain⟨p',ab,z⟩:∃a b,a9=[a,b]:=⟨_,_,D.2.2⟩;subst z;obtain⟨mk,P,R,Z,ml,n,F,my,B⟩:=m;simp[C.fl,bP]at l;obtain⟨rfl,rfl,rfl,rfl,rfl,rfl,rfl,rfl⟩:=l;rw[MN]at e f;have A:=y.node j.nx.i 20 [] 0 (iS ⟨9,P,R,0,[],[],0,-1,B⟩ v) rfl;refine⟨.nd 20 [] 0 [p,p2,u],ZP W.1 N W.2.1 a8 G w,by simp[K.k],A,?_,?_⟩
  .rw[UJ];simp at e⊢;show _<=j.i+1;omega
  grind[UJ]
def NJ(i:NF L r)(k)(p:k=21\/k=24){d}{s j}{x}{m}(h:(A8 (r.expr d s.nx) λg x=>A8 (aB L g [59]) λl _=>aD l ⟨k,x,0,0,[],[],0,-1,m⟩)=some (.ok j x)):
 ∃t,Wn t/\(17<=t.k/\t.k<=25)/\eJ s t j x/\(me t).1.length+s.i<=j.i/\(me t).2<=20-d:=by
 obtain⟨g,y,n,h⟩:=B7 h;obtain⟨l,_,o,h⟩:=B7 h;obtain⟨_,rfl⟩:=J0 o;obtain⟨rfl,rfl⟩:=H7 h;obtain⟨q,t,a,b,c,e,f⟩:=i.expr _ _ _ _ n;rw[lP _ b]at e;rw[lS _ b]at f;have c:=c;have e:(me t).1.length+(s.i+1)<=g.i:=e;obtain rfl|rfl:=p
 .refine⟨.nd 21 [] 0 [t],yW a b,by simp[K.k],c.l.node _ 21 [] 0 _ rfl,?_,?_⟩
  .rw[UL];simp;show _<=g.i+1;omega
  grind[UL]
 .refine⟨.nd 24 [] 0 [t],ZM a b,by simp[K.k],c.l.node _ 24 [] 0 _ rfl,?_,?_⟩
  .rw[UO];simp;show _<=g.i+1;omega
  grind[UO]
def A3e(hL:nY L)(y:YF L r)(i:NF L r):∀d s D x,(step L r).any d s=some (.ok D x)->∃t,Wn t/\(17<=t.k/\t.k<=25)/\eJ s t D x/\(me t).1.length+s.i<=D.i/\(me t).2<=20-d:=by
 intro d s D x h;have h:(if aJ L s.i [[108,101,116]] then
  if (tk L (s.i+1)).x=1 then A8 (aY L r d s.nx.nx) λg t=>A8 (aB L g [61]) λj _=>A8 (r.expr d j) λn x=>A8 (aB L n [59]) λl _=>
   aD l ⟨17,x,0,0,[],(tk L (s.i+1)).text,0,t,(tk L s.i).at'⟩
  else bC L (s.i+1) 1
  else if aJ L s.i [[112,114,105,110,116]] then A8 (r.expr d s.nx) λg x=>A8 (aB L g [59]) λj _=>aD j ⟨21,x,0,0,[],[],0,-1,(tk L s.i).at'⟩
  else if aJ L s.i [[114,101,116,117,114,110]] then A8 (r.expr d s.nx) λg x=>A8 (aB L g [59]) λj _=>aD j ⟨24,x,0,0,[],[],0,-1,(tk L s.i).at'⟩
  else if aJ L s.i [[105,102]] then A8 (aB L s.nx [40]) λg _=>A8 (r.expr d g) λj x=>A8 (aB L j [41]) λn _=>A8 (r.block d n) λl y=>
   A8 (if aJ L l.i [[101,108,115,101]] then r.block d l.nx else some (.ok l (-1))) λF z=>aD F ⟨22,x,y,z,[],[],0,-1,(tk L s.i).at'⟩
  else if aJ L s.i [[119,104,105,108,101]] then A8 (aB L s.nx [40]) λg _=>A8 (r.expr d g) λj x=>A8 (aB L j [41]) λn _=>A8 (r.block d n) λl y=>
   aD l ⟨23,x,y,0,[],[],0,-1,(tk L s.i).at'⟩
  else A8 (r.expr d s) λg x=>
   if aJ L g.i [[61]] then
    if jT (g.N.getD x.toNat iM).x=0 then bC L g.i 1
    else A8 (r.expr d ⟨g.i+1,g.N.take x.toNat,g.T⟩) λj v=>A8 (aB L j [59]) λn _=>aD n (iS (g.N.getD x.toNat iM) v)
   else A8 (aB L g [59]) λj _=>aD j ⟨25,x,0,0,[],[],0,-1,gD g x⟩)=some (.ok D x):=h;split at h
 .split at h
  .rename_i a5;obtain⟨g,z,p,h⟩:=B7 h;obtain⟨j,_,q,h⟩:=B7 h;obtain⟨_,rfl⟩:=J0 q;obtain⟨n,v,A,h⟩:=B7 h;obtain⟨l,_,B,h⟩:=B7 h;obtain⟨_,rfl⟩:=J0 B;obtain⟨rfl,rfl⟩:=H7 h;obtain⟨T,a1,W,c1,S,f1⟩:=GP y p;obtain⟨P,u,o,k,c2,m,f2⟩:=i.expr _ _ _ _ A;rw[lP _ k]at m;rw[lS _ k]at f2;have c1:=c1;have c2:=c2;have S:(mE (pt T)).length+(s.i+1+1)<=g.i:=S;have m:(me u).1.length+(g.i+1)<=n.i:=m;refine⟨.nd 17 (tk L (s.i+1)).text 0 [T,u],MD (hL _ a5) a1 W o k,by simp[K.k],(c1.cons c2.l).node _ 17 _ 0 _ rfl,?_,?_⟩
   .rw[UD];simp;show _<=n.i+1;omega
   grind[UD]
  grind[bC]
 split at h
 .exact NJ i 21 (.inl rfl) h
 split at h
 .exact NJ i 24 (.inr rfl) h
 split at h
 .obtain⟨g,_,p,h⟩:=B7 h;obtain⟨_,rfl⟩:=J0 p;obtain⟨j,v,q,h⟩:=B7 h;obtain⟨n,_,A,h⟩:=B7 h;obtain⟨_,rfl⟩:=J0 A;obtain⟨l,b,B,h⟩:=B7 h;obtain⟨F,z,N,h⟩:=B7 h;obtain⟨rfl,rfl⟩:=H7 h;obtain⟨P,u,o,k,c2,m,f2⟩:=i.expr _ _ _ _ q;rw[lP _ k]at m;rw[lS _ k]at f2;obtain⟨G,H,R,M,w,f3⟩:=i.block _ _ _ _ B;have c2:=c2;have m:(me u).1.length+(s.i+1+1)<=j.i:=m;have w:(me G).1.length+(j.i+1)<=l.i:=w;obtain⟨te,V,i4,Z,e4,f4⟩:∃t,Wn t/\(t.k=26\/t.k=-1)/\eJ l t F z/\(if t.k=-1 then [] else (2,[101,108,115,101])::(me t).1).length+l.i<=F.i/\(me t).2<=20-d:=by
   split at N
   .obtain⟨t,a,a6,c,e,f⟩:=i.block _ _ _ _ N;have e:(me t).1.length+(l.i+1)<=F.i:=e;refine⟨t,a,.inl a6,c,?_,f⟩;grind
   .obtain⟨rfl,rfl⟩:=N8 N;exact⟨.ty none,trivial,.inr rfl,eJ.none _,by simp[K.k],wQ _⟩
  refine⟨.nd 22 [] 0 [u,G,te],ZO o k H R V i4,by simp[K.k],(c2.cons (M.cons Z.l)).node _ 22 [] 0 _ rfl,?_,?_⟩
  .rw[UM];grind
  .grind[UM]
 split at h
 .obtain⟨g,_,p,h⟩:=B7 h;obtain⟨_,rfl⟩:=J0 p;obtain⟨j,v,q,h⟩:=B7 h;obtain⟨n,_,A,h⟩:=B7 h;obtain⟨_,rfl⟩:=J0 A;obtain⟨l,b,B,h⟩:=B7 h;obtain⟨rfl,rfl⟩:=H7 h;obtain⟨P,u,o,k,c2,m,f2⟩:=i.expr _ _ _ _ q;rw[lP _ k]at m;rw[lS _ k]at f2;obtain⟨G,H,R,M,w,f3⟩:=i.block _ _ _ _ B;have c2:=c2;have m:(me u).1.length+(s.i+1+1)<=j.i:=m;have w:(me G).1.length+(j.i+1)<=l.i:=w;refine⟨.nd 23 [] 0 [u,G],ZN o k H R,by simp[K.k],(c2.cons M.l).node _ 23 [] 0 _ rfl,?_,?_⟩
  .rw[UN];grind
  .grind[UN]
 .obtain⟨g,v,p,h⟩:=B7 h;split at h
  .grind[bC,A1e]
  .obtain⟨j,_,q,h⟩:=B7 h;obtain⟨_,rfl⟩:=J0 q;obtain⟨rfl,rfl⟩:=H7 h;obtain⟨P,u,o,k,c2,m,f2⟩:=i.expr _ _ _ _ p;rw[lP _ k]at m;rw[lS _ k]at f2;have c2:=c2;refine⟨.nd 25 [] 0 [u],ZL o k,by simp[K.k],c2.l.node _ 25 [] 0 _ rfl,?_,?_⟩
   .rw[UP];simp;show _<=g.i+1;omega
   grind[UP]
end
def NC{L}(a:nY L)(b:zF L)(c:zU L):∀f,NF L (fV L f)
 |0=>by constructor<;>(intros;contradiction)
 |f+1=>
  have i:=NC a b c f;have y:=qY a f;⟨Sv i,Sq i,A0e i,Sz i,A2e i,Sx i,Ti a y i,Tf a b c y i,Ee i,Eg a i,Ei a y i,Dy i,Tc i,Td i,A3e a y i,Ep i⟩
def Um{L}(k:nY L)(m:zF L)(n:zU L){d}{x}(h:Ev L (jG 0 ⟨0,[],[]⟩) (.ok d x)):
 ∃b,(∀p∈b,Wn p/\17<=p.k/\p.k<=25)/\d.N.map C.fl=gU 0 0 (.nd 26 [] 0 b)/\d.T=W4 0 b/\(lW (dJ b)).length<=d.i/\mx 1 (dJ b)<=20:=by
 obtain⟨f,o⟩:=h;have h:=o f (vQ _);obtain⟨q,l,j,h⟩:=B7 h;obtain⟨rfl,rfl⟩:=H7 h;obtain⟨b,r,g,a,c,e,f⟩:=(NC k m n f).gk _ _ _ _ _ j;rw[bY]at g;subst g;have i:=c.node q.i 26 [] 0 ⟨26,0,0,0,l,[],0,-1,0⟩ rfl;refine⟨b,a,by simpa using i.1,by simpa[fP]using i.2.1,by omega,by omega⟩
def Eo(t:Tr):Prop:=∀a,aU a->aU (a++fQ a.length t)/\tr (a++fQ a.length t) (a.length+eL t-1)=t
def uN:∀(b),(∀x∈b,Eo x)->∀a,aU a->aU (a++M9 a.length b)/\(∀x∈dW a.length b,0<=x/\x<((a++M9 a.length b).length))/\(dW a.length b).map (λx=>tr (a++M9 a.length b) x.toNat)=b
 |[],_,a,h=>by grind[M9,dW]
 |t::r,c,a,h=>by
  obtain⟨d,k⟩:=c t (by simp) a h;have j:(a++fQ a.length t).length=a.length+eL t:=by rw[qQ,pW]
  obtain⟨f,g,i⟩:=uN r (λx m=>c x (by grind)) (a++fQ a.length t) d;rw[j]at f g i;have e:a++M9 a.length (t::r)=a++fQ a.length t++M9 (a.length+eL t) r:=by rw[M9,rZ]
  rw[e,dW];have l:=uP t;grind[qX]
theorem KK{c d:Type}:∀(a:List c) (b:List d),a.length=b.length->(a.zip b).map (·.1)=a
 |[],_,_=>rfl
 |x::a,[],h=>by grind
 |x::a,y::b,h=>by simp only[List.zip_cons_cons,xZ];rw[KK a b (by grind)]
theorem YT{d c e:Type}(f:c->e):∀(a:List d) (b),a.length=b.length->(a.zip b).map (λp=>f p.2)=b.map f
 |[],[],_=>rfl
 |[],_::_,h=>by grind
 |x::a,[],h=>by rfl
 |x::a,y::b,h=>by simp only[List.zip_cons_cons,xZ];rw[YT f a b (by grind)]
def BA{a}{b}{k}{c:List Y}(e:k≠9)(d:aU (a++M9 a.length b))(f:dP (iR k c (dW a.length b)) (a++M9 a.length b).length)
 (g:Tr.nd (iR k c (dW a.length b)).x ((iR k c (dW a.length b)).ej.map (·.1)) ((if (iR k c (dW a.length b)).x=8\/(iR k c (dW a.length b)).x=9 then [tr (a++M9 a.length b) (iR k c (dW a.length b)).ew.toNat] else [])++((iR k c (dW a.length b)).ej.map λp=>tr (a++M9 a.length b) p.2.toNat)++(iR k c (dW a.length b)).M.map λx=>tr (a++M9 a.length b) x.toNat)=.nd k c b):
 aU (a++fQ a.length (.nd k c b))/\tr (a++fQ a.length (.nd k c b)) (a.length+eL (.nd k c b)-1)=.nd k c b:=by
 rw[IQ _ _ _ _ e,<-List.append_assoc];refine⟨d.snoc f,?_⟩;grind[eL,M9,qQ,uW,sJ]
def LC(t)(h:Wf t):Eo t:=by
 induction h with
 |plain k z r=>
  intro d g;obtain⟨a,b,c⟩:=uN [] (by simp) d g;have i:iR k [] (dW d.length [])=⟨k,[],[],0⟩:=by rw[iR,zY (by omega),zY (by omega),zY (by omega)]
  refine BA (by omega) a ?_ ?_
  .rw[i];exact .inl ⟨z,r,rfl,rfl⟩
  grind
 |obj q j l nd H o m=>
  intro d g;obtain⟨a,b,c⟩:=uN j m d g;have i:iR 7 q (dW d.length j)=⟨7,q.zip (dW d.length j),[],0⟩:=rfl;have s:q.length=(dW d.length j).length:=by rw[zK,l]
  refine BA (by omega) a ?_ ?_
  .rw[i];refine .inr (.inl ⟨rfl,rfl,?_,λp u=>?_⟩)
   .grind[KK]
   .have:=List.of_mem_zip u;grind
  .rw[i];simp only[List.map_nil,lY];rw[KK _ _ s,YT (λx:Int=>tr (d++M9 d.length j) x.toNat) _ _ s,c,zY (by decide)];rfl
 |arr t o m=>
  intro d g;obtain⟨a,b,c⟩:=uN [t] (by grind) d g;have i:iR 8 [] (dW d.length [t])=⟨8,[],[],(dW d.length [t]).headD 0⟩:=rfl;rw[dW,dW]at b c;simp at c;refine BA (by omega) a ?_ ?_
  .rw[i,dW];exact .inr (.inr (.inl ⟨rfl,rfl,rfl,b _ (by simp)⟩))
  .rw[i,dW];grind
 |uni j r o m=>
  intro d g;obtain⟨a,b,c⟩:=uN j m d g;have i:iR 10 [] (dW d.length j)=⟨10,[],dW d.length j,0⟩:=rfl;refine BA (by omega) a ?_ ?_
  .rw[i];exact .inr (.inr (.inr (.inr ⟨rfl,rfl,by grind,b⟩)))
  grind
 |fn t f o u F D=>
  intro d g;obtain⟨a,b,c⟩:=uN f D d g;have l:(d++M9 d.length f).length=d.length+R6 f:=by rw[qQ,uW]
  obtain⟨n,c2⟩:=F _ a;rw[l]at n c2;have A:(d++M9 d.length f++fQ (d.length+R6 f) t).length=d.length+R6 f+eL t:=by rw[qQ,l,pW]
  have L:=uP t;have e:d++fQ d.length (.nd 9 [] (t::f))=d++M9 d.length f++fQ (d.length+R6 f) t++[⟨9,[],dW d.length f,((d.length+R6 f+eL t:Nat):Int)-1⟩]:=by
   rw[fQ,wY rfl,lX];simp
  rw[e];have v:dP ⟨9,[],dW d.length f,((d.length+R6 f+eL t:Nat):Int)-1⟩ (d++M9 d.length f++fQ (d.length+R6 f) t).length:=by
   refine .inr (.inr (.inr (.inl ⟨rfl,rfl,?_,?_,λx B=>?_⟩)))
   .grind
   .grind
   .grind
  refine⟨n.snoc v,?_⟩;have w:d.length+eL (.nd 9 [] (t::f))-1=(d++M9 d.length f++fQ (d.length+R6 f) t).length:=by rw[A,eL,R6];omega
  rw[w,sJ n v];simp only[List.map_nil,lY];rw[wY (.inr trivial)];have y:(((d.length+R6 f+eL t:Nat):Int)-1).toNat=d.length+R6 f+eL t-1:=by omega
  rw[y,c2];have G:(dW d.length f).map (λx=>tr (d++M9 d.length f++fQ (d.length+R6 f) t) x.toNat)=f:=by
   refine Eq.trans (List.map_congr_left λx B=>?_) c;exact qX _ a (by grind)
  grind
mutual
theorem FG:∀(t:K),Wn t->∀a,aU a->aU (a++fP a.length t)
 |.ty none,_,a,h=>by grind[fP]
 |.ty (some t),b,a,h=>by rw[fP];exact(LC t b a h).1
 |.nd k f n c,b,a,h=>by rw[fP];rw[Wn]at b;exact EC c b.2.2 a h
theorem EC:∀(c:List K),dR c->∀a,aU a->aU (a++W4 a.length c)
 |[],_,a,h=>by grind[W4]
 |p::r,b,a,h=>by
  rw[dR]at b;have d:=FG p b.1 a h;have e:=EC r b.2 _ d;rw[qQ,sT]at e;grind[W4]
end
theorem xU(k)(a)(n)(l):(bP k a n l).text=a/\(bP k a n l).n=n:=by
 grind[bP]
theorem JC:∀(a) (b c),(aZ b c a).length=a.length
 |[],_,_=>rfl
 |p::r,b,c=>by rw[aZ,jQ,jQ,JC r]
mutual
theorem OS:∀(t:K),Wn t->∀(N:List C) (T:List Ty) (b d:List C) (a e:List Ty),N.map C.fl=b++gU b.length a.length t++d->T=a++fP a.length t++e->aU a->At N T t (cR b.length a.length t)
 |.ty none,_,N,T,b,d,a,e,_,_,_=>by rfl
 |.ty (some t),f,N,T,b,d,a,e,_,h,g=>by
  rw[At,cR];obtain⟨l,w⟩:=LC t f a g;have y:=uP t;have x:(a++fQ a.length t).length=a.length+eL t:=by rw[qQ,pW]
  rw[fP]at h;grind[qX]
 |.nd k m n c,f,N,T,b,d,a,e,i,h,g=>by
  rw[Wn]at f;rw[At,cR];rw[fP]at h;rw[gU]at i;have s:=congrArg List.length i;simp only[uZ,qQ,Z3,jQ,xQ]at s;have o:b.length+aA c<N.length:=by omega
  have j:(N[b.length+aA c]).fl=bP k m n (aZ b.length a.length c):=by
   have l:(N.map C.fl)[b.length+aA c]'(by grind)=(N[b.length+aA c]).fl:=by simp
   rw[<-l];simp only[i];rw[List.getElem_append_left (by grind),List.getElem_append_right (by omega)];rw[List.getElem_append_right (by grind)];simp[Z3]
  have q:=(congrArg C.x j).trans (O8 _ _ _ _);have v:=(congrArg C.text j).trans (xU _ _ _ _).1;have u:=(congrArg C.n j).trans (xU _ _ _ _).2;refine⟨b.length+aA c,by grind[nN],o,q,v,u,aZ b.length a.length c,?_,?_⟩
  .grind[Pd,Ph,uZ,JC]
  .exact WX c f.2.2 N T b ([bP k m n (aZ b.length a.length c)]++d) a e (by grind) h g
theorem WX:∀(c:List K),dR c->∀(N:List C) (T:List Ty) (b d:List C) (a e:List Ty),N.map C.fl=b++R9 b.length a.length c++d->T=a++W4 a.length c++e->aU a->iX N T c (aZ b.length a.length c)
 |[],_,_,_,_,_,_,_,_,_,_=>by rfl
 |p::r,f,N,T,b,d,a,e,i,h,g=>by
  rw[dR]at f;rw[R9]at i;rw[W4]at h;rw[iX,aZ];refine⟨_,_,rfl,OS p f.1 N T b (R9 (b.length+nN p) (a.length+nT p) r++d) a (W4 (a.length+nT p) r++e) (by grind) (by grind) g,?_⟩;have:=WX r f.2 N T (b++gU b.length a.length p) d (a++fP a.length p) e (by grind[qQ,P8,sT]) (by grind[qQ,sT]) (FG p f.1 a g);grind[qQ,P8,sT]
end
/-!### How much it is -/
mutual
theorem U7:∀t:K,Wn t->Gd t
 |.ty _,_=>by simp[Gd]
 |.nd k b n a,h=>by rw[Wn]at h;rw[Gd];exact⟨h.1,ZF a h.2.2⟩
theorem ZF:∀a:List K,dR a->oE a
 |[],_=>trivial
 |p::r,h=>⟨U7 p h.1,ZF r h.2⟩
end
def gK:List K->Nat
 |[]=>0
 |.ty _::r=>gK r+1
 |.nd _ _ _ _::r=>gK r
theorem IM:∀b a,gK (b++a)=gK b+gK a
 |[],a=>by simp[gK]
 |.ty _::r,a=>by rw[kZ,gK,gK,IM r];omega
 |.nd _ _ _ _::r,a=>by rw[kZ,gK,gK,IM r]
theorem PL:∀a,(∀p∈a,1<=p.k)->gK a=0
 |[],_=>rfl
 |.ty o::r,h=>by
  have:=h (.ty o) (by simp);cases o<;>simp[K.k]at this
 |.nd _ _ _ _::r,h=>by rw[gK];exact PL r λp b=>h p (by grind)
theorem pT{a:List K}{l:bZ}(h:a.map K.k=l)(b:∀x∈l,1<=x):gK a=0:=by
 grind[PL,List.mem_map_of_mem]
theorem tZ:∀a,gK a<=a.length
 |[]=>vQ _
 |.ty o::r=>by have:=tZ r;grind[gK,jQ]
 |.nd _ _ _ _::r=>by have:=tZ r;grind[gK,jQ]
theorem yU{p}(h:1<=p.k)(r):gK (p::r)=gK r:=by
 cases p with
 |nd k b n a=>rfl
 |ty o=>cases o<;>simp[K.k]at h
def F7{c A B}[Decidable c](h:if c then A else B):(c/\A)\/(¬c/\B):=by
 grind
theorem Xf{k}{g}(h:bJ k (g.map K.k)):gK g<=1:=by
 unfold bJ at h;obtain⟨_,h⟩|⟨_,h⟩:=F7 h
 .simp_all[pT]
 obtain⟨_,h⟩|⟨_,h⟩:=F7 h
 .obtain⟨j,r,h,t,D⟩:=h;have B:g.length=j.length+2:=by have:=congrArg List.length h;simpa using this
  have e:g=g.take j.length++g.drop j.length:=(List.take_append_drop _ _).symm;have n:(g.take j.length).map K.k=j:=by rw[List.map_take,h];simp
  have p:(g.drop j.length).map K.k=[r,26]:=by rw[List.map_drop,h];simp
  obtain⟨a,b,q,v,w⟩:=k2 p;rw[e,IM,pT n (λx d=>by grind),q];have:gK [b]=0:=yU (by omega) [];cases a<;>(grind[gK])
 obtain⟨_,h⟩|⟨_,h⟩:=F7 h
 .obtain⟨x,j,h,d,s⟩:=h;rw[pT h (λy f=>by obtain rfl|f:=jW.1 f;exact d.1;exact(s y f).1)];omega
 obtain⟨_,h⟩|⟨_,h⟩:=F7 h
 .obtain⟨x,h,_⟩:=h;obtain⟨a,rfl,_⟩:=k1 h;grind[tZ]
 obtain⟨_,h⟩|⟨_,h⟩:=F7 h
 .obtain⟨x,y,h,d,f⟩:=h;rw[pT h (λz i=>by simp at i;obtain rfl|rfl:=i;exact d.1;exact f.1)];omega
 obtain⟨_,h⟩|⟨_,h⟩:=F7 h
 .rw[pT rfl (λy f=>by grind)];omega
 obtain⟨_,h⟩|⟨_,h⟩:=F7 h
 .rw[pT rfl (λy f=>(h y f).1)];omega
 obtain⟨_,h⟩|⟨_,h⟩:=F7 h
 .obtain⟨x,h,d⟩:=h;obtain⟨a,b,rfl,l,m⟩:=k2 h;rw[yU (by rw[l];exact d.1)];grind[tZ]
 obtain⟨_,h⟩|⟨_,h⟩:=F7 h
 .obtain⟨x,h,_⟩:=h;obtain⟨a,rfl,_⟩:=k1 h;grind[tZ]
 obtain⟨_,h⟩|⟨_,h⟩:=F7 h
 .obtain⟨x,y,h,d,f⟩:=h;obtain⟨a,b,rfl,l,m⟩:=k2 h;have n:gK [b]=0:=yU (by rw[m];exact f.1) [];cases a<;>(grind[gK])
 obtain⟨_,h⟩|⟨_,h⟩:=F7 h
 .obtain⟨x,y,z,h,d,f,i⟩:=h;rw[pT h (λu o=>by simp at o;obtain rfl|rfl|rfl:=o;exact d.1;exact f.1;exact i.1)];omega
 obtain⟨_,h⟩|⟨_,h⟩:=F7 h
 .obtain⟨x,z,h,d,_⟩:=h;obtain⟨a,b,c,rfl,l,m,A⟩:=k3 h;rw[yU (by rw[l];exact d.1),yU (by omega)];grind[tZ]
 obtain⟨_,h⟩|⟨_,h⟩:=F7 h
 .obtain⟨x,h,d⟩:=h;rw[pT h (λz i=>by simp at i;obtain rfl|rfl:=i;exact d.1;omega)];omega
 obtain⟨_,h⟩|⟨_,h⟩:=F7 h
 .rw[pT rfl (λy f=>by grind)];omega
 grind
/-!### The rows of types are short -/
theorem Ze{c d:Type}(a:List c)(b:List d):(a.zip b).length<=b.length:=by grind
theorem JG:∀a,a.length<=R6 a
 |[]=>vQ _
 |t::r=>by have:=JG r;have:=uP t;grind[R6]
mutual
theorem KY:∀(t:Tr) (b:Nat),∀y∈fQ b t,y.M.length<=eL t/\y.ej.length<=eL t
 |.nd k d c,b,y,a=>by
  rw[eL];rw[fQ]at a;split at a
  .exact uy c b y a
  .rw[qW,zW]at a;obtain a|rfl:=a
   .have:=LP c b y a;omega
   grind[JG,Ze,dW,zK,iR,xQ]
theorem LP:∀(c:List Tr) (b:Nat),∀y∈M9 b c,y.M.length<=R6 c/\y.ej.length<=R6 c
 |[],b,y,a=>by grind[M9]
 |t::r,b,y,a=>by
  rw[M9,qW]at a;rw[R6];obtain a|a:=a
  .have:=KY t b y a;omega
  .have:=LP r _ y a;omega
theorem uy:∀(c:List Tr) (b:Nat),∀y∈lX b c,y.M.length<=R6 c+1/\y.ej.length<=R6 c+1
 |[],b,y,a=>by
  grind[lX,zW]
 |t::r,b,y,a=>by
  rw[lX,qW,qW,zW]at a;rw[R6];obtain (a|a)|rfl:=a
  .have:=LP r _ y a;omega
  .have:=KY t _ y a;omega
  grind[JG,zK,xQ]
end
mutual
theorem vl:∀(t:K) (b:Nat),∀y∈fP b t,y.M.length<=nT t/\y.ej.length<=nT t
 |.ty none,b,y,a=>by grind[fP]
 |.ty (some t),b,y,a=>by rw[fP]at a;rw[nT];exact KY t b y a
 |.nd k d n c,b,y,a=>by rw[fP]at a;rw[nT];exact IU c b y a
theorem IU:∀(c:List K) (b:Nat),∀y∈W4 b c,y.M.length<=bV c/\y.ej.length<=bV c
 |[],b,y,a=>by grind[W4]
 |p::r,b,y,a=>by
  rw[W4,qW]at a;rw[bV];obtain a|a:=a
  .have:=vl p b y a;omega
  .have:=IU r _ y a;omega
end
/-!### The lengths -/
def SL:List Tr->Nat
 |[]=>0
 |t::r=>(bO t).length+30+SL r
def Cf{k}{a}{n}{b}(h:own k a n b):a.length<=30/\0<=n/\n<=999999999:=by
 unfold own at h;obtain⟨_,h⟩|⟨_,h⟩:=F7 h
 .grind
 obtain⟨_,h⟩|⟨_,h⟩:=F7 h
 .omega
 obtain⟨_,h⟩|⟨_,h⟩:=F7 h
 .grind
 obtain⟨_,h⟩|⟨_,h⟩:=F7 h
 .have:=h.1.2.1;omega
 obtain⟨_,h⟩|⟨_,h⟩:=F7 h
 .grind
 obtain⟨_,h⟩|⟨_,h⟩:=F7 h
 .refine⟨?_,by omega⟩;have:=h.1;simp at this;obtain rfl|rfl|rfl:=this<;>decide
 grind
inductive Sh:K->Prop
 |ty0:Sh (.ty none)
 |ty1 (t:Tr):Wf t->Sh (.ty (some t))
 |n1 (n:Int):0<=n/\n<=999999999->Sh (.nd 1 [] n [])
 |n2 (tx:Y):(tx.length<=30/\∀c∈tx,gH c.toNat=true)->Sh (.nd 2 tx 0 [])
 |n3 (n:Int):n=0\/n=1->Sh (.nd 3 [] n [])
 |n4:Sh (.nd 4 [] 0 [])
 |n5 (tx:Y):Q8 tx->Sh (.nd 5 tx 0 [])
 |n6 (ps:List K) (a b:K):(∀p∈ps,Wn p/\p.k=16)->(ps.map K.tx).Nodup->Wn a->iD a.k->Wn b->b.k=26->Sh (.nd 6 [] 0 (ps++[a,b]))
 |n7 (a:K) (ps:List K):Wn a->aO a.k->(∀p∈ps,Wn p/\aO p.k)->Sh (.nd 7 [] 0 (a::ps))
 |n8 (tx:Y) (a:K):Q8 tx->Wn a->aO a.k->Sh (.nd 8 tx 0 [a])
 |n9 (a b:K):Wn a->aO a.k->Wn b->aO b.k->Sh (.nd 9 [] 0 [a,b])
 |n10 (ps:List K):(∀p∈ps,Wn p/\p.k=15)->(ps.map K.tx).Nodup->Sh (.nd 10 [] 0 ps)
 |n11 (ps:List K):(∀p∈ps,Wn p/\aO p.k)->Sh (.nd 11 [] 0 ps)
 |n12 (tx:Y) (a b:K):tx∈[[61,61],[60],[43],[45],[42]]->Wn a->aO a.k->Wn b->aO b.k->Sh (.nd 12 tx 0 [a,b])
 |n13 (tx:Y) (a:K):tx∈[[33],[45],[116,121,112,101,111,102]]->Wn a->aO a.k->Sh (.nd 13 tx 0 [a])
 |n14 (a:K) (t:Tr):Wn a->aO a.k->Wf t->Sh (.nd 14 [] 0 [a,.ty (some t)])
 |n15 (tx:Y) (a:K):Q8 tx->Wn a->aO a.k->Sh (.nd 15 tx 0 [a])
 |n16 (tx:Y) (a:K):Q8 tx->Wn a->iD a.k->Sh (.nd 16 tx 0 [a])
 |n17 (tx:Y) (a b:K):Q8 tx->Wn a->iD a.k->Wn b->aO b.k->Sh (.nd 17 tx 0 [a,b])
 |n18 (tx:Y) (a:K):Q8 tx->Wn a->aO a.k->Sh (.nd 18 tx 0 [a])
 |n19 (tx:Y) (a b:K):Q8 tx->Wn a->aO a.k->Wn b->aO b.k->Sh (.nd 19 tx 0 [a,b])
 |n20 (a b c:K):Wn a->aO a.k->Wn b->aO b.k->Wn c->aO c.k->Sh (.nd 20 [] 0 [a,b,c])
 |n21 (a:K):Wn a->aO a.k->Sh (.nd 21 [] 0 [a])
 |n22 (a b c:K):Wn a->aO a.k->Wn b->b.k=26->Wn c->c.k=26\/c.k=-1->Sh (.nd 22 [] 0 [a,b,c])
 |n23 (a b:K):Wn a->aO a.k->Wn b->b.k=26->Sh (.nd 23 [] 0 [a,b])
 |n24 (a:K):Wn a->aO a.k->Sh (.nd 24 [] 0 [a])
 |n25 (a:K):Wn a->aO a.k->Sh (.nd 25 [] 0 [a])
 |n26 (ps:List K):(∀p∈ps,Wn p/\17<=p.k/\p.k<=25)->Sh (.nd 26 [] 0 ps)
theorem pJ{a}(b:Wn a)(h:iD a.k):∃t,a=.ty t:=uA (U7 a b) h
def Pj{a}(b:Wn a)(h:a.k=0):∃t,a=.ty (some t)/\Wf t:=by
 obtain⟨t,rfl⟩:=pJ b (.inr h);cases t with
 |none=>grind[K.k]
 |some t=>exact⟨t,rfl,b⟩
def AQ{t}(h:Wn t):Sh t:=by
 cases t with
 |ty o=>
  cases o with
  |none=>exact .ty0
  |some t=>exact .ty1 t h
 |nd ad f n k=>
  rw[Wn]at h;obtain⟨d,m,i⟩:=h;rw[S4]at i;have B:∀p∈k,p.k∈k.map K.k:=λp l=>List.mem_map_of_mem l;unfold bJ at d;obtain⟨g,d⟩|⟨V,d⟩:=F7 d
  .have P:k=[]:=by simpa using d
   subst P;obtain rfl|rfl|rfl|rfl|rfl:=g
   .obtain⟨rfl,h⟩:f=[]/\0<=n/\n<=999999999:=m;exact .n1 n h
   .obtain⟨h,rfl⟩:(f.length<=30/\∀c∈f,gH c.toNat=true)/\n=0:=m;exact .n2 f h
   .obtain⟨rfl,h⟩:f=[]/\(n=0\/n=1):=m;exact .n3 n h
   .obtain⟨rfl,rfl⟩:f=[]/\n=0:=by grind[own]
    exact .n4
   .obtain⟨h,rfl⟩:Q8 f/\n=0:=m;exact .n5 f h
  obtain⟨g,d⟩|⟨a5,d⟩:=F7 d
  .subst g;obtain⟨rfl,rfl,w⟩:f=[]/\n=0/\(k.dropLast.dropLast.map K.tx).Nodup:=by grind[own]
   obtain⟨v,r,h,H,hr⟩:=d;have e:k=k.take v.length++k.drop v.length:=(List.take_append_drop _ _).symm;have G:(k.take v.length).map K.k=v:=by rw[List.map_take,h];simp
   have L:(k.drop v.length).map K.k=[r,26]:=by rw[List.map_drop,h];simp
   obtain⟨a,b,M,T,N⟩:=k2 L;rw[M]at e;generalize k.take v.length=F at e G;subst e;rw[zD]at w;refine .n6 F a b (λp l=>⟨i p (by grind),H _ ?_⟩) w (i a (by simp)) (by grind) (i b (by simp)) N;grind
  obtain⟨g,d⟩|⟨a6,d⟩:=F7 d
  .subst g;obtain⟨rfl,rfl⟩:f=[]/\n=0:=by grind[own]
   obtain⟨x,v,h,j,S⟩:=d;cases k with
   |nil=>grind
   |cons a F=>
    simp at h;refine .n7 a F (i a (by simp)) (by grind) λp l=>⟨i p (by grind),S _ ?_⟩;grind
  obtain⟨g,d⟩|⟨a7,d⟩:=F7 d
  .obtain⟨x,h,j⟩:=d;obtain⟨a,rfl,rfl⟩:=k1 h;have q:=i a (by simp);obtain rfl|rfl|rfl|rfl|rfl|rfl|rfl:=g
   .obtain⟨h,rfl⟩:Q8 f/\n=0:=m;exact .n8 f a h q j
   .obtain⟨h,rfl⟩:f∈[[33],[45],[116,121,112,101,111,102]]/\n=0:=m;exact .n13 f a h q j
   .obtain⟨h,rfl⟩:Q8 f/\n=0:=m;exact .n15 f a h q j
   .obtain⟨h,rfl⟩:Q8 f/\n=0:=m;exact .n18 f a h q j
   .obtain⟨rfl,rfl⟩:f=[]/\n=0:=by grind[own]
    exact .n21 a q j
   .obtain⟨rfl,rfl⟩:f=[]/\n=0:=by grind[own]
    exact .n24 a q j
   .obtain⟨rfl,rfl⟩:f=[]/\n=0:=by grind[own]
    exact .n25 a q j
  obtain⟨g,d⟩|⟨a8,d⟩:=F7 d
  .obtain⟨x,y,h,j,u⟩:=d;obtain⟨a,b,rfl,rfl,rfl⟩:=k2 h;have q:=i a (by simp);have s:=i b (by simp);obtain rfl|rfl|rfl:=g
   .obtain⟨rfl,rfl⟩:f=[]/\n=0:=by grind[own]
    exact .n9 a b q j s u
   .obtain⟨h,rfl⟩:f∈[[61,61],[60],[43],[45],[42]]/\n=0:=m;exact .n12 f a b h q j s u
   .obtain⟨h,rfl⟩:Q8 f/\n=0:=m;exact .n19 f a b h q j s u
  obtain⟨g,d⟩|⟨a9,d⟩:=F7 d
  .subst g;obtain⟨rfl,rfl,w⟩:f=[]/\n=0/\(k.map K.tx).Nodup:=by grind[own]
   exact .n10 k (λp l=>⟨i p l,d _ (B p l)⟩) w
  obtain⟨g,d⟩|⟨aa,d⟩:=F7 d
  .subst g;obtain⟨rfl,rfl⟩:f=[]/\n=0:=by grind[own]
   exact .n11 k λp l=>⟨i p l,d _ (B p l)⟩
  obtain⟨g,d⟩|⟨ab,d⟩:=F7 d
  .subst g;obtain⟨rfl,rfl⟩:f=[]/\n=0:=by grind[own]
   obtain⟨x,h,j⟩:=d;obtain⟨a,b,rfl,rfl,s⟩:=k2 h;obtain⟨t,rfl,R⟩:=Pj (i b (by simp)) s;exact .n14 a t (i a (by simp)) j R
  obtain⟨g,d⟩|⟨ac,d⟩:=F7 d
  .subst g;obtain⟨A,rfl⟩:Q8 f/\n=0:=m;obtain⟨x,h,j⟩:=d;obtain⟨a,rfl,rfl⟩:=k1 h;exact .n16 f a A (i a (by simp)) j
  obtain⟨g,d⟩|⟨W,d⟩:=F7 d
  .subst g;obtain⟨A,rfl⟩:Q8 f/\n=0:=m;obtain⟨x,y,h,j,u⟩:=d;obtain⟨a,b,rfl,rfl,rfl⟩:=k2 h;exact .n17 f a b A (i a (by simp)) j (i b (by simp)) u
  obtain⟨g,d⟩|⟨Z,d⟩:=F7 d
  .subst g;obtain⟨rfl,rfl⟩:f=[]/\n=0:=by grind[own]
   obtain⟨x,y,z,h,j,u,D⟩:=d;obtain⟨a,b,c,rfl,rfl,rfl,rfl⟩:=k3 h;exact .n20 a b c (i a (by simp)) j (i b (by simp)) u (i c (by simp)) D
  obtain⟨g,d⟩|⟨a2,d⟩:=F7 d
  .subst g;obtain⟨rfl,rfl⟩:f=[]/\n=0:=by grind[own]
   obtain⟨x,z,h,j,D⟩:=d;obtain⟨a,b,c,rfl,rfl,s,rfl⟩:=k3 h;exact .n22 a b c (i a (by simp)) j (i b (by simp)) s (i c (by simp)) D
  obtain⟨g,d⟩|⟨a3,d⟩:=F7 d
  .subst g;obtain⟨rfl,rfl⟩:f=[]/\n=0:=by grind[own]
   obtain⟨x,h,j⟩:=d;obtain⟨a,b,rfl,rfl,s⟩:=k2 h;exact .n23 a b (i a (by simp)) j (i b (by simp)) s
  obtain⟨g,d⟩|⟨a4,d⟩:=F7 d
  .subst g;obtain⟨rfl,rfl⟩:f=[]/\n=0:=by grind[own]
   exact .n26 k λp l=>⟨i p l,d _ (B p l)⟩
  grind
def pc(d:Nat)(t:K):Pc:=⟨qE t,t.k,pr d t⟩
/-!### The scanner has no fault there -/
def Gt{b}(L:List Tk)(c:Sp->Option (Out b))(Q:St->b->Prop):Prop:=∃a x,Ev L c (.ok a x)/\Q a x
theorem Gt.bind{a b}{L}{c}{k:Sp->St->a->Option (Out b)}{Q}{R}(h:Gt L c Q)(i:∀s x,Q s x->Gt L (λr=>k r s x) R):Gt L (λr=>A8 (c r) (k r)) R:=by
 obtain⟨s,x,d,e⟩:=h;obtain⟨j,y,f,g⟩:=i s x e;exact⟨j,y,d.bind f,g⟩
theorem Gt.step{a}{L}{φ}{Q:St->a->Prop}(h:Gt L (λr=>φ (step L r)) Q):Gt L φ Q:=by
 obtain⟨s,x,b,c⟩:=h;exact⟨s,x,b.step,c⟩
def Gt.pure{a}{L:List Tk}{s}{x}{Q:St->a->Prop}(h:Q s x):Gt L (λ_=>some (.ok s x)) Q:=⟨s,x,Ev.pure,h⟩
def Gt.eq{a}{L}{b ψ}{Q:St->a->Prop}(h:Gt L b Q)(e:∀r,ψ r=b r):Gt L ψ Q:=by
 obtain⟨s,x,c,d⟩:=h;exact⟨s,x,c.eq e,d⟩
def Gt.gj{L:List Tk}{s:St}{t}{Q:St->Int->Prop}(h:Q ⟨s.i,s.N++[t],s.T⟩ s.N.length):Gt L (λ_=>aD s t) Q:=Gt.pure h
def Gt.pos{a}{L:List Tk}{c}[Decidable c]{b e:Sp->Option (Out a)}{Q}(d:c)(h:Gt L b Q):Gt L (λr=>if c then b r else e r) Q:=h.eq λ_=>wY d
theorem RD{L}{i}{k}{x}{r:List TT}(h:tt L i=(k,x)::r):(tk L i).x=k/\(tk L i).text=x/\tt L (i+1)=r:=by
 have a:=xq L i;have b:=xv L i;have c:=Xr L i;rw[h]at a b c;exact⟨a.symm,b.symm,c.symm⟩
theorem Gc{L}{i}{k}{x}{r:List TT}(h:tt L i=(k,x)::r)(a):aJ L i a=((k==5||k==2)&&has a x):=by
 grind[RD,aJ]
section
variable(L:List Tk)
def Qt(r:List TT)(s:St)(t:Tr)(a:St)(x:Int):Prop:=tt L a.i=r/\hH s t a x
def DtQ(t:Tr):Prop:=∀d s r,tt L s.i=eV t++r->Zl r->iN t+1<=20-d->Gt L (λq=>q.typ d s) (Qt L r s t)
def Dm(t:Tr)(a:Bool):Prop:=∀d s r,tt L s.i=eV t++r->eP r [61,62]=false->(a=false->eP r [124]=false)->iN t<=20-d->Gt L (λq=>q.ft d s) (Qt L r s t)
end
section
variable{L:List Tk}
end
def uL(r:List TT)(a:List Y):Bool:=
 match r with
 |[]=>false
 |(k,x)::_=>(k==5||k==2)&&has a x
def fo:List Y:=[[124],[61,62]]
def f5:List Y:=[[40],[46],[91],[97,115],[124],[61,62]]
def f3:List Y:=[[40],[46],[91],[97,115],[124],[61,62],[42]]
def f2:List Y:=[[40],[46],[91],[97,115],[124],[61,62],[42],[43],[45]]
def f1:List Y:=[[40],[46],[91],[97,115],[124],[61,62],[42],[43],[45],[61,61],[60]]
def f23:∀m∈f3,m∈f2:=by decide
section
variable(L:List Tk)
def Qn(r:List TT)(s:St)(t:K)(a:St)(x:Int):Prop:=tt L a.i=r/\eJ s t a x
def Cp(b:Sp->Option (Out Int))(k:Sp->St->Int->Option (Out Int))(r:List TT)(s:St)(t:K):Prop:=
 ∃a x,Qn L r s t a x/\∀R,Gt L (λq=>k q a x) R->Gt L (λq=>A8 (b q) (k q)) R
def P5(t:K):Prop:=∀d s r,tt L s.i=wt 5 (pt t)++r->uL r fo=false->wd 5 (pt t)<=20-d->Cp L (λq=>q.simple d s) (λq s x=>q.tail d s x) r s t
def P4(t:K):Prop:=∀d s r,tt L s.i=wt 4 (pt t)++r->uL r f5=false->wd 4 (pt t)<=20-d->Gt L (λq=>q.oper d s) (Qn L r s t)
def P3(t:K):Prop:=∀d s r,tt L s.i=wt 3 (pt t)++r->uL r f5=false->wd 3 (pt t)<=20-d->Cp L (λq=>q.oper d s) (λq s x=>q.row false d s x) r s t
def P2(t:K):Prop:=∀d s r,tt L s.i=wt 2 (pt t)++r->uL r f3=false->wd 2 (pt t)<=20-d->Cp L (λq=>q.prod d s) (λq s x=>q.row true d s x) r s t
def P1(t:K):Prop:=∀d s r,tt L s.i=(me t).1++r->uL r f1=false->(me t).2<=20-d->Gt L (λq=>q.comp d s) (Qn L r s t)
def PE(t:K):Prop:=∀d s r,tt L s.i=(me t).1++r->uL r f1=false->(me t).2+1<=20-d->Gt L (λq=>q.expr d s) (Qn L r s t)
end
/-!### How it begins -/
section
variable{L:List Tk}
end
def fw:List Y:=[[41],[93],[125],[44]]
def FwQ(r:List TT):Prop:=∃m a,r=sg m::a/\m∈fw
section
variable{L:List Tk}
/-!### Each kind of an expression -/
end
section
variable(L:List Tk)
end
section
variable{L:List Tk}
def vH{b}{i}(u:i∈J9 b){a c}{d}{s f}{g}{r r1}(l:tt L f.i=sg i::r1)(t:eJ s a f g)(o:Gt L (λq=>(if b then q.prod d else q.oper d) f.nx) (Qn L r f.nx c)):
 ∃e m,Qn L r s (.nd 12 i 0 [a,c]) e m/\∀R,Gt L (λq=>q.row b d e m) R->Gt L (λq=>q.row b d f g) R:=by
 obtain⟨e,y,p,n,j⟩:=o;have j:=j;refine⟨⟨e.i,e.N++[⟨12,g,y,0,[],i,0,-1,gD e g⟩],e.T⟩,e.N.length,⟨n,(t.cons j.l).node _ 12 i 0 _ rfl⟩,λR h=>?_⟩;have x:=(RD l).2.1;refine Gt.step (Gt.pos (by rw[Gc l,WC u];rfl) ?_);refine Gt.bind (Q:=λk w=>k=⟨e.i,e.N++[⟨12,g,y,0,[],(tk L f.i).text,0,-1,gD e g⟩],e.T⟩/\w=(e.N.length:Int)) ?_ ?_
 .refine Gt.bind (Q:=λk v=>k=e/\v=y) ⟨e,y,p,rfl,rfl⟩ ?_;rintro _ _ ⟨rfl,rfl⟩;exact Gt.gj ⟨rfl,rfl⟩
 grind
/-!### Statements -/
def FS(l:List TT):Prop:=∃k x r,l=(k,x)::r/\(k=1\/k=3\/k=4\/((k=5\/k=2)/\x∈yM++NV))
end
def Bd{c}(Z:Nat)(x:Option (Out c)):Prop:=∀b a,x=some (.ok b a)->b.i<=Z
theorem Bd.bind{c j}{Z}{x}{k:St->c->Option (Out j)}(h:Bd Z x)(g:∀s a,s.i<=Z->Bd Z (k s a)):Bd Z (A8 x k):=by
 intro l b e;obtain⟨i,a,d,f⟩:=B7 e;exact g i a (h _ _ d) _ _ f
theorem Bd.ok{c}{Z}{s}{a:c}(h:s.i<=Z):Bd Z (some (.ok s a)):=by
 intro d b e;grind
theorem Bd.jn{a}{Z}{L}{i}{e}:Bd Z (bC L i e:Option (Out a)):=by
 intro c b h;grind[bC]
def Bd.gj{Z}{s}{n}(h:s.i<=Z):Bd Z (aD s n):=Bd.ok h
def Bd.j4{Z}{s}{n}(h:s.i<=Z):Bd Z (bK s n):=Bd.ok h
def Bd.ite{a}{Z}{c}[Decidable c]{x y:Option (Out a)}(b:c->Bd Z x)(d:¬c->Bd Z y):Bd Z (if c then x else y):=by
 grind
def Bd.inside{Z}{L}{b}{d}{s}{p}(h:∀d,Bd Z (p d s)):Bd Z (aQ L b d s p):=
 Bd.ite (λ_=>Bd.ite (λ_=>Bd.jn) λ_=>h _) λ_=>Bd.jn
def End(L:List Tk)(Z:Nat):Prop:=∀i,(tk L i).x≠6->i+1<=Z
theorem End.m{L}{Z}(h:End L Z){i}{a}(c:aJ L i a=true):i+1<=Z:=by
 refine h i λb=>?_;grind[aJ]
theorem Bd.ey{Z}{L}(a:End L Z){s}{m}:Bd Z (aB L s m):=Bd.ite (λb=>Bd.ok (a.m b)) λ_=>Bd.jn
structure BF(Z:Nat)(r:Sp):Prop where
 typ:∀d s,s.i<=Z->Bd Z (r.typ d s)
 union:∀d s,s.i<=Z->Bd Z (r.union d s)
 f7:∀d s l,s.i<=Z->Bd Z (r.f7 d s l)
 ft:∀d s,s.i<=Z->Bd Z (r.ft d s)
 jc:∀d s l,s.i<=Z->Bd Z (r.jc d s l)
 j9:∀d s,s.i<=Z->Bd Z (r.j9 d s)
 M:∀p e d s nm l,s.i<=Z->Bd Z (r.M p e d s nm l)
 expr:∀d s,s.i<=Z->Bd Z (r.expr d s)
 comp:∀d s,s.i<=Z->Bd Z (r.comp d s)
 sum:∀d s,s.i<=Z->Bd Z (r.sum d s)
 prod:∀d s,s.i<=Z->Bd Z (r.prod d s)
 row:∀b d s x,s.i<=Z->Bd Z (r.row b d s x)
 oper:∀d s,s.i<=Z->Bd Z (r.oper d s)
 tail:∀d s x,s.i<=Z->Bd Z (r.tail d s x)
 simple:∀d s,s.i<=Z->Bd Z (r.simple d s)
 block:∀d s,s.i<=Z->Bd Z (r.block d s)
 fx:∀d s l,s.i<=Z->Bd Z (r.fx d s l)
 gd:∀d s,s.i<=Z->Bd Z (r.gd d s)
 any:∀d s,s.i<=Z->Bd Z (r.any d s)
 gk:∀d s l,s.i<=Z->Bd Z (r.gk d s l)
section
variable{L:List Tk}{Z:Nat}{r:Sp}
def Bd.two{s}{x}{p}(b:s.i+1<=Z)(h:∀s,s.i<=Z->Bd Z (p s)):Bd Z (gN L s x p):=Bd.bind (h s.nx b) λ_ _ a=>Bd.gj a
def Bd.js(a:End L Z)(i:BF Z r){d}{s}(h:s.i<=Z):Bd Z (aY L r d s):=Bd.ite (λb=>i.typ d s.nx (a.m b)) λ_=>Bd.ok h
def Bd.newName(a:End L Z){s}{b}:Bd Z (aN L s b):=
 Bd.ite (λc=>Bd.ite (λ_=>Bd.jn) λ_=>Bd.ok (a s.i (by omega))) λ_=>Bd.jn
theorem Bd.part(a:End L Z)(i:BF Z r){d}{s}{g}(h:s.i<=Z):∀p,Bd Z (part L r d s g p)
 |.typ=>Bd.bind (i.typ d s h) λ_ _ h=>Bd.ok h
 |.expr=>Bd.bind (i.expr d s h) λ_ _ h=>Bd.ok h
 |.obj=>Bd.bind (Bd.newName a) λ_ _ _=>Bd.bind (Bd.ey a) λ_ _ b=>Bd.bind (i.expr d _ b) λ_ _ c=>Bd.bind (Bd.gj c) λ_ _ f=>Bd.ok f
 |.par=>Bd.bind (Bd.newName a) λ_ _ e=>Bd.bind (Bd.js a i e) λ_ _ b=>Bd.bind (Bd.gj b) λ_ _ c=>Bd.ok c
def Kx(a:End L Z)(i:BF Z r):BF Z (step L r) where
 typ d s h:=Bd.inside λd=>i.union d s h;union d s h:=Bd.bind (i.ft d s h) λ_ _ f=>Bd.ite (λ_=>Bd.bind (i.f7 d _ _ f) λ_ _ g=>Bd.j4 g) λ_=>Bd.ok f;f7 d s l h:=Bd.ite (λc=>Bd.bind (i.ft d s.nx (a.m c)) λ_ _ f=>i.f7 d _ _ f) λ_=>Bd.ok h;ft d s h:=Bd.ite (λc=>i.jc d s.nx [] (a.m c)) λ_=>Bd.ite (λc=>Bd.bind (i.typ d s.nx (a.m c)) λ_ _ _=>Bd.bind (Bd.ey a) λ_ _ g=>Bd.j4 g) λ_=>
  Bd.ite (λc=>i.j9 d s.nx (a.m c)) λ_=>Bd.ite (λm=>Bd.j4 (a s.i (by omega))) λ_=>Bd.jn;jc d s l h:=Bd.ite (λc=>Bd.j4 (a.m c)) λ_=>Bd.bind (Bd.newName a) λ_ _ _=>Bd.bind (Bd.ey a) λ_ _ g=>Bd.bind (i.typ d _ g) λ_ _ _=>Bd.bind (Bd.ey a) λ_ _ k=>i.jc d _ _ k;j9 d s h:=Bd.bind (i.M _ _ d s _ _ h) λn l f=>Bd.ite (λc=>Bd.bind (i.typ d n.nx (a.m c)) λ_ _ g=>Bd.j4 g) λ_=>by
  grind[Bd.ok,Bd.jn]
 M p e d s nm l h:=Bd.ite (λc=>Bd.ok (a.m c)) λ_=>Bd.bind (Bd.ite (λ_=>Bd.ok h) λ_=>Bd.ey a) λ_ _ f=>Bd.bind (Bd.part a i f p) λ_ _ g=>i.M p e d _ _ _ g;expr d s h:=Bd.inside λd=>i.comp d s h;comp d s h:=Bd.bind (i.sum d s h) λ_ _ f=>Bd.ite (λc=>Bd.two (a.m c) λs h=>i.sum d s h) λ_=>Bd.ok f;sum d s h:=Bd.bind (i.prod d s h) λ_ _ f=>i.row _ d _ _ f;prod d s h:=Bd.bind (i.oper d s h) λ_ _ f=>i.row _ d _ _ f;row b d s x h:=Bd.ite (λc=>Bd.bind (Bd.two (a.m c) (by cases b;exact λs h=>i.oper d s h;exact λs h=>i.prod d s h)) λ_ _ f=>i.row b d _ _ f) λ_=>Bd.ok h;oper d s h:=Bd.ite (λc=>Bd.bind (Bd.inside λd=>i.oper d s.nx (a.m c)) λ_ _ f=>Bd.gj f) λ_=>Bd.bind (i.simple d s h) λ_ _ f=>i.tail d _ _ f;tail d s x h:=Bd.ite (λc=>Bd.bind (i.M _ _ d s.nx _ _ (a.m c)) λ_ _ f=>Bd.bind (Bd.gj f) λ_ _ g=>i.tail d _ _ g) λ_=>
  Bd.ite (λ_=>Bd.ite (λm=>Bd.bind (Bd.gj (a (s.i+1) (by omega))) λ_ _ g=>i.tail d _ _ g) λ_=>Bd.jn) λ_=>
  Bd.ite (λc=>Bd.bind (i.expr d s.nx (a.m c)) λ_ _ _=>Bd.bind (Bd.ey a) λ_ _ g=>Bd.bind (Bd.gj g) λ_ _ j=>i.tail d _ _ j) λ_=>
  Bd.ite (λc=>Bd.bind (i.typ d s.nx (a.m c)) λ_ _ f=>Bd.bind (Bd.gj f) λ_ _ g=>i.tail d _ _ g) λ_=>Bd.ok h;simple d s h:=Bd.ite (λm=>Bd.gj (a s.i (by omega))) λ_=>Bd.ite (λm=>Bd.gj (a s.i (by omega))) λ_=>Bd.ite (λm=>Bd.gj (a s.i (by omega))) λ_=>
  Bd.ite (λc=>Bd.gj (a.m c)) λ_=>Bd.ite (λc=>Bd.gj (a.m c)) λ_=>Bd.ite (λc=>Bd.gj (a.m c)) λ_=>
  Bd.ite (λ_=>Bd.bind (Bd.ey a) λ_ _ f=>Bd.bind (i.M _ _ d _ _ _ f) λ_ _ g=>Bd.bind (Bd.js a i g) λ_ _ j=>Bd.bind (i.block d _ j) λ_ _ k=>Bd.gj k) λ_=>
  Bd.ite (λc=>Bd.bind (i.M _ _ d s.nx _ _ (a.m c)) λ_ _ f=>Bd.gj f) λ_=>Bd.ite (λc=>Bd.bind (i.M _ _ d s.nx _ _ (a.m c)) λ_ _ f=>Bd.gj f) λ_=>
  Bd.bind (Bd.ey a) λ_ _ f=>Bd.bind (i.expr d _ f) λ_ _ _=>Bd.bind (Bd.ey a) λ_ _ j=>Bd.ok j;block d s h:=Bd.bind (Bd.ey a) λ_ _ f=>Bd.bind (i.fx d _ _ f) λ_ _ g=>Bd.gj g;fx d s l h:=Bd.ite (λc=>Bd.ok (a.m c)) λ_=>Bd.bind (i.gd d s h) λ_ _ f=>i.fx d _ _ f;gd d s h:=Bd.inside λd=>i.any d s h;any d s h:=Bd.ite (λ_=>Bd.ite (λm=>Bd.bind (Bd.js a i (a (s.i+1) (by omega))) λ_ _ _=>Bd.bind (Bd.ey a) λ_ _ g=>Bd.bind (i.expr d _ g) λ_ _ _=>Bd.bind (Bd.ey a) λ_ _ k=>Bd.gj k) λ_=>Bd.jn) λ_=>
  Bd.ite (λc=>Bd.bind (i.expr d s.nx (a.m c)) λ_ _ _=>Bd.bind (Bd.ey a) λ_ _ g=>Bd.gj g) λ_=>
  Bd.ite (λc=>Bd.bind (i.expr d s.nx (a.m c)) λ_ _ _=>Bd.bind (Bd.ey a) λ_ _ g=>Bd.gj g) λ_=>
  Bd.ite (λ_=>Bd.bind (Bd.ey a) λ_ _ f=>Bd.bind (i.expr d _ f) λ_ _ _=>Bd.bind (Bd.ey a) λ_ _ j=>Bd.bind (i.block d _ j) λq _ k=>Bd.bind (Bd.ite (λc=>i.block d q.nx (a.m c)) λ_=>Bd.ok k) λ_ _ o=>Bd.gj o) λ_=>
  Bd.ite (λ_=>Bd.bind (Bd.ey a) λ_ _ f=>Bd.bind (i.expr d _ f) λ_ _ _=>Bd.bind (Bd.ey a) λ_ _ j=>Bd.bind (i.block d _ j) λ_ _ k=>Bd.gj k) λ_=>
  Bd.bind (i.expr d s h) λn x f=>Bd.ite (λc=>Bd.ite (λ_=>Bd.jn) λ_=>Bd.bind (i.expr d ⟨n.i+1,n.N.take x.toNat,n.T⟩ (a.m c)) λ_ _ _=>Bd.bind (Bd.ey a) λ_ _ j=>Bd.gj j) λ_=>
   Bd.bind (Bd.ey a) λ_ _ g=>Bd.gj g;gk d s l h:=Bd.ite (λ_=>Bd.ok h) λ_=>Bd.bind (i.gd d s h) λ_ _ f=>i.gk d _ _ f
end
def XD{L}{Z}(a:End L Z):∀f,BF Z (fV L f)
 |0=>by constructor<;>(intros;intro _ _ h;cases h)
 |f+1=>Kx a (XD a f)
def Dl{L}{Z}(c:End L Z){a}{x}(h:Ev L (jG 0 ⟨0,[],[]⟩) (.ok a x)):a.i<=Z:=by
 obtain⟨f,d⟩:=h;have h:=d f (vQ _);exact(Bd.bind ((XD c f).gk 0 ⟨0,[],[]⟩ [] (wQ _)) λ_ _ b=>Bd.gj b) _ _ h
def RQ:∀(l:Y) (a B),0<=a->a<B->(∀c∈l,eO c.toNat=true)->0<=l.foldl (λn c=>10*n+(c.toNat:Int)-48) a/\l.foldl (λn c=>10*n+(c.toNat:Int)-48) a<B*10^l.length
 |[],a,B,d,e,_=>by grind
 |c::r,a,B,d,e,b=>by
  have f:=b c (by simp);simp only[eO,Bool.and_eq_true,decide_eq_true_eq]at f;have:=RQ r (10*a+c.toNat-48) (B*10) (by omega) (by omega) (λx g=>b x (by grind));grind[jQ,Int.pow_succ,Int.mul_comm,Int.mul_assoc]
def Kk(l):zF (M8 l).1:=by
 intro i b;obtain⟨_,c,a⟩:=SE l i b;have h:=RQ _ 0 1 (by omega) (by omega) a;have e:∀n:Nat,n<=9->1*10^n<=1000000000:=by
  intro n d;have:n=0\/n=1\/n=2\/n=3\/n=4\/n=5\/n=6\/n=7\/n=8\/n=9:=by omega
  obtain rfl|rfl|rfl|rfl|rfl|rfl|rfl|rfl|rfl|rfl:=this<;>decide
 grind[nA]
theorem wm(l)(h:(aV l).1=4):(aV l).2.1.length<=30/\∀c∈(aV l).2.1,gH c.toNat=true:=by
 unfold aV at h⊢;cases d:l.head? with
 |none=>simp
 |some c=>
  rw[d]at h;simp only at h⊢;cases e:eO c.toNat with
  |true=>
   grind[nK]
  |false=>
   rw[e]at h;simp at h⊢;cases f:gP c.toNat with
   |true=>
    grind[name]
   |false=>
    rw[f]at h;simp at h⊢;by_cases b:c.toNat=34
    .rw[wY b]at h⊢;unfold text at h⊢;split at h
     .omega
     .rename_i a;rw[zY a];rw[not_or]at a;refine⟨?_,λx g=>?_⟩
      .grind
      .obtain⟨k,i,rfl⟩:=List.getElem_of_mem g;rw[List.getElem_take];grind[BN]
    grind[oJ]
theorem TH:∀(f) (l) (a) (b),(∀t∈b,t.x=4->t.text.length<=30/\∀c∈t.text,gH c.toNat=true)->∀t∈(Q7 f l a b).1,t.x=4->t.text.length<=30/\∀c∈t.text,gH c.toNat=true
 |0,l,a,b,_=>by simp[Q7]
 |f+1,l,a,b,h=>by
  simp only[Q7];split
  .grind
  split
  .simp
  split
  .simp
  refine TH f l _ _ λt e d=>?_;grind[wm]
def Jz(l):zU (M8 l).1:=by
 intro i a;grind[M8,tk,List.getD,mQ,TH,vX]
theorem YK:∀(f) (l) (a) (c),c.length<=1000->(Q7 f l a c).1=[]\/∃b z,(Q7 f l a c).1=b++[⟨6,[],z⟩]/\b.length<=1000
 |0,l,a,c,_=>.inl rfl
 |f+1,l,a,c,h=>by
  simp only[Q7];split
  .grind
  split
  .simp
  split
  .simp
  .refine YK f l _ _ ?_;grind
def td(l):End (M8 l).1 1000:=by
 intro i a;have c:(M8 l).1=[]\/∃b z,(M8 l).1=b++[⟨6,[],z⟩]/\b.length<=1000:=by
  unfold M8;split
  .simp
  .grind[YK]
 grind[tk]
structure bH(N:List C)(T:List Ty)(ps:List K):Prop where
 wn:∀p∈ps,Wn p/\17<=p.k/\p.k<=25
 fe:N.map C.fl=gU 0 0 (.nd 26 [] 0 ps)
 types:T=W4 0 ps
 ke:(lW (dJ ps)).length<=1000
 deep:mx 1 (dJ ps)<=20
 fh:N.length<=1200
 jr:T.length<=300
def Dz{l}{N}{T}(h:dI l (.inr (N,T))):∃f,bH N T f:=by
 obtain⟨_,m,x,g,i,j,rfl,rfl⟩:=h;obtain⟨f,a,b,c,d,e⟩:=Um (Fh l) (Kk l) (Jz l) g;have k:=Dl (td l) g;exact⟨f,a,b,c,by omega,e,i,j⟩
section
variable{N:List C}{T:List Ty}{a:List K}
theorem bH.n(h:bH N T a):N.length=aA a+1:=by
 have:=congrArg List.length h.fe;grind[uZ,P8,nN]
theorem bH.t(h:bH N T a):T.length=bV a:=by rw[h.types,AH]
def bH.wl(h:bH N T a):dR a:=(S4 a).2 λp b=>(h.wn p b).1
def AO:aU []:=λi b=>by grind
theorem bH.ok(h:bH N T a):aU T:=by
 have:=EC a h.wl [] AO;rw[h.types];grind
def bH.ls(h:bH N T a)(i)(c:i<T.length):T[i].M.length<=300/\T[i].ej.length<=300:=by
 have d:T[i]∈W4 0 a:=by
  have:=mQ c;rw[<-h.types];exact this
 have e:=IU a 0 _ d;have b:=h.jr;rw[h.t]at b;omega
def bH.main(h:bH N T a):∃k,iX N T a N[N.length-1].M:=by
 have l:=h.n;have b:=OS (.nd 26 [] 0 a) (lT h.wn) N T [] [] [] [] (by simpa using h.fe) (by rw[h.types,fP];simp) AO;rw[At]at b;obtain⟨j,d,i,_,_,_,f,c,g⟩:=b;have e:j=N.length-1:=by
  rw[cR,nN]at d;simp at d;omega
 subst e;have c:N[N.length-1].M=f:=c;grind
end
abbrev Fr:=Y->Option Int
def Fr.no:Fr:=λ_=>none
def Fr.set(f:Fr)(x:Y)(i:Int):Fr:=λy=>if y=x then some i else f y
def bG(x:Y):List Fr->Option Int
 |[]=>none
 |f::r=>match bG x r with
  |some i=>some i
  |none=>f x
def iT(a:List Fr):Fr:=a.getLastD Fr.no
def G8(a:List Fr)(x:Y)(i:Int):List Fr:=a.dropLast++[(iT a).set x i]
def S2d(a)(x)(j)(i)(h:i+1=a.length):(G8 a x j)[i]?=some ((iT a).set x j):=by
 grind[List.length_dropLast,G8,List.getElem?_append_right]
theorem Fy(a)(x)(j)(i)(h:i+1<a.length):(G8 a x j)[i]?=a[i]?:=by
 grind[G8]
inductive Br where
 |ok (fs:List Fr) (to:List (Nat×Int))
 |bad (e:Int) (i:Nat)
def Br.and(r:Br)(k:List Fr->Br):Br:=
 match r with
 |.bad e i=>.bad e i
 |.ok a c=>match k a with
  |.bad e i=>.bad e i
  |.ok b d=>.ok b (c++d)
def Br.pop:Br->Br
 |.bad e i=>.bad e i
 |.ok a b=>.ok a.dropLast b
def Br.jb(r:Br)(x:Y)(j:Int):Br:=
 match r with
 |.bad e i=>.bad e i
 |.ok a b=>.ok (G8 a x j) b
def qK:List K->Bool
 |[_,.nd k _ _ _]=>k==6
 |_=>false
mutual
def cX(a:List Fr)(b:Nat):K->Br
 |.ty _=>.ok a []
 |.nd k d _ c=>
  if k=5 then match bG d a with
   |none=>.bad 5 b
   |some j=>.ok a [(b,j)]
  else if k=18 then match bG d a with
   |none=>.bad 5 (b+aA c)
   |some j=>(Br.ok a [(b+aA c,j)]).and λa=>bB false a b c
  else if k=17 then
   if (iT a d).isSome then .bad 6 (b+aA c)
   else (bB false (if qK c then G8 a d ((b+aA c:Nat):Int) else a) b c).jb d ((b+aA c:Nat):Int)
  else if k=16 then .ok (G8 a d ((b+aA c:Nat):Int)) []
  else if k=6 then (bB true (a++[Fr.no]) b c).pop
  else if k=26 then (bB false (a++[Fr.no]) b c).pop
  else bB false a b c
def bB(e:Bool)(a:List Fr)(b:Nat):List K->Br
 |[]=>.ok a []
 |.ty _::r=>bB e a b r
 |.nd k d n f::r=>(if e&&k==26 then bB false a b f else cX a b (.nd k d n f)).and λa=>bB e a (b+nN (.nd k d n f)) r
end
def Em(N:List C)(b a:Nat)(t:K):Prop:=∃A B,N.map C.fl=A++gU b a t++B/\A.length=b
def cY(N:List C)(b c:Nat)(a:List K):Prop:=∃A B,N.map C.fl=A++R9 b c a++B/\A.length=b
section
variable{N:List C}{b a:Nat}
def cY.head{p}{r}(h:cY N b a (p::r)):Em N b a p/\cY N (b+nN p) (a+nT p) r:=by
 obtain⟨A,B,h,c⟩:=h;rw[R9]at h;refine⟨⟨A,R9 (b+nN p) (a+nT p) r++B,by grind,c⟩,⟨A++gU b a p,B,by grind,?_⟩⟩;grind[qQ,P8]
theorem Em.parts{k}{d}{n}{c}(h:Em N b a (.nd k d n c)):cY N b a c/\∃i,(N[b+aA c]).fl=bP k d n (aZ b a c):=by
 obtain⟨A,B,h,e⟩:=h;rw[gU]at h;have f:=congrArg List.length h;simp only[uZ,qQ,Z3,jQ,xQ]at f;refine⟨⟨A,[bP k d n (aZ b a c)]++B,by grind,e⟩,by omega,?_⟩;have g:(N.map C.fl)[b+aA c]'(by grind)=(N[b+aA c]).fl:=by simp
 grind
theorem Em.ix{k}{d}{n}{c}:cR b a (.nd k d n c)=((b+aA c:Nat)):=by
 grind[cR,nN]
end
def px(b:Nat):List K->bZ
 |[]=>[]
 |.ty _::r=>px b r
 |.nd k c n a::r=>((b+aA a:Nat))::px (b+nN (.nd k c n a)) r
theorem U2(b c):∀a,(∀p∈a,1<=p.k)->aZ b c a=px b a
 |[],_=>rfl
 |.ty o::r,h=>by
  have:=h (.ty o) (by simp);cases o<;>simp[K.k]at this
 |.nd k e n a::r,h=>by
  rw[aZ,px,Em.ix,U2 _ _ r λp d=>h p (by grind)]
theorem EP:∀(c a) (b),px b (c++a)=px b c++px (b+aA c) a
 |[],a,b=>by rfl
 |.ty o::r,a,b=>by rw[kZ,px,px,EP r,aA,nN,Nat.zero_add]
 |.nd k d n c::r,a,b=>by rw[kZ,px,px,EP r,aA,kZ,Nat.add_assoc]
theorem Br.gp(a:List Fr)(l:List (Nat×Int))(k:List Fr->Br):(Br.ok a l).and k=match k a with
 |.bad e i=>.bad e i
 |.ok b c=>.ok b (l++c):=rfl
theorem Br.and_assoc(r:Br)(k h):(r.and k).and h=r.and λf=>(k f).and h:=by
 cases r with
 |bad e i=>rfl
 |ok a l=>
  rw[Br.gp,Br.gp];cases k a with
  |bad e i=>rfl
  |ok b c=>
   grind[Br.gp]
theorem Br.and_nil(r:Br):(r.and λf=>.ok f [])=r:=by
 cases r with
 |bad e i=>rfl
 |ok a l=>grind[Br.gp]
theorem xF(a)(b)(p)(r)(c:1<=p.k):bB false a b (p::r)=(cX a b p).and λf=>bB false f (b+nN p) r:=by
 cases p with
 |ty o=>cases o<;>simp[K.k]at c
 |nd k e n d=>rfl
theorem IF:∀(c d) (a) (b),(∀p∈c,1<=p.k)->bB false a b (c++d)=(bB false a b c).and λf=>bB false f (b+aA c) d
 |[],d,a,b,_=>by
  rw[bY,bB,Br.gp,aA,Nat.add_zero];grind
 |p::c,d,a,b,h=>by
  rw[kZ,xF a b p _ (h p (by simp)),xF a b p _ (h p (by simp)),Br.and_assoc];congr 1;funext f;rw[IF c d f _ λq e=>h q (by grind),aA,Nat.add_assoc]
def Zv{a:List K}(h:∀p∈a,1<=p.k)(c)(b j)(d):bB false c b (a.take (j+1))=(bB false c b (a.take j)).and λf=>cX f (b+aA (a.take j)) a[j]:=by
 rw[nQ d,IF _ _ _ _ λp e=>h p (List.mem_of_mem_take e)];simp_all[xF,mQ,bB,aA,nN,Br.and_nil]
theorem Lc{a}(h:∀p∈a,1<=p.k)(c)(b j){e}{i}(d:bB false c b (a.take j)=.bad e i):bB false c b a=.bad e i:=by
 have:=IF (a.take j) (a.drop j) c b λp f=>h p (List.mem_of_mem_take f);rw[List.take_append_drop,d]at this;exact this
theorem cY.at{N}:∀{a} {b d},cY N b d a->∀j (c),Em N (b+aA (a.take j)) (d+bV (a.take j)) a[j]
 |[],_,_,_,j,c=>by grind
 |p::r,b,d,h,0,c=>by simpa[aA,bV]using h.head.1
 |p::r,b,d,h,j+1,c=>by
  have:=cY.at h.head.2 j (by simpa using c);simpa[aA,bV,Nat.add_assoc]using this
theorem oG:∀(a) (b),(∀p∈a,1<=p.k)->(px b a).length=a.length
 |[],_,_=>rfl
 |.ty o::r,_,h=>by
  have:=h (.ty o) (by simp);cases o<;>simp[K.k]at this
 |.nd k e n d::r,b,h=>by rw[px,jQ,jQ,oG r _ λp c=>h p (by grind)]
def QO:∀(a) (b c),(∀p∈a,1<=p.k)->∀j (d),(px b a)[j]?=some (cR (b+aA (a.take j)) (c+bV (a.take j)) a[j])
 |[],_,_,_,j,d=>by grind
 |.ty o::r,_,_,h,_,_=>by
  have:=h (.ty o) (by simp);cases o<;>simp[K.k]at this
 |.nd k f n e::r,b,c,h,0,d=>by grind[px,aA,bV,Em.ix]
 |.nd k f n e::r,b,c,h,j+1,d=>by
  have:=QO r (b+nN (.nd k f n e)) (c+nT (.nd k f n e)) (λp g=>h p (by grind)) j (by grind);grind[px,List.getElem?_cons_succ,aA,bV,Nat.add_assoc]
theorem T2(a)(x)(j)(h:a≠[]):(G8 a x j).length=a.length:=by
 have:=List.length_pos_iff.2 h;grind[G8]
theorem O0{a b:List Fr}(h:a≠[])(e:b.length=a.length):b≠[]:=by
 grind
def Sl(b:List Fr)(r:Br):Prop:=∀a l,r=.ok a l->a.length=b.length
theorem Sl.and{a}{r}{k}(h:Sl a r)(d:∀f,f.length=a.length->Sl f (k f)):Sl a (r.and k):=by
 intro m l e;cases r with
 |bad e i=>grind[Br.and]
 |ok f1 c=>
  rw[Br.gp]at e;cases b:k f1 with
  |bad j n=>grind
  |ok f2 g=>
   rw[b]at e;simp at e;rw[<-e.1,d f1 (h f1 c rfl) f2 g b,h f1 c rfl]
theorem Sl.pop{a}{f}{r}(h:Sl (a++[f]) r):Sl a r.pop:=by
 intro c l e;cases r with
 |bad e i=>grind[Br.pop]
 |ok f1 b=>
  simp only[Br.pop,Br.ok.injEq]at e;have:=h f1 b rfl;grind
theorem Sl.jb{a}{r}(d:a≠[])(h:Sl a r)(x)(j):Sl a (r.jb x j):=by
 intro c l e;cases r with
 |bad e i=>grind[Br.jb]
 |ok f1 b=>
  simp only[Br.jb,Br.ok.injEq]at e;have:=h f1 b rfl;grind[T2,O0]
theorem Sl.ok{a b}{l}(h:b.length=a.length):Sl a (.ok b l):=by
 intro f1 c e;grind
def Sl.bad{a}{e}{i}:Sl a (.bad e i):=by
 intro f1 b e;grind
theorem Sl.of{d f}{r}(h:Sl f r)(e:f.length=d.length):Sl d r:=λa b c=>(h a b c).trans e
mutual
theorem UY:∀(t:K) (a:List Fr) (b:Nat),a≠[]->Sl a (cX a b t)
 |.ty _,a,b,_=>by rw[cX];grind[Sl.ok]
 |.nd k i n c,a,b,h=>by
  rw[cX];split
  .split
   .exact Sl.bad
   grind[Sl.ok]
  split
  .split
   .exact Sl.bad
   .exact Sl.and (Sl.ok rfl) λf e=>T9 c false f b (O0 h e)
  split
  .split
   .exact Sl.bad
   .refine Sl.jb h ?_ _ _;split
    .exact(T9 c false _ b (O0 h (T2 _ _ _ h))).of (T2 _ _ _ h)
    .exact T9 c false a b h
  split
  .grind[Sl.ok,T2]
  split
  .exact(T9 c true _ b (by simp)).pop
  split
  .exact(T9 c false _ b (by simp)).pop
  .exact T9 c false a b h
theorem T9:∀(c:List K) (d:Bool) (a:List Fr) (b:Nat),a≠[]->Sl a (bB d a b c)
 |[],d,a,b,_=>by rw[bB];grind[Sl.ok]
 |.ty _::r,d,a,b,h=>by rw[bB];exact T9 r d a b h
 |.nd k i n g::r,d,a,b,h=>by
  rw[bB];refine Sl.and ?_ λf e=>T9 r d f _ (O0 h e);split
  .exact T9 g false a b h
  .exact UY (.nd k i n g) a b h
end
theorem uO:∀b a,aA (b++a)=aA b+aA a
 |[],a=>by simp[aA]
 |p::r,a=>by rw[kZ,aA,aA,uO r];omega
def RO:∀a,(∀p∈a,1<=p.k)->a.length<=aA a
 |[],_=>vQ _
 |.ty o::r,h=>by
  have:=h (.ty o) (by simp);cases o<;>simp[K.k]at this
 |.nd k d n c::r,h=>by
  have:=RO r λp b=>h p (by grind);grind[aA,nN,jQ]
def cQ(a:bZ)(l:List (Nat×Int)):bZ:=l.foldl (λt p=>t.set p.1 p.2) a
theorem Xz(c)(a b):cQ c (a++b)=cQ (cQ c a) b:=by simp[cQ]
theorem uS(a)(l):(cQ a l).length=a.length:=by
 induction l generalizing a<;>simp_all[cQ]
def yj{k}{d e}{n}(h:T4 k d n)(c:T4 k e n):d=e:=by
 have q:∀{l:bZ},2<=l.length->l=l.dropLast.dropLast++[l.dropLast.getLastD 0,l.getLastD 0]:=by
  intro l p;obtain rfl|⟨f,b,rfl⟩:=List.eq_nil_or_concat l
  .grind
  .obtain rfl|⟨ys,a,rfl⟩:=List.eq_nil_or_concat f<;>grind
 unfold T4 at h c;by_cases c1:k=6
 .grind
 rw[zY c1]at h c;by_cases c2:k=7
 .rw[wY c2]at h c;obtain⟨a1,g,i⟩:=h;obtain⟨j,m,o⟩:=c;cases d with
  |nil=>grind
  |cons x f=>
   cases e<;>grind
 grind
def nG:bZ->bZ->Prop
 |x::r,y::s=>(x=0->y<=0)/\(y=0->x<=0)/\nG r s
 |_,_=>True
theorem rI:∀(a b),(∀x∈a,1<=x)->(∀x∈b,1<=x)->nG a b
 |[],_,_,_=>by simp[nG]
 |_::_,[],_,_=>by simp[nG]
 |x::r,y::s,c,d=>by
  have:=c x (by simp);have:=d y (by simp);exact⟨λh=>by omega,λh=>by omega,rI r s (λz e=>c z (by grind)) (λz e=>d z (by grind))⟩
def VF:∀(a b c d),a.length=b.length->nG a b->nG c d->nG (a++c) (b++d)
 |[],[],_,_,_,_,h=>h
 |[],_::_,_,_,h,_,_=>by grind
 |_::_,[],_,_,h,_,_=>by grind
 |x::r,y::s,c,d,g,e,f=>⟨e.1,e.2.1,VF r s c d (by grind) e.2.2 f⟩
theorem Xd{k}{a b}(h:bJ k a)(c:bJ k b)(P:a.length=b.length):nG a b:=by
 have one:∀{x y:Int},aO x->aO y->nG [x] [y]:=λm d=>rI _ _ (λz f=>by simp at f;subst f;exact m.1) (λz f=>by simp at f;subst f;exact d.1);have l:∀{x y:Int},iD x->iD y->(x=0->y<=0)/\(y=0->x<=0):=λm d=>⟨λ_=>by obtain h|h:=d<;>omega,λ_=>by obtain h|h:=m<;>omega⟩;have g:∀{x y:Int},aO x->aO y->(x=0->y<=0)/\(y=0->x<=0):=λm d=>⟨λh=>by have:=m.1;omega,λh=>by have:=d.1;omega⟩;unfold bJ at h c;by_cases c1:k=1\/k=2\/k=3\/k=4\/k=5
 .simp_all[wY,nG]
 rw[zY c1]at h c;by_cases c2:k=6
 .rw[wY c2]at h c;obtain⟨L,r,rfl,d,i⟩:=h;obtain⟨M,R,rfl,e,j⟩:=c;refine VF _ _ _ _ (by grind) (rI _ _ (λz f=>by grind) (λz f=>by grind)) ?_;exact⟨(l i j).1,(l i j).2,λh=>by omega,λh=>by omega,trivial⟩
 rw[zY c2]at h c;by_cases s:k=7
 .rw[wY s]at h c;obtain⟨x,L,rfl,d,i⟩:=h;obtain⟨y,M,rfl,e,j⟩:=c;exact rI _ _ (λz f=>by obtain rfl|f:=jW.1 f;exact d.1;exact(i z f).1) (λz f=>by obtain rfl|f:=jW.1 f;exact e.1;exact(j z f).1)
 rw[zY s]at h c;by_cases D:k=8\/k=13\/k=15\/k=18\/k=21\/k=24\/k=25
 .grind
 rw[zY D]at h c;by_cases t:k=9\/k=12\/k=19
 .rw[wY t]at h c;obtain⟨x,y,rfl,d,i⟩:=h;obtain⟨n,A,rfl,e,j⟩:=c;exact⟨(g d e).1,(g d e).2,one i j⟩
 rw[zY t]at h c;by_cases F:k=10
 .simp_all[wY,rI]
 rw[zY F]at h c;by_cases u:k=11
 .rw[wY u]at h c;exact rI _ _ (λz f=>(h z f).1) (λz f=>(c z f).1)
 rw[zY u]at h c;by_cases v:k=14
 .rw[wY v]at h c;obtain⟨x,rfl,d⟩:=h;obtain⟨y,rfl,e⟩:=c;exact⟨(g d e).1,(g d e).2,λ_=>by omega,λ_=>by omega,trivial⟩
 rw[zY v]at h c;by_cases w:k=16
 .rw[wY w]at h c;obtain⟨x,rfl,d⟩:=h;obtain⟨y,rfl,e⟩:=c;exact⟨(l d e).1,(l d e).2,trivial⟩
 rw[zY w]at h c;by_cases o:k=17
 .rw[wY o]at h c;obtain⟨x,y,rfl,d,i⟩:=h;obtain⟨n,A,rfl,e,j⟩:=c;exact⟨(l d e).1,(l d e).2,one i j⟩
 rw[zY o]at h c;by_cases p:k=20
 .rw[wY p]at h c;obtain⟨x,y,z,rfl,d,i,G⟩:=h;obtain⟨n,A,N,rfl,e,j,H⟩:=c;exact⟨(g d e).1,(g d e).2,(g i j).1,(g i j).2,one G H⟩
 rw[zY p]at h c;by_cases q:k=22
 .rw[wY q]at h c;obtain⟨x,z,rfl,d,i⟩:=h;obtain⟨n,N,rfl,e,j⟩:=c;exact⟨(g d e).1,(g d e).2,λ_=>by omega,λ_=>by omega,λ_=>by omega,λ_=>by omega,trivial⟩
 rw[zY q]at h c;by_cases B:k=23
 .rw[wY B]at h c;obtain⟨x,rfl,d⟩:=h;obtain⟨y,rfl,e⟩:=c;exact⟨(g d e).1,(g d e).2,λ_=>by omega,λ_=>by omega,trivial⟩
 grind[rI]
section
variable{N:List C}{T:List Ty}
mutual
theorem Zx:∀(t a:K) (i:Int),Gd t->Gd a->(t.k=0->a.k<=0)->(a.k=0->t.k<=0)->At N T t i->At N T a i->t=a
 |.ty none,a,i,_,d,_,_,h,g=>by
  rw[At]at h;subst h;cases a with
  |ty o=>
   cases o<;>grind[At]
  |nd k s n f=>grind[At]
 |.ty (some t),a,i,_,d,b,_,h,g=>by
  have b:=b rfl;rw[At]at h;obtain⟨j,rfl,_,e⟩:=h;cases a with
  |ty o=>
   cases o<;>grind[At]
  |nd k s n f=>
   rw[Gd]at d;exfalso;have m:=d.1;have B:k<=0:=b;unfold bJ at m;rw[zY (by omega),zY (by omega),zY (by omega),zY (by omega),zY (by omega),zY (by omega),zY (by omega),zY (by omega),zY (by omega),zY (by omega),zY (by omega),zY (by omega),zY (by omega),zY (by omega)]at m;omega
 |.nd k s n f,a,i,q,d,a4,b,h,g=>by
  rw[Gd]at q;rw[At]at h;obtain⟨j,rfl,hj,W,e2,e3,l,z,v⟩:=h;cases a with
  |ty o=>
   cases o with
   |none=>grind[At]
   |some a=>
    have B:k<=0:=b rfl;exfalso;have m:=q.1;unfold bJ at m;rw[zY (by omega),zY (by omega),zY (by omega),zY (by omega),zY (by omega),zY (by omega),zY (by omega),zY (by omega),zY (by omega),zY (by omega),zY (by omega),zY (by omega),zY (by omega),zY (by omega)]at m;omega
  |nd M V P c=>
   rw[Gd]at d;rw[At]at g;obtain⟨H,a5,a6,Z,a2,a3,a7,A,w⟩:=g;have:H=j:=by omega
   subst this;obtain rfl:k=M:=by omega
   obtain rfl:s=V:=by grind
   obtain rfl:n=P:=by omega
   obtain rfl:=yj z A;have D:(f.map K.k).length=(c.map K.k).length:=by rw[uZ,uZ,<-IB v,<-IB w]
   rw[ID f c l q.2 d.2 (Xd q.1 d.1 D) v w]
theorem ID:∀(f c:List K) (l:bZ),oE f->oE c->nG (f.map K.k) (c.map K.k)->iX N T f l->iX N T c l->f=c
 |[],c,l,_,_,_,h,g=>by
  rw[iX]at h;subst h;cases c<;>grind[iX]
 |p::r,c,l,d,u,b,h,g=>by
  rw[iX]at h;obtain⟨i,L,rfl,x,F⟩:=h;cases c with
  |nil=>grind[iX]
  |cons R S=>
   rw[iX]at g;obtain⟨i',a8,e,y,G⟩:=g;simp at e;obtain⟨rfl,rfl⟩:=e;have b:=b;rw[Zx p R i d.1 u.1 b.1 b.2.1 x y,ID r S L d.2 u.2 b.2.2 F G]
end
def Xi{a b}{e}(g:∀p∈a,Gd p/\17<=p.k/\p.k<=25)(i:∀p∈b,Gd p/\17<=p.k/\p.k<=25)(j:iX N T a e)(k:iX N T b e):a=b:=by
 have f:∀d:List K,(∀p∈d,Gd p)->oE d:=by
  intro d;induction d with
  |nil=>intro _;trivial
  |cons q r m=>intro h;exact⟨h q (by simp),m λp c=>h p (by grind)⟩
 refine ID a b e (f a λp c=>(g p c).1) (f b λp c=>(i p c).1) (rI _ _ (λx l=>?_) (λx l=>?_)) j k<;>grind
end
def xN:Y:=[120]
theorem RJ:Q8 xN:=⟨by decide,by decide,by decide,by decide,λc a=>by simp[xN]at a;subst a;decide⟩
theorem ED:∀a,a.length<=aA a+gK a
 |[]=>vQ _
 |.ty o::r=>by have:=ED r;grind[aA,gK,nN,jQ]
 |.nd k c n b::r=>by have:=ED r;grind[aA,gK,nN,jQ]
theorem Db(k)(a)(n)(l):(bP k a n l).M.length<=l.length:=by
 grind[bP]
mutual
theorem IW:∀(t:K),Gd t->∀b c,∀m∈gU b c t,m.M.length<=nN t
 |.ty _,_,b,c,m,a=>by grind[gU]
 |.nd k e n d,h,b,c,m,a=>by
  rw[Gd]at h;rw[gU,qW,zW]at a;rw[nN];obtain a|rfl:=a
  .have:=QM d h.2 b c m a;omega
  grind[Db,aZ,JC,ED,Xf]
theorem QM:∀(d:List K),oE d->∀b c,∀m∈R9 b c d,m.M.length<=aA d
 |[],_,b,c,m,a=>by grind[R9]
 |p::r,h,b,c,m,a=>by
  rw[R9,qW]at a;rw[aA];obtain a|a:=a
  .have:=IW p h.1 b c m a;omega
  .have:=QM r h.2 _ _ m a;omega
end
mutual
theorem OY:∀(t:K),Wn t->∀b c,∀m∈gU b c t,m.text.length<=30
 |.ty _,_,b,c,m,a=>by grind[gU]
 |.nd k e n d,h,b,c,m,a=>by
  rw[Wn]at h;rw[gU,qW,zW]at a;obtain a|rfl:=a
  .exact YA d h.2.2 b c m a
  .rw[(xU _ _ _ _).1];exact(Cf h.2.1).1
theorem YA:∀(d:List K),dR d->∀b c,∀m∈R9 b c d,m.text.length<=30
 |[],_,b,c,m,a=>by grind[R9]
 |p::r,h,b,c,m,a=>by
  rw[R9,qW]at a;rw[dR]at h;obtain a|a:=a
  .exact OY p h.1 b c m a
  .exact YA r h.2 _ _ m a
end
theorem bH.tx{N}{T}{b}(h:bH N T b):∀a∈N,a.text.length<=30:=λa e=>by
 have c:a.fl∈gU 0 0 (.nd 26 [] 0 b):=by
  rw[<-h.fe];exact List.mem_map_of_mem e
 have d:=OY _ (lT h.wn) 0 0 _ c;exact d
mutual
theorem KZ:∀(t:Tr) (b:Nat),∀y∈fQ b t,y.x=8\/y.x=9\/y.ew=0
 |.nd k d c,b,y,a=>by
  rw[fQ]at a;split at a
  .exact vh c b y a
  .rw[qW,zW]at a;obtain a|rfl:=a
   .exact LQ c b y a
   grind[iR]
theorem LQ:∀(c:List Tr) (b:Nat),∀y∈M9 b c,y.x=8\/y.x=9\/y.ew=0
 |[],b,y,a=>by grind[M9]
 |t::r,b,y,a=>by
  rw[M9,qW]at a;obtain a|a:=a
  .exact KZ t b y a
  .exact LQ r _ y a
theorem vh:∀(c:List Tr) (b:Nat),∀y∈lX b c,y.x=8\/y.x=9\/y.ew=0
 |[],b,y,a=>by
  grind[lX]
 |t::r,b,y,a=>by
  rw[lX,qW,qW,zW]at a;obtain (a|a)|rfl:=a
  .exact LQ r _ y a
  .exact KZ t _ y a
  simp
end
mutual
theorem vo:∀(t:K) (b:Nat),∀y∈fP b t,y.x=8\/y.x=9\/y.ew=0
 |.ty none,b,y,a=>by grind[fP]
 |.ty (some t),b,y,a=>by grind[fP,KZ]
 |.nd k d n c,b,y,a=>by rw[fP]at a;exact IV c b y a
theorem IV:∀(c:List K) (b:Nat),∀y∈W4 b c,y.x=8\/y.x=9\/y.ew=0
 |[],b,y,a=>by grind[W4]
 |p::r,b,y,a=>by
  rw[W4,qW]at a;obtain a|a:=a
  .exact vo p b y a
  .exact IV r _ y a
end
theorem bH.of{N}{T}{b}(h:bH N T b):∀t∈T,t.x=8\/t.x=9\/t.ew=0:=λt a=>by
 rw[h.types]at a;grind[IV]
