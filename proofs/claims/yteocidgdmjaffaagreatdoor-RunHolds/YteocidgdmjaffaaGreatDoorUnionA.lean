/-
  A part of the proof.
-/
import Derived.Test.YteocidgdmjaffaaGreatDoorWriteA
import Derived.Test.YteocidgdmjaffaaGreatDoorCheckA
import Derived.Test.YteocidgdmjaffaaGreatDoorBindC
set_option maxHeartbeats 0
set_option linter.all false
set_option maxRecDepth 100000
namespace Go.Proofs.YteocidgdmjaffaaGreatDoor
open Go.Proofs.Tryz
open Go.RowKit Go.Maps
def bT(T:List Ty)(x:Int):Tr:=tr T x.toNat
theorem XA:∀l a,I9 (l++a)=I9 l++I9 a
 |[],_=>by rfl
 |t::r,a=>by rw[kZ,I9,I9,XA r a,rZ]
theorem Rg(t):I9 [t]=flat t:=by simp[I9]
def A4c(T)(a:bZ){j}(b):I9 ((a.take (j+1)).map (bT T))=I9 ((a.take j).map (bT T))++flat (bT T a[j]):=by
 grind[nQ,iY,XA,Rg]
def xw{T}{z}(a:aU T)(c)(b:T[z].x=10):flat (tr T z)=I9 (T[z].M.map (bT T)):=by
 rw[U0 a c,flat,wY b,zY (by omega),BH a c (.inr b)];rfl
def A5c{T}{z}(a:aU T)(c)(b:T[z].x≠10):flat (tr T z)=[tr T z]:=by
 simp_all[U0,flat,zY]
def YE:∀l,l.length*5<=dF l
 |[]=>by simp
 |t::r=>by have:=YE r;grind[jQ,dF]
theorem Ld(T)(a:bZ)(j):dF ((a.take j).map (bT T))<=dF (a.map (bT T)):=by
 grind[bT,iY,List.take_append_drop,YC]
def JO{T}{ls a:bZ}{j}(h:a.map (bT T)=I9 ((ls.take j).map (bT T))):a.length*5<=dF (ls.map (bT T)):=by
 have b:=YE (I9 ((ls.take j).map (bT T)));have c:=AP ((ls.take j).map (bT T)) (λx _=>YJ x);grind[Ld]
def Yg{T}{z}(a:aU T)(b)(c:T[z].x=10):dF (T[z].M.map (bT T))<=wg (tr T z):=by
 have e:(T[z].M.map λx=>tr T x.toNat)=T[z].M.map (bT T):=rfl;rw[U0 a b,wg,zY (by omega),BH a b (.inr c),e];simp
def DU{l}(a:l≠[])(h:∀t∈l,flat t≠[]):I9 l≠[]:=by
 cases l with
 |nil=>grind
 |cons t r=>
  rw[I9];simp_all
def VS(t)(h:Wf t):flat t≠[]:=by
 induction h with
 |plain k i e=>grind[flat]
 |obj j g a b c d _=>simp_all[flat,zY]
 |arr t a _=>simp_all[flat,zY]
 |fn t l a b _ _=>simp_all[flat,zY]
 |uni g e h f=>
  rw[flat,wY rfl];exact DU (by grind) f
def zp(T:List Ty)(f:bZ)(w:E)(e:Ending)(d:E):Prop:=∃(b:Option Addr) (c:Nat) (a:bZ),e=.returned (.slice b a.length c)/\I No w d/\d.ownsRow w.heap.size 3 1 (.slice b a.length c) a.length (C7 a)/\(∀x∈a,0<=x/\x<T.length)/\a.map (bT T)=I9 (f.map (bT T))
section
variable{a b N:Nat}{T:List Ty}{D:Dt}
def JZ(a b N:Nat)(T:List Ty)(D:Dt)(m:Nat):Prop:=∀(c) (w) (d) (e),(∀x∈c,0<=x/\x<(m:Int)/\x<T.length)->dH w a b N T D->w.ownsRow 0 3 1 (.slice d c.length e) c.length (C7 c)->c.length<=100000000->dF (c.map (bT T))<=1000000000->
 Calls prog 164 #[pV a,.slice d c.length e] w (zp T c w)
theorem vd(hf:pG T){al}(IH:∀z,z<al->JZ a b N T D z):JZ a b N T D al:=by
 intro f w la lc aw ae ay hn bf;have p:=ae.ok;obtain⟨i0,hi,ai,aj,ak⟩:=info_parts Tryz.fm;have a9:Hid (∀m,I No w m->dH m a b N T D):=λm ha=>ae.y ha;have FO:Hid (∀m,I No w m->m.ownsRow 0 3 1 (.slice la f.length lc) f.length (C7 f)):=λm ha=>A3 ay ha (λ_ _ x=>x);go_in;go_wp2;go_loopw [11,5] (λa7 u wr=>∃(j:Nat) (c:bZ) (G:Option Addr) (F:Nat),j<=f.length/\a7=U j/\u=.slice G c.length F/\Hid (I No w wr)/\Hid (wr.ownsRow w.heap.size 3 1 (.slice G c.length F) c.length (C7 c))/\Hid (∀x∈c,0<=x/\x<T.length)/\Hid (c.map (bT T)=I9 ((f.take j).map (bT T)))) (λa7 _ _=>f.length-(intOf a7).toNat);case atStart=>exact⟨0,[],none,0,wQ _,rfl,rfl,I.refl _ _,kW _ _ _ _,(show∀x∈([]:bZ),_ from by simp),(show _=_ from by rfl)⟩
 case round=>
  obtain⟨j,c,G,F,hj,rfl,rfl,CR,y,IR,t⟩:=hrel;by_cases L:j<f.length
  .have bh:=aw f[j] (mQ L);have Z:=O (A4c T f L);have bc:=JO t.u;have ax:=KB (qZ.2 ⟨f[j],mQ L,rfl⟩:bT T f[j]∈f.map (bT T));obtain⟨b6,av,hg,b8,ar,y0⟩:=D6 (FO.u wr CR.u) L;subst av;unfold maxLen at ar;generalize f[j]=xx at*;obtain⟨z,rfl⟩:∃z:Nat,xx=z:=⟨xx.toNat,by omega⟩;have n:z<T.length:=by omega
   have b0:bT T z=tr T z:=by simp[bT]
   rw[b0]at ax Z;obtain⟨b3,c3,b4,-,bb,-,ap⟩:=(a9.u wr CR.u).cell;obtain⟨g3,fa,fc,M,P,rfl,r,b7,ao,x0,x1,x2,x3,-,a6⟩:=ap z n;unfold maxLen at ao;have aq:=hf z n;have af:=(p z n).kj;have HU:=O (λd=>xw p n d);have V:=O (λd=>A5c p n d);have a4:=λd=>Yg p n d;have ag:T[z].x=10->T[z].M≠[]:=by
    intro d;obtain s|s|s|s|s:=p z n
    .omega
    .omega
    .omega
    .omega
    .grind
   have a3:=λx (e:x∈T[z].M)=>xE p x.toNat (by grind);generalize T[z].x=k at*;generalize T[z].ej=fs at*;generalize T[z].M=o at*;generalize T[z].ew=a5 at*;have A:I No w (wr.alloc (.cells #[U k,.slice fa fs.length fc,.slice M o.length P,U a5] 81)):=CR.u.trans (I.alloc _ _ _) (λ_ _ x=>x);have SZ:=CR.u.size;by_cases d:k=10
   .subst d;have HA:=O (IH z (by omega) o _ M P (λx e=>by grind) (a9.u _ A) (a6.alloc _) aq.1 (by omega));have v:=O (y.u.alloc (.cells #[U 10,.slice fa fs.length fc,.slice M o.length P,U a5] 81));have am:Hid (I9 (o.map (bT T))≠[]):=DU (by simp_all) (λbi s=>by
     obtain⟨x,e,rfl⟩:=qZ.1 s;exact VS _ (a3 x e));have bg:=a4 rfl;have S:=O (HU.u rfl);have B:=O A;clear A y CR a6 a4 ag a3 af HU V;go_wp2_with fail;refine HA.u.mono ?_;rintro b5 b1 ⟨b2,c2,g,rfl,h2,h3,h4,H⟩;have ba:=JO (ls:=o) (j:=o.length) (by rw[jZ];exact H);have az:0<g.length:=by
     obtain h0|h0:=Nat.eq_zero_or_pos g.length
     .have:=congrArg List.length H;rw[uZ,h0]at this;exact absurd (List.length_eq_zero_iff.1 this.symm) am.u
     .omega
    obtain⟨q,rfl,bd,be,-,-,ah⟩:=D4 h3 az;have ab:=O (A3 v.u h2 (λ_ _ x=>x));have HN:Hid (∀i u,(C7 g)[i]?=some u->b1.cell? (((J q 0):Addr).add i)=some u):=by
     intro i u h;have an:((J q 0):Addr).add i=(J q i):=by unfold Addr.add;split<;>simp_all
     rw[an];exact ah i u h
    have H1:Hid (∀u∈C7 g,u.oneCell'=true):=by
     intro u h;unfold C7 at h;obtain⟨x,-,rfl⟩:=qZ.1 h;rfl
    have HL:Hid ((C7 g).length=g.length*1):=(show _=_ from by simp[C7]);have aa:=O (B.u.trans h2 (λ_ _ x=>x));have H4:=O h4;have H5:=O H;clear HA v h2 h3 h4 H ah B;go_wp2_with (at_builtin;refine wpList_append_own _ rfl _ _ 54 rfl w.heap.size 3 i0 (U 0) 1 8 underlying54 hi ai aj ak rfl (by decide) _ _ _ rfl ab.u (J q 0) g.length c2 (C7 g) rfl HL.u HN.u H1.u ?c3 ?c4 ?c5 ?_);case c3=>simp only[maxLen];omega
    case c4=>omega
    case c5=>have:=aa.u.size;omega
    intro v' a8 l r _;have e3:c.length+g.length=(c++g).length:=by simp
    rw[e3,show C7 c++C7 g=C7 (c++g) from by simp[C7]]at l;obtain⟨a2,c4,rfl⟩:=B8 l;have W:=O l;have R:Hid (I No w a8):=(((I.mono aa.u (S':=λk=>w.heap.size<=k) (λ_ _ x=>x.elim)).trans (I.grown r) (λk d x=>(A9 ab.u k x.symm).1))).mono (λk d x=>by omega);clear l r;go_wp2;go_roundw;case rel=>
     refine⟨j+1,c++g,a2,c4,by omega,by go_num,rfl,R.u,W.u,λx e=>?_,?_⟩
     .obtain e|e:=qW.1 e
      .exact IR.u x e
      .exact H4.u x e
     .show _=_;rw[Z.u,iY,t.u,H5.u,S.u]
    grind[intOf]
   .have b9:(k==10)=false:=by simp[d]
    have S:=O (V.u d);have v:=O ((y.u.alloc (.cells #[U k,.slice fa fs.length fc,.slice M o.length P,U a5] 81)).alloc (.cells #[U (z:Int)] 3));have B:=O (A.trans (I.alloc No _ (.cells #[U (z:Int)] 3)) (λ_ _ x=>x));clear A y CR a6 a4 ag a3 af HU V;go_wp2_with (at_builtin;refine wpList_append_own _ rfl _ _ 54 rfl w.heap.size 3 i0 (U 0) 1 8 underlying54 hi ai aj ak rfl (by decide) _ _ _ rfl v.u (J (wr.heap.size+1) 0) 1 1 [U (z:Int)] rfl rfl ?c1 ?c2 ?c3 ?c4 ?c5 ?_);case c1=>
     intro i u h;match i,h with
     |0,h=>simp_all[Addr.add]
    case c2=>intro u h;simp at h;subst h;rfl
    case c3=>simp only[maxLen];omega
    case c4=>omega
    case c5=>simp;omega
    intro v' a8 l r _;have e3:c.length+1=(c++[(z:Int)]).length:=by simp
    rw[e3,show C7 c++[U (z:Int)]=C7 (c++[(z:Int)]) from by simp[C7]]at l;obtain⟨a2,c4,rfl⟩:=B8 l;have W:=O l;have R:Hid (I No w a8):=(((I.mono B.u (S':=λk=>w.heap.size<=k) (λ_ _ x=>x.elim)).trans (I.grown r) (λk d x=>(A9 v.u k x.symm).1))).mono (λk d x=>by omega);clear l r;go_wp2;go_roundw;case rel=>
     refine⟨j+1,c++[(z:Int)],a2,c4,by omega,by go_num,rfl,R.u,W.u,λx e=>?_,?_⟩
     .obtain e|e:=qW.1 e
      .exact IR.u x e
      grind
     .show _=_;rw[Z.u,iY,t.u,S.u];rfl
    grind[intOf]
  .have au:j=f.length:=by omega
   subst au;rw[jZ]at t;go_wp2_with fail;go_ret;exact⟨G,F,c,rfl,CR.u,y.u,IR.u,t.u⟩
def WT(c:pG T)(m):JZ a b N T D m:=by
 induction m using Nat.strongRecOn<;>grind[Nat.strongRecOn,vd]
end
theorem VI:∀(l a) (t),dd a (l++[t])=if (dd a l).any (λu=>key u==key t) then dd a l else dd a l++[t]
 |[],a,t=>by rfl
 |u::r,a,t=>by
  rw[kZ,dd,dd];split<;>exact VI r _ t
def tn(l)(k):(dd [] l).any (λu=>key u==k)=decide ((l.map key).count k≠0):=by
 rw[Bool.eq_iff_iff,List.any_eq_true,decide_eq_true_iff];constructor
 .rintro⟨u,a,e⟩;have:u∈l:=by
   obtain h|h:=AY _ _ u a
   .grind
   .omega
  grind[key,qZ,List.count_pos_iff]
 .intro h;have b:k∈l.map key:=List.count_pos_iff.1 (by omega);obtain⟨x,c,e⟩:=qZ.1 b;obtain⟨u,a,d⟩:=AX l [] x c;grind
def MU:Keyed prog 9:=string_keyed underlying9
def XF(l:Y)(h:l.length<=1000000000):keyOf prog 9 (.string ⟨l.toArray⟩)=some (.string l):=by
 have a:(⟨l.toArray⟩:ByteArray).size<=maxLen:=by simp[ByteArray.size];unfold maxLen;omega
 unfold keyOf;simp_all[mapKey]
structure Seen(w:E)(q:Nat)(m:Nat)(ks:List Y):Prop where
 own:∃n D,w.ownsMap prog 9 (plainElem (H:=Unit) prog 3) q n D/\n<=m/\IsMap D/\∀s:Y,D.atKey (.string s) (.lit (.int .i64 0))=.lit (.int .i64 ((ks.count s:Nat):Int))
def Seen.new(w:E):Seen (w.alloc (.map #[] 0)) w.heap.size 0 []:=⟨0,.map [],World.ownsMap_made w _ _ _,vQ _,isMap_empty,λ_=>rfl⟩
theorem Seen.P{S}{w w'}{q m}{a}(h:Seen w q m a)(f:I S w w')(g:¬S q):Seen w' q m a:=by
 obtain⟨n,D,⟨c,b,d,e⟩,r⟩:=h.own;exact⟨n,D,⟨c,b,by rw[f.block q (aI d) g];omega,e⟩,r⟩
def Seen.look{w}{q m}{b}(h:Seen w q m b)(s)(g:s.length<=1000000000):
 (Instr.lookup 182 (.map (some q)) (.string ⟨s.toArray⟩) false).run prog w=.ok (.int .i64 ((b.count s:Nat))) w:=by
 obtain⟨n,D,e,j,i,d⟩:=h.own;obtain⟨c,f,a,_⟩:=e.lookup_int MU underlying182 underlying3 (Tryz.kn _) (XF s g);rw[d s]at a;simp at a;rw[a];exact f
theorem Seen.put{w}{q m}{a}(h:Seen w q m a)(s)(i:s.length<=1000000000)(t:m<=1000000000)(r:a.length<=200000000):
 ∃b,(Instr.mapUpdate 182 (.map (some q)) (.string ⟨s.toArray⟩) (.int .i64 (((a.count s:Nat))+1))).run prog w=.ok () b/\Seen b q (m+1) (a++[s])/\I (λk=>k=q) w b:=by
 obtain⟨n,D,e,v,c,o⟩:=h.own;have p:a.count s<=a.length:=List.count_le_length;have l:(Lit.int .i64 (((a.count s:Nat):Int)+1)).wf=true:=by
  have:=S8 (a.count s+1) (by omega);simpa using this
 obtain⟨b,g,f,d⟩:=e.update MU underlying182 (by grind[maxLen]) (XF s i) (plainElem_int underlying3 l);refine⟨b,g,⟨n+1,_,f,by omega,c.put _ _,λu=>?_⟩,(I.grown d).mono (λk _ x=>by grind)⟩;by_cases j:u=s
 .subst j;rw[atKey_put_same c (show WideAt.IsKeyLit (.string u) from trivial)];simp
 grind[atKey_put_other,List.count,List.count_singleton]
def OH(b f N:Nat)(T:List Ty)(D:Dt)(g:Nat->Prop)(d:bZ)(w:E)(e:Ending)(c:E):Prop:=
 ∃(r:Nat) (a:List Ty),e=.returned (.int .i64 r)/\a.length<=1/\r<(T++a).length/\gM c b f N (T++a) D g/\pG (T++a)/\tr (T++a) r=Z9 (d.map (bT T))/\∃v,w.cell? (J b 0)=some v/\I (kC b v) w c
def Zi{T}{z}(b:aU T)(c)(d:T[z].x=5):tr T z=.nd 5 [] []:=by
 obtain a|a|a|a|a:=b z c<;>simp_all[U0,zY]
section
variable{a b N:Nat}{T:List Ty}{D:Dt}
def Cr{ok}(w)(hO:gM w a b N T D ok)(cg:∀g,w.heap.size<=g->ok g)(hf:pG T)(e:bZ)(d7:∀x∈e,0<=x/\x<T.length)(db:e≠[])(la)(lc)(ch:w.ownsRow 0 3 1 (.slice la e.length lc) e.length (C7 e))(hn:e.length<=2001)(dh:dF (e.map (bT T))<=200000000)(hN:T.length+1<=N):
 Calls prog 117 #[pV a,.slice la e.length lc] w (OH a b N T D ok e w):=by
 have h:=hO.kt;have a8:=O hO;have bs:=O cg;have hT:=h.ok;have da:=@run_makeMap prog;obtain⟨i0,hi,cp,cq,cs⟩:=info_parts Tryz.fm;have d9:=h.fy.lt;have G:I No w (w.alloc (.map #[] 0)):=I.alloc _ _ _;have HA:=O (WT hf T.length e (w.alloc (.map #[] 0)) la lc (λx d=>by grind) (h.y G) (ch.alloc _) (by omega) (by omega));have SN:=O (Seen.new w);have HS:=O (h.y G);have br:Hid (I9 (e.map (bT T))≠[]):=DU (by simp_all) (λt ht=>by
  obtain⟨x,d,rfl⟩:=qZ.1 ht;exact VS _ (xE hT x.toNat (by grind)));obtain⟨S,yx,b2,dk,-⟩:=h.eo;have V0:Hid (w.cell? (J a 0)=some S):=(show _=_ from cr b2 rfl);have bh:=O G;have cf:=(aI b2);go_in;go_wp2_with fail;refine HA.u.mono ?_;rintro a2 n ⟨pa,ct,c,rfl,L,h2,h3,h4⟩;have dc:=JO (ls:=e) (j:=e.length) (by rw[jZ];exact h4);simp only[World.size_alloc]at h2;have S1:=O (SN.u.P L (λx=>x));have ay:=O (HS.u.y L);have bi:=O (bh.u.trans L (λ_ _ x=>x));have de:w.heap.size+1<=n.heap.size:=by have:=L.size;simpa using this
 have FP:Hid (∀i,I (λk=>k=w.heap.size) n i->i.ownsRow 0 3 1 (.slice pa c.length ct) c.length (C7 c)):=λi F=>C8 (A3 h2 F (λg q x=>by have:=(A9 h2 g q).1;omega)) (wQ _);have ao:Hid (∀i,I (λk=>k=w.heap.size) n i->dH i a b N T D):=by
  intro i F;refine ay.u.P F (ay.u.fy.P F (by omega)) (λk cx a2 s _ x=>?_);obtain⟨dp,cu,⟨es,cl,hh,_⟩,_⟩:=S1.u.own;have x':=x;rw[x',hh]at s;cases s
 have FC:Hid (∀i,I (λk=>k=w.heap.size) n i->I No w i):=λi F=>((bi.u.mono (S':=λk=>k=w.heap.size) (λ_ _ x=>x.elim)).trans F (λ_ _ x=>x)).mono (λk s x=>by omega);have HI:=O h3;have W:=O h4;clear L h2 h3 h4 HA SN HS;go_wp2_with fail;go_loopw [15,5] (λam u wr=>∃(j:Nat) (f:bZ) (B:Option Addr) (A:Nat),j<=c.length/\am=.int .i64 (j:Int)/\u=.slice B f.length A/\Hid (I (λk=>k=w.heap.size) n wr)/\Hid (wr.ownsRow n.heap.size 3 1 (.slice B f.length A) f.length (C7 f))/\Hid (∀x∈f,0<=x/\x<(T.length:Int))/\
  Hid (Seen wr w.heap.size j ((c.take j).map λx=>key (bT T x)))/\Hid (f.map (bT T)=dd [] ((c.take j).map (bT T)))/\Hid (∀x∈c.take j,(bT T x).k≠5)) (λam _ _=>c.length-(intOf am).toNat);case atStart=>exact⟨0,[],none,0,wQ _,rfl,rfl,I.refl _ _,kW _ _ _ _,(show∀x∈([]:bZ),_ from by simp),S1.u,(show _=_ from rfl),(show∀x∈c.take 0,_ from by simp)⟩
 case round=>
  obtain⟨j,f,B,A,hj,rfl,rfl,CR,H,IR,SR,v,NR⟩:=hrel;have di:=CR.u.size;have cy:f.length<=c.length:=by
   have p:=congrArg List.length v.u;have e2:∀(a7 i:List Tr),(dd i a7).length<=i.length+a7.length:=by
    intro a7;induction a7 with
    |nil=>grind[dd]
    |cons t r ih=>
     grind[dd]
   have e3:=e2 ((c.take j).map (bT T)) [];simp at p e3;omega
  by_cases M:j<c.length
  .have dj:=HI.u c[j] (mQ M);have aj:bT T c[j]∈I9 (e.map (bT T)):=by rw[<-W.u];exact qZ.2 ⟨_,mQ M,rfl⟩
   have cn:wg (bT T c[j])<=200000000:=by
    have p:=KB aj;have e2:=AP (e.map (bT T)) (λx _=>YJ x);omega
   have d8:=mQ M;have a9:=O (nQ M);obtain⟨g,ci,q,cc,ag,y0⟩:=D6 (FP.u wr CR.u) M;subst ci;unfold maxLen at ag;generalize c[j]=xx at*;obtain⟨z,rfl⟩:∃z:Nat,xx=(z:Int):=⟨xx.toNat,by omega⟩;have hz:z<T.length:=by omega
   have P:bT T (z:Int)=tr T z:=by simp[bT]
   rw[P]at cn aj;have ab:=O (ao.u wr CR.u);obtain⟨cv,c3,cw,-,d5,-,b5⟩:=ab.u.cell;obtain⟨g3,fa,fc,dl,dm,rfl,d3,d0,a3,x0,-,-,-,-,-⟩:=b5 z hz;unfold maxLen at a3;clear b5;have bg:=O (λs=>Zi hT hz s);have ar:Hid ((tr T z).k=T[z].x):=(show _=_ from by rw[U0 hT hz];rfl);have V:=O (Qq wr ab.u hf z hz (by omega));have p:cZ true T z=key (tr T z):=rfl;have ai:(key (tr T z)).length<=1000000000:=by
    have:=YO (bn:=true) (T:=T) (i:=z);rw[p]at this;omega
   rw[p]at V;by_cases ah:T[z].x=5
   .generalize T[z].x=k at*;subst ah;have Z:Hid (Z9 (e.map (bT T))=tr T z):=by
     show _=_;unfold Z9;rw[wY (List.any_eq_true.2 ⟨tr T z,aj,by rw[ar.u];rfl⟩)];exact(bg.u rfl).symm
    have o:=O (FC.u wr CR.u);clear CR H SR V;go_wp2_with fail;go_ret;exact⟨z,[],rfl,by simp,by simp_all,by rw[lY];exact a8.u.y o.u,by simp_all,by rw[lY];exact Z.u.symm,S,V0.u,o.u.mono λ_ _ x=>x.elim⟩
   .have d4:(T[z].x==5)=false:=by simp[ah]
    have b9:(tr T z).k≠5:=by rw[ar.u];exact ah
    have bq:=O b9;generalize T[z].x=k at*;generalize b1:key (tr T z)=l at*;have au:=O b1;clear b1;have c7:=O SR.u;have bf:=O CR.u;have b0:=O H.u;clear SR CR H b9;go_wp2_with fail;refine V.u.mono ?_;rintro a2 dq ⟨rfl,R⟩;have a3:=bf.u.trans R (λ_ _ x=>x.elim);have ak:=c7.u.P R (λx=>x);have df:=R.size;have d6:=ak.look l ai;obtain⟨an,ck,al,a6⟩:=ak.put l ai (by omega) (by simp;omega);have ba:=al.look l ai;have b6:((((c.take j).map λx=>key (bT T x))++[l]).count l:Int)=(((c.take j).map λx=>key (bT T x)).count l:Int)+1:=by simp
    rw[b6]at ba;have d1:((c.take j).map λx=>key (bT T x)).count l<=200000000:=by
     have:=List.count_le_length (a:=l) (l:=(c.take j).map λx=>key (bT T x));rw[uZ,List.length_take]at this;omega
    have bn:Hid ((dd [] ((c.take j).map (bT T))).any (λu=>key u==l)=decide (((c.take j).map λx=>key (bT T x)).count l≠0)):=by
     have:=tn ((c.take j).map (bT T)) l;rw[List.map_map]at this;exact this
    have bz:Hid ((c.take (j+1)).map (λx=>key (bT T x))=((c.take j).map λx=>key (bT T x))++[l]):=by
     show _=_;rw[a9.u,iY];simp[P,au.u]
    generalize ((c.take j).map λx=>key (bT T x)).count l=ae at*;have ap:=O (a3.trans a6 (λ_ _ x=>x));have bv:=O al;have bp:=O (R.mono (S':=λk=>k=w.heap.size) (λ_ _ x=>x.elim)|>.trans a6 (λ_ _ x=>x));have dg:=a6.size;have aw:=O (A3 b0.u bp.u (λg q x=>by have:=(A9 b0.u g q).1;omega));clear ak al R a6 a3 b6 V;have av:Hid (∀x∈c.take (j+1),(bT T x).k≠5):=by
     intro x d;rw[a9.u]at d;obtain d|d:=qW.1 d
     .exact NR.u x d
     .simp at d;subst d;rw[P];exact bq.u
    have az:Hid (Seen an w.heap.size (j+1) ((c.take (j+1)).map λx=>key (bT T x))):=by
     have:=bv.u;rw[<-bz.u]at this;exact this
    have aq:Hid (dd [] ((c.take (j+1)).map (bT T))=if ae≠0 then dd [] ((c.take j).map (bT T)) else dd [] ((c.take j).map (bT T))++[tr T z]):=by
     show _=_;rw[a9.u,iY,xZ,List.map_nil,P,VI,au.u,bn.u];simp only[decide_eq_true_eq]
    by_cases G:ae=0
    .subst G;have c9:((0:Nat):Int)+1=1:=rfl;rw[c9]at ck ba;have ax:=O (aw.u.alloc (.cells #[.int .i64 (z:Int)] 3));go_wp2_with (at_builtin;refine wpList_append_own _ rfl _ _ 54 rfl n.heap.size 3 i0 (.int .i64 0) 1 8 underlying54 hi cp cq cs rfl (by decide) _ _ _ rfl ax.u (J an.heap.size 0) 1 1 [.int .i64 (z:Int)] rfl rfl ?c1 ?c2 ?c3 ?c4 ?c5 ?_);case c1=>
      intro a5 u m;match a5,m with
      |0,m=>simp_all[Addr.add]
     case c2=>intro u m;simp at m;subst m;rfl
     case c3=>simp only[maxLen];omega
     case c4=>omega
     case c5=>simp;omega
     intro v' be a4 b7 _;have e3:f.length+1=(f++[(z:Int)]).length:=by simp
     rw[e3,show C7 f++[.int .i64 (z:Int)]=C7 (f++[(z:Int)]) from by simp[C7]]at a4;obtain⟨c8,c4,rfl⟩:=B8 a4;have bt:=O a4;have b4:=I.alloc (λk=>n.heap.size<=k) an (.cells #[.int .i64 (z:Int)] 3);have af:=b4.trans (I.grown b7) (λk s x=>(A9 ax.u k x.symm).1);have bj:Hid (I (λk=>k=w.heap.size) n be):=((ap.u.mono (S':=λk=>k=w.heap.size\/n.heap.size<=k) (λ_ _ x=>.inl x)).trans af (λ_ _ x=>.inr x)).mono (λk s x=>by
      omega);have bw:Hid (Seen be w.heap.size (j+1) ((c.take (j+1)).map λx=>key (bT T x))):=az.u.P af (by omega);clear a4 b7 b4 af;go_wp2;go_roundw;case rel=>
      refine⟨j+1,f++[(z:Int)],c8,c4,by omega,by go_num,rfl,bj.u,bt.u,λx d=>?_,bw.u,?_,av.u⟩
      .obtain d|d:=qW.1 d
       .exact IR.u x d
       grind
      .show _=_;rw[aq.u,zY (by simp),iY,v.u];rfl
     grind[intOf]
    .have d2:((ae:Int)+1==1)=false:=by simp;omega
     go_wp2_with fail;go_roundw;case rel=>exact⟨j+1,f,B,A,by omega,by go_num,rfl,ap.u,aw.u,IR.u,az.u,(show _=_ from by rw[aq.u,wY G,v.u]),av.u⟩
     grind[intOf]
  .have ce:j=c.length:=by omega
   subst ce;rw[jZ]at v NR;have o:=O (FC.u wr CR.u);have ab:=O (ao.u wr CR.u);have cb:(I9 (e.map (bT T))).any (λt=>t.k==5)=false:=by
    rw[<-W.u,List.any_map,Bool.eq_false_iff];intro d;obtain⟨x,d,a2⟩:=List.any_eq_true.1 d;exact NR.u x d (by grind)
   have Z:Hid (Z9 (e.map (bT T))=match f.map (bT T) with
    |[]=>.nd 5 [] []
    |[t]=>t
    |t::u::r=>.nd 10 [] (t::u::r)):=by
    show _=_;unfold Z9;rw[zY (by grind),<-W.u,<-v.u];rfl
   have ca:f≠[]:=by
    rintro rfl;have p:=v.u;have bb:=br.u;rw[<-W.u]at bb;obtain⟨t,r,e2⟩:=List.exists_cons_of_ne_nil bb;obtain⟨u,m,-⟩:=AX (c.map (bT T)) [] t (by grind);rw[<-p]at m;simp at m
   have aa:=O H.u;clear CR H SR cb;have cz:f.length<=100000000:=by omega
   match f,ca with
   |[x],_=>
    obtain⟨g,cd,q,cc,ag,y0⟩:=D6 (ls:=[x]) (C8 aa.u (wQ _)) (j:=0) (by simp);subst cd;unfold maxLen at ag;have d:=IR.u x (by simp);simp only[List.getElem_cons_zero]at y0;obtain⟨z,rfl⟩:∃z:Nat,x=(z:Int):=⟨x.toNat,by omega⟩;have P:bT T (z:Int)=tr T z:=by simp[bT]
    simp only[jQ,xQ,Nat.zero_add]at*;go_wp2_with fail;go_ret;exact⟨z,[],rfl,by simp,by simp_all,by rw[lY];exact a8.u.y o.u,by simp_all,by rw[lY,Z.u];rfl,S,V0.u,o.u.mono λ_ _ x=>x.elim⟩
   |x::y::r,_=>
    have ht:dP ⟨10,[],x::y::r,0⟩ T.length:=.inr (.inr (.inr (.inr ⟨rfl,rfl,by simp,λu m=>IR.u u m⟩)));have cj:dM wr ok ⟨10,[],x::y::r,0⟩ [.int .i64 10,sN,.slice B (x::y::r).length A,.int .i64 0]:=⟨_,_,rfl,kW _ _ _ _,C8 aa.u (wQ _),λg q=>by grind[Value.ownBlock],λg q=>bs.u g (by have:=(A9 aa.u g q).1;omega)⟩;have bu:=O (zP wr (a8.u.y o.u) ⟨10,[],x::y::r,0⟩ none B 0 0 (x::y::r).length A cj ht hN);have c6:Hid (tr (T++[⟨10,[],x::y::r,0⟩]) T.length=Z9 (e.map (bT T))):=by
     show _=_;rw[sJ hT ht,Z.u];simp[bT]
    have bo:Hid (pG (T++[⟨10,[],x::y::r,0⟩])):=by
     intro a5 hi;by_cases b8:a5<T.length
     .rw[List.getElem_append_left b8];exact hf a5 b8
     .grind
    have e0:((((x::y::r).length:Nat):Int)==0)=false:=by simp;omega
    have p:((((x::y::r).length:Nat):Int)==1)=false:=by simp;omega
    generalize (x::y::r).length=nn at*;go_wp2_with fail;refine bu.u.mono ?_;rintro a2 dr ⟨rfl,⟨v5,bd,b3⟩,bc⟩;have cm:v5=S:=by
     have e6:wr.cell? (J a 0)=some S:=by rw[World.cell?_of_block (o.u.block a cf (λx=>x))];exact V0.u
     rw[bd]at e6;exact vZ e6
    subst cm;have bm:=O ((o.u.mono (S':=kC a v5) (λ_ _ x=>x.elim)).trans b3 (λ_ _ x=>x));have bx:=O bc;clear b3 bc bd;go_wp2;go_ret;exact⟨T.length,[⟨10,[],x::y::r,0⟩],rfl,by simp,by simp,bx.u,bo.u,c6.u,v5,V0.u,bm.u⟩
end
section
variable{j w:E}{c:Cx}{a b f i:Nat}{h k e:Value}{g:Int}{Z:List Ty}{d:bZ}
def KN(a:Nat)(w:E)(v:Value):Prop:=∀ov,w.cell? (J a 6)=some ov->∀l,v.ownBlock=some l->ov.ownBlock≠some l
theorem aS.ov(p:aS j w c a b f i h k g e Z d):∃ov D,w.cell? (J a 6)=some ov/\w.heap[a]?=some (.cells (tN c h k g b i e ov) 57 (0,0))/\w.ownsRow j.heap.size 3 1 ov d.length (C7 d)/\gM w b f 4000 (tl c Z) D (λl=>ov.ownBlock≠some l)/\∀l,w.heap.size<=l->ov.ownBlock≠some l:=by
 obtain⟨ov,D,m,n,q⟩:=p.st;refine⟨ov,D,cr m rfl,m,n,q,λl r o=>?_⟩;have:=(n.lt l o).2;omega
def aS.re{m}(o:aS j w c a b f i h k g e Z d)(r:KG w m){v}(A:∀l,v.ownBlock=some l->w.heap.size<=l):KN a m v:=by
 obtain⟨ov,D,t,p,u,x,y⟩:=o.ov;intro s n l z;have q:=r.2 _ _ _ _ p (by decide) (by decide);have:s=ov:=by
  rw[cell_of_row m a 6 _ _ _ q]at n;exact(vZ n).symm
 grind
def Pu{T}{t}(n:Fw T)(p:t.M.length<=100000000/\t.ej.length<=2001):Fw (T++[t]):=by
 intro m o;by_cases l:m<T.length
 .rw[List.getElem_append_left l];exact n m l
 grind
def FX(s:aS j w c a b f i h k g e Z d)(t)(l o)(n m q p)(N:w.ownsRow 0 137 2 (.slice l n m) t.ej.length (G0 t.ej))(R:w.ownsRow 0 3 1 (.slice o q p) t.M.length (C7 t.M))(z:KN a w (.slice l n m))(A:KN a w (.slice o q p))(P:dP t (tl c Z).length)(M:t.M.length<=100000000/\t.ej.length<=2001)(H:(tl c Z).length+1<=4000):
 Calls prog 25 #[pV b,.agg #[U t.x,.slice l n m,.slice o q p,U t.ew]] w λx v=>x=.returned (U ((tl c Z).length))/\aS j v c a b f i h k g e (Z++[t]) d/\KG w v:=by
 obtain⟨ov,D,y,B,F,G,V⟩:=s.ov;refine(zP w G t l o n m q p ⟨_,_,rfl,N,R,λr u=>z ov y r u,λr u=>A ov y r u⟩ P H).mono ?_;rintro x v ⟨rfl,⟨a3,T,L⟩,S⟩;obtain⟨W,a2⟩:=s.grow T L B F S (Pu s.fq M);grind
def Xx(n:aS j w c a b f i h k g e Z d)(l:bZ)(F:∀x∈l,0<=x/\x<((tl c Z).length))(H:l≠[])(o)(p)(L:w.ownsRow 0 3 1 (.slice o l.length p) l.length (C7 l))(G:l.length<=2001)(P:dF (l.map (bT (tl c Z)))<=200000000)(z:(tl c Z).length+1<=4000):
 Calls prog 117 #[pV b,.slice o l.length p] w λs q=>∃(r:Nat) (m:List Ty),s=.returned (U r)/\m.length<=1/\r<(tl c (Z++m)).length/\tr (tl c (Z++m)) r=Z9 (l.map (bT (tl c Z)))/\aS j q c a b f i h k g e (Z++m) d/\KG w q:=by
 obtain⟨ov,D,R,t,u,v,y⟩:=n.ov;refine(Cr w v y n.fq l F H o p L G P z).mono ?_;rintro s q ⟨r,m,rfl,S,T,M,B,V,a3,N,A⟩;obtain⟨W,a2⟩:=n.grow N A t u M B;grind[nL]
end
section
variable{a b N:Nat}{T:List Ty}{D:Dt}
def Cy{n}(w)(f:gM w a b N T D n)(k:pG T)(M:T.length+1<=N):
 Calls prog 117 #[pV a,sN] w (OH a b N T D n [] w):=by
 have h:=f.kt;have P:=h.ok;have a6:=@run_makeMap prog;have j:I No w (w.alloc (.map #[] 0)):=I.alloc _ _ _;have r:=O (WT k T.length [] (w.alloc (.map #[] 0)) none 0 (λx hx=>by grind) (h.y j) (kW _ _ _ _) (by simp) (by simp[dF]));obtain⟨q,yx,R,a7,-⟩:=h.eo;have c:Hid (w.cell? (J a 0)=some q):=(show _=_ from cr R rfl);have m:dP ⟨5,[],[],0⟩ T.length:=.inl ⟨by decide,by decide,rfl,rfl⟩;have z:Hid (∀u,I No w u->_):=λu hu=>zP u (f.y hu) ⟨5,[],[],0⟩ none none 0 0 0 0 ⟨_,_,rfl,kW _ _ _ _,kW _ _ _ _,λg V=>by grind[Value.ownBlock],λg V=>by grind[Value.ownBlock]⟩ m M;have B:Hid (tr (T++[⟨5,[],[],0⟩]) T.length=Z9 (([]:bZ).map (bT T))):=by
  rw[sJ P m];rfl
 have v:Hid (pG (T++[⟨5,[],[],0⟩])):=by
  intro i hi;by_cases l:i<T.length
  .rw[List.getElem_append_left l];exact k i l
  .grind
 have s:=O j;go_in;go_wp2_with fail;refine r.u.mono ?_;rintro e a9 ⟨pa,a8,o,rfl,H,h2,h3,L⟩;have W:o=[]:=by
  have d:(o.map (bT T)).length=0:=by rw[L];simp[I9]
  rw[uZ]at d;exact List.length_eq_zero_iff.1 d
 subst W;have a5:=O (s.u.trans H (λ_ _ x=>x));simp;go_wp2;go_loopw [15,5] (λa4 u wr=>a4=U 0/\u=sN/\Hid (I No w wr)) (λ_ _ _=>0);case atStart=>grind
 case round=>
  obtain⟨rfl,rfl,CR⟩:=hrel;have y:=O (z.u wr CR.u);have G:=A4 CR.u c.u;have F:=O G;go_wp2_with fail;refine y.u.mono ?_;rintro e aa ⟨rfl,⟨p,a2,S⟩,Z⟩;have a3:p=q:=by
   have:=F.u;rw[a2]at this;exact vZ this
  subst a3;have t:=O ((CR.u.mono (λ_ _ x=>x.elim)).trans S (λ_ _ x=>x));have A:=O Z;go_wp2;go_ret;exact⟨T.length,[⟨5,[],[],0⟩],rfl,by simp,by simp,A.u,v.u,B.u,p,c.u,t.u⟩
end
section
variable{j w:E}{c:Cx}{d b f i:Nat}{h k e:Value}{g:Int}{Z:List Ty}{a:bZ}{l:Of}
def Sd(n:aS j w c d b f i h k g e Z a)(y:(tl c Z).length+1<=4000):
 Calls prog 117 #[pV b,sN] w λp o=>∃(r:Nat) (m:List Ty),p=.returned (U r)/\m.length<=1/\r<(tl c (Z++m)).length/\tr (tl c (Z++m)) r=Z9 []/\aS j o c d b f i h k g e (Z++m) a/\KG w o:=by
 obtain⟨ov,D,M,t,u,x,N⟩:=n.ov;refine(Cy w x n.fq y).mono ?_;rintro p o ⟨r,m,rfl,z,q,F,B,s,v,G,A⟩;obtain⟨H,L⟩:=n.grow G A t u F B;rw[nL]at q s;exact⟨r,m,rfl,z,q,s,H,L⟩
def lL(j w:E)(c:Cx)(d b f i:Nat)(h k:Value)(g:Int)(e:Value)(Z:List Ty)(a:bZ)(t:Tr)(o:Ending)(n:E):Prop:=
 ∃(x:Nat) (m:List Ty),o=.returned (U x)/\m.length<=2/\x<(tl c (Z++m)).length/\tr (tl c (Z++m)) x=t/\aS j n c d b f i h k g e (Z++m) a/\KG w n
def Kh(A:aS j w c d b f i h k g e Z a)(y)(S:∀x∈y.M,Lk c Z a l x)(hn:y.M.length<=1200)(la)(lc)(af:w.ownsRow 0 3 1 (.slice la y.M.length lc) y.M.length (C7 y.M))(bm:dF (y.M.map (aX l))<=25000000)(hN:(tl c Z).length+2<=4000):
 Calls prog 76 #[pV d,fE y la lc] w (lL j w c d b f i h k g e Z a (yE l y)):=by
 unfold yE fE;obtain⟨kd,va,vb,vc,m,tx,vn,vt,vp⟩:=y;simp only at*;obtain⟨oa,oc,bj,fz,q0,q1,q2,q3,q4,q5,q6,qp,qo⟩:=A.cell;have hT:=A.ts;obtain⟨i0,ar,b3,b4,b5⟩:=info_parts Tryz.fm;have an:=O qo;have am:=O q3;have H0:=O A;have HO:=O af;have HL:=O S;have B:∀x∈m,0<=a.getD x.toNat 0/\a.getD x.toNat 0<((tl c Z).length:Int)/\bT (tl c Z) (a.getD x.toNat 0)=aX l x:=λx D=>by
  obtain⟨a3,r,L,s,v,b1,a2⟩:=S x D;have e2:a.getD x.toNat 0=(r:Int):=by rw[s,tQ,lQ,gQ L];exact v
  rw[e2];refine⟨by omega,by omega,?_⟩;unfold bT;rw[tQ];exact a2
 have bc:=O B;have T:(m.map λx=>a.getD x.toNat 0).map (bT (tl c Z))=m.map (aX l):=by
  rw[List.map_map];exact List.map_congr_left λx D=>(B x D).2.2
 have HU:Hid (∀(u:E) (q:Option Addr) (p:Nat),I No w u->(m=[]->q=none/\p=0)->u.ownsRow w.heap.size 3 1 (.slice q m.length p) m.length (C7 (m.map λx=>a.getD x.toNat 0))->Calls prog 117 #[pV b,.slice q m.length p] u λs w'=>∃(r:Nat) (n:List Ty),s=.returned (U (r:Int))/\n.length<=1/\r<(tl c (Z++n)).length/\tr (tl c (Z++n)) r=Z9 (m.map (aX l))/\aS j w' c d b f i h k g e (Z++n) a/\KG u w'):=λu q p t ax b0=>by
  by_cases R:m=[]
  .obtain⟨rfl,rfl⟩:=ax R;subst R;exact Sd (A.y t) (by omega)
  .have:=Xx (A.y t) (m.map λx=>a.getD x.toNat 0) (λx D=>by
    obtain⟨ai,hy,rfl⟩:=qZ.1 D;exact⟨(B ai hy).1,(B ai hy).2.1⟩) (by simpa using R) q p (by rw[uZ];exact C8 b0 (wQ _)) (by rw[uZ];omega) (by rw[T];omega) (by omega);rw[T,uZ]at this;exact this
 have a6:Hid (∀(u:E) (n:List Ty) (r:Nat),aS j u c d b f i h k g e (Z++n) a->n.length<=1->r<(tl c (Z++n)).length->_):=λu n r t hX v=>FX t ⟨8,[],[],(r:Int)⟩ none none 0 0 0 0 (kW _ _ _ _) (kW _ _ _ _) (λ_ _ ap N=>by simp[Value.ownBlock]at N) (λ_ _ ap N=>by simp[Value.ownBlock]at N) (.inr (.inr (.inl ⟨rfl,rfl,rfl,Int.natCast_nonneg r,Int.ofNat_lt.2 v⟩))) ⟨by simp,by simp⟩ (by rw[S9]at hN⊢;rw[qQ];omega);simp only at a6;have A1:=I.alloc No w (aL kd va vb vc (.slice la m.length lc) tx vn vt vp);have aj:=O A1;clear A af S B T qp qo q0 q1 q2 q4 q5 fz A1 hT;go_in;go_wp2_with fail;go_loopw [11,5] (λa4 u wr=>∃(o:Nat) (q:Option Addr) (p:Nat),o<=m.length/\a4=U (o:Int)/\u=.slice q o p/\Hid (o=0->q=none/\p=0)/\Hid (I No w wr)/\Hid (wr.ownsRow w.heap.size 3 1 (.slice q o p) o (C7 ((m.take o).map λx=>a.getD x.toNat 0)))) (λa4 _ _=>m.length-(intOf a4).toNat);case atStart=>exact⟨0,none,0,wQ _,rfl,rfl,λ_=>⟨rfl,rfl⟩,aj.u,kW _ _ _ _⟩
 case round=>
  obtain⟨o,q,p,hj,rfl,rfl,NR,CR,F⟩:=hrel;have ag:=A4 CR.u q6;have bn:w.heap.size<=wr.heap.size:=CR.u.size;by_cases P:o<m.length
  .obtain⟨g2,aw,bd,be,av,v0⟩:=D6 (A3 HO.u CR.u (λ_ _ x=>x)) P;subst aw;obtain⟨a3,r,L,s,v,b1,a2⟩:=HL.u m[o] (mQ P);obtain⟨go,az,bf,bg,bh,ay,y0,-⟩:=an.u a3 L;subst az;rw[v]at y0;have bb:=A4 CR.u y0;have HT:Hid ((m.take (o+1)).map (λx=>a.getD x.toNat 0)=(m.take o).map (λx=>a.getD x.toNat 0)++[(r:Int)]):=by
    show _=_;rw[nQ P,iY,List.map_singleton,s,tQ,lQ,gQ L,v];rfl
   obtain⟨a7,a9⟩:∃a7,a7=(m.take o).map (λx=>a.getD x.toNat 0):=⟨_,rfl⟩;rw[<-a9]at F HT;clear a9;rw[s]at v0;have aq:=blt bb;have W:=blt ag;simp only at aq W;have bi:(a3:Int)<(a.length:Int):=by omega
   unfold maxLen at av ay;have a5:=O (F.u.alloc (.cells #[U (r:Int)] 3));clear s v a2 y0;go_wp2_with (at_builtin;refine wpList_append_own _ rfl _ _ 54 rfl w.heap.size 3 i0 (U 0) 1 8 underlying54 ar b3 b4 b5 rfl (by decide) _ _ _ rfl a5.u (J wr.heap.size 0) 1 1 [U (r:Int)] rfl rfl ?c1 ?c2 ?c3 ?c4 ?c5 ?_);case c1=>
    intro b6 u t;match b6,t with
    |0,t=>simp at t;subst t;simp[Addr.add]
   case c2=>intro u t;simp at t;subst t;rfl
   case c3=>simp only[maxLen];omega
   case c4=>omega
   case c5=>simp;omega
   intro v' ah V ab _;obtain⟨ao,c4,rfl⟩:=B8 V;have al:=O V;have aa:I (λz=>w.heap.size<=z) wr ah:=(I.alloc (λz=>w.heap.size<=z) wr (.cells #[U (r:Int)] 3)).trans (I.grown ab) (λz H x=>(A9 a5.u z x.symm).1);have ak:Hid (I No w ah):=((CR.u.mono (S':=λz=>w.heap.size<=z) (λ_ _ x=>x.elim)).trans aa (λ_ _ x=>x)).mono (λz H x=>by omega);clear V ab aa;go_wp2_with fail;go_roundw;case rel=>exact⟨o+1,ao,c4,by omega,by go_num,rfl,λs=>by omega,ak.u,(show World.ownsRow _ _ _ _ _ _ _ from by rw[HT.u,Q9];exact al.u)⟩
   case measure=>simp[intOf];omega
  .have au:o=m.length:=by omega
   subst au;rw[jZ]at F;have NN:Hid (m=[]->q=none/\p=0):=λs=>NR.u (by rw[s];rfl);have b8:=A4 CR.u am.u;have W:=blt b8;simp only at W;clear NR q6 ag;go_wp2_with fail;go_region_with (first
    |(go_at_call 117;refine(HU.u _ q p (B6 CR.u (I.drewN _ _ 1)) NN.u (A3 F.u (I.drewN No _ 1) (λ_ _ x=>x))).mono ?_;rintro s b9 ⟨r,n,rfl,hX,v,ht,G,H⟩;have bo:b9.cell? (J d 3)=some (pV b):=by (obtain⟨_,_,_,_,_,_,_,b7,_⟩:=G.cell;exact b7))
    |(go_at_call 25;refine(a6.u _ n r G hX v).mono ?_;rintro s ba ⟨rfl,a8,ae⟩));all_goals
    have HQ:Hid (lL j w c d b f i h k g e Z a (.nd 8 [] [Z9 (m.map (aX l))]) (.returned (U ((tl c (Z++n)).length:Int))) ba):=by
     have M:Z++(n++[⟨8,[],[],(r:Int)⟩])=(Z++n)++[⟨8,[],[],(r:Int)⟩]:=(rZ _ _ _).symm;have b2:=sJ G.ts (t:=⟨8,[],[],(r:Int)⟩) (.inr (.inr (.inl ⟨rfl,rfl,rfl,Int.natCast_nonneg r,Int.ofNat_lt.2 v⟩)));refine⟨(tl c (Z++n)).length,n++[⟨8,[],[],(r:Int)⟩],rfl,?_,?_,?_,?_,((KG.y (B6 CR.u (I.drewN _ _ 1))).trans H).trans ae⟩
     .rw[qQ,List.length_singleton];omega
     .rw[M,S9,S9,qQ,qQ,qQ,List.length_singleton];omega
     .rw[M,<-nL,b2];simp[ht]
     .rw[M];exact a8
    clear G H a8 ae ht;go_wp2_with fail;go_ret;exact HQ.u
end
def KQ(a b:E):Prop:=a.heap.size<=b.heap.size/\∀(q:Nat) (c) (e) (d),a.heap[q]?=some (.cells c e d)->e≠108->e≠81->e≠3->e≠57->b.heap[q]?=some (.cells c e d)
theorem KQ.refl(a):KQ a a:=⟨vQ _,λ_ _ _ _ h _ _ _ _=>h⟩
theorem KQ.trans{a b c}(h:KQ a b)(k:KQ b c):KQ a c:=⟨kQ h.1 k.1,λq d e f x g i j l=>k.2 q d e f (h.2 q d e f x g i j l) g i j l⟩
def KQ.kg{a b}(h:KG a b):KQ a b:=⟨h.1,λq c e d x f g _ _=>h.2 q c e d x f g⟩
theorem KQ.y{a b}(h:I No a b):KQ a b:=.kg (.y h)
section
variable{e w:E}{c:Cx}{a f d j:Nat}{i k fv:Value}{h:Int}{Z:List Ty}{b:bZ}{l:Of}
def aS.push{w1 w2:E}{x}{ov m}(L:aS e w c a f d j i k h fv Z b)(G:w.cell? (J a 6)=some ov)(M:I No w w1)(R:w1.grownBy w2 ov.ownBlock)(W:w2.ownsRow e.heap.size 3 1 m (b.length+1) (C7 b++[U x])){s}(a5:m.ownBlock=ov.ownBlock\/m.ownBlock=some s)(a9:w.heap.size<=s):
 w2.cell? (J a 6)=some ov/\w2.frozen? (J a 6)=false/\a<w2.heap.size/\aS e (w2.setCell (J a 6) m) c a f d j i k h fv Z (b++[x])/\KQ w (w2.setCell (J a 6) m):=by
 obtain⟨N,⟨q,D,t,A,v⟩,P⟩:=L;have p:q=ov:=by
  rw[cell_of_row w a 6 _ _ _ t]at G;exact vZ G
 subst p;have a3:∀{o:Nat} {y:Array Value} {p:TypeId} {z:Nat×Nat},w.heap[o]?=some (.cells y p z)->p≠3->some o≠q.ownBlock:=λ{o y p z} S he n=>by
  obtain⟨_,H,F⟩:=A9 A o n.symm;grind
 have B:=(M.mono (λ_ _ x=>x.elim)).trans (I.grown R) (λ_ _ x=>x);have u:w2.heap[a]?=some (.cells (tN c i k h f j fv q) 57 (0,0)):=by
  rw[B.block a (aI t) (a3 t (by decide))];exact t
 have r:I (λo=>some o=q.ownBlock\/o=a) w (w2.setCell (J a 6) m):=(B.mono λ_ _ x=>.inl x).trans (I.set _ _ _) (λ_ _ x=>.inr x);have T:KQ w (w2.setCell (J a 6) m):=⟨r.size,λa4 y p z hq _ _ h3 h4=>by
  rw[r.block a4 (aI hq) ?_]<;>grind⟩;have V:¬(some d=q.ownBlock\/d=a):=by
  rintro(n|n)
  .obtain⟨_,H,F⟩:=A9 A d n.symm;exact v.fy.tag _ _ _ F
  .subst n;exact v.fy.tag _ _ _ t
 have a2:∀g,q.ownBlock≠some g->g<w.heap.size->m.ownBlock≠some g:=λg a6 a7 n=>by
  grind
 refine⟨cr u rfl,frozen_of_row w2 a 6 _ _ u,(aI u),⟨?_,⟨m,D,?_,?_,?_⟩,P⟩,T⟩
 .refine N.trans r ?_;rintro o S (n|rfl)
  .have:=(A9 A o n.symm).1;omega
  .exact .inl rfl
 .rw[heap_setCell_same w2 a 6 _ _ _ u];rfl
 .have:w2.ownsRow e.heap.size 3 1 m (b++[x]).length (C7 (b++[x])):=by
   rw[qQ,List.length_singleton,Q9];exact W
  refine A3 this (I.set _ _ _) λg a8 n=>?_;grind
 .refine v.P r (v.fy.P r V) ?_ a2;grind
theorem aS.set(H:aS e w c a f d j i k h fv Z b){oc g}(A:w.cell? (J a 6)=some (.slice (some (J g 0)) b.length oc))(r)(x):
 aS e (w.setCell (J g r) (U x)) c a f d j i k h fv Z (b.set r x)/\KQ w (w.setCell (J g r) (U x)):=by
 obtain⟨M,⟨S,D,u,R,v⟩,N⟩:=H;have n:S=.slice (some (J g 0)) b.length oc:=by
  rw[cell_of_row w a 6 _ _ _ u]at A;exact vZ A
 subst n;obtain⟨T,G,P⟩:=A9 R g rfl;have o:I (λm=>m=g) w (w.setCell (J g r) (U x)):=I.set w (J g r) (U x);have F:∀{m:Nat} {s:Array Value} {n:TypeId} {t:Nat×Nat},w.heap[m]?=some (.cells s n t)->n≠3->m≠g:=λ{m s n t} z y p=>by
  grind
 refine⟨⟨M.trans o (λm z p=>by omega),⟨.slice (some (J g 0)) b.length oc,D,?_,?_,?_⟩,N⟩,o.size,λq s n t B _ _ L _=>by rw[o.block q (aI B) (F B L)];omega⟩
 .rw[o.block a (aI u) (F u (by decide))];omega
 .grind[List.length_set,sX]
 .refine v.P o (v.fy.P o (λp=>?_)) ?_ (λ_ x _=>x)
  .subst p;exact v.fy.tag _ _ _ P
  .rintro m G n z y p;obtain rfl|rfl|⟨_,hok⟩:=y
   .grind
   .grind
   .exact hok (by rw[show m=g from p];rfl)
end
