/-
  A part of the proof.
-/
import Derived.Test.YtneelacbkianjaaGreatDoorWriteA
import Derived.Test.YtneelacbkianjaaGreatDoorCheckA
import Derived.Test.YtneelacbkianjaaGreatDoorBindC
set_option maxHeartbeats 16000000
set_option maxRecDepth 100000
namespace Go.Proofs.YtneelacbkianjaaGreatDoor
open Go.Proofs.Tryz
open Go.RowKit Go.Maps
def trx(T:List Ty)(x:Int):Tr:=tr T x.toNat
theorem J0b:∀l a:List Tr,J8 (l++a)=J8 l++J8 a
 |[],_=>by simp[J8]
 |t::r,a=>by rw[vZ,J8,J8,J0b r a,kZ]
theorem Q6c(t:Tr):J8 [t]=flat t:=by simp[J8]
theorem D6c(T:List Ty)(a:uZ){j:Nat}(b:j<a.length):J8 ((a.take (j+1)).map (trx T))=J8 ((a.take j).map (trx T))++flat (trx T a[j]):=by
 rw[nQ b,wY,J0b];simp[Q6c]
theorem G7d{T:List Ty}{z:Nat}(a:TsOk T)(c:z<T.length)(b:T[z].kind=10):flat (tr T z)=J8 (T[z].list.map (trx T)):=by
 rw[Y0 a c,flat,rY b,yY (by omega),M1a a c (.inr b)];simp;rfl
theorem D7c{T:List Ty}{z:Nat}(a:TsOk T)(c:z<T.length)(b:T[z].kind≠10):flat (tr T z)=[tr T z]:=by
 rw[Y0 a c,flat,yY b]
theorem G3c:∀l:List Tr,l.length * 5<=wgL l
 |[]=>by simp
 |t::r=>by have:=G3c r;simp only[jQ,wgL];omega
theorem T3c(T:List Ty)(a:uZ)(j:Nat):wgL ((a.take j).map (trx T))<=wgL (a.map (trx T)):=by
 have e:a.map (trx T)=(a.take j).map (trx T)++(a.drop j).map (trx T):=by rw[<-List.map_append,List.take_append_drop]
 rw[e,G4c];omega
theorem L5b{T:List Ty}{ls a:uZ}{j:Nat}(h:a.map (trx T)=J8 ((ls.take j).map (trx T))):a.length * 5<=wgL (ls.map (trx T)):=by
 have c:=G3c (J8 ((ls.take j).map (trx T)));have d:=P3a ((ls.take j).map (trx T)) (λx _=>G1c x);have e:=T3c T ls j;have b:=congrArg List.length h;rw[iZ]at b;omega
theorem N0d{T:List Ty}{z:Nat}(a:TsOk T)(b:z<T.length)(c:T[z].kind=10):wgL (T[z].list.map (trx T))<=wg (tr T z):=by
 have e:(T[z].list.map λx=>tr T x.toNat)=T[z].list.map (trx T):=rfl;rw[Y0 a b,wg,yY (by omega),M1a a b (.inr c),e];simp
theorem C2b{l:List Tr}(a:l≠[])(h:∀t∈l,flat t≠[]):J8 l≠[]:=by
 cases l with
 |nil=>exact absurd rfl a
 |cons t r=>
  rw[J8];intro e;exact h t (by simp) (List.append_eq_nil_iff.1 e).1
theorem K1c(t:Tr)(h:Wf t):flat t≠[]:=by
 induction h with
 |plain k i e=>rw[flat,yY (by omega)];simp
 |obj j g a b c d _=>rw[flat,yY (by decide)];simp
 |arr t a _=>rw[flat,yY (by decide)];simp
 |fn t l a b _ _=>rw[flat,yY (by decide)];simp
 |uni g e h f=>
  rw[flat,rY rfl];exact C2b (by rintro rfl;simp at e) f
def ApP(T:List Ty)(f:uZ)(w:lZ)(e:Ending)(d:lZ):Prop:=∃(b:Option Addr) (c:Nat) (a:uZ),e= .returned (.slice b a.length c)/\I No w d/\d.ownsRow w.heap.size 3 1 (.slice b a.length c) a.length (C8 a)/\(∀x∈a,0<=x/\x<T.length)/\a.map (trx T)=J8 (f.map (trx T))
section
variable{lb mb N:Nat}{T:List Ty}{D:Dt}
def G1e(lb mb N:Nat)(T:List Ty)(D:Dt)(m:Nat):Prop:=∀(a:uZ) (w:lZ) (b:Option Addr) (c:Nat),(∀x∈a,0<=x/\x<(m:Int)/\x<T.length)->Shp w lb mb N T D->w.ownsRow 0 3 1 (.slice b a.length c) a.length (C8 a)->a.length<=100000000->wgL (a.map (trx T))<=1000000000->
 Calls prog 161 #[pV lb,.slice b a.length c] w (ApP T a w)
theorem F2c(hf:Few T){al:Nat}(IH:∀z,z<al->G1e lb mb N T D z):G1e lb mb N T D al:=by
 intro e w la lc av a2 ag hn bc;have p:=a2.ok;obtain⟨i0,hi,ai,aj,ak⟩:=info_parts Tryz.infoInt;have a9:Hid (∀a,I No w a->Shp a lb mb N T D):=λa ha=>a2.still ha;have FO:Hid (∀a,I No w a->a.ownsRow 0 3 1 (.slice la e.length lc) e.length (C8 e)):=λa ha=>A4 ag ha (λ_ _ x=>x);clear a2 ag;go_enter func161,ntmps161;go_wp2_with fail
 go_loopw [11,5] (λa7 u wr=>∃(j:Nat) (c:uZ) (C:Option Addr) (B:Nat),j<=e.length/\a7=U (j:Int)/\u= .slice C c.length B/\Hid (I No w wr)/\Hid (wr.ownsRow w.heap.size 3 1 (.slice C c.length B) c.length (C8 c))/\Hid (∀x∈c,0<=x/\x<(T.length:Int))/\Hid (c.map (trx T)=J8 ((e.take j).map (trx T)))) (λa7 _ _=>e.length - (intOf a7).toNat)
 case atStart=>exact⟨0,[],none,0,wQ _,rfl,rfl,I.refl _ _,kW _ _ _ _,(show∀x∈([]:uZ),_ from by simp),(show _=_ from by simp[J8])⟩
 case round=>
  obtain⟨j,c,C,B,hj,rfl,rfl,l,v,X,s⟩:=hrel;by_cases F:j<e.length
  · have be:=av e[j] (mQ F);have V:=O (D6c T e F);have b9:=L5b s.o;have aw:=K1b (jZ.2 ⟨e[j],mQ F,rfl⟩:trx T e[j]∈e.map (trx T));obtain⟨b3,au,hg,b5,aq,y0⟩:=D9 (FO.o wr l.o) F;subst au;unfold maxLen at aq;generalize e[j]=xx at *;obtain⟨z,rfl⟩:∃z:Nat,xx=(z:Int):=⟨xx.toNat,by omega⟩;have n:z<T.length:=by omega
    have ay:trx T (z:Int)=tr T z:=by simp[trx]
    rw[ay]at aw V;obtain⟨b1,c3,b2,-,b8,-,af⟩:=(a9.o wr l.o).cell;obtain⟨g3,fa,fc,K,L,rfl,r,b4,ao,x0,x1,x2,x3,-,a6⟩:=af z n;unfold maxLen at ao;clear af;have ap:=hf z n;have G:=(p z n).lst;have W:=O (λd=>G7d p n d);have R:=O (λd=>D7c p n d);have H:=λd=>N0d p n d;have a3:T[z].kind=10->T[z].list≠[]:=by
     intro d;rcases p z n with m|m|m|m|m
     · omega
     · omega
     · omega
     · omega
     · rintro ae;have:=m.2.2.1;rw[ae]at this;simp at this
    have a4:=λx (b:x∈T[z].list)=>G4b p x.toNat (by have:=G x b;omega);generalize T[z].kind=k at *;generalize T[z].fields=fs at *;generalize T[z].list=o at *;generalize T[z].of'=a5 at *;have y:I No w (wr.alloc (.cells #[U k,.slice fa fs.length fc,.slice K o.length L,U a5] 76)):=l.o.trans (I.alloc _ _ _) (λ_ _ x=>x);have SZ:w.heap.size<=wr.heap.size:=l.o.size;by_cases d:k=10
    · subst d;have HA:=O (IH z (by omega) o _ K L (λx b=>by have:=G x b;omega) (a9.o _ y) (a6.alloc _) ap.1 (by have:=H rfl;omega));have t:=O (v.o.alloc (.cells #[U 10,.slice fa fs.length fc,.slice K o.length L,U a5] 76));have am:Hid (J8 (o.map (trx T))≠[]):=C2b (by simpa using a3 rfl) (λbf m=>by
       obtain⟨x,b,rfl⟩:=jZ.1 m;exact K1c _ (a4 x b))
      have bd:=H rfl;have P:=O (W.o rfl);have A:=O y;clear y v l a6 H a3 a4 G W R;go_wp2_with fail
      refine HA.o.mono ?_;rintro ae az ⟨b0,c2,f,rfl,h2,h3,h4,E⟩;have b7:=L5b (ls:=o) (j:=o.length) (by rw[xZ];exact E);have ax:0<f.length:=by
       rcases Nat.eq_zero_or_pos f.length with h0|h0
       · have:=congrArg List.length E;rw[iZ,h0]at this;exact absurd (List.length_eq_zero_iff.1 this.symm) am.o
       · exact h0
      obtain⟨q,rfl,ba,bb,-,-,ah⟩:=F5 h3 ax;have ab:=O (A4 t.o h2 (λ_ _ x=>x));have HN:Hid (∀i u,(C8 f)[i]? =some u->az.cell? (((J q 0):Addr).add i)=some u):=by
       intro i u g;have an:((J q 0):Addr).add i=(J q i):=by unfold Addr.add;split<;>simp_all
       rw[an];exact ah i u g
      have H1:Hid (∀u∈C8 f,u.oneCell'=true):=by
       intro u g;unfold C8 at g;obtain⟨x,-,rfl⟩:=jZ.1 g;rfl
      have HL:Hid ((C8 f).length=f.length * 1):=(show _=_ from by simp[C8]);have aa:=O (A.o.trans h2 (λ_ _ x=>x));have H4:=O h4;have H5:=O E;clear HA t h2 h3 h4 E ah A;go_wp2_with (at_builtin;refine wpList_append_own _ rfl _ _ 43 rfl w.heap.size 3 i0 (U 0) 1 8 underlying43 hi ai aj ak rfl (by decide) _ _ _ rfl ab.o (J q 0) f.length c2 (C8 f) rfl HL.o HN.o H1.o ?c3 ?c4 ?c5 ?_)
      case c3=>simp only[maxLen];omega
      case c4=>omega
      case c5=>have:=aa.o.size;omega
      intro v' a8 h r _;have Z:c.length+f.length=(c++f).length:=by simp
      rw[Z,show C8 c++C8 f=C8 (c++f) from by simp[C8]]at h;obtain⟨Y,c4,rfl⟩:=B9 h;have S:=O h;have M:Hid (I No w a8):=(((I.mono aa.o (S':=λk=>w.heap.size<=k) (λ_ _ x=>x.elim)).trans (I.grown r) (λk d x=>(A9 ab.o k x.symm).1))).mono (λk d x=>by omega);clear h r;go_wp2;go_roundw
      case rel=>
       refine⟨j+1,c++f,Y,c4,by omega,by go_num,rfl,M.o,S.o,λx b=> ?_, ?_⟩
       · rcases qW.1 b with b|b
         · exact X.o x b
         · exact H4.o x b
       · show _=_;rw[V.o,wY,s.o,H5.o,P.o]
      case measure=>simp[intOf];omega
    · have b6:(k==10)=false:=by simp[d]
      have P:=O (R.o d);have t:=O ((v.o.alloc (.cells #[U k,.slice fa fs.length fc,.slice K o.length L,U a5] 76)).alloc (.cells #[U (z:Int)] 3));have A:=O (y.trans (I.alloc No _ (.cells #[U (z:Int)] 3)) (λ_ _ x=>x));clear y v l a6 H a3 a4 G W R;go_wp2_with (at_builtin;refine wpList_append_own _ rfl _ _ 43 rfl w.heap.size 3 i0 (U 0) 1 8 underlying43 hi ai aj ak rfl (by decide) _ _ _ rfl t.o (J (wr.heap.size+1) 0) 1 1 [U (z:Int)] rfl rfl ?c1 ?c2 ?c3 ?c4 ?c5 ?_)
      case c1=>
       intro i u g;match i,g with
       |0,g=>simp at g;subst g;simp[Addr.add]
      case c2=>intro u g;simp at g;subst g;rfl
      case c3=>simp only[maxLen];omega
      case c4=>omega
      case c5=>simp;omega
      intro v' a8 h r _;have Z:c.length+1=(c++[(z:Int)]).length:=by simp
      rw[Z,show C8 c++[U (z:Int)]=C8 (c++[(z:Int)]) from by simp[C8]]at h;obtain⟨Y,c4,rfl⟩:=B9 h;have S:=O h;have M:Hid (I No w a8):=(((I.mono A.o (S':=λk=>w.heap.size<=k) (λ_ _ x=>x.elim)).trans (I.grown r) (λk d x=>(A9 t.o k x.symm).1))).mono (λk d x=>by omega);clear h r;go_wp2;go_roundw
      case rel=>
       refine⟨j+1,c++[(z:Int)],Y,c4,by omega,by go_num,rfl,M.o,S.o,λx b=> ?_, ?_⟩
       · rcases qW.1 b with b|b
         · exact X.o x b
         · simp at b;subst b;omega
       · show _=_;rw[V.o,wY,s.o,P.o];simp[trx]
      case measure=>simp[intOf];omega
  · have ar:j=e.length:=by omega
    subst ar;rw[xZ]at s;go_wp2_with fail
    go_ret;exact⟨C,B,c,rfl,l.o,v.o,X.o,s.o⟩
theorem J6b(a:Few T)(m:Nat):G1e lb mb N T D m:=by
 induction m using Nat.strongRecOn with
 |ind m b=>exact F2c a b
end
theorem L0c:∀(l a:List Tr) (t:Tr),dd a (l++[t])=if (dd a l).any (λu=>key u==key t) then dd a l else dd a l++[t]
 |[],a,t=>by simp[dd]
 |u::r,a,t=>by
  rw[vZ,dd,dd];split<;>exact L0c r _ t
theorem E0e(l:List Tr)(k:bZ):(dd [] l).any (λu=>key u==k)=decide ((l.map key).count k≠0):=by
 rw[Bool.eq_iff_iff,List.any_eq_true,decide_eq_true_iff];constructor
 · rintro⟨u,b,e⟩;have:u∈l:=by
    rcases N4b _ _ u b with h|h
    · simp at h
    · exact h
   have a:k∈l.map key:=jZ.2 ⟨u,this,by simpa using e⟩;have:=List.count_pos_iff.2 a;omega
 · intro h;have a:k∈l.map key:=List.count_pos_iff.1 (by omega);obtain⟨x,d,e⟩:=jZ.1 a;obtain⟨u,b,c⟩:=N5b l [] x d;exact⟨u,b,by rw[c,e];simp⟩
theorem E7d:Keyed prog 9:=string_keyed underlying9
theorem I8b(l:bZ)(h:l.length<=1000000000):keyOf prog 9 (.string ⟨l.toArray⟩)=some (.string l):=by
 have a:(⟨l.toArray⟩:ByteArray).size<=maxLen:=by simp[ByteArray.size];unfold maxLen;omega
 unfold keyOf;simp only[underlying9];unfold mapKey;simp[underlying9,a]
structure Seen(w:lZ)(q:Nat)(m:Nat)(ks:List bZ):Prop where
 own:∃n D,w.ownsMap prog 9 (plainElem (H:=Unit) prog 3) q n D/\n<=m/\IsMap D/\∀s:bZ,D.atKey (.string s) (.lit (.int .i64 0))= .lit (.int .i64 ((ks.count s:Nat):Int))
theorem Seen.new(w:lZ):Seen (w.alloc (.map #[] 0)) w.heap.size 0 []:=⟨0,.map [],World.ownsMap_made w _ _ _,vQ _,isMap_empty,λ_=>rfl⟩
theorem Seen.chg{S:Nat->Prop}{w c:lZ}{q m:Nat}{b:List bZ}(h:Seen w q m b)(g:I S w c)(i:¬S q):Seen c q m b:=by
 obtain⟨n,D,⟨e,d,a,f⟩,r⟩:=h.own;exact⟨n,D,⟨e,d,by rw[g.block q (ltG a) i];exact a,f⟩,r⟩
theorem Seen.look{w:lZ}{q m:Nat}{b:List bZ}(h:Seen w q m b)(s:bZ)(g:s.length<=1000000000):
 (Instr.lookup 177 (.map (some q)) (.string ⟨s.toArray⟩) false).run prog w= .ok (.int .i64 ((b.count s:Nat):Int)) w:=by
 obtain⟨n,D,e,j,i,d⟩:=h.own;obtain⟨c,f,a,_⟩:=e.lookup_int E7d underlying177 underlying3 (Tryz.zeroInt _) (I8b s g);rw[d s]at a;simp only[DataW.lit.injEq,Lit.int.injEq,true_and]at a;rw[a];exact f
theorem Seen.put{w:lZ}{q m:Nat}{a:List bZ}(h:Seen w q m a)(s:bZ)(o:s.length<=1000000000)(v:m<=1000000000)(t:a.length<=200000000):
 ∃b,(Instr.mapUpdate 177 (.map (some q)) (.string ⟨s.toArray⟩) (.int .i64 (((a.count s:Nat):Int)+1))).run prog w= .ok () b/\Seen b q (m+1) (a++[s])/\I (λk=>k=q) w b:=by
 obtain⟨n,D,i,y,d,f⟩:=h.own;have r:a.count s<=a.length:=List.count_le_length;have p:(Lit.int .i64 (((a.count s:Nat):Int)+1)).wf=true:=by
  have:=U4 (a.count s+1) (by omega);simpa using this
 obtain⟨b,l,j,g⟩:=i.update E7d underlying177 (by unfold maxLen;omega) (I8b s o) (plainElem_int underlying3 p);refine⟨b,l,⟨n+1,_,j,by omega,d.put _ _,λu=> ?_⟩,(I.grown g).mono (λk _ x=>by simpa using x)⟩;by_cases c:u=s
 · subst c;rw[atKey_put_same d (show WideAt.IsKeyLit (.string u) from trivial)];simp
 · rw[atKey_put_other (by simpa using c),f u,List.count_append];have:List.count u [s]=0:=by simp[List.count_singleton];exact λe=>c e.symm
   rw[this];simp
def UnP(a d N:Nat)(T:List Ty)(D:Dt)(f:Nat->Prop)(c:uZ)(w:lZ)(e:Ending)(b:lZ):Prop:=
 ∃(r:Nat) (X:List Ty),e= .returned (.int .i64 (r:Int))/\X.length<=1/\r<(T++X).length/\Sho b a d N (T++X) D f/\Few (T++X)/\tr (T++X) r=C8a (c.map (trx T))/\∃v,w.cell? (J a 0)=some v/\I (L4a a v) w b
theorem F6e{T:List Ty}{z:Nat}(b:TsOk T)(c:z<T.length)(d:T[z].kind=5):tr T z= .nd 5 [] []:=by
 rcases b z c with a|a|a|a|a
 · rw[Y0 b c,yY (by omega),a.2.2.1,a.2.2.2,d];rfl
 · omega
 · omega
 · omega
 · omega
section
variable{a b N:Nat}{T:List Ty}{D:Dt}
theorem B9c{ok:Nat->Prop}(w:lZ)(hO:Sho w a b N T D ok)(be:∀g,w.heap.size<=g->ok g)(P:Few T)(f:uZ)(bc:∀x∈f,0<=x/\x<(T.length:Int))(ci:f≠[])(la:Option Addr)(lc:Nat)(bf:w.ownsRow 0 3 1 (.slice la f.length lc) f.length (C8 f))(hn:f.length<=2001)(df:wgL (f.map (trx T))<=200000000)(hN:T.length+1<=N):
 Calls prog 116 #[pV a,.slice la f.length lc] w (UnP a b N T D ok f w):=by
 have h:=hO.shp;have a7:=O hO;have bu:=O be;clear hO be;have hT:=h.ok;have d9:=@run_makeMap prog;obtain⟨i0,hi,cq,cs,ct⟩:=info_parts Tryz.infoInt;have d8:=h.mst.lt;have B:I No w (w.alloc (.map #[] 0)):=I.alloc _ _ _;have HA:=O (J6b (lb:=a) (mb:=b) (N:=N) (D:=D) P T.length f (w.alloc (.map #[] 0)) la lc (λx d=>by have:=bc x d;omega) (h.still B) (bf.alloc _) (by omega) (by omega));have SN:=O (Seen.new w);have HS:=O (h.still B);have bt:Hid (J8 (f.map (trx T))≠[]):=C2b (by simpa using ci) (λt ht=>by
  obtain⟨x,d,rfl⟩:=jZ.1 ht;exact K1c _ (G4b hT x.toNat (by have:=bc x d;omega)))
 obtain⟨X,yx,ae,cp,-⟩:=h.blk;have V0:Hid (w.cell? (J a 0)=some X):=(show _=_ from cr ae rfl);have bk:=O B;have ch:=(ltG ae);clear h bf ae cp B;go_enter func116,ntmps116;go_wp2_with fail
 refine HA.o.mono ?_;rintro e o ⟨pa,cu,c,rfl,M,h2,h3,h4⟩;have da:=L5b (ls:=f) (j:=f.length) (by rw[xZ];exact h4);simp only[World.size_alloc]at h2;have S1:=O (SN.o.chg M (λx=>x));have az:=O (HS.o.still M);have bm:=O (bk.o.trans M (λ_ _ x=>x));have db:w.heap.size+1<=o.heap.size:=by have:=M.size;simpa using this
 have FP:Hid (∀l,I (λk=>k=w.heap.size) o l->l.ownsRow 0 3 1 (.slice pa c.length cu) c.length (C8 c)):=λl K=>C9 (A4 h2 K (λg s x=>by have:=(A9 h2 g s).1;omega)) (wQ _);have ap:Hid (∀l,I (λk=>k=w.heap.size) o l->Shp l a b N T D):=by
  intro l K;refine az.o.chg K (az.o.mst.chg K (by omega)) (λk cy e C _ x=> ?_);obtain⟨dk,cv,⟨es,cl,hh,_⟩,_⟩:=S1.o.own;have x':k=w.heap.size:=x;rw[x',hh]at C;cases C
 have FC:Hid (∀l,I (λk=>k=w.heap.size) o l->I No w l):=λl K=>((bm.o.mono (S':=λk=>k=w.heap.size) (λ_ _ x=>x.elim)).trans K (λ_ _ x=>x)).mono (λk C x=>by omega);have HI:=O h3;have Z:=O h4;clear M h2 h3 h4 HA SN HS;go_wp2_with fail
 go_loopw [15,5] (λam u wr=>∃(j:Nat) (m:uZ) (H:Option Addr) (G:Nat),j<=c.length/\am= .int .i64 (j:Int)/\u= .slice H m.length G/\Hid (I (λk=>k=w.heap.size) o wr)/\Hid (wr.ownsRow o.heap.size 3 1 (.slice H m.length G) m.length (C8 m))/\Hid (∀x∈m,0<=x/\x<(T.length:Int))/\
  Hid (Seen wr w.heap.size j ((c.take j).map λx=>key (trx T x)))/\Hid (m.map (trx T)=dd [] ((c.take j).map (trx T)))/\Hid (∀x∈c.take j,(trx T x).k≠5)) (λam _ _=>c.length - (intOf am).toNat)
 case atStart=>exact⟨0,[],none,0,wQ _,rfl,rfl,I.refl _ _,kW _ _ _ _,(show∀x∈([]:uZ),_ from by simp),S1.o,(show _=_ from rfl),(show∀x∈c.take 0,_ from by simp)⟩
 case round=>
  obtain⟨j,m,H,G,hj,rfl,rfl,q,L,IR,SR,F,NR⟩:=hrel;have dg:o.heap.size<=wr.heap.size:=q.o.size;have cz:m.length<=c.length:=by
   have A:=congrArg List.length F.o;have e2:∀(a6 l:List Tr),(dd l a6).length<=l.length+a6.length:=by
    intro a6;induction a6 with
    |nil=>intro l;simp[dd]
    |cons t r ih=>
     intro l;rw[dd];split
     · have:=ih l;simp;omega
     · have:=ih (l++[t]);simp at this⊢;omega
   have e3:=e2 ((c.take j).map (trx T)) [];simp at A e3;omega
  by_cases R:j<c.length
  · have dh:=HI.o c[j] (mQ R);have aj:trx T c[j]∈J8 (f.map (trx T)):=by rw[<-Z.o];exact jZ.2 ⟨_,mQ R,rfl⟩
    have co:wg (trx T c[j])<=200000000:=by
     have A:=K1b aj;have e2:=P3a (f.map (trx T)) (λx _=>G1c x);omega
    have d7:c[j]∈c:=mQ R;have a8:=O (nQ R);obtain⟨g,cj,s,ce,ag,y0⟩:=D9 (FP.o wr q.o) R;subst cj;unfold maxLen at ag;generalize c[j]=xx at *;obtain⟨z,rfl⟩:∃z:Nat,xx=(z:Int):=⟨xx.toNat,by omega⟩;have S:z<T.length:=by omega
    have E:trx T (z:Int)=tr T z:=by simp[trx]
    rw[E]at co aj;have aa:=O (ap.o wr q.o);obtain⟨cw,c3,cx,-,d5,-,b6⟩:=aa.o.cell;obtain⟨g3,fa,fc,di,dj,rfl,d3,d0,a3,x0,-,-,-,-,-⟩:=b6 z S;unfold maxLen at a3;clear b6;have bj:=O (λC=>F6e hT S C);have au:Hid ((tr T z).k=T[z].kind):=(show _=_ from by rw[Y0 hT S];rfl);have Y:=O (S3d wr aa.o P z S (by omega));have A:wtx true T z=key (tr T z):=rfl;have ai:(key (tr T z)).length<=1000000000:=by
     have:=F8c (bn:=true) (T:=T) (i:=z);rw[A]at this;omega
    rw[A]at Y;by_cases ah:T[z].kind=5
    · generalize T[z].kind=k at *;subst ah;have a2:Hid (C8a (f.map (trx T))=tr T z):=by
       show _=_;unfold C8a;rw[rY (List.any_eq_true.2 ⟨tr T z,aj,by rw[au.o];rfl⟩)];exact(bj.o rfl).symm
      have v:=O (FC.o wr q.o);clear q L SR Y;go_wp2_with fail
      go_ret;exact⟨z,[],rfl,by simp,by simpa using S,by rw[zY];exact a7.o.still v.o,by rw[zY];exact P,by rw[zY];exact a2.o.symm,X,V0.o,v.o.mono λ_ _ x=>x.elim⟩
    · have d4:(T[z].kind==5)=false:=by simp[ah]
      have ba:(tr T z).k≠5:=by rw[au.o];exact ah
      have bs:=O ba;generalize T[z].kind=k at *;generalize b2:key (tr T z)=n at *;have av:=O b2;clear b2;have c9:=O SR.o;have bi:=O q.o;have b1:=O L.o;clear SR q L ba;go_wp2_with fail
      refine Y.o.mono ?_;rintro e an ⟨rfl,V⟩;have a3:I (λk=>k=w.heap.size) o an:=bi.o.trans V (λ_ _ x=>x.elim);have ak:=c9.o.chg V (λx=>x);have dc:wr.heap.size<=an.heap.size:=V.size;have d6:=ak.look n ai;obtain⟨W,cm,al,a5⟩:=ak.put n ai (by omega) (by simp;omega);have bb:=al.look n ai;have b7:((((c.take j).map λx=>key (trx T x))++[n]).count n:Int)=(((c.take j).map λx=>key (trx T x)).count n:Int)+1:=by simp
      rw[b7]at bb;have d1:((c.take j).map λx=>key (trx T x)).count n<=200000000:=by
       have:=List.count_le_length (a:=n) (l:=(c.take j).map λx=>key (trx T x));rw[iZ,List.length_take]at this;omega
      have bp:Hid ((dd [] ((c.take j).map (trx T))).any (λu=>key u==n)=decide (((c.take j).map λx=>key (trx T x)).count n≠0)):=by
       have:=E0e ((c.take j).map (trx T)) n;rw[List.map_map]at this;exact this
      have c7:Hid ((c.take (j+1)).map (λx=>key (trx T x))=((c.take j).map λx=>key (trx T x))++[n]):=by
       show _=_;rw[a8.o,wY];simp[E,av.o]
      generalize ((c.take j).map λx=>key (trx T x)).count n=ab at *;have aq:=O (a3.trans a5 (λ_ _ x=>x));have bx:=O al;have br:=O (V.mono (S':=λk=>k=w.heap.size) (λ_ _ x=>x.elim)|>.trans a5 (λ_ _ x=>x));have de:an.heap.size<=W.heap.size:=a5.size;have ax:=O (A4 b1.o br.o (λg s x=>by have:=(A9 b1.o g s).1;omega));clear ak al V a5 a3 b7 Y;have aw:Hid (∀x∈c.take (j+1),(trx T x).k≠5):=by
       intro x d;rw[a8.o]at d;rcases qW.1 d with d|d
       · exact NR.o x d
       · simp at d;subst d;rw[E];exact bs.o
      have b0:Hid (Seen W w.heap.size (j+1) ((c.take (j+1)).map λx=>key (trx T x))):=by
       have:=bx.o;rw[<-c7.o]at this;exact this
      have ar:Hid (dd [] ((c.take (j+1)).map (trx T))=if ab≠0 then dd [] ((c.take j).map (trx T)) else dd [] ((c.take j).map (trx T))++[tr T z]):=by
       show _=_;rw[a8.o,wY,uY,List.map_nil,E,L0c,av.o,bp.o];simp only[decide_eq_true_eq]
      by_cases B:ab=0
      · subst B;have cb:((0:Nat):Int)+1=1:=rfl;rw[cb]at cm bb;have ay:=O (ax.o.alloc (.cells #[.int .i64 (z:Int)] 3));go_wp2_with (at_builtin;refine wpList_append_own _ rfl _ _ 43 rfl o.heap.size 3 i0 (.int .i64 0) 1 8 underlying43 hi cq cs ct rfl (by decide) _ _ _ rfl ay.o (J W.heap.size 0) 1 1 [.int .i64 (z:Int)] rfl rfl ?c1 ?c2 ?c3 ?c4 ?c5 ?_)
        case c1=>
         intro i u p;match i,p with
         |0,p=>simp at p;subst p;simp[Addr.add]
        case c2=>intro u p;simp at p;subst p;rfl
        case c3=>simp only[maxLen];omega
        case c4=>omega
        case c5=>simp;omega
        intro v' ao a4 b8 _;have e3:m.length+1=(m++[(z:Int)]).length:=by simp
        rw[e3,show C8 m++[.int .i64 (z:Int)]=C8 (m++[(z:Int)]) from by simp[C8]]at a4;obtain⟨ca,c4,rfl⟩:=B9 a4;have bv:=O a4;have b5:=I.alloc (λk=>o.heap.size<=k) W (.cells #[.int .i64 (z:Int)] 3);have af:I (λk=>o.heap.size<=k) W ao:=b5.trans (I.grown b8) (λk C x=>(A9 ay.o k x.symm).1);have bn:Hid (I (λk=>k=w.heap.size) o ao):=((aq.o.mono (S':=λk=>k=w.heap.size\/o.heap.size<=k) (λ_ _ x=> .inl x)).trans af (λ_ _ x=> .inr x)).mono (λk C x=>by
         rcases x with x|x
         · exact x
         · omega)
        have bz:Hid (Seen ao w.heap.size (j+1) ((c.take (j+1)).map λx=>key (trx T x))):=b0.o.chg af (by omega);clear a4 b8 b5 af;go_wp2;go_roundw
        case rel=>
         refine⟨j+1,m++[(z:Int)],ca,c4,by omega,by go_num,rfl,bn.o,bv.o,λx d=> ?_,bz.o, ?_,aw.o⟩
         · rcases qW.1 d with d|d
           · exact IR.o x d
           · simp at d;subst d;omega
         · show _=_;rw[ar.o,yY (by simp),wY,F.o];simp[E]
        case measure=>simp[intOf];omega
      · have d2:((ab:Int)+1==1)=false:=by simp;omega
        go_wp2_with fail
        go_roundw
        case rel=>exact⟨j+1,m,H,G,by omega,by go_num,rfl,aq.o,ax.o,IR.o,b0.o,(show _=_ from by rw[ar.o,rY B,F.o]),aw.o⟩
        case measure=>simp[intOf];omega
  · have cg:j=c.length:=by omega
    subst cg;rw[xZ]at F NR;have v:=O (FC.o wr q.o);have aa:=O (ap.o wr q.o);have b3:(J8 (f.map (trx T))).any (λt=>t.k==5)=false:=by
     rw[<-Z.o,List.any_map,Bool.eq_false_iff];intro d;obtain⟨x,d,e⟩:=List.any_eq_true.1 d;exact NR.o x d (by simpa using e)
    have a2:Hid (C8a (f.map (trx T))=match m.map (trx T) with
     |[]=> .nd 5 [] []
     |[t]=>t
     |t::u::r=> .nd 10 [] (t::u::r)):=by
     show _=_;unfold C8a;rw[yY (by rw[b3];decide),<-Z.o,<-F.o];rfl
    have cc:m≠[]:=by
     rintro rfl;have A:=F.o;have bd:=bt.o;rw[<-Z.o]at bd;obtain⟨t,r,e2⟩:=List.exists_cons_of_ne_nil bd;obtain⟨u,p,-⟩:=N5b (c.map (trx T)) [] t (by rw[e2];simp);rw[<-A]at p;simp at p
    have a9:=O L.o;clear q L SR b3;have cd:m.length<=100000000:=by omega
    match m,cc with
    |[x],_=>
     obtain⟨g,cf,s,ce,ag,y0⟩:=D9 (ls:=[x]) (C9 a9.o (wQ _)) (j:=0) (by simp);subst cf;unfold maxLen at ag;have d:=IR.o x (by simp);simp only[List.getElem_cons_zero]at y0;obtain⟨z,rfl⟩:∃z:Nat,x=(z:Int):=⟨x.toNat,by omega⟩;have E:trx T (z:Int)=tr T z:=by simp[trx]
     simp only[jQ,xQ,Nat.zero_add]at *;go_wp2_with fail
     go_ret;exact⟨z,[],rfl,by simp,by rw[zY];omega,by rw[zY];exact a7.o.still v.o,by rw[zY];exact P,by rw[zY,a2.o];simp[E],X,V0.o,v.o.mono λ_ _ x=>x.elim⟩
    |x::y::r,_=>
     have ht:TyOk ⟨10,[],x::y::r,0⟩ T.length:= .inr (.inr (.inr (.inr ⟨rfl,rfl,by simp,λu p=>IR.o u p⟩)));have ck:TyV wr ok ⟨10,[],x::y::r,0⟩ [.int .i64 10,sN,.slice H (x::y::r).length G,.int .i64 0]:=⟨_,_,rfl,kW _ _ _ _,C9 a9.o (wQ _),λg s=>by simp[Value.ownBlock]at s,λg s=>bu.o g (by have:=(A9 a9.o g s).1;omega)⟩;have bw:=O (X8a wr (a7.o.still v.o) ⟨10,[],x::y::r,0⟩ none H 0 0 (x::y::r).length G ck ht hN);have c8:Hid (tr (T++[⟨10,[],x::y::r,0⟩]) T.length=C8a (f.map (trx T))):=by
      show _=_;rw[N5a hT ht,a2.o];simp[trx]
     have bq:Hid (Few (T++[⟨10,[],x::y::r,0⟩])):=by
      intro i hi;by_cases b9:i<T.length
      · rw[List.getElem_append_left b9];exact P i b9
      · have e:i=T.length:=by simp at hi;omega
        subst e;simp only[List.getElem_concat_length];exact⟨cd,by simp⟩
     have e0:((((x::y::r).length:Nat):Int)==0)=false:=by simp;omega
     have A:((((x::y::r).length:Nat):Int)==1)=false:=by simp;omega
     generalize (x::y::r).length=nn at *;go_wp2_with fail
     refine bw.o.mono ?_;rintro e dl ⟨rfl,⟨v5,bh,b4⟩,bg⟩;have cn:v5=X:=by
      have e6:wr.cell? (J a 0)=some X:=by rw[World.cell?_of_block (v.o.block a ch (λx=>x))];exact V0.o
      rw[bh]at e6;exact bY e6
     subst cn;have bo:=O ((v.o.mono (S':=L4a a v5) (λ_ _ x=>x.elim)).trans b4 (λ_ _ x=>x));have c6:=O bg;clear b4 bg bh;go_wp2;go_ret;exact⟨T.length,[⟨10,[],x::y::r,0⟩],rfl,by simp,by simp,c6.o,bq.o,c8.o,v5,V0.o,bo.o⟩
end
section
variable{j w:lZ}{c:Cx}{a b f i:Nat}{h k e:Value}{g:Int}{Z:List Ty}{d:uZ}
def Far(a:Nat)(w:lZ)(v:Value):Prop:=∀m,w.cell? (J a 6)=some m->∀l,v.ownBlock=some l->m.ownBlock≠some l
theorem Cst.ov(q:Cst j w c a b f i h k g e Z d):∃l D,w.cell? (J a 6)=some l/\w.heap[a]? =some (.cells (pcs c h k g b i e l) 46 (0,0))/\w.ownsRow j.heap.size 3 1 l d.length (C8 d)/\Sho w b f 4000 (tl c Z) D (λm=>l.ownBlock≠some m)/\∀m,w.heap.size<=m->l.ownBlock≠some m:=by
 obtain⟨l,D,n,o,r⟩:=q.st;refine⟨l,D,cr n rfl,n,o,r,λm s p=> ?_⟩;have:=(o.lt m p).2;omega
theorem Cst.far{m:lZ}(o:Cst j w c a b f i h k g e Z d)(s:KG w m){v:Value}(u:∀l,v.ownBlock=some l->w.heap.size<=l):Far a m v:=by
 obtain⟨x,D,z,p,A,B,q⟩:=o.ov;intro y n l t;have r:=s.2 _ _ _ _ p (by decide) (by decide);have:y=x:=by
  rw[cell_of_row m a 6 _ _ _ r]at n;exact(bY n).symm
 subst this;exact q l (u l t)
theorem S8d{T:List Ty}{t:Ty}(o:Fw T)(q:t.list.length<=100000000/\t.fields.length<=2001):Fw (T++[t]):=by
 intro l p;by_cases m:l<T.length
 · rw[List.getElem_append_left m];exact o l m
 · have n:l=T.length:=by simp at p;omega
   subst n;simp only[List.getElem_concat_length];exact q
theorem W9c(s:Cst j w c a b f i h k g e Z d)(t:Ty)(l o:Option Addr)(n m q p:Nat)(M:w.ownsRow 0 131 2 (.slice l n m) t.fields.length (G5 t.fields))(P:w.ownsRow 0 3 1 (.slice o q p) t.list.length (C8 t.list))(B:Far a w (.slice l n m))(C:Far a w (.slice o q p))(N:TyOk t (tl c Z).length)(L:t.list.length<=100000000/\t.fields.length<=2001)(H:(tl c Z).length+1<=4000):
 Calls prog 21 #[pV b,.agg #[U t.kind,.slice l n m,.slice o q p,U t.of']] w λy x=>y= .returned (U ((tl c Z).length:Int))/\Cst j x c a b f i h k g e (Z++[t]) d/\KG w x:=by
 obtain⟨A,D,z,E,F,G,W⟩:=s.ov;refine(X8a w G t l o n m q p ⟨_,_,rfl,M,P,λr u=>B A z r u,λr u=>C A z r u⟩ N H).mono ?_;rintro y x ⟨rfl,⟨v,S,K⟩,R⟩;obtain⟨T,V⟩:=s.grow S K E F R (S8d s.few L);exact⟨rfl,T,V⟩
theorem N2d(m:Cst j w c a b f i h k g e Z d)(l:uZ)(G:∀x∈l,0<=x/\x<((tl c Z).length:Int))(K:l≠[])(n:Option Addr)(o:Nat)(L:w.ownsRow 0 3 1 (.slice n l.length o) l.length (C8 l))(H:l.length<=2001)(P:wgL (l.map (trx (tl c Z)))<=200000000)(B:(tl c Z).length+1<=4000):
 Calls prog 116 #[pV b,.slice n l.length o] w λq p=>∃(r:Nat) (X:List Ty),q= .returned (U (r:Int))/\X.length<=1/\r<(tl c (Z++X)).length/\tr (tl c (Z++X)) r=C8a (l.map (trx (tl c Z)))/\Cst j p c a b f i h k g e (Z++X) d/\KG w p:=by
 obtain⟨V,D,T,u,y,z,A⟩:=m.ov;refine(B9c w z A m.few l G K n o L H P B).mono ?_;rintro q p ⟨r,X,rfl,C,s,M,F,t,v,N,E⟩;obtain⟨R,S⟩:=m.grow N E u y M F;rw[D9a]at s t;exact⟨r,X,rfl,C,s,t,R,S⟩
end
section
variable{a b N:Nat}{T:List Ty}{D:Dt}
theorem B8c{F:Nat->Prop}(w:lZ)(d:Sho w a b N T D F)(k:Few T)(X:T.length+1<=N):
 Calls prog 116 #[pV a,sN] w (UnP a b N T D F [] w):=by
 have h:=d.shp;have Y:=h.ok;have a7:=@run_makeMap prog;have j:I No w (w.alloc (.map #[] 0)):=I.alloc _ _ _;have o:=O (J6b (lb:=a) (mb:=b) (N:=N) (D:=D) k T.length [] (w.alloc (.map #[] 0)) none 0 (λx hx=>by simp at hx) (h.still j) (kW _ _ _ _) (by simp) (by simp[wgL]));obtain⟨n,yx,f,a4,-⟩:=h.blk;have r:Hid (w.cell? (J a 0)=some n):=(show _=_ from cr f rfl);have a6:=(ltG f);have C:TyOk ⟨5,[],[],0⟩ T.length:= .inl ⟨by decide,by decide,rfl,rfl⟩;have q:Hid (∀u,I No w u->_):=λu hu=>X8a u (d.still hu) ⟨5,[],[],0⟩ none none 0 0 0 0 ⟨_,_,rfl,kW _ _ _ _,kW _ _ _ _,λg l=>by simp[Value.ownBlock]at l,λg l=>by simp[Value.ownBlock]at l⟩ C X;have R:Hid (tr (T++[⟨5,[],[],0⟩]) T.length=C8a (([]:uZ).map (trx T))):=by
  show _=_;rw[N5a Y C];rfl
 have L:Hid (Few (T++[⟨5,[],[],0⟩])):=by
  intro i Z;by_cases A:i<T.length
  · rw[List.getElem_append_left A];exact k i A
  · have e:i=T.length:=by simp at Z;omega
    subst e;simp only[List.getElem_concat_length];exact⟨by simp,by simp⟩
 have p:=O j;clear h f a4 j d k;go_enter func116,ntmps116;go_wp2_with fail
 refine o.o.mono ?_;rintro e a9 ⟨pa,a8,G,rfl,v,V,W,y⟩;have a2:G=[]:=by
  have t:(G.map (trx T)).length=0:=by rw[y];simp[J8]
  rw[iZ]at t;exact List.length_eq_zero_iff.1 t
 subst a2;have H:=O (p.o.trans v (λ_ _ x=>x));clear v V W y o p;simp only[xQ];go_wp2_with fail
 go_loopw [15,5] (λa5 u wr=>a5=U 0/\u=sN/\Hid (I No w wr)) (λ_ _ _=>0)
 case atStart=>exact⟨rfl,rfl,H.o⟩
 case round=>
  obtain⟨rfl,rfl,c⟩:=hrel;have M:=O (q.o wr c.o);have s:wr.cell? (J a 0)=some n:=A8 c.o r.o;have S:=O s;clear s q;go_wp2_with fail
  refine M.o.mono ?_;rintro e aa ⟨rfl,⟨m,E,z⟩,B⟩;have a3:m=n:=by
   have:=S.o;rw[E]at this;exact bY this
  subst a3;have K:=O ((c.o.mono (S':=L4a a m) (λ_ _ x=>x.elim)).trans z (λ_ _ x=>x));have P:=O B;clear z B E;go_wp2;go_ret;exact⟨T.length,[⟨5,[],[],0⟩],rfl,by simp,by simp,P.o,L.o,R.o,m,r.o,K.o⟩
end
section
variable{j w:lZ}{c:Cx}{d b f i:Nat}{h k e:Value}{g:Int}{Z:List Ty}{a:uZ}{l:Of}
theorem O8b(m:Cst j w c d b f i h k g e Z a)(x:(tl c Z).length+1<=4000):
 Calls prog 116 #[pV b,sN] w λo n=>∃(r:Nat) (X:List Ty),o= .returned (U (r:Int))/\X.length<=1/\r<(tl c (Z++X)).length/\tr (tl c (Z++X)) r=C8a []/\Cst j n c d b f i h k g e (Z++X) a/\KG w n:=by
 obtain⟨K,D,G,s,t,u,H⟩:=m.ov;refine(B8c w u m.few x).mono ?_;rintro o n ⟨r,X,rfl,y,p,B,A,q,v,C,z⟩;obtain⟨E,F⟩:=m.grow C z s t B A;rw[D9a]at p q;exact⟨r,X,rfl,y,p,q,E,F⟩
def GrQ(j w:lZ)(c:Cx)(d b f i:Nat)(h k:Value)(g:Int)(e:Value)(Z:List Ty)(a:uZ)(t:Tr)(n:Ending)(m:lZ):Prop:=
 ∃(x:Nat) (X:List Ty),n= .returned (U (x:Int))/\X.length<=2/\x<(tl c (Z++X)).length/\tr (tl c (Z++X)) x=t/\Cst j m c d b f i h k g e (Z++X) a/\KG w m
theorem V6d(B:Cst j w c d b f i h k g e Z a)(y:Nd)(P:∀x∈y.list,Lk c Z a l x)(hn:y.list.length<=1200)(W:Option Addr)(Y:Nat)(ab:w.ownsRow 0 3 1 (.slice W y.list.length Y) y.list.length (C8 y.list))(bi:wgL (y.list.map (ofA l))<=25000000)(hN:(tl c Z).length+2<=4000):
 Calls prog 79 #[pV d,nvl y W Y] w (GrQ j w c d b f i h k g e Z a (L2d l y)):=by
 unfold L2d nvl;obtain⟨kd,va,vb,vc,m,tx,vn,vt,vp⟩:=y;simp only at *;obtain⟨oa,oc,bh,fz,q0,q1,q2,q3,q4,q5,q6,qp,qo⟩:=B.cell;have hT:=B.ts;obtain⟨i0,ap,b1,b2,b3⟩:=info_parts Tryz.infoInt;have al:=O qo;have ak:=O q3;have H0:=O B;have HO:=O ab;have HL:=O P;have C:∀x∈m,0<=a.getD x.toNat 0/\a.getD x.toNat 0<((tl c Z).length:Int)/\trx (tl c Z) (a.getD x.toNat 0)=ofA l x:=λx D=>by
  obtain⟨p,r,H,s,v,az,V⟩:=P x D;have e2:a.getD x.toNat 0=(r:Int):=by rw[s,tQ,lQ,gQ H];exact v
  rw[e2];refine⟨by omega,by omega, ?_⟩;unfold trx;rw[tQ];exact V
 have ba:=O C;have R:(m.map λx=>a.getD x.toNat 0).map (trx (tl c Z))=m.map (ofA l):=by
  rw[List.map_map];exact List.map_congr_left λx D=>(C x D).2.2
 have HU:Hid (∀(u:lZ) (q:Option Addr) (o:Nat),I No w u->(m=[]->q=none/\o=0)->u.ownsRow w.heap.size 3 1 (.slice q m.length o) m.length (C8 (m.map λx=>a.getD x.toNat 0))->Calls prog 116 #[pV b,.slice q m.length o] u λs w'=>∃(r:Nat) (X:List Ty),s= .returned (U (r:Int))/\X.length<=1/\r<(tl c (Z++X)).length/\tr (tl c (Z++X)) r=C8a (m.map (ofA l))/\Cst j w' c d b f i h k g e (Z++X) a/\KG u w'):=λu q o t av ay=>by
  by_cases N:m=[]
  · obtain⟨rfl,rfl⟩:=av N;subst N;exact O8b (B.still t) (by omega)
  · have:=N2d (B.still t) (m.map λx=>a.getD x.toNat 0) (λx D=>by
     obtain⟨ag,hy,rfl⟩:=jZ.1 D;exact⟨(C ag hy).1,(C ag hy).2.1⟩) (by simpa using N) q o (by rw[iZ];exact C9 ay (wQ _)) (by rw[iZ];omega) (by rw[R];omega) (by omega)
    rw[R,iZ]at this;exact this
 have a4:Hid (∀(u:lZ) (X:List Ty) (r:Nat),Cst j u c d b f i h k g e (Z++X) a->X.length<=1->r<(tl c (Z++X)).length->_):=λu X r t hX v=>W9c t ⟨8,[],[],(r:Int)⟩ none none 0 0 0 0 (kW _ _ _ _) (kW _ _ _ _) (λ_ _ an L=>by simp[Value.ownBlock]at L) (λ_ _ an L=>by simp[Value.ownBlock]at L) (.inr (.inr (.inl ⟨rfl,rfl,rfl,Int.natCast_nonneg r,Int.ofNat_lt.2 v⟩))) ⟨by simp,by simp⟩ (by rw[T8]at hN⊢;rw[qQ];omega);simp only at a4;have A1:=I.alloc No w (ndC kd va vb vc (.slice W m.length Y) tx vn vt vp);have ah:=O A1;clear B ab P C R qp qo q0 q1 q2 q4 q5 fz A1 hT;go_enter func79,ntmps79;go_wp2_with fail
 go_loopw [11,5] (λa2 u wr=>∃(n:Nat) (q:Option Addr) (o:Nat),n<=m.length/\a2=U (n:Int)/\u= .slice q n o/\Hid (n=0->q=none/\o=0)/\Hid (I No w wr)/\Hid (wr.ownsRow w.heap.size 3 1 (.slice q n o) n (C8 ((m.take n).map λx=>a.getD x.toNat 0)))) (λa2 _ _=>m.length - (intOf a2).toNat)
 case atStart=>exact⟨0,none,0,wQ _,rfl,rfl,λ_=>⟨rfl,rfl⟩,ah.o,kW _ _ _ _⟩
 case round=>
  obtain⟨n,q,o,hj,rfl,rfl,NR,z,E⟩:=hrel;have ae:=A8 z.o q6;have bj:w.heap.size<=wr.heap.size:=z.o.size;by_cases M:n<m.length
  · obtain⟨g2,au,bb,bc,ar,v0⟩:=D9 (A4 HO.o z.o (λ_ _ x=>x)) M;subst au;obtain⟨p,r,H,s,v,az,V⟩:=HL.o m[n] (mQ M);obtain⟨go,ax,bd,be,bf,aw,y0,-⟩:=al.o p H;subst ax;rw[v]at y0;have b9:=A8 z.o y0;have HT:Hid ((m.take (n+1)).map (λx=>a.getD x.toNat 0)=(m.take n).map (λx=>a.getD x.toNat 0)++[(r:Int)]):=by
     show _=_;rw[nQ M,wY,List.map_singleton,s,tQ,lQ,gQ H,v];rfl
    obtain⟨a5,a7⟩:∃a5,a5=(m.take n).map (λx=>a.getD x.toNat 0):=⟨_,rfl⟩;rw[<-a7]at E HT;clear a7;rw[s]at v0;have ao:=blt b9;have T:=blt ae;simp only at ao T;have bg:(p:Int)<(a.length:Int):=by omega
    unfold maxLen at ar aw;have a3:=O (E.o.alloc (.cells #[U (r:Int)] 3));clear s v V y0;go_wp2_with (at_builtin;refine wpList_append_own _ rfl _ _ 43 rfl w.heap.size 3 i0 (U 0) 1 8 underlying43 ap b1 b2 b3 rfl (by decide) _ _ _ rfl a3.o (J wr.heap.size 0) 1 1 [U (r:Int)] rfl rfl ?c1 ?c2 ?c3 ?c4 ?c5 ?_)
    case c1=>
     intro b4 u t;match b4,t with
     |0,t=>simp at t;subst t;simp[Addr.add]
    case c2=>intro u t;simp at t;subst t;rfl
    case c3=>simp only[maxLen];omega
    case c4=>omega
    case c5=>simp;omega
    intro v' af S a9 _;obtain⟨am,c4,rfl⟩:=B9 S;have aj:=O S;have a8:I (λA=>w.heap.size<=A) wr af:=(I.alloc (λA=>w.heap.size<=A) wr (.cells #[U (r:Int)] 3)).trans (I.grown a9) (λA G x=>(A9 a3.o A x.symm).1);have ai:Hid (I No w af):=((z.o.mono (S':=λA=>w.heap.size<=A) (λ_ _ x=>x.elim)).trans a8 (λ_ _ x=>x)).mono (λA G x=>by omega);clear S a9 a8;go_wp2_with fail
    go_roundw
    case rel=>exact⟨n+1,am,c4,by omega,by go_num,rfl,λs=>by omega,ai.o,(show World.ownsRow _ _ _ _ _ _ _ from by rw[HT.o,T7];exact aj.o)⟩
    case measure=>simp[intOf];omega
  · have aq:n=m.length:=by omega
    subst aq;rw[xZ]at E;have NN:Hid (m=[]->q=none/\o=0):=λs=>NR.o (by rw[s];rfl);have b6:=A8 z.o ak.o;have T:=blt b6;simp only at T;clear NR q6 ae;go_wp2_with fail
    go_region_with (first
     |(go_at_call 116;refine(HU.o _ q o (D3 z.o (I.drewN _ _ 1)) NN.o (A4 E.o (I.drewN No _ 1) (λ_ _ x=>x))).mono ?_;rintro s b7 ⟨r,X,rfl,hX,v,ht,F,G⟩;have bk:b7.cell? (J d 3)=some (pV b):=by (obtain⟨_,_,_,_,_,_,_,b5,_⟩:=F.cell;exact b5))
     |(go_at_call 21;refine(a4.o _ X r F hX v).mono ?_;rintro s b8 ⟨rfl,a6,aa⟩))
    all_goals
     have HQ:Hid (GrQ j w c d b f i h k g e Z a (.nd 8 [] [C8a (m.map (ofA l))]) (.returned (U ((tl c (Z++X)).length:Int))) b8):=by
      have K:Z++(X++[⟨8,[],[],(r:Int)⟩])=(Z++X)++[⟨8,[],[],(r:Int)⟩]:=(kZ _ _ _).symm;have b0:=N5a F.ts (t:=⟨8,[],[],(r:Int)⟩) (.inr (.inr (.inl ⟨rfl,rfl,rfl,Int.natCast_nonneg r,Int.ofNat_lt.2 v⟩)));refine⟨(tl c (Z++X)).length,X++[⟨8,[],[],(r:Int)⟩],rfl, ?_, ?_, ?_, ?_,((KG.still (D3 z.o (I.drewN _ _ 1))).trans G).trans aa⟩
      · rw[qQ,List.length_singleton];omega
      · rw[K,T8,T8,qQ,qQ,qQ,List.length_singleton];omega
      · rw[K,<-D9a,b0];simp[ht]
      · rw[K];exact a6
     clear F G a6 aa ht;go_wp2_with fail
     go_ret;exact HQ.o
end
def KQ(a b:lZ):Prop:=a.heap.size<=b.heap.size/\∀(q:Nat) (c:Array Value) (e:TypeId) (d:Nat×Nat),a.heap[q]? =some (.cells c e d)->e≠102->e≠76->e≠3->e≠46->b.heap[q]? =some (.cells c e d)
theorem KQ.refl(a:lZ):KQ a a:=⟨vQ _,λ_ _ _ _ h _ _ _ _=>h⟩
theorem KQ.trans{a b c:lZ}(h:KQ a b)(k:KQ b c):KQ a c:=⟨kQ h.1 k.1,λq d e f x g i j l=>k.2 q d e f (h.2 q d e f x g i j l) g i j l⟩
theorem KQ.kg{a b:lZ}(h:KG a b):KQ a b:=⟨h.1,λq c e d x f g _ _=>h.2 q c e d x f g⟩
theorem KQ.still{a b:lZ}(h:I No a b):KQ a b:= .kg (.still h)
section
variable{e w:lZ}{c:Cx}{a f d j:Nat}{i k fv:Value}{h:Int}{Z:List Ty}{b:uZ}{l:Of}
theorem Cst.push{w1 w2:lZ}{x:Int}{A p:Value}(S:Cst e w c a f d j i k h fv Z b)(R:w.cell? (J a 6)=some A)(P:I No w w1)(Y:w1.grownBy w2 A.ownBlock)(ho:w2.ownsRow e.heap.size 3 1 p (b.length+1) (C8 b++[U x])){s:Nat}(y:p.ownBlock=A.ownBlock\/p.ownBlock=some s)(aa:w.heap.size<=s):
 w2.cell? (J a 6)=some A/\w2.frozen? (J a 6)=false/\a<w2.heap.size/\Cst e (w2.setCell (J a 6) p) c a f d j i k h fv Z (b++[x])/\KQ w (w2.setCell (J a 6) p):=by
 obtain⟨W,⟨r,D,o,E,F⟩,X⟩:=S;have t:r=A:=by
  rw[cell_of_row w a 6 _ _ _ o]at R;exact bY R
 subst t;have a9:w1.ownsRow e.heap.size 3 1 r b.length (C8 b):=A4 E P (λ_ _ x=>x);have G:∀{n:Nat} {H:Array Value} {t:TypeId} {L:Nat×Nat},w.heap[n]? =some (.cells H t L)->t≠3->some n≠r.ownBlock:=λ{n H t L} u B m=>by
  obtain⟨_,K,q⟩:=A9 E n m.symm;rw[u]at q;simp only[zQ,xW]at q;exact B q.2.1
 have N:I (λn=>some n=r.ownBlock) w w2:=(P.mono (λ_ _ x=>x.elim)).trans (I.grown Y) (λ_ _ x=>x);have z:w2.heap[a]? =some (.cells (pcs c i k h f j fv r) 46 (0,0)):=by
  rw[N.block a (ltG o) (G o (by decide))];exact o
 have v:I (λn=>some n=r.ownBlock\/n=a) w (w2.setCell (J a 6) p):=(N.mono λ_ _ x=> .inl x).trans (I.set _ _ _) (λ_ _ x=> .inr x);have a4:KQ w (w2.setCell (J a 6) p):=⟨v.size,λa7 H t L C _ _ T V=>by
  rw[v.block a7 (ltG C) ?_]
  · exact C
  · rintro(m|rfl)
    · exact G C T m
    · rw[C]at o;simp only[zQ,xW]at o;exact V o.2.1⟩
 have a5:¬(some d=r.ownBlock\/d=a):=by
  rintro(m|m)
  · obtain⟨_,K,q⟩:=A9 E d m.symm;exact F.mst.tag _ _ _ q
  · subst m;exact F.mst.tag _ _ _ o
 have M:∀g,r.ownBlock≠some g->g<w.heap.size->p.ownBlock≠some g:=λg a2 a8 m=>by
  rcases y with y|y
  · exact a2 (y.symm.trans m)
  · rw[y]at m;have:=bY m;omega
 refine⟨cr z rfl,frozen_of_row w2 a 6 _ _ z,(ltG z),⟨?_,⟨p,D, ?_, ?_, ?_⟩,X⟩,a4⟩
 · refine W.trans v ?_;rintro n u (m|rfl)
   · have:=(A9 E n m.symm).1;omega
   · exact .inl rfl
 · rw[heap_setCell_same w2 a 6 _ _ _ z];rfl
 · have:w2.ownsRow e.heap.size 3 1 p (b++[x]).length (C8 (b++[x])):=by
    rw[qQ,List.length_singleton,T7];exact ho
   refine A4 this (I.set _ _ _) λg a3 m=> ?_;have a6:g=a:=m;subst a6;obtain⟨_,K,q⟩:=A9 this g a3;rw[z]at q;simp only[zQ,xW]at q;exact absurd q.2.1 (by decide)
 · refine F.chg v (F.mst.chg v a5) ?_ M;rintro n K t u B (m|rfl)
   · rcases B with rfl|rfl|⟨_,M⟩
     · exact G u (by decide) m
     · exact G u (by decide) m
     · exact M m.symm
   · rw[u]at o;simp only[zQ,xW]at o;obtain⟨_,rfl,_⟩:=o;revert B;simp
theorem Cst.set(H:Cst e w c a f d j i k h fv Z b){oc g:Nat}(E:w.cell? (J a 6)=some (.slice (some (J g 0)) b.length oc))(r:Nat)(x:Int):
 Cst e (w.setCell (J g r) (U x)) c a f d j i k h fv Z (b.set r x)/\KQ w (w.setCell (J g r) (U x)):=by
 obtain⟨L,⟨N,D,t,F,C⟩,M⟩:=H;have o:N= .slice (some (J g 0)) b.length oc:=by
  rw[cell_of_row w a 6 _ _ _ t]at E;exact bY E
 subst o;obtain⟨P,G,u⟩:=A9 F g rfl;have p:I (λn=>n=g) w (w.setCell (J g r) (U x)):=I.set w (J g r) (U x);have v:∀{n:Nat} {y:Array Value} {o:TypeId} {z:Nat×Nat},w.heap[n]? =some (.cells y o z)->o≠3->n≠g:=λ{n y o z} s A m=>by
  subst m;rw[s]at u;simp only[zQ,xW]at u;exact A u.2.1
 refine⟨⟨L.trans p (λn s m=>by have R:n=g:=m;omega),⟨.slice (some (J g 0)) b.length oc,D, ?_, ?_, ?_⟩,M⟩,p.size,λq y o z B _ _ K _=>by rw[p.block q (ltG B) (v B K)];exact B⟩
 · rw[p.block a (ltG t) (v t (by decide))];exact t
 · rw[List.length_set];exact H7a F r x
 · refine C.chg p (C.mst.chg p (λm=> ?_)) ?_ (λ_ x _=>x)
   · subst m;exact C.mst.tag _ _ _ u
   · rintro n G o s A m;rcases A with rfl|rfl|⟨_,hok⟩
     · exact v s (by decide) m
     · exact v s (by decide) m
     · exact hok (by rw[show n=g from m];rfl)
end
