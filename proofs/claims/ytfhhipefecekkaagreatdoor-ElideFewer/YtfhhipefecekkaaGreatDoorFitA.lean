/-
  A part of the proof.
-/
import Derived.Test.YtfhhipefecekkaaGreatDoorScanB
import Derived.Maps.Views
import Derived.Maps.OwnOps
import Derived.DeepKeys4
import Derived.BigRegion
set_option maxHeartbeats 16000000
set_option maxRecDepth 100000
namespace Go.Proofs.YtfhhipefecekkaaGreatDoor
open Go.Proofs.Tryz
open Go.RowKit Go.Maps
theorem Tryz.laidOut:laidOutB prog=true:=by kernel_rfl
theorem Tryz.rowPair:(187:TypeId)<prog.types.size:=of_decide_eq_true (by kernel_rfl)
theorem Tryz.widePair:(match prog.underlying 187 with|some (.array _ _)|some (.struct _)=>true|_=>false)=true:=by kernel_rfl
theorem Tryz.keyPair:prog.keyType 187=true:=by kernel_rfl
theorem Q6a:Keyed prog 187:=Keyed.of_law (deep_law_laid Tryz.laidOut (m:=2) (by omega) Tryz.rowPair (by kernel_rfl) Tryz.widePair)
theorem Tryz.cellsPair:prog.cellsOf 187=2:=by kernel_rfl
theorem Tryz.cellsInt:prog.cellsOf 3=1:=by kernel_rfl
def kp(a b:Int):Lit:= .string (keyBytes [.int .i64 a,.int .i64 b])
theorem A5a(a b:Int)(ha:(Lit.int .i64 a).wf=true)(hb:(Lit.int .i64 b).wf=true):keyOf prog 187 (.agg #[.int .i64 a,.int .i64 b])=some (kp a b):=by
 have h2:2<=prog.types.size+1:=of_decide_eq_true (by kernel_rfl);obtain⟨m,hm⟩:=Nat.exists_eq_add_of_le h2;have hf:(Value.agg #[.int .i64 a,.int .i64 b]).formed prog 187=true:=by simp[Value.formed,underlying187,Tryz.cellsPair]
 unfold keyOf;simp only[underlying187,Tryz.keyPair,hf,Bool.and_self,if_true];rw[hm,show 2+m=m+1+1 by omega];simp[Program.keyLits,underlying187,underlying3,Tryz.cellsPair,Tryz.cellsInt,ha,hb,Value.cells,kp]
theorem G2d{a b c d:Int}(ha:(Lit.int .i64 a).wf=true)(hb:(Lit.int .i64 b).wf=true)(hc:(Lit.int .i64 c).wf=true)(hd:(Lit.int .i64 d).wf=true)(h:kp a b=kp c d):a=c/\b=d:=by
 have h1:=A5a a b ha hb;have h2:=A5a c d hc hd;rw[h]at h1;have:=Q6a.inj h1 h2;simpa using this
theorem Q7(a:Nat)(h:a<1000000000000):(Lit.int .i64 (a:Int)).wf=true:=by
 simp[Lit.wf,IntKind.min,IntKind.max,IntKind.bits,IntKind.signed];omega
abbrev Dt:=DataW Unit
def zi:Dt:= .lit (.int .i64 0)
def at2(D:Dt)(a b:Nat):Dt:=D.atKey (kp a b) zi
def isZ:Dt->Bool
 | .lit (.int _ c)=>c==0
 |_=>true
def R5b(N:Nat):List (Nat×Nat):=(List.range N).flatMap λp=>(List.range N).map λq=>(p,q)
theorem Y5a(N:Nat):∀l:List Nat,(l.map λ_=>N).sum=l.length * N
 |[]=>by simp
 |a::l=>by rw[List.map_cons,List.sum_cons,Y5a N l,jQ,Nat.add_mul];omega
theorem O1c(N:Nat):(R5b N).length=N * N:=by
 have:=Y5a N (List.range N);simpa[R5b]using this
theorem M7c{N a b:Nat}(ha:a<N)(hb:b<N):(a,b)∈R5b N:=by
 simp only[R5b,List.mem_flatMap,List.mem_map,List.mem_range];exact⟨a,ha,b,hb,rfl⟩
def free(N:Nat)(D:Dt):Nat:=(R5b N).countP λx=>isZ (at2 D x.1 x.2)
theorem P1a{α:Type}{p q:α->Bool}:∀{l:List α} {x:α},(∀y∈l,q y=true->p y=true)->x∈l->p x=true->q x=false->l.countP q+1<=l.countP p
 |a::l,x,h,hx,hp,hq=>by
  have hm:l.countP q<=l.countP p:=List.countP_mono_left λy hy=>h y (by simp[hy]);rcases jW.1 hx with rfl|hx
  · rw[List.countP_cons_of_pos hp,List.countP_cons_of_neg (by simp[hq])];omega
  · have:=P1a (λy hy=>h y (by simp[hy])) hx hp hq;by_cases hqa:q a=true
    · rw[List.countP_cons_of_pos hqa,List.countP_cons_of_pos (h a (by simp) hqa)];omega
    · rw[List.countP_cons_of_neg hqa];have:l.countP p<=(a::l).countP p:=by
       by_cases hpa:p a=true
       · rw[List.countP_cons_of_pos hpa];omega
       · rw[List.countP_cons_of_neg hpa];exact vQ _
      omega
theorem M6b{D:Dt}(hD:IsMap D){a b:Nat}(d:Dt):at2 (D.put (kp a b) d) a b=d:=atKey_put_same (k:=kp a b) hD (show WideAt.IsKeyLit (kp a b) from trivial) d zi
theorem N8a{D:Dt}{a b p q:Nat}(ha:a<1000000000000)(hb:b<1000000000000)(hp:p<1000000000000)(hq:q<1000000000000)(d:Dt)(h:¬(p=a/\q=b)):at2 (D.put (kp a b) d) p q=at2 D p q:=by
 refine atKey_put_other (λe=>h ?_) d zi;have:=G2d (Q7 p hp) (Q7 q hq) (Q7 a ha) (Q7 b hb) e;omega
theorem O5c{N:Nat}(hN:N<=4000){D:Dt}(hD:IsMap D){a b:Nat}(ha:a<N)(hb:b<N)(hz:isZ (at2 D a b)=true)(d:Dt)(hd:isZ d=false):free N (D.put (kp a b) d)+1<=free N D:=by
 refine P1a (x:=(a,b)) (λy hy hq=> ?_) (M7c ha hb) hz (by show isZ (at2 _ _ _)=_;rw[M6b hD];exact hd);obtain⟨p,q⟩:=y;by_cases h:p=a/\q=b
 · obtain⟨rfl,rfl⟩:=h;exact hz
 · simp only[R5b,List.mem_flatMap,List.mem_map,List.mem_range,Prod.mk.injEq]at hy;obtain⟨p',hp',q',hq',rfl,rfl⟩:=hy;simp only at hq⊢;rw[N8a (by omega) (by omega) (by omega) (by omega) d h]at hq;exact hq
def Memo(N:Nat)(T:List M.Ty)(D:Dt):Prop:=∀p q c,p<N->q<N->at2 D p q= .lit (.int .i64 c)->c=0\/(p<T.length/\q<T.length/\((c=1/\M.D9 (M.tr T p) (M.tr T q)=true)\/(c=2/\M.D9 (M.tr T p) (M.tr T q)=false)))
structure Mst(w:World)(mb N:Nat)(T:List M.Ty)(D:Dt):Prop where
 few:N<=4000
 len:T.length<=N
 memo:Memo N T D
 isMap:IsMap D
 own:∃n,w.ownsMap prog 187 (plainElem prog 3) mb n D/\n+free N D<=N * N
theorem Mst.chg{S:Nat->Prop}{w w':World}{mb N:Nat}{T:List M.Ty}{D:Dt}(h:Mst w mb N T D)(hc:Chg S w w')(hn:¬S mb):Mst w' mb N T D:=by
 obtain⟨a,b,c,d,n,⟨es,cl,h1,h2⟩,r⟩:=h;exact⟨a,b,c,d,n,⟨es,cl,by rw[hc.block mb (ltG h1) hn];exact h1,h2⟩,r⟩
theorem Mst.lt{w:World}{mb N:Nat}{T:List M.Ty}{D:Dt}(h:Mst w mb N T D):mb<w.heap.size:=by
 obtain⟨n,h,_⟩:=h.own;exact h.lt
theorem Mst.tag{w:World}{mb N:Nat}{T:List M.Ty}{D:Dt}(h:Mst w mb N T D):∀cs e fz,w.heap[mb]? ≠some (.cells cs e fz):=by
 obtain⟨n,⟨es,cl,h1,h2⟩,r⟩:=h.own;intro cs e fz hx;rw[h1]at hx;cases hx
theorem X4c(w:World)(N:Nat)(hN:N<=4000):Mst (w.alloc (.map #[] 0)) w.heap.size N [] (.map []):=by
 refine⟨hN,wQ _,λp q c _ _ h=> ?_,isMap_empty,0,World.ownsMap_made w _ _ _, ?_⟩
 · left;have:at2 (.map []) p q=zi:=rfl;rw[this]at h;simp[zi]at h;exact h.symm
 · have:=List.countP_le_length (p:=λx:Nat×Nat=>isZ (at2 (.map []) x.1 x.2)) (l:=R5b N);rw[O1c]at this;unfold free;omega
theorem Mst.more{w:World}{mb N:Nat}{T:List M.Ty}{D:Dt}(h:Mst w mb N T D)(hT:M.TsOk T)(X:List M.Ty)(hl:(T++X).length<=N):Mst w mb N (T++X) D:=by
 refine⟨h.few,hl,λp q c hp hq he=> ?_,h.isMap,h.own⟩;rcases h.memo p q c hp hq he with h1|⟨h1,h2,h3⟩
 · exact .inl h1
 · refine .inr ⟨by simp;omega,by simp;omega, ?_⟩;rw[M.C4a X hT h1,M.C4a X hT h2];exact h3
theorem G3d{D:Dt}{a b:Nat}{c:Int}(h:at2 D a b= .lit (.int .i64 c)):isZ (at2 D a b)=(c==0):=by rw[h];rfl
theorem Mst.put{w w':World}{mb N n:Nat}{T:List M.Ty}{D:Dt}{a b:Nat}(h:Mst w mb N T D)(ha:a<T.length)(hb:b<T.length)(hz:isZ (at2 D a b)=true)(r:Bool)(hr:M.D9 (M.tr T a) (M.tr T b)=r)(hn:n+free N D<=N * N)
 (ho:w'.ownsMap prog 187 (plainElem prog 3) mb (n+1) (D.put (kp a b) (.lit (.int .i64 (if r then 1 else 2))))):Mst w' mb N T (D.put (kp a b) (.lit (.int .i64 (if r then 1 else 2)))):=by
 have hN:=h.few;have hlen:=h.len;refine⟨hN,hlen,λp q c hp hq he=> ?_,h.isMap.put _ _,n+1,ho, ?_⟩
 · by_cases hpq:p=a/\q=b
   · obtain⟨rfl,rfl⟩:=hpq;rw[M6b h.isMap]at he;refine .inr ⟨ha,hb, ?_⟩;cases r
     · simp at he;exact .inr ⟨he.symm,hr⟩
     · simp at he;exact .inl ⟨he.symm,hr⟩
   · rw[N8a (by omega) (by omega) (by omega) (by omega) _ hpq]at he;exact h.memo p q c hp hq he
 · have:=O5c hN h.isMap (a:=a) (b:=b) (by omega) (by omega) hz (.lit (.int .i64 (if r then 1 else 2))) (by cases r<;>rfl);omega
structure Shp(w:World)(lb mb N:Nat)(T:List M.Ty)(D:Dt):Prop where
 ok:M.TsOk T
 mst:Mst w mb N T D
 blk:∃yv yx,w.heap[lb]? =some (.cells #[yv,.map (some mb)] 97 (0,0))/\w.ownsRow lb 66 4 yv T.length yx/\Rws (TyV w (λ_=>True)) T yx
theorem Shp.chg{S:Nat->Prop}{w w':World}{lb mb N:Nat}{T:List M.Ty}{D D':Dt}(h:Shp w lb mb N T D)(hc:Chg S w w')(hm:Mst w' mb N T D')
 (hs:∀k cur e,w.heap[k]? =some (.cells cur e (0,0))->(e=97\/e=66\/e=121\/e=3)->¬S k):Shp w' lb mb N T D':=by
 obtain⟨h1,_,yv,yx,hb,hy,hr⟩:=h;refine⟨h1,hm,yv,yx, ?_,A3 hy hc λg hg x=> ?_,hr.imp (TyV.chg hc (λg _ _ hx hh=> ?_) (λ_ _ _=>trivial))⟩
 · rw[hc.block lb (ltG hb) (hs lb _ _ hb (.inl rfl))];exact hb
 · obtain⟨_,cur,hh⟩:=A9 hy g hg;exact hs g cur _ hh (.inr (.inl rfl)) x
 · obtain⟨cur,e,hh,he⟩:=hh;rcases he with rfl|rfl
   · exact hs g cur _ hh (.inr (.inr (.inl rfl))) hx
   · exact hs g cur _ hh (.inr (.inr (.inr rfl))) hx
theorem Shp.still{w w':World}{lb mb N:Nat}{T:List M.Ty}{D:Dt}(h:Shp w lb mb N T D)(hc:Chg No w w'):Shp w' lb mb N T D:=h.chg hc (h.mst.chg hc (λx=>x)) (λ_ _ _ _ _ x=>x)
theorem Shp.alloc{w:World}{lb mb N:Nat}{T:List M.Ty}{D:Dt}(h:Shp w lb mb N T D)(o:Obj):Shp (w.alloc o) lb mb N T D:=h.still (Chg.alloc _ _ _)
theorem Shp.memo{w w':World}{lb mb N:Nat}{T:List M.Ty}{D D':Dt}(h:Shp w lb mb N T D)(hc:Chg (λk=>k=mb) w w')(hm:Mst w' mb N T D'):Shp w' lb mb N T D':=
 h.chg hc hm (λk cur e hk _ x=>by have x':k=mb:=x;subst x';exact h.mst.tag _ _ _ hk)
theorem Shp.few{w:World}{lb mb N:Nat}{T:List M.Ty}{D:Dt}(h:Shp w lb mb N T D):T.length<=4000:=kQ h.mst.len h.mst.few
theorem Shp.cell{w:World}{lb mb N:Nat}{T:List M.Ty}{D:Dt}(h:Shp w lb mb N T D):∃ad c,w.cell? (aD lb 0)=some (.slice ad T.length c)/\w.cell? (aD lb 1)=some (.map (some mb))/\lb<w.heap.size/\(∀o,w.frozen? (aD lb o)=false)/\
 ∀i (hi:i<T.length),∃g fa fc la lc,ad=some (aD g 0)/\g<w.heap.size/\T.length<=c/\c<=maxLen/\w.cell? (aD g (i * 4))=some (.int .i64 T[i].kind)/\w.cell? (aD g (i * 4+1))=some (.slice fa T[i].fields.length fc)/\w.cell? (aD g (i * 4+2))=some (.slice la T[i].list.length lc)/\
  w.cell? (aD g (i * 4+3))=some (.int .i64 T[i].of')/\w.ownsRow 0 121 2 (.slice fa T[i].fields.length fc) T[i].fields.length (F5 T[i].fields)/\w.ownsRow 0 3 1 (.slice la T[i].list.length lc) T[i].list.length (B8 T[i].list):=by
 obtain⟨h1,_,yv,yx,hb,hy,hr⟩:=h;obtain⟨ad,c,rfl⟩:=B7 hy;have hlt:=(ltG hb);refine⟨ad,c,cr hb rfl,cr hb rfl,hlt,λo=>frozen_of_row w lb o _ _ hb,λi hi=> ?_⟩;obtain⟨g,rfl,_,hg,hc1,hc2,hcell⟩:=D8 hy (by omega);obtain⟨xs,ht,hx⟩:=Rws.at (z:=4) (λ_ _ h=>h.len) i hi hr;obtain⟨fv,lv,rfl,ho1,ho2,_⟩:=ht;obtain⟨fa,fc,rfl⟩:=B7 ho1;obtain⟨la,lc,rfl⟩:=B7 ho2;refine⟨g,fa,fc,la,lc,rfl,hg,hc1,hc2,hcell _ _ ?_,hcell _ _ ?_,hcell _ _ ?_,hcell _ _ ?_,ho1,ho2⟩
 · have:=hx 0 (by omega);simpa using this
 · have:=hx 1 (by omega);simpa using this
 · have:=hx 2 (by omega);simpa using this
 · have:=hx 3 (by omega);simpa using this
def H1a(w:World)(mb N:Nat)(T:List M.Ty)(D:Dt)(m:Nat)(r:Bool)(e:Ending)(w':World):Prop:=
 e= .returned (.bool r)/\Chg (λk=>k=mb) w w'/\∃D',Mst w' mb N T D'/\∀p q,p<N->q<N->m<p+q->at2 D' p q=at2 D p q
theorem N5b{T:List M.Ty}{i:Nat}(hT:M.TsOk T)(hi:i<T.length)(h:T[i].kind≠10):M.Z7 (M.tr T i)=M.O1a T[i].kind:=by
 rw[M.R9 hT hi,M.Z7,if_neg h]
theorem G7c{T:List M.Ty}{i:Nat}(hT:M.TsOk T)(hi:i<T.length)(h:T[i].kind=10):M.Z7 (M.tr T i)=M.U0 (T[i].list.map λx=>M.tr T x.toNat):=by
 have ht:=hT i hi;have hf:T[i].fields=[]:=by
  rcases ht with ht|ht|ht|ht|ht
  · omega
  · omega
  · omega
  · omega
  · exact ht.2.1
 rw[M.R9 hT hi,M.Z7,if_pos h,hf,if_neg (by omega)];simp
theorem R8a:∀(l:List M.Tr) (t:M.Tr),M.U0 (l++[t])=M.U0 l|||M.Z7 t
 |[],t=>by simp[M.U0]
 |a::l,t=>by rw[List.cons_append,M.U0,M.U0,R8a l t,Nat.or_assoc]
theorem A5d(a b:Nat)(ha:a<128)(hb:b<128):bits BinOp.or IntKind.i64 (a:Int) (b:Int)=((a|||b:Nat):Int):=by
 have h:=Nat.or_lt_two_pow (n:=7) ha hb;have e:(BitVec.ofNat IntKind.i64.bits a|||BitVec.ofNat IntKind.i64.bits b).toNat=a|||b:=by
  rw[BitVec.toNat_or,BitVec.toNat_ofNat,BitVec.toNat_ofNat,Nat.mod_eq_of_lt (by simp[IntKind.bits];omega),Nat.mod_eq_of_lt (by simp[IntKind.bits];omega)]
 simp only[bits,BitVec.ofInt_natCast,e];simp[IntKind.wrap,IntKind.bits,IntKind.signed];omega
theorem H0c{lb mb N:Nat}{T:List M.Ty}{D:Dt}:∀(i:Nat) (w:World),i<T.length->Shp w lb mb N T D->
 Calls prog 46 #[pV lb,iV (i:Int)] w λe w'=>e= .returned (iV (M.Z7 (M.tr T i):Int))/\Chg No w w':=by
 intro i;induction i using Nat.strongRecOn with
 |ind i ih=>
  intro w hi h;have hT:=h.ok;have hfew:=h.few;obtain⟨ad,c,c0,c1,hlt,fz,hcell⟩:=h.cell;obtain⟨g,fa,fc,la,lc,rfl,hg,hc1,hc2,x0,x1,x2,x3,of1,ol1⟩:=hcell i hi;have HP:=A0 (N5b hT hi);have HU:=A0 (G7c hT hi);have HL:=A0 (hT i hi).lst;have HS:=A0 h;have HO:=A0 ol1;clear hcell h of1 ol1;unfold maxLen at hc2;generalize T[i].kind=k at *;generalize T[i].of'=o at *;generalize hls:T[i].list=ls at *;by_cases h10:k=10
  · subst h10;have hu:=HU.out rfl;rw[hu];clear hu HP HU;have hw0:Hid (∀j (hj:j<ls.length),∃g2,la=some (aD g2 0)/\g2<w.heap.size/\ls.length<=lc/\lc<=maxLen/\w.cell? (aD g2 j)=some (iV ls[j])):=by
     intro j hj;obtain⟨g2,h1,_,h2,h3,h4,h5⟩:=D8 HO.out (by omega);exact⟨g2,h1,h2,h3,h4,h5 j _ (by simp[B8,hj])⟩
    clear HO;go_enter func46,ntmps46;go_wp2;go_loopw [37,6] (λv u wr=>∃j:Nat,j<=ls.length/\v=iV (j:Int)/\u=iV (M.U0 ((ls.take j).map λx=>M.tr T x.toNat):Int)/\Hid (Chg No w wr)) (λv _ _=>ls.length - (intOf v).toNat)
    case atStart=>exact⟨0,wQ _,rfl,by simp[M.U0],Chg.alloc _ _ _⟩
    case round=>
     obtain⟨j,hj,rfl,rfl,KR⟩:=hrel;by_cases hjl:j<ls.length
     · obtain⟨g2,rfl,hg2,hl1,hl2,y0⟩:=hw0.out j hjl;have y1:wr.cell? (aD g2 j)=some (iV ls[j]):=by rw[World.cell?_of_block (KR.out.block g2 hg2 (λx=>x))];exact y0
       have hg3:g2<wr.heap.size:=yQ hg2 KR.out.size;have hx:=HL.out ls[j] (mQ hjl);obtain⟨z,hz⟩:∃z:Nat,ls[j]=(z:Int):=⟨ls[j].toNat,by omega⟩;have HT:Hid (M.U0 ((ls.take (j+1)).map λx=>M.tr T x.toNat)=M.U0 ((ls.take j).map λx=>M.tr T x.toNat)|||M.Z7 (M.tr T z)):=by
        show _=_;rw[nQ hjl,List.map_append,List.map_singleton,R8a,hz];simp
       rw[hz]at y1 hx;have HC:=ih z (by omega) wr (by omega) (HS.out.still KR.out);unfold maxLen at hl2;clear y0 hz hx;have H1:=A0 (M.R9a ((ls.take j).map λx=>M.tr T x.toNat));have H2:=A0 (M.Q2a (M.tr T z));generalize M.U0 ((ls.take j).map λx=>M.tr T x.toNat)=t1 at *;generalize M.Z7 (M.tr T z)=t2 at *;go_wp2_with fail
       refine HC.mono ?_;clear HC;rintro e w2 ⟨rfl,hc⟩;go_wp2;go_roundw
       case rel=>exact⟨j+1,by omega,by go_num,by rw[HT.out,A5d _ _ H1.out H2.out],KR.out.trans hc (λ_ _ x=>x)⟩
       case measure=>simp[intOf];omega
     · have hje:j=ls.length:=by omega
       subst hje;rw[List.take_length]at *;go_wp2;go_ret;exact⟨rfl,KR.out⟩
  · have hp:=HP.out h10;rw[hp];clear hp HP HU HL HO;go_enter func46,ntmps46;go_wp2;all_goals go_ret
    all_goals exact⟨J3 (by simp_all [M.O1a]),Chg.alloc _ _ _⟩
def J3a(lb mb N:Nat)(T:List M.Ty)(m:Nat):Prop:=∀(a b:Nat) (w:World) (D:Dt),a+b+1<=m->a<T.length->b<T.length->Shp w lb mb N T D->
 Calls prog 112 #[pV lb,iV (a:Int),iV (b:Int)] w (H1a w mb N T D (a+b) (M.D9 (M.tr T a) (M.tr T b)))
structure Box(w:World)(q:Nat)(v:Value)(e:TypeId):Prop where
 at':w.heap[q]? =some (.cells #[v] e (0,0))
theorem Box.cell{w:World}{q:Nat}{v:Value}{e:TypeId}(h:Box w q v e):w.cell? (aD q 0)=some v:=cr h.at' rfl
theorem Box.lt{w:World}{q:Nat}{v:Value}{e:TypeId}(h:Box w q v e):q<w.heap.size:=(ltG h.at')
theorem Box.memo{w w':World}{q mb N:Nat}{T:List M.Ty}{D:Dt}{v:Value}{e:TypeId}(h:Box w q v e)(hm:Mst w mb N T D)(hc:Chg (λk=>k=mb) w w'):Box w' q v e:=
 ⟨by rw[hc.block q h.lt (λx=>by have x':q=mb:=x;subst x';exact hm.tag _ _ _ h.at')];exact h.at'⟩
theorem Box.still{w w':World}{q:Nat}{v:Value}{e:TypeId}(h:Box w q v e)(hc:Chg No w w'):Box w' q v e:=⟨by rw[hc.block q h.lt (λx=>x)];exact h.at'⟩
theorem Y8b(w:World)(v:Value)(e:TypeId):Box (w.alloc (.cells #[v] e)) w.heap.size v e:=⟨heap_alloc_new w _⟩
theorem Box.alloc{w:World}{q:Nat}{v:Value}{e:TypeId}(h:Box w q v e)(o:Obj):Box (w.alloc o) q v e:=h.still (Chg.alloc _ _ _)
theorem D5{w:World}{la:Option Addr}{lc:Nat}{ls:List Int}(h:w.ownsRow 0 3 1 (.slice la ls.length lc) ls.length (B8 ls)){j:Nat}(hj:j<ls.length):∃g,la=some (aD g 0)/\g<w.heap.size/\ls.length<=lc/\lc<=maxLen/\w.cell? (aD g j)=some (iV ls[j]):=by
 obtain⟨g2,h1,_,h2,h3,h4,h5⟩:=D8 h (by omega);exact⟨g2,h1,h2,h3,h4,h5 j _ (by simp[B8,hj])⟩
theorem T4{w w':World}{base size n mb N:Nat}{T:List M.Ty}{D:Dt}{e:TypeId}{v:Value}{xs:List Value}(h:w.ownsRow base e size v n xs)(hm:Mst w mb N T D)(hc:Chg (λk=>k=mb) w w'):w'.ownsRow base e size v n xs:=
 A3 h hc λg hg x=>by
  have x':g=mb:=x;subst x';obtain⟨_,cur,hh⟩:=A9 h g hg;exact hm.tag _ _ _ hh
section
variable{lb mb N:Nat}{T:List M.Ty}
theorem D4c(m:Nat)(IH:J3a lb mb N T m)(w:World)(D:Dt)(h:Shp w lb mb N T D)(k b ql qb:Nat)(hk:k<T.length)(hb:b<T.length)(hm:k+b+1<=m)(hl:Box w ql (pV lb) 42)(hq:Box w qb (iV (b:Int)) 3):
 Calls prog 148 #[iV (k:Int),pV ql,pV qb] w (H1a w mb N T D (k+b) (!M.D9 (M.tr T k) (M.tr T b))):=by
 have H:=IH k b w D hm hk hb h;have c1:=hl.cell;have c2:=hq.cell;clear h hl hq;generalize M.D9 (M.tr T k) (M.tr T b)=r at *;go_enter func148,ntmps148;go_wp2_with fail
 refine H.mono ?_;clear H;rintro e w1 ⟨rfl,hc,hd⟩;go_wp2;go_ret;exact⟨rfl,hc,hd⟩
theorem D3c(m:Nat)(IH:J3a lb mb N T m)(w:World)(D:Dt)(h:Shp w lb mb N T D)(k a ql qa:Nat)(hk:k<T.length)(ha:a<T.length)(hm:a+k+1<=m)(hl:Box w ql (pV lb) 42)(hq:Box w qa (iV (a:Int)) 3):
 Calls prog 149 #[iV (k:Int),pV ql,pV qa] w (H1a w mb N T D (a+k) (M.D9 (M.tr T a) (M.tr T k))):=by
 have H:=IH a k w D hm ha hk h;have c1:=hl.cell;have c2:=hq.cell;clear h hl hq;generalize M.D9 (M.tr T a) (M.tr T k)=r at *;go_enter func149,ntmps149;go_wp2_with fail
 refine H.mono ?_;clear H;rintro e w1 ⟨rfl,hc,hd⟩;go_wp2;go_ret;exact⟨rfl,hc,hd⟩
end
structure Mid(w:World)(mb N:Nat)(T:List M.Ty)(D:Dt)(m:Nat)(w':World):Prop where
 chg:Chg (λk=>k=mb) w w'
 memo:∃D',Mst w' mb N T D'/\∀p q,p<N->q<N->m<=p+q->at2 D' p q=at2 D p q
theorem Mid.refl{w:World}{lb mb N:Nat}{T:List M.Ty}{D:Dt}(h:Shp w lb mb N T D)(m:Nat):Mid w mb N T D m w:=⟨Chg.refl _ _,D,h.mst,λ_ _ _ _ _=>rfl⟩
theorem Mid.shp{w w':World}{lb mb N:Nat}{T:List M.Ty}{D:Dt}{m:Nat}(h:Mid w mb N T D m w')(hs:Shp w lb mb N T D):∃D',Shp w' lb mb N T D'/\∀p q,p<N->q<N->m<=p+q->at2 D' p q=at2 D p q:=by
 obtain⟨D',h1,h2⟩:=h.memo;exact⟨D',hs.memo h.chg h1,h2⟩
theorem Mid.after{w w1 w2:World}{mb N:Nat}{T:List M.Ty}{D D1:Dt}{m m1:Nat}{r:Bool}{e:Ending}(h:Mid w mb N T D m w1)(hd:∀p q,p<N->q<N->m<=p+q->at2 D1 p q=at2 D p q)(hm:m1+1<=m)(k:H1a w1 mb N T D1 m1 r e w2):Mid w mb N T D m w2:=by
 obtain⟨_,h3,D2,h4,h5⟩:=k;exact⟨h.chg.trans h3 (λ_ _ x=>x),D2,h4,λp q hp hq hpq=>(h5 p q hp hq (by omega)).trans (hd p q hp hq hpq)⟩
theorem Mid.alloc{w w1:World}{mb N:Nat}{T:List M.Ty}{D:Dt}{m:Nat}(h:Mid w mb N T D m w1)(o:Obj):Mid w mb N T D m (w1.alloc o):=by
 obtain⟨D',h1,h2⟩:=h.memo;exact⟨h.chg.trans (Chg.alloc No _ _) (λ_ _ x=>x.elim),D',h1.chg (Chg.alloc No _ _) (λx=>x),h2⟩
theorem B7a{α:Type}{p:α->Bool}{l:List α}{j:Nat}(hj:j<l.length):(l.take (j+1)).any p=((l.take j).any p||p l[j]):=by
 rw[nQ hj,List.any_append];simp
section
variable{lb mb N:Nat}{T:List M.Ty}
theorem R4b(m:Nat)(IH:J3a lb mb N T m)(w:World)(D:Dt)(h:Shp w lb mb N T D)(la:Option Addr)(lc:Nat)(ls:List Int)(ho:w.ownsRow 0 3 1 (.slice la ls.length lc) ls.length (B8 ls))(b ql qb:Nat)(hb:b<T.length)(hin:∀x∈ls,0<=x/\x<T.length/\x+b+1<=m)
 (hl:Box w ql (pV lb) 42) (hq:Box w qb (iV (b:Int)) 3):
 Calls prog 170 #[.slice la ls.length lc,.func (.func 148) #[] #[pV ql,pV qb]] w λe w'=>
  (∃r:Int,e= .returned (iV r)/\decide (0<=r)=ls.any λx=> !M.D9 (M.tr T x.toNat) (M.tr T b))/\Mid w mb N T D m w':=by
 have HS:=A0 h;have HO:=A0 ho;have HQ1:=A0 hl;have HQ2:=A0 hq;have HI:=A0 hin;clear h ho hl hq hin;go_enter func170,ntmps170;go_wp2;go_loopw [8] (λv wr=>∃j:Nat,j<=ls.length/\v=iV (j:Int)/\Hid ((ls.take j).any (λx=> !M.D9 (M.tr T x.toNat) (M.tr T b))=false)/\Hid (Mid w mb N T D m wr)) (λv _=>ls.length - (intOf v).toNat)
 case atStart=>exact⟨0,wQ _,rfl,by simp[Hid],Mid.refl HS.out m⟩
 case round=>
  obtain⟨j,hj,rfl,HA,KR⟩:=hrel;by_cases hjl:j<ls.length
  · obtain⟨g,rfl,hg,hl1,hl2,y0⟩:=D5 (T4 HO.out HS.out.mst KR.out.chg) hjl;have hx:=HI.out ls[j] (mQ hjl);obtain⟨z,hz⟩:∃z:Nat,ls[j]=(z:Int):=⟨ls[j].toNat,by omega⟩;have HT:=A0 (B7a (p:=λx:Int=> !M.D9 (M.tr T x.toNat) (M.tr T b)) hjl);have HM:=A0 (mQ hjl);simp only[hz,tQ]at HT HM;rw[hz]at y0 hx;obtain⟨D1,hs1,hd1⟩:=KR.out.shp HS.out;have HC:=D4c m IH wr D1 hs1 z b ql qb (by omega) hb (by omega) (HQ1.out.memo HS.out.mst KR.out.chg) (HQ2.out.memo HS.out.mst KR.out.chg);have HD:=A0 hd1;unfold maxLen at hl2;have HX:=A0 (show z+b+1<=m by omega);clear hz hx hs1 hd1;have HR:Hid (∀r,r=(!M.D9 (M.tr T z) (M.tr T b))->(∃x∈ls,(!M.D9 (M.tr T x.toNat) (M.tr T b))=true)\/r=false):=by
     intro r hr;cases r
     · exact .inr rfl
     · exact .inl ⟨_,HM.out,by simpa using hr.symm⟩
    generalize hr:(!M.D9 (M.tr T z) (M.tr T b))=r at HT HC;have HR2:=A0 (HR.out r hr.symm);clear hr HR;cases r
    · go_wp2_with fail
      refine HC.mono ?_;clear HC;rintro e w2 hf;have K2:=A0 (KR.out.after HD.out (by have:=HX.out;omega) hf);obtain⟨rfl,-,-⟩:=hf;go_wp2;go_roundw
      case rel=>exact⟨j+1,by omega,by go_num,by show _=_;rw[HT.out,HA.out];rfl,K2.out⟩
      case measure=>simp[intOf];omega
    · go_wp2_with fail
      refine HC.mono ?_;clear HC;rintro e w2 hf;have K2:=A0 (KR.out.after HD.out (by have:=HX.out;omega) hf);obtain⟨rfl,-,-⟩:=hf;go_wp2;go_ret;refine⟨⟨_,rfl, ?_⟩,K2.out⟩;rcases HR2.out with ⟨x,hx1,hx2⟩|h0
      · rw[List.any_eq_true.2 ⟨x,hx1,hx2⟩];simp
      · cases h0
  · have hje:j=ls.length:=by omega
    subst hje;rw[List.take_length]at HA;go_wp2;go_ret;exact⟨⟨_,rfl,by rw[HA.out];simp⟩,KR.out⟩
theorem X7a(m:Nat)(IH:J3a lb mb N T m)(w:World)(D:Dt)(h:Shp w lb mb N T D)(la:Option Addr)(lc:Nat)(ls:List Int)(ho:w.ownsRow 0 3 1 (.slice la ls.length lc) ls.length (B8 ls))(b ql qb:Nat)(hb:b<T.length)(hin:∀x∈ls,0<=x/\x<T.length/\x+b+1<=m)
 (hl:Box w ql (pV lb) 42) (hq:Box w qb (iV (b:Int)) 3):
 Calls prog 147 #[.slice la ls.length lc,.func (.func 148) #[] #[pV ql,pV qb]] w λe w'=>
  e= .returned (.bool (ls.any λx=> !M.D9 (M.tr T x.toNat) (M.tr T b)))/\Mid w mb N T D m w':=by
 have H:=R4b m IH w D h la lc ls ho b ql qb hb hin hl hq;clear h ho hl hq hin;generalize (ls.any λx=> !M.D9 (M.tr T x.toNat) (M.tr T b))=r at *;go_enter func147,ntmps147;go_wp2_with fail
 refine H.mono ?_;clear H;rintro e w1 ⟨⟨k,rfl,hk⟩,hm⟩;go_wp2;all_goals go_ret
 all_goals exact⟨F1 (by simp_all),hm⟩
theorem R3b(m:Nat)(IH:J3a lb mb N T m)(w:World)(D:Dt)(h:Shp w lb mb N T D)(la:Option Addr)(lc:Nat)(ls:List Int)(ho:w.ownsRow 0 3 1 (.slice la ls.length lc) ls.length (B8 ls))(b ql qb:Nat)(hb:b<T.length)(hin:∀x∈ls,0<=x/\x<T.length/\x+b+1<=m)
 (hl:Box w ql (pV lb) 42) (hq:Box w qb (iV (b:Int)) 3):
 Calls prog 170 #[.slice la ls.length lc,.func (.func 149) #[] #[pV ql,pV qb]] w λe w'=>
  (∃r:Int,e= .returned (iV r)/\decide (0<=r)=ls.any λx=>M.D9 (M.tr T b) (M.tr T x.toNat))/\Mid w mb N T D m w':=by
 have HS:=A0 h;have HO:=A0 ho;have HQ1:=A0 hl;have HQ2:=A0 hq;have HI:=A0 hin;clear h ho hl hq hin;go_enter func170,ntmps170;go_wp2;go_loopw [8] (λv wr=>∃j:Nat,j<=ls.length/\v=iV (j:Int)/\Hid ((ls.take j).any (λx=>M.D9 (M.tr T b) (M.tr T x.toNat))=false)/\Hid (Mid w mb N T D m wr)) (λv _=>ls.length - (intOf v).toNat)
 case atStart=>exact⟨0,wQ _,rfl,by simp[Hid],Mid.refl HS.out m⟩
 case round=>
  obtain⟨j,hj,rfl,HA,KR⟩:=hrel;by_cases hjl:j<ls.length
  · obtain⟨g,rfl,hg,hl1,hl2,y0⟩:=D5 (T4 HO.out HS.out.mst KR.out.chg) hjl;have hx:=HI.out ls[j] (mQ hjl);obtain⟨z,hz⟩:∃z:Nat,ls[j]=(z:Int):=⟨ls[j].toNat,by omega⟩;have HT:=A0 (B7a (p:=λx:Int=>M.D9 (M.tr T b) (M.tr T x.toNat)) hjl);have HM:=A0 (mQ hjl);simp only[hz,tQ]at HT HM;rw[hz]at y0 hx;obtain⟨D1,hs1,hd1⟩:=KR.out.shp HS.out;have HC:=D3c m IH wr D1 hs1 z b ql qb (by omega) hb (by omega) (HQ1.out.memo HS.out.mst KR.out.chg) (HQ2.out.memo HS.out.mst KR.out.chg);have HD:=A0 hd1;unfold maxLen at hl2;have HX:=A0 (show z+b+1<=m by omega);clear hz hx hs1 hd1;have HR:Hid (∀r,r=(M.D9 (M.tr T b) (M.tr T z))->(∃x∈ls,(M.D9 (M.tr T b) (M.tr T x.toNat))=true)\/r=false):=by
     intro r hr;cases r
     · exact .inr rfl
     · exact .inl ⟨_,HM.out,by simpa using hr.symm⟩
    generalize hr:(M.D9 (M.tr T b) (M.tr T z))=r at HT HC;have HR2:=A0 (HR.out r hr.symm);clear hr HR;cases r
    · go_wp2_with fail
      refine HC.mono ?_;clear HC;rintro e w2 hf;have K2:=A0 (KR.out.after HD.out (by have:=HX.out;omega) hf);obtain⟨rfl,-,-⟩:=hf;go_wp2;go_roundw
      case rel=>exact⟨j+1,by omega,by go_num,by show _=_;rw[HT.out,HA.out];rfl,K2.out⟩
      case measure=>simp[intOf];omega
    · go_wp2_with fail
      refine HC.mono ?_;clear HC;rintro e w2 hf;have K2:=A0 (KR.out.after HD.out (by have:=HX.out;omega) hf);obtain⟨rfl,-,-⟩:=hf;go_wp2;go_ret;refine⟨⟨_,rfl, ?_⟩,K2.out⟩;rcases HR2.out with ⟨x,hx1,hx2⟩|h0
      · rw[List.any_eq_true.2 ⟨x,hx1,hx2⟩];simp
      · cases h0
  · have hje:j=ls.length:=by omega
    subst hje;rw[List.take_length]at HA;go_wp2;go_ret;exact⟨⟨_,rfl,by rw[HA.out];simp⟩,KR.out⟩
theorem X6a(m:Nat)(IH:J3a lb mb N T m)(w:World)(D:Dt)(h:Shp w lb mb N T D)(la:Option Addr)(lc:Nat)(ls:List Int)(ho:w.ownsRow 0 3 1 (.slice la ls.length lc) ls.length (B8 ls))(b ql qb:Nat)(hb:b<T.length)(hin:∀x∈ls,0<=x/\x<T.length/\x+b+1<=m)
 (hl:Box w ql (pV lb) 42) (hq:Box w qb (iV (b:Int)) 3):
 Calls prog 147 #[.slice la ls.length lc,.func (.func 149) #[] #[pV ql,pV qb]] w λe w'=>
  e= .returned (.bool (ls.any λx=>M.D9 (M.tr T b) (M.tr T x.toNat)))/\Mid w mb N T D m w':=by
 have H:=R3b m IH w D h la lc ls ho b ql qb hb hin hl hq;clear h ho hl hq hin;generalize (ls.any λx=>M.D9 (M.tr T b) (M.tr T x.toNat))=r at *;go_enter func147,ntmps147;go_wp2_with fail
 refine H.mono ?_;clear H;rintro e w1 ⟨⟨k,rfl,hk⟩,hm⟩;go_wp2;all_goals go_ret
 all_goals exact⟨F1 (by simp_all),hm⟩
end
theorem T9a:∀(L:List (List UInt8×Int)) (k:Nat) (h:k<L.length) (j:Nat),j<2->(F5 L)[2 * k+j]? =(J1 L[k])[j]?
 |[],k,h,_,_=>by simp at h
 |t::r,0,_,j,hj=>by
  simp only[F5,List.flatMap_cons,Nat.mul_zero,Nat.zero_add,List.getElem_cons_zero];rw[List.getElem?_append_left (by simp[J1];omega)]
 |t::r,k+1,h,j,hj=>by
  simp only[F5,List.flatMap_cons,List.getElem_cons_succ];rw[List.getElem?_append_right (by simp[J1];omega)];have:=T9a r k (by simpa using h) j hj;rw[<-this];simp only[J1,jQ,xQ,F5];congr 1
  omega
theorem T6{w:World}{fa:Option Addr}{fc:Nat}{fs:List (List UInt8×Int)}(h:w.ownsRow 0 121 2 (.slice fa fs.length fc) fs.length (F5 fs)){j:Nat}(hj:j<fs.length):∃g,fa=some (aD g 0)/\g<w.heap.size/\fs.length<=fc/\fc<=maxLen/\
 w.cell? (aD g (j * 2))=some (.string ⟨fs[j].1.toArray⟩)/\w.cell? (aD g (j * 2+1))=some (iV fs[j].2):=by
 obtain⟨g2,h1,_,h2,h3,h4,h5⟩:=D8 h (by omega);refine⟨g2,h1,h2,h3,h4, ?_, ?_⟩
 · have:=T9a fs j hj 0 (by omega);rw[Nat.mul_comm];exact h5 _ _ this
 · have:=T9a fs j hj 1 (by omega);rw[Nat.mul_comm];exact h5 _ _ this
section
variable{lb mb N:Nat}{T:List M.Ty}
theorem A4c(w:World)(nm nm':List UInt8)(x:Int)(qw:Nat)(hq:w.cell? (aD qw 0)=some (.string ⟨nm.toArray⟩)):
 Calls prog 173 #[.agg #[.string ⟨nm'.toArray⟩,iV x],pV qw] w λe w'=>e= .returned (.bool (nm'==nm))/\Chg No w w':=by
 have hlt:=World.block_lt_of_cell? w _ hq;by_cases h:nm'=nm
 · subst h;go_enter func173,ntmps173;go_wp2;go_ret;exact⟨F1 (by simp),Chg.alloc _ _ _⟩
 · go_enter func173,ntmps173;go_wp2;go_ret;exact⟨F1 (by simp),Chg.alloc _ _ _⟩
def Idx(fs:List (List UInt8×Int))(nm:List UInt8)(r:Int):Prop:=(∃k:Nat,∃hk:k<fs.length,r=k/\fs[k].1=nm/\∀i (hi:i<fs.length),i<k->fs[i].1≠nm)\/(r= -1/\∀p∈fs,p.1≠nm)
theorem D2a{nm:List UInt8}{f:List UInt8×Int->M.Tr}:∀{fs:List (List UInt8×Int)},(∀p∈fs,p.1≠nm)->M.H7 nm (fs.map (·.1)) (fs.map f)=none
 |[],_=>rfl
 |p::fs,h=>by
  rw[List.map_cons,List.map_cons,M.H7,if_neg (h p (by simp))];exact D2a λq hq=>h q (by simp[hq])
theorem I9a{nm:List UInt8}{f:List UInt8×Int->M.Tr}:∀{fs:List (List UInt8×Int)} {k:Nat} (hk:k<fs.length),fs[k].1=nm->(∀i (hi:i<fs.length),i<k->fs[i].1≠nm)->M.H7 nm (fs.map (·.1)) (fs.map f)=some (f fs[k])
 |[],_,hk,_,_=>by simp at hk
 |p::fs,0,_,h1,_=>by
  have h1:p.1=nm:=h1;rw[List.map_cons,List.map_cons,M.H7,if_pos h1];rfl
 |p::fs,k+1,hk,h1,h2=>by
  have h0:p.1≠nm:=h2 0 (by simp) (by omega);rw[List.map_cons,List.map_cons,M.H7,if_neg h0];exact I9a (by simpa using hk) h1 (λi hi hik=>h2 (i+1) (by simpa using hi) (by omega))
theorem K9b(kf:Nat)(cf:∀(args:Array Value) (W:World),(callFunc kf args).run prog W= .ok (.enter kf args) W)(w:World)(fa:Option Addr)(fc:Nat)(fs:List (List UInt8×Int))(ho:w.ownsRow 0 121 2 (.slice fa fs.length fc) fs.length (F5 fs))(nm:List UInt8)(qw:Nat)(hq:∀u,Chg No w u->∀nm' x,Calls prog kf #[.agg #[.string ⟨nm'.toArray⟩,iV x],pV qw] u λe w'=>e= .returned (.bool (nm'==nm))/\Chg No u w'):
 Calls prog 83 #[.slice fa fs.length fc,.func (.func kf) #[] #[pV qw]] w λe w'=>
  (∃r:Int,e= .returned (iV r)/\Idx fs nm r)/\Chg No w w':=by
 have HO:=A0 ho;have HQ:=A0 hq;clear ho hq;go_enter func83,ntmps83;go_wp2;go_loopw [8] (λv wr=>∃j:Nat,j<=fs.length/\v=iV (j:Int)/\Hid (∀i (hi:i<fs.length),i<j->fs[i].1≠nm)/\Hid (Chg No w wr)) (λv _=>fs.length - (intOf v).toNat)
 case atStart=>exact⟨0,wQ _,rfl,λ_ _ h=>by omega,Chg.refl _ _⟩
 case round=>
  obtain⟨j,hj,rfl,HA,KR⟩:=hrel;by_cases hjl:j<fs.length
  · obtain⟨g,rfl,hg,hl1,hl2,y0,y1⟩:=T6 (A3 HO.out KR.out (λ_ _ x=>x)) hjl;have HC:=HQ.out wr KR.out fs[j].1 fs[j].2;have HE:Hid (∀r,r=(fs[j].1==nm)->(r=true->fs[j].1=nm)/\(r=false->fs[j].1≠nm)):=by
     rintro r rfl;exact⟨λh=>by simpa using h,λh=>by simpa using h⟩
    unfold maxLen at hl2;generalize hr:(fs[j].1==nm)=r at HC;have HR:=A0 (HE.out r hr.symm);clear hr HE;generalize fs[j].2=fv at *;generalize hx:(⟨fs[j].1.toArray⟩:ByteArray)=bx at *;clear hx;cases r
    · go_wp2_with fail
      refine HC.mono ?_;clear HC;rintro e w2 ⟨rfl,hc⟩;have K2:=A0 (KR.out.trans hc (λ_ _ x=>x));clear hc;go_wp2;go_roundw
      case rel=>
       refine⟨j+1,by omega,by go_num,λi hi hij=> ?_,K2.out⟩;by_cases he:i=j
       · subst he;exact HR.out.2 trivial
       · exact HA.out i hi (by omega)
      case measure=>simp[intOf];omega
    · go_wp2_with fail
      refine HC.mono ?_;clear HC;rintro e w2 ⟨rfl,hc⟩;have K2:=A0 (KR.out.trans hc (λ_ _ x=>x));clear hc;go_wp2;go_ret;exact⟨⟨_,rfl,.inl ⟨j,hjl,rfl,HR.out.1 trivial,HA.out⟩⟩,K2.out⟩
  · have hje:j=fs.length:=by omega
    subst hje;go_wp2;go_ret;refine⟨⟨_,rfl,.inr ⟨rfl,λp hp=> ?_⟩⟩,KR.out⟩;obtain⟨i,hi,rfl⟩:=List.mem_iff_getElem.1 hp;exact HA.out i hi hi
def M3(T:List M.Ty)(has:List (List UInt8×Int))(p:List UInt8×Int):Bool:=match M.H7 p.1 (has.map (·.1)) (has.map λq=>M.tr T q.2.toNat) with
 |none=>false
 |some x=>M.D9 x (M.tr T p.2.toNat)
theorem G0{w a b:World}{D:Dt}{m q o:Nat}{v:Value}(hm:Mid w mb N T D m a)(hc:Chg (λk=>k=mb) a b)(h:a.cell? (aD q o)=some v):b.cell? (aD q o)=some v:=by
 obtain⟨D',h1,_⟩:=hm.memo;have hne:q≠mb:=by
  intro x';subst x';obtain⟨n,⟨es,cl,h2,_⟩,_⟩:=h1.own;simp[World.cell?,h2]at h
 rw[World.cell?_of_block (hc.block q (World.block_lt_of_cell? a _ h) hne)];exact h
theorem Mid.drewN{w w1:World}{D:Dt}{m:Nat}(h:Mid w mb N T D m w1)(n:Nat):Mid w mb N T D m (w1.drewN n):=by
 obtain⟨D',h1,h2⟩:=h.memo;exact⟨h.chg.trans (Chg.drewN No _ n) (λ_ _ x=>x.elim),D',h1.chg (Chg.drewN No _ n) (λx=>x),h2⟩
theorem F5a{m:Nat}(IH:J3a lb mb N T m){w:World}{D:Dt}(hs:Shp w lb mb N T D){a b:Nat}(hab:a+b+1<=m)(ha:a<T.length)(hb:b<T.length)(w1:World)(h:Mid w mb N T D m w1):
 Calls prog 112 #[pV lb,iV (a:Int),iV (b:Int)] w1 λe w'=>e= .returned (.bool (M.D9 (M.tr T a) (M.tr T b)))/\Chg (λk=>k=mb) w1 w'/\Mid w mb N T D m w':=by
 obtain⟨D1,h1,h2⟩:=h.shp hs;refine(IH a b w1 D1 hab ha hb h1).mono ?_;rintro e w2 hf;exact⟨hf.1,hf.2.1,h.after h2 hab hf⟩
theorem N6d{w a b:World}{D:Dt}{m:Nat}{p1 p2 p3 p4:Nat×Nat}{v1 v2 v3 v4:Value}(hc:Chg (λk=>k=mb) a b)(hm:Mid w mb N T D m b)(h:a.cell? (aD p1.1 p1.2)=some v1/\a.cell? (aD p2.1 p2.2)=some v2/\a.cell? (aD p3.1 p3.2)=some v3/\a.cell? (aD p4.1 p4.2)=some v4/\Hid (Mid w mb N T D m a)):b.cell? (aD p1.1 p1.2)=some v1/\b.cell? (aD p2.1 p2.2)=some v2/\b.cell? (aD p3.1 p3.2)=some v3/\b.cell? (aD p4.1 p4.2)=some v4/\Hid (Mid w mb N T D m b):=
 ⟨G0 h.2.2.2.2.out hc h.1,G0 h.2.2.2.2.out hc h.2.1,G0 h.2.2.2.2.out hc h.2.2.1,G0 h.2.2.2.2.out hc h.2.2.2.1,hm⟩
theorem K5c(m:Nat)(IH:J3a lb mb N T m)(w:World)(D:Dt)(h:Shp w lb mb N T D)(fa:Option Addr)(fc:Nat)(has:List (List UInt8×Int))(ho:w.ownsRow 0 121 2 (.slice fa has.length fc) has.length (F5 has))(nm:List UInt8)(y:Nat)(qh ql:Nat)(hy:y<T.length)
 (hin:∀p∈has,0<=p.2/\p.2<T.length/\p.2+y+1<=m) (hl:Box w ql (pV lb) 42) (hq:Box w qh (.slice fa has.length fc) 64):
 Calls prog 172 #[.agg #[.string ⟨nm.toArray⟩,iV (y:Int)],pV qh,pV ql] w λe w'=>e= .returned (.bool (!M3 T has (nm,(y:Int))))/\Mid w mb N T D m w':=by
 have h1:=h.alloc (.cells #[.string ⟨nm.toArray⟩,iV (y:Int)] 121);have HF:=K9b 173 (λ_ _=>by go_simp) (w.alloc (.cells #[.string ⟨nm.toArray⟩,iV (y:Int)] 121)) fa fc has (ho.alloc _) nm w.heap.size (λu hu nm' x=>A4c u nm nm' x _ (by rw[World.cell?_of_block (hu.block _ (by simp) (λx=>x)),World.cell?_alloc_new];rfl));have HW:Hid (∀r,Idx has nm r->(r= -1/\(!M3 T has (nm,(y:Int)))=true)\/∃(k:Nat) (x:Nat) (hk:k<has.length),r=k/\has[k].2=x/\x<T.length/\x+y+1<=m/\(!M3 T has (nm,(y:Int)))= !M.D9 (M.tr T x) (M.tr T y)):=by
  intro r hr;rcases hr with ⟨k,hk,rfl,h1,h2⟩|⟨rfl,h1⟩
  · have hp:=hin _ (mQ hk);refine .inr ⟨k,has[k].2.toNat,hk,rfl,by omega,by omega,by omega, ?_⟩;simp only[M3];rw[I9a hk h1 h2];simp
  · refine .inl ⟨rfl, ?_⟩;simp only[M3];rw[D2a h1];rfl
 have HS:=A0 h1;have HO:=A0 (ho.alloc (.cells #[.string ⟨nm.toArray⟩,iV (y:Int)] 121));have HQ1:=A0 (hl.alloc (.cells #[.string ⟨nm.toArray⟩,iV (y:Int)] 121));have HQ2:=A0 (hq.alloc (.cells #[.string ⟨nm.toArray⟩,iV (y:Int)] 121));have HM:=A0 (Mid.refl h m);have H0:=A0 h;have HB:=A0 (heap_alloc_new w (.cells #[.string ⟨nm.toArray⟩,iV (y:Int)] 121));have hql:=hl.lt;have hqh:=hq.lt;have cq:=hq.cell;clear h h1 ho hl hq hin;generalize (!M3 T has (nm,(y:Int)))=R at *;go_enter func172,ntmps172;go_wp2_with fail
 refine HF.mono ?_;clear HF;rintro e w1 ⟨⟨r,rfl,hi⟩,hc⟩;have S1:=A0 (HS.out.still hc);have O1:=A0 (A3 HO.out hc (λ_ _ x=>x));have Q1:=A0 (HQ1.out.still hc);have Q2:=A0 (HQ2.out.still hc);have c1:=Q1.out.cell;have c2:=Q2.out.cell;have B1:Hid (w1.heap[w.heap.size]? =some (.cells #[.string ⟨nm.toArray⟩,iV (y:Int)] 121 (0,0))):=(hc.block w.heap.size (by simp) (λx=>x)).trans HB.out;have c3:w1.cell? (aD w.heap.size 1)=some (iV (y:Int)):=cr B1.out rfl;have M1:Hid (Mid w mb N T D m w1):=by
  obtain⟨D',h1,h2⟩:=(HM.out.alloc (.cells #[.string ⟨nm.toArray⟩,iV (y:Int)] 121)).memo;exact⟨((HM.out.alloc _).chg).trans hc (λ_ _ x=>x.elim),D',h1.chg hc (λx=>x),h2⟩
 clear hc HS HO HQ1 HQ2 HM HB;rcases HW.out r hi with ⟨rfl,hR⟩|⟨k,x,hk,rfl,hx,hxl,hxm,hR⟩
 · clear hi HW;subst hR;go_wp2_with fail
   go_quiet (fail)
   go_wp2;go_ret;exact⟨F1 (by simp),M1.out.drewN _⟩
 · obtain⟨g,rfl,hg,hl1,hl2,-,y1⟩:=T6 O1.out hk;rw[hx]at y1;have FM:=λa (ha:Mid w mb N T D m a)=>F5a IH H0.out hxm hxl hy a ha;unfold maxLen at hl2;have hk':(k:Int)<(has.length:Int):=by omega
   have hk1:decide ((k:Int)<0)=false:=by simp
   clear hi HW S1 O1 Q1 Q2 hx hxl hxm;generalize M.D9 (M.tr T x) (M.tr T y)=r at *;have HRR:=A0 hR;clear hR;go_wp2_with fail
   go_region_held3 (λw'=>w'.cell? (aD qh 0)=some (.slice (some (aD g 0)) has.length fc)/\w'.cell? (aD ql 0)=some (pV lb)/\w'.cell? (aD g (k * 2+1))=some (iV (x:Int))/\w'.cell? (aD w.heap.size 1)=some (iV (y:Int))/\Hid (Mid w mb N T D m w'))
    (first
     |exact⟨c2,c1,y1,c3,M1.out.drewN 1⟩
     |exact N6d (p1:=(qh,0)) (p2:=(ql,0)) (p3:=(g,k * 2+1)) (p4:=(w.heap.size,1)) hcf hmf ⟨by assumption,by assumption,by assumption,by assumption,by assumption⟩
     |(go_split_ands;exact⟨by assumption,by assumption,by assumption,by assumption,by assumption⟩))
    (first
     |((go_at_call 112;go_split_ands;refine(FM _ (Hid.out (by assumption))).mono ?_;rintro e w' ⟨rfl,hcf,hmf⟩)))
   have M2:Hid (Mid w mb N T D m w'):=by assumption
   go_wp2;go_ret;exact⟨F1 (by rw[HRR.out]),M2.out⟩
end
end Go.Proofs.YtfhhipefecekkaaGreatDoor
