/-
  A part of the proof.
-/
import Derived.Test.YtgdnpemiiageaaaGreatDoorScanC
import Derived.Test.YtgdnpemiiageaaaGreatDoorPlainB
import Derived.Maps.Views
import Derived.Maps.OwnOps
import Derived.DeepKeys4
import Derived.BigRegion
set_option maxHeartbeats 16000000
set_option maxRecDepth 100000
namespace Go.Proofs.YtgdnpemiiageaaaGreatDoor
open Go.RowKit Go.Maps
theorem Tryz.laidOut:laidOutB Tryz.prog=true:=by kernel_rfl
theorem Tryz.rowPair:(177:TypeId)<Tryz.prog.types.size:=of_decide_eq_true (by kernel_rfl)
theorem Tryz.widePair:(match Tryz.prog.underlying 177 with|some (.array _ _)|some (.struct _)=>true|_=>false)=true:=by kernel_rfl
theorem Tryz.keyPair:Tryz.prog.keyType 177=true:=by kernel_rfl
theorem Q6a:Keyed Tryz.prog 177:=Keyed.of_law (deep_law_laid Tryz.laidOut (m:=2) (by omega) Tryz.rowPair (by kernel_rfl) Tryz.widePair)
theorem Tryz.cellsPair:Tryz.prog.cellsOf 177=2:=by kernel_rfl
theorem Tryz.cellsInt:Tryz.prog.cellsOf 3=1:=by kernel_rfl
def kp (a b:Int):Lit:= .string (keyBytes [.int .i64 a,.int .i64 b])
theorem A7a (a b:Int) (ha:(Lit.int .i64 a).wf=true) (hb:(Lit.int .i64 b).wf=true):keyOf Tryz.prog 177 (.agg #[.int .i64 a,.int .i64 b])=some (kp a b):=by
 have h2:2<=Tryz.prog.types.size+1:=of_decide_eq_true (by kernel_rfl);obtain⟨m,hm⟩:=Nat.exists_eq_add_of_le h2;have hf:(Value.agg #[.int .i64 a,.int .i64 b]).formed Tryz.prog 177=true:=by simp[Value.formed,Tryz.underlying177,Tryz.cellsPair]
 unfold keyOf;simp only[Tryz.underlying177,Tryz.keyPair,hf,Bool.and_self,if_true];rw[hm,show 2+m=m+1+1 by omega];simp[Program.keyLits,Tryz.underlying177,Tryz.underlying3,Tryz.cellsPair,Tryz.cellsInt,ha,hb,Value.cells,kp]
theorem F0d {a b c d:Int} (ha:(Lit.int .i64 a).wf=true) (hb:(Lit.int .i64 b).wf=true) (hc:(Lit.int .i64 c).wf=true) (hd:(Lit.int .i64 d).wf=true) (h:kp a b=kp c d):a=c/\b=d:=by
 have h1:=A7a a b ha hb;have h2:=A7a c d hc hd;rw[h]at h1;have:=Q6a.inj h1 h2;simpa using this
theorem Q9 (a:Nat) (h:a<1000000000000):(Lit.int .i64 (a:Int)).wf=true:=by
 simp[Lit.wf,IntKind.min,IntKind.max,IntKind.bits,IntKind.signed];omega
abbrev Dt:=DataW Unit
def zi:Dt:= .lit (.int .i64 0)
def at2 (D:Dt) (a b:Nat):Dt:=D.atKey (kp a b) zi
def isZ:Dt->Bool
 | .lit (.int _ c)=>c==0
 |_=>true
def R3b (N:Nat):List (Nat×Nat):=(List.range N).flatMap fun p=>(List.range N).map fun q=>(p,q)
theorem Y8a (N:Nat):∀l:List Nat,(l.map fun _=>N).sum=l.length * N
 |[]=>by simp
 |a::l=>by rw[List.map_cons,List.sum_cons,Y8a N l,List.length_cons,Nat.add_mul];omega
theorem M7c (N:Nat):(R3b N).length=N * N:=by
 have:=Y8a N (List.range N);simpa[R3b]using this
theorem L3c {N a b:Nat} (ha:a<N) (hb:b<N):(a,b)∈R3b N:=by
 simp only[R3b,List.mem_flatMap,List.mem_map,List.mem_range];exact⟨a,ha,b,hb,rfl⟩
def free (N:Nat) (D:Dt):Nat:=(R3b N).countP fun x=>isZ (at2 D x.1 x.2)
theorem O8a {α:Type} {p q:α->Bool}:∀{l:List α} {x:α},(∀y∈l,q y=true->p y=true)->x∈l->p x=true->q x=false->l.countP q+1<=l.countP p
 |a::l,x,h,hx,hp,hq=>by
  have hm:l.countP q<=l.countP p:=List.countP_mono_left fun y hy=>h y (by simp[hy]);rcases List.mem_cons.1 hx with rfl|hx
  · rw[List.countP_cons_of_pos hp,List.countP_cons_of_neg (by simp[hq])];omega
  · have:=O8a (fun y hy=>h y (by simp[hy])) hx hp hq;by_cases hqa:q a=true
    · rw[List.countP_cons_of_pos hqa,List.countP_cons_of_pos (h a (by simp) hqa)];omega
    · rw[List.countP_cons_of_neg hqa];have:l.countP p<=(a::l).countP p:=by
       by_cases hpa:p a=true
       · rw[List.countP_cons_of_pos hpa];omega
       · rw[List.countP_cons_of_neg hpa];exact Nat.le_refl _
      omega
theorem M7b {D:Dt} (hD:IsMap D) {a b:Nat} (d:Dt):at2 (D.put (kp a b) d) a b=d:=atKey_put_same (k:=kp a b) hD (show WideAt.IsKeyLit (kp a b) from trivial) d zi
theorem N8a {D:Dt} {a b p q:Nat} (ha:a<1000000000000) (hb:b<1000000000000) (hp:p<1000000000000) (hq:q<1000000000000) (d:Dt) (h:¬(p=a/\q=b)):at2 (D.put (kp a b) d) p q=at2 D p q:=by
 refine atKey_put_other (fun e=>h ?_) d zi;have:=F0d (Q9 p hp) (Q9 q hq) (Q9 a ha) (Q9 b hb) e;omega
theorem N0c {N:Nat} (hN:N<=4000) {D:Dt} (hD:IsMap D) {a b:Nat} (ha:a<N) (hb:b<N) (hz:isZ (at2 D a b)=true) (d:Dt) (hd:isZ d=false):free N (D.put (kp a b) d)+1<=free N D:=by
 refine O8a (x:=(a,b)) (fun y hy hq=> ?_) (L3c ha hb) hz (by show isZ (at2 _ _ _)=_;rw[M7b hD];exact hd);obtain⟨p,q⟩:=y;by_cases h:p=a/\q=b
 · obtain⟨rfl,rfl⟩:=h;exact hz
 · simp only[R3b,List.mem_flatMap,List.mem_map,List.mem_range,Prod.mk.injEq]at hy;obtain⟨p',hp',q',hq',rfl,rfl⟩:=hy;simp only at hq⊢;rw[N8a (by omega) (by omega) (by omega) (by omega) d h]at hq;exact hq
def Memo (N:Nat) (T:List M.Ty) (D:Dt):Prop:=∀p q c,p<N->q<N->at2 D p q= .lit (.int .i64 c)->c=0\/(p<T.length/\q<T.length/\((c=1/\M.F1 (M.tr T p) (M.tr T q)=true)\/(c=2/\M.F1 (M.tr T p) (M.tr T q)=false)))
structure Mst (w:World) (mb N:Nat) (T:List M.Ty) (D:Dt):Prop where
 few:N<=4000
 len:T.length<=N
 memo:Memo N T D
 isMap:IsMap D
 own:∃n,w.ownsMap Tryz.prog 177 (plainElem Tryz.prog 3) mb n D/\n+free N D<=N * N
theorem Mst.chg {S:Nat->Prop} {w w':World} {mb N:Nat} {T:List M.Ty} {D:Dt} (h:Mst w mb N T D) (hc:Chg S w w') (hn:¬S mb):Mst w' mb N T D:=by
 obtain⟨a,b,c,d,n,⟨es,cl,h1,h2⟩,r⟩:=h;exact⟨a,b,c,d,n,⟨es,cl,by rw[hc.block mb (ltG h1) hn];exact h1,h2⟩,r⟩
theorem Mst.lt {w:World} {mb N:Nat} {T:List M.Ty} {D:Dt} (h:Mst w mb N T D):mb<w.heap.size:=by
 obtain⟨n,h,_⟩:=h.own;exact h.lt
theorem Mst.tag {w:World} {mb N:Nat} {T:List M.Ty} {D:Dt} (h:Mst w mb N T D):∀cs e fz,w.heap[mb]? ≠some (.cells cs e fz):=by
 obtain⟨n,⟨es,cl,h1,h2⟩,r⟩:=h.own;intro cs e fz hx;rw[h1]at hx;cases hx
theorem V7c (w:World) (N:Nat) (hN:N<=4000):Mst (w.alloc (.map #[] 0)) w.heap.size N [] (.map []):=by
 refine⟨hN,Nat.zero_le _,fun p q c _ _ h=> ?_,isMap_empty,0,World.ownsMap_made w _ _ _, ?_⟩
 · left;have:at2 (.map []) p q=zi:=rfl;rw[this]at h;simp[zi]at h;exact h.symm
 · have:=List.countP_le_length (p:=fun x:Nat×Nat=>isZ (at2 (.map []) x.1 x.2)) (l:=R3b N);rw[M7c]at this;unfold free;omega
theorem Mst.more {w:World} {mb N:Nat} {T:List M.Ty} {D:Dt} (h:Mst w mb N T D) (hT:M.TsOk T) (X:List M.Ty) (hl:(T++X).length<=N):Mst w mb N (T++X) D:=by
 refine⟨h.few,hl,fun p q c hp hq he=> ?_,h.isMap,h.own⟩;rcases h.memo p q c hp hq he with h1|⟨h1,h2,h3⟩
 · exact .inl h1
 · refine .inr ⟨by simp;omega,by simp;omega, ?_⟩;rw[M.D3a X hT h1,M.D3a X hT h2];exact h3
theorem F1d {D:Dt} {a b:Nat} {c:Int} (h:at2 D a b= .lit (.int .i64 c)):isZ (at2 D a b)=(c==0):=by rw[h];rfl
theorem Mst.put {w w':World} {mb N n:Nat} {T:List M.Ty} {D:Dt} {a b:Nat} (h:Mst w mb N T D) (ha:a<T.length) (hb:b<T.length) (hz:isZ (at2 D a b)=true) (r:Bool) (hr:M.F1 (M.tr T a) (M.tr T b)=r) (hn:n+free N D<=N * N)
 (ho:w'.ownsMap Tryz.prog 177 (plainElem Tryz.prog 3) mb (n+1) (D.put (kp a b) (.lit (.int .i64 (if r then 1 else 2))))):Mst w' mb N T (D.put (kp a b) (.lit (.int .i64 (if r then 1 else 2)))):=by
 have hN:=h.few;have hlen:=h.len;refine⟨hN,hlen,fun p q c hp hq he=> ?_,h.isMap.put _ _,n+1,ho, ?_⟩
 · by_cases hpq:p=a/\q=b
   · obtain⟨rfl,rfl⟩:=hpq;rw[M7b h.isMap]at he;refine .inr ⟨ha,hb, ?_⟩;cases r
     · simp at he;exact .inr ⟨he.symm,hr⟩
     · simp at he;exact .inl ⟨he.symm,hr⟩
   · rw[N8a (by omega) (by omega) (by omega) (by omega) _ hpq]at he;exact h.memo p q c hp hq he
 · have:=N0c hN h.isMap (a:=a) (b:=b) (by omega) (by omega) hz (.lit (.int .i64 (if r then 1 else 2))) (by cases r<;>rfl);omega
open Go.RowKit Go.Maps
structure Shp (w:World) (lb mb N:Nat) (T:List M.Ty) (D:Dt):Prop where
 ok:M.TsOk T
 mst:Mst w mb N T D
 blk:∃yv yx,w.heap[lb]? =some (.cells #[yv,.map (some mb)] 101 (0,0))/\w.ownsRow lb 68 4 yv T.length yx/\Rws (TyV w (fun _=>True)) T yx
theorem Shp.chg {S:Nat->Prop} {w w':World} {lb mb N:Nat} {T:List M.Ty} {D D':Dt} (h:Shp w lb mb N T D) (hc:Chg S w w') (hm:Mst w' mb N T D')
 (hs:∀k cur e,w.heap[k]? =some (.cells cur e (0,0))->(e=101\/e=68\/e=126\/e=3)->¬S k):Shp w' lb mb N T D':=by
 obtain⟨h1,_,yv,yx,hb,hy,hr⟩:=h;refine⟨h1,hm,yv,yx, ?_,A8 hy hc fun g hg x=> ?_,hr.imp (TyV.chg hc (fun g _ _ hx hh=> ?_) (fun _ _ _=>trivial))⟩
 · rw[hc.block lb (ltG hb) (hs lb _ _ hb (.inl rfl))];exact hb
 · obtain⟨_,cur,hh⟩:=A9 hy g hg;exact hs g cur _ hh (.inr (.inl rfl)) x
 · obtain⟨cur,e,hh,he⟩:=hh;rcases he with rfl|rfl
   · exact hs g cur _ hh (.inr (.inr (.inl rfl))) hx
   · exact hs g cur _ hh (.inr (.inr (.inr rfl))) hx
theorem Shp.still {w w':World} {lb mb N:Nat} {T:List M.Ty} {D:Dt} (h:Shp w lb mb N T D) (hc:Chg No w w'):Shp w' lb mb N T D:=h.chg hc (h.mst.chg hc (fun x=>x)) (fun _ _ _ _ _ x=>x)
theorem Shp.alloc {w:World} {lb mb N:Nat} {T:List M.Ty} {D:Dt} (h:Shp w lb mb N T D) (o:Obj):Shp (w.alloc o) lb mb N T D:=h.still (Chg.alloc _ _ _)
theorem Shp.memo {w w':World} {lb mb N:Nat} {T:List M.Ty} {D D':Dt} (h:Shp w lb mb N T D) (hc:Chg (fun k=>k=mb) w w') (hm:Mst w' mb N T D'):Shp w' lb mb N T D':=
 h.chg hc hm (fun k cur e hk _ x=>by have x':k=mb:=x;subst x';exact h.mst.tag _ _ _ hk)
theorem Shp.few {w:World} {lb mb N:Nat} {T:List M.Ty} {D:Dt} (h:Shp w lb mb N T D):T.length<=4000:=Nat.le_trans h.mst.len h.mst.few
theorem Shp.cell {w:World} {lb mb N:Nat} {T:List M.Ty} {D:Dt} (h:Shp w lb mb N T D):∃ad c,w.cell? (aD lb 0)=some (.slice ad T.length c)/\w.cell? (aD lb 1)=some (.map (some mb))/\lb<w.heap.size/\(∀o,w.frozen? (aD lb o)=false)/\
 ∀i (hi:i<T.length),∃g fa fc la lc,ad=some (aD g 0)/\g<w.heap.size/\T.length<=c/\c<=maxLen/\w.cell? (aD g (i * 4))=some (.int .i64 T[i].kind)/\w.cell? (aD g (i * 4+1))=some (.slice fa T[i].fields.length fc)/\w.cell? (aD g (i * 4+2))=some (.slice la T[i].list.length lc)/\
  w.cell? (aD g (i * 4+3))=some (.int .i64 T[i].of')/\w.ownsRow 0 126 2 (.slice fa T[i].fields.length fc) T[i].fields.length (F6 T[i].fields)/\w.ownsRow 0 3 1 (.slice la T[i].list.length lc) T[i].list.length (C7 T[i].list):=by
 obtain⟨h1,_,yv,yx,hb,hy,hr⟩:=h;obtain⟨ad,c,rfl⟩:=B6 hy;have hlt:=(ltG hb);refine⟨ad,c,cr hb rfl,cr hb rfl,hlt,fun o=>frozen_of_row w lb o _ _ hb,fun i hi=> ?_⟩;obtain⟨g,rfl,_,hg,hc1,hc2,hcell⟩:=E7 hy (by omega);obtain⟨xs,ht,hx⟩:=Rws.at (z:=4) (fun _ _ h=>h.len) i hi hr;obtain⟨fv,lv,rfl,ho1,ho2,_⟩:=ht;obtain⟨fa,fc,rfl⟩:=B6 ho1;obtain⟨la,lc,rfl⟩:=B6 ho2;refine⟨g,fa,fc,la,lc,rfl,hg,hc1,hc2,hcell _ _ ?_,hcell _ _ ?_,hcell _ _ ?_,hcell _ _ ?_,ho1,ho2⟩
 · have:=hx 0 (by omega);simpa using this
 · have:=hx 1 (by omega);simpa using this
 · have:=hx 2 (by omega);simpa using this
 · have:=hx 3 (by omega);simpa using this
def H7a (w:World) (mb N:Nat) (T:List M.Ty) (D:Dt) (m:Nat) (r:Bool) (e:Ending) (w':World):Prop:=
 e= .returned (.bool r)/\Chg (fun k=>k=mb) w w'/\∃D',Mst w' mb N T D'/\∀p q,p<N->q<N->m<p+q->at2 D' p q=at2 D p q
open Go.RowKit Go.Maps
theorem N5b {T:List M.Ty} {i:Nat} (hT:M.TsOk T) (hi:i<T.length) (h:T[i].kind≠10):M.Z7 (M.tr T i)=M.O1a T[i].kind:=by
 rw[M.S6 hT hi,M.Z7,if_neg h]
theorem F8c {T:List M.Ty} {i:Nat} (hT:M.TsOk T) (hi:i<T.length) (h:T[i].kind=10):M.Z7 (M.tr T i)=M.U0 (T[i].list.map fun x=>M.tr T x.toNat):=by
 have ht:=hT i hi;have hf:T[i].fields=[]:=by
  rcases ht with ht|ht|ht|ht|ht
  · omega
  · omega
  · omega
  · omega
  · exact ht.2.1
 rw[M.S6 hT hi,M.Z7,if_pos h,hf,if_neg (by omega)];simp
theorem R9a:∀(l:List M.Tr) (t:M.Tr),M.U0 (l++[t])=M.U0 l|||M.Z7 t
 |[],t=>by simp[M.U0]
 |a::l,t=>by rw[List.cons_append,M.U0,M.U0,R9a l t,Nat.or_assoc]
theorem Y9c (a b:Nat) (ha:a<128) (hb:b<128):bits BinOp.or IntKind.i64 (a:Int) (b:Int)=((a|||b:Nat):Int):=by
 have h:=Nat.or_lt_two_pow (n:=7) ha hb;have e:(BitVec.ofNat IntKind.i64.bits a|||BitVec.ofNat IntKind.i64.bits b).toNat=a|||b:=by
  rw[BitVec.toNat_or,BitVec.toNat_ofNat,BitVec.toNat_ofNat,Nat.mod_eq_of_lt (by simp[IntKind.bits];omega),Nat.mod_eq_of_lt (by simp[IntKind.bits];omega)]
 simp only[bits,BitVec.ofInt_natCast,e];simp[IntKind.wrap,IntKind.bits,IntKind.signed];omega
theorem G0c {lb mb N:Nat} {T:List M.Ty} {D:Dt}:∀(i:Nat) (w:World),i<T.length->Shp w lb mb N T D->
 Calls Tryz.prog 39 #[pV lb,iV (i:Int)] w fun e w'=>e= .returned (iV (M.Z7 (M.tr T i):Int))/\Chg No w w':=by
 intro i;induction i using Nat.strongRecOn with
 |ind i ih=>
  intro w hi h;have hT:=h.ok;have hfew:=h.few;obtain⟨ad,c,c0,c1,hlt,fz,hcell⟩:=h.cell;obtain⟨g,fa,fc,la,lc,rfl,hg,hc1,hc2,x0,x1,x2,x3,of1,ol1⟩:=hcell i hi;have HP:=A0 (N5b hT hi);have HU:=A0 (F8c hT hi);have HL:=A0 (hT i hi).lst;have HS:=A0 h;have HO:=A0 ol1;clear hcell h of1 ol1;unfold maxLen at hc2;generalize T[i].kind=k at *;generalize T[i].of'=o at *;generalize hls:T[i].list=ls at *;by_cases h10:k=10
  · subst h10;have hu:=HU.out rfl;rw[hu];clear hu HP HU;have hw0:Hid (∀j (hj:j<ls.length),∃g2,la=some (aD g2 0)/\g2<w.heap.size/\ls.length<=lc/\lc<=maxLen/\w.cell? (aD g2 j)=some (iV ls[j])):=by
     intro j hj;obtain⟨g2,h1,_,h2,h3,h4,h5⟩:=E7 HO.out (by omega);exact⟨g2,h1,h2,h3,h4,h5 j _ (by simp[C7,hj])⟩
    clear HO;go_enter Tryz.func39,Tryz.ntmps39;go_wp2;go_loopw [37,6] (fun v u wr=>∃j:Nat,j<=ls.length/\v=iV (j:Int)/\u=iV (M.U0 ((ls.take j).map fun x=>M.tr T x.toNat):Int)/\Hid (Chg No w wr)) (fun v _ _=>ls.length - (intOf v).toNat)
    case atStart=>exact⟨0,Nat.zero_le _,rfl,by simp[M.U0],Chg.alloc _ _ _⟩
    case round=>
     obtain⟨j,hj,rfl,rfl,KR⟩:=hrel;by_cases hjl:j<ls.length
     · obtain⟨g2,rfl,hg2,hl1,hl2,y0⟩:=hw0.out j hjl;have y1:wr.cell? (aD g2 j)=some (iV ls[j]):=by rw[World.cell?_of_block (KR.out.block g2 hg2 (fun x=>x))];exact y0
       have hg3:g2<wr.heap.size:=Nat.lt_of_lt_of_le hg2 KR.out.size;have hx:=HL.out ls[j] (List.getElem_mem hjl);obtain⟨z,hz⟩:∃z:Nat,ls[j]=(z:Int):=⟨ls[j].toNat,by omega⟩;have HT:Hid (M.U0 ((ls.take (j+1)).map fun x=>M.tr T x.toNat)=M.U0 ((ls.take j).map fun x=>M.tr T x.toNat)|||M.Z7 (M.tr T z)):=by
        show _=_;rw[List.take_succ_eq_append_getElem hjl,List.map_append,List.map_singleton,R9a,hz];simp
       rw[hz]at y1 hx;have HC:=ih z (by omega) wr (by omega) (HS.out.still KR.out);unfold maxLen at hl2;clear y0 hz hx;have H1:=A0 (M.S0a ((ls.take j).map fun x=>M.tr T x.toNat));have H2:=A0 (M.Q2a (M.tr T z));generalize M.U0 ((ls.take j).map fun x=>M.tr T x.toNat)=t1 at *;generalize M.Z7 (M.tr T z)=t2 at *;go_wp2_with fail
       refine HC.mono ?_;clear HC;rintro e w2 ⟨rfl,hc⟩;go_wp2;go_roundw
       case rel=>exact⟨j+1,by omega,by go_num,by rw[HT.out,Y9c _ _ H1.out H2.out],KR.out.trans hc (fun _ _ x=>x)⟩
       case measure=>simp[intOf];omega
     · have hje:j=ls.length:=by omega
       subst hje;rw[List.take_length]at *;go_wp2;go_ret;exact⟨rfl,KR.out⟩
  · have hp:=HP.out h10;rw[hp];clear hp HP HU HL HO;go_enter Tryz.func39,Tryz.ntmps39;go_wp2;all_goals go_ret
    all_goals exact⟨J0 (by simp_all [M.O1a]),Chg.alloc _ _ _⟩
open Go.RowKit Go.Maps
def J7a (lb mb N:Nat) (T:List M.Ty) (m:Nat):Prop:=∀(a b:Nat) (w:World) (D:Dt),a+b+1<=m->a<T.length->b<T.length->Shp w lb mb N T D->
 Calls Tryz.prog 97 #[pV lb,iV (a:Int),iV (b:Int)] w (H7a w mb N T D (a+b) (M.F1 (M.tr T a) (M.tr T b)))
structure Box (w:World) (q:Nat) (v:Value) (e:TypeId):Prop where
 at':w.heap[q]? =some (.cells #[v] e (0,0))
theorem Box.cell {w:World} {q:Nat} {v:Value} {e:TypeId} (h:Box w q v e):w.cell? (aD q 0)=some v:=cr h.at' rfl
theorem Box.lt {w:World} {q:Nat} {v:Value} {e:TypeId} (h:Box w q v e):q<w.heap.size:=(ltG h.at')
theorem Box.memo {w w':World} {q mb N:Nat} {T:List M.Ty} {D:Dt} {v:Value} {e:TypeId} (h:Box w q v e) (hm:Mst w mb N T D) (hc:Chg (fun k=>k=mb) w w'):Box w' q v e:=
 ⟨by rw[hc.block q h.lt (fun x=>by have x':q=mb:=x;subst x';exact hm.tag _ _ _ h.at')];exact h.at'⟩
theorem Box.still {w w':World} {q:Nat} {v:Value} {e:TypeId} (h:Box w q v e) (hc:Chg No w w'):Box w' q v e:=⟨by rw[hc.block q h.lt (fun x=>x)];exact h.at'⟩
theorem X8b (w:World) (v:Value) (e:TypeId):Box (w.alloc (.cells #[v] e)) w.heap.size v e:=⟨heap_alloc_new w _⟩
theorem Box.alloc {w:World} {q:Nat} {v:Value} {e:TypeId} (h:Box w q v e) (o:Obj):Box (w.alloc o) q v e:=h.still (Chg.alloc _ _ _)
theorem D7 {w:World} {la:Option Addr} {lc:Nat} {ls:List Int} (h:w.ownsRow 0 3 1 (.slice la ls.length lc) ls.length (C7 ls)) {j:Nat} (hj:j<ls.length):∃g,la=some (aD g 0)/\g<w.heap.size/\ls.length<=lc/\lc<=maxLen/\w.cell? (aD g j)=some (iV ls[j]):=by
 obtain⟨g2,h1,_,h2,h3,h4,h5⟩:=E7 h (by omega);exact⟨g2,h1,h2,h3,h4,h5 j _ (by simp[C7,hj])⟩
theorem T5 {w w':World} {base size n mb N:Nat} {T:List M.Ty} {D:Dt} {e:TypeId} {v:Value} {xs:List Value} (h:w.ownsRow base e size v n xs) (hm:Mst w mb N T D) (hc:Chg (fun k=>k=mb) w w'):w'.ownsRow base e size v n xs:=
 A8 h hc fun g hg x=>by
  have x':g=mb:=x;subst x';obtain⟨_,cur,hh⟩:=A9 h g hg;exact hm.tag _ _ _ hh
section
variable {lb mb N:Nat} {T:List M.Ty}
theorem C8c (m:Nat) (IH:J7a lb mb N T m) (w:World) (D:Dt) (h:Shp w lb mb N T D) (k b ql qb:Nat) (hk:k<T.length) (hb:b<T.length) (hm:k+b+1<=m) (hl:Box w ql (pV lb) 47) (hq:Box w qb (iV (b:Int)) 3):
 Calls Tryz.prog 128 #[iV (k:Int),pV ql,pV qb] w (H7a w mb N T D (k+b) (!M.F1 (M.tr T k) (M.tr T b))):=by
 have H:=IH k b w D hm hk hb h;have c1:=hl.cell;have c2:=hq.cell;clear h hl hq;generalize M.F1 (M.tr T k) (M.tr T b)=r at *;go_enter Tryz.func128,Tryz.ntmps128;go_wp2_with fail
 refine H.mono ?_;clear H;rintro e w1 ⟨rfl,hc,hd⟩;go_wp2;go_ret;exact⟨rfl,hc,hd⟩
theorem C7c (m:Nat) (IH:J7a lb mb N T m) (w:World) (D:Dt) (h:Shp w lb mb N T D) (k a ql qa:Nat) (hk:k<T.length) (ha:a<T.length) (hm:a+k+1<=m) (hl:Box w ql (pV lb) 47) (hq:Box w qa (iV (a:Int)) 3):
 Calls Tryz.prog 129 #[iV (k:Int),pV ql,pV qa] w (H7a w mb N T D (a+k) (M.F1 (M.tr T a) (M.tr T k))):=by
 have H:=IH a k w D hm ha hk h;have c1:=hl.cell;have c2:=hq.cell;clear h hl hq;generalize M.F1 (M.tr T a) (M.tr T k)=r at *;go_enter Tryz.func129,Tryz.ntmps129;go_wp2_with fail
 refine H.mono ?_;clear H;rintro e w1 ⟨rfl,hc,hd⟩;go_wp2;go_ret;exact⟨rfl,hc,hd⟩
end
open Go.RowKit Go.Maps
structure Mid (w:World) (mb N:Nat) (T:List M.Ty) (D:Dt) (m:Nat) (w':World):Prop where
 chg:Chg (fun k=>k=mb) w w'
 memo:∃D',Mst w' mb N T D'/\∀p q,p<N->q<N->m<=p+q->at2 D' p q=at2 D p q
theorem Mid.refl {w:World} {lb mb N:Nat} {T:List M.Ty} {D:Dt} (h:Shp w lb mb N T D) (m:Nat):Mid w mb N T D m w:=⟨Chg.refl _ _,D,h.mst,fun _ _ _ _ _=>rfl⟩
theorem Mid.shp {w w':World} {lb mb N:Nat} {T:List M.Ty} {D:Dt} {m:Nat} (h:Mid w mb N T D m w') (hs:Shp w lb mb N T D):∃D',Shp w' lb mb N T D'/\∀p q,p<N->q<N->m<=p+q->at2 D' p q=at2 D p q:=by
 obtain⟨D',h1,h2⟩:=h.memo;exact⟨D',hs.memo h.chg h1,h2⟩
theorem Mid.after {w w1 w2:World} {mb N:Nat} {T:List M.Ty} {D D1:Dt} {m m1:Nat} {r:Bool} {e:Ending} (h:Mid w mb N T D m w1) (hd:∀p q,p<N->q<N->m<=p+q->at2 D1 p q=at2 D p q) (hm:m1+1<=m) (k:H7a w1 mb N T D1 m1 r e w2):Mid w mb N T D m w2:=by
 obtain⟨_,h3,D2,h4,h5⟩:=k;exact⟨h.chg.trans h3 (fun _ _ x=>x),D2,h4,fun p q hp hq hpq=>(h5 p q hp hq (by omega)).trans (hd p q hp hq hpq)⟩
theorem Mid.alloc {w w1:World} {mb N:Nat} {T:List M.Ty} {D:Dt} {m:Nat} (h:Mid w mb N T D m w1) (o:Obj):Mid w mb N T D m (w1.alloc o):=by
 obtain⟨D',h1,h2⟩:=h.memo;exact⟨h.chg.trans (Chg.alloc No _ _) (fun _ _ x=>x.elim),D',h1.chg (Chg.alloc No _ _) (fun x=>x),h2⟩
theorem C4a {α:Type} {p:α->Bool} {l:List α} {j:Nat} (hj:j<l.length):(l.take (j+1)).any p=((l.take j).any p||p l[j]):=by
 rw[List.take_succ_eq_append_getElem hj,List.any_append];simp
section
variable {lb mb N:Nat} {T:List M.Ty}
theorem R2b (m:Nat) (IH:J7a lb mb N T m) (w:World) (D:Dt) (h:Shp w lb mb N T D) (la:Option Addr) (lc:Nat) (ls:List Int) (ho:w.ownsRow 0 3 1 (.slice la ls.length lc) ls.length (C7 ls)) (b ql qb:Nat) (hb:b<T.length) (hin:∀x∈ls,0<=x/\x<T.length/\x+b+1<=m)
 (hl:Box w ql (pV lb) 47) (hq:Box w qb (iV (b:Int)) 3):
 Calls Tryz.prog 147 #[.slice la ls.length lc,.func (.func 128) #[] #[pV ql,pV qb]] w fun e w'=>
  (∃r:Int,e= .returned (iV r)/\decide (0<=r)=ls.any fun x=> !M.F1 (M.tr T x.toNat) (M.tr T b))/\Mid w mb N T D m w':=by
 have HS:=A0 h;have HO:=A0 ho;have HQ1:=A0 hl;have HQ2:=A0 hq;have HI:=A0 hin;clear h ho hl hq hin;go_enter Tryz.func147,Tryz.ntmps147;go_wp2;go_loopw [8] (fun v wr=>∃j:Nat,j<=ls.length/\v=iV (j:Int)/\Hid ((ls.take j).any (fun x=> !M.F1 (M.tr T x.toNat) (M.tr T b))=false)/\Hid (Mid w mb N T D m wr)) (fun v _=>ls.length - (intOf v).toNat)
 case atStart=>exact⟨0,Nat.zero_le _,rfl,by simp[Hid],Mid.refl HS.out m⟩
 case round=>
  obtain⟨j,hj,rfl,HA,KR⟩:=hrel;by_cases hjl:j<ls.length
  · obtain⟨g,rfl,hg,hl1,hl2,y0⟩:=D7 (T5 HO.out HS.out.mst KR.out.chg) hjl;have hx:=HI.out ls[j] (List.getElem_mem hjl);obtain⟨z,hz⟩:∃z:Nat,ls[j]=(z:Int):=⟨ls[j].toNat,by omega⟩;have HT:=A0 (C4a (p:=fun x:Int=> !M.F1 (M.tr T x.toNat) (M.tr T b)) hjl);have HM:=A0 (List.getElem_mem hjl);simp only[hz,Int.toNat_natCast]at HT HM;rw[hz]at y0 hx;obtain⟨D1,hs1,hd1⟩:=KR.out.shp HS.out;have HC:=C8c m IH wr D1 hs1 z b ql qb (by omega) hb (by omega) (HQ1.out.memo HS.out.mst KR.out.chg) (HQ2.out.memo HS.out.mst KR.out.chg);have HD:=A0 hd1;unfold maxLen at hl2;have HX:=A0 (show z+b+1<=m by omega);clear hz hx hs1 hd1;have HR:Hid (∀r,r=(!M.F1 (M.tr T z) (M.tr T b))->(∃x∈ls,(!M.F1 (M.tr T x.toNat) (M.tr T b))=true)\/r=false):=by
     intro r hr;cases r
     · exact .inr rfl
     · exact .inl ⟨_,HM.out,by simpa using hr.symm⟩
    generalize hr:(!M.F1 (M.tr T z) (M.tr T b))=r at HT HC;have HR2:=A0 (HR.out r hr.symm);clear hr HR;cases r
    · go_wp2_with fail
      refine HC.mono ?_;clear HC;rintro e w2 hf;have K2:=A0 (KR.out.after HD.out (by have:=HX.out;omega) hf);obtain⟨rfl,-,-⟩:=hf;go_wp2;go_roundw
      case rel=>exact⟨j+1,by omega,by go_num,by show _=_;rw[HT.out,HA.out];rfl,K2.out⟩
      case measure=>simp[intOf];omega
    · go_wp2_with fail
      refine HC.mono ?_;clear HC;rintro e w2 hf;have K2:=A0 (KR.out.after HD.out (by have:=HX.out;omega) hf);obtain⟨rfl,-,-⟩:=hf;go_wp2;go_ret;refine⟨⟨_,rfl, ?_⟩,K2.out⟩;rcases HR2.out with ⟨x,hx1,hx2⟩|h0
      · rw[List.any_eq_true.2 ⟨x,hx1,hx2⟩];simp
      · cases h0
  · have hje:j=ls.length:=by omega
    subst hje;rw[List.take_length]at HA;go_wp2;go_ret;exact⟨⟨_,rfl,by rw[HA.out];simp⟩,KR.out⟩
theorem Y0a (m:Nat) (IH:J7a lb mb N T m) (w:World) (D:Dt) (h:Shp w lb mb N T D) (la:Option Addr) (lc:Nat) (ls:List Int) (ho:w.ownsRow 0 3 1 (.slice la ls.length lc) ls.length (C7 ls)) (b ql qb:Nat) (hb:b<T.length) (hin:∀x∈ls,0<=x/\x<T.length/\x+b+1<=m)
 (hl:Box w ql (pV lb) 47) (hq:Box w qb (iV (b:Int)) 3):
 Calls Tryz.prog 127 #[.slice la ls.length lc,.func (.func 128) #[] #[pV ql,pV qb]] w fun e w'=>
  e= .returned (.bool (ls.any fun x=> !M.F1 (M.tr T x.toNat) (M.tr T b)))/\Mid w mb N T D m w':=by
 have H:=R2b m IH w D h la lc ls ho b ql qb hb hin hl hq;clear h ho hl hq hin;generalize (ls.any fun x=> !M.F1 (M.tr T x.toNat) (M.tr T b))=r at *;go_enter Tryz.func127,Tryz.ntmps127;go_wp2_with fail
 refine H.mono ?_;clear H;rintro e w1 ⟨⟨k,rfl,hk⟩,hm⟩;go_wp2;all_goals go_ret
 all_goals exact⟨F2 (by simp_all),hm⟩
theorem R1b (m:Nat) (IH:J7a lb mb N T m) (w:World) (D:Dt) (h:Shp w lb mb N T D) (la:Option Addr) (lc:Nat) (ls:List Int) (ho:w.ownsRow 0 3 1 (.slice la ls.length lc) ls.length (C7 ls)) (b ql qb:Nat) (hb:b<T.length) (hin:∀x∈ls,0<=x/\x<T.length/\x+b+1<=m)
 (hl:Box w ql (pV lb) 47) (hq:Box w qb (iV (b:Int)) 3):
 Calls Tryz.prog 147 #[.slice la ls.length lc,.func (.func 129) #[] #[pV ql,pV qb]] w fun e w'=>
  (∃r:Int,e= .returned (iV r)/\decide (0<=r)=ls.any fun x=>M.F1 (M.tr T b) (M.tr T x.toNat))/\Mid w mb N T D m w':=by
 have HS:=A0 h;have HO:=A0 ho;have HQ1:=A0 hl;have HQ2:=A0 hq;have HI:=A0 hin;clear h ho hl hq hin;go_enter Tryz.func147,Tryz.ntmps147;go_wp2;go_loopw [8] (fun v wr=>∃j:Nat,j<=ls.length/\v=iV (j:Int)/\Hid ((ls.take j).any (fun x=>M.F1 (M.tr T b) (M.tr T x.toNat))=false)/\Hid (Mid w mb N T D m wr)) (fun v _=>ls.length - (intOf v).toNat)
 case atStart=>exact⟨0,Nat.zero_le _,rfl,by simp[Hid],Mid.refl HS.out m⟩
 case round=>
  obtain⟨j,hj,rfl,HA,KR⟩:=hrel;by_cases hjl:j<ls.length
  · obtain⟨g,rfl,hg,hl1,hl2,y0⟩:=D7 (T5 HO.out HS.out.mst KR.out.chg) hjl;have hx:=HI.out ls[j] (List.getElem_mem hjl);obtain⟨z,hz⟩:∃z:Nat,ls[j]=(z:Int):=⟨ls[j].toNat,by omega⟩;have HT:=A0 (C4a (p:=fun x:Int=>M.F1 (M.tr T b) (M.tr T x.toNat)) hjl);have HM:=A0 (List.getElem_mem hjl);simp only[hz,Int.toNat_natCast]at HT HM;rw[hz]at y0 hx;obtain⟨D1,hs1,hd1⟩:=KR.out.shp HS.out;have HC:=C7c m IH wr D1 hs1 z b ql qb (by omega) hb (by omega) (HQ1.out.memo HS.out.mst KR.out.chg) (HQ2.out.memo HS.out.mst KR.out.chg);have HD:=A0 hd1;unfold maxLen at hl2;have HX:=A0 (show z+b+1<=m by omega);clear hz hx hs1 hd1;have HR:Hid (∀r,r=(M.F1 (M.tr T b) (M.tr T z))->(∃x∈ls,(M.F1 (M.tr T b) (M.tr T x.toNat))=true)\/r=false):=by
     intro r hr;cases r
     · exact .inr rfl
     · exact .inl ⟨_,HM.out,by simpa using hr.symm⟩
    generalize hr:(M.F1 (M.tr T b) (M.tr T z))=r at HT HC;have HR2:=A0 (HR.out r hr.symm);clear hr HR;cases r
    · go_wp2_with fail
      refine HC.mono ?_;clear HC;rintro e w2 hf;have K2:=A0 (KR.out.after HD.out (by have:=HX.out;omega) hf);obtain⟨rfl,-,-⟩:=hf;go_wp2;go_roundw
      case rel=>exact⟨j+1,by omega,by go_num,by show _=_;rw[HT.out,HA.out];rfl,K2.out⟩
      case measure=>simp[intOf];omega
    · go_wp2_with fail
      refine HC.mono ?_;clear HC;rintro e w2 hf;have K2:=A0 (KR.out.after HD.out (by have:=HX.out;omega) hf);obtain⟨rfl,-,-⟩:=hf;go_wp2;go_ret;refine⟨⟨_,rfl, ?_⟩,K2.out⟩;rcases HR2.out with ⟨x,hx1,hx2⟩|h0
      · rw[List.any_eq_true.2 ⟨x,hx1,hx2⟩];simp
      · cases h0
  · have hje:j=ls.length:=by omega
    subst hje;rw[List.take_length]at HA;go_wp2;go_ret;exact⟨⟨_,rfl,by rw[HA.out];simp⟩,KR.out⟩
theorem X9a (m:Nat) (IH:J7a lb mb N T m) (w:World) (D:Dt) (h:Shp w lb mb N T D) (la:Option Addr) (lc:Nat) (ls:List Int) (ho:w.ownsRow 0 3 1 (.slice la ls.length lc) ls.length (C7 ls)) (b ql qb:Nat) (hb:b<T.length) (hin:∀x∈ls,0<=x/\x<T.length/\x+b+1<=m)
 (hl:Box w ql (pV lb) 47) (hq:Box w qb (iV (b:Int)) 3):
 Calls Tryz.prog 127 #[.slice la ls.length lc,.func (.func 129) #[] #[pV ql,pV qb]] w fun e w'=>
  e= .returned (.bool (ls.any fun x=>M.F1 (M.tr T b) (M.tr T x.toNat)))/\Mid w mb N T D m w':=by
 have H:=R1b m IH w D h la lc ls ho b ql qb hb hin hl hq;clear h ho hl hq hin;generalize (ls.any fun x=>M.F1 (M.tr T b) (M.tr T x.toNat))=r at *;go_enter Tryz.func127,Tryz.ntmps127;go_wp2_with fail
 refine H.mono ?_;clear H;rintro e w1 ⟨⟨k,rfl,hk⟩,hm⟩;go_wp2;all_goals go_ret
 all_goals exact⟨F2 (by simp_all),hm⟩
end
open Go.RowKit Go.Maps
theorem U1a:∀(L:List (List UInt8×Int)) (k:Nat) (h:k<L.length) (j:Nat),j<2->(F6 L)[2 * k+j]? =(J4 L[k])[j]?
 |[],k,h,_,_=>by simp at h
 |t::r,0,_,j,hj=>by
  simp only[F6,List.flatMap_cons,Nat.mul_zero,Nat.zero_add,List.getElem_cons_zero];rw[List.getElem?_append_left (by simp[J4];omega)]
 |t::r,k+1,h,j,hj=>by
  simp only[F6,List.flatMap_cons,List.getElem_cons_succ];rw[List.getElem?_append_right (by simp[J4];omega)];have:=U1a r k (by simpa using h) j hj;rw[<-this];simp only[J4,List.length_cons,List.length_nil,F6];congr 1
  omega
theorem R9 {w:World} {fa:Option Addr} {fc:Nat} {fs:List (List UInt8×Int)} (h:w.ownsRow 0 126 2 (.slice fa fs.length fc) fs.length (F6 fs)) {j:Nat} (hj:j<fs.length):∃g,fa=some (aD g 0)/\g<w.heap.size/\fs.length<=fc/\fc<=maxLen/\
 w.cell? (aD g (j * 2))=some (.string ⟨fs[j].1.toArray⟩)/\w.cell? (aD g (j * 2+1))=some (iV fs[j].2):=by
 obtain⟨g2,h1,_,h2,h3,h4,h5⟩:=E7 h (by omega);refine⟨g2,h1,h2,h3,h4, ?_, ?_⟩
 · have:=U1a fs j hj 0 (by omega);rw[Nat.mul_comm];exact h5 _ _ this
 · have:=U1a fs j hj 1 (by omega);rw[Nat.mul_comm];exact h5 _ _ this
section
variable {lb mb N:Nat} {T:List M.Ty}
theorem Z5b (w:World) (nm nm':List UInt8) (x:Int) (qw:Nat) (hq:w.cell? (aD qw 0)=some (.string ⟨nm.toArray⟩)):
 Calls Tryz.prog 150 #[.agg #[.string ⟨nm'.toArray⟩,iV x],pV qw] w fun e w'=>e= .returned (.bool (nm'==nm))/\Chg No w w':=by
 have hlt:=World.block_lt_of_cell? w _ hq;by_cases h:nm'=nm
 · subst h;go_enter Tryz.func150,Tryz.ntmps150;go_wp2;go_ret;exact⟨F2 (by simp),Chg.alloc _ _ _⟩
 · go_enter Tryz.func150,Tryz.ntmps150;go_wp2;go_ret;exact⟨F2 (by simp),Chg.alloc _ _ _⟩
def Idx (fs:List (List UInt8×Int)) (nm:List UInt8) (r:Int):Prop:=(∃k:Nat,∃hk:k<fs.length,r=k/\fs[k].1=nm/\∀i (hi:i<fs.length),i<k->fs[i].1≠nm)\/(r= -1/\∀p∈fs,p.1≠nm)
theorem D9a {nm:List UInt8} {f:List UInt8×Int->M.Tr}:∀{fs:List (List UInt8×Int)},(∀p∈fs,p.1≠nm)->M.I0 nm (fs.map (·.1)) (fs.map f)=none
 |[],_=>rfl
 |p::fs,h=>by
  rw[List.map_cons,List.map_cons,M.I0,if_neg (h p (by simp))];exact D9a fun q hq=>h q (by simp[hq])
theorem J4a {nm:List UInt8} {f:List UInt8×Int->M.Tr}:∀{fs:List (List UInt8×Int)} {k:Nat} (hk:k<fs.length),fs[k].1=nm->(∀i (hi:i<fs.length),i<k->fs[i].1≠nm)->M.I0 nm (fs.map (·.1)) (fs.map f)=some (f fs[k])
 |[],_,hk,_,_=>by simp at hk
 |p::fs,0,_,h1,_=>by
  have h1:p.1=nm:=h1;rw[List.map_cons,List.map_cons,M.I0,if_pos h1];rfl
 |p::fs,k+1,hk,h1,h2=>by
  have h0:p.1≠nm:=h2 0 (by simp) (by omega);rw[List.map_cons,List.map_cons,M.I0,if_neg h0];exact J4a (by simpa using hk) h1 (fun i hi hik=>h2 (i+1) (by simpa using hi) (by omega))
theorem O1c (w:World) (fa:Option Addr) (fc:Nat) (fs:List (List UInt8×Int)) (ho:w.ownsRow 0 126 2 (.slice fa fs.length fc) fs.length (F6 fs)) (nm:List UInt8) (qw:Nat) (hq:w.cell? (aD qw 0)=some (.string ⟨nm.toArray⟩)):
 Calls Tryz.prog 67 #[.slice fa fs.length fc,.func (.func 150) #[] #[pV qw]] w fun e w'=>
  (∃r:Int,e= .returned (iV r)/\Idx fs nm r)/\Chg No w w':=by
 have HO:=A0 ho;have hlt:=World.block_lt_of_cell? w _ hq;have HQ:=A0 hq;clear ho hq;go_enter Tryz.func67,Tryz.ntmps67;go_wp2;go_loopw [8] (fun v wr=>∃j:Nat,j<=fs.length/\v=iV (j:Int)/\Hid (∀i (hi:i<fs.length),i<j->fs[i].1≠nm)/\Hid (Chg No w wr)) (fun v _=>fs.length - (intOf v).toNat)
 case atStart=>exact⟨0,Nat.zero_le _,rfl,fun _ _ h=>by omega,Chg.refl _ _⟩
 case round=>
  obtain⟨j,hj,rfl,HA,KR⟩:=hrel;by_cases hjl:j<fs.length
  · obtain⟨g,rfl,hg,hl1,hl2,y0,y1⟩:=R9 (A8 HO.out KR.out (fun _ _ x=>x)) hjl;have HC:=Z5b wr nm fs[j].1 fs[j].2 qw (by rw[World.cell?_of_block (KR.out.block qw hlt (fun x=>x))];exact HQ.out);have HE:Hid (∀r,r=(fs[j].1==nm)->(r=true->fs[j].1=nm)/\(r=false->fs[j].1≠nm)):=by
     rintro r rfl;exact⟨fun h=>by simpa using h,fun h=>by simpa using h⟩
    unfold maxLen at hl2;generalize hr:(fs[j].1==nm)=r at HC;have HR:=A0 (HE.out r hr.symm);clear hr HE;generalize fs[j].2=fv at *;generalize hx:(⟨fs[j].1.toArray⟩:ByteArray)=bx at *;clear hx;cases r
    · go_wp2_with fail
      refine HC.mono ?_;clear HC;rintro e w2 ⟨rfl,hc⟩;have K2:=A0 (KR.out.trans hc (fun _ _ x=>x));clear hc;go_wp2;go_roundw
      case rel=>
       refine⟨j+1,by omega,by go_num,fun i hi hij=> ?_,K2.out⟩;by_cases he:i=j
       · subst he;exact HR.out.2 trivial
       · exact HA.out i hi (by omega)
      case measure=>simp[intOf];omega
    · go_wp2_with fail
      refine HC.mono ?_;clear HC;rintro e w2 ⟨rfl,hc⟩;have K2:=A0 (KR.out.trans hc (fun _ _ x=>x));clear hc;go_wp2;go_ret;exact⟨⟨_,rfl,.inl ⟨j,hjl,rfl,HR.out.1 trivial,HA.out⟩⟩,K2.out⟩
  · have hje:j=fs.length:=by omega
    subst hje;go_wp2;go_ret;refine⟨⟨_,rfl,.inr ⟨rfl,fun p hp=> ?_⟩⟩,KR.out⟩;obtain⟨i,hi,rfl⟩:=List.mem_iff_getElem.1 hp;exact HA.out i hi hi
def M5 (T:List M.Ty) (has:List (List UInt8×Int)) (p:List UInt8×Int):Bool:=match M.I0 p.1 (has.map (·.1)) (has.map fun q=>M.tr T q.2.toNat) with
 |none=>false
 |some x=>M.F1 x (M.tr T p.2.toNat)
theorem G9 {w a b:World} {D:Dt} {m q o:Nat} {v:Value} (hm:Mid w mb N T D m a) (hc:Chg (fun k=>k=mb) a b) (h:a.cell? (aD q o)=some v):b.cell? (aD q o)=some v:=by
 obtain⟨D',h1,_⟩:=hm.memo;have hne:q≠mb:=by
  intro x';subst x';obtain⟨n,⟨es,cl,h2,_⟩,_⟩:=h1.own;simp[World.cell?,h2]at h
 rw[World.cell?_of_block (hc.block q (World.block_lt_of_cell? a _ h) hne)];exact h
theorem Mid.drewN {w w1:World} {D:Dt} {m:Nat} (h:Mid w mb N T D m w1) (n:Nat):Mid w mb N T D m (w1.drewN n):=by
 obtain⟨D',h1,h2⟩:=h.memo;exact⟨h.chg.trans (Chg.drewN No _ n) (fun _ _ x=>x.elim),D',h1.chg (Chg.drewN No _ n) (fun x=>x),h2⟩
theorem F8a {m:Nat} (IH:J7a lb mb N T m) {w:World} {D:Dt} (hs:Shp w lb mb N T D) {a b:Nat} (hab:a+b+1<=m) (ha:a<T.length) (hb:b<T.length) (w1:World) (h:Mid w mb N T D m w1):
 Calls Tryz.prog 97 #[pV lb,iV (a:Int),iV (b:Int)] w1 fun e w'=>e= .returned (.bool (M.F1 (M.tr T a) (M.tr T b)))/\Chg (fun k=>k=mb) w1 w'/\Mid w mb N T D m w':=by
 obtain⟨D1,h1,h2⟩:=h.shp hs;refine(IH a b w1 D1 hab ha hb h1).mono ?_;rintro e w2 hf;exact⟨hf.1,hf.2.1,h.after h2 hab hf⟩
theorem L7d {w a b:World} {D:Dt} {m:Nat} {p1 p2 p3 p4:Nat×Nat} {v1 v2 v3 v4:Value} (hc:Chg (fun k=>k=mb) a b) (hm:Mid w mb N T D m b) (h:a.cell? (aD p1.1 p1.2)=some v1/\a.cell? (aD p2.1 p2.2)=some v2/\a.cell? (aD p3.1 p3.2)=some v3/\a.cell? (aD p4.1 p4.2)=some v4/\Hid (Mid w mb N T D m a)):b.cell? (aD p1.1 p1.2)=some v1/\b.cell? (aD p2.1 p2.2)=some v2/\b.cell? (aD p3.1 p3.2)=some v3/\b.cell? (aD p4.1 p4.2)=some v4/\Hid (Mid w mb N T D m b):=
 ⟨G9 h.2.2.2.2.out hc h.1,G9 h.2.2.2.2.out hc h.2.1,G9 h.2.2.2.2.out hc h.2.2.1,G9 h.2.2.2.2.out hc h.2.2.2.1,hm⟩
theorem J2c (m:Nat) (IH:J7a lb mb N T m) (w:World) (D:Dt) (h:Shp w lb mb N T D) (fa:Option Addr) (fc:Nat) (has:List (List UInt8×Int)) (ho:w.ownsRow 0 126 2 (.slice fa has.length fc) has.length (F6 has)) (nm:List UInt8) (y:Nat) (qh ql:Nat) (hy:y<T.length)
 (hin:∀p∈has,0<=p.2/\p.2<T.length/\p.2+y+1<=m) (hl:Box w ql (pV lb) 47) (hq:Box w qh (.slice fa has.length fc) 66):
 Calls Tryz.prog 149 #[.agg #[.string ⟨nm.toArray⟩,iV (y:Int)],pV qh,pV ql] w fun e w'=>e= .returned (.bool (!M5 T has (nm,(y:Int))))/\Mid w mb N T D m w':=by
 have h1:=h.alloc (.cells #[.string ⟨nm.toArray⟩,iV (y:Int)] 126);have HF:=O1c (w.alloc (.cells #[.string ⟨nm.toArray⟩,iV (y:Int)] 126)) fa fc has (ho.alloc _) nm w.heap.size (by rw[World.cell?_alloc_new];rfl);have HW:Hid (∀r,Idx has nm r->(r= -1/\(!M5 T has (nm,(y:Int)))=true)\/∃(k:Nat) (x:Nat) (hk:k<has.length),r=k/\has[k].2=x/\x<T.length/\x+y+1<=m/\(!M5 T has (nm,(y:Int)))= !M.F1 (M.tr T x) (M.tr T y)):=by
  intro r hr;rcases hr with ⟨k,hk,rfl,h1,h2⟩|⟨rfl,h1⟩
  · have hp:=hin _ (List.getElem_mem hk);refine .inr ⟨k,has[k].2.toNat,hk,rfl,by omega,by omega,by omega, ?_⟩;simp only[M5];rw[J4a hk h1 h2];simp
  · refine .inl ⟨rfl, ?_⟩;simp only[M5];rw[D9a h1];rfl
 have HS:=A0 h1;have HO:=A0 (ho.alloc (.cells #[.string ⟨nm.toArray⟩,iV (y:Int)] 126));have HQ1:=A0 (hl.alloc (.cells #[.string ⟨nm.toArray⟩,iV (y:Int)] 126));have HQ2:=A0 (hq.alloc (.cells #[.string ⟨nm.toArray⟩,iV (y:Int)] 126));have HM:=A0 (Mid.refl h m);have H0:=A0 h;have HB:=A0 (heap_alloc_new w (.cells #[.string ⟨nm.toArray⟩,iV (y:Int)] 126));have hql:=hl.lt;have hqh:=hq.lt;have cq:=hq.cell;clear h h1 ho hl hq hin;generalize (!M5 T has (nm,(y:Int)))=R at *;go_enter Tryz.func149,Tryz.ntmps149;go_wp2_with fail
 refine HF.mono ?_;clear HF;rintro e w1 ⟨⟨r,rfl,hi⟩,hc⟩;have S1:=A0 (HS.out.still hc);have O1:=A0 (A8 HO.out hc (fun _ _ x=>x));have Q1:=A0 (HQ1.out.still hc);have Q2:=A0 (HQ2.out.still hc);have c1:=Q1.out.cell;have c2:=Q2.out.cell;have B1:Hid (w1.heap[w.heap.size]? =some (.cells #[.string ⟨nm.toArray⟩,iV (y:Int)] 126 (0,0))):=(hc.block w.heap.size (by simp) (fun x=>x)).trans HB.out;have c3:w1.cell? (aD w.heap.size 1)=some (iV (y:Int)):=cr B1.out rfl;have M1:Hid (Mid w mb N T D m w1):=by
  obtain⟨D',h1,h2⟩:=(HM.out.alloc (.cells #[.string ⟨nm.toArray⟩,iV (y:Int)] 126)).memo;exact⟨((HM.out.alloc _).chg).trans hc (fun _ _ x=>x.elim),D',h1.chg hc (fun x=>x),h2⟩
 clear hc HS HO HQ1 HQ2 HM HB;rcases HW.out r hi with ⟨rfl,hR⟩|⟨k,x,hk,rfl,hx,hxl,hxm,hR⟩
 · clear hi HW;subst hR;go_wp2_with fail
   go_quiet (fail)
   go_wp2;go_ret;exact⟨F2 (by simp),M1.out.drewN _⟩
 · obtain⟨g,rfl,hg,hl1,hl2,-,y1⟩:=R9 O1.out hk;rw[hx]at y1;have FM:=fun a (ha:Mid w mb N T D m a)=>F8a IH H0.out hxm hxl hy a ha;unfold maxLen at hl2;have hk':(k:Int)<(has.length:Int):=by omega
   have hk1:decide ((k:Int)<0)=false:=by simp
   clear hi HW S1 O1 Q1 Q2 hx hxl hxm;generalize M.F1 (M.tr T x) (M.tr T y)=r at *;have HRR:=A0 hR;clear hR;go_wp2_with fail
   go_region_held3 (fun w'=>w'.cell? (aD qh 0)=some (.slice (some (aD g 0)) has.length fc)/\w'.cell? (aD ql 0)=some (pV lb)/\w'.cell? (aD g (k * 2+1))=some (iV (x:Int))/\w'.cell? (aD w.heap.size 1)=some (iV (y:Int))/\Hid (Mid w mb N T D m w'))
    (first
     |exact⟨c2,c1,y1,c3,M1.out.drewN 1⟩
     |exact L7d (p1:=(qh,0)) (p2:=(ql,0)) (p3:=(g,k * 2+1)) (p4:=(w.heap.size,1)) hcf hmf ⟨by assumption,by assumption,by assumption,by assumption,by assumption⟩
     |(go_split_ands;exact⟨by assumption,by assumption,by assumption,by assumption,by assumption⟩))
    (first
     |((go_at_call 97;go_split_ands;refine(FM _ (Hid.out (by assumption))).mono ?_;rintro e w' ⟨rfl,hcf,hmf⟩)))
   have M2:Hid (Mid w mb N T D m w'):=by assumption
   go_wp2;go_ret;exact⟨F2 (by rw[HRR.out]),M2.out⟩
end
end Go.Proofs.YtgdnpemiiageaaaGreatDoor
