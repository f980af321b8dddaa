/-
  A part of the proof.
-/
import Derived.Test.YtfhhipefecekkaaGreatDoorWriteA
import Derived.Test.YtfhhipefecekkaaGreatDoorCheckA
import Derived.Test.YtfhhipefecekkaaGreatDoorBindC
set_option maxHeartbeats 16000000
set_option maxRecDepth 100000
namespace Go.Proofs.YtfhhipefecekkaaGreatDoor
open Go.Proofs.Tryz
open Go.RowKit Go.Maps
def trx(T:List M.Ty)(x:Int):M.Tr:=M.tr T x.toNat
theorem A2b:∀l l':List M.Tr,M.I4 (l++l')=M.I4 l++M.I4 l'
 |[],_=>by simp[M.I4]
 |t::r,l'=>by rw[List.cons_append,M.I4,M.I4,A2b r l',List.append_assoc]
theorem C6c(t:M.Tr):M.I4 [t]=M.flat t:=by simp[M.I4]
theorem S1b(T:List M.Ty)(ls:List Int){j:Nat}(hj:j<ls.length):M.I4 ((ls.take (j+1)).map (trx T))=M.I4 ((ls.take j).map (trx T))++M.flat (trx T ls[j]):=by
 rw[nQ hj,List.map_append,A2b];simp[C6c]
theorem O9c{T:List M.Ty}{z:Nat}(hT:M.TsOk T)(hz:z<T.length)(hk:T[z].kind=10):M.flat (M.tr T z)=M.I4 (T[z].list.map (trx T)):=by
 rw[M.R9 hT hz,M.flat,if_pos hk,if_neg (by omega),G4a hT hz (.inr hk)];simp;rfl
theorem S2b{T:List M.Ty}{z:Nat}(hT:M.TsOk T)(hz:z<T.length)(hk:T[z].kind≠10):M.flat (M.tr T z)=[M.tr T z]:=by
 rw[M.R9 hT hz,M.flat,if_neg hk]
theorem U6b:∀l:List M.Tr,l.length * 5<=M.wgL l
 |[]=>by simp
 |t::r=>by have:=U6b r;simp only[jQ,M.wgL];omega
theorem F2c(T:List M.Ty)(ls:List Int)(j:Nat):M.wgL ((ls.take j).map (trx T))<=M.wgL (ls.map (trx T)):=by
 have e:ls.map (trx T)=(ls.take j).map (trx T)++(ls.drop j).map (trx T):=by rw[<-List.map_append,List.take_append_drop]
 rw[e,M.U7b];omega
theorem C4b{T:List M.Ty}{ls out:List Int}{j:Nat}(h:out.map (trx T)=M.I4 ((ls.take j).map (trx T))):out.length * 5<=M.wgL (ls.map (trx T)):=by
 have h1:=U6b (M.I4 ((ls.take j).map (trx T)));have h2:=M.J4a ((ls.take j).map (trx T)) (λx _=>M.U4b x);have h3:=F2c T ls j;have h4:=congrArg List.length h;rw[List.length_map]at h4;omega
theorem T8c{T:List M.Ty}{z:Nat}(hT:M.TsOk T)(hz:z<T.length)(hk:T[z].kind=10):M.wgL (T[z].list.map (trx T))<=M.wg (M.tr T z):=by
 have e:(T[z].list.map λx=>M.tr T x.toNat)=T[z].list.map (trx T):=rfl;rw[M.R9 hT hz,M.wg,if_neg (by omega),G4a hT hz (.inr hk),e];simp
theorem U2a{l:List M.Tr}(h0:l≠[])(h:∀t∈l,M.flat t≠[]):M.I4 l≠[]:=by
 cases l with
 |nil=>exact absurd rfl h0
 |cons t r=>
  rw[M.I4];intro e;exact h t (by simp) (List.append_eq_nil_iff.1 e).1
theorem X7b(t:M.Tr)(h:M.Wf t):M.flat t≠[]:=by
 induction h with
 |plain k h1 h2=>rw[M.flat,if_neg (by omega)];simp
 |obj ns ks a b c d _=>rw[M.flat,if_neg (by decide)];simp
 |arr t a _=>rw[M.flat,if_neg (by decide)];simp
 |fn t ps a b _ _=>rw[M.flat,if_neg (by decide)];simp
 |uni ks h2 h ih=>
  rw[M.flat,if_pos rfl];exact U2a (by rintro rfl;simp at h2) ih
def ApP(T:List M.Ty)(ls:List Int)(w:World)(e:Ending)(w':World):Prop:=∃(ad:Option Addr) (c:Nat) (out:List Int),e= .returned (.slice ad out.length c)/\Chg No w w'/\w'.ownsRow w.heap.size 3 1 (.slice ad out.length c) out.length (B8 out)/\(∀x∈out,0<=x/\x<T.length)/\out.map (trx T)=M.I4 (ls.map (trx T))
section
variable{lb mb N:Nat}{T:List M.Ty}{D:Dt}
def J4d(lb mb N:Nat)(T:List M.Ty)(D:Dt)(m:Nat):Prop:=∀(ls:List Int) (w:World) (la:Option Addr) (lc:Nat),(∀x∈ls,0<=x/\x<(m:Int)/\x<T.length)->Shp w lb mb N T D->w.ownsRow 0 3 1 (.slice la ls.length lc) ls.length (B8 ls)->ls.length<=100000000->M.wgL (ls.map (trx T))<=1000000000->
 Calls prog 145 #[pV lb,.slice la ls.length lc] w (ApP T ls w)
theorem T8b(hf:Few T){m:Nat}(IH:∀z,z<m->J4d lb mb N T D z):J4d lb mb N T D m:=by
 intro ls w la lc hls h hol hn hwg;have hT:=h.ok;obtain⟨i0,hi,hz0,hz1,hz2⟩:=info_parts Tryz.infoInt;have FS:Hid (∀a,Chg No w a->Shp a lb mb N T D):=λa ha=>h.still ha;have FO:Hid (∀a,Chg No w a->a.ownsRow 0 3 1 (.slice la ls.length lc) ls.length (B8 ls)):=λa ha=>A3 hol ha (λ_ _ x=>x);clear h hol;go_enter func145,ntmps145;go_wp2_with fail
 go_loopw [11,5] (λv u wr=>∃(j:Nat) (out:List Int) (ad:Option Addr) (ac:Nat),j<=ls.length/\v=iV (j:Int)/\u= .slice ad out.length ac/\Hid (Chg No w wr)/\Hid (wr.ownsRow w.heap.size 3 1 (.slice ad out.length ac) out.length (B8 out))/\Hid (∀x∈out,0<=x/\x<(T.length:Int))/\Hid (out.map (trx T)=M.I4 ((ls.take j).map (trx T)))) (λv _ _=>ls.length - (intOf v).toNat)
 case atStart=>exact⟨0,[],none,0,wQ _,rfl,rfl,Chg.refl _ _,kW _ _ _ _,(show∀x∈([]:List Int),_ from by simp),(show _=_ from by simp[M.I4])⟩
 case round=>
  obtain⟨j,out,ad,ac,hj,rfl,rfl,CR,OR,IR,ER⟩:=hrel;by_cases hjl:j<ls.length
  · have hxx:=hls ls[j] (mQ hjl);have HT1:=A0 (S1b T ls hjl);have hol2:=C4b ER.out;have hmem:=M.B1b (List.mem_map.2 ⟨ls[j],mQ hjl,rfl⟩:trx T ls[j]∈ls.map (trx T));obtain⟨g,hla,hg,hg1,hg2,y0⟩:=D5 (FO.out wr CR.out) hjl;subst hla;unfold maxLen at hg2;generalize ls[j]=xx at *;obtain⟨z,rfl⟩:∃z:Nat,xx=(z:Int):=⟨xx.toNat,by omega⟩;have hz:z<T.length:=by omega
    have htz:trx T (z:Int)=M.tr T z:=by simp[trx]
    rw[htz]at hmem HT1;obtain⟨ad3,c3,c0,-,hlb,-,hcell⟩:=(FS.out wr CR.out).cell;obtain⟨g3,fa,fc,la2,lc2,rfl,hg3,hc1,hc2,x0,x1,x2,x3,-,ol1⟩:=hcell z hz;unfold maxLen at hc2;clear hcell;have hfz:=hf z hz;have hlst:=(hT z hz).lst;have HU:=A0 (λhk=>O9c hT hz hk);have HO:=A0 (λhk=>S2b hT hz hk);have hwu:=λhk=>T8c hT hz hk;have hnl:T[z].kind=10->T[z].list≠[]:=by
     intro hk;rcases hT z hz with ht|ht|ht|ht|ht
     · omega
     · omega
     · omega
     · omega
     · rintro e;have:=ht.2.2.1;rw[e]at this;simp at this
    have hwf:=λx (hx:x∈T[z].list)=>M.X9a hT x.toNat (by have:=hlst x hx;omega);generalize T[z].kind=k at *;generalize T[z].fields=fs at *;generalize T[z].list=zs at *;generalize T[z].of'=o at *;have hca:Chg No w (wr.alloc (.cells #[iV k,.slice fa fs.length fc,.slice la2 zs.length lc2,iV o] 66)):=CR.out.trans (Chg.alloc _ _ _) (λ_ _ x=>x);have SZ:w.heap.size<=wr.heap.size:=CR.out.size;by_cases hk:k=10
    · subst hk;have HA:=A0 (IH z (by omega) zs _ la2 lc2 (λx hx=>by have:=hlst x hx;omega) (FS.out _ hca) (ol1.alloc _) hfz.1 (by have:=hwu rfl;omega));have HO1:=A0 (OR.out.alloc (.cells #[iV 10,.slice fa fs.length fc,.slice la2 zs.length lc2,iV o] 66));have HNE:Hid (M.I4 (zs.map (trx T))≠[]):=U2a (by simpa using hnl rfl) (λt ht=>by
       obtain⟨x,hx,rfl⟩:=List.mem_map.1 ht;exact X7b _ (hwf x hx))
      have hwu2:=hwu rfl;have HEZ:=A0 (HU.out rfl);have HCA:=A0 hca;clear hca OR CR ol1 hwu hnl hwf hlst HU HO;go_wp2_with fail
      refine HA.out.mono ?_;rintro e w2 ⟨ad2,c2,out2,rfl,h2,h3,h4,h5⟩;have hl2:=C4b (ls:=zs) (j:=zs.length) (by rw[List.take_length];exact h5);have hpos:0<out2.length:=by
       rcases Nat.eq_zero_or_pos out2.length with h0|h0
       · have:=congrArg List.length h5;rw[List.length_map,h0]at this;exact absurd (List.length_eq_zero_iff.1 this.symm) HNE.out
       · exact h0
      obtain⟨q,rfl,hq1,hq2,-,-,hqc⟩:=D8 h3 hpos;have HO2:=A0 (A3 HO1.out h2 (λ_ _ x=>x));have HN:Hid (∀i u,(B8 out2)[i]? =some u->w2.cell? (((aD q 0):Addr).add i)=some u):=by
       intro i u hu;have hadd:((aD q 0):Addr).add i=(aD q i):=by unfold Addr.add;split<;>simp_all
       rw[hadd];exact hqc i u hu
      have H1:Hid (∀u∈B8 out2,u.oneCell'=true):=by
       intro u hu;unfold B8 at hu;obtain⟨x,-,rfl⟩:=List.mem_map.1 hu;rfl
      have HL:Hid ((B8 out2).length=out2.length * 1):=(show _=_ from by simp[B8]);have HC2:=A0 (HCA.out.trans h2 (λ_ _ x=>x));have H4:=A0 h4;have H5:=A0 h5;clear HA HO1 h2 h3 h4 h5 hqc HCA;go_wp2_with (at_builtin;refine wpList_append_own _ rfl _ _ 43 rfl w.heap.size 3 i0 (iV 0) 1 8 underlying43 hi hz0 hz1 hz2 rfl (by decide) _ _ _ rfl HO2.out (aD q 0) out2.length c2 (B8 out2) rfl HL.out HN.out H1.out ?c3 ?c4 ?c5 ?_)
      case c3=>simp only[maxLen];omega
      case c4=>omega
      case c5=>have:=HC2.out.size;omega
      intro v' w3 hown3 hg3 _;have e3:out.length+out2.length=(out++out2).length:=by simp
      rw[e3,show B8 out++B8 out2=B8 (out++out2) from by simp[B8]]at hown3;obtain⟨ad4,c4,rfl⟩:=B7 hown3;have HOW:=A0 hown3;have HC3:Hid (Chg No w w3):=(((Chg.mono HC2.out (S':=λk=>w.heap.size<=k) (λ_ _ x=>x.elim)).trans (Chg.grown hg3) (λk hk x=>(A9 HO2.out k x.symm).1))).mono (λk hk x=>by omega);clear hown3 hg3;go_wp2;go_roundw
      case rel=>
       refine⟨j+1,out++out2,ad4,c4,by omega,by go_num,rfl,HC3.out,HOW.out,λx hx=> ?_, ?_⟩
       · rcases qW.1 hx with hx|hx
         · exact IR.out x hx
         · exact H4.out x hx
       · show _=_;rw[HT1.out,List.map_append,ER.out,H5.out,HEZ.out]
      case measure=>simp[intOf];omega
    · have hkb:(k==10)=false:=by simp[hk]
      have HEZ:=A0 (HO.out hk);have HO1:=A0 ((OR.out.alloc (.cells #[iV k,.slice fa fs.length fc,.slice la2 zs.length lc2,iV o] 66)).alloc (.cells #[iV (z:Int)] 3));have HCA:=A0 (hca.trans (Chg.alloc No _ (.cells #[iV (z:Int)] 3)) (λ_ _ x=>x));clear hca OR CR ol1 hwu hnl hwf hlst HU HO;go_wp2_with (at_builtin;refine wpList_append_own _ rfl _ _ 43 rfl w.heap.size 3 i0 (iV 0) 1 8 underlying43 hi hz0 hz1 hz2 rfl (by decide) _ _ _ rfl HO1.out (aD (wr.heap.size+1) 0) 1 1 [iV (z:Int)] rfl rfl ?c1 ?c2 ?c3 ?c4 ?c5 ?_)
      case c1=>
       intro i u hu;match i,hu with
       |0,hu=>simp at hu;subst hu;simp[Addr.add]
      case c2=>intro u hu;simp at hu;subst hu;rfl
      case c3=>simp only[maxLen];omega
      case c4=>omega
      case c5=>simp;omega
      intro v' w3 hown3 hg3 _;have e3:out.length+1=(out++[(z:Int)]).length:=by simp
      rw[e3,show B8 out++[iV (z:Int)]=B8 (out++[(z:Int)]) from by simp[B8]]at hown3;obtain⟨ad4,c4,rfl⟩:=B7 hown3;have HOW:=A0 hown3;have HC3:Hid (Chg No w w3):=(((Chg.mono HCA.out (S':=λk=>w.heap.size<=k) (λ_ _ x=>x.elim)).trans (Chg.grown hg3) (λk hk x=>(A9 HO1.out k x.symm).1))).mono (λk hk x=>by omega);clear hown3 hg3;go_wp2;go_roundw
      case rel=>
       refine⟨j+1,out++[(z:Int)],ad4,c4,by omega,by go_num,rfl,HC3.out,HOW.out,λx hx=> ?_, ?_⟩
       · rcases qW.1 hx with hx|hx
         · exact IR.out x hx
         · simp at hx;subst hx;omega
       · show _=_;rw[HT1.out,List.map_append,ER.out,HEZ.out];simp[trx]
      case measure=>simp[intOf];omega
  · have hje:j=ls.length:=by omega
    subst hje;rw[List.take_length]at ER;go_wp2_with fail
    go_ret;exact⟨ad,ac,out,rfl,CR.out,OR.out,IR.out,ER.out⟩
theorem A6b(hf:Few T)(m:Nat):J4d lb mb N T D m:=by
 induction m using Nat.strongRecOn with
 |ind m ih=>exact T8b hf ih
end
theorem Y3b:∀(l acc:List M.Tr) (t:M.Tr),M.dd acc (l++[t])=if (M.dd acc l).any (λu=>M.key u==M.key t) then M.dd acc l else M.dd acc l++[t]
 |[],acc,t=>by simp[M.dd]
 |u::r,acc,t=>by
  rw[List.cons_append,M.dd,M.dd];split<;>exact Y3b r _ t
theorem H6d(l:List M.Tr)(k:List UInt8):(M.dd [] l).any (λu=>M.key u==k)=decide ((l.map M.key).count k≠0):=by
 rw[Bool.eq_iff_iff,List.any_eq_true,decide_eq_true_iff];constructor
 · rintro⟨u,hu,e⟩;have:u∈l:=by
    rcases M.E3b _ _ u hu with h|h
    · simp at h
    · exact h
   have hc:k∈l.map M.key:=List.mem_map.2 ⟨u,this,by simpa using e⟩;have:=List.count_pos_iff.2 hc;omega
 · intro h;have hc:k∈l.map M.key:=List.count_pos_iff.1 (by omega);obtain⟨x,hx,e⟩:=List.mem_map.1 hc;obtain⟨u,hu,e2⟩:=M.E4b l [] x hx;exact⟨u,hu,by rw[e2,e];simp⟩
theorem N0c:Keyed prog 9:=string_keyed underlying9
theorem A0b(l:List UInt8)(h:l.length<=1000000000):keyOf prog 9 (.string ⟨l.toArray⟩)=some (.string l):=by
 have hs:(⟨l.toArray⟩:ByteArray).size<=maxLen:=by simp[ByteArray.size];unfold maxLen;omega
 unfold keyOf;simp only[underlying9];unfold mapKey;simp[underlying9,hs]
structure Seen(w:World)(q:Nat)(m:Nat)(ks:List (List UInt8)):Prop where
 own:∃n D,w.ownsMap prog 9 (plainElem (H:=Unit) prog 3) q n D/\n<=m/\IsMap D/\∀s:List UInt8,D.atKey (.string s) (.lit (.int .i64 0))= .lit (.int .i64 ((ks.count s:Nat):Int))
theorem Seen.new(w:World):Seen (w.alloc (.map #[] 0)) w.heap.size 0 []:=⟨0,.map [],World.ownsMap_made w _ _ _,vQ _,isMap_empty,λ_=>rfl⟩
theorem Seen.chg{S:Nat->Prop}{w w':World}{q m:Nat}{ks:List (List UInt8)}(h:Seen w q m ks)(hc:Chg S w w')(hn:¬S q):Seen w' q m ks:=by
 obtain⟨n,D,⟨es,cl,h1,h2⟩,r⟩:=h.own;exact⟨n,D,⟨es,cl,by rw[hc.block q (ltG h1) hn];exact h1,h2⟩,r⟩
theorem Seen.look{w:World}{q m:Nat}{ks:List (List UInt8)}(h:Seen w q m ks)(s:List UInt8)(hs:s.length<=1000000000):
 (Instr.lookup 153 (.map (some q)) (.string ⟨s.toArray⟩) false).run prog w= .ok (.int .i64 ((ks.count s:Nat):Int)) w:=by
 obtain⟨n,D,ho,hn,hm,hat⟩:=h.own;obtain⟨c,hrun,h2,_⟩:=ho.lookup_int N0c underlying153 underlying3 (Tryz.zeroInt _) (A0b s hs);rw[hat s]at h2;simp only[DataW.lit.injEq,Lit.int.injEq,true_and]at h2;rw[h2];exact hrun
theorem Seen.put{w:World}{q m:Nat}{ks:List (List UInt8)}(h:Seen w q m ks)(s:List UInt8)(hs:s.length<=1000000000)(hm:m<=1000000000)(hk:ks.length<=200000000):
 ∃w',(Instr.mapUpdate 153 (.map (some q)) (.string ⟨s.toArray⟩) (.int .i64 (((ks.count s:Nat):Int)+1))).run prog w= .ok () w'/\Seen w' q (m+1) (ks++[s])/\Chg (λk=>k=q) w w':=by
 obtain⟨n,D,ho,hn,hmap,hat⟩:=h.own;have hcl:ks.count s<=ks.length:=List.count_le_length;have hwf:(Lit.int .i64 (((ks.count s:Nat):Int)+1)).wf=true:=by
  have:=Q7 (ks.count s+1) (by omega);simpa using this
 obtain⟨w',hrun,ho',hg⟩:=ho.update N0c underlying153 (by unfold maxLen;omega) (A0b s hs) (plainElem_int underlying3 hwf);refine⟨w',hrun,⟨n+1,_,ho',by omega,hmap.put _ _,λu=> ?_⟩,(Chg.grown hg).mono (λk _ x=>by simpa using x)⟩;by_cases hu:u=s
 · subst hu;rw[atKey_put_same hmap (show WideAt.IsKeyLit (.string u) from trivial)];simp
 · rw[atKey_put_other (by simpa using hu),hat u,List.count_append];have:List.count u [s]=0:=by simp[List.count_singleton];exact λe=>hu e.symm
   rw[this];simp
def UnP(lb mb N:Nat)(T:List M.Ty)(D:Dt)(ok:Nat->Prop)(ls:List Int)(w:World)(e:Ending)(w':World):Prop:=
 ∃(r:Nat) (X:List M.Ty),e= .returned (.int .i64 (r:Int))/\X.length<=1/\r<(T++X).length/\Sho w' lb mb N (T++X) D ok/\Few (T++X)/\M.tr (T++X) r=M.Y4 (ls.map (trx T))/\∃v,w.cell? (aD lb 0)=some v/\Chg (F9a lb v) w w'
theorem I9d{T:List M.Ty}{z:Nat}(hT:M.TsOk T)(hz:z<T.length)(hk:T[z].kind=5):M.tr T z= .nd 5 [] []:=by
 rcases hT z hz with ht|ht|ht|ht|ht
 · rw[M.R9 hT hz,if_neg (by omega),ht.2.2.1,ht.2.2.2,hk];rfl
 · omega
 · omega
 · omega
 · omega
section
variable{lb mb N:Nat}{T:List M.Ty}{D:Dt}
theorem Q6b{ok:Nat->Prop}(w:World)(hO:Sho w lb mb N T D ok)(hok:∀g,w.heap.size<=g->ok g)(hf:Few T)(ls:List Int)(hls:∀x∈ls,0<=x/\x<(T.length:Int))(hne:ls≠[])(la:Option Addr)(lc:Nat)(hol:w.ownsRow 0 3 1 (.slice la ls.length lc) ls.length (B8 ls))(hn:ls.length<=2001)(hwg:M.wgL (ls.map (trx T))<=200000000)(hN:T.length+1<=N):
 Calls prog 109 #[pV lb,.slice la ls.length lc] w (UnP lb mb N T D ok ls w):=by
 have h:=hO.shp;have HSO:=A0 hO;have HOK:=A0 hok;clear hO hok;have hT:=h.ok;have hmm:=@run_makeMap prog;obtain⟨i0,hi,hz0,hz1,hz2⟩:=info_parts Tryz.infoInt;have hmlt:=h.mst.lt;have hc0:Chg No w (w.alloc (.map #[] 0)):=Chg.alloc _ _ _;have HA:=A0 (A6b (lb:=lb) (mb:=mb) (N:=N) (D:=D) hf T.length ls (w.alloc (.map #[] 0)) la lc (λx hx=>by have:=hls x hx;omega) (h.still hc0) (hol.alloc _) (by omega) (by omega));have SN:=A0 (Seen.new w);have HS:=A0 (h.still hc0);have HNE:Hid (M.I4 (ls.map (trx T))≠[]):=U2a (by simpa using hne) (λt ht=>by
  obtain⟨x,hx,rfl⟩:=List.mem_map.1 ht;exact X7b _ (M.X9a hT x.toNat (by have:=hls x hx;omega)))
 obtain⟨yv,yx,hbk,hyo,-⟩:=h.blk;have V0:Hid (w.cell? (aD lb 0)=some yv):=(show _=_ from cr hbk rfl);have HC0:=A0 hc0;have hlb:=(ltG hbk);clear h hol hbk hyo hc0;go_enter func109,ntmps109;go_wp2_with fail
 refine HA.out.mono ?_;rintro e w1 ⟨pa,pc,ps,rfl,h1,h2,h3,h4⟩;have hpl:=C4b (ls:=ls) (j:=ls.length) (by rw[List.take_length];exact h4);simp only[World.size_alloc]at h2;have S1:=A0 (SN.out.chg h1 (λx=>x));have HS1:=A0 (HS.out.still h1);have HC1:=A0 (HC0.out.trans h1 (λ_ _ x=>x));have hsz1:w.heap.size+1<=w1.heap.size:=by have:=h1.size;simpa using this
 have FP:Hid (∀a,Chg (λk=>k=w.heap.size) w1 a->a.ownsRow 0 3 1 (.slice pa ps.length pc) ps.length (B8 ps)):=λa ha=>C7 (A3 h2 ha (λg hg x=>by have:=(A9 h2 g hg).1;omega)) (wQ _);have FS:Hid (∀a,Chg (λk=>k=w.heap.size) w1 a->Shp a lb mb N T D):=by
  intro a ha;refine HS1.out.chg ha (HS1.out.mst.chg ha (by omega)) (λk cur e hk _ x=> ?_);obtain⟨n,Dm,⟨es,cl,hh,_⟩,_⟩:=S1.out.own;have x':k=w.heap.size:=x;rw[x',hh]at hk;cases hk
 have FC:Hid (∀a,Chg (λk=>k=w.heap.size) w1 a->Chg No w a):=λa ha=>((HC1.out.mono (S':=λk=>k=w.heap.size) (λ_ _ x=>x.elim)).trans ha (λ_ _ x=>x)).mono (λk hk x=>by omega);have HI:=A0 h3;have HP:=A0 h4;clear h1 h2 h3 h4 HA SN HS;go_wp2_with fail
 go_loopw [15,5] (λv u wr=>∃(j:Nat) (acc:List Int) (ad:Option Addr) (ac:Nat),j<=ps.length/\v= .int .i64 (j:Int)/\u= .slice ad acc.length ac/\Hid (Chg (λk=>k=w.heap.size) w1 wr)/\Hid (wr.ownsRow w1.heap.size 3 1 (.slice ad acc.length ac) acc.length (B8 acc))/\Hid (∀x∈acc,0<=x/\x<(T.length:Int))/\
  Hid (Seen wr w.heap.size j ((ps.take j).map λx=>M.key (trx T x)))/\Hid (acc.map (trx T)=M.dd [] ((ps.take j).map (trx T)))/\Hid (∀x∈ps.take j,(trx T x).k≠5)) (λv _ _=>ps.length - (intOf v).toNat)
 case atStart=>exact⟨0,[],none,0,wQ _,rfl,rfl,Chg.refl _ _,kW _ _ _ _,(show∀x∈([]:List Int),_ from by simp),S1.out,(show _=_ from rfl),(show∀x∈ps.take 0,_ from by simp)⟩
 case round=>
  obtain⟨j,acc,ad,ac,hj,rfl,rfl,CR,OR,IR,SR,ER,NR⟩:=hrel;have hwr:w1.heap.size<=wr.heap.size:=CR.out.size;have hal:acc.length<=ps.length:=by
   have e1:=congrArg List.length ER.out;have e2:∀(l a:List M.Tr),(M.dd a l).length<=a.length+l.length:=by
    intro l;induction l with
    |nil=>intro a;simp[M.dd]
    |cons t r ih=>
     intro a;rw[M.dd];split
     · have:=ih a;simp;omega
     · have:=ih (a++[t]);simp at this⊢;omega
   have e3:=e2 ((ps.take j).map (trx T)) [];simp at e1 e3;omega
  by_cases hjl:j<ps.length
  · have hxx:=HI.out ps[j] (mQ hjl);have hmemf:trx T ps[j]∈M.I4 (ls.map (trx T)):=by rw[<-HP.out];exact List.mem_map.2 ⟨_,mQ hjl,rfl⟩
    have hwx:M.wg (trx T ps[j])<=200000000:=by
     have e1:=M.B1b hmemf;have e2:=M.J4a (ls.map (trx T)) (λx _=>M.U4b x);omega
    have hmemps:ps[j]∈ps:=mQ hjl;have HTK:=A0 (nQ hjl);obtain⟨g,hpa,hg,hg1,hg2,y0⟩:=D5 (FP.out wr CR.out) hjl;subst hpa;unfold maxLen at hg2;generalize ps[j]=xx at *;obtain⟨z,rfl⟩:∃z:Nat,xx=(z:Int):=⟨xx.toNat,by omega⟩;have hz:z<T.length:=by omega
    have htz:trx T (z:Int)=M.tr T z:=by simp[trx]
    rw[htz]at hwx hmemf;have SHR:=A0 (FS.out wr CR.out);obtain⟨ad3,c3,c0,-,hlbr,-,hcell⟩:=SHR.out.cell;obtain⟨g3,fa,fc,la2,lc2,rfl,hg3,hc1,hc2,x0,-,-,-,-,-⟩:=hcell z hz;unfold maxLen at hc2;clear hcell;have HAN:=A0 (λhk=>I9d hT hz hk);have HK5:Hid ((M.tr T z).k=T[z].kind):=(show _=_ from by rw[M.R9 hT hz];rfl);have HKY:=A0 (X9c wr SHR.out hf z hz (by omega));have e1:wtx true T z=M.key (M.tr T z):=rfl;have hkl:(M.key (M.tr T z)).length<=1000000000:=by
     have:=U2b (bn:=true) (T:=T) (i:=z);rw[e1]at this;omega
    rw[e1]at HKY;by_cases hk5:T[z].kind=5
    · generalize T[z].kind=k at *;subst hk5;have HUN:Hid (M.Y4 (ls.map (trx T))=M.tr T z):=by
       show _=_;unfold M.Y4;rw[if_pos (List.any_eq_true.2 ⟨M.tr T z,hmemf,by rw[HK5.out];rfl⟩)];exact(HAN.out rfl).symm
      have HCW:=A0 (FC.out wr CR.out);clear CR OR SR HKY;go_wp2_with fail
      go_ret;exact⟨z,[],rfl,by simp,by simpa using hz,by rw[List.append_nil];exact HSO.out.still HCW.out,by rw[List.append_nil];exact hf,by rw[List.append_nil];exact HUN.out.symm,yv,V0.out,HCW.out.mono λ_ _ x=>x.elim⟩
    · have hkb:(T[z].kind==5)=false:=by simp[hk5]
      have hk5':(M.tr T z).k≠5:=by rw[HK5.out];exact hk5
      have HKN:=A0 hk5';generalize T[z].kind=k at *;generalize hKK:M.key (M.tr T z)=kk at *;have HKK:=A0 hKK;clear hKK;have SRR:=A0 SR.out;have CRR:=A0 CR.out;have ORR:=A0 OR.out;clear SR CR OR hk5';go_wp2_with fail
      refine HKY.out.mono ?_;rintro e w2 ⟨rfl,k2⟩;have hc2:Chg (λk=>k=w.heap.size) w1 w2:=CRR.out.trans k2 (λ_ _ x=>x.elim);have hs2:=SRR.out.chg k2 (λx=>x);have hw2:wr.heap.size<=w2.heap.size:=k2.size;have hlk:=hs2.look kk hkl;obtain⟨w3,hup,hs3,k3⟩:=hs2.put kk hkl (by omega) (by simp;omega);have hlk3:=hs3.look kk hkl;have hcount:((((ps.take j).map λx=>M.key (trx T x))++[kk]).count kk:Int)=(((ps.take j).map λx=>M.key (trx T x)).count kk:Int)+1:=by simp
      rw[hcount]at hlk3;have hcl:((ps.take j).map λx=>M.key (trx T x)).count kk<=200000000:=by
       have:=List.count_le_length (a:=kk) (l:=(ps.take j).map λx=>M.key (trx T x));rw[List.length_map,List.length_take]at this;omega
      have HDD:Hid ((M.dd [] ((ps.take j).map (trx T))).any (λu=>M.key u==kk)=decide (((ps.take j).map λx=>M.key (trx T x)).count kk≠0)):=by
       have:=H6d ((ps.take j).map (trx T)) kk;rw[List.map_map]at this;exact this
      have HTKm:Hid ((ps.take (j+1)).map (λx=>M.key (trx T x))=((ps.take j).map λx=>M.key (trx T x))++[kk]):=by
       show _=_;rw[HTK.out,List.map_append];simp[htz,HKK.out]
      generalize ((ps.take j).map λx=>M.key (trx T x)).count kk=cnt at *;have HC3:=A0 (hc2.trans k3 (λ_ _ x=>x));have HS3:=A0 hs3;have HK23:=A0 (k2.mono (S':=λk=>k=w.heap.size) (λ_ _ x=>x.elim)|>.trans k3 (λ_ _ x=>x));have hw3:w2.heap.size<=w3.heap.size:=k3.size;have HO3:=A0 (A3 ORR.out HK23.out (λg hg x=>by have:=(A9 ORR.out g hg).1;omega));clear hs2 hs3 k2 k3 hc2 hcount HKY;have HNR:Hid (∀x∈ps.take (j+1),(trx T x).k≠5):=by
       intro x hx;rw[HTK.out]at hx;rcases qW.1 hx with hx|hx
       · exact NR.out x hx
       · simp at hx;subst hx;rw[htz];exact HKN.out
      have HSN:Hid (Seen w3 w.heap.size (j+1) ((ps.take (j+1)).map λx=>M.key (trx T x))):=by
       have:=HS3.out;rw[<-HTKm.out]at this;exact this
      have HDN:Hid (M.dd [] ((ps.take (j+1)).map (trx T))=if cnt≠0 then M.dd [] ((ps.take j).map (trx T)) else M.dd [] ((ps.take j).map (trx T))++[M.tr T z]):=by
       show _=_;rw[HTK.out,List.map_append,List.map_cons,List.map_nil,htz,Y3b,HKK.out,HDD.out];simp only[decide_eq_true_eq]
      by_cases hc0:cnt=0
      · subst hc0;have e01:((0:Nat):Int)+1=1:=rfl;rw[e01]at hup hlk3;have HO4:=A0 (HO3.out.alloc (.cells #[.int .i64 (z:Int)] 3));go_wp2_with (at_builtin;refine wpList_append_own _ rfl _ _ 43 rfl w1.heap.size 3 i0 (.int .i64 0) 1 8 underlying43 hi hz0 hz1 hz2 rfl (by decide) _ _ _ rfl HO4.out (aD w3.heap.size 0) 1 1 [.int .i64 (z:Int)] rfl rfl ?c1 ?c2 ?c3 ?c4 ?c5 ?_)
        case c1=>
         intro i u hu;match i,hu with
         |0,hu=>simp at hu;subst hu;simp[Addr.add]
        case c2=>intro u hu;simp at hu;subst hu;rfl
        case c3=>simp only[maxLen];omega
        case c4=>omega
        case c5=>simp;omega
        intro v' w4 hown4 hg4 _;have e3:acc.length+1=(acc++[(z:Int)]).length:=by simp
        rw[e3,show B8 acc++[.int .i64 (z:Int)]=B8 (acc++[(z:Int)]) from by simp[B8]]at hown4;obtain⟨ad4,c4,rfl⟩:=B7 hown4;have HOW:=A0 hown4;have hca:=Chg.alloc (λk=>w1.heap.size<=k) w3 (.cells #[.int .i64 (z:Int)] 3);have hcb:Chg (λk=>w1.heap.size<=k) w3 w4:=hca.trans (Chg.grown hg4) (λk hk x=>(A9 HO4.out k x.symm).1);have HC4:Hid (Chg (λk=>k=w.heap.size) w1 w4):=((HC3.out.mono (S':=λk=>k=w.heap.size\/w1.heap.size<=k) (λ_ _ x=> .inl x)).trans hcb (λ_ _ x=> .inr x)).mono (λk hk x=>by
         rcases x with x|x
         · exact x
         · omega)
        have HS4:Hid (Seen w4 w.heap.size (j+1) ((ps.take (j+1)).map λx=>M.key (trx T x))):=HSN.out.chg hcb (by omega);clear hown4 hg4 hca hcb;go_wp2;go_roundw
        case rel=>
         refine⟨j+1,acc++[(z:Int)],ad4,c4,by omega,by go_num,rfl,HC4.out,HOW.out,λx hx=> ?_,HS4.out, ?_,HNR.out⟩
         · rcases qW.1 hx with hx|hx
           · exact IR.out x hx
           · simp at hx;subst hx;omega
         · show _=_;rw[HDN.out,if_neg (by simp),List.map_append,ER.out];simp[htz]
        case measure=>simp[intOf];omega
      · have hcne:((cnt:Int)+1==1)=false:=by simp;omega
        go_wp2_with fail
        go_roundw
        case rel=>exact⟨j+1,acc,ad,ac,by omega,by go_num,rfl,HC3.out,HO3.out,IR.out,HSN.out,(show _=_ from by rw[HDN.out,if_pos hc0,ER.out]),HNR.out⟩
        case measure=>simp[intOf];omega
  · have hje:j=ps.length:=by omega
    subst hje;rw[List.take_length]at ER NR;have HCW:=A0 (FC.out wr CR.out);have SHR:=A0 (FS.out wr CR.out);have hany:(M.I4 (ls.map (trx T))).any (λt=>t.k==5)=false:=by
     rw[<-HP.out,List.any_map,Bool.eq_false_iff];intro hx;obtain⟨x,hx,e⟩:=List.any_eq_true.1 hx;exact NR.out x hx (by simpa using e)
    have HUN:Hid (M.Y4 (ls.map (trx T))=match acc.map (trx T) with
     |[]=> .nd 5 [] []
     |[t]=>t
     |t::u::r=> .nd 10 [] (t::u::r)):=by
     show _=_;unfold M.Y4;rw[if_neg (by rw[hany];decide),<-HP.out,<-ER.out];rfl
    have hacc:acc≠[]:=by
     rintro rfl;have e1:=ER.out;have hne2:=HNE.out;rw[<-HP.out]at hne2;obtain⟨t,r,e2⟩:=List.exists_cons_of_ne_nil hne2;obtain⟨u,hu,-⟩:=M.E4b (ps.map (trx T)) [] t (by rw[e2];simp);rw[<-e1]at hu;simp at hu
    have OR2:=A0 OR.out;clear CR OR SR hany;have hal2:acc.length<=100000000:=by omega
    match acc,hacc with
    |[x],_=>
     obtain⟨g,hga,hg,hg1,hg2,y0⟩:=D5 (ls:=[x]) (C7 OR2.out (wQ _)) (j:=0) (by simp);subst hga;unfold maxLen at hg2;have hx:=IR.out x (by simp);simp only[List.getElem_cons_zero]at y0;obtain⟨z,rfl⟩:∃z:Nat,x=(z:Int):=⟨x.toNat,by omega⟩;have htz:trx T (z:Int)=M.tr T z:=by simp[trx]
     simp only[jQ,xQ,Nat.zero_add]at *;go_wp2_with fail
     go_ret;exact⟨z,[],rfl,by simp,by rw[List.append_nil];omega,by rw[List.append_nil];exact HSO.out.still HCW.out,by rw[List.append_nil];exact hf,by rw[List.append_nil,HUN.out];simp[htz],yv,V0.out,HCW.out.mono λ_ _ x=>x.elim⟩
    |x::y::r,_=>
     have ht:M.TyOk ⟨10,[],x::y::r,0⟩ T.length:= .inr (.inr (.inr (.inr ⟨rfl,rfl,by simp,λu hu=>IR.out u hu⟩)));have htv:TyV wr ok ⟨10,[],x::y::r,0⟩ [.int .i64 10,sN,.slice ad (x::y::r).length ac,.int .i64 0]:=⟨_,_,rfl,kW _ _ _ _,C7 OR2.out (wQ _),λg hg=>by simp[Value.ownBlock]at hg,λg hg=>HOK.out g (by have:=(A9 OR2.out g hg).1;omega)⟩;have HPUT:=A0 (Q5a wr (HSO.out.still HCW.out) ⟨10,[],x::y::r,0⟩ none ad 0 0 (x::y::r).length ac htv ht hN);have HTR:Hid (M.tr (T++[⟨10,[],x::y::r,0⟩]) T.length=M.Y4 (ls.map (trx T))):=by
      show _=_;rw[M.H7a hT ht,HUN.out];simp[trx]
     have HFE:Hid (Few (T++[⟨10,[],x::y::r,0⟩])):=by
      intro i hi;by_cases hil:i<T.length
      · rw[List.getElem_append_left hil];exact hf i hil
      · have e:i=T.length:=by simp at hi;omega
        subst e;simp only[List.getElem_concat_length];exact⟨hal2,by simp⟩
     have e0:((((x::y::r).length:Nat):Int)==0)=false:=by simp;omega
     have e1:((((x::y::r).length:Nat):Int)==1)=false:=by simp;omega
     generalize (x::y::r).length=nn at *;go_wp2_with fail
     refine HPUT.out.mono ?_;rintro e w5 ⟨rfl,⟨v5,hv5,hc5⟩,hs5⟩;have hv6:v5=yv:=by
      have e6:wr.cell? (aD lb 0)=some yv:=by rw[World.cell?_of_block (HCW.out.block lb hlb (λx=>x))];exact V0.out
      rw[hv5]at e6;exact Option.some.inj e6
     subst hv6;have HC5:=A0 ((HCW.out.mono (S':=F9a lb v5) (λ_ _ x=>x.elim)).trans hc5 (λ_ _ x=>x));have HS5:=A0 hs5;clear hc5 hs5 hv5;go_wp2;go_ret;exact⟨T.length,[⟨10,[],x::y::r,0⟩],rfl,by simp,by simp,HS5.out,HFE.out,HTR.out,v5,V0.out,HC5.out⟩
end
section
variable{w0 w:World}{c:M.Cx}{pb lb mb qb:Nat}{nv yv fv:Value}{mn:Int}{Z:List M.Ty}{ofs:List Int}
def Far(pb:Nat)(w:World)(v:Value):Prop:=∀ov,w.cell? (aD pb 6)=some ov->∀g,v.ownBlock=some g->ov.ownBlock≠some g
theorem Cst.ov(h:Cst w0 w c pb lb mb qb nv yv mn fv Z ofs):∃ov D,w.cell? (aD pb 6)=some ov/\w.heap[pb]? =some (.cells (pcs c nv yv mn lb qb fv ov) 46 (0,0))/\w.ownsRow w0.heap.size 3 1 ov ofs.length (B8 ofs)/\Sho w lb mb 4000 (tl c Z) D (λg=>ov.ownBlock≠some g)/\∀g,w.heap.size<=g->ov.ownBlock≠some g:=by
 obtain⟨ov,D,h1,h2,h3⟩:=h.st;refine⟨ov,D,cr h1 rfl,h1,h2,h3,λg hg e=> ?_⟩;have:=(h2.lt g e).2;omega
theorem Cst.far{w1:World}(h:Cst w0 w c pb lb mb qb nv yv mn fv Z ofs)(hc:KG w w1){v:Value}(hv:∀g,v.ownBlock=some g->w.heap.size<=g):Far pb w1 v:=by
 obtain⟨ov,D,h1,h2,h3,h4,h5⟩:=h.ov;intro ov' e g hg;have hb:=hc.2 _ _ _ _ h2 (by decide) (by decide);have:ov'=ov:=by
  rw[cell_of_row w1 pb 6 _ _ _ hb]at e;exact(Option.some.inj e).symm
 subst this;exact h5 g (hv g hg)
theorem Y4c{T:List M.Ty}{t:M.Ty}(h:Fw T)(ht:t.list.length<=100000000/\t.fields.length<=2001):Fw (T++[t]):=by
 intro i hi;by_cases hil:i<T.length
 · rw[List.getElem_append_left hil];exact h i hil
 · have e:i=T.length:=by simp at hi;omega
   subst e;simp only[List.getElem_concat_length];exact ht
theorem I7c(h:Cst w0 w c pb lb mb qb nv yv mn fv Z ofs)(t:M.Ty)(fa la:Option Addr)(fn fc ln lc:Nat)(hfo:w.ownsRow 0 121 2 (.slice fa fn fc) t.fields.length (F5 t.fields))(hlo:w.ownsRow 0 3 1 (.slice la ln lc) t.list.length (B8 t.list))(f1:Far pb w (.slice fa fn fc))(f2:Far pb w (.slice la ln lc))(hk:M.TyOk t (tl c Z).length)(hf:t.list.length<=100000000/\t.fields.length<=2001)(hN:(tl c Z).length+1<=4000):
 Calls prog 17 #[pV lb,.agg #[iV t.kind,.slice fa fn fc,.slice la ln lc,iV t.of']] w λe w'=>e= .returned (iV ((tl c Z).length:Int))/\Cst w0 w' c pb lb mb qb nv yv mn fv (Z++[t]) ofs/\KG w w':=by
 obtain⟨ov,D,h1,h2,h3,h4,h5⟩:=h.ov;refine(Q5a w h4 t fa la fn fc ln lc ⟨_,_,rfl,hfo,hlo,λg hg=>f1 ov h1 g hg,λg hg=>f2 ov h1 g hg⟩ hk hN).mono ?_;rintro e w' ⟨rfl,⟨v,hv,hc⟩,hs⟩;obtain⟨k1,k2⟩:=h.grow hv hc h2 h3 hs (Y4c h.few hf);exact⟨rfl,k1,k2⟩
theorem U0c(h:Cst w0 w c pb lb mb qb nv yv mn fv Z ofs)(ls:List Int)(hls:∀x∈ls,0<=x/\x<((tl c Z).length:Int))(hne:ls≠[])(la:Option Addr)(lc:Nat)(hol:w.ownsRow 0 3 1 (.slice la ls.length lc) ls.length (B8 ls))(hn:ls.length<=2001)(hwg:M.wgL (ls.map (trx (tl c Z)))<=200000000)(hN:(tl c Z).length+1<=4000):
 Calls prog 109 #[pV lb,.slice la ls.length lc] w λe w'=>∃(r:Nat) (X:List M.Ty),e= .returned (iV (r:Int))/\X.length<=1/\r<(tl c (Z++X)).length/\M.tr (tl c (Z++X)) r=M.Y4 (ls.map (trx (tl c Z)))/\Cst w0 w' c pb lb mb qb nv yv mn fv (Z++X) ofs/\KG w w':=by
 obtain⟨ov,D,h1,h2,h3,h4,h5⟩:=h.ov;refine(Q6b w h4 h5 h.few ls hls hne la lc hol hn hwg hN).mono ?_;rintro e w' ⟨r,X,rfl,hX,hr,hs,hf,ht,v,hv,hc⟩;obtain⟨k1,k2⟩:=h.grow hv hc h2 h3 hs hf;rw[Z6]at hr ht;exact⟨r,X,rfl,hX,hr,ht,k1,k2⟩
end
section
variable{lb mb N:Nat}{T:List M.Ty}{D:Dt}
theorem Q5b{ok:Nat->Prop}(w:World)(hO:Sho w lb mb N T D ok)(hf:Few T)(hN:T.length+1<=N):
 Calls prog 109 #[pV lb,sN] w (UnP lb mb N T D ok [] w):=by
 have h:=hO.shp;have hT:=h.ok;have hmm:=@run_makeMap prog;have hc0:Chg No w (w.alloc (.map #[] 0)):=Chg.alloc _ _ _;have HA:=A0 (A6b (lb:=lb) (mb:=mb) (N:=N) (D:=D) hf T.length [] (w.alloc (.map #[] 0)) none 0 (λx hx=>by simp at hx) (h.still hc0) (kW _ _ _ _) (by simp) (by simp[M.wgL]));obtain⟨yv,yx,hbk,hyo,-⟩:=h.blk;have V0:Hid (w.cell? (aD lb 0)=some yv):=(show _=_ from cr hbk rfl);have hlb:=(ltG hbk);have ht:M.TyOk ⟨5,[],[],0⟩ T.length:= .inl ⟨by decide,by decide,rfl,rfl⟩;have HPUT:Hid (∀u,Chg No w u->_):=λu hu=>Q5a u (hO.still hu) ⟨5,[],[],0⟩ none none 0 0 0 0 ⟨_,_,rfl,kW _ _ _ _,kW _ _ _ _,λg hg=>by simp[Value.ownBlock]at hg,λg hg=>by simp[Value.ownBlock]at hg⟩ ht hN;have HTR:Hid (M.tr (T++[⟨5,[],[],0⟩]) T.length=M.Y4 (([]:List Int).map (trx T))):=by
  show _=_;rw[M.H7a hT ht];rfl
 have HFE:Hid (Few (T++[⟨5,[],[],0⟩])):=by
  intro i hi;by_cases hil:i<T.length
  · rw[List.getElem_append_left hil];exact hf i hil
  · have e:i=T.length:=by simp at hi;omega
    subst e;simp only[List.getElem_concat_length];exact⟨by simp,by simp⟩
 have HC0:=A0 hc0;clear h hbk hyo hc0 hO hf;go_enter func109,ntmps109;go_wp2_with fail
 refine HA.out.mono ?_;rintro e w1 ⟨pa,pc,ps,rfl,h1,h2,h3,h4⟩;have hps:ps=[]:=by
  have e1:(ps.map (trx T)).length=0:=by rw[h4];simp[M.I4]
  rw[List.length_map]at e1;exact List.length_eq_zero_iff.1 e1
 subst hps;have HC1:=A0 (HC0.out.trans h1 (λ_ _ x=>x));clear h1 h2 h3 h4 HA HC0;simp only[xQ];go_wp2_with fail
 go_loopw [15,5] (λv u wr=>v=iV 0/\u=sN/\Hid (Chg No w wr)) (λ_ _ _=>0)
 case atStart=>exact⟨rfl,rfl,HC1.out⟩
 case round=>
  obtain⟨rfl,rfl,CR⟩:=hrel;have HP:=A0 (HPUT.out wr CR.out);have VR:wr.cell? (aD lb 0)=some yv:=A8 CR.out V0.out;have HVR:=A0 VR;clear VR HPUT;go_wp2_with fail
  refine HP.out.mono ?_;rintro e w5 ⟨rfl,⟨v5,hv5,hc5⟩,hs5⟩;have hv6:v5=yv:=by
   have:=HVR.out;rw[hv5]at this;exact Option.some.inj this
  subst hv6;have HC5:=A0 ((CR.out.mono (S':=F9a lb v5) (λ_ _ x=>x.elim)).trans hc5 (λ_ _ x=>x));have HS5:=A0 hs5;clear hc5 hs5 hv5;go_wp2;go_ret;exact⟨T.length,[⟨5,[],[],0⟩],rfl,by simp,by simp,HS5.out,HFE.out,HTR.out,v5,V0.out,HC5.out⟩
end
section
variable{w0 w:World}{c:M.Cx}{pb lb mb qb:Nat}{nv yv fv:Value}{mn:Int}{Z:List M.Ty}{ofs:List Int}{of:M.Of}
theorem F9b(h:Cst w0 w c pb lb mb qb nv yv mn fv Z ofs)(hN:(tl c Z).length+1<=4000):
 Calls prog 109 #[pV lb,sN] w λe w'=>∃(r:Nat) (X:List M.Ty),e= .returned (iV (r:Int))/\X.length<=1/\r<(tl c (Z++X)).length/\M.tr (tl c (Z++X)) r=M.Y4 []/\Cst w0 w' c pb lb mb qb nv yv mn fv (Z++X) ofs/\KG w w':=by
 obtain⟨ov,D,h1,h2,h3,h4,h5⟩:=h.ov;refine(Q5b w h4 h.few hN).mono ?_;rintro e w' ⟨r,X,rfl,hX,hr,hs,hf,ht,v,hv,hc⟩;obtain⟨k1,k2⟩:=h.grow hv hc h2 h3 hs hf;rw[Z6]at hr ht;exact⟨r,X,rfl,hX,hr,ht,k1,k2⟩
def GrQ(w0 w:World)(c:M.Cx)(pb lb mb qb:Nat)(nv yv:Value)(mn:Int)(fv:Value)(Z:List M.Ty)(ofs:List Int)(t:M.Tr)(e:Ending)(w':World):Prop:=
 ∃(x:Nat) (X:List M.Ty),e= .returned (iV (x:Int))/\X.length<=2/\x<(tl c (Z++X)).length/\M.tr (tl c (Z++X)) x=t/\Cst w0 w' c pb lb mb qb nv yv mn fv (Z++X) ofs/\KG w w'
theorem B0d(h:Cst w0 w c pb lb mb qb nv yv mn fv Z ofs)(nd:M.Nd)(hls:∀x∈nd.list,Lk c Z ofs of x)(hn:nd.list.length<=1200)(la:Option Addr)(lc:Nat)(hlo:w.ownsRow 0 3 1 (.slice la nd.list.length lc) nd.list.length (B8 nd.list))(hwg:M.wgL (nd.list.map (M.ofA of))<=25000000)(hN:(tl c Z).length+2<=4000):
 Calls prog 79 #[pV pb,nvl nd la lc] w (GrQ w0 w c pb lb mb qb nv yv mn fv Z ofs (M.S2c of nd)):=by
 unfold M.S2c nvl;obtain⟨kd,va,vb,vc,ls,tx,vn,vt,vp⟩:=nd;simp only at *;obtain⟨oa,oc,hpb,fz,q0,q1,q2,q3,q4,q5,q6,qp,qo⟩:=h.cell;have hT:=h.ts;obtain⟨i0,hi0,hz0,hz1,hz2⟩:=info_parts Tryz.infoInt;have HQO:=A0 qo;have HQ3:=A0 q3;have H0:=A0 h;have HO:=A0 hlo;have HL:=A0 hls;have hnum:∀x∈ls,0<=ofs.getD x.toNat 0/\ofs.getD x.toNat 0<((tl c Z).length:Int)/\trx (tl c Z) (ofs.getD x.toNat 0)=M.ofA of x:=λx hx=>by
  obtain⟨p,r,hp,e,hr,hrl,htr⟩:=hls x hx;have e2:ofs.getD x.toNat 0=(r:Int):=by rw[e,tQ,lQ,gQ hp];exact hr
  rw[e2];refine⟨by omega,by omega, ?_⟩;unfold trx;rw[tQ];exact htr
 have HNM:=A0 hnum;have hml:(ls.map λx=>ofs.getD x.toNat 0).map (trx (tl c Z))=ls.map (M.ofA of):=by
  rw[List.map_map];exact List.map_congr_left λx hx=>(hnum x hx).2.2
 have HU:Hid (∀(u:World) (ad:Option Addr) (ac:Nat),Chg No w u->(ls=[]->ad=none/\ac=0)->u.ownsRow w.heap.size 3 1 (.slice ad ls.length ac) ls.length (B8 (ls.map λx=>ofs.getD x.toNat 0))->Calls prog 109 #[pV lb,.slice ad ls.length ac] u λe w'=>∃(r:Nat) (X:List M.Ty),e= .returned (iV (r:Int))/\X.length<=1/\r<(tl c (Z++X)).length/\M.tr (tl c (Z++X)) r=M.Y4 (ls.map (M.ofA of))/\Cst w0 w' c pb lb mb qb nv yv mn fv (Z++X) ofs/\KG u w'):=λu ad ac hu hnil hown=>by
  by_cases hl:ls=[]
  · obtain⟨rfl,rfl⟩:=hnil hl;subst hl;exact F9b (h.still hu) (by omega)
  · have:=U0c (h.still hu) (ls.map λx=>ofs.getD x.toNat 0) (λx hx=>by
     obtain⟨y,hy,rfl⟩:=List.mem_map.1 hx;exact⟨(hnum y hy).1,(hnum y hy).2.1⟩) (by simpa using hl) ad ac (by rw[List.length_map];exact C7 hown (wQ _)) (by rw[List.length_map];omega) (by rw[hml];omega) (by omega)
    rw[hml,List.length_map]at this;exact this
 have HPU:Hid (∀(u:World) (X:List M.Ty) (r:Nat),Cst w0 u c pb lb mb qb nv yv mn fv (Z++X) ofs->X.length<=1->r<(tl c (Z++X)).length->_):=λu X r hu hX hr=>I7c hu ⟨8,[],[],(r:Int)⟩ none none 0 0 0 0 (kW _ _ _ _) (kW _ _ _ _) (λ_ _ g hg=>by simp[Value.ownBlock]at hg) (λ_ _ g hg=>by simp[Value.ownBlock]at hg) (.inr (.inr (.inl ⟨rfl,rfl,rfl,Int.natCast_nonneg r,Int.ofNat_lt.2 hr⟩))) ⟨by simp,by simp⟩ (by rw[O8]at hN⊢;rw[qQ];omega);simp only at HPU;have A1:=Chg.alloc No w (ndC kd va vb vc (.slice la ls.length lc) tx vn vt vp);have A1h:=A0 A1;clear h hlo hls hnum hml qp qo q0 q1 q2 q4 q5 fz A1 hT;go_enter func79,ntmps79;go_wp2_with fail
 go_loopw [11,5] (λv u wr=>∃(j:Nat) (ad:Option Addr) (ac:Nat),j<=ls.length/\v=iV (j:Int)/\u= .slice ad j ac/\Hid (j=0->ad=none/\ac=0)/\Hid (Chg No w wr)/\Hid (wr.ownsRow w.heap.size 3 1 (.slice ad j ac) j (B8 ((ls.take j).map λx=>ofs.getD x.toNat 0)))) (λv _ _=>ls.length - (intOf v).toNat)
 case atStart=>exact⟨0,none,0,wQ _,rfl,rfl,λ_=>⟨rfl,rfl⟩,A1h.out,kW _ _ _ _⟩
 case round=>
  obtain⟨j,ad,ac,hj,rfl,rfl,NR,CR,OR⟩:=hrel;have q6':=A8 CR.out q6;have hwr:w.heap.size<=wr.heap.size:=CR.out.size;by_cases hjl:j<ls.length
  · obtain⟨g2,hla,hg2,hl1,hl2,v0⟩:=D5 (A3 HO.out CR.out (λ_ _ x=>x)) hjl;subst hla;obtain⟨p,r,hp,e,hr,hrl,htr⟩:=HL.out ls[j] (mQ hjl);obtain⟨go,hoa,ho0,ho1,ho2,ho3,y0,-⟩:=HQO.out p hp;subst hoa;rw[hr]at y0;have y0':=A8 CR.out y0;have HT:Hid ((ls.take (j+1)).map (λx=>ofs.getD x.toNat 0)=(ls.take j).map (λx=>ofs.getD x.toNat 0)++[(r:Int)]):=by
     show _=_;rw[nQ hjl,List.map_append,List.map_singleton,e,tQ,lQ,gQ hp,hr];rfl
    obtain⟨acc,hacc⟩:∃acc,acc=(ls.take j).map (λx=>ofs.getD x.toNat 0):=⟨_,rfl⟩;rw[<-hacc]at OR HT;clear hacc;rw[e]at v0;have hgow:=blt y0';have hpbw:=blt q6';simp only at hgow hpbw;have hp':(p:Int)<(ofs.length:Int):=by omega
    unfold maxLen at hl2 ho3;have HO4:=A0 (OR.out.alloc (.cells #[iV (r:Int)] 3));clear e hr htr y0;go_wp2_with (at_builtin;refine wpList_append_own _ rfl _ _ 43 rfl w.heap.size 3 i0 (iV 0) 1 8 underlying43 hi0 hz0 hz1 hz2 rfl (by decide) _ _ _ rfl HO4.out (aD wr.heap.size 0) 1 1 [iV (r:Int)] rfl rfl ?c1 ?c2 ?c3 ?c4 ?c5 ?_)
    case c1=>
     intro i u hu;match i,hu with
     |0,hu=>simp at hu;subst hu;simp[Addr.add]
    case c2=>intro u hu;simp at hu;subst hu;rfl
    case c3=>simp only[maxLen];omega
    case c4=>omega
    case c5=>simp;omega
    intro v' w4 hown4 hg4 _;obtain⟨ad4,c4,rfl⟩:=B7 hown4;have HOW:=A0 hown4;have hcb:Chg (λk=>w.heap.size<=k) wr w4:=(Chg.alloc (λk=>w.heap.size<=k) wr (.cells #[iV (r:Int)] 3)).trans (Chg.grown hg4) (λk hk x=>(A9 HO4.out k x.symm).1);have HC4:Hid (Chg No w w4):=((CR.out.mono (S':=λk=>w.heap.size<=k) (λ_ _ x=>x.elim)).trans hcb (λ_ _ x=>x)).mono (λk hk x=>by omega);clear hown4 hg4 hcb;go_wp2_with fail
    go_roundw
    case rel=>exact⟨j+1,ad4,c4,by omega,by go_num,rfl,λe=>by omega,HC4.out,(show World.ownsRow _ _ _ _ _ _ _ from by rw[HT.out,M5];exact HOW.out)⟩
    case measure=>simp[intOf];omega
  · have hje:j=ls.length:=by omega
    subst hje;rw[List.take_length]at OR;have NN:Hid (ls=[]->ad=none/\ac=0):=λe=>NR.out (by rw[e];rfl);have q3':=A8 CR.out HQ3.out;have hpbw:=blt q3';simp only at hpbw;clear NR q6 q6';go_wp2_with fail
    go_region_with (first
     |(go_at_call 109;refine(HU.out _ ad ac (B9 CR.out (Chg.drewN _ _ 1)) NN.out (A3 OR.out (Chg.drewN No _ 1) (λ_ _ x=>x))).mono ?_;rintro e w5 ⟨r,X,rfl,hX,hr,ht,hC,hk⟩;have q35:w5.cell? (aD pb 3)=some (pV lb):=by (obtain⟨_,_,_,_,_,_,_,q,_⟩:=hC.cell;exact q))
     |(go_at_call 17;refine(HPU.out _ X r hC hX hr).mono ?_;rintro e w6 ⟨rfl,hC6,hk6⟩))
    all_goals
     have HQ:Hid (GrQ w0 w c pb lb mb qb nv yv mn fv Z ofs (.nd 8 [] [M.Y4 (ls.map (M.ofA of))]) (.returned (iV ((tl c (Z++X)).length:Int))) w6):=by
      have e1:Z++(X++[⟨8,[],[],(r:Int)⟩])=(Z++X)++[⟨8,[],[],(r:Int)⟩]:=(List.append_assoc _ _ _).symm;have htt:=M.H7a hC.ts (t:=⟨8,[],[],(r:Int)⟩) (.inr (.inr (.inl ⟨rfl,rfl,rfl,Int.natCast_nonneg r,Int.ofNat_lt.2 hr⟩)));refine⟨(tl c (Z++X)).length,X++[⟨8,[],[],(r:Int)⟩],rfl, ?_, ?_, ?_, ?_,((KG.still (B9 CR.out (Chg.drewN _ _ 1))).trans hk).trans hk6⟩
      · rw[qQ,List.length_singleton];omega
      · rw[e1,O8,O8,qQ,qQ,qQ,List.length_singleton];omega
      · rw[e1,<-Z6,htt];simp[ht]
      · rw[e1];exact hC6
     clear hC hk hC6 hk6 ht;go_wp2_with fail
     go_ret;exact HQ.out
end
def KQ(a b:World):Prop:=a.heap.size<=b.heap.size/\∀(q:Nat) (cs:Array Value) (e:TypeId) (fz:Nat×Nat),a.heap[q]? =some (.cells cs e fz)->e≠97->e≠66->e≠3->e≠46->b.heap[q]? =some (.cells cs e fz)
theorem KQ.refl(a:World):KQ a a:=⟨vQ _,λ_ _ _ _ h _ _ _ _=>h⟩
theorem KQ.trans{a b c:World}(h:KQ a b)(k:KQ b c):KQ a c:=⟨kQ h.1 k.1,λq cs e fz x h1 h2 h3 h4=>k.2 q cs e fz (h.2 q cs e fz x h1 h2 h3 h4) h1 h2 h3 h4⟩
theorem KQ.kg{a b:World}(h:KG a b):KQ a b:=⟨h.1,λq cs e fz x h1 h2 _ _=>h.2 q cs e fz x h1 h2⟩
theorem KQ.still{a b:World}(h:Chg No a b):KQ a b:= .kg (.still h)
section
variable{w0 w:World}{c:M.Cx}{pb lb mb qb:Nat}{nv yv fv:Value}{mn:Int}{Z:List M.Ty}{ofs:List Int}{of:M.Of}
theorem Cst.push{w1 w2:World}{x:Int}{ov ov':Value}(h:Cst w0 w c pb lb mb qb nv yv mn fv Z ofs)(hov:w.cell? (aD pb 6)=some ov)(h1:Chg No w w1)(hg:w1.grownBy w2 ov.ownBlock)(ho:w2.ownsRow w0.heap.size 3 1 ov' (ofs.length+1) (B8 ofs++[iV x])){s:Nat}(hat:ov'.ownBlock=ov.ownBlock\/ov'.ownBlock=some s)(hsz:w.heap.size<=s):
 w2.cell? (aD pb 6)=some ov/\w2.frozen? (aD pb 6)=false/\pb<w2.heap.size/\Cst w0 (w2.setCell (aD pb 6) ov') c pb lb mb qb nv yv mn fv Z (ofs++[x])/\KQ w (w2.setCell (aD pb 6) ov'):=by
 obtain⟨hc,⟨ov0,D,hb,hr,hs⟩,hf⟩:=h;have e:ov0=ov:=by
  rw[cell_of_row w pb 6 _ _ _ hb]at hov;exact Option.some.inj hov
 subst e;have hr1:w1.ownsRow w0.heap.size 3 1 ov0 ofs.length (B8 ofs):=A3 hr h1 (λ_ _ x=>x);have nobk:∀{k:Nat} {cs:Array Value} {e:TypeId} {fz:Nat×Nat},w.heap[k]? =some (.cells cs e fz)->e≠3->some k≠ov0.ownBlock:=λ{k cs e fz} hk he hx=>by
  obtain⟨_,cur,hh⟩:=A9 hr k hx.symm;rw[hk]at hh;simp only[zQ,xW]at hh;exact he hh.2.1
 have C2:Chg (λk=>some k=ov0.ownBlock) w w2:=(h1.mono (λ_ _ x=>x.elim)).trans (Chg.grown hg) (λ_ _ x=>x);have hb2:w2.heap[pb]? =some (.cells (pcs c nv yv mn lb qb fv ov0) 46 (0,0)):=by
  rw[C2.block pb (ltG hb) (nobk hb (by decide))];exact hb
 have C3:Chg (λk=>some k=ov0.ownBlock\/k=pb) w (w2.setCell (aD pb 6) ov'):=(C2.mono λ_ _ x=> .inl x).trans (Chg.set _ _ _) (λ_ _ x=> .inr x);have hkq:KQ w (w2.setCell (aD pb 6) ov'):=⟨C3.size,λq cs e fz hq _ _ h3 h4=>by
  rw[C3.block q (ltG hq) ?_]
  · exact hq
  · rintro(hx|rfl)
    · exact nobk hq h3 hx
    · rw[hq]at hb;simp only[zQ,xW]at hb;exact h4 hb.2.1⟩
 have hmb:¬(some mb=ov0.ownBlock\/mb=pb):=by
  rintro(hx|hx)
  · obtain⟨_,cur,hh⟩:=A9 hr mb hx.symm;exact hs.mst.tag _ _ _ hh
  · subst hx;exact hs.mst.tag _ _ _ hb
 have hok:∀g,ov0.ownBlock≠some g->g<w.heap.size->ov'.ownBlock≠some g:=λg hg1 hg2 hx=>by
  rcases hat with hat|hat
  · exact hg1 (hat.symm.trans hx)
  · rw[hat]at hx;have:=Option.some.inj hx;omega
 refine⟨cr hb2 rfl,frozen_of_row w2 pb 6 _ _ hb2,(ltG hb2),⟨?_,⟨ov',D, ?_, ?_, ?_⟩,hf⟩,hkq⟩
 · refine hc.trans C3 ?_;rintro k hk (hx|rfl)
   · have:=(A9 hr k hx.symm).1;omega
   · exact .inl rfl
 · rw[heap_setCell_same w2 pb 6 _ _ _ hb2];rfl
 · have:w2.ownsRow w0.heap.size 3 1 ov' (ofs++[x]).length (B8 (ofs++[x])):=by
    rw[qQ,List.length_singleton,M5];exact ho
   refine A3 this (Chg.set _ _ _) λg hgg hx=> ?_;have hx':g=pb:=hx;subst hx';obtain⟨_,cur,hh⟩:=A9 this g hgg;rw[hb2]at hh;simp only[zQ,xW]at hh;exact absurd hh.2.1 (by decide)
 · refine hs.chg C3 (hs.mst.chg C3 hmb) ?_ hok;rintro k cur e hk he (hx|rfl)
   · rcases he with rfl|rfl|⟨_,hok⟩
     · exact nobk hk (by decide) hx
     · exact nobk hk (by decide) hx
     · exact hok hx.symm
   · rw[hk]at hb;simp only[zQ,xW]at hb;obtain⟨_,rfl,_⟩:=hb;revert he;simp
theorem Cst.set(h:Cst w0 w c pb lb mb qb nv yv mn fv Z ofs){oc g:Nat}(hov:w.cell? (aD pb 6)=some (.slice (some (aD g 0)) ofs.length oc))(i:Nat)(x:Int):
 Cst w0 (w.setCell (aD g i) (iV x)) c pb lb mb qb nv yv mn fv Z (ofs.set i x)/\KQ w (w.setCell (aD g i) (iV x)):=by
 obtain⟨hc,⟨ov0,D,hb,hr,hs⟩,hf⟩:=h;have e:ov0= .slice (some (aD g 0)) ofs.length oc:=by
  rw[cell_of_row w pb 6 _ _ _ hb]at hov;exact Option.some.inj hov
 subst e;obtain⟨hgl,cur,hh⟩:=A9 hr g rfl;have C3:Chg (λk=>k=g) w (w.setCell (aD g i) (iV x)):=Chg.set w (aD g i) (iV x);have ne:∀{k:Nat} {cs:Array Value} {e:TypeId} {fz:Nat×Nat},w.heap[k]? =some (.cells cs e fz)->e≠3->k≠g:=λ{k cs e fz} hk he hx=>by
  subst hx;rw[hk]at hh;simp only[zQ,xW]at hh;exact he hh.2.1
 refine⟨⟨hc.trans C3 (λk hk hx=>by have hx':k=g:=hx;omega),⟨.slice (some (aD g 0)) ofs.length oc,D, ?_, ?_, ?_⟩,hf⟩,C3.size,λq cs e fz hq _ _ h3 _=>by rw[C3.block q (ltG hq) (ne hq h3)];exact hq⟩
 · rw[C3.block pb (ltG hb) (ne hb (by decide))];exact hb
 · rw[List.length_set];exact C8a hr i x
 · refine hs.chg C3 (hs.mst.chg C3 (λhx=> ?_)) ?_ (λ_ x _=>x)
   · subst hx;exact hs.mst.tag _ _ _ hh
   · rintro k cur e hk he hx;rcases he with rfl|rfl|⟨_,hok⟩
     · exact ne hk (by decide) hx
     · exact ne hk (by decide) hx
     · exact hok (by rw[show k=g from hx];rfl)
end
end Go.Proofs.YtfhhipefecekkaaGreatDoor
