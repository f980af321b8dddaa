/-
  A part of the proof.
-/
import Derived.Test.YtgdnpemiiageaaaGreatDoorWriteB
import Derived.Test.YtgdnpemiiageaaaGreatDoorNodeA
set_option maxHeartbeats 16000000
set_option maxRecDepth 100000
namespace Go.Proofs.YtgdnpemiiageaaaGreatDoor
open Go.RowKit Go.Maps
def trx (T:List M.Ty) (x:Int):M.Tr:=M.tr T x.toNat
theorem A3b:∀l l':List M.Tr,M.I5 (l++l')=M.I5 l++M.I5 l'
 |[],_=>by simp[M.I5]
 |t::r,l'=>by rw[List.cons_append,M.I5,M.I5,A3b r l',List.append_assoc]
theorem C0c (t:M.Tr):M.I5 [t]=M.flat t:=by simp[M.I5]
theorem R7b (T:List M.Ty) (ls:List Int) {j:Nat} (hj:j<ls.length):M.I5 ((ls.take (j+1)).map (trx T))=M.I5 ((ls.take j).map (trx T))++M.flat (trx T ls[j]):=by
 rw[List.take_succ_eq_append_getElem hj,List.map_append,A3b];simp[C0c]
theorem N4c {T:List M.Ty} {z:Nat} (hT:M.TsOk T) (hz:z<T.length) (hk:T[z].kind=10):M.flat (M.tr T z)=M.I5 (T[z].list.map (trx T)):=by
 rw[M.S6 hT hz,M.flat,if_pos hk,if_neg (by omega),H0a hT hz (.inr hk)];simp;rfl
theorem R8b {T:List M.Ty} {z:Nat} (hT:M.TsOk T) (hz:z<T.length) (hk:T[z].kind≠10):M.flat (M.tr T z)=[M.tr T z]:=by
 rw[M.S6 hT hz,M.flat,if_neg hk]
theorem U2b:∀l:List M.Tr,l.length * 5<=M.wgL l
 |[]=>by simp
 |t::r=>by have:=U2b r;simp only[List.length_cons,M.wgL];omega
theorem E2c (T:List M.Ty) (ls:List Int) (j:Nat):M.wgL ((ls.take j).map (trx T))<=M.wgL (ls.map (trx T)):=by
 have e:ls.map (trx T)=(ls.take j).map (trx T)++(ls.drop j).map (trx T):=by rw[<-List.map_append,List.take_append_drop]
 rw[e,M.U3b];omega
theorem C6b {T:List M.Ty} {ls out:List Int} {j:Nat} (h:out.map (trx T)=M.I5 ((ls.take j).map (trx T))):out.length * 5<=M.wgL (ls.map (trx T)):=by
 have h1:=U2b (M.I5 ((ls.take j).map (trx T)));have h2:=M.J8a ((ls.take j).map (trx T)) (fun x _=>M.U0b x);have h3:=E2c T ls j;have h4:=congrArg List.length h;rw[List.length_map]at h4;omega
theorem R8c {T:List M.Ty} {z:Nat} (hT:M.TsOk T) (hz:z<T.length) (hk:T[z].kind=10):M.wgL (T[z].list.map (trx T))<=M.wg (M.tr T z):=by
 have e:(T[z].list.map fun x=>M.tr T x.toNat)=T[z].list.map (trx T):=rfl;rw[M.S6 hT hz,M.wg,if_neg (by omega),H0a hT hz (.inr hk),e];simp
theorem U3a {l:List M.Tr} (h0:l≠[]) (h:∀t∈l,M.flat t≠[]):M.I5 l≠[]:=by
 cases l with
 |nil=>exact absurd rfl h0
 |cons t r=>
  rw[M.I5];intro e;exact h t (by simp) (List.append_eq_nil_iff.1 e).1
theorem W8b (t:M.Tr) (h:M.Wf t):M.flat t≠[]:=by
 induction h with
 |plain k h1 h2=>rw[M.flat,if_neg (by omega)];simp
 |obj ns ks a b c d _=>rw[M.flat,if_neg (by decide)];simp
 |arr t a _=>rw[M.flat,if_neg (by decide)];simp
 |fn t ps a b _ _=>rw[M.flat,if_neg (by decide)];simp
 |uni ks h2 h ih=>
  rw[M.flat,if_pos rfl];exact U3a (by rintro rfl;simp at h2) ih
def ApP (T:List M.Ty) (ls:List Int) (w:World) (e:Ending) (w':World):Prop:=∃(ad:Option Addr) (c:Nat) (out:List Int),e= .returned (.slice ad out.length c)/\Chg No w w'/\w'.ownsRow w.heap.size 3 1 (.slice ad out.length c) out.length (C7 out)/\(∀x∈out,0<=x/\x<T.length)/\out.map (trx T)=M.I5 (ls.map (trx T))
section
variable {lb mb N:Nat} {T:List M.Ty} {D:Dt}
def I2d (lb mb N:Nat) (T:List M.Ty) (D:Dt) (m:Nat):Prop:=∀(ls:List Int) (w:World) (la:Option Addr) (lc:Nat),(∀x∈ls,0<=x/\x<(m:Int)/\x<T.length)->Shp w lb mb N T D->w.ownsRow 0 3 1 (.slice la ls.length lc) ls.length (C7 ls)->ls.length<=100000000->M.wgL (ls.map (trx T))<=1000000000->
 Calls Tryz.prog 125 #[pV lb,.slice la ls.length lc] w (ApP T ls w)
theorem T3b (hf:Few T) {m:Nat} (IH:∀z,z<m->I2d lb mb N T D z):I2d lb mb N T D m:=by
 intro ls w la lc hls h hol hn hwg;have hT:=h.ok;obtain⟨i0,hi,hz0,hz1,hz2⟩:=info_parts Tryz.infoInt;have FS:Hid (∀a,Chg No w a->Shp a lb mb N T D):=fun a ha=>h.still ha;have FO:Hid (∀a,Chg No w a->a.ownsRow 0 3 1 (.slice la ls.length lc) ls.length (C7 ls)):=fun a ha=>A8 hol ha (fun _ _ x=>x);clear h hol;go_enter Tryz.func125,Tryz.ntmps125;go_wp2_with fail
 go_loopw [11,5] (fun v u wr=>∃(j:Nat) (out:List Int) (ad:Option Addr) (ac:Nat),j<=ls.length/\v=iV (j:Int)/\u= .slice ad out.length ac/\Hid (Chg No w wr)/\Hid (wr.ownsRow w.heap.size 3 1 (.slice ad out.length ac) out.length (C7 out))/\Hid (∀x∈out,0<=x/\x<(T.length:Int))/\Hid (out.map (trx T)=M.I5 ((ls.take j).map (trx T)))) (fun v _ _=>ls.length - (intOf v).toNat)
 case atStart=>exact⟨0,[],none,0,Nat.zero_le _,rfl,rfl,Chg.refl _ _,World.ownsRow_nil _ _ _ _,(show∀x∈([]:List Int),_ from by simp),(show _=_ from by simp[M.I5])⟩
 case round=>
  obtain⟨j,out,ad,ac,hj,rfl,rfl,CR,OR,IR,ER⟩:=hrel;by_cases hjl:j<ls.length
  · have hxx:=hls ls[j] (List.getElem_mem hjl);have HT1:=A0 (R7b T ls hjl);have hol2:=C6b ER.out;have hmem:=M.B4b (List.mem_map.2 ⟨ls[j],List.getElem_mem hjl,rfl⟩:trx T ls[j]∈ls.map (trx T));obtain⟨g,hla,hg,hg1,hg2,y0⟩:=D7 (FO.out wr CR.out) hjl;subst hla;unfold maxLen at hg2;generalize ls[j]=xx at *;obtain⟨z,rfl⟩:∃z:Nat,xx=(z:Int):=⟨xx.toNat,by omega⟩;have hz:z<T.length:=by omega
    have htz:trx T (z:Int)=M.tr T z:=by simp[trx]
    rw[htz]at hmem HT1;obtain⟨ad3,c3,c0,-,hlb,-,hcell⟩:=(FS.out wr CR.out).cell;obtain⟨g3,fa,fc,la2,lc2,rfl,hg3,hc1,hc2,x0,x1,x2,x3,-,ol1⟩:=hcell z hz;unfold maxLen at hc2;clear hcell;have hfz:=hf z hz;have hlst:=(hT z hz).lst;have HU:=A0 (fun hk=>N4c hT hz hk);have HO:=A0 (fun hk=>R8b hT hz hk);have hwu:=fun hk=>R8c hT hz hk;have hnl:T[z].kind=10->T[z].list≠[]:=by
     intro hk;rcases hT z hz with ht|ht|ht|ht|ht
     · omega
     · omega
     · omega
     · omega
     · rintro e;have:=ht.2.2.1;rw[e]at this;simp at this
    have hwf:=fun x (hx:x∈T[z].list)=>M.Y3a hT x.toNat (by have:=hlst x hx;omega);generalize T[z].kind=k at *;generalize T[z].fields=fs at *;generalize T[z].list=zs at *;generalize T[z].of'=o at *;have hca:Chg No w (wr.alloc (.cells #[iV k,.slice fa fs.length fc,.slice la2 zs.length lc2,iV o] 68)):=CR.out.trans (Chg.alloc _ _ _) (fun _ _ x=>x);have SZ:w.heap.size<=wr.heap.size:=CR.out.size;by_cases hk:k=10
    · subst hk;have HA:=A0 (IH z (by omega) zs _ la2 lc2 (fun x hx=>by have:=hlst x hx;omega) (FS.out _ hca) (ol1.alloc _) hfz.1 (by have:=hwu rfl;omega));have HO1:=A0 (OR.out.alloc (.cells #[iV 10,.slice fa fs.length fc,.slice la2 zs.length lc2,iV o] 68));have HNE:Hid (M.I5 (zs.map (trx T))≠[]):=U3a (by simpa using hnl rfl) (fun t ht=>by
       obtain⟨x,hx,rfl⟩:=List.mem_map.1 ht;exact W8b _ (hwf x hx))
      have hwu2:=hwu rfl;have HEZ:=A0 (HU.out rfl);have HCA:=A0 hca;clear hca OR CR ol1 hwu hnl hwf hlst HU HO;go_wp2_with fail
      refine HA.out.mono ?_;rintro e w2 ⟨ad2,c2,out2,rfl,h2,h3,h4,h5⟩;have hl2:=C6b (ls:=zs) (j:=zs.length) (by rw[List.take_length];exact h5);have hpos:0<out2.length:=by
       rcases Nat.eq_zero_or_pos out2.length with h0|h0
       · have:=congrArg List.length h5;rw[List.length_map,h0]at this;exact absurd (List.length_eq_zero_iff.1 this.symm) HNE.out
       · exact h0
      obtain⟨q,rfl,hq1,hq2,-,-,hqc⟩:=E7 h3 hpos;have HO2:=A0 (A8 HO1.out h2 (fun _ _ x=>x));have HN:Hid (∀i u,(C7 out2)[i]? =some u->w2.cell? (((aD q 0):Addr).add i)=some u):=by
       intro i u hu;have hadd:((aD q 0):Addr).add i=(aD q i):=by unfold Addr.add;split<;>simp_all
       rw[hadd];exact hqc i u hu
      have H1:Hid (∀u∈C7 out2,u.oneCell'=true):=by
       intro u hu;unfold C7 at hu;obtain⟨x,-,rfl⟩:=List.mem_map.1 hu;rfl
      have HL:Hid ((C7 out2).length=out2.length * 1):=(show _=_ from by simp[C7]);have HC2:=A0 (HCA.out.trans h2 (fun _ _ x=>x));have H4:=A0 h4;have H5:=A0 h5;clear HA HO1 h2 h3 h4 h5 hqc HCA;go_wp2_with (at_builtin;refine wpList_append_own _ rfl _ _ 48 rfl w.heap.size 3 i0 (iV 0) 1 8 Tryz.underlying48 hi hz0 hz1 hz2 rfl (by decide) _ _ _ rfl HO2.out (aD q 0) out2.length c2 (C7 out2) rfl HL.out HN.out H1.out ?c3 ?c4 ?c5 ?_)
      case c3=>simp only[maxLen];omega
      case c4=>omega
      case c5=>have:=HC2.out.size;omega
      intro v' w3 hown3 hg3 _;have e3:out.length+out2.length=(out++out2).length:=by simp
      rw[e3,show C7 out++C7 out2=C7 (out++out2) from by simp[C7]]at hown3;obtain⟨ad4,c4,rfl⟩:=B6 hown3;have HOW:=A0 hown3;have HC3:Hid (Chg No w w3):=(((Chg.mono HC2.out (S':=fun k=>w.heap.size<=k) (fun _ _ x=>x.elim)).trans (Chg.grown hg3) (fun k hk x=>(A9 HO2.out k x.symm).1))).mono (fun k hk x=>by omega);clear hown3 hg3;go_wp2;go_roundw
      case rel=>
       refine⟨j+1,out++out2,ad4,c4,by omega,by go_num,rfl,HC3.out,HOW.out,fun x hx=> ?_, ?_⟩
       · rcases List.mem_append.1 hx with hx|hx
         · exact IR.out x hx
         · exact H4.out x hx
       · show _=_;rw[HT1.out,List.map_append,ER.out,H5.out,HEZ.out]
      case measure=>simp[intOf];omega
    · have hkb:(k==10)=false:=by simp[hk]
      have HEZ:=A0 (HO.out hk);have HO1:=A0 ((OR.out.alloc (.cells #[iV k,.slice fa fs.length fc,.slice la2 zs.length lc2,iV o] 68)).alloc (.cells #[iV (z:Int)] 3));have HCA:=A0 (hca.trans (Chg.alloc No _ (.cells #[iV (z:Int)] 3)) (fun _ _ x=>x));clear hca OR CR ol1 hwu hnl hwf hlst HU HO;go_wp2_with (at_builtin;refine wpList_append_own _ rfl _ _ 48 rfl w.heap.size 3 i0 (iV 0) 1 8 Tryz.underlying48 hi hz0 hz1 hz2 rfl (by decide) _ _ _ rfl HO1.out (aD (wr.heap.size+1) 0) 1 1 [iV (z:Int)] rfl rfl ?c1 ?c2 ?c3 ?c4 ?c5 ?_)
      case c1=>
       intro i u hu;match i,hu with
       |0,hu=>simp at hu;subst hu;simp[Addr.add]
      case c2=>intro u hu;simp at hu;subst hu;rfl
      case c3=>simp only[maxLen];omega
      case c4=>omega
      case c5=>simp;omega
      intro v' w3 hown3 hg3 _;have e3:out.length+1=(out++[(z:Int)]).length:=by simp
      rw[e3,show C7 out++[iV (z:Int)]=C7 (out++[(z:Int)]) from by simp[C7]]at hown3;obtain⟨ad4,c4,rfl⟩:=B6 hown3;have HOW:=A0 hown3;have HC3:Hid (Chg No w w3):=(((Chg.mono HCA.out (S':=fun k=>w.heap.size<=k) (fun _ _ x=>x.elim)).trans (Chg.grown hg3) (fun k hk x=>(A9 HO1.out k x.symm).1))).mono (fun k hk x=>by omega);clear hown3 hg3;go_wp2;go_roundw
      case rel=>
       refine⟨j+1,out++[(z:Int)],ad4,c4,by omega,by go_num,rfl,HC3.out,HOW.out,fun x hx=> ?_, ?_⟩
       · rcases List.mem_append.1 hx with hx|hx
         · exact IR.out x hx
         · simp at hx;subst hx;omega
       · show _=_;rw[HT1.out,List.map_append,ER.out,HEZ.out];simp[trx]
      case measure=>simp[intOf];omega
  · have hje:j=ls.length:=by omega
    subst hje;rw[List.take_length]at ER;go_wp2_with fail
    go_ret;exact⟨ad,ac,out,rfl,CR.out,OR.out,IR.out,ER.out⟩
theorem A7b (hf:Few T) (m:Nat):I2d lb mb N T D m:=by
 induction m using Nat.strongRecOn with
 |ind m ih=>exact T3b hf ih
end
open Go.RowKit Go.Maps
theorem X3b:∀(l acc:List M.Tr) (t:M.Tr),M.dd acc (l++[t])=if (M.dd acc l).any (fun u=>M.key u==M.key t) then M.dd acc l else M.dd acc l++[t]
 |[],acc,t=>by simp[M.dd]
 |u::r,acc,t=>by
  rw[List.cons_append,M.dd,M.dd];split<;>exact X3b r _ t
theorem G4d (l:List M.Tr) (k:List UInt8):(M.dd [] l).any (fun u=>M.key u==k)=decide ((l.map M.key).count k≠0):=by
 rw[Bool.eq_iff_iff,List.any_eq_true,decide_eq_true_iff];constructor
 · rintro⟨u,hu,e⟩;have:u∈l:=by
    rcases M.E6b _ _ u hu with h|h
    · simp at h
    · exact h
   have hc:k∈l.map M.key:=List.mem_map.2 ⟨u,this,by simpa using e⟩;have:=List.count_pos_iff.2 hc;omega
 · intro h;have hc:k∈l.map M.key:=List.count_pos_iff.1 (by omega);obtain⟨x,hx,e⟩:=List.mem_map.1 hc;obtain⟨u,hu,e2⟩:=M.E7b l [] x hx;exact⟨u,hu,by rw[e2,e];simp⟩
theorem L6c:Keyed Tryz.prog 9:=string_keyed Tryz.underlying9
theorem A1b (l:List UInt8) (h:l.length<=1000000000):keyOf Tryz.prog 9 (.string ⟨l.toArray⟩)=some (.string l):=by
 have hs:(⟨l.toArray⟩:ByteArray).size<=maxLen:=by simp[ByteArray.size];unfold maxLen;omega
 unfold keyOf;simp only[Tryz.underlying9];unfold mapKey;simp[Tryz.underlying9,hs]
structure Seen (w:World) (q:Nat) (m:Nat) (ks:List (List UInt8)):Prop where
 own:∃n D,w.ownsMap Tryz.prog 9 (plainElem (H:=Unit) Tryz.prog 3) q n D/\n<=m/\IsMap D/\∀s:List UInt8,D.atKey (.string s) (.lit (.int .i64 0))= .lit (.int .i64 ((ks.count s:Nat):Int))
theorem Seen.new (w:World):Seen (w.alloc (.map #[] 0)) w.heap.size 0 []:=⟨0,.map [],World.ownsMap_made w _ _ _,Nat.le_refl _,isMap_empty,fun _=>rfl⟩
theorem Seen.chg {S:Nat->Prop} {w w':World} {q m:Nat} {ks:List (List UInt8)} (h:Seen w q m ks) (hc:Chg S w w') (hn:¬S q):Seen w' q m ks:=by
 obtain⟨n,D,⟨es,cl,h1,h2⟩,r⟩:=h.own;exact⟨n,D,⟨es,cl,by rw[hc.block q (ltG h1) hn];exact h1,h2⟩,r⟩
theorem Seen.look {w:World} {q m:Nat} {ks:List (List UInt8)} (h:Seen w q m ks) (s:List UInt8) (hs:s.length<=1000000000):
 (Instr.lookup 155 (.map (some q)) (.string ⟨s.toArray⟩) false).run Tryz.prog w= .ok (.int .i64 ((ks.count s:Nat):Int)) w:=by
 obtain⟨n,D,ho,hn,hm,hat⟩:=h.own;obtain⟨c,hrun,h2,_⟩:=ho.lookup_int L6c Tryz.underlying155 Tryz.underlying3 (Tryz.zeroInt _) (A1b s hs);rw[hat s]at h2;simp only[DataW.lit.injEq,Lit.int.injEq,true_and]at h2;rw[h2];exact hrun
theorem Seen.put {w:World} {q m:Nat} {ks:List (List UInt8)} (h:Seen w q m ks) (s:List UInt8) (hs:s.length<=1000000000) (hm:m<=1000000000) (hk:ks.length<=200000000):
 ∃w',(Instr.mapUpdate 155 (.map (some q)) (.string ⟨s.toArray⟩) (.int .i64 (((ks.count s:Nat):Int)+1))).run Tryz.prog w= .ok () w'/\Seen w' q (m+1) (ks++[s])/\Chg (fun k=>k=q) w w':=by
 obtain⟨n,D,ho,hn,hmap,hat⟩:=h.own;have hcl:ks.count s<=ks.length:=List.count_le_length;have hwf:(Lit.int .i64 (((ks.count s:Nat):Int)+1)).wf=true:=by
  have:=Q9 (ks.count s+1) (by omega);simpa using this
 obtain⟨w',hrun,ho',hg⟩:=ho.update L6c Tryz.underlying155 (by unfold maxLen;omega) (A1b s hs) (plainElem_int Tryz.underlying3 hwf);refine⟨w',hrun,⟨n+1,_,ho',by omega,hmap.put _ _,fun u=> ?_⟩,(Chg.grown hg).mono (fun k _ x=>by simpa using x)⟩;by_cases hu:u=s
 · subst hu;rw[atKey_put_same hmap (show WideAt.IsKeyLit (.string u) from trivial)];simp
 · rw[atKey_put_other (by simpa using hu),hat u,List.count_append];have:List.count u [s]=0:=by simp[List.count_singleton];exact fun e=>hu e.symm
   rw[this];simp
def UnP (lb mb N:Nat) (T:List M.Ty) (D:Dt) (ok:Nat->Prop) (ls:List Int) (w:World) (e:Ending) (w':World):Prop:=
 ∃(r:Nat) (X:List M.Ty),e= .returned (.int .i64 (r:Int))/\X.length<=1/\r<(T++X).length/\Sho w' lb mb N (T++X) D ok/\Few (T++X)/\M.tr (T++X) r=M.Y2 (ls.map (trx T))/\∃v,w.cell? (aD lb 0)=some v/\Chg (G3a lb v) w w'
theorem H7d {T:List M.Ty} {z:Nat} (hT:M.TsOk T) (hz:z<T.length) (hk:T[z].kind=5):M.tr T z= .nd 5 [] []:=by
 rcases hT z hz with ht|ht|ht|ht|ht
 · rw[M.S6 hT hz,if_neg (by omega),ht.2.2.1,ht.2.2.2,hk];rfl
 · omega
 · omega
 · omega
 · omega
section
variable {lb mb N:Nat} {T:List M.Ty} {D:Dt}
theorem Q4b {ok:Nat->Prop} (w:World) (hO:Sho w lb mb N T D ok) (hok:∀g,w.heap.size<=g->ok g) (hf:Few T) (ls:List Int) (hls:∀x∈ls,0<=x/\x<(T.length:Int)) (hne:ls≠[]) (la:Option Addr) (lc:Nat) (hol:w.ownsRow 0 3 1 (.slice la ls.length lc) ls.length (C7 ls)) (hn:ls.length<=2001) (hwg:M.wgL (ls.map (trx T))<=200000000) (hN:T.length+1<=N):
 Calls Tryz.prog 94 #[pV lb,.slice la ls.length lc] w (UnP lb mb N T D ok ls w):=by
 have h:=hO.shp;have HSO:=A0 hO;have HOK:=A0 hok;clear hO hok;have hT:=h.ok;have hmm:=@run_makeMap Tryz.prog;obtain⟨i0,hi,hz0,hz1,hz2⟩:=info_parts Tryz.infoInt;have hmlt:=h.mst.lt;have hc0:Chg No w (w.alloc (.map #[] 0)):=Chg.alloc _ _ _;have HA:=A0 (A7b (lb:=lb) (mb:=mb) (N:=N) (D:=D) hf T.length ls (w.alloc (.map #[] 0)) la lc (fun x hx=>by have:=hls x hx;omega) (h.still hc0) (hol.alloc _) (by omega) (by omega));have SN:=A0 (Seen.new w);have HS:=A0 (h.still hc0);have HNE:Hid (M.I5 (ls.map (trx T))≠[]):=U3a (by simpa using hne) (fun t ht=>by
  obtain⟨x,hx,rfl⟩:=List.mem_map.1 ht;exact W8b _ (M.Y3a hT x.toNat (by have:=hls x hx;omega)))
 obtain⟨yv,yx,hbk,hyo,-⟩:=h.blk;have V0:Hid (w.cell? (aD lb 0)=some yv):=(show _=_ from cr hbk rfl);have HC0:=A0 hc0;have hlb:=(ltG hbk);clear h hol hbk hyo hc0;go_enter Tryz.func94,Tryz.ntmps94;go_wp2_with fail
 refine HA.out.mono ?_;rintro e w1 ⟨pa,pc,ps,rfl,h1,h2,h3,h4⟩;have hpl:=C6b (ls:=ls) (j:=ls.length) (by rw[List.take_length];exact h4);simp only[World.size_alloc]at h2;have S1:=A0 (SN.out.chg h1 (fun x=>x));have HS1:=A0 (HS.out.still h1);have HC1:=A0 (HC0.out.trans h1 (fun _ _ x=>x));have hsz1:w.heap.size+1<=w1.heap.size:=by have:=h1.size;simpa using this
 have FP:Hid (∀a,Chg (fun k=>k=w.heap.size) w1 a->a.ownsRow 0 3 1 (.slice pa ps.length pc) ps.length (C7 ps)):=fun a ha=>C9 (A8 h2 ha (fun g hg x=>by have:=(A9 h2 g hg).1;omega)) (Nat.zero_le _);have FS:Hid (∀a,Chg (fun k=>k=w.heap.size) w1 a->Shp a lb mb N T D):=by
  intro a ha;refine HS1.out.chg ha (HS1.out.mst.chg ha (by omega)) (fun k cur e hk _ x=> ?_);obtain⟨n,Dm,⟨es,cl,hh,_⟩,_⟩:=S1.out.own;have x':k=w.heap.size:=x;rw[x',hh]at hk;cases hk
 have FC:Hid (∀a,Chg (fun k=>k=w.heap.size) w1 a->Chg No w a):=fun a ha=>((HC1.out.mono (S':=fun k=>k=w.heap.size) (fun _ _ x=>x.elim)).trans ha (fun _ _ x=>x)).mono (fun k hk x=>by omega);have HI:=A0 h3;have HP:=A0 h4;clear h1 h2 h3 h4 HA SN HS;go_wp2_with fail
 go_loopw [15,5] (fun v u wr=>∃(j:Nat) (acc:List Int) (ad:Option Addr) (ac:Nat),j<=ps.length/\v= .int .i64 (j:Int)/\u= .slice ad acc.length ac/\Hid (Chg (fun k=>k=w.heap.size) w1 wr)/\Hid (wr.ownsRow w1.heap.size 3 1 (.slice ad acc.length ac) acc.length (C7 acc))/\Hid (∀x∈acc,0<=x/\x<(T.length:Int))/\
  Hid (Seen wr w.heap.size j ((ps.take j).map fun x=>M.key (trx T x)))/\Hid (acc.map (trx T)=M.dd [] ((ps.take j).map (trx T)))/\Hid (∀x∈ps.take j,(trx T x).k≠5)) (fun v _ _=>ps.length - (intOf v).toNat)
 case atStart=>exact⟨0,[],none,0,Nat.zero_le _,rfl,rfl,Chg.refl _ _,World.ownsRow_nil _ _ _ _,(show∀x∈([]:List Int),_ from by simp),S1.out,(show _=_ from rfl),(show∀x∈ps.take 0,_ from by simp)⟩
 case round=>
  obtain⟨j,acc,ad,ac,hj,rfl,rfl,CR,OR,IR,SR,ER,NR⟩:=hrel;have hwr:w1.heap.size<=wr.heap.size:=CR.out.size;have hal:acc.length<=ps.length:=by
   have e1:=congrArg List.length ER.out;have e2:∀(l a:List M.Tr),(M.dd a l).length<=a.length+l.length:=by
    intro l;induction l with
    |nil=>intro a;simp[M.dd]
    |cons t r ih=>
     intro a;rw[M.dd];split
     · have:=ih a;simp;omega
     · have:=ih (a++[t]);simp at this⊢;omega
   have e3:=e2 ((ps.take j).map (trx T)) [];simp at e1 e3;omega
  by_cases hjl:j<ps.length
  · have hxx:=HI.out ps[j] (List.getElem_mem hjl);have hmemf:trx T ps[j]∈M.I5 (ls.map (trx T)):=by rw[<-HP.out];exact List.mem_map.2 ⟨_,List.getElem_mem hjl,rfl⟩
    have hwx:M.wg (trx T ps[j])<=200000000:=by
     have e1:=M.B4b hmemf;have e2:=M.J8a (ls.map (trx T)) (fun x _=>M.U0b x);omega
    have hmemps:ps[j]∈ps:=List.getElem_mem hjl;have HTK:=A0 (List.take_succ_eq_append_getElem hjl);obtain⟨g,hpa,hg,hg1,hg2,y0⟩:=D7 (FP.out wr CR.out) hjl;subst hpa;unfold maxLen at hg2;generalize ps[j]=xx at *;obtain⟨z,rfl⟩:∃z:Nat,xx=(z:Int):=⟨xx.toNat,by omega⟩;have hz:z<T.length:=by omega
    have htz:trx T (z:Int)=M.tr T z:=by simp[trx]
    rw[htz]at hwx hmemf;have SHR:=A0 (FS.out wr CR.out);obtain⟨ad3,c3,c0,-,hlbr,-,hcell⟩:=SHR.out.cell;obtain⟨g3,fa,fc,la2,lc2,rfl,hg3,hc1,hc2,x0,-,-,-,-,-⟩:=hcell z hz;unfold maxLen at hc2;clear hcell;have HAN:=A0 (fun hk=>H7d hT hz hk);have HK5:Hid ((M.tr T z).k=T[z].kind):=(show _=_ from by rw[M.S6 hT hz];rfl);have HKY:=A0 (W0c wr SHR.out hf z hz (by omega));have e1:wtx true T z=M.key (M.tr T z):=rfl;have hkl:(M.key (M.tr T z)).length<=1000000000:=by
     have:=T8b (bn:=true) (T:=T) (i:=z);rw[e1]at this;omega
    rw[e1]at HKY;by_cases hk5:T[z].kind=5
    · generalize T[z].kind=k at *;subst hk5;have HUN:Hid (M.Y2 (ls.map (trx T))=M.tr T z):=by
       show _=_;unfold M.Y2;rw[if_pos (List.any_eq_true.2 ⟨M.tr T z,hmemf,by rw[HK5.out];rfl⟩)];exact(HAN.out rfl).symm
      have HCW:=A0 (FC.out wr CR.out);clear CR OR SR HKY;go_wp2_with fail
      go_ret;exact⟨z,[],rfl,by simp,by simpa using hz,by rw[List.append_nil];exact HSO.out.still HCW.out,by rw[List.append_nil];exact hf,by rw[List.append_nil];exact HUN.out.symm,yv,V0.out,HCW.out.mono fun _ _ x=>x.elim⟩
    · have hkb:(T[z].kind==5)=false:=by simp[hk5]
      have hk5':(M.tr T z).k≠5:=by rw[HK5.out];exact hk5
      have HKN:=A0 hk5';generalize T[z].kind=k at *;generalize hKK:M.key (M.tr T z)=kk at *;have HKK:=A0 hKK;clear hKK;have SRR:=A0 SR.out;have CRR:=A0 CR.out;have ORR:=A0 OR.out;clear SR CR OR hk5';go_wp2_with fail
      refine HKY.out.mono ?_;rintro e w2 ⟨rfl,k2⟩;have hc2:Chg (fun k=>k=w.heap.size) w1 w2:=CRR.out.trans k2 (fun _ _ x=>x.elim);have hs2:=SRR.out.chg k2 (fun x=>x);have hw2:wr.heap.size<=w2.heap.size:=k2.size;have hlk:=hs2.look kk hkl;obtain⟨w3,hup,hs3,k3⟩:=hs2.put kk hkl (by omega) (by simp;omega);have hlk3:=hs3.look kk hkl;have hcount:((((ps.take j).map fun x=>M.key (trx T x))++[kk]).count kk:Int)=(((ps.take j).map fun x=>M.key (trx T x)).count kk:Int)+1:=by simp
      rw[hcount]at hlk3;have hcl:((ps.take j).map fun x=>M.key (trx T x)).count kk<=200000000:=by
       have:=List.count_le_length (a:=kk) (l:=(ps.take j).map fun x=>M.key (trx T x));rw[List.length_map,List.length_take]at this;omega
      have HDD:Hid ((M.dd [] ((ps.take j).map (trx T))).any (fun u=>M.key u==kk)=decide (((ps.take j).map fun x=>M.key (trx T x)).count kk≠0)):=by
       have:=G4d ((ps.take j).map (trx T)) kk;rw[List.map_map]at this;exact this
      have HTKm:Hid ((ps.take (j+1)).map (fun x=>M.key (trx T x))=((ps.take j).map fun x=>M.key (trx T x))++[kk]):=by
       show _=_;rw[HTK.out,List.map_append];simp[htz,HKK.out]
      generalize ((ps.take j).map fun x=>M.key (trx T x)).count kk=cnt at *;have HC3:=A0 (hc2.trans k3 (fun _ _ x=>x));have HS3:=A0 hs3;have HK23:=A0 (k2.mono (S':=fun k=>k=w.heap.size) (fun _ _ x=>x.elim)|>.trans k3 (fun _ _ x=>x));have hw3:w2.heap.size<=w3.heap.size:=k3.size;have HO3:=A0 (A8 ORR.out HK23.out (fun g hg x=>by have:=(A9 ORR.out g hg).1;omega));clear hs2 hs3 k2 k3 hc2 hcount HKY;have HNR:Hid (∀x∈ps.take (j+1),(trx T x).k≠5):=by
       intro x hx;rw[HTK.out]at hx;rcases List.mem_append.1 hx with hx|hx
       · exact NR.out x hx
       · simp at hx;subst hx;rw[htz];exact HKN.out
      have HSN:Hid (Seen w3 w.heap.size (j+1) ((ps.take (j+1)).map fun x=>M.key (trx T x))):=by
       have:=HS3.out;rw[<-HTKm.out]at this;exact this
      have HDN:Hid (M.dd [] ((ps.take (j+1)).map (trx T))=if cnt≠0 then M.dd [] ((ps.take j).map (trx T)) else M.dd [] ((ps.take j).map (trx T))++[M.tr T z]):=by
       show _=_;rw[HTK.out,List.map_append,List.map_cons,List.map_nil,htz,X3b,HKK.out,HDD.out];simp only[decide_eq_true_eq]
      by_cases hc0:cnt=0
      · subst hc0;have e01:((0:Nat):Int)+1=1:=rfl;rw[e01]at hup hlk3;have HO4:=A0 (HO3.out.alloc (.cells #[.int .i64 (z:Int)] 3));go_wp2_with (at_builtin;refine wpList_append_own _ rfl _ _ 48 rfl w1.heap.size 3 i0 (.int .i64 0) 1 8 Tryz.underlying48 hi hz0 hz1 hz2 rfl (by decide) _ _ _ rfl HO4.out (aD w3.heap.size 0) 1 1 [.int .i64 (z:Int)] rfl rfl ?c1 ?c2 ?c3 ?c4 ?c5 ?_)
        case c1=>
         intro i u hu;match i,hu with
         |0,hu=>simp at hu;subst hu;simp[Addr.add]
        case c2=>intro u hu;simp at hu;subst hu;rfl
        case c3=>simp only[maxLen];omega
        case c4=>omega
        case c5=>simp;omega
        intro v' w4 hown4 hg4 _;have e3:acc.length+1=(acc++[(z:Int)]).length:=by simp
        rw[e3,show C7 acc++[.int .i64 (z:Int)]=C7 (acc++[(z:Int)]) from by simp[C7]]at hown4;obtain⟨ad4,c4,rfl⟩:=B6 hown4;have HOW:=A0 hown4;have hca:=Chg.alloc (fun k=>w1.heap.size<=k) w3 (.cells #[.int .i64 (z:Int)] 3);have hcb:Chg (fun k=>w1.heap.size<=k) w3 w4:=hca.trans (Chg.grown hg4) (fun k hk x=>(A9 HO4.out k x.symm).1);have HC4:Hid (Chg (fun k=>k=w.heap.size) w1 w4):=((HC3.out.mono (S':=fun k=>k=w.heap.size\/w1.heap.size<=k) (fun _ _ x=> .inl x)).trans hcb (fun _ _ x=> .inr x)).mono (fun k hk x=>by
         rcases x with x|x
         · exact x
         · omega)
        have HS4:Hid (Seen w4 w.heap.size (j+1) ((ps.take (j+1)).map fun x=>M.key (trx T x))):=HSN.out.chg hcb (by omega);clear hown4 hg4 hca hcb;go_wp2;go_roundw
        case rel=>
         refine⟨j+1,acc++[(z:Int)],ad4,c4,by omega,by go_num,rfl,HC4.out,HOW.out,fun x hx=> ?_,HS4.out, ?_,HNR.out⟩
         · rcases List.mem_append.1 hx with hx|hx
           · exact IR.out x hx
           · simp at hx;subst hx;omega
         · show _=_;rw[HDN.out,if_neg (by simp),List.map_append,ER.out];simp[htz]
        case measure=>simp[intOf];omega
      · have hcne:((cnt:Int)+1==1)=false:=by simp;omega
        go_wp2_with fail
        go_roundw
        case rel=>exact⟨j+1,acc,ad,ac,by omega,by go_num,rfl,HC3.out,HO3.out,IR.out,HSN.out,(show _=_ from by rw[HDN.out,if_pos hc0,ER.out]),HNR.out⟩
        case measure=>simp[intOf];omega
  · have hje:j=ps.length:=by omega
    subst hje;rw[List.take_length]at ER NR;have HCW:=A0 (FC.out wr CR.out);have SHR:=A0 (FS.out wr CR.out);have hany:(M.I5 (ls.map (trx T))).any (fun t=>t.k==5)=false:=by
     rw[<-HP.out,List.any_map,Bool.eq_false_iff];intro hx;obtain⟨x,hx,e⟩:=List.any_eq_true.1 hx;exact NR.out x hx (by simpa using e)
    have HUN:Hid (M.Y2 (ls.map (trx T))=match acc.map (trx T) with
     |[]=> .nd 5 [] []
     |[t]=>t
     |t::u::r=> .nd 10 [] (t::u::r)):=by
     show _=_;unfold M.Y2;rw[if_neg (by rw[hany];decide),<-HP.out,<-ER.out];rfl
    have hacc:acc≠[]:=by
     rintro rfl;have e1:=ER.out;have hne2:=HNE.out;rw[<-HP.out]at hne2;obtain⟨t,r,e2⟩:=List.exists_cons_of_ne_nil hne2;obtain⟨u,hu,-⟩:=M.E7b (ps.map (trx T)) [] t (by rw[e2];simp);rw[<-e1]at hu;simp at hu
    have OR2:=A0 OR.out;clear CR OR SR hany;have hal2:acc.length<=100000000:=by omega
    match acc,hacc with
    |[x],_=>
     obtain⟨g,hga,hg,hg1,hg2,y0⟩:=D7 (ls:=[x]) (C9 OR2.out (Nat.zero_le _)) (j:=0) (by simp);subst hga;unfold maxLen at hg2;have hx:=IR.out x (by simp);simp only[List.getElem_cons_zero]at y0;obtain⟨z,rfl⟩:∃z:Nat,x=(z:Int):=⟨x.toNat,by omega⟩;have htz:trx T (z:Int)=M.tr T z:=by simp[trx]
     simp only[List.length_cons,List.length_nil,Nat.zero_add]at *;go_wp2_with fail
     go_ret;exact⟨z,[],rfl,by simp,by rw[List.append_nil];omega,by rw[List.append_nil];exact HSO.out.still HCW.out,by rw[List.append_nil];exact hf,by rw[List.append_nil,HUN.out];simp[htz],yv,V0.out,HCW.out.mono fun _ _ x=>x.elim⟩
    |x::y::r,_=>
     have ht:M.TyOk ⟨10,[],x::y::r,0⟩ T.length:= .inr (.inr (.inr (.inr ⟨rfl,rfl,by simp,fun u hu=>IR.out u hu⟩)));have htv:TyV wr ok ⟨10,[],x::y::r,0⟩ [.int .i64 10,sN,.slice ad (x::y::r).length ac,.int .i64 0]:=⟨_,_,rfl,World.ownsRow_nil _ _ _ _,C9 OR2.out (Nat.zero_le _),fun g hg=>by simp[Value.ownBlock]at hg,fun g hg=>HOK.out g (by have:=(A9 OR2.out g hg).1;omega)⟩;have HPUT:=A0 (Q5a wr (HSO.out.still HCW.out) ⟨10,[],x::y::r,0⟩ none ad 0 0 (x::y::r).length ac htv ht hN);have HTR:Hid (M.tr (T++[⟨10,[],x::y::r,0⟩]) T.length=M.Y2 (ls.map (trx T))):=by
      show _=_;rw[M.I2a hT ht,HUN.out];simp[trx]
     have HFE:Hid (Few (T++[⟨10,[],x::y::r,0⟩])):=by
      intro i hi;by_cases hil:i<T.length
      · rw[List.getElem_append_left hil];exact hf i hil
      · have e:i=T.length:=by simp at hi;omega
        subst e;simp only[List.getElem_concat_length];exact⟨hal2,by simp⟩
     have e0:((((x::y::r).length:Nat):Int)==0)=false:=by simp;omega
     have e1:((((x::y::r).length:Nat):Int)==1)=false:=by simp;omega
     generalize (x::y::r).length=nn at *;go_wp2_with fail
     refine HPUT.out.mono ?_;rintro e w5 ⟨rfl,⟨v5,hv5,hc5⟩,hs5⟩;have hv6:v5=yv:=by
      have e6:wr.cell? (aD lb 0)=some yv:=by rw[World.cell?_of_block (HCW.out.block lb hlb (fun x=>x))];exact V0.out
      rw[hv5]at e6;exact Option.some.inj e6
     subst hv6;have HC5:=A0 ((HCW.out.mono (S':=G3a lb v5) (fun _ _ x=>x.elim)).trans hc5 (fun _ _ x=>x));have HS5:=A0 hs5;clear hc5 hs5 hv5;go_wp2;go_ret;exact⟨T.length,[⟨10,[],x::y::r,0⟩],rfl,by simp,by simp,HS5.out,HFE.out,HTR.out,v5,V0.out,HC5.out⟩
end
open Go.RowKit Go.Maps
section
variable {lb mb N:Nat} {T:List M.Ty} {D:Dt}
theorem Q3b {ok:Nat->Prop} (w:World) (hO:Sho w lb mb N T D ok) (hf:Few T) (hN:T.length+1<=N):
 Calls Tryz.prog 94 #[pV lb,sN] w (UnP lb mb N T D ok [] w):=by
 have h:=hO.shp;have hT:=h.ok;have hmm:=@run_makeMap Tryz.prog;have hc0:Chg No w (w.alloc (.map #[] 0)):=Chg.alloc _ _ _;have HA:=A0 (A7b (lb:=lb) (mb:=mb) (N:=N) (D:=D) hf T.length [] (w.alloc (.map #[] 0)) none 0 (fun x hx=>by simp at hx) (h.still hc0) (World.ownsRow_nil _ _ _ _) (by simp) (by simp[M.wgL]));obtain⟨yv,yx,hbk,hyo,-⟩:=h.blk;have V0:Hid (w.cell? (aD lb 0)=some yv):=(show _=_ from cr hbk rfl);have hlb:=(ltG hbk);have ht:M.TyOk ⟨5,[],[],0⟩ T.length:= .inl ⟨by decide,by decide,rfl,rfl⟩;have HPUT:Hid (∀u,Chg No w u->_):=fun u hu=>Q5a u (hO.still hu) ⟨5,[],[],0⟩ none none 0 0 0 0 ⟨_,_,rfl,World.ownsRow_nil _ _ _ _,World.ownsRow_nil _ _ _ _,fun g hg=>by simp[Value.ownBlock]at hg,fun g hg=>by simp[Value.ownBlock]at hg⟩ ht hN;have HTR:Hid (M.tr (T++[⟨5,[],[],0⟩]) T.length=M.Y2 (([]:List Int).map (trx T))):=by
  show _=_;rw[M.I2a hT ht];rfl
 have HFE:Hid (Few (T++[⟨5,[],[],0⟩])):=by
  intro i hi;by_cases hil:i<T.length
  · rw[List.getElem_append_left hil];exact hf i hil
  · have e:i=T.length:=by simp at hi;omega
    subst e;simp only[List.getElem_concat_length];exact⟨by simp,by simp⟩
 have HC0:=A0 hc0;clear h hbk hyo hc0 hO hf;go_enter Tryz.func94,Tryz.ntmps94;go_wp2_with fail
 refine HA.out.mono ?_;rintro e w1 ⟨pa,pc,ps,rfl,h1,h2,h3,h4⟩;have hps:ps=[]:=by
  have e1:(ps.map (trx T)).length=0:=by rw[h4];simp[M.I5]
  rw[List.length_map]at e1;exact List.length_eq_zero_iff.1 e1
 subst hps;have HC1:=A0 (HC0.out.trans h1 (fun _ _ x=>x));clear h1 h2 h3 h4 HA HC0;simp only[List.length_nil];go_wp2_with fail
 go_loopw [15,5] (fun v u wr=>v=iV 0/\u=sN/\Hid (Chg No w wr)) (fun _ _ _=>0)
 case atStart=>exact⟨rfl,rfl,HC1.out⟩
 case round=>
  obtain⟨rfl,rfl,CR⟩:=hrel;have HP:=A0 (HPUT.out wr CR.out);have VR:wr.cell? (aD lb 0)=some yv:=A4 CR.out V0.out;have HVR:=A0 VR;clear VR HPUT;go_wp2_with fail
  refine HP.out.mono ?_;rintro e w5 ⟨rfl,⟨v5,hv5,hc5⟩,hs5⟩;have hv6:v5=yv:=by
   have:=HVR.out;rw[hv5]at this;exact Option.some.inj this
  subst hv6;have HC5:=A0 ((CR.out.mono (S':=G3a lb v5) (fun _ _ x=>x.elim)).trans hc5 (fun _ _ x=>x));have HS5:=A0 hs5;clear hc5 hs5 hv5;go_wp2;go_ret;exact⟨T.length,[⟨5,[],[],0⟩],rfl,by simp,by simp,HS5.out,HFE.out,HTR.out,v5,V0.out,HC5.out⟩
end
end Go.Proofs.YtgdnpemiiageaaaGreatDoor
