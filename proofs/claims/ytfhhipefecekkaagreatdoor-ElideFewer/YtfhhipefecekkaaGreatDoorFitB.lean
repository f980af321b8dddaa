/-
  A part of the proof.
-/
import Derived.Test.YtfhhipefecekkaaGreatDoorFitA
import Derived.Deep.DeepCutAuto
set_option maxHeartbeats 16000000
set_option maxRecDepth 100000
namespace Go.Proofs.YtfhhipefecekkaaGreatDoor
open Go.Proofs.Tryz
open Go.RowKit Go.Maps
section
variable{lb mb N:Nat}{T:List M.Ty}
theorem Mid.trans{w w1 w2:World}{D D1:Dt}{m:Nat}(h:Mid w mb N T D m w1)(hd:∀p q,p<N->q<N->m<=p+q->at2 D1 p q=at2 D p q)(k:Mid w1 mb N T D1 m w2):Mid w mb N T D m w2:=by
 obtain⟨D2,h1,h2⟩:=k.memo;exact⟨h.chg.trans k.chg (λ_ _ x=>x),D2,h1,λp q hp hq hpq=>(h2 p q hp hq hpq).trans (hd p q hp hq hpq)⟩
theorem Mid.box{w w1:World}{D:Dt}{m q:Nat}{v:Value}{e:TypeId}{D0:Dt}(h:Mid w mb N T D m w1)(hm:Mst w mb N T D0)(hb:Box w q v e):Box w1 q v e:=hb.memo hm h.chg
theorem R2b(m:Nat)(IH:J3a lb mb N T m)(w:World)(D:Dt)(h:Shp w lb mb N T D)(fa:Option Addr)(fc:Nat)(has:List (List UInt8×Int))(ho:w.ownsRow 0 121 2 (.slice fa has.length fc) has.length (F5 has))
 (ga:Option Addr) (gc:Nat) (wants:List (List UInt8×Int)) (hw:w.ownsRow 0 121 2 (.slice ga wants.length gc) wants.length (F5 wants)) (qh ql:Nat)
 (hin:∀p∈has,0<=p.2/\p.2<T.length/\∀q∈wants,p.2+q.2+1<=m) (hin2:∀q∈wants,0<=q.2/\q.2<T.length) (hl:Box w ql (pV lb) 42) (hq:Box w qh (.slice fa has.length fc) 64):
 Calls prog 83 #[.slice ga wants.length gc,.func (.func 172) #[] #[pV qh,pV ql]] w λe w'=>
  (∃r:Int,e= .returned (.int .i64 r)/\decide (0<=r)=wants.any λp=> !M3 T has p)/\Mid w mb N T D m w':=by
 have HS:=A0 h;have HO:=A0 ho;have HW:=A0 hw;have HQ1:=A0 hl;have HQ2:=A0 hq;have HI:=A0 hin;have HJ:=A0 hin2;clear h ho hw hl hq hin hin2;go_enter func83,ntmps83;go_wp2;go_loopw [8] (λv wr=>∃j:Nat,j<=wants.length/\v= .int .i64 (j:Int)/\Hid ((wants.take j).any (λp=> !M3 T has p)=false)/\Hid (Mid w mb N T D m wr)) (λv _=>wants.length - (intOf v).toNat)
 case atStart=>exact⟨0,wQ _,rfl,by simp[Hid],Mid.refl HS.out m⟩
 case round=>
  obtain⟨j,hj,rfl,HA,KR⟩:=hrel;by_cases hjl:j<wants.length
  · obtain⟨g,rfl,hg,hl1,hl2,y0,y1⟩:=T6 (T4 HW.out HS.out.mst KR.out.chg) hjl;have hm:=mQ hjl;have hx:=HJ.out _ hm;have hxs:=λp hp=>(HI.out p hp).2.2 _ hm;have HT:=A0 (B7a (p:=λp=> !M3 T has p) hjl);have HM:=A0 hm;clear hm;generalize wants[j]=e0 at *;obtain⟨nm,yy⟩:=e0;simp only at y0 y1 hx hxs;obtain⟨z,rfl⟩:∃z:Nat,yy=(z:Int):=⟨yy.toNat,by omega⟩;obtain⟨D1,hs1,hd1⟩:=KR.out.shp HS.out;have HC:=K5c m IH wr D1 hs1 fa fc has (T4 HO.out HS.out.mst KR.out.chg) nm z qh ql (by omega) (λp hp=>⟨(HI.out p hp).1,(HI.out p hp).2.1,by have:=hxs p hp;omega⟩) (KR.out.box HS.out.mst HQ1.out) (KR.out.box HS.out.mst HQ2.out);have HD:=A0 hd1;unfold maxLen at hl2;clear hx hs1 hd1 hxs;have HR:Hid (∀r,r=(!M3 T has (nm,(z:Int)))->(∃x∈wants,(!M3 T has x)=true)\/r=false):=by
     intro r hr;cases r
     · exact .inr rfl
     · exact .inl ⟨_,HM.out,hr.symm⟩
    generalize hr:(!M3 T has (nm,(z:Int)))=r at HT HC;have HR2:=A0 (HR.out r hr.symm);clear hr HR HM;generalize hx:(⟨nm.toArray⟩:ByteArray)=bx at *;clear hx;cases r
    · go_wp2_with fail
      refine HC.mono ?_;clear HC;rintro e w2 ⟨rfl,hf⟩;have K2:=A0 (KR.out.trans HD.out hf);clear hf;go_wp2;go_roundw
      case rel=>exact⟨j+1,by omega,by go_num,by show _=_;rw[HT.out,HA.out];rfl,K2.out⟩
      case measure=>simp[intOf];omega
    · go_wp2_with fail
      refine HC.mono ?_;clear HC;rintro e w2 ⟨rfl,hf⟩;have K2:=A0 (KR.out.trans HD.out hf);clear hf;go_wp2;go_ret;refine⟨⟨_,rfl, ?_⟩,K2.out⟩;rcases HR2.out with ⟨x,hx1,hx2⟩|h0
      · rw[List.any_eq_true.2 ⟨x,hx1,hx2⟩];simp
      · cases h0
  · have hje:j=wants.length:=by omega
    subst hje;rw[List.take_length]at HA;go_wp2;go_ret;exact⟨⟨_,rfl,by rw[HA.out];simp⟩,KR.out⟩
theorem X5a(m:Nat)(IH:J3a lb mb N T m)(w:World)(D:Dt)(h:Shp w lb mb N T D)(fa:Option Addr)(fc:Nat)(has:List (List UInt8×Int))(ho:w.ownsRow 0 121 2 (.slice fa has.length fc) has.length (F5 has))
 (ga:Option Addr) (gc:Nat) (wants:List (List UInt8×Int)) (hw:w.ownsRow 0 121 2 (.slice ga wants.length gc) wants.length (F5 wants)) (qh ql:Nat)
 (hin:∀p∈has,0<=p.2/\p.2<T.length/\∀q∈wants,p.2+q.2+1<=m) (hin2:∀q∈wants,0<=q.2/\q.2<T.length) (hl:Box w ql (pV lb) 42) (hq:Box w qh (.slice fa has.length fc) 64):
 Calls prog 171 #[.slice ga wants.length gc,.func (.func 172) #[] #[pV qh,pV ql]] w λe w'=>
  e= .returned (.bool (wants.any λp=> !M3 T has p))/\Mid w mb N T D m w':=by
 have H:=R2b m IH w D h fa fc has ho ga gc wants hw qh ql hin hin2 hl hq;clear h ho hw hl hq hin hin2;generalize (wants.any λp=> !M3 T has p)=r at *;go_enter func171,ntmps171;go_wp2_with fail
 refine H.mono ?_;clear H;rintro e w1 ⟨⟨k,rfl,hk⟩,hm⟩;go_wp2;all_goals go_ret
 all_goals exact⟨F1 (by simp_all),hm⟩
theorem E8a{α:Type}(p:α->Bool):∀l:List α,(!l.any λx=> !p x)=l.all p
 |[]=>rfl
 |a::l=>by
  rw[List.any_cons,List.all_cons,<-E8a p l];cases p a<;>simp
theorem T1a(m:Nat)(IH:J3a lb mb N T m)(w:World)(D:Dt)(h:Shp w lb mb N T D)(fa:Option Addr)(fc:Nat)(has:List (List UInt8×Int))(ho:w.ownsRow 0 121 2 (.slice fa has.length fc) has.length (F5 has))
 (ga:Option Addr) (gc:Nat) (wants:List (List UInt8×Int)) (hw:w.ownsRow 0 121 2 (.slice ga wants.length gc) wants.length (F5 wants))
 (hin:∀p∈has,0<=p.2/\p.2<T.length/\∀q∈wants,p.2+q.2+1<=m) (hin2:∀q∈wants,0<=q.2/\q.2<T.length):
 Calls prog 150 #[pV lb,.slice fa has.length fc,.slice ga wants.length gc] w λe w'=>
  e= .returned (.bool (wants.all λp=>M3 T has p))/\Mid w mb N T D m w':=by
 have hmf:=mkf;have b1:=Y8b w (pV lb) 42;have b2:=Y8b (w.alloc (.cells #[pV lb] 42)) (.slice fa has.length fc) 64;simp only[World.size_alloc]at b2;have H:=X5a m IH _ D ((h.alloc (.cells #[pV lb] 42)).alloc (.cells #[.slice fa has.length fc] 64)) fa fc has ((ho.alloc _).alloc _) ga gc wants ((hw.alloc _).alloc _) (w.heap.size+1) w.heap.size hin hin2 (b1.alloc _) b2;have HM:=A0 (((Mid.refl h m).alloc (.cells #[pV lb] 42)).alloc (.cells #[.slice fa has.length fc] 64));have HN:=A0 (E8a (λp=>M3 T has p) wants);clear h ho hw hin hin2 b1 b2;generalize (wants.all λp=>M3 T has p)=r at *;generalize (wants.any λp=> !M3 T has p)=r' at *;go_enter func150,ntmps150;go_wp2_with fail
 refine H.mono ?_;clear H;rintro e w1 ⟨rfl,hm⟩;have M1:=A0 (HM.out.trans (λ_ _ _ _ _=>rfl) hm);clear hm;go_wp2;go_ret;exact⟨F1 HN.out,M1.out⟩
end
set_option linter.unusedSimpArgs false
section
variable{lb mb N:Nat}{T:List M.Ty}
def H3a(T:List M.Ty)(p:Int×Int):Bool:=M.D9 (M.tr T p.1.toNat) (M.tr T p.2.toNat)||M.D9 (M.tr T p.2.toNat) (M.tr T p.1.toNat)
theorem X8a{α:Type}{p:α->Bool}{l:List α}{j:Nat}(hj:j<l.length):(l.take (j+1)).all p=((l.take j).all p && p l[j]):=by
 rw[nQ hj,List.all_append];simp
theorem B9d{w a b:World}{D:Dt}{m:Nat}{p1 p2:Nat×Nat}{v1 v2:Value}(hc:Chg (λk=>k=mb) a b)(hm:Mid w mb N T D m b)(h:a.cell? (aD p1.1 p1.2)=some v1/\a.cell? (aD p2.1 p2.2)=some v2/\Hid (Mid w mb N T D m a)):
 b.cell? (aD p1.1 p1.2)=some v1/\b.cell? (aD p2.1 p2.2)=some v2/\Hid (Mid w mb N T D m b):=
 ⟨G0 h.2.2.out hc h.1,G0 h.2.2.out hc h.2.1,hm⟩
theorem W8a(m:Nat)(IH:J3a lb mb N T m)(w:World)(D:Dt)(h:Shp w lb mb N T D)(aa:Option Addr)(ac:Nat)(xs:List Int)(ho:w.ownsRow 0 3 1 (.slice aa xs.length ac) xs.length (B8 xs))
 (ba:Option Addr) (bc:Nat) (bs:List Int) (hp:w.ownsRow 0 3 1 (.slice ba bs.length bc) bs.length (B8 bs)) (hin:∀x∈xs,0<=x/\x<T.length/\∀y∈bs,x+y+1<=m) (hin2:∀y∈bs,0<=y/\y<T.length):
 Calls prog 174 #[pV lb,.slice aa xs.length ac,.slice ba bs.length bc] w λe w'=>
  e= .returned (.bool (decide (xs.length<=bs.length) && (xs.zip bs).all (H3a T)))/\Mid w mb N T D m w':=by
 have HS:=A0 h;have HO:=A0 ho;have HP:=A0 hp;have HI:=A0 hin;have HJ:=A0 hin2;clear h ho hp hin hin2;by_cases hlen:xs.length<=bs.length
 · have hd:decide (xs.length<=bs.length)=true:=by simp[hlen]
   have hgt:decide (bs.length<xs.length)=false:=by simp;omega
   have hzl:(xs.zip bs).length=xs.length:=by simp;omega
   have HZ:=A0 hzl;rw[hd,Bool.true_and];clear hd hzl;go_enter func174,ntmps174;go_wp2;go_loopw [15] (λv wr=>∃j:Nat,j<=xs.length/\v= .int .i64 (j:Int)/\Hid (((xs.zip bs).take j).all (H3a T)=true)/\Hid (Mid w mb N T D m wr)) (λv _=>xs.length - (intOf v).toNat)
   case atStart=>exact⟨0,wQ _,rfl,by simp[Hid],Mid.refl HS.out m⟩
   case round=>
    obtain⟨j,hj,rfl,HA,KR⟩:=hrel;by_cases hjl:j<xs.length
    · have hjb:j<bs.length:=by omega
      obtain⟨ga,rfl,hga,hl1,hl2,y0⟩:=D5 (T4 HO.out HS.out.mst KR.out.chg) hjl;obtain⟨gb,rfl,hgb,hl3,hl4,y1⟩:=D5 (T4 HP.out HS.out.mst KR.out.chg) hjb;have hx:=HI.out xs[j] (mQ hjl);have hy:=HJ.out bs[j] (mQ hjb);have hxy:=hx.2.2 bs[j] (mQ hjb);have HT:=A0 (X8a (p:=H3a T) (l:=xs.zip bs) (j:=j) (by have:=HZ.out;omega));have HN:Hid (∀r,r=false->r=H3a T (xs[j],bs[j])->(xs.zip bs).all (H3a T)=false):=by
       intro r hr1 hr2;rw[List.all_eq_false];refine⟨(xs[j],bs[j]), ?_,by rw[<-hr2,hr1];simp⟩;have e:(xs.zip bs)[j]'(by have:=HZ.out;omega)=(xs[j],bs[j]):=by simp
       rw[<-e];exact mQ _
      rw[List.getElem_zip]at HT;generalize xs[j]=xi at *;generalize bs[j]=yi at *;obtain⟨x,rfl⟩:∃x:Nat,xi=(x:Int):=⟨xi.toNat,by omega⟩;obtain⟨y,rfl⟩:∃y:Nat,yi=(y:Int):=⟨yi.toNat,by omega⟩;have HE:Hid (H3a T ((x:Int),(y:Int))=(M.D9 (M.tr T x) (M.tr T y)||M.D9 (M.tr T y) (M.tr T x))):=rfl;have FM:∀(p q:Nat) (r:Bool),(p=x/\q=y/\r=M.D9 (M.tr T x) (M.tr T y))\/(p=y/\q=x/\r=M.D9 (M.tr T y) (M.tr T x))->∀a,Mid w mb N T D m a->
       Calls prog 112 #[pV lb,.int .i64 (p:Int),.int .i64 (q:Int)] a λe w'=>e= .returned (.bool r)/\Chg (λk=>k=mb) a w'/\Mid w mb N T D m w':=by
       rintro p q r (⟨rfl,rfl,rfl⟩|⟨rfl,rfl,rfl⟩) a ha
       · exact F5a IH HS.out (by omega) (by omega) (by omega) a ha
       · exact F5a IH HS.out (by omega) (by omega) (by omega) a ha
      generalize M.D9 (M.tr T x) (M.tr T y)=r1 at *;generalize M.D9 (M.tr T y) (M.tr T x)=r2 at *;generalize H3a T ((x:Int),(y:Int))=r3 at *;unfold maxLen at hl2 hl4;clear hx hy hxy;cases r1
      · go_wp2_with fail
        go_region_held3 (λw'=>w'.cell? (aD ga j)=some (.int .i64 (x:Int))/\w'.cell? (aD gb j)=some (.int .i64 (y:Int))/\Hid (Mid w mb N T D m w'))
         (first
          |exact⟨y0,y1,KR.out.drewN 1⟩
          |exact B9d (p1:=(ga,j)) (p2:=(gb,j)) hcf hmf ⟨by assumption,by assumption,by assumption⟩
          |(go_split_ands;exact⟨by assumption,by assumption,by assumption⟩))
         (first
          |((go_at_call 112;go_split_ands;refine(FM _ _ _ (by first|exact .inl ⟨rfl,rfl,rfl⟩|exact .inr ⟨rfl,rfl,rfl⟩) _ (Hid.out (by assumption))).mono ?_;rintro e w' ⟨rfl,hcf,hmf⟩)))
        have M2:Hid (Mid w mb N T D m w'):=by assumption
        cases r2
        · go_wp2;go_ret;exact⟨F1 (HN.out r3 (by rw[HE.out];rfl) rfl).symm,M2.out⟩
        · go_wp2;go_roundw
          case rel=>exact⟨j+1,by omega,by go_num,by show _=_;rw[HT.out,HA.out,HE.out];rfl,M2.out⟩
          case measure=>simp[intOf];omega
      · go_wp2_with fail
        refine wp_region_held_drew (S:=λw'=>w'.cell? (aD ga j)=some (.int .i64 (x:Int))/\w'.cell? (aD gb j)=some (.int .i64 (y:Int))/\Hid (Mid w mb N T D m w')) (by kernel_rfl) ⟨y0,y1,KR.out.drewN 1⟩ (λhHeld=> ?_);refine tA (i:=0) (k:=18) (v:=pV lb) rfl ?_;simp only[Act.put,aT,a0,a1];refine tA (i:=1) (k:=19) (v:= .slice (some (aD ga 0)) xs.length ac) rfl ?_;simp only[Act.put,aT,a0,a1];refine tA (i:=2) (k:=20) (v:= .int .i64 (j:Int)) rfl ?_;simp only[Act.put,aT,a0,a1];refine tA (i:=3) (k:=21) (v:= .pointer (some (aD ga j))) rfl ?_;simp only[Act.put,aT,a0,a1];refine tA (i:=4) (k:=22) (v:= .int .i64 (x:Int)) rfl ?_ (hy:= .inl ⟨by rfl,λw hSw=>by obtain⟨h1,h2,h3⟩:=hSw;go_simp⟩);simp only[Act.put,aT,a0,a1];refine tA (i:=5) (k:=23) (v:= .slice (some (aD gb 0)) bs.length bc) rfl ?_;simp only[Act.put,aT,a0,a1];refine tA (i:=6) (k:=24) (v:= .int .i64 (j:Int)) rfl ?_;simp only[Act.put,aT,a0,a1];refine tA (i:=7) (k:=25) (v:= .pointer (some (aD gb j))) rfl ?_;simp only[Act.put,aT,a0,a1];refine tA (i:=8) (k:=26) (v:= .int .i64 (y:Int)) rfl ?_ (hy:= .inl ⟨by rfl,λw hSw=>by obtain⟨h1,h2,h3⟩:=hSw;go_simp⟩);simp only[Act.put,aT,a0,a1];refine wpAnyH_ready (rs:=[9]) (by kernel_rfl) (by simp) ?_;refine AllReadyH.cons (o:=Oper.mk (some 27) _ _ _ _ _) rfl (λK hK=> ?_) AllReadyH.nil;go_simp
        refine(FM x y true (.inl ⟨rfl,rfl,rfl⟩) _ (KR.out.drewN 1)).mono ?_;rintro e w' ⟨rfl,hcf,hmf⟩;have S2:=B9d (p1:=(ga,j)) (p2:=(gb,j)) hcf hmf ⟨y0,y1,KR.out.drewN 1⟩;refine hK _ _ S2 (λ_=> ?_);clear hK K hHeld;refine tA (i:=10) (k:=28) (v:= .bool false) rfl ?_;simp only[Act.put,aT,a0,a1];refine tA (i:=11) (k:=29) (v:= .bool false) rfl ?_;simp only[Act.put,aT,a0,a1];refine tU (i:=12) (k:=30) rfl ?_;simp only[Act.put,aT,a0,a1];refine tU (i:=13) (k:=31) rfl ?_;simp only[Act.put,aT,a0,a1];refine tU (i:=14) (k:=32) rfl ?_;simp only[Act.put,aT,a0,a1];refine tU (i:=15) (k:=33) rfl ?_;simp only[Act.put,aT,a0,a1];refine tU (i:=16) (k:=34) rfl ?_;simp only[Act.put,aT,a0,a1];refine tU (i:=17) (k:=35) rfl ?_;simp only[Act.put,aT,a0,a1];refine tU (i:=18) (k:=36) rfl ?_;simp only[Act.put,aT,a0,a1];refine tU (i:=19) (k:=37) rfl ?_;simp only[Act.put,aT,a0,a1];refine tU (i:=20) (k:=38) rfl ?_;simp only[Act.put,aT,a0,a1];refine tU (i:=21) (k:=39) rfl ?_;simp only[Act.put,aT,a0,a1];refine tU (i:=22) (k:=40) rfl ?_;simp only[Act.put,aT,a0,a1];refine tA (i:=23) (k:=41) (v:= .bool false) rfl ?_;simp only[Act.put,aT,a0,a1];refine wpAnyH_done (by kernel_rfl) ?_ _;have M2:=S2.2.2;clear S2;go_wp2;go_roundw
        case rel=>exact⟨j+1,by omega,by go_num,by show _=_;rw[HT.out,HA.out,HE.out];rfl,M2.out⟩
        case measure=>simp[intOf];omega
    · have hje:j=xs.length:=by omega
      subst hje;have hta:(xs.zip bs).take xs.length=xs.zip bs:=List.take_of_length_le (by have:=HZ.out;omega);rw[hta]at HA;go_wp2;go_ret;exact⟨F1 HA.out.symm,KR.out⟩
 · have hd:decide (xs.length<=bs.length)=false:=by simp;omega
   have hgt:decide (bs.length<xs.length)=true:=by simp;omega
   rw[hd,Bool.false_and];have HM:=A0 (Mid.refl HS.out m);clear hd;go_enter func174,ntmps174;go_wp2;all_goals go_ret
   all_goals exact⟨rfl,HM.out⟩
end
theorem Tryz.zeroInt(w:World):(zeroValue 3).run prog w= .ok (.int .i64 0) w:=by kernel_rfl
section
variable{lb mb N:Nat}{T:List M.Ty}
theorem P3a{α β:Type}(f:α->β)(p:β×β->Bool):∀(l l':List α),((l.map f).zip (l'.map f)).all p=(l.zip l').all λx=>p (f x.1,f x.2)
 |[],_=>by simp
 |_::_,[]=>by simp
 |a::l,b::l'=>by simp only[List.map_cons,List.zip_cons_cons,List.all_cons,P3a f p l l']
theorem S4b{a b:Nat}(hT:M.TsOk T)(ha:a<T.length)(hb:b<T.length)(ka:T[a].kind=9)(kb:T[b].kind=9):
 M.D9 (M.tr T a) (M.tr T b)=((decide (T[a].list.length<=T[b].list.length) && (T[a].list.zip T[b].list).all (H3a T)) && M.D9 (M.tr T T[a].of'.toNat) (M.tr T T[b].of'.toNat)):=by
 have hfld:∀i (hi:i<T.length),T[i].kind=9->T[i].fields=[]:=by
  intro i hi hk;rcases hT i hi with h|h|h|h|h
  · omega
  · omega
  · omega
  · exact h.2.1
  · omega
 rw[M.R9 hT ha,M.R9 hT hb,ka,kb,hfld a ha ka,hfld b hb kb];rw[if_pos (.inr rfl),if_pos (.inr rfl)];simp only[List.map_nil,List.append_nil,List.singleton_append];rw[M.Y9c];simp only[List.length_map];rw[P3a];rfl
theorem B8d{w a b:World}{D:Dt}{m:Nat}{p1 p2 p3 p4 p5:Nat×Nat}{v1 v2 v3 v4 v5:Value}(hc:Chg (λk=>k=mb) a b)(hm:Mid w mb N T D m b)
 (h:a.cell? (aD p1.1 p1.2)=some v1/\a.cell? (aD p2.1 p2.2)=some v2/\a.cell? (aD p3.1 p3.2)=some v3/\a.cell? (aD p4.1 p4.2)=some v4/\a.cell? (aD p5.1 p5.2)=some v5/\Hid (Mid w mb N T D m a)):
 b.cell? (aD p1.1 p1.2)=some v1/\b.cell? (aD p2.1 p2.2)=some v2/\b.cell? (aD p3.1 p3.2)=some v3/\b.cell? (aD p4.1 p4.2)=some v4/\b.cell? (aD p5.1 p5.2)=some v5/\Hid (Mid w mb N T D m b):=
 ⟨G0 h.2.2.2.2.2.out hc h.1,G0 h.2.2.2.2.2.out hc h.2.1,G0 h.2.2.2.2.2.out hc h.2.2.1,G0 h.2.2.2.2.2.out hc h.2.2.2.1,G0 h.2.2.2.2.2.out hc h.2.2.2.2.1,hm⟩
theorem look{w:World}{D:Dt}{a b:Nat}{c:Int}(hm:Mst w mb N T D)(ha:a<T.length)(hb:b<T.length)(hc:at2 D a b= .lit (.int .i64 c))(n:Nat):
 (Instr.lookup 95 (.map (some mb)) (.agg #[.int .i64 (a:Int),.int .i64 (b:Int)]) false).run prog (w.drewN n)= .ok (.int .i64 c) (w.drewN n):=by
 have h1:=hm.len;have h2:=hm.few;obtain⟨k,ho,_⟩:=hm.own;have ho':(w.drewN n).ownsMap prog 187 (plainElem prog 3) mb k D:=ho;obtain⟨c',hrun,hat,_⟩:=ho'.lookup_int Q6a underlying95 underlying3 (Tryz.zeroInt _) (A5a a b (Q7 a (by omega)) (Q7 b (by omega)));have e:at2 D a b= .lit (.int .i64 c'):=hat;rw[hc]at e;simp only[DataW.lit.injEq,Lit.int.injEq,true_and]at e;rw[e];exact hrun
theorem B8c{w:World}{D:Dt}{a b:Nat}(hm:Mst w mb N T D)(ha:a<T.length)(hb:b<T.length):∃c,at2 D a b= .lit (.int .i64 c):=by
 have h1:=hm.len;have h2:=hm.few;obtain⟨k,ho,_⟩:=hm.own;obtain⟨c',hrun,hat,_⟩:=ho.lookup_int Q6a underlying95 underlying3 (Tryz.zeroInt _) (A5a a b (Q7 a (by omega)) (Q7 b (by omega)));exact⟨c',hat⟩
theorem tell{w w1 w2:World}{D:Dt}{m a b:Nat}(h0:Chg No w w1)(hM:Mid w1 mb N T D m w2)(ha:a<T.length)(hb:b<T.length)(hz:at2 D a b= .lit (.int .i64 0))(hm:m<=a+b)(r:Bool)(hr:M.D9 (M.tr T a) (M.tr T b)=r):
 ∃w3,(Instr.mapUpdate 95 (.map (some mb)) (.agg #[.int .i64 (a:Int),.int .i64 (b:Int)]) (.int .i64 (if r then 1 else 2))).run prog w2.drew= .ok () w3/\H1a w mb N T D (a+b) r (.returned (.bool r)) w3:=by
 obtain⟨D2,hM2,hd2⟩:=hM.memo;have h1:=hM2.len;have h2:=hM2.few;obtain⟨n,ho,hn⟩:=hM2.own;have ho':w2.drew.ownsMap prog 187 (plainElem prog 3) mb n D2:=ho;have hNN:N * N<=4000 * 4000:=Nat.mul_le_mul h2 h2;have hwf:(Lit.int .i64 (if r then 1 else 2)).wf=true:=by cases r<;>decide
 obtain⟨w3,hrun,ho3,hg⟩:=ho'.update Q6a underlying95 (by unfold maxLen;omega) (A5a a b (Q7 a (by omega)) (Q7 b (by omega))) (plainElem_int underlying3 hwf);have hz2:at2 D2 a b= .lit (.int .i64 0):=by rw[hd2 a b (by omega) (by omega) hm];exact hz
 have hM3:=hM2.put ha hb (by rw[G3d hz2];rfl) r hr hn ho3;refine⟨w3,hrun,rfl, ?_,_,hM3,λp q hp hq hpq=> ?_⟩
 · exact((h0.mono λ_ _ x=>x.elim).trans hM.chg (λ_ _ x=>x)).trans ((Chg.drewN (λk=>k=mb) w2 1).trans (Chg.grown hg) (λk _ x=>by simpa using x)) (λ_ _ x=>x)
 · rw[N8a (by omega) (by omega) (by omega) (by omega) _ (by omega)];exact hd2 p q hp hq (by omega)
theorem N3a(m:Nat)(IH:J3a lb mb N T m)(w:World)(D:Dt)(h:Shp w lb mb N T D)(a b:Nat)(ha:a<T.length)(hb:b<T.length)(hm:a+b=m)(ka:T[a].kind=9)(kb:T[b].kind=9):
 Calls prog 151 #[pV lb,.int .i64 (a:Int),.int .i64 (b:Int)] w (H1a w mb N T D (a+b) (M.D9 (M.tr T a) (M.tr T b))):=by
 have hT:=h.ok;have hfew:=h.few;obtain⟨k,hk⟩:=B8c h.mst ha hb;have h1:=h.alloc (.cells #[.int .i64 (a:Int),.int .i64 (b:Int)] 187);have HL:=look h1.mst ha hb hk;have hmemo:=h.mst.memo a b k (yQ ha h.mst.len) (yQ hb h.mst.len) hk;have C0:=A0 (Chg.alloc No w (.cells #[.int .i64 (a:Int),.int .i64 (b:Int)] 187));obtain⟨ad,c,c0,c1,hlt,fz,hcell⟩:=h.cell;have HM:=A0 (Mid.refl h1 m);have H1:=A0 h1;have HF:=A0 (S4b hT ha hb ka kb);have HT:=A0 (λw2 (hM:Mid (w.alloc (.cells #[.int .i64 (a:Int),.int .i64 (b:Int)] 187)) mb N T D m w2) (hz:k=0) r hr=>tell C0.out hM ha hb (hz ▸ hk) (by omega) r hr);have HD:Hid (at2 D a b= .lit (.int .i64 k)):=hk;have hMS:=A0 h.mst;clear hk h1 hT;by_cases hk0:k=0
 · subst hk0;clear hmemo;have hTs:=h.ok;obtain⟨g,fa,fc,la,ac,rfl,hg,hc1,hc2,-,-,x2,x3,-,ol1⟩:=hcell a ha;obtain⟨g',fb,fbc,lb2,bc,hgg,-,-,-,-,-,z2,z3,-,ol2⟩:=hcell b hb;simp only[zQ,Addr.mk.injEq,and_true]at hgg;subst hgg;have hla:=(hTs a ha).lst;have hlb:=(hTs b hb).lst;have hoa:=(hTs a ha).of (.inr ka);have hob:=(hTs b hb).of (.inr kb);have O1:=A0 (ol1.alloc (.cells #[.int .i64 (a:Int),.int .i64 (b:Int)] 187));have O2:=A0 (ol2.alloc (.cells #[.int .i64 (a:Int),.int .i64 (b:Int)] 187));clear hcell ol1 ol2 h hTs;generalize T[a].list=xs at *;generalize T[b].list=ys at *;generalize T[a].of'=oi at *;generalize T[b].of'=pi at *;obtain⟨ox,rfl⟩:∃x:Nat,oi=(x:Int):=⟨oi.toNat,by omega⟩;obtain⟨oy,rfl⟩:∃x:Nat,pi=(x:Int):=⟨pi.toNat,by omega⟩;have hW:∀{o v},w.cell? (aD g o)=some v->(w.alloc (.cells #[.int .i64 (a:Int),.int .i64 (b:Int)] 187)).cell? (aD g o)=some v:=λhx=>F9 hg hx;have a0:(w.alloc (.cells #[.int .i64 (a:Int),.int .i64 (b:Int)] 187)).cell? (aD lb 0)=some (.slice (some (aD g 0)) T.length c):=F9 hlt c0;have a1:=hW x2;have a2:=hW z2;have a3:=hW x3;have a4:=hW z3;have a5:(w.alloc (.cells #[.int .i64 (a:Int),.int .i64 (b:Int)] 187)).cell? (aD lb 1)=some (.map (some mb)):=F9 hlt c1;have a6:(w.alloc (.cells #[.int .i64 (a:Int),.int .i64 (b:Int)] 187)).cell? (aD w.heap.size 0)=some (.int .i64 (a:Int)):=by rw[World.cell?_alloc_new];rfl
   have a7:(w.alloc (.cells #[.int .i64 (a:Int),.int .i64 (b:Int)] 187)).cell? (aD w.heap.size 1)=some (.int .i64 (b:Int)):=by rw[World.cell?_alloc_new];rfl
   have A5:=A0 a5;have A6:=A0 a6;have A7:=A0 a7;have PF:∀w1,Mid (w.alloc (.cells #[.int .i64 (a:Int),.int .i64 (b:Int)] 187)) mb N T D m w1->Calls prog 174 #[pV lb,.slice la xs.length ac,.slice lb2 ys.length bc] w1 λe w'=>
    e= .returned (.bool (decide (xs.length<=ys.length) && (xs.zip ys).all (H3a T)))/\Chg (λk=>k=mb) w1 w'/\Mid (w.alloc (.cells #[.int .i64 (a:Int),.int .i64 (b:Int)] 187)) mb N T D m w':=by
    intro w1 hM;obtain⟨D1,hs1,hd1⟩:=hM.shp H1.out;refine(W8a m IH w1 D1 hs1 la ac xs (T4 O1.out H1.out.mst hM.chg) lb2 bc ys (T4 O2.out H1.out.mst hM.chg) (λx hx=>⟨(hla x hx).1,by have:=(hla x hx).2;omega,λy hy=>by have:=hla x hx;have:=hlb y hy;omega⟩) (λy hy=>⟨(hlb y hy).1,by have:=(hlb y hy).2;omega⟩)).mono ?_;rintro e w2 ⟨he,hM2⟩;exact⟨he,hM2.chg,hM.trans hd1 hM2⟩
   have FM:=λw1 (hM:Mid (w.alloc (.cells #[.int .i64 (a:Int),.int .i64 (b:Int)] 187)) mb N T D m w1)=>F5a IH H1.out (a:=ox) (b:=oy) (by omega) (by omega) (by omega) w1 hM;have HFF:=HF.out;simp only[tQ]at HFF;generalize (decide (xs.length<=ys.length) && (xs.zip ys).all (H3a T))=r1 at *;generalize M.D9 (M.tr T ox) (M.tr T oy)=r2 at *;generalize M.D9 (M.tr T a) (M.tr T b)=R at *;have HR:=A0 HFF;unfold maxLen at hc2;clear HFF HF hla hlb hoa hob x2 x3 z2 z3 hW c0 a5 a6 a7 hm;have ha':(a:Int)<(T.length:Int):=by omega
   have hb':(b:Int)<(T.length:Int):=by omega
   cases r1
   · go_enter func151,ntmps151;go_wp2_with fail
     go_quiet (fail)
     go_wp2_with fail
     refine wp_region_held_drew (S:=(λw'=>w'.cell? (aD lb 0)=some (.slice (some (aD g 0)) T.length c)/\w'.cell? (aD g (a * 4+2))=some (.slice la xs.length ac)/\w'.cell? (aD g (b * 4+2))=some (.slice lb2 ys.length bc)/\w'.cell? (aD g (a * 4+3))=some (.int .i64 (ox:Int))/\w'.cell? (aD g (b * 4+3))=some (.int .i64 (oy:Int))/\Hid (Mid (w.alloc (.cells #[.int .i64 (a:Int),.int .i64 (b:Int)] 187)) mb N T D m w'))) (by kernel_rfl) ⟨a0,a1,a2,a3,a4,(HM.out.drewN nq).drewN 1⟩ (λhHeld=> ?_);refine wpAnyH_take (i:=0) (oi:=Oper.mk (some 20) _ _ _ _ _) (v:=pV lb) rfl (by kernel_rfl) (by kernel_rfl) (by kernel_rfl) (λ_ _ _ h=>h) (Or.inl ⟨by rfl,λw hSw=>by go_simp⟩) (by assumption) ?_;simp only[Act.put,List.setIfInBounds_toArray,List.set_cons_zero,List.set_cons_succ];refine wpAnyH_take (i:=1) (oi:=Oper.mk (some 21) _ _ _ _ _) (v:=pV lb) rfl (by kernel_rfl) (by kernel_rfl) (by kernel_rfl) (λ_ _ _ h=>h) (Or.inl ⟨by rfl,λw hSw=>by go_simp⟩) (by assumption) ?_;simp only[Act.put,List.setIfInBounds_toArray,List.set_cons_zero,List.set_cons_succ];refine wpAnyH_take (i:=2) (oi:=Oper.mk (some 22) _ _ _ _ _) (v:=pV lb) rfl (by kernel_rfl) (by kernel_rfl) (by kernel_rfl) (λ_ _ _ h=>h) (Or.inl ⟨by rfl,λw hSw=>by go_simp⟩) (by assumption) ?_;simp only[Act.put,List.setIfInBounds_toArray,List.set_cons_zero,List.set_cons_succ];refine wpAnyH_take (i:=3) (oi:=Oper.mk (some 23) _ _ _ _ _) (v:=pV lb) rfl (by kernel_rfl) (by kernel_rfl) (by kernel_rfl) (λ_ _ _ h=>h) (Or.inl ⟨by rfl,λw hSw=>by go_simp⟩) (by assumption) ?_;simp only[Act.put,List.setIfInBounds_toArray,List.set_cons_zero,List.set_cons_succ];refine wpAnyH_take (i:=4) (oi:=Oper.mk (some 24) _ _ _ _ _) (v:= .slice (some (aD g 0)) T.length c) rfl (by kernel_rfl) (by kernel_rfl) (by kernel_rfl) (λ_ _ _ h=>h) (Or.inl ⟨by rfl,λw hSw=>by obtain⟨h1,h2,h3,h4,h5,h6⟩:=hSw;go_simp⟩) (by assumption) ?_;simp only[Act.put,List.setIfInBounds_toArray,List.set_cons_zero,List.set_cons_succ];refine wpAnyH_take (i:=5) (oi:=Oper.mk (some 25) _ _ _ _ _) (v:= .int .i64 (a:Int)) rfl (by kernel_rfl) (by kernel_rfl) (by kernel_rfl) (λ_ _ _ h=>h) (Or.inl ⟨by rfl,λw hSw=>by go_simp⟩) (by assumption) ?_;simp only[Act.put,List.setIfInBounds_toArray,List.set_cons_zero,List.set_cons_succ];refine wpAnyH_take (i:=6) (oi:=Oper.mk (some 26) _ _ _ _ _) (v:= .pointer (some (aD g (a * 4)))) rfl (by kernel_rfl) (by kernel_rfl) (by kernel_rfl) (λ_ _ _ h=>h) (Or.inl ⟨by rfl,λw hSw=>by go_simp⟩) (by assumption) ?_;simp only[Act.put,List.setIfInBounds_toArray,List.set_cons_zero,List.set_cons_succ];refine wpAnyH_take (i:=7) (oi:=Oper.mk (some 27) _ _ _ _ _) (v:= .pointer (some (aD g (a * 4+2)))) rfl (by kernel_rfl) (by kernel_rfl) (by kernel_rfl) (λ_ _ _ h=>h) (Or.inl ⟨by rfl,λw hSw=>by go_simp⟩) (by assumption) ?_;simp only[Act.put,List.setIfInBounds_toArray,List.set_cons_zero,List.set_cons_succ]
     refine wpAnyH_take (i:=8) (oi:=Oper.mk (some 28) _ _ _ _ _) (v:= .slice la xs.length ac) rfl (by kernel_rfl) (by kernel_rfl) (by kernel_rfl) (λ_ _ _ h=>h) (Or.inl ⟨by rfl,λw hSw=>by obtain⟨h1,h2,h3,h4,h5,h6⟩:=hSw;go_simp⟩) (by assumption) ?_;simp only[Act.put,List.setIfInBounds_toArray,List.set_cons_zero,List.set_cons_succ];refine wpAnyH_take (i:=9) (oi:=Oper.mk (some 29) _ _ _ _ _) (v:=pV lb) rfl (by kernel_rfl) (by kernel_rfl) (by kernel_rfl) (λ_ _ _ h=>h) (Or.inl ⟨by rfl,λw hSw=>by go_simp⟩) (by assumption) ?_;simp only[Act.put,List.setIfInBounds_toArray,List.set_cons_zero,List.set_cons_succ];refine wpAnyH_take (i:=10) (oi:=Oper.mk (some 30) _ _ _ _ _) (v:=pV lb) rfl (by kernel_rfl) (by kernel_rfl) (by kernel_rfl) (λ_ _ _ h=>h) (Or.inl ⟨by rfl,λw hSw=>by go_simp⟩) (by assumption) ?_;simp only[Act.put,List.setIfInBounds_toArray,List.set_cons_zero,List.set_cons_succ];refine wpAnyH_take (i:=11) (oi:=Oper.mk (some 31) _ _ _ _ _) (v:=pV lb) rfl (by kernel_rfl) (by kernel_rfl) (by kernel_rfl) (λ_ _ _ h=>h) (Or.inl ⟨by rfl,λw hSw=>by go_simp⟩) (by assumption) ?_;simp only[Act.put,List.setIfInBounds_toArray,List.set_cons_zero,List.set_cons_succ];refine wpAnyH_take (i:=12) (oi:=Oper.mk (some 32) _ _ _ _ _) (v:= .slice (some (aD g 0)) T.length c) rfl (by kernel_rfl) (by kernel_rfl) (by kernel_rfl) (λ_ _ _ h=>h) (Or.inl ⟨by rfl,λw hSw=>by obtain⟨h1,h2,h3,h4,h5,h6⟩:=hSw;go_simp⟩) (by assumption) ?_;simp only[Act.put,List.setIfInBounds_toArray,List.set_cons_zero,List.set_cons_succ];refine wpAnyH_take (i:=13) (oi:=Oper.mk (some 33) _ _ _ _ _) (v:= .int .i64 (b:Int)) rfl (by kernel_rfl) (by kernel_rfl) (by kernel_rfl) (λ_ _ _ h=>h) (Or.inl ⟨by rfl,λw hSw=>by go_simp⟩) (by assumption) ?_;simp only[Act.put,List.setIfInBounds_toArray,List.set_cons_zero,List.set_cons_succ];refine wpAnyH_take (i:=14) (oi:=Oper.mk (some 34) _ _ _ _ _) (v:= .pointer (some (aD g (b * 4)))) rfl (by kernel_rfl) (by kernel_rfl) (by kernel_rfl) (λ_ _ _ h=>h) (Or.inl ⟨by rfl,λw hSw=>by go_simp⟩) (by assumption) ?_;simp only[Act.put,List.setIfInBounds_toArray,List.set_cons_zero,List.set_cons_succ];refine wpAnyH_take (i:=15) (oi:=Oper.mk (some 35) _ _ _ _ _) (v:= .pointer (some (aD g (b * 4+2)))) rfl (by kernel_rfl) (by kernel_rfl) (by kernel_rfl) (λ_ _ _ h=>h) (Or.inl ⟨by rfl,λw hSw=>by go_simp⟩) (by assumption) ?_;simp only[Act.put,List.setIfInBounds_toArray,List.set_cons_zero,List.set_cons_succ];refine wpAnyH_take (i:=16) (oi:=Oper.mk (some 36) _ _ _ _ _) (v:= .slice lb2 ys.length bc) rfl (by kernel_rfl) (by kernel_rfl) (by kernel_rfl) (λ_ _ _ h=>h) (Or.inl ⟨by rfl,λw hSw=>by obtain⟨h1,h2,h3,h4,h5,h6⟩:=hSw;go_simp⟩) (by assumption) ?_;simp only[Act.put,List.setIfInBounds_toArray,List.set_cons_zero,List.set_cons_succ];refine wpAnyH_ready (rs:=[17]) (by kernel_rfl) (by simp) ?_
     refine AllReadyH.cons (o:=Oper.mk (some 37) _ _ _ _ _) rfl (λK hK=> ?_) AllReadyH.nil;go_simp
     refine(PF _ ((HM.out.drewN nq).drewN 1)).mono ?_;rintro e w' ⟨rfl,hcf,hmf⟩;have S2:=B8d (p1:=(lb,0)) (p2:=(g,a * 4+2)) (p3:=(g,b * 4+2)) (p4:=(g,a * 4+3)) (p5:=(g,b * 4+3)) hcf hmf ⟨a0,a1,a2,a3,a4,(HM.out.drewN nq).drewN 1⟩;refine hK _ _ S2 (λ_=> ?_);clear hK K hHeld;refine wpAnyH_take (i:=18) (oi:=Oper.mk (some 38) _ _ _ _ _) (v:= .bool false) rfl (by kernel_rfl) (by kernel_rfl) (by kernel_rfl) (λ_ _ _ h=>h) (Or.inl ⟨by rfl,λw hSw=>by go_simp⟩) (by assumption) ?_;simp only[Act.put,List.setIfInBounds_toArray,List.set_cons_zero,List.set_cons_succ];refine wpAnyH_take (i:=19) (oi:=Oper.mk (some 39) _ _ _ _ _) (v:=undef) rfl (by kernel_rfl) (by kernel_rfl) (by kernel_rfl) (λ_ _ _ h=>h) (Or.inr ⟨by rfl,rfl⟩) (by assumption) ?_;simp only[Act.put,List.setIfInBounds_toArray,List.set_cons_zero,List.set_cons_succ];refine wpAnyH_take (i:=20) (oi:=Oper.mk (some 40) _ _ _ _ _) (v:=undef) rfl (by kernel_rfl) (by kernel_rfl) (by kernel_rfl) (λ_ _ _ h=>h) (Or.inr ⟨by rfl,rfl⟩) (by assumption) ?_;simp only[Act.put,List.setIfInBounds_toArray,List.set_cons_zero,List.set_cons_succ];refine wpAnyH_take (i:=21) (oi:=Oper.mk (some 41) _ _ _ _ _) (v:=undef) rfl (by kernel_rfl) (by kernel_rfl) (by kernel_rfl) (λ_ _ _ h=>h) (Or.inr ⟨by rfl,rfl⟩) (by assumption) ?_;simp only[Act.put,List.setIfInBounds_toArray,List.set_cons_zero,List.set_cons_succ];refine wpAnyH_take (i:=22) (oi:=Oper.mk (some 42) _ _ _ _ _) (v:=undef) rfl (by kernel_rfl) (by kernel_rfl) (by kernel_rfl) (λ_ _ _ h=>h) (Or.inr ⟨by rfl,rfl⟩) (by assumption) ?_;simp only[Act.put,List.setIfInBounds_toArray,List.set_cons_zero,List.set_cons_succ];refine wpAnyH_take (i:=23) (oi:=Oper.mk (some 43) _ _ _ _ _) (v:=undef) rfl (by kernel_rfl) (by kernel_rfl) (by kernel_rfl) (λ_ _ _ h=>h) (Or.inr ⟨by rfl,rfl⟩) (by assumption) ?_;simp only[Act.put,List.setIfInBounds_toArray,List.set_cons_zero,List.set_cons_succ];refine wpAnyH_take (i:=24) (oi:=Oper.mk (some 44) _ _ _ _ _) (v:=undef) rfl (by kernel_rfl) (by kernel_rfl) (by kernel_rfl) (λ_ _ _ h=>h) (Or.inr ⟨by rfl,rfl⟩) (by assumption) ?_;simp only[Act.put,List.setIfInBounds_toArray,List.set_cons_zero,List.set_cons_succ];refine wpAnyH_take (i:=25) (oi:=Oper.mk (some 45) _ _ _ _ _) (v:=undef) rfl (by kernel_rfl) (by kernel_rfl) (by kernel_rfl) (λ_ _ _ h=>h) (Or.inr ⟨by rfl,rfl⟩) (by assumption) ?_;simp only[Act.put,List.setIfInBounds_toArray,List.set_cons_zero,List.set_cons_succ];refine wpAnyH_take (i:=26) (oi:=Oper.mk (some 46) _ _ _ _ _) (v:=undef) rfl (by kernel_rfl) (by kernel_rfl) (by kernel_rfl) (λ_ _ _ h=>h) (Or.inr ⟨by rfl,rfl⟩) (by assumption) ?_;simp only[Act.put,List.setIfInBounds_toArray,List.set_cons_zero,List.set_cons_succ];refine wpAnyH_take (i:=27) (oi:=Oper.mk (some 47) _ _ _ _ _) (v:=undef) rfl (by kernel_rfl) (by kernel_rfl) (by kernel_rfl) (λ_ _ _ h=>h) (Or.inr ⟨by rfl,rfl⟩) (by assumption) ?_
     simp only[Act.put,List.setIfInBounds_toArray,List.set_cons_zero,List.set_cons_succ];refine wpAnyH_take (i:=28) (oi:=Oper.mk (some 48) _ _ _ _ _) (v:=undef) rfl (by kernel_rfl) (by kernel_rfl) (by kernel_rfl) (λ_ _ _ h=>h) (Or.inr ⟨by rfl,rfl⟩) (by assumption) ?_;simp only[Act.put,List.setIfInBounds_toArray,List.set_cons_zero,List.set_cons_succ];refine wpAnyH_take (i:=29) (oi:=Oper.mk (some 49) _ _ _ _ _) (v:=undef) rfl (by kernel_rfl) (by kernel_rfl) (by kernel_rfl) (λ_ _ _ h=>h) (Or.inr ⟨by rfl,rfl⟩) (by assumption) ?_;simp only[Act.put,List.setIfInBounds_toArray,List.set_cons_zero,List.set_cons_succ];refine wpAnyH_take (i:=30) (oi:=Oper.mk (some 50) _ _ _ _ _) (v:=undef) rfl (by kernel_rfl) (by kernel_rfl) (by kernel_rfl) (λ_ _ _ h=>h) (Or.inr ⟨by rfl,rfl⟩) (by assumption) ?_;simp only[Act.put,List.setIfInBounds_toArray,List.set_cons_zero,List.set_cons_succ];refine wpAnyH_take (i:=31) (oi:=Oper.mk (some 51) _ _ _ _ _) (v:=undef) rfl (by kernel_rfl) (by kernel_rfl) (by kernel_rfl) (λ_ _ _ h=>h) (Or.inr ⟨by rfl,rfl⟩) (by assumption) ?_;simp only[Act.put,List.setIfInBounds_toArray,List.set_cons_zero,List.set_cons_succ];refine wpAnyH_take (i:=32) (oi:=Oper.mk (some 52) _ _ _ _ _) (v:=undef) rfl (by kernel_rfl) (by kernel_rfl) (by kernel_rfl) (λ_ _ _ h=>h) (Or.inr ⟨by rfl,rfl⟩) (by assumption) ?_;simp only[Act.put,List.setIfInBounds_toArray,List.set_cons_zero,List.set_cons_succ];refine wpAnyH_take (i:=33) (oi:=Oper.mk (some 53) _ _ _ _ _) (v:=undef) rfl (by kernel_rfl) (by kernel_rfl) (by kernel_rfl) (λ_ _ _ h=>h) (Or.inr ⟨by rfl,rfl⟩) (by assumption) ?_;simp only[Act.put,List.setIfInBounds_toArray,List.set_cons_zero,List.set_cons_succ];refine wpAnyH_take (i:=34) (oi:=Oper.mk (some 54) _ _ _ _ _) (v:=undef) rfl (by kernel_rfl) (by kernel_rfl) (by kernel_rfl) (λ_ _ _ h=>h) (Or.inr ⟨by rfl,rfl⟩) (by assumption) ?_;simp only[Act.put,List.setIfInBounds_toArray,List.set_cons_zero,List.set_cons_succ];refine wpAnyH_take (i:=35) (oi:=Oper.mk (some 55) _ _ _ _ _) (v:=undef) rfl (by kernel_rfl) (by kernel_rfl) (by kernel_rfl) (λ_ _ _ h=>h) (Or.inr ⟨by rfl,rfl⟩) (by assumption) ?_;simp only[Act.put,List.setIfInBounds_toArray,List.set_cons_zero,List.set_cons_succ];refine wpAnyH_take (i:=36) (oi:=Oper.mk (some 56) _ _ _ _ _) (v:=undef) rfl (by kernel_rfl) (by kernel_rfl) (by kernel_rfl) (λ_ _ _ h=>h) (Or.inr ⟨by rfl,rfl⟩) (by assumption) ?_;simp only[Act.put,List.setIfInBounds_toArray,List.set_cons_zero,List.set_cons_succ];refine wpAnyH_take (i:=37) (oi:=Oper.mk (some 57) _ _ _ _ _) (v:= .bool false) rfl (by kernel_rfl) (by kernel_rfl) (by kernel_rfl) (λ_ _ _ h=>h) (Or.inl ⟨by rfl,λw hSw=>by go_simp⟩) (by assumption) ?_;simp only[Act.put,List.setIfInBounds_toArray,List.set_cons_zero,List.set_cons_succ];refine wpAnyH_done (by kernel_rfl) ?_ _;have M2:=S2.2.2.2.2.2;clear S2 hcf hmf;have q5:w'.cell? (aD lb 1)=some (.map (some mb)):=G0 HM.out M2.out.chg A5.out
     have q6:w'.cell? (aD w.heap.size 0)=some (.int .i64 (a:Int)):=G0 HM.out M2.out.chg A6.out;have q7:w'.cell? (aD w.heap.size 1)=some (.int .i64 (b:Int)):=G0 HM.out M2.out.chg A7.out;have hz2:=World.block_lt_of_cell? w' _ q6;obtain⟨w3,hrun,hfp⟩:=HT.out w' M2.out trivial false (by rw[HR.out];rfl);have hrun':(Instr.mapUpdate 95 (.map (some mb)) (.agg #[.int .i64 (a:Int),.int .i64 (b:Int)]) (.int .i64 2)).run prog w'.drew= .ok () w3:=hrun;have HFP:Hid (H1a w mb N T D (a+b) R (.returned (.bool false)) w3):=by
      show H1a _ _ _ _ _ _ _ _ _;rw[HR.out];exact hfp
     clear hrun hfp;go_wp2_with fail
     go_region
     go_wp2;go_ret;exact HFP.out
   · go_enter func151,ntmps151;go_wp2_with fail
     go_quiet (fail)
     go_wp2_with fail
     go_region_held3 (λw'=>w'.cell? (aD lb 0)=some (.slice (some (aD g 0)) T.length c)/\w'.cell? (aD g (a * 4+2))=some (.slice la xs.length ac)/\w'.cell? (aD g (b * 4+2))=some (.slice lb2 ys.length bc)/\w'.cell? (aD g (a * 4+3))=some (.int .i64 (ox:Int))/\w'.cell? (aD g (b * 4+3))=some (.int .i64 (oy:Int))/\Hid (Mid (w.alloc (.cells #[.int .i64 (a:Int),.int .i64 (b:Int)] 187)) mb N T D m w'))
      (first
       |exact⟨a0,a1,a2,a3,a4,(HM.out.drewN nq).drewN 1⟩
       |exact B8d (p1:=(lb,0)) (p2:=(g,a * 4+2)) (p3:=(g,b * 4+2)) (p4:=(g,a * 4+3)) (p5:=(g,b * 4+3)) hcf hmf ⟨by assumption,by assumption,by assumption,by assumption,by assumption,by assumption⟩
       |(go_split_ands;exact⟨by assumption,by assumption,by assumption,by assumption,by assumption,by assumption⟩))
      (first
       |((go_at_call 174;go_split_ands;refine(PF _ (Hid.out (by assumption))).mono ?_;rintro e w' ⟨rfl,hcf,hmf⟩))
       |((go_at_call 112;go_split_ands;refine(FM _ (Hid.out (by assumption))).mono ?_;rintro e w' ⟨rfl,hcf,hmf⟩)))
     have M2:Hid (Mid (w.alloc (.cells #[.int .i64 (a:Int),.int .i64 (b:Int)] 187)) mb N T D m w'):=by assumption
     have q5:w'.cell? (aD lb 1)=some (.map (some mb)):=G0 HM.out M2.out.chg A5.out;have q6:w'.cell? (aD w.heap.size 0)=some (.int .i64 (a:Int)):=G0 HM.out M2.out.chg A6.out;have q7:w'.cell? (aD w.heap.size 1)=some (.int .i64 (b:Int)):=G0 HM.out M2.out.chg A7.out;have hz2:=World.block_lt_of_cell? w' _ q6;clear PF FM;cases r2
     · obtain⟨w3,hrun,hfp⟩:=HT.out w' M2.out trivial false (by rw[HR.out];rfl);have hrun':(Instr.mapUpdate 95 (.map (some mb)) (.agg #[.int .i64 (a:Int),.int .i64 (b:Int)]) (.int .i64 2)).run prog w'.drew= .ok () w3:=hrun;have HFP:Hid (H1a w mb N T D (a+b) R (.returned (.bool false)) w3):=by
        show H1a _ _ _ _ _ _ _ _ _;rw[HR.out];exact hfp
       clear hrun hfp;go_wp2_with fail
       go_region
       go_wp2;go_ret;exact HFP.out
     · obtain⟨w3,hrun,hfp⟩:=HT.out w' M2.out trivial true (by rw[HR.out];rfl);have hrun':(Instr.mapUpdate 95 (.map (some mb)) (.agg #[.int .i64 (a:Int),.int .i64 (b:Int)]) (.int .i64 1)).run prog w'.drew= .ok () w3:=hrun;have HFP:Hid (H1a w mb N T D (a+b) R (.returned (.bool true)) w3):=by
        show H1a _ _ _ _ _ _ _ _ _;rw[HR.out];exact hfp
       clear hrun hfp;go_wp2_with fail
       go_region
       go_wp2;go_ret;exact HFP.out
 · have hk0':(k==0)=false:=by simp[hk0]
   have HR:Hid (M.D9 (M.tr T a) (M.tr T b)=(k==1)):=by
    rcases hmemo with h|⟨_,_,⟨h1,h2⟩|⟨h1,h2⟩⟩
    · exact absurd h hk0
    · show _=_;rw[h2,h1];rfl
    · show _=_;rw[h2,h1];rfl
   have HX:Hid (∀n,H1a w mb N T D (a+b) (M.D9 (M.tr T a) (M.tr T b)) (.returned (.bool (k==1))) ((w.alloc (.cells #[.int .i64 (a:Int),.int .i64 (b:Int)] 187)).drewN n)):=by
    intro n;rw[HR.out];exact⟨rfl,((C0.out.mono λ_ _ x=>x.elim).trans (Chg.drewN _ _ n) (λ_ _ x=>x)),D,H1.out.mst.chg (Chg.drewN No _ n) (λx=>x),λ_ _ _ _ _=>rfl⟩
   clear hmemo h hcell HF HT;generalize M.D9 (M.tr T a) (M.tr T b)=R at *;go_enter func151,ntmps151;go_wp2_with fail
   go_quiet (fail)
   go_wp2;go_ret;exact HX.out _
theorem Y5{a:Nat}(hT:M.TsOk T)(ha:a<T.length):(M.tr T a).k=T[a].kind:=by rw[M.R9 hT ha];rfl
theorem G5c{a:Nat}(hT:M.TsOk T)(ha:a<T.length):(M.tr T a).ns=T[a].fields.map (·.1):=by rw[M.R9 hT ha];rfl
theorem L0a{a:Nat}(hT:M.TsOk T)(ha:a<T.length)(hk:T[a].kind≠7):T[a].fields=[]:=by
 rcases hT a ha with h|h|h|h|h
 · exact h.2.2.1
 · omega
 · exact h.2.1
 · exact h.2.1
 · exact h.2.1
theorem C6b{a:Nat}(hT:M.TsOk T)(ha:a<T.length)(hk:T[a].kind=7\/T[a].kind=8):T[a].list=[]:=by
 rcases hT a ha with h|h|h|h|h
 · omega
 · exact h.2.1
 · exact h.2.2.1
 · omega
 · omega
theorem H2a{a:Nat}(hT:M.TsOk T)(ha:a<T.length):(M.tr T a).ks=(if T[a].kind=8\/T[a].kind=9 then [M.tr T T[a].of'.toNat] else [])++(T[a].fields.map λp=>M.tr T p.2.toNat)++T[a].list.map λx=>M.tr T x.toNat:=by rw[M.R9 hT ha];rfl
section
variable{a b:Nat}(hT:M.TsOk T)(ha:a<T.length)(hb:b<T.length)
include hT ha hb
theorem C7c(h:T[a].kind=5\/T[b].kind=5\/T[b].kind=6):M.D9 (M.tr T a) (M.tr T b)=true:=by
 rw[M.B2a,Y5 hT ha,Y5 hT hb,if_pos h]
theorem C9c(h:¬(T[a].kind=5\/T[b].kind=5\/T[b].kind=6))(h2:T[a].kind=10):M.D9 (M.tr T a) (M.tr T b)= !T[a].list.any λx=> !M.D9 (M.tr T x.toNat) (M.tr T b):=by
 rw[E8a (λx:Int=>M.D9 (M.tr T x.toNat) (M.tr T b)),M.B2a,Y5 hT ha,Y5 hT hb,if_neg h,if_pos h2,H2a hT ha,L0a hT ha (by omega),if_neg (by omega)];simp[List.all_map,Function.comp_def]
theorem C8c(h:¬(T[a].kind=5\/T[b].kind=5\/T[b].kind=6))(h1:T[a].kind≠10)(h2:T[b].kind=10):M.D9 (M.tr T a) (M.tr T b)=T[b].list.any λx=>M.D9 (M.tr T a) (M.tr T x.toNat):=by
 rw[M.B2a,Y5 hT ha,Y5 hT hb,if_neg h,if_neg h1,if_pos h2,H2a hT hb,L0a hT hb (by omega),if_neg (by omega)];simp[List.any_map,Function.comp_def]
theorem D0c(h:¬(T[a].kind=5\/T[b].kind=5\/T[b].kind=6))(h1:T[a].kind≠10)(h2:T[b].kind≠10)(h3:T[a].kind≠T[b].kind):M.D9 (M.tr T a) (M.tr T b)=false:=by
 rw[M.B2a,Y5 hT ha,Y5 hT hb,if_neg h,if_neg h1,if_neg h2,if_pos h3]
theorem D1c(h1:T[a].kind=7)(h2:T[b].kind=7):M.D9 (M.tr T a) (M.tr T b)=T[b].fields.all λp=>M3 T T[a].fields p:=by
 rw[M.B2a,Y5 hT ha,Y5 hT hb,if_neg (by omega),if_neg (by omega),if_neg (by omega),if_neg (by omega),if_pos h1,H2a hT hb,H2a hT ha,G5c hT ha,G5c hT hb,if_neg (by omega),if_neg (by omega),C6b hT ha (.inl h1),C6b hT hb (.inl h2)];simp only[List.nil_append,List.map_nil,List.append_nil];generalize T[b].fields=gs;induction gs with
 |nil=>rfl
 |cons p gs ih=>rw[List.map_cons,List.map_cons,List.zip_cons_cons,List.all_cons,List.all_cons,ih];rfl
theorem D2c(h1:T[a].kind=8)(h2:T[b].kind=8):M.D9 (M.tr T a) (M.tr T b)=M.D9 (M.tr T T[a].of'.toNat) (M.tr T T[b].of'.toNat):=by
 rw[M.B2a,Y5 hT ha,Y5 hT hb,if_neg (by omega),if_neg (by omega),if_neg (by omega),if_neg (by omega),if_neg (by omega),if_pos h1,H2a hT hb,H2a hT ha,if_pos (.inl h1),if_pos (.inl h2)];rfl
theorem S3b(h:¬(T[a].kind=5\/T[b].kind=5\/T[b].kind=6))(h1:T[a].kind≠10)(h2:T[a].kind=T[b].kind)(h3:T[a].kind≠7)(h4:T[a].kind≠8)(h5:T[a].kind≠9):M.D9 (M.tr T a) (M.tr T b)=true:=by
 rw[M.B2a,Y5 hT ha,Y5 hT hb,if_neg h,if_neg h1,if_neg (by omega),if_neg (by omega),if_neg h3,if_neg h4,if_neg h5]
end
theorem Z0c{w wc w':World}{D:Dt}{m n:Nat}{R:Bool}(hc:Chg No w wc)(hM:Mid wc mb N T D m w')(hm:m<=n+1):H1a w mb N T D n R (.returned (.bool R)) w':=by
 obtain⟨D',h1,h2⟩:=hM.memo;exact⟨rfl,(hc.mono λ_ _ x=>x.elim).trans hM.chg (λ_ _ x=>x),D',h1,λp q hp hq hpq=>h2 p q hp hq (by omega)⟩
theorem P1c(m:Nat)(IH:J3a lb mb N T m)(w:World)(D:Dt)(h:Shp w lb mb N T D)(a b:Nat)(ha:a<T.length)(hb:b<T.length)(hm:a+b=m):
 Calls prog 112 #[pV lb,iV (a:Int),iV (b:Int)] w (H1a w mb N T D (a+b) (M.D9 (M.tr T a) (M.tr T b))):=by
 have hmf:=mkf;have hT:=h.ok;have hfew:=h.few;obtain⟨ad,c,c0,c1,hlt,fz,hcell⟩:=h.cell;obtain⟨g,fa,fc,la,ac,rfl,hg,hc1,hc2,x0,x1,x2,x3,of1,ol1⟩:=hcell a ha;obtain⟨g',fb,fbc,lb2,bc,hgg,-,-,-,z0,z1,z2,z3,of2,ol2⟩:=hcell b hb;simp only[zQ,Addr.mk.injEq,and_true]at hgg;subst hgg;unfold maxLen at hc2;have ha':(a:Int)<(T.length:Int):=by omega
 have hb':(b:Int)<(T.length:Int):=by omega
 have H0:=A0 h;have HF1:=A0 of1;have HF2:=A0 of2;have HL1:=A0 ol1;have HL2:=A0 ol2;have HMM:=A0 hm;have L1:=A0 (C7c hT ha hb);have L2:=A0 (C9c hT ha hb);have L3:=A0 (C8c hT ha hb);have L4:=A0 (D0c hT ha hb);have L5:=A0 (D1c hT ha hb);have L6:=A0 (D2c hT ha hb);have L7:=A0 (λ(h9:T[a].kind=9) (h9':T[b].kind=9) (w1:World) (h1:Shp w1 lb mb N T D)=>N3a m IH w1 D h1 a b ha hb hm h9 h9');have L8:=A0 (S3b hT ha hb);have LA:=A0 (hT a ha).lst;have LB:=A0 (hT b hb).lst;have FA:=A0 (hT a ha).fld;have FB:=A0 (hT b hb).fld;have OA:=A0 (λhx=>(hT a ha).of hx);have OB:=A0 (λhx=>(hT b hb).of hx);clear h hcell of1 ol1 of2 ol2 hm;generalize hka:T[a].kind=ka at *;generalize hkb:T[b].kind=kb at *;clear hka hkb;generalize T[a].fields=fs at *;generalize T[b].fields=gs at *;generalize T[a].list=xs at *;generalize T[b].list=ys at *;generalize T[a].of'=ox at *;generalize T[b].of'=oy at *;generalize M.D9 (M.tr T a) (M.tr T b)=R at *;obtain⟨e0,e1,e2⟩:=I6a w (.cells #[pV lb] 42) (.cells #[iV (a:Int)] 3) (.cells #[iV (b:Int)] 3);have B0:Hid (Box (((w.alloc (.cells #[pV lb] 42)).alloc (.cells #[iV (a:Int)] 3)).alloc (.cells #[iV (b:Int)] 3)) w.heap.size (pV lb) 42):=⟨e0⟩;have B1:Hid (Box (((w.alloc (.cells #[pV lb] 42)).alloc (.cells #[iV (a:Int)] 3)).alloc (.cells #[iV (b:Int)] 3)) (w.heap.size+1) (iV (a:Int)) 3):=⟨e1⟩;have B2:Hid (Box (((w.alloc (.cells #[pV lb] 42)).alloc (.cells #[iV (a:Int)] 3)).alloc (.cells #[iV (b:Int)] 3)) (w.heap.size+1+1) (iV (b:Int)) 3):=⟨e2⟩;have hw:∀{q o v},w.cell? (aD q o)=some v->(((w.alloc (.cells #[pV lb] 42)).alloc (.cells #[iV (a:Int)] 3)).alloc (.cells #[iV (b:Int)] 3)).cell? (aD q o)=some v:=λ{q o v} hx=>by
  have hq:q<w.heap.size:=World.block_lt_of_cell? w _ hx;exact F9 (by simp;omega) (F9 (by simp;omega) (F9 hq hx))
 have C3:=A0 (((Chg.alloc No w (.cells #[pV lb] 42)).trans (Chg.alloc No _ (.cells #[iV (a:Int)] 3)) (λ_ _ x=>x)).trans (Chg.alloc No _ (.cells #[iV (b:Int)] 3)) (λ_ _ x=>x));have b0:=B0.out.cell;have b1:=B1.out.cell;have b2:=B2.out.cell;replace c0:=hw c0;replace x0:=hw x0;replace x1:=hw x1;replace x2:=hw x2;replace x3:=hw x3;replace z0:=hw z0;replace z1:=hw z1;replace z2:=hw z2;replace z3:=hw z3;have hs3:(((w.alloc (.cells #[pV lb] 42)).alloc (.cells #[iV (a:Int)] 3)).alloc (.cells #[iV (b:Int)] 3)).heap.size=w.heap.size+3:=by simp
 clear hw e0 e1 e2 c1 fz;go_enter func112,ntmps112;go_wp2_with fail
 generalize (((w.alloc (.cells #[pV lb] 42)).alloc (.cells #[iV (a:Int)] 3)).alloc (.cells #[iV (b:Int)] 3))=W at *;have HS3:=A0 hs3;have hgW:g<W.heap.size:=by omega
 have hlW:lb<W.heap.size:=by omega
 have hs0:w.heap.size<W.heap.size:=by omega
 have hs1:w.heap.size+1<W.heap.size:=by omega
 have hs2:w.heap.size+1+1<W.heap.size:=by omega
 clear hs3;go_cut [7,8] (λv7 v8 wc=>∃p q:Nat,v7=pV p/\v8=pV q/\Hid (Chg No W wc)/\wc.cell? (aD p 0)=some (iV ka)/\wc.cell? (aD p 1)=some (.slice fa fs.length fc)/\wc.cell? (aD p 2)=some (.slice la xs.length ac)/\wc.cell? (aD p 3)=some (iV ox)/\
  wc.cell? (aD q 0)=some (iV kb)/\wc.cell? (aD q 1)=some (.slice fb gs.length fbc)/\wc.cell? (aD q 2)=some (.slice lb2 ys.length bc)/\wc.cell? (aD q 3)=some (iV oy))
 case first=>
  go_region_held3 (λw'=>w'.cell? (aD w.heap.size 0)=some (pV lb)/\w'.cell? (aD (w.heap.size+1) 0)=some (iV (a:Int))/\w'.cell? (aD (w.heap.size+1+1) 0)=some (iV (b:Int))/\w'.cell? (aD lb 0)=some (.slice (some (aD g 0)) T.length c)/\
   w'.cell? (aD g (a * 4))=some (iV ka)/\w'.cell? (aD g (a * 4+1))=some (.slice fa fs.length fc)/\w'.cell? (aD g (a * 4+2))=some (.slice la xs.length ac)/\w'.cell? (aD g (a * 4+3))=some (iV ox)/\
   w'.cell? (aD g (b * 4))=some (iV kb)/\w'.cell? (aD g (b * 4+1))=some (.slice fb gs.length fbc)/\w'.cell? (aD g (b * 4+2))=some (.slice lb2 ys.length bc)/\w'.cell? (aD g (b * 4+3))=some (iV oy))
   (go_keep) (fail)
  all_goals go_wp2_with fail
  all_goals go_meet
  all_goals exact⟨_,_,rfl,rfl,((Chg.alloc No _ _).trans (Chg.alloc No _ _) (λ_ _ x=>x)).trans (Chg.drewN No _ 1) (λ_ _ x=>x),by simp[go_sem],by simp[go_sem],by simp[go_sem],by simp[go_sem],by simp[go_sem],by simp[go_sem],by simp[go_sem],by simp[go_sem]⟩
 case rest=>
  obtain⟨p,q,rfl,rfl,CW,p0,p1,p2,p3,q0,q1,q2,q3⟩:=hcut;have S1:=A0 (H0.out.still (C3.out.trans CW.out (λ_ _ x=>x)));have C4:=A0 (C3.out.trans CW.out (λ_ _ x=>x));have D0:=A0 (B0.out.still CW.out);have D1:=A0 (B1.out.still CW.out);have D2:=A0 (B2.out.still CW.out);have d0:=D0.out.cell;have d1:=D1.out.cell;have d2:=D2.out.cell;have C5:Hid (∀w' R',Mid wc mb N T D m w'->H1a w mb N T D (a+b) R' (.returned (.bool R')) w'):=λw' R' hM=>Z0c C4.out hM (by have:=HMM.out;omega);have M0:=A0 (Mid.refl S1.out m);have O1:=A0 (A3 HL1.out C4.out (λ_ _ x=>x));have O2:=A0 (A3 HL2.out C4.out (λ_ _ x=>x));have O3:=A0 (A3 HF1.out C4.out (λ_ _ x=>x));have O4:=A0 (A3 HF2.out C4.out (λ_ _ x=>x));clear x0 x1 x2 x3 z0 z1 z2 z3 b0 b1 b2 c0;by_cases hA5:ka=5
  · subst hA5;have hR:=L1.out (.inl rfl);subst hR;go_wp2;go_ret;exact C5.out _ _ M0.out
  have hA5':(ka==5)=false:=by simp[hA5]
  by_cases hB5:kb=5
  · subst hB5;have hR:=L1.out (.inr (.inl rfl));subst hR;go_wp2;go_ret;exact C5.out _ _ M0.out
  have hB5':(kb==5)=false:=by simp[hB5]
  by_cases hB6:kb=6
  · subst hB6;have hR:=L1.out (.inr (.inr rfl));subst hR;go_wp2;go_ret;exact C5.out _ _ M0.out
  have hB6':(kb==6)=false:=by simp[hB6]
  have NW:Hid (¬(ka=5\/kb=5\/kb=6)):=by show¬_;omega
  by_cases hA10:ka=10
  · subst hA10;have hR:=L2.out NW.out rfl;have HC:=X7a m IH wc D S1.out la ac xs O1.out b w.heap.size (w.heap.size+1+1) hb (λx hx=>by have:=LA.out x hx;have:=HMM.out;omega) D0.out D2.out;generalize (xs.any λx=> !M.D9 (M.tr T x.toNat) (M.tr T b))=R1 at *;subst hR;clear L1 L2 L3 L4 L5 L6 L7 L8;go_wp2_with fail
    refine HC.mono ?_;clear HC;rintro e w2 ⟨rfl,hM⟩;go_wp2;go_ret;exact C5.out _ _ hM
  have hA10':(ka==10)=false:=by simp[hA10]
  by_cases hB10:kb=10
  · subst hB10;have hR:=L3.out NW.out hA10 rfl;have HC:=X6a m IH wc D S1.out lb2 bc ys O2.out a w.heap.size (w.heap.size+1) ha (λx hx=>by have:=LB.out x hx;have:=HMM.out;omega) D0.out D1.out;generalize (ys.any λx=>M.D9 (M.tr T a) (M.tr T x.toNat))=R1 at *;subst hR;clear L1 L2 L3 L4 L5 L6 L7 L8;go_wp2_with fail
    refine HC.mono ?_;clear HC;rintro e w2 ⟨rfl,hM⟩;go_wp2;go_ret;exact C5.out _ _ hM
  have hB10':(kb==10)=false:=by simp[hB10]
  by_cases hAB:ka=kb
  · subst hAB;have hne:(ka !=ka)=false:=by simp
    by_cases h7:ka=7
    · subst h7;have hR:=L5.out rfl rfl;have HC:=T1a m IH wc D S1.out fa fc fs O3.out fb fbc gs O4.out (λp hp=>by have hp':=FA.out p hp;have hm':=HMM.out;exact⟨hp'.1,by omega,λq hq=>by have:=FB.out q hq;omega⟩) (λq hq=>by have:=FB.out q hq;omega);generalize (gs.all λp=>M3 T fs p)=R1 at *;subst hR;clear L1 L2 L3 L4 L5 L6 L7 L8;go_wp2_with fail
      refine HC.mono ?_;clear HC;rintro e w2 ⟨rfl,hM⟩;go_wp2;go_ret;exact C5.out _ _ hM
    have h7':(ka==7)=false:=by simp[h7]
    by_cases h8:ka=8
    · subst h8;have hR:=L6.out rfl rfl;have ho1:=OA.out (.inl rfl);have ho2:=OB.out (.inl rfl);obtain⟨o1,rfl⟩:∃x:Nat,ox=(x:Int):=⟨ox.toNat,by omega⟩;obtain⟨o2,rfl⟩:∃x:Nat,oy=(x:Int):=⟨oy.toNat,by omega⟩;simp only[tQ]at hR;have HC:=F5a IH S1.out (a:=o1) (b:=o2) (by have:=HMM.out;omega) (by omega) (by omega) wc M0.out;generalize M.D9 (M.tr T o1) (M.tr T o2)=R1 at *;subst hR;clear L1 L2 L3 L4 L5 L6 L7 L8;go_wp2_with fail
      refine HC.mono ?_;clear HC;rintro e w2 ⟨rfl,-,hM⟩;go_wp2;go_ret;exact C5.out _ _ hM
    have h8':(ka==8)=false:=by simp[h8]
    by_cases h9:ka=9
    · subst h9;have HC:=L7.out rfl rfl wc S1.out;clear L1 L2 L3 L4 L5 L6 L7 L8;go_wp2_with fail
      refine HC.mono ?_;clear HC;rintro e w2 ⟨rfl,hM,hD⟩;go_wp2;go_ret;exact⟨rfl,(C4.out.mono λ_ _ x=>x.elim).trans hM (λ_ _ x=>x),hD⟩
    have h9':(ka==9)=false:=by simp[h9]
    have hR:=L8.out NW.out hA10 rfl h7 h8 h9;subst hR;clear L1 L2 L3 L4 L5 L6 L7 L8;go_wp2;go_ret;exact C5.out _ _ M0.out
  · have hne:(ka !=kb)=true:=by simp[hAB]
    have hR:=L4.out NW.out hA10 hB10 hAB;subst hR;clear L1 L2 L3 L4 L5 L6 L7 L8;go_wp2;go_ret;exact C5.out _ _ M0.out
theorem U3a:∀m,J3a lb mb N T m
 |0=>λa b w D hm _ _ _=>by omega
 |m+1=>by
  intro a b w D hm ha hb h;by_cases hl:a+b+1<=m
  · exact U3a m a b w D hl ha hb h
  · have he:a+b=m:=by omega
    exact P1c m (U3a m) w D h a b ha hb he
end
theorem S8a{B:Nat}{w w':World}{base:Nat}{e:TypeId}{size:Nat}{v:Value}{n:Nat}{xs:List Value}(h:w.ownsRow base e size v n xs)(hb:Below B w w')(hs:∀g,v.ownBlock=some g->g<B):w'.ownsRow base e size v n xs:=
 A3 h (Chg.below hb) λg hg x=>by have:=hs g hg;omega
def mvF(b:Int)(l:List (List UInt8×Int)):List (List UInt8×Int):=l.map λp=>(p.1,p.2+b)
theorem M5c(b:Int){l:List (List UInt8×Int)}{j:Nat}(hj:j<l.length):mvF b (l.take (j+1))=mvF b (l.take j)++[(l[j].1,l[j].2+b)]:=by
 unfold mvF;rw[nQ hj,List.map_append];simp
def mvI(b:Int)(l:List Int):List Int:=l.map λx=>x+b
theorem M4c(b:Int){l:List Int}{j:Nat}(hj:j<l.length):mvI b (l.take (j+1))=mvI b (l.take j)++[l[j]+b]:=by
 unfold mvI;rw[nQ hj,List.map_append];simp
theorem L8b(w:World)(a b:Value)(t:TypeId)(q:Nat)(hq:q=w.heap.size):∀j u,[a,b][j]? =some u->(w.alloc (.cells #[a,b] t)).cell? (((aD q 0):Addr).add j)=some u:=by
 subst hq;intro j u hj;match j,hj with
 |0,hj=>simp at hj;subst hj;simp[Addr.add]
 |1,hj=>simp at hj;subst hj;simp[Addr.add]
theorem Q1a{w wr w4 w5:World}{n0 q o sz j j':Nat}{e:TypeId}{v v':Value}{xs ys:List Value}{cs:Array Value}(hq:wr.heap[q]? =some (.cells cs 66 (0,0)))(hn:n0<=q)(ho:wr.ownsRow n0 e sz v j xs)(he:e≠66)(hB:Below n0 w wr)(hn0:n0<=w.heap.size)
 (h1:Chg No wr w4) (hg:w4.grownBy w5 v.ownBlock) (ho5:w5.ownsRow n0 e sz v' j' ys):
 (w5.cell? (aD q o)=cs[o]?)/\w5.frozen? (aD q o)=false/\q<w5.heap.size/\Below n0 w (w5.setCell (aD q o) v')/\(w5.setCell (aD q o) v').ownsRow n0 e sz v' j' ys/\(w5.setCell (aD q o) v').heap[q]? =some (.cells (cs.setIfInBounds o v') 66 (0,0))/\
  (∀(k:Nat) (cs':Array Value),k≠q->wr.heap[k]? =some (Obj.cells cs' 66 (0,0))->(w5.setCell (aD q o) v').heap[k]? =some (Obj.cells cs' 66 (0,0)))/\
  (∀{e':TypeId} {sz' n':Nat} {u:Value} {zs:List Value},e'≠e->e'≠66->wr.ownsRow n0 e' sz' u n' zs->(w5.setCell (aD q o) v').ownsRow n0 e' sz' u n' zs):=by
 have ho4:w4.ownsRow n0 e sz v j xs:=A3 ho h1 (λ_ _ x=>x);have keep:∀(k:Nat) (cs':Array Value),wr.heap[k]? =some (Obj.cells cs' 66 (0,0))->w5.heap[k]? =some (Obj.cells cs' 66 (0,0)):=by
  intro k cs' hk;have hk4:w4.heap[k]? =some (.cells cs' 66 (0,0)):=by rw[h1.block k (ltG hk) (λx=>x)];exact hk
  rw[hg.block k (ltG hk4) (λhx=> ?_)]
  · exact hk4
  · obtain⟨_,cur,hh⟩:=A9 ho4 k hx.symm;rw[hk4]at hh;simp only[zQ,xW]at hh;exact he hh.2.1.symm
 have hq5:=keep q cs hq;have hC:Chg (λk=>n0<=k) wr w5:=(h1.mono λ_ _ x=>x.elim).trans (Chg.grown hg) (λk _ x=>(A9 ho4 k x.symm).1);have hC2:Chg (λk=>n0<=k) wr (w5.setCell (aD q o) v'):=hC.trans (Chg.set _ _ _) (λk _ x=>by have x':k=q:=x;omega);refine⟨cell_of_row w5 q o _ _ _ hq5,frozen_of_row w5 q o _ _ hq5,(ltG hq5),hB.trans (hC2.toBelow (λ_ _ x=>x) (kQ hn0 hB.size)),A3 ho5 (Chg.set _ _ _) (λg hgg hx=> ?_),heap_setCell_same w5 q o _ _ _ hq5,λk cs' hne hk=> ?_,λ{e' sz' n' u zs} he1 he2 hu=> ?_⟩
 · have hx':g=q:=hx;subst hx';obtain⟨_,cur,hh⟩:=A9 ho5 g hgg;rw[hq5]at hh;simp only[zQ,xW]at hh;exact he hh.2.1.symm
 · rw[heap_setCell_other _ _ _ _ (by exact hne)];exact keep k cs' hk
 · have hu4:w4.ownsRow n0 e' sz' u n' zs:=A3 hu h1 (λ_ _ x=>x);refine A3 (A3 hu4 (Chg.grown hg) (λg hgg hx=> ?_)) (Chg.set _ _ _) (λg hgg hx=> ?_)
   · obtain⟨_,cur,hh⟩:=A9 hu4 g hgg;obtain⟨_,cur2,hh2⟩:=A9 ho4 g hx.symm;rw[hh]at hh2;simp only[zQ,xW]at hh2;exact he1 hh2.2.1
   · have hx':g=q:=hx;subst hx';have hu5:=A3 hu4 (Chg.grown hg) (λg hgg hx=>by
      obtain⟨_,cur,hh⟩:=A9 hu4 g hgg;obtain⟨_,cur2,hh2⟩:=A9 ho4 g hx.symm;rw[hh]at hh2;simp only[zQ,xW]at hh2;exact he1 hh2.2.1)
     obtain⟨_,cur,hh⟩:=A9 hu5 g hgg;rw[hq5]at hh;simp only[zQ,xW]at hh;exact he2 hh.2.1.symm
theorem B7c(w:World)(k o:Int)(fs:List (List UInt8×Int))(ls:List Int)(fa la:Option Addr)(fc lc:Nat)(b:Nat)(hf:w.ownsRow 0 121 2 (.slice fa fs.length fc) fs.length (F5 fs))(hl:w.ownsRow 0 3 1 (.slice la ls.length lc) ls.length (B8 ls))
 (hb:b<=4000) (h1:∀p∈fs,0<=p.2/\p.2<=4000) (h2:∀x∈ls,0<=x/\x<=4000) (ho:0<=o/\o<=4000) (hn:fs.length<=2000/\ls.length<=2000):
 Calls prog 38 #[.agg #[iV k,.slice fa fs.length fc,.slice la ls.length lc,iV o],iV (b:Int)] w λe w'=>Below w.heap.size w w'/\
  ∃fa' fc' la' lc',e= .returned (.agg #[iV k,.slice fa' fs.length fc',.slice la' ls.length lc',iV (o+b)])/\w'.ownsRow w.heap.size 121 2 (.slice fa' fs.length fc') fs.length (F5 (mvF b fs))/\w'.ownsRow w.heap.size 3 1 (.slice la' ls.length lc') ls.length (B8 (mvI b ls)):=by
 have HF:=A0 hf;have HL:=A0 hl;have H1:=A0 h1;have H2:=A0 h2;obtain⟨hn1,hn2⟩:=hn;have hLF:Hid (∀g,Value.ownBlock (.slice fa fs.length fc)=some g->g<w.heap.size):=λg hg=>(hf.lt g hg).2;have hLL:Hid (∀g,Value.ownBlock (.slice la ls.length lc)=some g->g<w.heap.size):=λg hg=>(hl.lt g hg).2;clear hf hl h1 h2;go_enter func38,ntmps38;go_wp2_with fail
 obtain⟨z0,z1,z2⟩:=I6a w (.cells #[iV k,.slice fa fs.length fc,.slice la ls.length lc,iV o] 66) (.cells #[iV 0,sN,sN,iV 0] 66) (.cells #[iV k,sN,sN,iV (o+b)] 66);have Z0:=A0 z0;have Z1:=A0 z1;have Z2:=A0 z2;have B3:=A0 ((((Below.refl w.heap.size w).alloc (vQ _) (.cells #[iV k,.slice fa fs.length fc,.slice la ls.length lc,iV o] 66)).alloc (by simp) (.cells #[iV 0,sN,sN,iV 0] 66)).alloc (by simp;omega) (.cells #[iV k,sN,sN,iV (o+b)] 66));clear z0 z1 z2;go_loopw [20] (λv wr=>∃(j:Nat) (xa:Option Addr) (xc:Nat),j<=fs.length/\v=iV (j:Int)/\Hid (wr.heap[w.heap.size]? =some (.cells #[iV k,.slice fa fs.length fc,.slice la ls.length lc,iV o] 66 (0,0)))/\Hid (wr.heap[w.heap.size+1]? =some (.cells #[iV 0,sN,sN,iV 0] 66 (0,0)))/\
  Hid (wr.heap[w.heap.size+2]? =some (.cells #[iV k,.slice xa j xc,sN,iV (o+b)] 66 (0,0)))/\Hid (Below w.heap.size w wr)/\Hid (wr.ownsRow w.heap.size 121 2 (.slice xa j xc) j (F5 (mvF b (fs.take j))))) (λv _=>fs.length - (intOf v).toNat)
 case atStart=>exact⟨0,none,0,wQ _,rfl,Z0.out,Z1.out,Z2.out,B3.out,by show World.ownsRow _ _ _ _ _ _ _;exact kW _ _ _ _⟩
 case round=>
  clear Z0 Z1 Z2 B3;obtain⟨j,xa,xc,hj,rfl,Z0,Z1,Z2,BR,OR⟩:=hrel;have d0:wr.cell? (aD (w.heap.size+2) 1)=some (.slice xa j xc):=cr Z2.out rfl;have hz2:=(ltG Z2.out);by_cases hjl:j<fs.length
  · obtain⟨g,rfl,hg,hl1,hl2,y0,y1⟩:=T6 (S8a HF.out BR.out hLF.out) hjl;have hx:=H1.out fs[j] (mQ hjl);have HT:=A0 (M5c b hjl);generalize fs[j]=fj at *;obtain⟨nm,y⟩:=fj;simp only at y0 y1 hx HT;unfold maxLen at hl2;obtain⟨i0,hi0,hzz0,hzz1,hzz2⟩:=info_parts Tryz.infoField;have hw3:=A0 ((OR.out.alloc (.cells #[.string ⟨nm.toArray⟩,iV y] 121)).alloc (.cells #[.string ⟨nm.toArray⟩,iV (y+b)] 121));have hsz:=BR.out.size;go_wp2_with (at_builtin;refine wpList_append_own_at _ rfl _ _ 64 rfl w.heap.size 121 i0 _ 2 24 underlying64 hi0 hzz0 hzz1 hzz2 rfl (by decide) _ _ _ rfl hw3.out (aD (wr.heap.size+1) 0) 1 1 [.string ⟨nm.toArray⟩,iV (y+b)] rfl rfl ?c1 ?c2 ?c3 ?c4 ?c5 ?_)
    case c1=>exact L8b _ _ _ _ _ (by simp)
    case c2=>intro u hu;simp at hu;rcases hu with rfl|rfl<;>rfl
    case c3=>simp only[maxLen];omega
    case c4=>omega
    case c5=>simp;omega
    · intro v' w5 hown2 hg2 _ hat;obtain⟨xa2,xc2,rfl⟩:=B7 hown2;obtain⟨k0,k1,k2,k3,k4,k5,k6,k7⟩:=Q1a (o:=1) Z2.out (by omega) OR.out (by decide) BR.out (vQ _) ((Chg.alloc No wr _).trans (Chg.alloc No _ _) (λ_ _ x=>x)) hg2 hown2;have K0:w5.cell? (aD (w.heap.size+2) 1)=some (.slice xa j xc):=k0;have K3:=A0 k3;have K4:=A0 k4;have K5:=A0 k5;have K6:=A0 (k6 w.heap.size _ (by omega) Z0.out);have K7:=A0 (k6 (w.heap.size+1) _ (by omega) Z1.out);clear k0 k3 k4 k5 k6 k7 hown2 hg2 hat hw3 OR Z0 Z1 Z2 BR;go_wp2_with fail
      go_roundw
      case rel=>exact⟨j+1,xa2,xc2,by omega,by go_num,K6.out,K7.out,K5.out,K3.out,by
       show World.ownsRow _ _ _ _ _ _ _;rw[HT.out,I7a];exact K4.out⟩
      case measure=>simp[intOf];omega
  · have hje:j=fs.length:=by omega
    subst hje;have OF:=A0 OR.out;rw[List.take_length]at OF;have BB:=A0 BR.out;have e2:wr.cell? (aD w.heap.size 2)=some (.slice la ls.length lc):=cr Z0.out rfl;have hz0:=(ltG Z0.out);have hz1:=(ltG Z1.out);clear OR;go_wp2_with fail
    go_loopw [40] (λv wq=>∃(i:Nat) (ya:Option Addr) (yc:Nat),i<=ls.length/\v=iV (i:Int)/\Hid (wq.heap[w.heap.size+1]? =some (.cells #[iV 0,sN,sN,iV 0] 66 (0,0)))/\
     Hid (wq.heap[w.heap.size+2]? =some (.cells #[iV k,.slice xa fs.length xc,.slice ya i yc,iV (o+b)] 66 (0,0)))/\Hid (Below w.heap.size w wq)/\Hid (wq.ownsRow w.heap.size 121 2 (.slice xa fs.length xc) fs.length (F5 (mvF b fs)))/\Hid (wq.ownsRow w.heap.size 3 1 (.slice ya i yc) i (B8 (mvI b (ls.take i))))) (λv _=>ls.length - (intOf v).toNat)
    case atStart=>exact⟨0,none,0,wQ _,rfl,Z1.out,Z2.out,BB.out,OF.out,by show World.ownsRow _ _ _ _ _ _ _;exact kW _ _ _ _⟩
    case round=>
     clear Z0 Z1 Z2 BR d0 e2 hz0 hz1 hz2 OF BB;obtain⟨i,ya,yc,hi,rfl,Z1,Z2,BR,OF,OR⟩:=hrel;have d0:wr.cell? (aD (w.heap.size+2) 2)=some (.slice ya i yc):=cr Z2.out rfl;have hz2:=(ltG Z2.out);have hz1:=(ltG Z1.out);by_cases hil:i<ls.length
     · obtain⟨g,rfl,hg,hl1,hl2,y0⟩:=D5 (S8a HL.out BR.out hLL.out) hil;have hx:=H2.out ls[i] (mQ hil);have HT:=A0 (M4c b hil);generalize ls[i]=y at *;unfold maxLen at hl2;obtain⟨i0,hi0,hzz0,hzz1,hzz2⟩:=info_parts Tryz.infoInt;have hw3:=A0 (OR.out.alloc (.cells #[iV (y+b)] 3));have hsz:=BR.out.size;go_wp2_with (at_builtin;refine wpList_append_own_at _ rfl _ _ 43 rfl w.heap.size 3 i0 (iV 0) 1 8 underlying43 hi0 hzz0 hzz1 hzz2 rfl (by decide) _ _ _ rfl hw3.out (aD wr.heap.size 0) 1 1 [iV (y+b)] rfl rfl ?c1 ?c2 ?c3 ?c4 ?c5 ?_)
       case c1=>exact cell_one_new _ _ _
       case c2=>intro u hu;simp at hu;rcases hu with rfl;rfl
       case c3=>simp only[maxLen];omega
       case c4=>omega
       case c5=>simp;omega
       · intro v' w5 hown2 hg2 _ hat;obtain⟨ya2,yc2,rfl⟩:=B7 hown2;obtain⟨k0,k1,k2,k3,k4,k5,k6,k7⟩:=Q1a (o:=2) Z2.out (by omega) OR.out (by decide) BR.out (vQ _) (Chg.alloc No wr _) hg2 hown2;have K0:w5.cell? (aD (w.heap.size+2) 2)=some (.slice ya i yc):=k0;have K3:=A0 k3;have K4:=A0 k4;have K5:=A0 k5;have K6:=A0 (k6 (w.heap.size+1) _ (by omega) Z1.out);have K7:=A0 (k7 (by decide) (by decide) OF.out);clear k0 k3 k4 k5 k6 k7 hown2 hg2 hat hw3 OR Z1 Z2 BR OF;go_wp2_with fail
         go_roundw
         case rel=>exact⟨i+1,ya2,yc2,by omega,by go_num,K6.out,K5.out,K3.out,K7.out,by
          show World.ownsRow _ _ _ _ _ _ _;rw[HT.out,M5];exact K4.out⟩
         case measure=>simp[intOf];omega
     · have hie:i=ls.length:=by omega
       subst hie;have OL:=A0 OR.out;rw[List.take_length]at OL;have m0:wr.cell? (aD (w.heap.size+2) 0)=some (iV k):=cr Z2.out rfl;have m1:wr.cell? (aD (w.heap.size+2) 1)=some (.slice xa fs.length xc):=cr Z2.out rfl;have m3:wr.cell? (aD (w.heap.size+2) 3)=some (iV (o+b)):=cr Z2.out rfl;have n0:wr.cell? (aD (w.heap.size+1) 0)=some (iV 0):=cr Z1.out rfl;have n1:wr.cell? (aD (w.heap.size+1) 1)=some (sN):=cr Z1.out rfl;have n2:wr.cell? (aD (w.heap.size+1) 2)=some (sN):=cr Z1.out rfl;have n3:wr.cell? (aD (w.heap.size+1) 3)=some (iV 0):=cr Z1.out rfl;have nf:∀o,wr.frozen? (aD (w.heap.size+1) o)=false:=λo=>frozen_of_row wr _ o _ _ Z1.out;have CC:∀a0 a1 a2 a3,Chg (λk=>k=w.heap.size+1) wr ((((wr.setCell (aD (w.heap.size+1) 0) a0).setCell (aD (w.heap.size+1) 1) a1).setCell (aD (w.heap.size+1) 2) a2).setCell (aD (w.heap.size+1) 3) a3):=λa0 a1 a2 a3=>
        (((Chg.set wr (aD (w.heap.size+1) 0) a0).trans (Chg.set _ (aD (w.heap.size+1) 1) a1) (λ_ _ x=>x)).trans (Chg.set _ (aD (w.heap.size+1) 2) a2) (λ_ _ x=>x)).trans (Chg.set _ (aD (w.heap.size+1) 3) a3) (λ_ _ x=>x)
       have HX:∀a0 a1 a2 a3,Hid (Below w.heap.size w ((((wr.setCell (aD (w.heap.size+1) 0) a0).setCell (aD (w.heap.size+1) 1) a1).setCell (aD (w.heap.size+1) 2) a2).setCell (aD (w.heap.size+1) 3) a3)/\
        ((((wr.setCell (aD (w.heap.size+1) 0) a0).setCell (aD (w.heap.size+1) 1) a1).setCell (aD (w.heap.size+1) 2) a2).setCell (aD (w.heap.size+1) 3) a3).ownsRow w.heap.size 121 2 (.slice xa fs.length xc) fs.length (F5 (mvF b fs))/\
        ((((wr.setCell (aD (w.heap.size+1) 0) a0).setCell (aD (w.heap.size+1) 1) a1).setCell (aD (w.heap.size+1) 2) a2).setCell (aD (w.heap.size+1) 3) a3).ownsRow w.heap.size 3 1 (.slice ya ls.length yc) ls.length (B8 (mvI b ls))):=by
        intro a0 a1 a2 a3;refine⟨BR.out.trans ((CC a0 a1 a2 a3).toBelow (λk _ x=>by omega) BR.out.size),A3 OF.out (CC a0 a1 a2 a3) (λg hg hx=> ?_),A3 OL.out (CC a0 a1 a2 a3) (λg hg hx=> ?_)⟩
        · subst hx;obtain⟨_,cur,hh⟩:=A9 OF.out _ hg;have hz:=Z1.out;rw[hh]at hz;simp only[zQ,xW]at hz;exact absurd hz.2.1 (by decide)
        · subst hx;obtain⟨_,cur,hh⟩:=A9 OL.out _ hg;have hz:=Z1.out;rw[hh]at hz;simp only[zQ,xW]at hz;exact absurd hz.2.1 (by decide)
       clear CC;go_wp2_with fail
       exact bodyPost_ret (v:= .agg #[iV k,.slice xa fs.length xc,.slice ya ls.length yc,iV (o+b)]) (by simp[results,results38,go_sem,n0,n1,n2,n3]) rfl ⟨(HX _ _ _ _).out.1,xa,xc,ya,yc,rfl,(HX _ _ _ _).out.2.1,(HX _ _ _ _).out.2.2⟩
section
variable{lb mb N:Nat}
theorem M4b(T X:List M.Ty){j:Nat}(hj:j<X.length):M.U5 T (X.take (j+1))=M.U5 T (X.take j)++[M.mvT T.length X[j]]:=by
 unfold M.U5;rw[nQ hj,List.map_append];simp
def F9a(lb:Nat)(v:Value)(k:Nat):Prop:=k=lb\/some k=v.ownBlock
structure Sho(w:World)(lb mb N:Nat)(T:List M.Ty)(D:Dt)(ok:Nat->Prop):Prop where
 tsok:M.TsOk T
 mst:Mst w mb N T D
 blk:∃yv yx,w.heap[lb]? =some (.cells #[yv,.map (some mb)] 97 (0,0))/\w.ownsRow lb 66 4 yv T.length yx/\Rws (TyV w ok) T yx
theorem TyV.mono{w:World}{ok ok':Nat->Prop}(ho:∀g,ok g->g<w.heap.size->ok' g)(t:M.Ty)(xs:List Value)(h:TyV w ok t xs):TyV w ok' t xs:=TyV.chg (Chg.refl No w) (λ_ _ _ x=>x.elim) ho t xs h
theorem Sho.shp{w:World}{T:List M.Ty}{D:Dt}{ok:Nat->Prop}(h:Sho w lb mb N T D ok):Shp w lb mb N T D:=by
 obtain⟨h1,h2,yv,yx,h3,h4,h5⟩:=h;exact⟨h1,h2,yv,yx,h3,h4,h5.imp (TyV.mono λ_ _ _=>trivial)⟩
theorem Shp.sho{w:World}{T:List M.Ty}{D:Dt}(h:Shp w lb mb N T D):Sho w lb mb N T D (λ_=>True):=⟨h.ok,h.mst,h.blk⟩
theorem Sho.chg{S:Nat->Prop}{w w':World}{T:List M.Ty}{D D':Dt}{ok ok':Nat->Prop}(h:Sho w lb mb N T D ok)(hc:Chg S w w')(hm:Mst w' mb N T D')
 (hs:∀k cur e,w.heap[k]? =some (.cells cur e (0,0))->(e=97\/e=66\/((e=121\/e=3)/\ok k))->¬S k) (ho:∀g,ok g->g<w.heap.size->ok' g):Sho w' lb mb N T D' ok':=by
 obtain⟨h1,_,yv,yx,hb,hy,hr⟩:=h;refine⟨h1,hm,yv,yx, ?_,A3 hy hc λg hg x=> ?_,hr.imp (TyV.chg hc (λg hok _ hx hh=> ?_) ho)⟩
 · rw[hc.block lb (ltG hb) (hs lb _ _ hb (.inl rfl))];exact hb
 · obtain⟨_,cur,hh⟩:=A9 hy g hg;exact hs g cur _ hh (.inr (.inl rfl)) x
 · obtain⟨cur,e,hh,he⟩:=hh;exact hs g cur _ hh (.inr (.inr ⟨he,hok⟩)) hx
theorem Sho.still{w w':World}{T:List M.Ty}{D:Dt}{ok:Nat->Prop}(h:Sho w lb mb N T D ok)(hc:Chg No w w'):Sho w' lb mb N T D ok:=h.chg hc (h.mst.chg hc (λx=>x)) (λ_ _ _ _ _ x=>x) (λ_ x _=>x)
theorem Sho.push{ok:Nat->Prop}{wr w4 w5:World}{T:List M.Ty}{D:Dt}{ad:Option Addr}{c gg cap:Nat}{yx:List Value}{t:M.Ty}{fv lv:Value}(hb:wr.heap[lb]? =some (.cells #[.slice ad T.length c,.map (some mb)] 97 (0,0)))(hT:M.TsOk T)(ht:M.TyOk t T.length)(hm:Mst wr mb N T D)(hN:T.length+1<=N)
 (ho:wr.ownsRow lb 66 4 (.slice ad T.length c) T.length yx) (hr:Rws (TyV wr ok) T yx) (h1:Chg No wr w4) (hty:TyV w4 ok t [iV t.kind,fv,lv,iV t.of'])
 (hg:w4.grownBy w5 (Value.ownBlock (.slice ad T.length c))) (ho5:w5.ownsRow lb 66 4 (.slice (some (aD gg 0)) (T.length+1) cap) (T.length+1) (yx++[iV t.kind,fv,lv,iV t.of'])):
 w5.cell? (aD lb 0)=some (.slice ad T.length c)/\w5.frozen? (aD lb 0)=false/\lb<w5.heap.size/\Chg (F9a lb (.slice ad T.length c)) wr (w5.setCell (aD lb 0) (.slice (some (aD gg 0)) (T.length+1) cap))/\Sho (w5.setCell (aD lb 0) (.slice (some (aD gg 0)) (T.length+1) cap)) lb mb N (T++[t]) D ok/\
  (w5.setCell (aD lb 0) (.slice (some (aD gg 0)) (T.length+1) cap)).cell? (aD lb 0)=some (.slice (some (aD gg 0)) (T.length+1) cap):=by
 have ho4:w4.ownsRow lb 66 4 (.slice ad T.length c) T.length yx:=A3 ho h1 (λ_ _ x=>x);have hb4:w4.heap[lb]? =some (.cells #[.slice ad T.length c,.map (some mb)] 97 (0,0)):=by rw[h1.block lb (ltG hb) (λx=>x)];exact hb
 have hne:some lb≠Value.ownBlock (.slice ad T.length c):=by
  intro hx;obtain⟨_,cur,hh⟩:=A9 ho4 lb hx.symm;rw[hb4]at hh;simp only[zQ,xW]at hh;exact absurd hh.2.1 (by decide)
 have hb5:w5.heap[lb]? =some (.cells #[.slice ad T.length c,.map (some mb)] 97 (0,0)):=by rw[hg.block lb (ltG hb4) hne];exact hb4
 have hC45:Chg (F9a lb (.slice ad T.length c)) w4 (w5.setCell (aD lb 0) (.slice (some (aD gg 0)) (T.length+1) cap)):=((Chg.grown hg).mono λ_ _ x=> .inr x).trans (Chg.set _ _ _) (λ_ _ x=> .inl x);have hC:Chg (F9a lb (.slice ad T.length c)) wr (w5.setCell (aD lb 0) (.slice (some (aD gg 0)) (T.length+1) cap)):=(h1.mono λ_ _ x=>x.elim).trans hC45 (λ_ _ x=>x);have hb6:(w5.setCell (aD lb 0) (.slice (some (aD gg 0)) (T.length+1) cap)).heap[lb]? =some (.cells #[.slice (some (aD gg 0)) (T.length+1) cap,.map (some mb)] 97 (0,0)):=by rw[heap_setCell_same w5 lb 0 _ _ _ hb5];rfl
 have hmb:¬F9a lb (.slice ad T.length c) mb:=by
  rintro(hx|hx)
  · subst hx;exact hm.tag _ _ _ hb
  · obtain⟨_,cur,hh⟩:=A9 ho mb hx.symm;exact hm.tag _ _ _ hh
 have key:∀g,ok g->g<w4.heap.size->F9a lb (.slice ad T.length c) g->(∃cur e,w4.heap[g]? =some (.cells cur e (0,0))/\(e=121\/e=3))->False:=by
  rintro g _ _ (hx|hx) ⟨cur,e,hh,he⟩
  · subst hx;rw[hb4]at hh;simp only[zQ,xW]at hh;rcases he with rfl|rfl<;>exact absurd hh.2.1 (by decide)
  · obtain⟨_,cur2,hh2⟩:=A9 ho4 g hx.symm;rw[hh]at hh2;simp only[zQ,xW]at hh2;rcases he with rfl|rfl<;>exact absurd hh2.2.1 (by decide)
 have hr4:Rws (TyV w4 ok) T yx:=hr.imp (TyV.chg h1 (λ_ _ _ x=>x.elim) (λ_ x _=>x));refine⟨cr hb5 rfl,frozen_of_row w5 lb 0 _ _ hb5,(ltG hb5),hC,⟨hT.snoc ht,(hm.chg hC hmb).more hT [t] (by simp;omega),_,_,hb6, ?_,(hr4.imp (TyV.chg hC45 key (λ_ x _=>x))).snoc (TyV.chg hC45 key (λ_ x _=>x) _ _ hty)⟩,cr hb6 rfl⟩;have:=A3 ho5 (Chg.set w5 (aD lb 0) (.slice (some (aD gg 0)) (T.length+1) cap)) (λk hk hx=>by
  have hx':k=lb:=hx;subst hx';obtain⟨_,cur2,hh2⟩:=A9 ho5 k hk;rw[hb5]at hh2;simp only[zQ,xW]at hh2;exact absurd hh2.2.1 (by decide))
 simpa using this
theorem Q5a{ok : Nat -> Prop}{T : List M.Ty}{D : Dt}(w : World)(h : Sho w lb mb N T D ok)(t : M.Ty)(fa la : Option Addr)(fn fc ln lc : Nat)(ht : TyV w ok t [iV t.kind, .slice fa fn fc, .slice la ln lc, iV t.of'])(hk : M.TyOk t T.length)(hN : T.length + 1 <= N) :
    Calls prog 17 #[pV lb,.agg #[iV t.kind,.slice fa fn fc,.slice la ln lc,iV t.of']] w λe w'=>e= .returned (iV (T.length:Int))/\(∃v,w.cell? (aD lb 0)=some v/\Chg (F9a lb v) w w')/\Sho w' lb mb N (T++[t]) D ok:=by
  have hfew:=h.shp.few
  obtain⟨hT,hm,yv,yx,hb,ho,hr⟩:=h
  obtain⟨ad,c,rfl⟩:=B7 ho
  have hlt:=(ltG hb)
  have c0:w.cell? (aD lb 0)=some (.slice ad T.length c):=cr hb rfl
  have fz:w.frozen? (aD lb 0)=false:=frozen_of_row w lb 0 _ _ hb
  have HP:=A0 (λ(w4 w5:World) (gg cap:Nat) (h1:Chg No w w4)=>Sho.push (ok:=ok) (w4:=w4) (w5:=w5) (gg:=gg) (cap:=cap) hb hT hk hm hN ho hr h1 (TyV.chg h1 (λ_ _ _ x=>x.elim) (λ_ x _=>x) _ _ ht))
  have hne:Value.ownBlock (.slice ad T.length c)≠some lb:=by
    intro hx
    obtain⟨_,cur,hh⟩:=A9 ho lb hx
    rw[hb]at hh
    simp only[zQ,xW]at hh
    exact absurd hh.2.1 (by decide)
  have HV:Hid (w.cell? (aD lb 0)=some (.slice ad T.length c)):=c0
  have HY:=A0 ho
  obtain⟨i0,hi,hz0,hz1,hz2⟩:=info_parts Tryz.infoTy
  clear ht hb ho hr hm
  go_enter func17,ntmps17
  go_wp2_with fail
  go_region_law ((refine step_append_lies _ (by rfl) _ _ _ (by rfl) lb 66 i0 _ 4 64 underlying39 hi hz0 hz1 hz2 rfl (by omega) (.slice ad T.length c) T.length yx (by rfl) (((HY.out.alloc _).alloc _).drew) (aD (w.heap.size + 1) 0) 1 1 [iV t.kind, .slice fa fn fc, .slice la ln lc, iV t.of'] (by rfl) (by rfl) (World.news_of_block (cs := #[iV t.kind, .slice fa fn fc, .slice la ln lc, iV t.of']) (t := 66) (fr := (0, 0)) (F3a w _ _)) (by simp [Value.oneCell']) (by omega) (by simp only [maxLen]; omega) (by omega) (by simp; omega) (w.heap.size + 2) (by simp) ?_
                  intro gg cap w1 hown1 hgrow hat1 hlt1
                  have z4:w1.cell? (aD lb 0)=some (.slice ad T.length c):=by rw[hgrow.cell_far _ (by simp;omega) (Ne.symm hne)];exact F9 (by simp;omega) (F9 hlt c0)
                  have y4:w1.frozen? (aD lb 0)=false:=by rw[hgrow.frozen_far _ (by simp;omega) (Ne.symm hne)];exact S7 (by simp;omega) (S7 hlt fz)))
  all_goals
    have HQ:=A0 (HP.out _ _ gg cap (((Chg.alloc No w _).trans (Chg.alloc No _ _) (λ_ _ x=>x)).trans (Chg.drewN No _ 1) (λ_ _ x=>x)) hgrow hown1)
    clear hgrow hown1 HP HY
    go_wp2
    go_ret
    exact⟨J3 (by omega),⟨_,HV.out,HQ.out.2.2.2.1⟩,HQ.out.2.2.2.2.1⟩
theorem Y2a{w:World}{xa:Option Addr}{xc:Nat}{X:List M.Ty}{xx:List Value}(hx:w.ownsRow 0 66 4 (.slice xa X.length xc) X.length xx)(hr:Rws (TyV w (λ_=>True)) X xx){i:Nat}(hi:i<X.length):
 ∃g fa fc la lc,xa=some (aD g 0)/\g<w.heap.size/\X.length<=xc/\xc<=maxLen/\w.cell? (aD g (i * 4))=some (iV X[i].kind)/\w.cell? (aD g (i * 4+1))=some (.slice fa X[i].fields.length fc)/\w.cell? (aD g (i * 4+2))=some (.slice la X[i].list.length lc)/\
  w.cell? (aD g (i * 4+3))=some (iV X[i].of')/\w.ownsRow 0 121 2 (.slice fa X[i].fields.length fc) X[i].fields.length (F5 X[i].fields)/\w.ownsRow 0 3 1 (.slice la X[i].list.length lc) X[i].list.length (B8 X[i].list):=by
 obtain⟨g,rfl,_,hg,hc1,hc2,hcell⟩:=D8 hx (by omega);obtain⟨xs,ht,hx⟩:=Rws.at (z:=4) (λ_ _ h=>h.len) i hi hr;obtain⟨fv,lv,rfl,ho1,ho2,_⟩:=ht;obtain⟨fa,fc,rfl⟩:=B7 ho1;obtain⟨la,lc,rfl⟩:=B7 ho2;refine⟨g,fa,fc,la,lc,rfl,hg,hc1,hc2,hcell _ _ ?_,hcell _ _ ?_,hcell _ _ ?_,hcell _ _ ?_,ho1,ho2⟩
 · have:=hx 0 (by omega);simpa using this
 · have:=hx 1 (by omega);simpa using this
 · have:=hx 2 (by omega);simpa using this
 · have:=hx 3 (by omega);simpa using this
theorem U0b{w:World}{v:Value}{n:Nat}{yx:List Value}{cs:Array Value}(hb:w.heap[lb]? =some (.cells cs 97 (0,0)))(ho:w.ownsRow lb 66 4 v n yx):∀g,True->g<w.heap.size->F9a lb v g->(∃cur e,w.heap[g]? =some (.cells cur e (0,0))/\(e=121\/e=3))->False:=by
 rintro g _ _ (hx|hx) ⟨cur,e,hh,he⟩
 · subst hx;rw[hb]at hh;simp only[zQ,xW]at hh;rcases he with rfl|rfl<;>exact absurd hh.2.1 (by decide)
 · obtain⟨_,cur2,hh2⟩:=A9 ho g hx.symm;rw[hh]at hh2;simp only[zQ,xW]at hh2;rcases he with rfl|rfl<;>exact absurd hh2.2.1 (by decide)
def O9d(w:World)(lb:Nat)(v:Value)(wr:World)(n:Nat):Prop:=∃ad c,wr.cell? (aD lb 0)=some (.slice ad n c)/\(Value.ownBlock (.slice ad n c)=v.ownBlock\/∀g,Value.ownBlock (.slice ad n c)=some g->w.heap.size<=g)
theorem N1c{T : List M.Ty}{D : Dt}{ok : Nat -> Prop}(w : World)(h : Sho w lb mb N T D ok)(hokn : ∀ g, w.heap.size <= g -> ok g)(X : List M.Ty)(xa : Option Addr)(xc : Nat)(xx : List Value)(hx : w.ownsRow 0 66 4 (.slice xa X.length xc) X.length xx)(hxr : Rws (TyV w (λ_ => True)) X xx)(hX : M.TsOk X)
    (hq:∀t∈X,t.fields.length<=1001/\t.list.length<=1001/\(t.kind=8\/t.kind=9\/t.of'=0)) (hN:T.length+X.length<=N) (v0:Value) (hv0:w.cell? (aD lb 0)=some v0) (hsep:∀g,v0.ownBlock=some g->Value.ownBlock (.slice xa X.length xc)≠some g):
    Calls prog 16 #[pV lb,.slice xa X.length xc] w λe w'=>e= .returned (iV ((T.length:Int)+X.length - 1))/\Chg (F9a lb v0) w w'/\Sho w' lb mb N (M.U5 T X) D ok/\O9d w lb v0 w' (T.length+X.length):=by
  have hfew:=h.shp.few
  have hN2:=h.mst.few
  have hT:=h.tsok
  obtain⟨yv,yx0,hb0,ho0,-⟩:=h.blk
  have hvy:v0=yv:=by
    have:w.cell? (aD lb 0)=some yv:=cr hb0 rfl
    rw[hv0]at this
    exact Option.some.inj this
  subst hvy
  obtain⟨ad0,cc0,rfl⟩:=B7 ho0
  have hlt:=(ltG hb0)
  have HXW:Hid (∀wr,Chg (F9a lb (.slice ad0 T.length cc0)) w wr->wr.ownsRow 0 66 4 (.slice xa X.length xc) X.length xx/\Rws (TyV wr (λ_=>True)) X xx):=by
    intro wr hc
    refine⟨A3 hx hc (λg hg hs=> ?_),hxr.imp (TyV.chg hc (U0b hb0 ho0) (λ_ _ _=>trivial))⟩
    rcases hs with hs|hs
    · subst hs
      obtain⟨_,cur,hh⟩:=A9 hx g hg
      rw[hb0]at hh
      simp only[zQ,xW]at hh
      exact absurd hh.2.1 (by decide)
    · exact hsep g hs.symm hg
  have HQ:=A0 hq
  have H0:=A0 h
  have HXok:=A0 hX
  clear h hx hxr hq hsep hb0 ho0 hX
  have hTX:∀j,j<=X.length->(M.U5 T (X.take j)).length=T.length+j:=λj hj=>by simp[M.U5];omega
  have HTX:=A0 hTX
  clear hTX
  go_enter func16,ntmps16
  go_wp2_with fail
  go_loopw [15] (λv wr=>∃(j:Nat),j<=X.length/\v=iV (j:Int)/\Hid (Sho wr lb mb N (M.U5 T (X.take j)) D ok)/\Hid (Chg (F9a lb (.slice ad0 T.length cc0)) w wr)/\Hid (O9d w lb (.slice ad0 T.length cc0) wr (T.length+j))) (λv _=>X.length - (intOf v).toNat)
  case atStart=>exact⟨0,wQ _,rfl,by simpa[M.U5]using H0,Chg.refl _ _,⟨ad0,cc0,by simpa using hv0,.inl rfl⟩⟩
  case round=>
    obtain⟨j,hj,rfl,SR,CR,RR⟩:=hrel
    have hlen:=HTX.out j hj
    by_cases hjl:j<X.length
    · obtain⟨hxw,hxrw⟩:=HXW.out wr CR.out
      obtain⟨g,fa,fc,la,lc,rfl,hg,hc1,hc2,x0,x1,x2,x3,of1,ol1⟩:=Y2a hxw hxrw hjl
      unfold maxLen at hc2
      have hty:=HXok.out j hjl
      have hqj:=HQ.out X[j] (mQ hjl)
      have HB:=A0 (M4b T X hjl)
      have HTY:Hid (M.TyOk (M.mvT T.length X[j]) (M.U5 T (X.take j)).length):=by
        show M.TyOk _ _
        rw[hlen]
        exact hty.mv T.length
      have hfl:=hty.fld
      have hls:=hty.lst
      have hof:0<=X[j].of'/\X[j].of'<=4000:=by
        rcases hqj.2.2 with h8|h8|h8
        · have:=hty.of (.inl h8);omega
        · have:=hty.of (.inr h8);omega
        · omega
      have hq1:=hqj.1
      have hq2:=hqj.2.1
      clear hty hqj hxw hxrw
      generalize X[j]=xj at *
      obtain⟨k,fs,ls,o⟩:=xj
      simp only at x0 x1 x2 x3 of1 ol1 hfl hls hof hq1 hq2
      have HMV:=B7c (wr.alloc (.cells #[iV k,.slice fa fs.length fc,.slice la ls.length lc,iV o] 66)).drew k o fs ls fa la fc lc T.length (of1.alloc _) (ol1.alloc _) (by omega) (λp hp=>by have:=hfl p hp;omega) (λp hp=>by have:=hls p hp;omega) hof ⟨by omega,by omega⟩
      obtain⟨ad,c,c0,hrow⟩:=RR.out
      obtain⟨yv,yx,hb,ho,hr⟩:=SR.out.blk
      have hyv:yv= .slice ad (T.length+j) c:=by
        have:wr.cell? (aD lb 0)=some yv:=cr hb rfl
        rw[c0]at this
        exact(Option.some.inj this).symm
      subst hyv
      have hltr:=(ltG hb)
      have fzr:wr.frozen? (aD lb 0)=false:=frozen_of_row wr lb 0 _ _ hb
      have hNj:(M.U5 T (X.take j)).length+1<=N:=by omega
      rw[<-hlen]at c0 hrow hb ho
      have hTl:=A0 hlen
      have hok:=SR.out.tsok
      have hms:=SR.out.mst
      generalize M.U5 T (X.take j)=TT at *
      have hTTl:TT.length<=4000:=by omega
      have HP:=A0 (λ(w4 w5:World) (gg cap:Nat) (fv lv:Value) (h1:Chg No wr w4) (hty:TyV w4 ok (M.mvT T.length ⟨k,fs,ls,o⟩) [iV k,fv,lv,iV (o+T.length)])=>Sho.push (ok:=ok) (w4:=w4) (w5:=w5) (gg:=gg) (cap:=cap) (fv:=fv) (lv:=lv) hb hok HTY.out hms hNj ho hr h1 hty)
      have hne:Value.ownBlock (.slice ad TT.length c)≠some lb:=by
        intro hx
        obtain⟨_,cur,hh⟩:=A9 ho lb hx
        rw[hb]at hh
        simp only[zQ,xW]at hh
        exact absurd hh.2.1 (by decide)
      have HCM:Hid (∀wm,Below (wr.alloc (.cells #[iV k,.slice fa fs.length fc,.slice la ls.length lc,iV o] 66)).drew.heap.size (wr.alloc (.cells #[iV k,.slice fa fs.length fc,.slice la ls.length lc,iV o] 66)).drew wm->Chg No wr wm):=by
        intro wm hbm
        exact((Chg.alloc No wr _).trans (Chg.drewN No _ 1) (λ_ _ x=>x)).trans (Chg.below hbm) (λkk hk x=>by
          have hs:(wr.alloc (.cells #[iV k,.slice fa fs.length fc,.slice la ls.length lc,iV o] 66)).drew.heap.size=wr.heap.size+1:=by simp[World.drew]
          have x':(wr.alloc (.cells #[iV k,.slice fa fs.length fc,.slice la ls.length lc,iV o] 66)).drew.heap.size<=kk:=x
          omega)
      have HY:=A0 (λwm (hc:Chg No wr wm)=>A3 ho hc (λ_ _ x=>x))
      have HC0:=A0 (λwm (hc:Chg No wr wm)=>show wm.cell? (aD lb 0)=some (.slice ad TT.length c)/\wm.frozen? (aD lb 0)=false/\lb<wm.heap.size from ⟨by rw[World.cell?_of_block (hc.block lb hltr (λx=>x))];exact c0,by rw[World.frozen?_of_block (hc.block lb hltr (λx=>x))];exact fzr,yQ hltr hc.size⟩)
      have HR:=A0 hrow
      have CR2:=A0 CR.out
      obtain⟨i0,hi,hz0,hz1,hz2⟩:=info_parts Tryz.infoTy
      clear of1 ol1 hfl hls hof hq1 hq2 hb ho hr hok hms hrow SR CR HTY hlen
      go_wp2_with fail
      go_region_law (first
        | (refine step_append_lies _ (by rfl) _ _ _ (by rfl) lb 66 i0 _ 4 64 underlying39 hi hz0 hz1 hz2 rfl (by omega) (.slice ad TT.length c) TT.length yx (by rfl) ((HY.out wm hcm.out).alloc _) (aD wm.heap.size 0) 1 1 [iV k, .slice fa' fs.length fc', .slice la' ls.length lc', iV (o + T.length)] (by rfl) (by rfl) (World.news_of_block (cs := #[iV k, .slice fa' fs.length fc', .slice la' ls.length lc', iV (o + T.length)]) (t := 66) (fr := (0, 0)) (heap_alloc_new wm _)) (by simp [Value.oneCell']) (by omega) (by simp only [maxLen]; omega) (by omega) (by simp; omega) (wm.heap.size + 1) (by simp) ?_
           intro gg cap w1 hown1 hgrow hat1 hlt1
           have z4:w1.cell? (aD lb 0)=some (.slice ad TT.length c):=by rw[hgrow.cell_far _ (by have:=(HC0.out wm hcm.out).2.2;simp;omega) (Ne.symm hne)];exact F9 (HC0.out wm hcm.out).2.2 (HC0.out wm hcm.out).1
           have y4:w1.frozen? (aD lb 0)=false:=by rw[hgrow.frozen_far _ (by have:=(HC0.out wm hcm.out).2.2;simp;omega) (Ne.symm hne)];exact S7 (HC0.out wm hcm.out).2.2 (HC0.out wm hcm.out).2.1)
        | (go_simp; refine HMV.mono ?_; rintro e wm ⟨hbm, fa', fc', la', lc', rfl, hof2, hol2⟩; have hcm := A0 (HCM.out wm hbm); have zc := (HC0.out wm hcm.out).1; have hltm := (HC0.out wm hcm.out).2.2; have HOF := A0 hof2; have HOL := A0 hol2; clear hbm hof2 hol2))
      all_goals
        have HTV:Hid (TyV (wm.alloc (.cells #[iV k,.slice fa' fs.length fc',.slice la' ls.length lc',iV (o+T.length)] 66)) ok (M.mvT T.length ⟨k,fs,ls,o⟩) [iV k,.slice fa' fs.length fc',.slice la' ls.length lc',iV (o+T.length)]):=by
          refine⟨_,_,rfl, ?_, ?_,λg hg=>hokn g (kQ CR2.out.size (kQ (by simp) (HOF.out.lt g hg).1)),λg hg=>hokn g (kQ CR2.out.size (kQ (by simp) (HOL.out.lt g hg).1))⟩
          · have:=(C7 HOF.out (wQ _)).alloc (.cells #[iV k,.slice fa' fs.length fc',.slice la' ls.length lc',iV (o+T.length)] 66)
            simpa[M.mvT,mvF]using this
          · have:=(C7 HOL.out (wQ _)).alloc (.cells #[iV k,.slice fa' fs.length fc',.slice la' ls.length lc',iV (o+T.length)] 66)
            simpa[M.mvT,mvI]using this
        have HQ5:=A0 (HP.out _ w1 gg cap _ _ (hcm.out.trans (Chg.alloc No wm _) (λ_ _ x=>x)) HTV.out hgrow hown1)
        have HAT:=A0 hat1
        have HCS:=A0 (hcm.out.size)
        clear hgrow hown1 hat1 HP HY HTV
        go_wp2
        go_roundw
        case rel=>
          have hws:=CR2.out.size
          refine⟨j+1,by omega,by go_num,by rw[HB.out];exact HQ5.out.2.2.2.2.1,CR2.out.trans HQ5.out.2.2.2.1 (λi hi hs=> ?_),⟨some (aD gg 0),cap, ?_, ?_⟩⟩
          · rcases hs with hs|hs
            · exact .inl hs
            · rcases HR.out with hr|hr
              · exact .inr (hs.trans hr)
              · have:=hr i hs.symm;omega
          · have e:T.length+(j+1)=TT.length+1:=by have:=hTl.out;omega
            rw[e]
            exact HQ5.out.2.2.2.2.2
          · rcases HAT.out with ha|ha
            · rcases HR.out with hr|hr
              · left
                show some gg=_
                rw[<-ha]
                exact hr
              · right
                intro g' hg'
                have e:some gg=some g':=hg'
                cases e
                exact hr gg ha
            · right
              intro g' hg'
              have e:some gg=some g':=hg'
              cases e
              have:=HCS.out
              omega
        case measure=>simp[intOf];omega
    · have hje:j=X.length:=by omega
      subst hje
      rw[List.take_length]at *
      obtain⟨ad,c,c0,-⟩:=id RR.out
      have hltr:lb<wr.heap.size:=World.block_lt_of_cell? wr _ c0
      go_wp2_with fail
      go_ret
      exact⟨J3 (by omega),CR.out,SR.out,RR.out⟩
end
theorem X3c(w:World):Calls prog 14 #[] w λe w'=>e= .returned (pV (w.heap.size+1))/\Chg No w w'/\Shp w' (w.heap.size+1) w.heap.size 4000 [] (.map [])/\w'.cell? (aD (w.heap.size+1) 0)=some (sN):=by
 have hmm:=@run_makeMap prog;have HB:Hid (((w.alloc (.map #[] 0)).alloc (.cells #[sN,.map (some w.heap.size)] 97)).heap[w.heap.size+1]? =some (.cells #[sN,.map (some w.heap.size)] 97 (0,0))):=by
  have:=heap_alloc_new (w.alloc (.map #[] 0)) (.cells #[sN,.map (some w.heap.size)] 97);rw[show (w.alloc (.map #[] 0)).heap.size=w.heap.size+1 from by simp]at this;exact this
 have HS:Hid (Shp ((w.alloc (.map #[] 0)).alloc (.cells #[sN,.map (some w.heap.size)] 97)) (w.heap.size+1) w.heap.size 4000 [] (.map [])):=
  ⟨by intro i hi;simp at hi,(X4c w 4000 (vQ _)).chg (Chg.alloc No _ _) (λx=>x),_,[],HB.out,kW _ _ _ _,rfl⟩
 go_enter func14,ntmps14;go_wp2;go_ret;exact⟨rfl,(Chg.alloc No _ _).trans (Chg.alloc No _ _) (λ_ _ x=>x),HS.out,cr HB.out rfl⟩
end Go.Proofs.YtfhhipefecekkaaGreatDoor
