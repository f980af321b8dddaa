/-
  A part of the proof.
-/
import Derived.Test.YtgdnpemiiageaaaGreatDoorFitA
import Derived.Deep.DeepCutAuto
set_option maxHeartbeats 16000000
set_option maxRecDepth 100000
namespace Go.Proofs.YtgdnpemiiageaaaGreatDoor
open Go.RowKit Go.Maps
section
variable {lb mb N:Nat} {T:List M.Ty}
theorem Mid.trans {w w1 w2:World} {D D1:Dt} {m:Nat} (h:Mid w mb N T D m w1) (hd:∀p q,p<N->q<N->m<=p+q->at2 D1 p q=at2 D p q) (k:Mid w1 mb N T D1 m w2):Mid w mb N T D m w2:=by
 obtain⟨D2,h1,h2⟩:=k.memo;exact⟨h.chg.trans k.chg (fun _ _ x=>x),D2,h1,fun p q hp hq hpq=>(h2 p q hp hq hpq).trans (hd p q hp hq hpq)⟩
theorem Mid.box {w w1:World} {D:Dt} {m q:Nat} {v:Value} {e:TypeId} {D0:Dt} (h:Mid w mb N T D m w1) (hm:Mst w mb N T D0) (hb:Box w q v e):Box w1 q v e:=hb.memo hm h.chg
theorem R0b (m:Nat) (IH:J7a lb mb N T m) (w:World) (D:Dt) (h:Shp w lb mb N T D) (fa:Option Addr) (fc:Nat) (has:List (List UInt8×Int)) (ho:w.ownsRow 0 126 2 (.slice fa has.length fc) has.length (F6 has))
 (ga:Option Addr) (gc:Nat) (wants:List (List UInt8×Int)) (hw:w.ownsRow 0 126 2 (.slice ga wants.length gc) wants.length (F6 wants)) (qh ql:Nat)
 (hin:∀p∈has,0<=p.2/\p.2<T.length/\∀q∈wants,p.2+q.2+1<=m) (hin2:∀q∈wants,0<=q.2/\q.2<T.length) (hl:Box w ql (pV lb) 47) (hq:Box w qh (.slice fa has.length fc) 66):
 Calls Tryz.prog 67 #[.slice ga wants.length gc,.func (.func 149) #[] #[pV qh,pV ql]] w fun e w'=>
  (∃r:Int,e= .returned (.int .i64 r)/\decide (0<=r)=wants.any fun p=> !M5 T has p)/\Mid w mb N T D m w':=by
 have HS:=A0 h;have HO:=A0 ho;have HW:=A0 hw;have HQ1:=A0 hl;have HQ2:=A0 hq;have HI:=A0 hin;have HJ:=A0 hin2;clear h ho hw hl hq hin hin2;go_enter Tryz.func67,Tryz.ntmps67;go_wp2;go_loopw [8] (fun v wr=>∃j:Nat,j<=wants.length/\v= .int .i64 (j:Int)/\Hid ((wants.take j).any (fun p=> !M5 T has p)=false)/\Hid (Mid w mb N T D m wr)) (fun v _=>wants.length - (intOf v).toNat)
 case atStart=>exact⟨0,Nat.zero_le _,rfl,by simp[Hid],Mid.refl HS.out m⟩
 case round=>
  obtain⟨j,hj,rfl,HA,KR⟩:=hrel;by_cases hjl:j<wants.length
  · obtain⟨g,rfl,hg,hl1,hl2,y0,y1⟩:=R9 (T5 HW.out HS.out.mst KR.out.chg) hjl;have hm:=List.getElem_mem hjl;have hx:=HJ.out _ hm;have hxs:=fun p hp=>(HI.out p hp).2.2 _ hm;have HT:=A0 (C4a (p:=fun p=> !M5 T has p) hjl);have HM:=A0 hm;clear hm;generalize wants[j]=e0 at *;obtain⟨nm,yy⟩:=e0;simp only at y0 y1 hx hxs;obtain⟨z,rfl⟩:∃z:Nat,yy=(z:Int):=⟨yy.toNat,by omega⟩;obtain⟨D1,hs1,hd1⟩:=KR.out.shp HS.out;have HC:=J2c m IH wr D1 hs1 fa fc has (T5 HO.out HS.out.mst KR.out.chg) nm z qh ql (by omega) (fun p hp=>⟨(HI.out p hp).1,(HI.out p hp).2.1,by have:=hxs p hp;omega⟩) (KR.out.box HS.out.mst HQ1.out) (KR.out.box HS.out.mst HQ2.out);have HD:=A0 hd1;unfold maxLen at hl2;clear hx hs1 hd1 hxs;have HR:Hid (∀r,r=(!M5 T has (nm,(z:Int)))->(∃x∈wants,(!M5 T has x)=true)\/r=false):=by
     intro r hr;cases r
     · exact .inr rfl
     · exact .inl ⟨_,HM.out,hr.symm⟩
    generalize hr:(!M5 T has (nm,(z:Int)))=r at HT HC;have HR2:=A0 (HR.out r hr.symm);clear hr HR HM;generalize hx:(⟨nm.toArray⟩:ByteArray)=bx at *;clear hx;cases r
    · go_wp2_with fail
      refine HC.mono ?_;clear HC;rintro e w2 ⟨rfl,hf⟩;have K2:=A0 (KR.out.trans HD.out hf);clear hf;go_wp2;go_roundw
      case rel=>exact⟨j+1,by omega,by go_num,by show _=_;rw[HT.out,HA.out];rfl,K2.out⟩
      case measure=>simp[intOf];omega
    · go_wp2_with fail
      refine HC.mono ?_;clear HC;rintro e w2 ⟨rfl,hf⟩;have K2:=A0 (KR.out.trans HD.out hf);clear hf;go_wp2;go_ret;refine⟨⟨_,rfl, ?_⟩,K2.out⟩;rcases HR2.out with ⟨x,hx1,hx2⟩|h0
      · rw[List.any_eq_true.2 ⟨x,hx1,hx2⟩];simp
      · cases h0
  · have hje:j=wants.length:=by omega
    subst hje;rw[List.take_length]at HA;go_wp2;go_ret;exact⟨⟨_,rfl,by rw[HA.out];simp⟩,KR.out⟩
theorem X8a (m:Nat) (IH:J7a lb mb N T m) (w:World) (D:Dt) (h:Shp w lb mb N T D) (fa:Option Addr) (fc:Nat) (has:List (List UInt8×Int)) (ho:w.ownsRow 0 126 2 (.slice fa has.length fc) has.length (F6 has))
 (ga:Option Addr) (gc:Nat) (wants:List (List UInt8×Int)) (hw:w.ownsRow 0 126 2 (.slice ga wants.length gc) wants.length (F6 wants)) (qh ql:Nat)
 (hin:∀p∈has,0<=p.2/\p.2<T.length/\∀q∈wants,p.2+q.2+1<=m) (hin2:∀q∈wants,0<=q.2/\q.2<T.length) (hl:Box w ql (pV lb) 47) (hq:Box w qh (.slice fa has.length fc) 66):
 Calls Tryz.prog 148 #[.slice ga wants.length gc,.func (.func 149) #[] #[pV qh,pV ql]] w fun e w'=>
  e= .returned (.bool (wants.any fun p=> !M5 T has p))/\Mid w mb N T D m w':=by
 have H:=R0b m IH w D h fa fc has ho ga gc wants hw qh ql hin hin2 hl hq;clear h ho hw hl hq hin hin2;generalize (wants.any fun p=> !M5 T has p)=r at *;go_enter Tryz.func148,Tryz.ntmps148;go_wp2_with fail
 refine H.mono ?_;clear H;rintro e w1 ⟨⟨k,rfl,hk⟩,hm⟩;go_wp2;all_goals go_ret
 all_goals exact⟨F2 (by simp_all),hm⟩
theorem F3a {α:Type} (p:α->Bool):∀l:List α,(!l.any fun x=> !p x)=l.all p
 |[]=>rfl
 |a::l=>by
  rw[List.any_cons,List.all_cons,<-F3a p l];cases p a<;>simp
theorem T3a (m:Nat) (IH:J7a lb mb N T m) (w:World) (D:Dt) (h:Shp w lb mb N T D) (fa:Option Addr) (fc:Nat) (has:List (List UInt8×Int)) (ho:w.ownsRow 0 126 2 (.slice fa has.length fc) has.length (F6 has))
 (ga:Option Addr) (gc:Nat) (wants:List (List UInt8×Int)) (hw:w.ownsRow 0 126 2 (.slice ga wants.length gc) wants.length (F6 wants))
 (hin:∀p∈has,0<=p.2/\p.2<T.length/\∀q∈wants,p.2+q.2+1<=m) (hin2:∀q∈wants,0<=q.2/\q.2<T.length):
 Calls Tryz.prog 130 #[pV lb,.slice fa has.length fc,.slice ga wants.length gc] w fun e w'=>
  e= .returned (.bool (wants.all fun p=>M5 T has p))/\Mid w mb N T D m w':=by
 have hmf:=mkf;have b1:=X8b w (pV lb) 47;have b2:=X8b (w.alloc (.cells #[pV lb] 47)) (.slice fa has.length fc) 66;simp only[World.size_alloc]at b2;have H:=X8a m IH _ D ((h.alloc (.cells #[pV lb] 47)).alloc (.cells #[.slice fa has.length fc] 66)) fa fc has ((ho.alloc _).alloc _) ga gc wants ((hw.alloc _).alloc _) (w.heap.size+1) w.heap.size hin hin2 (b1.alloc _) b2;have HM:=A0 (((Mid.refl h m).alloc (.cells #[pV lb] 47)).alloc (.cells #[.slice fa has.length fc] 66));have HN:=A0 (F3a (fun p=>M5 T has p) wants);clear h ho hw hin hin2 b1 b2;generalize (wants.all fun p=>M5 T has p)=r at *;generalize (wants.any fun p=> !M5 T has p)=r' at *;go_enter Tryz.func130,Tryz.ntmps130;go_wp2_with fail
 refine H.mono ?_;clear H;rintro e w1 ⟨rfl,hm⟩;have M1:=A0 (HM.out.trans (fun _ _ _ _ _=>rfl) hm);clear hm;go_wp2;go_ret;exact⟨F2 HN.out,M1.out⟩
end
open Go.RowKit Go.Maps
section
variable {lb mb N:Nat} {T:List M.Ty}
def H9a (T:List M.Ty) (p:Int×Int):Bool:=M.F1 (M.tr T p.1.toNat) (M.tr T p.2.toNat)||M.F1 (M.tr T p.2.toNat) (M.tr T p.1.toNat)
theorem Y1a {α:Type} {p:α->Bool} {l:List α} {j:Nat} (hj:j<l.length):(l.take (j+1)).all p=((l.take j).all p && p l[j]):=by
 rw[List.take_succ_eq_append_getElem hj,List.all_append];simp
theorem A5d {w a b:World} {D:Dt} {m:Nat} {p1 p2:Nat×Nat} {v1 v2:Value} (hc:Chg (fun k=>k=mb) a b) (hm:Mid w mb N T D m b) (h:a.cell? (aD p1.1 p1.2)=some v1/\a.cell? (aD p2.1 p2.2)=some v2/\Hid (Mid w mb N T D m a)):
 b.cell? (aD p1.1 p1.2)=some v1/\b.cell? (aD p2.1 p2.2)=some v2/\Hid (Mid w mb N T D m b):=
 ⟨G9 h.2.2.out hc h.1,G9 h.2.2.out hc h.2.1,hm⟩
theorem X0a (m:Nat) (IH:J7a lb mb N T m) (w:World) (D:Dt) (h:Shp w lb mb N T D) (aa:Option Addr) (ac:Nat) (xs:List Int) (ho:w.ownsRow 0 3 1 (.slice aa xs.length ac) xs.length (C7 xs))
 (ba:Option Addr) (bc:Nat) (bs:List Int) (hp:w.ownsRow 0 3 1 (.slice ba bs.length bc) bs.length (C7 bs)) (hin:∀x∈xs,0<=x/\x<T.length/\∀y∈bs,x+y+1<=m) (hin2:∀y∈bs,0<=y/\y<T.length):
 Calls Tryz.prog 151 #[pV lb,.slice aa xs.length ac,.slice ba bs.length bc] w fun e w'=>
  e= .returned (.bool (decide (xs.length<=bs.length) && (xs.zip bs).all (H9a T)))/\Mid w mb N T D m w':=by
 have HS:=A0 h;have HO:=A0 ho;have HP:=A0 hp;have HI:=A0 hin;have HJ:=A0 hin2;clear h ho hp hin hin2;by_cases hlen:xs.length<=bs.length
 · have hd:decide (xs.length<=bs.length)=true:=by simp[hlen]
   have hgt:decide (bs.length<xs.length)=false:=by simp;omega
   have hzl:(xs.zip bs).length=xs.length:=by simp;omega
   have HZ:=A0 hzl;rw[hd,Bool.true_and];clear hd hzl;go_enter Tryz.func151,Tryz.ntmps151;go_wp2;go_loopw [15] (fun v wr=>∃j:Nat,j<=xs.length/\v= .int .i64 (j:Int)/\Hid (((xs.zip bs).take j).all (H9a T)=true)/\Hid (Mid w mb N T D m wr)) (fun v _=>xs.length - (intOf v).toNat)
   case atStart=>exact⟨0,Nat.zero_le _,rfl,by simp[Hid],Mid.refl HS.out m⟩
   case round=>
    obtain⟨j,hj,rfl,HA,KR⟩:=hrel;by_cases hjl:j<xs.length
    · have hjb:j<bs.length:=by omega
      obtain⟨ga,rfl,hga,hl1,hl2,y0⟩:=D7 (T5 HO.out HS.out.mst KR.out.chg) hjl;obtain⟨gb,rfl,hgb,hl3,hl4,y1⟩:=D7 (T5 HP.out HS.out.mst KR.out.chg) hjb;have hx:=HI.out xs[j] (List.getElem_mem hjl);have hy:=HJ.out bs[j] (List.getElem_mem hjb);have hxy:=hx.2.2 bs[j] (List.getElem_mem hjb);have HT:=A0 (Y1a (p:=H9a T) (l:=xs.zip bs) (j:=j) (by have:=HZ.out;omega));have HN:Hid (∀r,r=false->r=H9a T (xs[j],bs[j])->(xs.zip bs).all (H9a T)=false):=by
       intro r hr1 hr2;rw[List.all_eq_false];refine⟨(xs[j],bs[j]), ?_,by rw[<-hr2,hr1];simp⟩;have e:(xs.zip bs)[j]'(by have:=HZ.out;omega)=(xs[j],bs[j]):=by simp
       rw[<-e];exact List.getElem_mem _
      rw[List.getElem_zip]at HT;generalize xs[j]=xi at *;generalize bs[j]=yi at *;obtain⟨x,rfl⟩:∃x:Nat,xi=(x:Int):=⟨xi.toNat,by omega⟩;obtain⟨y,rfl⟩:∃y:Nat,yi=(y:Int):=⟨yi.toNat,by omega⟩;have HE:Hid (H9a T ((x:Int),(y:Int))=(M.F1 (M.tr T x) (M.tr T y)||M.F1 (M.tr T y) (M.tr T x))):=rfl;have FM:∀(p q:Nat) (r:Bool),(p=x/\q=y/\r=M.F1 (M.tr T x) (M.tr T y))\/(p=y/\q=x/\r=M.F1 (M.tr T y) (M.tr T x))->∀a,Mid w mb N T D m a->
       Calls Tryz.prog 97 #[pV lb,.int .i64 (p:Int),.int .i64 (q:Int)] a fun e w'=>e= .returned (.bool r)/\Chg (fun k=>k=mb) a w'/\Mid w mb N T D m w':=by
       rintro p q r (⟨rfl,rfl,rfl⟩|⟨rfl,rfl,rfl⟩) a ha
       · exact F8a IH HS.out (by omega) (by omega) (by omega) a ha
       · exact F8a IH HS.out (by omega) (by omega) (by omega) a ha
      generalize M.F1 (M.tr T x) (M.tr T y)=r1 at *;generalize M.F1 (M.tr T y) (M.tr T x)=r2 at *;generalize H9a T ((x:Int),(y:Int))=r3 at *;unfold maxLen at hl2 hl4;clear hx hy hxy;cases r1
      · go_wp2_with fail
        go_region_held3 (fun w'=>w'.cell? (aD ga j)=some (.int .i64 (x:Int))/\w'.cell? (aD gb j)=some (.int .i64 (y:Int))/\Hid (Mid w mb N T D m w'))
         (first
          |exact⟨y0,y1,KR.out.drewN 1⟩
          |exact A5d (p1:=(ga,j)) (p2:=(gb,j)) hcf hmf ⟨by assumption,by assumption,by assumption⟩
          |(go_split_ands;exact⟨by assumption,by assumption,by assumption⟩))
         (first
          |((go_at_call 97;go_split_ands;refine(FM _ _ _ (by first|exact .inl ⟨rfl,rfl,rfl⟩|exact .inr ⟨rfl,rfl,rfl⟩) _ (Hid.out (by assumption))).mono ?_;rintro e w' ⟨rfl,hcf,hmf⟩)))
        have M2:Hid (Mid w mb N T D m w'):=by assumption
        cases r2
        · go_wp2;go_ret;exact⟨F2 (HN.out r3 (by rw[HE.out];rfl) rfl).symm,M2.out⟩
        · go_wp2;go_roundw
          case rel=>exact⟨j+1,by omega,by go_num,by show _=_;rw[HT.out,HA.out,HE.out];rfl,M2.out⟩
          case measure=>simp[intOf];omega
      · go_wp2_with fail
        refine wp_region_held_drew (S:=fun w'=>w'.cell? (aD ga j)=some (.int .i64 (x:Int))/\w'.cell? (aD gb j)=some (.int .i64 (y:Int))/\Hid (Mid w mb N T D m w')) (by kernel_rfl) ⟨y0,y1,KR.out.drewN 1⟩ (fun hHeld=> ?_);refine wpAnyH_take (i:=0) (oi:=Oper.mk (some 18) _ _ _ _ _) (v:=pV lb) rfl (by kernel_rfl) (by kernel_rfl) (by kernel_rfl) (fun _ _ _ h=>h) (Or.inl ⟨by rfl,fun w hSw=>by go_simp⟩) (by assumption) ?_;simp only[Act.put,List.setIfInBounds_toArray,List.set_cons_zero,List.set_cons_succ];refine wpAnyH_take (i:=1) (oi:=Oper.mk (some 19) _ _ _ _ _) (v:= .slice (some (aD ga 0)) xs.length ac) rfl (by kernel_rfl) (by kernel_rfl) (by kernel_rfl) (fun _ _ _ h=>h) (Or.inl ⟨by rfl,fun w hSw=>by go_simp⟩) (by assumption) ?_;simp only[Act.put,List.setIfInBounds_toArray,List.set_cons_zero,List.set_cons_succ];refine wpAnyH_take (i:=2) (oi:=Oper.mk (some 20) _ _ _ _ _) (v:= .int .i64 (j:Int)) rfl (by kernel_rfl) (by kernel_rfl) (by kernel_rfl) (fun _ _ _ h=>h) (Or.inl ⟨by rfl,fun w hSw=>by go_simp⟩) (by assumption) ?_;simp only[Act.put,List.setIfInBounds_toArray,List.set_cons_zero,List.set_cons_succ];refine wpAnyH_take (i:=3) (oi:=Oper.mk (some 21) _ _ _ _ _) (v:= .pointer (some (aD ga j))) rfl (by kernel_rfl) (by kernel_rfl) (by kernel_rfl) (fun _ _ _ h=>h) (Or.inl ⟨by rfl,fun w hSw=>by go_simp⟩) (by assumption) ?_;simp only[Act.put,List.setIfInBounds_toArray,List.set_cons_zero,List.set_cons_succ];refine wpAnyH_take (i:=4) (oi:=Oper.mk (some 22) _ _ _ _ _) (v:= .int .i64 (x:Int)) rfl (by kernel_rfl) (by kernel_rfl) (by kernel_rfl) (fun _ _ _ h=>h) (Or.inl ⟨by rfl,fun w hSw=>by obtain⟨h1,h2,h3⟩:=hSw;go_simp⟩) (by assumption) ?_;simp only[Act.put,List.setIfInBounds_toArray,List.set_cons_zero,List.set_cons_succ];refine wpAnyH_take (i:=5) (oi:=Oper.mk (some 23) _ _ _ _ _) (v:= .slice (some (aD gb 0)) bs.length bc) rfl (by kernel_rfl) (by kernel_rfl) (by kernel_rfl) (fun _ _ _ h=>h) (Or.inl ⟨by rfl,fun w hSw=>by go_simp⟩) (by assumption) ?_;simp only[Act.put,List.setIfInBounds_toArray,List.set_cons_zero,List.set_cons_succ];refine wpAnyH_take (i:=6) (oi:=Oper.mk (some 24) _ _ _ _ _) (v:= .int .i64 (j:Int)) rfl (by kernel_rfl) (by kernel_rfl) (by kernel_rfl) (fun _ _ _ h=>h) (Or.inl ⟨by rfl,fun w hSw=>by go_simp⟩) (by assumption) ?_;simp only[Act.put,List.setIfInBounds_toArray,List.set_cons_zero,List.set_cons_succ];refine wpAnyH_take (i:=7) (oi:=Oper.mk (some 25) _ _ _ _ _) (v:= .pointer (some (aD gb j))) rfl (by kernel_rfl) (by kernel_rfl) (by kernel_rfl) (fun _ _ _ h=>h) (Or.inl ⟨by rfl,fun w hSw=>by go_simp⟩) (by assumption) ?_;simp only[Act.put,List.setIfInBounds_toArray,List.set_cons_zero,List.set_cons_succ];refine wpAnyH_take (i:=8) (oi:=Oper.mk (some 26) _ _ _ _ _) (v:= .int .i64 (y:Int)) rfl (by kernel_rfl) (by kernel_rfl) (by kernel_rfl) (fun _ _ _ h=>h) (Or.inl ⟨by rfl,fun w hSw=>by obtain⟨h1,h2,h3⟩:=hSw;go_simp⟩) (by assumption) ?_
        simp only[Act.put,List.setIfInBounds_toArray,List.set_cons_zero,List.set_cons_succ];refine wpAnyH_ready (rs:=[9]) (by kernel_rfl) (by simp) ?_;refine AllReadyH.cons (o:=Oper.mk (some 27) _ _ _ _ _) rfl (fun K hK=> ?_) AllReadyH.nil;go_simp
        refine(FM x y true (.inl ⟨rfl,rfl,rfl⟩) _ (KR.out.drewN 1)).mono ?_;rintro e w' ⟨rfl,hcf,hmf⟩;have S2:=A5d (p1:=(ga,j)) (p2:=(gb,j)) hcf hmf ⟨y0,y1,KR.out.drewN 1⟩;refine hK _ _ S2 (fun _=> ?_);clear hK K hHeld;refine wpAnyH_take (i:=10) (oi:=Oper.mk (some 28) _ _ _ _ _) (v:= .bool false) rfl (by kernel_rfl) (by kernel_rfl) (by kernel_rfl) (fun _ _ _ h=>h) (Or.inl ⟨by rfl,fun w hSw=>by go_simp⟩) (by assumption) ?_;simp only[Act.put,List.setIfInBounds_toArray,List.set_cons_zero,List.set_cons_succ];refine wpAnyH_take (i:=11) (oi:=Oper.mk (some 29) _ _ _ _ _) (v:= .bool false) rfl (by kernel_rfl) (by kernel_rfl) (by kernel_rfl) (fun _ _ _ h=>h) (Or.inl ⟨by rfl,fun w hSw=>by go_simp⟩) (by assumption) ?_;simp only[Act.put,List.setIfInBounds_toArray,List.set_cons_zero,List.set_cons_succ];refine wpAnyH_take (i:=12) (oi:=Oper.mk (some 30) _ _ _ _ _) (v:=undef) rfl (by kernel_rfl) (by kernel_rfl) (by kernel_rfl) (fun _ _ _ h=>h) (Or.inr ⟨by rfl,rfl⟩) (by assumption) ?_;simp only[Act.put,List.setIfInBounds_toArray,List.set_cons_zero,List.set_cons_succ];refine wpAnyH_take (i:=13) (oi:=Oper.mk (some 31) _ _ _ _ _) (v:=undef) rfl (by kernel_rfl) (by kernel_rfl) (by kernel_rfl) (fun _ _ _ h=>h) (Or.inr ⟨by rfl,rfl⟩) (by assumption) ?_;simp only[Act.put,List.setIfInBounds_toArray,List.set_cons_zero,List.set_cons_succ];refine wpAnyH_take (i:=14) (oi:=Oper.mk (some 32) _ _ _ _ _) (v:=undef) rfl (by kernel_rfl) (by kernel_rfl) (by kernel_rfl) (fun _ _ _ h=>h) (Or.inr ⟨by rfl,rfl⟩) (by assumption) ?_;simp only[Act.put,List.setIfInBounds_toArray,List.set_cons_zero,List.set_cons_succ];refine wpAnyH_take (i:=15) (oi:=Oper.mk (some 33) _ _ _ _ _) (v:=undef) rfl (by kernel_rfl) (by kernel_rfl) (by kernel_rfl) (fun _ _ _ h=>h) (Or.inr ⟨by rfl,rfl⟩) (by assumption) ?_;simp only[Act.put,List.setIfInBounds_toArray,List.set_cons_zero,List.set_cons_succ];refine wpAnyH_take (i:=16) (oi:=Oper.mk (some 34) _ _ _ _ _) (v:=undef) rfl (by kernel_rfl) (by kernel_rfl) (by kernel_rfl) (fun _ _ _ h=>h) (Or.inr ⟨by rfl,rfl⟩) (by assumption) ?_;simp only[Act.put,List.setIfInBounds_toArray,List.set_cons_zero,List.set_cons_succ];refine wpAnyH_take (i:=17) (oi:=Oper.mk (some 35) _ _ _ _ _) (v:=undef) rfl (by kernel_rfl) (by kernel_rfl) (by kernel_rfl) (fun _ _ _ h=>h) (Or.inr ⟨by rfl,rfl⟩) (by assumption) ?_;simp only[Act.put,List.setIfInBounds_toArray,List.set_cons_zero,List.set_cons_succ];refine wpAnyH_take (i:=18) (oi:=Oper.mk (some 36) _ _ _ _ _) (v:=undef) rfl (by kernel_rfl) (by kernel_rfl) (by kernel_rfl) (fun _ _ _ h=>h) (Or.inr ⟨by rfl,rfl⟩) (by assumption) ?_;simp only[Act.put,List.setIfInBounds_toArray,List.set_cons_zero,List.set_cons_succ];refine wpAnyH_take (i:=19) (oi:=Oper.mk (some 37) _ _ _ _ _) (v:=undef) rfl (by kernel_rfl) (by kernel_rfl) (by kernel_rfl) (fun _ _ _ h=>h) (Or.inr ⟨by rfl,rfl⟩) (by assumption) ?_;simp only[Act.put,List.setIfInBounds_toArray,List.set_cons_zero,List.set_cons_succ]
        refine wpAnyH_take (i:=20) (oi:=Oper.mk (some 38) _ _ _ _ _) (v:=undef) rfl (by kernel_rfl) (by kernel_rfl) (by kernel_rfl) (fun _ _ _ h=>h) (Or.inr ⟨by rfl,rfl⟩) (by assumption) ?_;simp only[Act.put,List.setIfInBounds_toArray,List.set_cons_zero,List.set_cons_succ];refine wpAnyH_take (i:=21) (oi:=Oper.mk (some 39) _ _ _ _ _) (v:=undef) rfl (by kernel_rfl) (by kernel_rfl) (by kernel_rfl) (fun _ _ _ h=>h) (Or.inr ⟨by rfl,rfl⟩) (by assumption) ?_;simp only[Act.put,List.setIfInBounds_toArray,List.set_cons_zero,List.set_cons_succ];refine wpAnyH_take (i:=22) (oi:=Oper.mk (some 40) _ _ _ _ _) (v:=undef) rfl (by kernel_rfl) (by kernel_rfl) (by kernel_rfl) (fun _ _ _ h=>h) (Or.inr ⟨by rfl,rfl⟩) (by assumption) ?_;simp only[Act.put,List.setIfInBounds_toArray,List.set_cons_zero,List.set_cons_succ];refine wpAnyH_take (i:=23) (oi:=Oper.mk (some 41) _ _ _ _ _) (v:= .bool false) rfl (by kernel_rfl) (by kernel_rfl) (by kernel_rfl) (fun _ _ _ h=>h) (Or.inl ⟨by rfl,fun w hSw=>by go_simp⟩) (by assumption) ?_;simp only[Act.put,List.setIfInBounds_toArray,List.set_cons_zero,List.set_cons_succ];refine wpAnyH_done (by kernel_rfl) ?_ _;have M2:=S2.2.2;clear S2;go_wp2;go_roundw
        case rel=>exact⟨j+1,by omega,by go_num,by show _=_;rw[HT.out,HA.out,HE.out];rfl,M2.out⟩
        case measure=>simp[intOf];omega
    · have hje:j=xs.length:=by omega
      subst hje;have hta:(xs.zip bs).take xs.length=xs.zip bs:=List.take_of_length_le (by have:=HZ.out;omega);rw[hta]at HA;go_wp2;go_ret;exact⟨F2 HA.out.symm,KR.out⟩
 · have hd:decide (xs.length<=bs.length)=false:=by simp;omega
   have hgt:decide (bs.length<xs.length)=true:=by simp;omega
   rw[hd,Bool.false_and];have HM:=A0 (Mid.refl HS.out m);clear hd;go_enter Tryz.func151,Tryz.ntmps151;go_wp2;all_goals go_ret
   all_goals exact⟨rfl,HM.out⟩
end
open Go.RowKit Go.Maps
theorem Tryz.zeroInt (w:World):(zeroValue 3).run Tryz.prog w= .ok (.int .i64 0) w:=by kernel_rfl
section
variable {lb mb N:Nat} {T:List M.Ty}
theorem P0a {α β:Type} (f:α->β) (p:β×β->Bool):∀(l l':List α),((l.map f).zip (l'.map f)).all p=(l.zip l').all fun x=>p (f x.1,f x.2)
 |[],_=>by simp
 |_::_,[]=>by simp
 |a::l,b::l'=>by simp only[List.map_cons,List.zip_cons_cons,List.all_cons,P0a f p l l']
theorem S0b {a b:Nat} (hT:M.TsOk T) (ha:a<T.length) (hb:b<T.length) (ka:T[a].kind=9) (kb:T[b].kind=9):
 M.F1 (M.tr T a) (M.tr T b)=((decide (T[a].list.length<=T[b].list.length) && (T[a].list.zip T[b].list).all (H9a T)) && M.F1 (M.tr T T[a].of'.toNat) (M.tr T T[b].of'.toNat)):=by
 have hfld:∀i (hi:i<T.length),T[i].kind=9->T[i].fields=[]:=by
  intro i hi hk;rcases hT i hi with h|h|h|h|h
  · omega
  · omega
  · omega
  · exact h.2.1
  · omega
 rw[M.S6 hT ha,M.S6 hT hb,ka,kb,hfld a ha ka,hfld b hb kb];rw[if_pos (.inr rfl),if_pos (.inr rfl)];simp only[List.map_nil,List.append_nil,List.singleton_append];rw[M.W9c];simp only[List.length_map];rw[P0a];rfl
theorem A4d {w a b:World} {D:Dt} {m:Nat} {p1 p2 p3 p4 p5:Nat×Nat} {v1 v2 v3 v4 v5:Value} (hc:Chg (fun k=>k=mb) a b) (hm:Mid w mb N T D m b)
 (h:a.cell? (aD p1.1 p1.2)=some v1/\a.cell? (aD p2.1 p2.2)=some v2/\a.cell? (aD p3.1 p3.2)=some v3/\a.cell? (aD p4.1 p4.2)=some v4/\a.cell? (aD p5.1 p5.2)=some v5/\Hid (Mid w mb N T D m a)):
 b.cell? (aD p1.1 p1.2)=some v1/\b.cell? (aD p2.1 p2.2)=some v2/\b.cell? (aD p3.1 p3.2)=some v3/\b.cell? (aD p4.1 p4.2)=some v4/\b.cell? (aD p5.1 p5.2)=some v5/\Hid (Mid w mb N T D m b):=
 ⟨G9 h.2.2.2.2.2.out hc h.1,G9 h.2.2.2.2.2.out hc h.2.1,G9 h.2.2.2.2.2.out hc h.2.2.1,G9 h.2.2.2.2.2.out hc h.2.2.2.1,G9 h.2.2.2.2.2.out hc h.2.2.2.2.1,hm⟩
theorem look {w:World} {D:Dt} {a b:Nat} {c:Int} (hm:Mst w mb N T D) (ha:a<T.length) (hb:b<T.length) (hc:at2 D a b= .lit (.int .i64 c)) (n:Nat):
 (Instr.lookup 99 (.map (some mb)) (.agg #[.int .i64 (a:Int),.int .i64 (b:Int)]) false).run Tryz.prog (w.drewN n)= .ok (.int .i64 c) (w.drewN n):=by
 have h1:=hm.len;have h2:=hm.few;obtain⟨k,ho,_⟩:=hm.own;have ho':(w.drewN n).ownsMap Tryz.prog 177 (plainElem Tryz.prog 3) mb k D:=ho;obtain⟨c',hrun,hat,_⟩:=ho'.lookup_int Q6a Tryz.underlying99 Tryz.underlying3 (Tryz.zeroInt _) (A7a a b (Q9 a (by omega)) (Q9 b (by omega)));have e:at2 D a b= .lit (.int .i64 c'):=hat;rw[hc]at e;simp only[DataW.lit.injEq,Lit.int.injEq,true_and]at e;rw[e];exact hrun
theorem B1c {w:World} {D:Dt} {a b:Nat} (hm:Mst w mb N T D) (ha:a<T.length) (hb:b<T.length):∃c,at2 D a b= .lit (.int .i64 c):=by
 have h1:=hm.len;have h2:=hm.few;obtain⟨k,ho,_⟩:=hm.own;obtain⟨c',hrun,hat,_⟩:=ho.lookup_int Q6a Tryz.underlying99 Tryz.underlying3 (Tryz.zeroInt _) (A7a a b (Q9 a (by omega)) (Q9 b (by omega)));exact⟨c',hat⟩
theorem tell {w w1 w2:World} {D:Dt} {m a b:Nat} (h0:Chg No w w1) (hM:Mid w1 mb N T D m w2) (ha:a<T.length) (hb:b<T.length) (hz:at2 D a b= .lit (.int .i64 0)) (hm:m<=a+b) (r:Bool) (hr:M.F1 (M.tr T a) (M.tr T b)=r):
 ∃w3,(Instr.mapUpdate 99 (.map (some mb)) (.agg #[.int .i64 (a:Int),.int .i64 (b:Int)]) (.int .i64 (if r then 1 else 2))).run Tryz.prog w2.drew= .ok () w3/\H7a w mb N T D (a+b) r (.returned (.bool r)) w3:=by
 obtain⟨D2,hM2,hd2⟩:=hM.memo;have h1:=hM2.len;have h2:=hM2.few;obtain⟨n,ho,hn⟩:=hM2.own;have ho':w2.drew.ownsMap Tryz.prog 177 (plainElem Tryz.prog 3) mb n D2:=ho;have hNN:N * N<=4000 * 4000:=Nat.mul_le_mul h2 h2;have hwf:(Lit.int .i64 (if r then 1 else 2)).wf=true:=by cases r<;>decide
 obtain⟨w3,hrun,ho3,hg⟩:=ho'.update Q6a Tryz.underlying99 (by unfold maxLen;omega) (A7a a b (Q9 a (by omega)) (Q9 b (by omega))) (plainElem_int Tryz.underlying3 hwf);have hz2:at2 D2 a b= .lit (.int .i64 0):=by rw[hd2 a b (by omega) (by omega) hm];exact hz
 have hM3:=hM2.put ha hb (by rw[F1d hz2];rfl) r hr hn ho3;refine⟨w3,hrun,rfl, ?_,_,hM3,fun p q hp hq hpq=> ?_⟩
 · exact((h0.mono fun _ _ x=>x.elim).trans hM.chg (fun _ _ x=>x)).trans ((Chg.drewN (fun k=>k=mb) w2 1).trans (Chg.grown hg) (fun k _ x=>by simpa using x)) (fun _ _ x=>x)
 · rw[N8a (by omega) (by omega) (by omega) (by omega) _ (by omega)];exact hd2 p q hp hq (by omega)
theorem N4a (m:Nat) (IH:J7a lb mb N T m) (w:World) (D:Dt) (h:Shp w lb mb N T D) (a b:Nat) (ha:a<T.length) (hb:b<T.length) (hm:a+b=m) (ka:T[a].kind=9) (kb:T[b].kind=9):
 Calls Tryz.prog 131 #[pV lb,.int .i64 (a:Int),.int .i64 (b:Int)] w (H7a w mb N T D (a+b) (M.F1 (M.tr T a) (M.tr T b))):=by
 have hT:=h.ok;have hfew:=h.few;obtain⟨k,hk⟩:=B1c h.mst ha hb;have h1:=h.alloc (.cells #[.int .i64 (a:Int),.int .i64 (b:Int)] 177);have HL:=look h1.mst ha hb hk;have hmemo:=h.mst.memo a b k (Nat.lt_of_lt_of_le ha h.mst.len) (Nat.lt_of_lt_of_le hb h.mst.len) hk;have C0:=A0 (Chg.alloc No w (.cells #[.int .i64 (a:Int),.int .i64 (b:Int)] 177));obtain⟨ad,c,c0,c1,hlt,fz,hcell⟩:=h.cell;have HM:=A0 (Mid.refl h1 m);have H1:=A0 h1;have HF:=A0 (S0b hT ha hb ka kb);have HT:=A0 (fun w2 (hM:Mid (w.alloc (.cells #[.int .i64 (a:Int),.int .i64 (b:Int)] 177)) mb N T D m w2) (hz:k=0) r hr=>tell C0.out hM ha hb (hz ▸ hk) (by omega) r hr);have HD:Hid (at2 D a b= .lit (.int .i64 k)):=hk;have hMS:=A0 h.mst;clear hk h1 hT;by_cases hk0:k=0
 · subst hk0;clear hmemo;have hTs:=h.ok;obtain⟨g,fa,fc,la,ac,rfl,hg,hc1,hc2,-,-,x2,x3,-,ol1⟩:=hcell a ha;obtain⟨g',fb,fbc,lb2,bc,hgg,-,-,-,-,-,z2,z3,-,ol2⟩:=hcell b hb;simp only[Option.some.injEq,Addr.mk.injEq,and_true]at hgg;subst hgg;have hla:=(hTs a ha).lst;have hlb:=(hTs b hb).lst;have hoa:=(hTs a ha).of (.inr ka);have hob:=(hTs b hb).of (.inr kb);have O1:=A0 (ol1.alloc (.cells #[.int .i64 (a:Int),.int .i64 (b:Int)] 177));have O2:=A0 (ol2.alloc (.cells #[.int .i64 (a:Int),.int .i64 (b:Int)] 177));clear hcell ol1 ol2 h hTs;generalize T[a].list=xs at *;generalize T[b].list=ys at *;generalize T[a].of'=oi at *;generalize T[b].of'=pi at *;obtain⟨ox,rfl⟩:∃x:Nat,oi=(x:Int):=⟨oi.toNat,by omega⟩;obtain⟨oy,rfl⟩:∃x:Nat,pi=(x:Int):=⟨pi.toNat,by omega⟩;have hW:∀{o v},w.cell? (aD g o)=some v->(w.alloc (.cells #[.int .i64 (a:Int),.int .i64 (b:Int)] 177)).cell? (aD g o)=some v:=fun hx=>F9 hg hx;have a0:(w.alloc (.cells #[.int .i64 (a:Int),.int .i64 (b:Int)] 177)).cell? (aD lb 0)=some (.slice (some (aD g 0)) T.length c):=F9 hlt c0;have a1:=hW x2;have a2:=hW z2;have a3:=hW x3;have a4:=hW z3;have a5:(w.alloc (.cells #[.int .i64 (a:Int),.int .i64 (b:Int)] 177)).cell? (aD lb 1)=some (.map (some mb)):=F9 hlt c1;have a6:(w.alloc (.cells #[.int .i64 (a:Int),.int .i64 (b:Int)] 177)).cell? (aD w.heap.size 0)=some (.int .i64 (a:Int)):=by rw[World.cell?_alloc_new];rfl
   have a7:(w.alloc (.cells #[.int .i64 (a:Int),.int .i64 (b:Int)] 177)).cell? (aD w.heap.size 1)=some (.int .i64 (b:Int)):=by rw[World.cell?_alloc_new];rfl
   have A5:=A0 a5;have A6:=A0 a6;have A7:=A0 a7;have PF:∀w1,Mid (w.alloc (.cells #[.int .i64 (a:Int),.int .i64 (b:Int)] 177)) mb N T D m w1->Calls Tryz.prog 151 #[pV lb,.slice la xs.length ac,.slice lb2 ys.length bc] w1 fun e w'=>
    e= .returned (.bool (decide (xs.length<=ys.length) && (xs.zip ys).all (H9a T)))/\Chg (fun k=>k=mb) w1 w'/\Mid (w.alloc (.cells #[.int .i64 (a:Int),.int .i64 (b:Int)] 177)) mb N T D m w':=by
    intro w1 hM;obtain⟨D1,hs1,hd1⟩:=hM.shp H1.out;refine(X0a m IH w1 D1 hs1 la ac xs (T5 O1.out H1.out.mst hM.chg) lb2 bc ys (T5 O2.out H1.out.mst hM.chg) (fun x hx=>⟨(hla x hx).1,by have:=(hla x hx).2;omega,fun y hy=>by have:=hla x hx;have:=hlb y hy;omega⟩) (fun y hy=>⟨(hlb y hy).1,by have:=(hlb y hy).2;omega⟩)).mono ?_;rintro e w2 ⟨he,hM2⟩;exact⟨he,hM2.chg,hM.trans hd1 hM2⟩
   have FM:=fun w1 (hM:Mid (w.alloc (.cells #[.int .i64 (a:Int),.int .i64 (b:Int)] 177)) mb N T D m w1)=>F8a IH H1.out (a:=ox) (b:=oy) (by omega) (by omega) (by omega) w1 hM;have HFF:=HF.out;simp only[Int.toNat_natCast]at HFF;generalize (decide (xs.length<=ys.length) && (xs.zip ys).all (H9a T))=r1 at *;generalize M.F1 (M.tr T ox) (M.tr T oy)=r2 at *;generalize M.F1 (M.tr T a) (M.tr T b)=R at *;have HR:=A0 HFF;unfold maxLen at hc2;clear HFF HF hla hlb hoa hob x2 x3 z2 z3 hW c0 a5 a6 a7 hm;have ha':(a:Int)<(T.length:Int):=by omega
   have hb':(b:Int)<(T.length:Int):=by omega
   cases r1
   · go_enter Tryz.func131,Tryz.ntmps131;go_wp2_with fail
     go_quiet (fail)
     go_wp2_with fail
     refine wp_region_held_drew (S:=(fun w'=>w'.cell? (aD lb 0)=some (.slice (some (aD g 0)) T.length c)/\w'.cell? (aD g (a * 4+2))=some (.slice la xs.length ac)/\w'.cell? (aD g (b * 4+2))=some (.slice lb2 ys.length bc)/\w'.cell? (aD g (a * 4+3))=some (.int .i64 (ox:Int))/\w'.cell? (aD g (b * 4+3))=some (.int .i64 (oy:Int))/\Hid (Mid (w.alloc (.cells #[.int .i64 (a:Int),.int .i64 (b:Int)] 177)) mb N T D m w'))) (by kernel_rfl) ⟨a0,a1,a2,a3,a4,(HM.out.drewN nq).drewN 1⟩ (fun hHeld=> ?_);refine wpAnyH_take (i:=0) (oi:=Oper.mk (some 20) _ _ _ _ _) (v:=pV lb) rfl (by kernel_rfl) (by kernel_rfl) (by kernel_rfl) (fun _ _ _ h=>h) (Or.inl ⟨by rfl,fun w hSw=>by go_simp⟩) (by assumption) ?_;simp only[Act.put,List.setIfInBounds_toArray,List.set_cons_zero,List.set_cons_succ];refine wpAnyH_take (i:=1) (oi:=Oper.mk (some 21) _ _ _ _ _) (v:=pV lb) rfl (by kernel_rfl) (by kernel_rfl) (by kernel_rfl) (fun _ _ _ h=>h) (Or.inl ⟨by rfl,fun w hSw=>by go_simp⟩) (by assumption) ?_;simp only[Act.put,List.setIfInBounds_toArray,List.set_cons_zero,List.set_cons_succ];refine wpAnyH_take (i:=2) (oi:=Oper.mk (some 22) _ _ _ _ _) (v:=pV lb) rfl (by kernel_rfl) (by kernel_rfl) (by kernel_rfl) (fun _ _ _ h=>h) (Or.inl ⟨by rfl,fun w hSw=>by go_simp⟩) (by assumption) ?_;simp only[Act.put,List.setIfInBounds_toArray,List.set_cons_zero,List.set_cons_succ];refine wpAnyH_take (i:=3) (oi:=Oper.mk (some 23) _ _ _ _ _) (v:=pV lb) rfl (by kernel_rfl) (by kernel_rfl) (by kernel_rfl) (fun _ _ _ h=>h) (Or.inl ⟨by rfl,fun w hSw=>by go_simp⟩) (by assumption) ?_;simp only[Act.put,List.setIfInBounds_toArray,List.set_cons_zero,List.set_cons_succ];refine wpAnyH_take (i:=4) (oi:=Oper.mk (some 24) _ _ _ _ _) (v:= .slice (some (aD g 0)) T.length c) rfl (by kernel_rfl) (by kernel_rfl) (by kernel_rfl) (fun _ _ _ h=>h) (Or.inl ⟨by rfl,fun w hSw=>by obtain⟨h1,h2,h3,h4,h5,h6⟩:=hSw;go_simp⟩) (by assumption) ?_;simp only[Act.put,List.setIfInBounds_toArray,List.set_cons_zero,List.set_cons_succ];refine wpAnyH_take (i:=5) (oi:=Oper.mk (some 25) _ _ _ _ _) (v:= .int .i64 (a:Int)) rfl (by kernel_rfl) (by kernel_rfl) (by kernel_rfl) (fun _ _ _ h=>h) (Or.inl ⟨by rfl,fun w hSw=>by go_simp⟩) (by assumption) ?_;simp only[Act.put,List.setIfInBounds_toArray,List.set_cons_zero,List.set_cons_succ];refine wpAnyH_take (i:=6) (oi:=Oper.mk (some 26) _ _ _ _ _) (v:= .pointer (some (aD g (a * 4)))) rfl (by kernel_rfl) (by kernel_rfl) (by kernel_rfl) (fun _ _ _ h=>h) (Or.inl ⟨by rfl,fun w hSw=>by go_simp⟩) (by assumption) ?_;simp only[Act.put,List.setIfInBounds_toArray,List.set_cons_zero,List.set_cons_succ];refine wpAnyH_take (i:=7) (oi:=Oper.mk (some 27) _ _ _ _ _) (v:= .pointer (some (aD g (a * 4+2)))) rfl (by kernel_rfl) (by kernel_rfl) (by kernel_rfl) (fun _ _ _ h=>h) (Or.inl ⟨by rfl,fun w hSw=>by go_simp⟩) (by assumption) ?_;simp only[Act.put,List.setIfInBounds_toArray,List.set_cons_zero,List.set_cons_succ]
     refine wpAnyH_take (i:=8) (oi:=Oper.mk (some 28) _ _ _ _ _) (v:= .slice la xs.length ac) rfl (by kernel_rfl) (by kernel_rfl) (by kernel_rfl) (fun _ _ _ h=>h) (Or.inl ⟨by rfl,fun w hSw=>by obtain⟨h1,h2,h3,h4,h5,h6⟩:=hSw;go_simp⟩) (by assumption) ?_;simp only[Act.put,List.setIfInBounds_toArray,List.set_cons_zero,List.set_cons_succ];refine wpAnyH_take (i:=9) (oi:=Oper.mk (some 29) _ _ _ _ _) (v:=pV lb) rfl (by kernel_rfl) (by kernel_rfl) (by kernel_rfl) (fun _ _ _ h=>h) (Or.inl ⟨by rfl,fun w hSw=>by go_simp⟩) (by assumption) ?_;simp only[Act.put,List.setIfInBounds_toArray,List.set_cons_zero,List.set_cons_succ];refine wpAnyH_take (i:=10) (oi:=Oper.mk (some 30) _ _ _ _ _) (v:=pV lb) rfl (by kernel_rfl) (by kernel_rfl) (by kernel_rfl) (fun _ _ _ h=>h) (Or.inl ⟨by rfl,fun w hSw=>by go_simp⟩) (by assumption) ?_;simp only[Act.put,List.setIfInBounds_toArray,List.set_cons_zero,List.set_cons_succ];refine wpAnyH_take (i:=11) (oi:=Oper.mk (some 31) _ _ _ _ _) (v:=pV lb) rfl (by kernel_rfl) (by kernel_rfl) (by kernel_rfl) (fun _ _ _ h=>h) (Or.inl ⟨by rfl,fun w hSw=>by go_simp⟩) (by assumption) ?_;simp only[Act.put,List.setIfInBounds_toArray,List.set_cons_zero,List.set_cons_succ];refine wpAnyH_take (i:=12) (oi:=Oper.mk (some 32) _ _ _ _ _) (v:= .slice (some (aD g 0)) T.length c) rfl (by kernel_rfl) (by kernel_rfl) (by kernel_rfl) (fun _ _ _ h=>h) (Or.inl ⟨by rfl,fun w hSw=>by obtain⟨h1,h2,h3,h4,h5,h6⟩:=hSw;go_simp⟩) (by assumption) ?_;simp only[Act.put,List.setIfInBounds_toArray,List.set_cons_zero,List.set_cons_succ];refine wpAnyH_take (i:=13) (oi:=Oper.mk (some 33) _ _ _ _ _) (v:= .int .i64 (b:Int)) rfl (by kernel_rfl) (by kernel_rfl) (by kernel_rfl) (fun _ _ _ h=>h) (Or.inl ⟨by rfl,fun w hSw=>by go_simp⟩) (by assumption) ?_;simp only[Act.put,List.setIfInBounds_toArray,List.set_cons_zero,List.set_cons_succ];refine wpAnyH_take (i:=14) (oi:=Oper.mk (some 34) _ _ _ _ _) (v:= .pointer (some (aD g (b * 4)))) rfl (by kernel_rfl) (by kernel_rfl) (by kernel_rfl) (fun _ _ _ h=>h) (Or.inl ⟨by rfl,fun w hSw=>by go_simp⟩) (by assumption) ?_;simp only[Act.put,List.setIfInBounds_toArray,List.set_cons_zero,List.set_cons_succ];refine wpAnyH_take (i:=15) (oi:=Oper.mk (some 35) _ _ _ _ _) (v:= .pointer (some (aD g (b * 4+2)))) rfl (by kernel_rfl) (by kernel_rfl) (by kernel_rfl) (fun _ _ _ h=>h) (Or.inl ⟨by rfl,fun w hSw=>by go_simp⟩) (by assumption) ?_;simp only[Act.put,List.setIfInBounds_toArray,List.set_cons_zero,List.set_cons_succ];refine wpAnyH_take (i:=16) (oi:=Oper.mk (some 36) _ _ _ _ _) (v:= .slice lb2 ys.length bc) rfl (by kernel_rfl) (by kernel_rfl) (by kernel_rfl) (fun _ _ _ h=>h) (Or.inl ⟨by rfl,fun w hSw=>by obtain⟨h1,h2,h3,h4,h5,h6⟩:=hSw;go_simp⟩) (by assumption) ?_;simp only[Act.put,List.setIfInBounds_toArray,List.set_cons_zero,List.set_cons_succ];refine wpAnyH_ready (rs:=[17]) (by kernel_rfl) (by simp) ?_
     refine AllReadyH.cons (o:=Oper.mk (some 37) _ _ _ _ _) rfl (fun K hK=> ?_) AllReadyH.nil;go_simp
     refine(PF _ ((HM.out.drewN nq).drewN 1)).mono ?_;rintro e w' ⟨rfl,hcf,hmf⟩;have S2:=A4d (p1:=(lb,0)) (p2:=(g,a * 4+2)) (p3:=(g,b * 4+2)) (p4:=(g,a * 4+3)) (p5:=(g,b * 4+3)) hcf hmf ⟨a0,a1,a2,a3,a4,(HM.out.drewN nq).drewN 1⟩;refine hK _ _ S2 (fun _=> ?_);clear hK K hHeld;refine wpAnyH_take (i:=18) (oi:=Oper.mk (some 38) _ _ _ _ _) (v:= .bool false) rfl (by kernel_rfl) (by kernel_rfl) (by kernel_rfl) (fun _ _ _ h=>h) (Or.inl ⟨by rfl,fun w hSw=>by go_simp⟩) (by assumption) ?_;simp only[Act.put,List.setIfInBounds_toArray,List.set_cons_zero,List.set_cons_succ];refine wpAnyH_take (i:=19) (oi:=Oper.mk (some 39) _ _ _ _ _) (v:=undef) rfl (by kernel_rfl) (by kernel_rfl) (by kernel_rfl) (fun _ _ _ h=>h) (Or.inr ⟨by rfl,rfl⟩) (by assumption) ?_;simp only[Act.put,List.setIfInBounds_toArray,List.set_cons_zero,List.set_cons_succ];refine wpAnyH_take (i:=20) (oi:=Oper.mk (some 40) _ _ _ _ _) (v:=undef) rfl (by kernel_rfl) (by kernel_rfl) (by kernel_rfl) (fun _ _ _ h=>h) (Or.inr ⟨by rfl,rfl⟩) (by assumption) ?_;simp only[Act.put,List.setIfInBounds_toArray,List.set_cons_zero,List.set_cons_succ];refine wpAnyH_take (i:=21) (oi:=Oper.mk (some 41) _ _ _ _ _) (v:=undef) rfl (by kernel_rfl) (by kernel_rfl) (by kernel_rfl) (fun _ _ _ h=>h) (Or.inr ⟨by rfl,rfl⟩) (by assumption) ?_;simp only[Act.put,List.setIfInBounds_toArray,List.set_cons_zero,List.set_cons_succ];refine wpAnyH_take (i:=22) (oi:=Oper.mk (some 42) _ _ _ _ _) (v:=undef) rfl (by kernel_rfl) (by kernel_rfl) (by kernel_rfl) (fun _ _ _ h=>h) (Or.inr ⟨by rfl,rfl⟩) (by assumption) ?_;simp only[Act.put,List.setIfInBounds_toArray,List.set_cons_zero,List.set_cons_succ];refine wpAnyH_take (i:=23) (oi:=Oper.mk (some 43) _ _ _ _ _) (v:=undef) rfl (by kernel_rfl) (by kernel_rfl) (by kernel_rfl) (fun _ _ _ h=>h) (Or.inr ⟨by rfl,rfl⟩) (by assumption) ?_;simp only[Act.put,List.setIfInBounds_toArray,List.set_cons_zero,List.set_cons_succ];refine wpAnyH_take (i:=24) (oi:=Oper.mk (some 44) _ _ _ _ _) (v:=undef) rfl (by kernel_rfl) (by kernel_rfl) (by kernel_rfl) (fun _ _ _ h=>h) (Or.inr ⟨by rfl,rfl⟩) (by assumption) ?_;simp only[Act.put,List.setIfInBounds_toArray,List.set_cons_zero,List.set_cons_succ];refine wpAnyH_take (i:=25) (oi:=Oper.mk (some 45) _ _ _ _ _) (v:=undef) rfl (by kernel_rfl) (by kernel_rfl) (by kernel_rfl) (fun _ _ _ h=>h) (Or.inr ⟨by rfl,rfl⟩) (by assumption) ?_;simp only[Act.put,List.setIfInBounds_toArray,List.set_cons_zero,List.set_cons_succ];refine wpAnyH_take (i:=26) (oi:=Oper.mk (some 46) _ _ _ _ _) (v:=undef) rfl (by kernel_rfl) (by kernel_rfl) (by kernel_rfl) (fun _ _ _ h=>h) (Or.inr ⟨by rfl,rfl⟩) (by assumption) ?_;simp only[Act.put,List.setIfInBounds_toArray,List.set_cons_zero,List.set_cons_succ];refine wpAnyH_take (i:=27) (oi:=Oper.mk (some 47) _ _ _ _ _) (v:=undef) rfl (by kernel_rfl) (by kernel_rfl) (by kernel_rfl) (fun _ _ _ h=>h) (Or.inr ⟨by rfl,rfl⟩) (by assumption) ?_
     simp only[Act.put,List.setIfInBounds_toArray,List.set_cons_zero,List.set_cons_succ];refine wpAnyH_take (i:=28) (oi:=Oper.mk (some 48) _ _ _ _ _) (v:=undef) rfl (by kernel_rfl) (by kernel_rfl) (by kernel_rfl) (fun _ _ _ h=>h) (Or.inr ⟨by rfl,rfl⟩) (by assumption) ?_;simp only[Act.put,List.setIfInBounds_toArray,List.set_cons_zero,List.set_cons_succ];refine wpAnyH_take (i:=29) (oi:=Oper.mk (some 49) _ _ _ _ _) (v:=undef) rfl (by kernel_rfl) (by kernel_rfl) (by kernel_rfl) (fun _ _ _ h=>h) (Or.inr ⟨by rfl,rfl⟩) (by assumption) ?_;simp only[Act.put,List.setIfInBounds_toArray,List.set_cons_zero,List.set_cons_succ];refine wpAnyH_take (i:=30) (oi:=Oper.mk (some 50) _ _ _ _ _) (v:=undef) rfl (by kernel_rfl) (by kernel_rfl) (by kernel_rfl) (fun _ _ _ h=>h) (Or.inr ⟨by rfl,rfl⟩) (by assumption) ?_;simp only[Act.put,List.setIfInBounds_toArray,List.set_cons_zero,List.set_cons_succ];refine wpAnyH_take (i:=31) (oi:=Oper.mk (some 51) _ _ _ _ _) (v:=undef) rfl (by kernel_rfl) (by kernel_rfl) (by kernel_rfl) (fun _ _ _ h=>h) (Or.inr ⟨by rfl,rfl⟩) (by assumption) ?_;simp only[Act.put,List.setIfInBounds_toArray,List.set_cons_zero,List.set_cons_succ];refine wpAnyH_take (i:=32) (oi:=Oper.mk (some 52) _ _ _ _ _) (v:=undef) rfl (by kernel_rfl) (by kernel_rfl) (by kernel_rfl) (fun _ _ _ h=>h) (Or.inr ⟨by rfl,rfl⟩) (by assumption) ?_;simp only[Act.put,List.setIfInBounds_toArray,List.set_cons_zero,List.set_cons_succ];refine wpAnyH_take (i:=33) (oi:=Oper.mk (some 53) _ _ _ _ _) (v:=undef) rfl (by kernel_rfl) (by kernel_rfl) (by kernel_rfl) (fun _ _ _ h=>h) (Or.inr ⟨by rfl,rfl⟩) (by assumption) ?_;simp only[Act.put,List.setIfInBounds_toArray,List.set_cons_zero,List.set_cons_succ];refine wpAnyH_take (i:=34) (oi:=Oper.mk (some 54) _ _ _ _ _) (v:=undef) rfl (by kernel_rfl) (by kernel_rfl) (by kernel_rfl) (fun _ _ _ h=>h) (Or.inr ⟨by rfl,rfl⟩) (by assumption) ?_;simp only[Act.put,List.setIfInBounds_toArray,List.set_cons_zero,List.set_cons_succ];refine wpAnyH_take (i:=35) (oi:=Oper.mk (some 55) _ _ _ _ _) (v:=undef) rfl (by kernel_rfl) (by kernel_rfl) (by kernel_rfl) (fun _ _ _ h=>h) (Or.inr ⟨by rfl,rfl⟩) (by assumption) ?_;simp only[Act.put,List.setIfInBounds_toArray,List.set_cons_zero,List.set_cons_succ];refine wpAnyH_take (i:=36) (oi:=Oper.mk (some 56) _ _ _ _ _) (v:=undef) rfl (by kernel_rfl) (by kernel_rfl) (by kernel_rfl) (fun _ _ _ h=>h) (Or.inr ⟨by rfl,rfl⟩) (by assumption) ?_;simp only[Act.put,List.setIfInBounds_toArray,List.set_cons_zero,List.set_cons_succ];refine wpAnyH_take (i:=37) (oi:=Oper.mk (some 57) _ _ _ _ _) (v:= .bool false) rfl (by kernel_rfl) (by kernel_rfl) (by kernel_rfl) (fun _ _ _ h=>h) (Or.inl ⟨by rfl,fun w hSw=>by go_simp⟩) (by assumption) ?_;simp only[Act.put,List.setIfInBounds_toArray,List.set_cons_zero,List.set_cons_succ];refine wpAnyH_done (by kernel_rfl) ?_ _;have M2:=S2.2.2.2.2.2;clear S2 hcf hmf;have q5:w'.cell? (aD lb 1)=some (.map (some mb)):=G9 HM.out M2.out.chg A5.out
     have q6:w'.cell? (aD w.heap.size 0)=some (.int .i64 (a:Int)):=G9 HM.out M2.out.chg A6.out;have q7:w'.cell? (aD w.heap.size 1)=some (.int .i64 (b:Int)):=G9 HM.out M2.out.chg A7.out;have hz2:=World.block_lt_of_cell? w' _ q6;obtain⟨w3,hrun,hfp⟩:=HT.out w' M2.out trivial false (by rw[HR.out];rfl);have hrun':(Instr.mapUpdate 99 (.map (some mb)) (.agg #[.int .i64 (a:Int),.int .i64 (b:Int)]) (.int .i64 2)).run Tryz.prog w'.drew= .ok () w3:=hrun;have HFP:Hid (H7a w mb N T D (a+b) R (.returned (.bool false)) w3):=by
      show H7a _ _ _ _ _ _ _ _ _;rw[HR.out];exact hfp
     clear hrun hfp;go_wp2_with fail
     go_region
     go_wp2;go_ret;exact HFP.out
   · go_enter Tryz.func131,Tryz.ntmps131;go_wp2_with fail
     go_quiet (fail)
     go_wp2_with fail
     go_region_held3 (fun w'=>w'.cell? (aD lb 0)=some (.slice (some (aD g 0)) T.length c)/\w'.cell? (aD g (a * 4+2))=some (.slice la xs.length ac)/\w'.cell? (aD g (b * 4+2))=some (.slice lb2 ys.length bc)/\w'.cell? (aD g (a * 4+3))=some (.int .i64 (ox:Int))/\w'.cell? (aD g (b * 4+3))=some (.int .i64 (oy:Int))/\Hid (Mid (w.alloc (.cells #[.int .i64 (a:Int),.int .i64 (b:Int)] 177)) mb N T D m w'))
      (first
       |exact⟨a0,a1,a2,a3,a4,(HM.out.drewN nq).drewN 1⟩
       |exact A4d (p1:=(lb,0)) (p2:=(g,a * 4+2)) (p3:=(g,b * 4+2)) (p4:=(g,a * 4+3)) (p5:=(g,b * 4+3)) hcf hmf ⟨by assumption,by assumption,by assumption,by assumption,by assumption,by assumption⟩
       |(go_split_ands;exact⟨by assumption,by assumption,by assumption,by assumption,by assumption,by assumption⟩))
      (first
       |((go_at_call 151;go_split_ands;refine(PF _ (Hid.out (by assumption))).mono ?_;rintro e w' ⟨rfl,hcf,hmf⟩))
       |((go_at_call 97;go_split_ands;refine(FM _ (Hid.out (by assumption))).mono ?_;rintro e w' ⟨rfl,hcf,hmf⟩)))
     have M2:Hid (Mid (w.alloc (.cells #[.int .i64 (a:Int),.int .i64 (b:Int)] 177)) mb N T D m w'):=by assumption
     have q5:w'.cell? (aD lb 1)=some (.map (some mb)):=G9 HM.out M2.out.chg A5.out;have q6:w'.cell? (aD w.heap.size 0)=some (.int .i64 (a:Int)):=G9 HM.out M2.out.chg A6.out;have q7:w'.cell? (aD w.heap.size 1)=some (.int .i64 (b:Int)):=G9 HM.out M2.out.chg A7.out;have hz2:=World.block_lt_of_cell? w' _ q6;clear PF FM;cases r2
     · obtain⟨w3,hrun,hfp⟩:=HT.out w' M2.out trivial false (by rw[HR.out];rfl);have hrun':(Instr.mapUpdate 99 (.map (some mb)) (.agg #[.int .i64 (a:Int),.int .i64 (b:Int)]) (.int .i64 2)).run Tryz.prog w'.drew= .ok () w3:=hrun;have HFP:Hid (H7a w mb N T D (a+b) R (.returned (.bool false)) w3):=by
        show H7a _ _ _ _ _ _ _ _ _;rw[HR.out];exact hfp
       clear hrun hfp;go_wp2_with fail
       go_region
       go_wp2;go_ret;exact HFP.out
     · obtain⟨w3,hrun,hfp⟩:=HT.out w' M2.out trivial true (by rw[HR.out];rfl);have hrun':(Instr.mapUpdate 99 (.map (some mb)) (.agg #[.int .i64 (a:Int),.int .i64 (b:Int)]) (.int .i64 1)).run Tryz.prog w'.drew= .ok () w3:=hrun;have HFP:Hid (H7a w mb N T D (a+b) R (.returned (.bool true)) w3):=by
        show H7a _ _ _ _ _ _ _ _ _;rw[HR.out];exact hfp
       clear hrun hfp;go_wp2_with fail
       go_region
       go_wp2;go_ret;exact HFP.out
 · have hk0':(k==0)=false:=by simp[hk0]
   have HR:Hid (M.F1 (M.tr T a) (M.tr T b)=(k==1)):=by
    rcases hmemo with h|⟨_,_,⟨h1,h2⟩|⟨h1,h2⟩⟩
    · exact absurd h hk0
    · show _=_;rw[h2,h1];rfl
    · show _=_;rw[h2,h1];rfl
   have HX:Hid (∀n,H7a w mb N T D (a+b) (M.F1 (M.tr T a) (M.tr T b)) (.returned (.bool (k==1))) ((w.alloc (.cells #[.int .i64 (a:Int),.int .i64 (b:Int)] 177)).drewN n)):=by
    intro n;rw[HR.out];exact⟨rfl,((C0.out.mono fun _ _ x=>x.elim).trans (Chg.drewN _ _ n) (fun _ _ x=>x)),D,H1.out.mst.chg (Chg.drewN No _ n) (fun x=>x),fun _ _ _ _ _=>rfl⟩
   clear hmemo h hcell HF HT;generalize M.F1 (M.tr T a) (M.tr T b)=R at *;go_enter Tryz.func131,Tryz.ntmps131;go_wp2_with fail
   go_quiet (fail)
   go_wp2;go_ret;exact HX.out _
end
open Go.RowKit Go.Maps
section
variable {lb mb N:Nat} {T:List M.Ty}
theorem Y5 {a:Nat} (hT:M.TsOk T) (ha:a<T.length):(M.tr T a).k=T[a].kind:=by rw[M.S6 hT ha];rfl
theorem F6c {a:Nat} (hT:M.TsOk T) (ha:a<T.length):(M.tr T a).ns=T[a].fields.map (·.1):=by rw[M.S6 hT ha];rfl
theorem L0a {a:Nat} (hT:M.TsOk T) (ha:a<T.length) (hk:T[a].kind≠7):T[a].fields=[]:=by
 rcases hT a ha with h|h|h|h|h
 · exact h.2.2.1
 · omega
 · exact h.2.1
 · exact h.2.1
 · exact h.2.1
theorem C9b {a:Nat} (hT:M.TsOk T) (ha:a<T.length) (hk:T[a].kind=7\/T[a].kind=8):T[a].list=[]:=by
 rcases hT a ha with h|h|h|h|h
 · omega
 · exact h.2.1
 · exact h.2.2.1
 · omega
 · omega
theorem H8a {a:Nat} (hT:M.TsOk T) (ha:a<T.length):(M.tr T a).ks=(if T[a].kind=8\/T[a].kind=9 then [M.tr T T[a].of'.toNat] else [])++(T[a].fields.map fun p=>M.tr T p.2.toNat)++T[a].list.map fun x=>M.tr T x.toNat:=by rw[M.S6 hT ha];rfl
section
variable {a b:Nat} (hT:M.TsOk T) (ha:a<T.length) (hb:b<T.length)
include hT ha hb
theorem C1c (h:T[a].kind=5\/T[b].kind=5\/T[b].kind=6):M.F1 (M.tr T a) (M.tr T b)=true:=by
 rw[M.B7a,Y5 hT ha,Y5 hT hb,if_pos h]
theorem C3c (h:¬(T[a].kind=5\/T[b].kind=5\/T[b].kind=6)) (h2:T[a].kind=10):M.F1 (M.tr T a) (M.tr T b)= !T[a].list.any fun x=> !M.F1 (M.tr T x.toNat) (M.tr T b):=by
 rw[F3a (fun x:Int=>M.F1 (M.tr T x.toNat) (M.tr T b)),M.B7a,Y5 hT ha,Y5 hT hb,if_neg h,if_pos h2,H8a hT ha,L0a hT ha (by omega),if_neg (by omega)];simp[List.all_map,Function.comp_def]
theorem C2c (h:¬(T[a].kind=5\/T[b].kind=5\/T[b].kind=6)) (h1:T[a].kind≠10) (h2:T[b].kind=10):M.F1 (M.tr T a) (M.tr T b)=T[b].list.any fun x=>M.F1 (M.tr T a) (M.tr T x.toNat):=by
 rw[M.B7a,Y5 hT ha,Y5 hT hb,if_neg h,if_neg h1,if_pos h2,H8a hT hb,L0a hT hb (by omega),if_neg (by omega)];simp[List.any_map,Function.comp_def]
theorem C4c (h:¬(T[a].kind=5\/T[b].kind=5\/T[b].kind=6)) (h1:T[a].kind≠10) (h2:T[b].kind≠10) (h3:T[a].kind≠T[b].kind):M.F1 (M.tr T a) (M.tr T b)=false:=by
 rw[M.B7a,Y5 hT ha,Y5 hT hb,if_neg h,if_neg h1,if_neg h2,if_pos h3]
theorem C5c (h1:T[a].kind=7) (h2:T[b].kind=7):M.F1 (M.tr T a) (M.tr T b)=T[b].fields.all fun p=>M5 T T[a].fields p:=by
 rw[M.B7a,Y5 hT ha,Y5 hT hb,if_neg (by omega),if_neg (by omega),if_neg (by omega),if_neg (by omega),if_pos h1,H8a hT hb,H8a hT ha,F6c hT ha,F6c hT hb,if_neg (by omega),if_neg (by omega),C9b hT ha (.inl h1),C9b hT hb (.inl h2)];simp only[List.nil_append,List.map_nil,List.append_nil];generalize T[b].fields=gs;induction gs with
 |nil=>rfl
 |cons p gs ih=>rw[List.map_cons,List.map_cons,List.zip_cons_cons,List.all_cons,List.all_cons,ih];rfl
theorem C6c (h1:T[a].kind=8) (h2:T[b].kind=8):M.F1 (M.tr T a) (M.tr T b)=M.F1 (M.tr T T[a].of'.toNat) (M.tr T T[b].of'.toNat):=by
 rw[M.B7a,Y5 hT ha,Y5 hT hb,if_neg (by omega),if_neg (by omega),if_neg (by omega),if_neg (by omega),if_neg (by omega),if_pos h1,H8a hT hb,H8a hT ha,if_pos (.inl h1),if_pos (.inl h2)];rfl
theorem R9b (h:¬(T[a].kind=5\/T[b].kind=5\/T[b].kind=6)) (h1:T[a].kind≠10) (h2:T[a].kind=T[b].kind) (h3:T[a].kind≠7) (h4:T[a].kind≠8) (h5:T[a].kind≠9):M.F1 (M.tr T a) (M.tr T b)=true:=by
 rw[M.B7a,Y5 hT ha,Y5 hT hb,if_neg h,if_neg h1,if_neg (by omega),if_neg (by omega),if_neg h3,if_neg h4,if_neg h5]
end
theorem X0c {w wc w':World} {D:Dt} {m n:Nat} {R:Bool} (hc:Chg No w wc) (hM:Mid wc mb N T D m w') (hm:m<=n+1):H7a w mb N T D n R (.returned (.bool R)) w':=by
 obtain⟨D',h1,h2⟩:=hM.memo;exact⟨rfl,(hc.mono fun _ _ x=>x.elim).trans hM.chg (fun _ _ x=>x),D',h1,fun p q hp hq hpq=>h2 p q hp hq (by omega)⟩
theorem N6c (m:Nat) (IH:J7a lb mb N T m) (w:World) (D:Dt) (h:Shp w lb mb N T D) (a b:Nat) (ha:a<T.length) (hb:b<T.length) (hm:a+b=m):
 Calls Tryz.prog 97 #[pV lb,iV (a:Int),iV (b:Int)] w (H7a w mb N T D (a+b) (M.F1 (M.tr T a) (M.tr T b))):=by
 have hmf:=mkf;have hT:=h.ok;have hfew:=h.few;obtain⟨ad,c,c0,c1,hlt,fz,hcell⟩:=h.cell;obtain⟨g,fa,fc,la,ac,rfl,hg,hc1,hc2,x0,x1,x2,x3,of1,ol1⟩:=hcell a ha;obtain⟨g',fb,fbc,lb2,bc,hgg,-,-,-,z0,z1,z2,z3,of2,ol2⟩:=hcell b hb;simp only[Option.some.injEq,Addr.mk.injEq,and_true]at hgg;subst hgg;unfold maxLen at hc2;have ha':(a:Int)<(T.length:Int):=by omega
 have hb':(b:Int)<(T.length:Int):=by omega
 have H0:=A0 h;have HF1:=A0 of1;have HF2:=A0 of2;have HL1:=A0 ol1;have HL2:=A0 ol2;have HMM:=A0 hm;have L1:=A0 (C1c hT ha hb);have L2:=A0 (C3c hT ha hb);have L3:=A0 (C2c hT ha hb);have L4:=A0 (C4c hT ha hb);have L5:=A0 (C5c hT ha hb);have L6:=A0 (C6c hT ha hb);have L7:=A0 (fun (h9:T[a].kind=9) (h9':T[b].kind=9) (w1:World) (h1:Shp w1 lb mb N T D)=>N4a m IH w1 D h1 a b ha hb hm h9 h9');have L8:=A0 (R9b hT ha hb);have LA:=A0 (hT a ha).lst;have LB:=A0 (hT b hb).lst;have FA:=A0 (hT a ha).fld;have FB:=A0 (hT b hb).fld;have OA:=A0 (fun hx=>(hT a ha).of hx);have OB:=A0 (fun hx=>(hT b hb).of hx);clear h hcell of1 ol1 of2 ol2 hm;generalize hka:T[a].kind=ka at *;generalize hkb:T[b].kind=kb at *;clear hka hkb;generalize T[a].fields=fs at *;generalize T[b].fields=gs at *;generalize T[a].list=xs at *;generalize T[b].list=ys at *;generalize T[a].of'=ox at *;generalize T[b].of'=oy at *;generalize M.F1 (M.tr T a) (M.tr T b)=R at *;obtain⟨e0,e1,e2⟩:=I9a w (.cells #[pV lb] 47) (.cells #[iV (a:Int)] 3) (.cells #[iV (b:Int)] 3);have B0:Hid (Box (((w.alloc (.cells #[pV lb] 47)).alloc (.cells #[iV (a:Int)] 3)).alloc (.cells #[iV (b:Int)] 3)) w.heap.size (pV lb) 47):=⟨e0⟩;have B1:Hid (Box (((w.alloc (.cells #[pV lb] 47)).alloc (.cells #[iV (a:Int)] 3)).alloc (.cells #[iV (b:Int)] 3)) (w.heap.size+1) (iV (a:Int)) 3):=⟨e1⟩;have B2:Hid (Box (((w.alloc (.cells #[pV lb] 47)).alloc (.cells #[iV (a:Int)] 3)).alloc (.cells #[iV (b:Int)] 3)) (w.heap.size+1+1) (iV (b:Int)) 3):=⟨e2⟩;have hw:∀{q o v},w.cell? (aD q o)=some v->(((w.alloc (.cells #[pV lb] 47)).alloc (.cells #[iV (a:Int)] 3)).alloc (.cells #[iV (b:Int)] 3)).cell? (aD q o)=some v:=fun {q o v} hx=>by
  have hq:q<w.heap.size:=World.block_lt_of_cell? w _ hx;exact F9 (by simp;omega) (F9 (by simp;omega) (F9 hq hx))
 have C3:=A0 (((Chg.alloc No w (.cells #[pV lb] 47)).trans (Chg.alloc No _ (.cells #[iV (a:Int)] 3)) (fun _ _ x=>x)).trans (Chg.alloc No _ (.cells #[iV (b:Int)] 3)) (fun _ _ x=>x));have b0:=B0.out.cell;have b1:=B1.out.cell;have b2:=B2.out.cell;replace c0:=hw c0;replace x0:=hw x0;replace x1:=hw x1;replace x2:=hw x2;replace x3:=hw x3;replace z0:=hw z0;replace z1:=hw z1;replace z2:=hw z2;replace z3:=hw z3;have hs3:(((w.alloc (.cells #[pV lb] 47)).alloc (.cells #[iV (a:Int)] 3)).alloc (.cells #[iV (b:Int)] 3)).heap.size=w.heap.size+3:=by simp
 clear hw e0 e1 e2 c1 fz;go_enter Tryz.func97,Tryz.ntmps97;go_wp2_with fail
 generalize (((w.alloc (.cells #[pV lb] 47)).alloc (.cells #[iV (a:Int)] 3)).alloc (.cells #[iV (b:Int)] 3))=W at *;have HS3:=A0 hs3;have hgW:g<W.heap.size:=by omega
 have hlW:lb<W.heap.size:=by omega
 have hs0:w.heap.size<W.heap.size:=by omega
 have hs1:w.heap.size+1<W.heap.size:=by omega
 have hs2:w.heap.size+1+1<W.heap.size:=by omega
 clear hs3;go_cut [7,8] (fun v7 v8 wc=>∃p q:Nat,v7=pV p/\v8=pV q/\Hid (Chg No W wc)/\wc.cell? (aD p 0)=some (iV ka)/\wc.cell? (aD p 1)=some (.slice fa fs.length fc)/\wc.cell? (aD p 2)=some (.slice la xs.length ac)/\wc.cell? (aD p 3)=some (iV ox)/\
  wc.cell? (aD q 0)=some (iV kb)/\wc.cell? (aD q 1)=some (.slice fb gs.length fbc)/\wc.cell? (aD q 2)=some (.slice lb2 ys.length bc)/\wc.cell? (aD q 3)=some (iV oy))
 case first=>
  go_region_held3 (fun w'=>w'.cell? (aD w.heap.size 0)=some (pV lb)/\w'.cell? (aD (w.heap.size+1) 0)=some (iV (a:Int))/\w'.cell? (aD (w.heap.size+1+1) 0)=some (iV (b:Int))/\w'.cell? (aD lb 0)=some (.slice (some (aD g 0)) T.length c)/\
   w'.cell? (aD g (a * 4))=some (iV ka)/\w'.cell? (aD g (a * 4+1))=some (.slice fa fs.length fc)/\w'.cell? (aD g (a * 4+2))=some (.slice la xs.length ac)/\w'.cell? (aD g (a * 4+3))=some (iV ox)/\
   w'.cell? (aD g (b * 4))=some (iV kb)/\w'.cell? (aD g (b * 4+1))=some (.slice fb gs.length fbc)/\w'.cell? (aD g (b * 4+2))=some (.slice lb2 ys.length bc)/\w'.cell? (aD g (b * 4+3))=some (iV oy))
   (go_keep) (fail)
  all_goals go_wp2_with fail
  all_goals go_meet
  all_goals exact⟨_,_,rfl,rfl,((Chg.alloc No _ _).trans (Chg.alloc No _ _) (fun _ _ x=>x)).trans (Chg.drewN No _ 1) (fun _ _ x=>x),by simp[go_sem],by simp[go_sem],by simp[go_sem],by simp[go_sem],by simp[go_sem],by simp[go_sem],by simp[go_sem],by simp[go_sem]⟩
 case rest=>
  obtain⟨p,q,rfl,rfl,CW,p0,p1,p2,p3,q0,q1,q2,q3⟩:=hcut;have S1:=A0 (H0.out.still (C3.out.trans CW.out (fun _ _ x=>x)));have C4:=A0 (C3.out.trans CW.out (fun _ _ x=>x));have D0:=A0 (B0.out.still CW.out);have D1:=A0 (B1.out.still CW.out);have D2:=A0 (B2.out.still CW.out);have d0:=D0.out.cell;have d1:=D1.out.cell;have d2:=D2.out.cell;have C5:Hid (∀w' R',Mid wc mb N T D m w'->H7a w mb N T D (a+b) R' (.returned (.bool R')) w'):=fun w' R' hM=>X0c C4.out hM (by have:=HMM.out;omega);have M0:=A0 (Mid.refl S1.out m);have O1:=A0 (A8 HL1.out C4.out (fun _ _ x=>x));have O2:=A0 (A8 HL2.out C4.out (fun _ _ x=>x));have O3:=A0 (A8 HF1.out C4.out (fun _ _ x=>x));have O4:=A0 (A8 HF2.out C4.out (fun _ _ x=>x));clear x0 x1 x2 x3 z0 z1 z2 z3 b0 b1 b2 c0;by_cases hA5:ka=5
  · subst hA5;have hR:=L1.out (.inl rfl);subst hR;go_wp2;go_ret;exact C5.out _ _ M0.out
  have hA5':(ka==5)=false:=by simp[hA5]
  by_cases hB5:kb=5
  · subst hB5;have hR:=L1.out (.inr (.inl rfl));subst hR;go_wp2;go_ret;exact C5.out _ _ M0.out
  have hB5':(kb==5)=false:=by simp[hB5]
  by_cases hB6:kb=6
  · subst hB6;have hR:=L1.out (.inr (.inr rfl));subst hR;go_wp2;go_ret;exact C5.out _ _ M0.out
  have hB6':(kb==6)=false:=by simp[hB6]
  have NW:Hid (¬(ka=5\/kb=5\/kb=6)):=by show¬_;omega
  by_cases hA10:ka=10
  · subst hA10;have hR:=L2.out NW.out rfl;have HC:=Y0a m IH wc D S1.out la ac xs O1.out b w.heap.size (w.heap.size+1+1) hb (fun x hx=>by have:=LA.out x hx;have:=HMM.out;omega) D0.out D2.out;generalize (xs.any fun x=> !M.F1 (M.tr T x.toNat) (M.tr T b))=R1 at *;subst hR;clear L1 L2 L3 L4 L5 L6 L7 L8;go_wp2_with fail
    refine HC.mono ?_;clear HC;rintro e w2 ⟨rfl,hM⟩;go_wp2;go_ret;exact C5.out _ _ hM
  have hA10':(ka==10)=false:=by simp[hA10]
  by_cases hB10:kb=10
  · subst hB10;have hR:=L3.out NW.out hA10 rfl;have HC:=X9a m IH wc D S1.out lb2 bc ys O2.out a w.heap.size (w.heap.size+1) ha (fun x hx=>by have:=LB.out x hx;have:=HMM.out;omega) D0.out D1.out;generalize (ys.any fun x=>M.F1 (M.tr T a) (M.tr T x.toNat))=R1 at *;subst hR;clear L1 L2 L3 L4 L5 L6 L7 L8;go_wp2_with fail
    refine HC.mono ?_;clear HC;rintro e w2 ⟨rfl,hM⟩;go_wp2;go_ret;exact C5.out _ _ hM
  have hB10':(kb==10)=false:=by simp[hB10]
  by_cases hAB:ka=kb
  · subst hAB;have hne:(ka !=ka)=false:=by simp
    by_cases h7:ka=7
    · subst h7;have hR:=L5.out rfl rfl;have HC:=T3a m IH wc D S1.out fa fc fs O3.out fb fbc gs O4.out (fun p hp=>by have hp':=FA.out p hp;have hm':=HMM.out;exact⟨hp'.1,by omega,fun q hq=>by have:=FB.out q hq;omega⟩) (fun q hq=>by have:=FB.out q hq;omega);generalize (gs.all fun p=>M5 T fs p)=R1 at *;subst hR;clear L1 L2 L3 L4 L5 L6 L7 L8;go_wp2_with fail
      refine HC.mono ?_;clear HC;rintro e w2 ⟨rfl,hM⟩;go_wp2;go_ret;exact C5.out _ _ hM
    have h7':(ka==7)=false:=by simp[h7]
    by_cases h8:ka=8
    · subst h8;have hR:=L6.out rfl rfl;have ho1:=OA.out (.inl rfl);have ho2:=OB.out (.inl rfl);obtain⟨o1,rfl⟩:∃x:Nat,ox=(x:Int):=⟨ox.toNat,by omega⟩;obtain⟨o2,rfl⟩:∃x:Nat,oy=(x:Int):=⟨oy.toNat,by omega⟩;simp only[Int.toNat_natCast]at hR;have HC:=F8a IH S1.out (a:=o1) (b:=o2) (by have:=HMM.out;omega) (by omega) (by omega) wc M0.out;generalize M.F1 (M.tr T o1) (M.tr T o2)=R1 at *;subst hR;clear L1 L2 L3 L4 L5 L6 L7 L8;go_wp2_with fail
      refine HC.mono ?_;clear HC;rintro e w2 ⟨rfl,-,hM⟩;go_wp2;go_ret;exact C5.out _ _ hM
    have h8':(ka==8)=false:=by simp[h8]
    by_cases h9:ka=9
    · subst h9;have HC:=L7.out rfl rfl wc S1.out;clear L1 L2 L3 L4 L5 L6 L7 L8;go_wp2_with fail
      refine HC.mono ?_;clear HC;rintro e w2 ⟨rfl,hM,hD⟩;go_wp2;go_ret;exact⟨rfl,(C4.out.mono fun _ _ x=>x.elim).trans hM (fun _ _ x=>x),hD⟩
    have h9':(ka==9)=false:=by simp[h9]
    have hR:=L8.out NW.out hA10 rfl h7 h8 h9;subst hR;clear L1 L2 L3 L4 L5 L6 L7 L8;go_wp2;go_ret;exact C5.out _ _ M0.out
  · have hne:(ka !=kb)=true:=by simp[hAB]
    have hR:=L4.out NW.out hA10 hB10 hAB;subst hR;clear L1 L2 L3 L4 L5 L6 L7 L8;go_wp2;go_ret;exact C5.out _ _ M0.out
theorem U4a:∀m,J7a lb mb N T m
 |0=>fun a b w D hm _ _ _=>by omega
 |m+1=>by
  intro a b w D hm ha hb h;by_cases hl:a+b+1<=m
  · exact U4a m a b w D hl ha hb h
  · have he:a+b=m:=by omega
    exact N6c m (U4a m) w D h a b ha hb he
end
end Go.Proofs.YtgdnpemiiageaaaGreatDoor
