/-
  A part of the proof.
-/
import Derived.Test.YtgdnpemiiageaaaGreatDoorCheckG
import Derived.Test.YtgdnpemiiageaaaGreatDoorCheckH
set_option maxHeartbeats 16000000
set_option maxRecDepth 100000
namespace Go.Proofs.YtgdnpemiiageaaaGreatDoor
open Go.RowKit Go.Maps
def RdC (l:List UInt8) (w:World) (e:Ending) (w':World):Prop:=Below w.heap.size w w'/\
 ((∃er p v,FtO l er p/\e= .returned (.tuple #[v,.agg #[iV er,iV p]]))\/
  ∃N T l2 of,Okd l N T l2 of/\∃w0 pb lb mb qb nv yv mn fv Z ofs,Below w.heap.size w w0/\w.heap.size<=pb/\w.heap.size<=lb/\w.heap.size<=mb/\Cbs w0 (M.cxP N T l2) pb lb mb qb nv fv/\
   e= .returned (.tuple #[pV pb,.agg #[iV 0,iV 0]])/\Z.length<=3 * N.length/\OfR (tl (M.cxP N T l2) Z) ofs of/\Cst w0 w' (M.cxP N T l2) pb lb mb qb nv yv mn fv Z ofs)
theorem Z2a (s:ByteArray) (w:World) (hs:s.size<=maxLen):Calls Tryz.prog 8 #[.string s] w (RdC s.data.toList w):=by
 have HNM:=A0 (fun w1=>A8c s w1 hs);have HPA:=A0 (fun w1=>Z5a s w1 hs);have hb0:=heap_alloc_new w (.cells #[iV 0,iV 0] 26);clear hs;have bad:∀(w1:World) (er p:Int),er≠0->Below (w.alloc (.cells #[iV 0,iV 0] 26)).heap.size (w.alloc (.cells #[iV 0,iV 0] 26)) w1->w1.heap[w.heap.size]? =some (.cells #[iV 0,iV 0] 26 (0,0))/\Below w.heap.size w w1:=fun w1 er p _ hbel=>
  ⟨by rw[hbel.block _ (by simp)];exact hb0,(Chg.toBelow (Chg.alloc No w _) (fun _ _ x=>x.elim) (Nat.le_refl _)).trans (hbel.mono (by simp))⟩
 have HBAD:=A0 bad;clear hb0 bad;go_enter Tryz.func8,Tryz.ntmps8;go_wp2_with fail
 refine(HNM.out _).mono ?_;clear HNM;rintro e w1 ⟨hbel,hq⟩;have hsplit:(∃er p,(er≠0/\FtO s.data.toList er p)/\e= .returned (.tuple #[sN,.agg #[iV er,iV p]]))\/∃N T ps fs l2 ad c,M.PRes s.data.toList (.inr (N,T))/\M.Prgm N T ps/\M.bnP ps= .ok fs l2/\e= .returned (.tuple #[.slice ad (Q8 (M.upd (List.replicate N.length (-1)) l2) N.length).length c,.agg #[iV 0,iV 0]])/\w1.ownsRow (w.alloc (.cells #[iV 0,iV 0] 26)).heap.size 62 2 (.slice ad (Q8 (M.upd (List.replicate N.length (-1)) l2) N.length).length c) (Q8 (M.upd (List.replicate N.length (-1)) l2) N.length).length (U1 (Q8 (M.upd (List.replicate N.length (-1)) l2) N.length)):=by
  rcases hq with ⟨er,p,h1,h0,h2⟩|⟨N,T,ps,h1,h2,h3⟩
  · exact .inl ⟨er,p,⟨h1,h1,.inl h0⟩,h2⟩
  · cases hb:M.bnP ps with
    |bad er i=>rw[hb]at h3;exact .inl ⟨er,_,⟨h3.1,h3.1,.inr ⟨N,T,ps,h1,h2,.inl ⟨i,hb,rfl⟩⟩⟩,h3.2⟩
    |ok fs l2=>
     rw[hb]at h3;obtain⟨ad,c,h4,h5⟩:=h3;exact .inr ⟨N,T,ps,fs,l2,ad,c,h1,h2,hb,h4,h5⟩
 clear hq;rcases hsplit with ⟨er,p,⟨hr,hft⟩,rfl⟩|⟨N,T,ps,fs,l2,ad,c,hr,hP,hbn,rfl,hown⟩
 · obtain⟨f0,hbw⟩:=HBAD.out w1 er p hr hbel;have g0:w1.cell? (aD w.heap.size 0)=some (iV 0):=cr f0 rfl;have g1:w1.cell? (aD w.heap.size 1)=some (iV 0):=cr f0 rfl;have gz:∀o,w1.frozen? (aD w.heap.size o)=false:=fun o=>frozen_of_row w1 _ o _ _ f0;have gl:=(ltG f0);have her:(er !=0)=true:=by simp[hr]
   have HBW:=A0 hbw;have HER:=A0 hft;clear hbel f0 hbw HBAD hr hft HPA;go_wp2_with fail
   go_region
   all_goals go_wp2_with fail
   all_goals
    have hcS:Chg (fun k=>k=w.heap.size) w1 ((w1.setCell (aD w.heap.size 0) (iV er)).setCell (aD w.heap.size 1) (iV p)):=Chg.trans (Chg.set w1 (aD w.heap.size 0) _) (Chg.set _ (aD w.heap.size 1) _) (fun _ _ x=>x);have hR:RdC s.data.toList w (.returned (.tuple #[.pointer none,.agg #[iV er,iV p]])) _:=⟨HBW.out.trans (Chg.toBelow (Chg.trans hcS (C8 (Chg.alloc No _ (.cells #[iV er,iV p] 26)) (Chg.drewN No _ 1)) (fun _ _ x=>x.elim)) (fun k _ e=>by omega) HBW.out.size),.inl ⟨er,p,_,HER.out,rfl⟩⟩;exact bodyPost_ret (v:= .tuple #[.pointer none,.agg #[iV er,iV p]]) (by simp[results,Tryz.results8,go_sem,g0,g1,gl]) rfl hR
 · obtain⟨f0,hbw⟩:=HBAD.out w1 1 0 (by decide) hbel;have HF0:=A0 f0;have HBW:=A0 hbw;have HRR:=A0 hr;have HPP:=A0 hP;have HBN:=A0 hbn;have HOW:=A0 hown;have gl:=(ltG f0);clear hbel f0 hbw HBAD hr hP hbn hown;obtain⟨BN,hBN⟩:∃BN,Q8 (M.upd (List.replicate N.length (-1)) l2) N.length=BN:=⟨_,rfl⟩;have HRG:Hid (∀p∈BN,(0<=p.1/\p.1<=1000000)/\(0<=p.2/\p.2<=1000000)):=by
    rw[<-hBN];exact Y7c HPP.out HBN.out
   have HBS:Hid (BN.length<=1200):=by
    have h1:=V8a (M.upd (List.replicate N.length (-1)) l2) N.length;have h2:=HPP.out.lenN;show BN.length<=1200;rw[<-hBN];omega
   rw[hBN]at HOW⊢;have HBNE:=A0 hBN;clear hBN;obtain⟨bl,hbl⟩:∃bl,BN.length=bl:=⟨_,rfl⟩;rw[hbl]at HBS HOW⊢;have HBLN:=A0 hbl;clear hbl;go_wp2_with fail
   refine(HPA.out _).mono ?_;clear HPA;rintro e w2 ⟨hb2,⟨er,p,h1,_⟩|⟨N',T',na,nc,ya,yc,h1,rfl,hno,hto⟩⟩
   · exact absurd (h1.one HRR.out) (by simp)
   · have e1:=h1.one HRR.out;simp only[Sum.inr.injEq,Prod.mk.injEq]at e1;obtain⟨rfl,rfl⟩:=e1;have HB2:=A0 hb2;have HNO:=A0 hno;have HTO:=A0 hto;clear h1 hb2 hno hto;have hmm:=@run_makeMap Tryz.prog;have p3:=heap_alloc_new w2 (.cells #[.slice na N'.length nc,.slice ya T'.length yc,iV ((N'.length:Int) - 1)] 46);have p4:((w2.alloc (.cells #[.slice na N'.length nc,.slice ya T'.length yc,iV ((N'.length:Int) - 1)] 46)).alloc (.cells #[iV 0,iV 0] 26)).heap[w2.heap.size]? =some (.cells #[.slice na N'.length nc,.slice ya T'.length yc,iV ((N'.length:Int) - 1)] 46 (0,0)):=by
      rw[Below.heap_alloc _ _ _ (by simp)];exact p3
     have C3:=A0 (C8 (Chg.alloc No w2 (.cells #[.slice na N'.length nc,.slice ya T'.length yc,iV ((N'.length:Int) - 1)] 46)) (Chg.alloc No _ (.cells #[iV 0,iV 0] 26)));go_wp2_with fail
     generalize (w2.alloc (.cells #[.slice na N'.length nc,.slice ya T'.length yc,iV ((N'.length:Int) - 1)] 46)).alloc (.cells #[iV 0,iV 0] 26)=W3 at *;have r0:W3.cell? (aD w2.heap.size 0)=some (.slice na N'.length nc):=cr p4 rfl;have r1:W3.cell? (aD w2.heap.size 1)=some (.slice ya T'.length yc):=cr p4 rfl;have r2:W3.cell? (aD w2.heap.size 2)=some (iV ((N'.length:Int) - 1)):=cr p4 rfl;have hl3:=(ltG p4);have HNW:Hid (∀u,Chg No W3 u->Calls Tryz.prog 14 #[] u fun e w'=>∃lb mb:Nat,e= .returned (pV lb)/\W3.heap.size<=mb/\W3.heap.size<=lb/\u.heap.size<=mb/\mb<w'.heap.size/\Hid (Chg No u w')/\Hid (Shp w' lb mb 4000 [] (.map []))/\w'.cell? (aD lb 0)=some (sN)/\w'.cell? (aD w2.heap.size 0)=some (.slice na N'.length nc)/\w'.cell? (aD w2.heap.size 1)=some (.slice ya T'.length yc)/\w'.cell? (aD w2.heap.size 2)=some (iV ((N'.length:Int) - 1))/\w2.heap.size<w'.heap.size):=fun u hu=>by
      refine(V3c u).mono ?_;rintro e w' ⟨rfl,hc,hs,hl⟩;have h1:=hu.size;have h2:=blt hl;simp only at h2;have hcc:=C8 hu hc;exact⟨_,_,rfl,h1,by omega,Nat.le_refl _,by omega,hc,hs,hl,A4 hcc r0,A4 hcc r1,A4 hcc r2,by have:=hcc.size;omega⟩
     have N3:Hid (Nrow W3 (.slice na N'.length nc) N'):=HNO.out.row.keep C3.out (fun _ _ _ _ _ _ x=>x);have T3:Hid (Tyr W3 (.slice ya T'.length yc) T'):=HTO.out.row.keep C3.out (fun _ _ _ _ _ _ x=>x);have C13:Chg No w1 W3:=C8 (C8 (Chg.alloc No w1 _) ((Chg.below HB2.out).mono (fun _ hi x=>by omega))) C3.out;have F3:Hid (W3.heap[w.heap.size]? =some (.cells #[iV 0,iV 0] 26 (0,0))):=J5 C13 HF0.out;have B3:Hid (Below w.heap.size w W3):=HBW.out.trans (Chg.toBelow C13 (fun _ _ x=>x.elim) HBW.out.size);have O3:Hid (W3.ownsRow 0 62 2 (.slice ad bl c) bl (U1 BN)):=A8 (C9 HOW.out (Nat.zero_le _)) C13 (fun _ _ x=>x);clear C13;clear p3 p4;go_cut [8] (fun v8 wc=>∃pb lb mb qb:Nat,v8=pV pb/\Hid (Chg No W3 wc/\wc.heap[pb]? =some (.cells #[.slice na N'.length nc,.slice ya T'.length yc,iV ((N'.length:Int) - 1),pV lb,.map (some qb),sN,sN,iV 0,iV 0,iV 0,iV 0,iV 0,iV 0] 51 (0,0))/\Shp wc lb mb 4000 [] (.map [])/\wc.cell? (aD lb 0)=some (sN)/\ImM wc qb 0 (fun _=>none)/\W3.heap.size<=pb/\W3.heap.size<=lb/\W3.heap.size<=mb/\W3.heap.size<=qb/\qb≠mb))
     case first=>
      go_region_with (go_at_call 14;first
       |(refine(HNW.out _ (Chg.drewN _ _ 1)).mono ?_;rintro e w4 ⟨lb,mb,rfl,hb1,hb1',hb2,hb3,HC4,HS4,l4,x0,x1,x2,hl4⟩)
       |(refine(HNW.out _ (C8 (Chg.drewN No W3 1) (Chg.alloc No W3.drew (.map #[] 0)))).mono ?_;rintro e w4 ⟨lb,mb,rfl,hb1,hb1',hb2,hb3,HC4,HS4,l4,x0,x1,x2,hl4⟩))
      all_goals go_wp2_with fail
      all_goals go_meet
      all_goals first
       |exact⟨w4.heap.size+1,lb,mb,w4.heap.size,rfl,C8 (C8 (Chg.drewN No W3 1) HC4.out) (C8 (Chg.alloc No w4 (.map #[] 0)) (Chg.alloc No _ _)),by have:=heap_alloc_new (w4.alloc (.map #[] 0)) (.cells #[.slice na N'.length nc,.slice ya T'.length yc,iV ((N'.length:Int) - 1),pV lb,.map (some w4.heap.size),sN,sN,iV 0,iV 0,iV 0,iV 0,iV 0,iV 0] 51);simpa using this,HS4.out.still (C8 (Chg.alloc No w4 (.map #[] 0)) (Chg.alloc No _ _)),A4 (C8 (Chg.alloc No w4 (.map #[] 0)) (Chg.alloc No _ _)) l4,(ImM.new w4).chg (Chg.alloc No _ _) (fun x=>x),by omega,by omega,by omega,by omega,by omega⟩
       |exact⟨w4.heap.size,lb,mb,W3.heap.size,rfl,C8 (C8 (C8 (Chg.drewN No W3 1) (Chg.alloc No W3.drew (.map #[] 0))) HC4.out) (Chg.alloc No _ _),heap_alloc_new w4 _,HS4.out.still (Chg.alloc No _ _),A4 (Chg.alloc No _ _) l4,((ImM.new W3.drew).chg HC4.out (fun x=>x)).chg (Chg.alloc No _ _) (fun x=>x),by omega,by omega,by omega,Nat.le_refl _,by have h:=hb2;simp only[World.size_alloc]at h;have h2:W3.drew.heap.size=W3.heap.size:=rfl;omega⟩
       |trace_state
      all_goals sorry
     case rest=>
      obtain⟨pb,lb,mb,qb,rfl,HCUT⟩:=hcut;obtain⟨k1,k2,k3,k4,k5,k6,k7,k8,k9,k10⟩:=HCUT.out;have HRB:Hid (Rdb wc N' pb lb mb qb (.slice na N'.length nc) #[.slice na N'.length nc,.slice ya T'.length yc,iV ((N'.length:Int) - 1),pV lb,.map (some qb),sN,sN,iV 0,iV 0,iV 0,iV 0,iV 0,iV 0] [] 0 (fun _=>none)):=⟨N3.out.keep k1 (fun _ _ _ _ _ _ x=>x),k2,k3.sho,k5,k10⟩;have HTY:Hid (Tyr wc (.slice ya T'.length yc) T'):=T3.out.keep k1 (fun _ _ _ _ _ _ x=>x);have HF:Hid (wc.heap[w.heap.size]? =some (.cells #[iV 0,iV 0] 26 (0,0))):=J5 k1 F3.out;have HBL:Hid (Below w.heap.size w wc/\w.heap.size<=pb/\w.heap.size<=lb/\w.heap.size<=mb/\w.heap.size<=qb):=by
       have:=B3.out.size;exact⟨B3.out.trans (Chg.toBelow k1 (fun _ _ x=>x.elim) (by omega)),by omega,by omega,by omega,by omega⟩
      have HOB:Hid (wc.ownsRow 0 62 2 (.slice ad bl c) bl (U1 BN)):=A8 O3.out k1 (fun _ _ x=>x);have HL0:=A0 k4;have z4:wc.cell? (aD pb 4)=some (.map (some qb)):=cr k2 rfl;have lpb:=blt z4;simp only at lpb;have HZ4:=A0 z4;have lw:=(ltG HF.out);clear HCUT k1 k2 k3 k4 k5 k6 k7 k8 k9 k10 N3 T3 F3 B3 O3 HNW C3 HB2 HNO HTO r0 r1 r2 hl3 HF0 HBW HOW gl z4;go_wp2_with fail
      go_loopw [33] (fun v wr=>∃j:Nat,j<=bl/\v=iV (j:Int)/\Hid (Chg (fun k=>k=qb) wc wr/\ImM wr qb j (asg (BN.take j)))) (fun v _=>bl - (intOf v).toNat)
      case atStart=>exact⟨0,Nat.zero_le _,rfl,Chg.refl _ _,HRB.out.names⟩
      case round=>
       obtain⟨j,hj,rfl,HJ⟩:=hrel;have ncl:∀{q:Nat} {cs:Array Value} {e:TypeId} {fz:Nat×Nat},wc.heap[q]? =some (.cells cs e fz)->wr.heap[q]? =some (.cells cs e fz):=fun {q cs e fz} hq=>by
        rw[HJ.out.1.block q (ltG hq) (fun x=>by subst x;exact HRB.out.names.notcells hq)];exact hq
       have y4:wr.cell? (aD pb 4)=some (.map (some qb)):=by rw[World.cell?_of_block ((ncl HRB.out.blk).trans HRB.out.blk.symm)];exact HZ4.out
       have lpr:=blt y4;simp only at lpr;by_cases hjl:j<bl
       · have hjB:j<BN.length:=by have:=HBLN.out;omega
         obtain⟨g2,hla,-,hg2,hc1,hc2,hcell⟩:=E7 (A8 HOB.out HJ.out.1 (fun g hg x=>by
          obtain⟨_,cur,hh⟩:=A9 HOB.out g hg;subst x;exact HRB.out.names.notcells hh)) (by omega)
         have v0:=hcell (j * 2) _ (D2a BN j hjB).1;have v1:=hcell (j * 2+1) _ (D2a BN j hjB).2;subst hla;have rg:=HRG.out BN[j] (List.getElem_mem hjB);have HAS:Hid (asg (BN.take (j+1))=fun x=>if x=BN[j].1 then some BN[j].2 else asg (BN.take j) x):=by
          show _=_;rw[List.take_succ_eq_append_getElem hjB,M9b]
         obtain⟨⟨x,y⟩,hxy⟩:∃p,BN[j]=p:=⟨_,rfl⟩;rw[hxy]at v0 v1 rg HAS;simp only at v0 v1 rg HAS;unfold maxLen at hc2;obtain⟨w5,hrun,him,hc5⟩:=((HJ.out.2).chg (C8 (Chg.alloc No wr (.cells #[iV x,iV y] 62)) (Chg.drewN No _ 1)) (fun x=>x)).put x y rg.1 (by have:=HBS.out;omega) rg.2;have hrun':(Instr.mapUpdate 40 (.map (some qb)) (iV x) (iV y)).run Tryz.prog (wr.alloc (.cells #[iV x,iV y] 62)).drew= .ok () w5:=hrun;have HIM:=A0 him;have HC5:Hid (Chg (fun k=>k=qb) wc w5):=HJ.out.1.trans (((C8 (Chg.alloc No wr (.cells #[iV x,iV y] 62)) (Chg.drewN No _ 1)).mono (S':=fun k=>k=qb) (fun _ _ x=>x.elim)).trans hc5 (fun _ _ x=>x)) (fun _ _ x=>x);clear hcell hxy him hc5 ncl hrun;go_wp2_with fail
         go_region
         all_goals go_wp2_with fail
         all_goals go_roundw
         all_goals first
          |exact⟨j+1,by omega,by go_num,HC5.out,(show ImM _ _ _ _ from by rw[HAS.out];exact HIM.out)⟩
          |(simp[intOf];omega)
       · have hje:j=bl:=by omega
         subst hje;have HRW:Hid (Rdb wr N' pb lb mb qb (.slice na N'.length nc) #[.slice na N'.length nc,.slice ya T'.length yc,iV ((N'.length:Int) - 1),pV lb,.map (some qb),sN,sN,iV 0,iV 0,iV 0,iV 0,iV 0,iV 0] [] j (asg BN)):=HRB.out.put HJ.out.1 (by
          have:=HJ.out.2;rw[List.take_of_length_le (by rw[HBLN.out];exact Nat.le_refl _)]at this;exact this)
         have HTW:Hid (Tyr wr (.slice ya T'.length yc) T'):=HTY.out.keep HJ.out.1 (fun q cs e fz hq _ x=>by subst x;exact HRB.out.names.notcells hq);have HFW:Hid (wr.heap[w.heap.size]? =some (.cells #[iV 0,iV 0] 26 (0,0))):=ncl HF.out;have HBW2:Hid (Below w.heap.size w wr/\w.heap.size<=pb/\w.heap.size<=lb/\w.heap.size<=mb):=by
          obtain⟨b1,b2,b3,b4,b5⟩:=HBL.out;exact⟨b1.trans (Chg.toBelow HJ.out.1 (fun k _ x=>by omega) b1.size),b2,b3,b4⟩
         have HLW:Hid (wr.cell? (aD lb 0)=some (sN)):=by
          obtain⟨y0,yx,hlb,_⟩:=HRB.out.sho.blk;exact(World.cell?_of_block ((ncl hlb).trans hlb.symm)).trans HL0.out
         have HFN:=A0 (K5b (T:=T') HPP.out.flat (M.L6b HPP.out HBN.out HPP.out.tx).ls (by have:=HPP.out.n;omega) HPP.out.lenN wr _ HRW.out.nodes);have c0:wr.cell? (aD pb 0)=some (.slice na N'.length nc):=cr HRW.out.blk rfl;clear HRB HTY HF HBL HL0 HZ4 HOB HJ ncl y4 HRG HBLN;go_wp2_with fail
         refine HFN.out.mono ?_;clear HFN;rintro e w6 ⟨fv,rfl,hc6,ho6⟩;obtain⟨fa,fc,rfl⟩:=B6 ho6;have HR6:=A0 (HRW.out.still hc6);have HT6:Hid (Tyr w6 (.slice ya T'.length yc) T'):=HTW.out.keep hc6 (fun _ _ _ _ _ _ x=>x);have HF6:=A0 (J5 hc6 HFW.out);have HB6:Hid (Below w.heap.size w w6/\w.heap.size<=pb/\w.heap.size<=lb/\w.heap.size<=mb):=⟨HBW2.out.1.trans (Chg.toBelow hc6 (fun _ _ x=>x.elim) HBW2.out.1.size),HBW2.out.2⟩;have HL6:=A0 (A4 hc6 HLW.out);have HO6:=A0 (C9 ho6 (Nat.zero_le _));have c5:w6.cell? (aD pb 5)=some (sN):=cr HR6.out.blk rfl;have z5:w6.frozen? (aD pb 5)=false:=frozen_of_row w6 _ 5 _ _ HR6.out.blk;have l5:=blt c5;simp only at l5;clear hc6 ho6 HRW HTW HFW HBW2 HLW c0;go_wp2_with fail
         have b7:(w6.setCell (aD pb 5) (.slice fa N'.length fc)).heap[pb]? =some (.cells (W9a T'.length (.slice na N'.length nc) (.slice ya T'.length yc) ((N'.length:Int) - 1) lb qb (.slice fa N'.length fc) 0) 51 (0,0)):=heap_setCell_same w6 pb 5 _ _ (.slice fa N'.length fc) HR6.out.blk;have hc7:Chg (fun x=>x=pb) w6 (w6.setCell (aD pb 5) (.slice fa N'.length fc)):=Chg.set w6 (aD pb 5) _;have HR7:=A0 (HR6.out.store hc7 b7);have HT7:Hid (Tyr (w6.setCell (aD pb 5) (.slice fa N'.length fc)) (.slice ya T'.length yc) T'):=HT6.out.keep hc7 (fun q cs e fz hq he=>HR6.out.not q cs e fz hq (by rcases he with rfl|rfl|rfl<;>decide));have HF7:Hid ((w6.setCell (aD pb 5) (.slice fa N'.length fc)).heap[w.heap.size]? =some (.cells #[iV 0,iV 0] 26 (0,0))):=by
          show _=_;rw[hc7.block _ (ltG HF6.out) (HR6.out.not _ _ _ _ HF6.out (by decide))];exact HF6.out
         have HB7:Hid (Below w.heap.size w (w6.setCell (aD pb 5) (.slice fa N'.length fc))/\w.heap.size<=pb/\w.heap.size<=lb/\w.heap.size<=mb):=⟨HB6.out.1.trans (Chg.toBelow hc7 (fun k _ x=>by have:=HB6.out.2.1;omega) HB6.out.1.size),HB6.out.2⟩;have HO7:Hid ((w6.setCell (aD pb 5) (.slice fa N'.length fc)).ownsRow 0 3 1 (.slice fa N'.length fc) N'.length (C7 (M.fnP N'))):=A8 HO6.out hc7 (fun g hg x=>by
          obtain⟨_,cur,hh⟩:=A9 HO6.out g hg;exact HR6.out.not _ _ _ _ hh (by decide) x)
         have HL7:Hid ((w6.setCell (aD pb 5) (.slice fa N'.length fc)).cell? (aD lb 0)=some (sN)):=by
          obtain⟨y0,yx,hlb,_⟩:=HR6.out.sho.blk;exact(World.cell?_of_block (hc7.block lb (ltG hlb) (HR6.out.not _ _ _ _ hlb (by decide)))).trans HL6.out
         clear hc7 b7 HR6 HT6 HF6 HB6 HO6 HL6 c5 z5 l5;generalize w6.setCell (aD pb 5) (.slice fa N'.length fc)=W7 at *;have d1:W7.cell? (aD pb 1)=some (.slice ya T'.length yc):=cr HR7.out.blk rfl;have d3:W7.cell? (aD pb 3)=some (pV lb):=cr HR7.out.blk rfl;have l7:=blt d1;simp only at l7;have HAD:Hid (∀u,Chg No W7 u->Calls Tryz.prog 16 #[pV lb,.slice ya T'.length yc] u fun e w'=>∃v,e= .returned (iV v)/\Hid (Rdb w' N' pb lb mb qb (.slice na N'.length nc) (W9a T'.length (.slice na N'.length nc) (.slice ya T'.length yc) ((N'.length:Int) - 1) lb qb (.slice fa N'.length fc) 0) (T'++I4.take 0) j (asg BN)/\w'.heap[w.heap.size]? =some (.cells #[iV 0,iV 0] 26 (0,0))/\Below w.heap.size w w'/\w'.ownsRow 0 3 1 (.slice fa N'.length fc) N'.length (C7 (M.fnP N')))):=fun u hu=>by
          obtain⟨yx,hy,hyr⟩:=HT7.out.keep hu (fun _ _ _ _ _ _ x=>x);have hRu:=HR7.out.still hu;have hlu:=A4 hu HL7.out;refine(L8c u hRu.sho (fun _ _=>trivial) T' ya yc yx hy hyr HPP.out.ok (fun t ht=> ?_) (by have:=HPP.out.lenT;simp;omega) _ hlu (fun g hg=>by simp[Value.ownBlock]at hg)).mono ?_
          · obtain⟨n,hn,rfl⟩:=List.mem_iff_getElem.1 ht;have h1:=HPP.out.ls n hn;refine⟨by omega,by omega, ?_⟩;exact HPP.out.of _ (List.getElem_mem hn)
          · rintro e w' ⟨rfl,hc,hs,_⟩;rw[M6b]at hs;obtain⟨h1,h2,h3⟩:=hRu.grow (S':=T'++I4.take 0) hlu hc (by simpa using hs);refine⟨_,rfl,h1,h2 _ _ _ _ (J5 hu HF7.out) (by decide) (by decide), ?_, ?_⟩
            · have h4:=HB7.out;exact(h4.1.trans (Chg.toBelow hu (fun _ _ x=>x.elim) h4.1.size)).trans (Chg.toBelow h3 (fun k _ x=>by omega) (Nat.le_trans h4.1.size hu.size))
            · have h5:=A8 HO7.out hu (fun _ _ x=>x);refine⟨h5.1, ?_⟩;rcases h5.2 with g2|⟨g,cap,cur,e1,e2,e3,r⟩
              · exact .inl g2
              · exact .inr ⟨g,cap,cur,e1,e2,h2 _ _ _ _ e3 (by decide) (by decide),r⟩
         go_cut [] (fun w8=>Hid (Rdb w8 N' pb lb mb qb (.slice na N'.length nc) (W9a T'.length (.slice na N'.length nc) (.slice ya T'.length yc) ((N'.length:Int) - 1) lb qb (.slice fa N'.length fc) 0) (T'++I4.take 0) j (asg BN)/\w8.heap[w.heap.size]? =some (.cells #[iV 0,iV 0] 26 (0,0))/\Below w.heap.size w w8/\w8.ownsRow 0 3 1 (.slice fa N'.length fc) N'.length (C7 (M.fnP N'))))
         case first=>
          go_region_with (go_at_call 16;refine(HAD.out _ (Chg.drewN _ _ 1)).mono ?_;rintro e w8 ⟨v,rfl,H8⟩)
          all_goals go_wp2_with fail
          all_goals go_meet
          all_goals exact H8
         case rest=>
          clear HAD HR7 HT7 HF7 HO7 HL7 d1 d3 l7;go_wp2_with fail
          go_loopw [11] (fun v wr=>∃i:Nat,i<=5/\v=iV ((i:Int)+1)/\Hid (Rdb wr N' pb lb mb qb (.slice na N'.length nc) (W9a T'.length (.slice na N'.length nc) (.slice ya T'.length yc) ((N'.length:Int) - 1) lb qb (.slice fa N'.length fc) i) (T'++I4.take i) j (asg BN)/\wr.heap[w.heap.size]? =some (.cells #[iV 0,iV 0] 26 (0,0))/\Below w.heap.size w wr/\wr.ownsRow 0 3 1 (.slice fa N'.length fc) N'.length (C7 (M.fnP N')))) (fun v _=>6 - (intOf v).toNat)
          case atStart=>exact⟨0,by omega,rfl,hcut⟩
          case round=>
           clear hcut;obtain⟨i,hi,rfl,HI⟩:=hrel;by_cases hi5:i<5
           · have d3:wr.cell? (aD pb 3)=some (pV lb):=cr HI.out.1.blk rfl;have l7:=blt d3;simp only at l7;have HPU:Hid (∀u,Chg No wr u->Calls Tryz.prog 17 #[pV lb,.agg #[iV ((i:Int)+1),sN,sN,iV 0]] u fun e w'=>e= .returned (iV ((T'.length+i:Nat):Int))/\Hid (Rdb w' N' pb lb mb qb (.slice na N'.length nc) (W9a T'.length (.slice na N'.length nc) (.slice ya T'.length yc) ((N'.length:Int) - 1) lb qb (.slice fa N'.length fc) i) (T'++I4.take (i+1)) j (asg BN)/\w'.heap[w.heap.size]? =some (.cells #[iV 0,iV 0] 26 (0,0))/\Below w.heap.size w w'/\w'.ownsRow 0 3 1 (.slice fa N'.length fc) N'.length (C7 (M.fnP N')))):=fun u hu=>by
              have hRu:=HI.out.1.still hu;have hlT:=HPP.out.lenT;have hll:(T'++I4.take i).length=T'.length+i:=by rw[List.length_append,List.length_take];simp[I4];omega
              refine(Q5a (t:=⟨(i:Int)+1,[],[],0⟩) u hRu.sho none none 0 0 0 0 ⟨_,_,rfl,World.ownsRow_nil _ _ _ _,World.ownsRow_nil _ _ _ _,fun g hg=>trivial,fun g hg=>trivial⟩ (.inl ⟨by simp;omega,by simp;omega,rfl,rfl⟩) (by rw[hll];omega)).mono ?_;rintro e w' ⟨rfl,⟨v,hv,hc⟩,hs⟩;have e2:T'++I4.take i++[⟨(i:Int)+1,[],[],0⟩]=T'++I4.take (i+1):=by
               rw[A2c hi5,<-List.append_assoc];rfl
              rw[e2]at hs;obtain⟨h1,h2,h3⟩:=hRu.grow hv hc hs;refine⟨by rw[hll],h1,h2 _ _ _ _ (J5 hu HI.out.2.1) (by decide) (by decide), ?_, ?_⟩
              · have h4:=HI.out.2.2.1;have h5:=HB7.out.2;exact(h4.trans (Chg.toBelow hu (fun _ _ x=>x.elim) h4.size)).trans (Chg.toBelow h3 (fun k _ x=>by omega) (Nat.le_trans h4.size hu.size))
              · have h5:=A8 HI.out.2.2.2 hu (fun _ _ x=>x);refine⟨h5.1, ?_⟩;rcases h5.2 with g2|⟨g,cap,cur,e1,e2,e3,r⟩
                · exact .inl g2
                · exact .inr ⟨g,cap,cur,e1,e2,h2 _ _ _ _ e3 (by decide) (by decide),r⟩
             go_wp2_with fail
             go_region_with (go_at_call 17;refine(HPU.out _ (Chg.drewN _ _ 1)).mono ?_;rintro e w8 ⟨rfl,H8⟩;have y8:w8.cell? (aD pb (7+(i+1)))=some (iV 0):=(by rw[cell_of_row _ _ (7+(i+1)) _ _ _ H8.out.1.blk];have:i=0\/i=1\/i=2\/i=3\/i=4:=(by omega);rcases this with rfl|rfl|rfl|rfl|rfl<;>rfl);have z8:∀o,w8.frozen? (aD pb o)=false:=(fun o=>frozen_of_row w8 pb o _ _ H8.out.1.blk);have l8:=blt y8;simp only at l8)
             all_goals go_wp2_with fail
             all_goals
              have hcS:Chg (fun x=>x=pb) w8 (w8.setCell (aD pb (7+(i+1))) (iV ((T'.length:Int)+(i:Int)))):=Chg.set w8 (aD pb (7+(i+1))) _;have b9:(w8.setCell (aD pb (7+(i+1))) (iV ((T'.length:Int)+(i:Int)))).heap[pb]? =some (.cells (W9a T'.length (.slice na N'.length nc) (.slice ya T'.length yc) ((N'.length:Int) - 1) lb qb (.slice fa N'.length fc) (i+1)) 51 (0,0)):=by
               have h:=heap_setCell_same w8 pb (7+(i+1)) _ _ (iV ((T'.length:Int)+(i:Int))) H8.out.1.blk;have e:=H9c T'.length (.slice na N'.length nc) (.slice ya T'.length yc) ((N'.length:Int) - 1) lb qb (.slice fa N'.length fc) hi5;rw[Int.natCast_add]at e;rw[h,e]
              have h8:=HB7.out.2;have H9:=A0 (And.intro (H8.out.1.store hcS b9) (And.intro (show (w8.setCell (aD pb (7+(i+1))) (iV ((T'.length:Int)+(i:Int)))).heap[w.heap.size]? =some (.cells #[iV 0,iV 0] 26 (0,0)) by rw[hcS.block _ (ltG H8.out.2.1) (H8.out.1.not _ _ _ _ H8.out.2.1 (by decide))];exact H8.out.2.1) (And.intro (H8.out.2.2.1.trans (Chg.toBelow hcS (fun k _ x=>by omega) H8.out.2.2.1.size)) (A8 H8.out.2.2.2 hcS (fun g hg x=>by obtain⟨_,cur,hh⟩:=A9 H8.out.2.2.2 g hg;exact H8.out.1.not _ _ _ _ hh (by decide) x)))));clear hcS b9 h8;go_roundw
              case rel=>exact⟨i+1,by omega,by go_num,H9⟩
              case measure=>simp[intOf];omega
           · have hi6:i=5:=by omega
             subst hi6;have hfin:=C5d HPP.out HBN.out (by rw[HBNE.out];exact HI.out.1) (by have:=HBS.out;omega) HI.out.2.2.2;have HFC:=A0 (L1b hfin.1 hfin.2);have HCB:=A0 hfin.1;have hmf:=mkf;have l7:=(ltG HI.out.1.blk);clear hfin;go_wp2_with fail
             refine HFC.out.mono ?_;clear HFC;rintro e w9 ⟨hk,hsw,hr⟩;have f9:=hk.2 _ _ _ _ HI.out.2.1 (by decide) (by decide) (by decide) (by decide);have g0:w9.cell? (aD w.heap.size 0)=some (iV 0):=cr f9 rfl;have g1:w9.cell? (aD w.heap.size 1)=some (iV 0):=cr f9 rfl;have gz:∀o,w9.frozen? (aD w.heap.size o)=false:=fun o=>frozen_of_row w9 _ o _ _ f9;have gl9:=(ltG f9);have h8:=HB7.out.2;have HBE:Hid (Below w.heap.size w w9/\w.heap.size<=w9.heap.size):=⟨S2a hsw HI.out.2.2.1 HI.out.2.2.1.size h8.1 h8.2.1 h8.2.2,(S2a hsw HI.out.2.2.1 HI.out.2.2.1.size h8.1 h8.2.1 h8.2.2).size⟩;cases hck:M.ckP (M.cxP N' T' l2) with
             |inl p=>
              obtain⟨er,n⟩:=p;rw[hck]at hr;have e0:e= .returned (.agg #[iV er,iV (atI N' n)]):=hr;subst e0;have HFT:Hid (FtO s.data.toList er (atI N' n)):=⟨G5d hck,.inr ⟨N',T',ps,HRR.out,HPP.out,.inr ⟨fs,l2,n,HBN.out,hck,rfl⟩⟩⟩;clear hk hsw hr hck f9 h8 HI HB7;generalize atI N' n=pa at *;have hcS:Chg (fun k=>k=w.heap.size) w9 ((w9.setCell (aD w.heap.size 0) (iV er)).setCell (aD w.heap.size 1) (iV pa)):=Chg.trans (Chg.set w9 (aD w.heap.size 0) _) (Chg.set _ (aD w.heap.size 1) _) (fun _ _ x=>x);have HRT:Hid (RdC s.data.toList w (.returned (.tuple #[pV pb,.agg #[iV er,iV pa]])) ((w9.setCell (aD w.heap.size 0) (iV er)).setCell (aD w.heap.size 1) (iV pa))):=⟨HBE.out.1.trans (Chg.toBelow hcS (fun k _ x=>by omega) HBE.out.2),.inl ⟨er,pa,_,HFT.out,rfl⟩⟩;clear hcS;go_wp2_with fail
              exact bodyPost_ret (v:= .tuple #[pV pb,.agg #[iV er,iV pa]]) (by simp[results,Tryz.results8,go_sem,g0,g1]) rfl HRT.out
             |inr of=>
              rw[hck]at hr;obtain⟨e0,Z,ofs,hZ,hR,hC⟩:=hr;subst e0;have hcZ:=P8c f9;have HRT:Hid (RdC s.data.toList w (.returned (.tuple #[pV pb,.agg #[iV 0,iV 0]])) ((w9.setCell (aD w.heap.size 0) (iV 0)).setCell (aD w.heap.size 1) (iV 0))):=⟨HBE.out.1.trans (Chg.toBelow hcZ (fun _ _ x=>x.elim) HBE.out.2),.inr ⟨N',T',l2,of,⟨ps,fs,HRR.out,HPP.out,HBN.out,hck⟩,wr,pb,lb,mb,qb,_,_,_,_,Z,ofs,HI.out.2.2.1,h8.1,h8.2.1,h8.2.2,HCB.out,rfl,hZ,hR,hC.still hcZ⟩⟩;clear hk hsw hZ hR hC hck f9 h8 HI HB7 hcZ HCB;go_wp2_with fail
              exact bodyPost_ret (v:= .tuple #[pV pb,.agg #[iV 0,iV 0]]) (by simp[results,Tryz.results8,go_sem,g0,g1]) rfl HRT.out
end Go.Proofs.YtgdnpemiiageaaaGreatDoor
