/-
  A part of the proof.
-/
import Derived.Test.YtgdnpemiiageaaaGreatDoorBindD
import Derived.Test.YtgdnpemiiageaaaGreatDoorPrs
import Derived.Test.YtgdnpemiiageaaaGreatDoorCheckA
set_option maxHeartbeats 16000000
set_option maxRecDepth 100000
namespace Go.Proofs.YtgdnpemiiageaaaGreatDoor
open Go.RowKit Go.Maps
def RdB (l:List UInt8) (w:World) (e:Ending) (w':World):Prop:=Below w.heap.size w w'/\
 ((∃er p,M.PRes l (.inl (er,p))/\e= .returned (.tuple #[.pointer none,.agg #[iV er,iV p]]))\/
  ∃N T ps B bb nv tv,M.PRes l (.inr (N,T))/\M.Prgm N T ps/\w.heap.size<=B/\match M.bnP ps with
   | .bad er i=>e= .returned (.tuple #[pV bb,.agg #[iV er,iV (atI N i)]])
   | .ok fs l=>e= .returned (.tuple #[pV bb,.agg #[iV 0,iV 0]])/\∃av ms,Bsx w' B bb nv av tv ms 2400 fs (M.upd (List.replicate N.length (-1)) l))
theorem C6d {l:List UInt8} {w w1 w5 wa:World} {N:List M.Nd} {T:List M.Ty} {ps:List M.Nt} {nv tv:Value} {x y:Int} {bb:Nat} (hb:Below w.heap.size w w1) (hw:w.heap.size<w1.heap.size) (hr:M.PRes l (.inr (N,T))) (hP:M.Prgm N T ps) (h5:FaP w1 wa w1.heap.size bb nv tv N 2400 (List.replicate N.length (-1)) (M.bnP ps) (.returned (.agg #[iV x,iV y])) w5):
 RdB l w (.returned (.tuple #[pV bb,.agg #[iV x,iV y]])) ((w5.setCell (aD w.heap.size 0) (iV x)).setCell (aD w.heap.size 1) (iV y)):=by
 have hcs:Chg (fun k=>k=w.heap.size) w5 ((w5.setCell (aD w.heap.size 0) (iV x)).setCell (aD w.heap.size 1) (iV y)):=Chg.trans (Chg.set w5 (aD w.heap.size 0) _) (Chg.set _ (aD w.heap.size 1) _) (fun _ _ x=>x);have h1:=hb.trans (h5.1.1.mono (by omega));refine⟨h1.trans (Chg.toBelow hcs (fun k _ e=>by omega) h1.size),.inr ⟨N,T,ps,w1.heap.size,bb,nv,tv,hr,hP,by omega, ?_⟩⟩;have h6:=h5.2;cases hbp:M.bnP ps with
 |bad er i=>
  rw[hbp]at h6;simp only[Ending.returned.injEq,Value.agg.injEq]at h6;show _=_;rw[h6]
 |ok f l2=>
  rw[hbp]at h6;obtain⟨h6,h7⟩:=h6;simp only[Ending.returned.injEq,Value.agg.injEq]at h6;obtain⟨av,ms,hs⟩:=h7.st;refine⟨by rw[h6],av,ms,hs.chg hcs (fun e=> ?_) (fun g hg e=> ?_) (fun g hg e=> ?_) (fun g hg e=> ?_)⟩
  · have:=hs.low;omega
  · have:=(hs.ar.lt g hg).1;omega
  · have:=(hs.tos.lt g hg).1;omega
  · have:=hs.ge g hg;omega
section
theorem C4d (s:ByteArray) (w:World) (hs:s.size<=maxLen):Calls Tryz.prog 25 #[.string s] w (RdB s.data.toList w):=by
 have HP:=A0 (fun w1=>Z5a s w1 hs);have hb0:=heap_alloc_new w (.cells #[iV 0,iV 0] 26);obtain⟨i0,hi,hz0,hz1,hz2⟩:=info_parts Tryz.infoInt;clear hs;go_enter Tryz.func25,Tryz.ntmps25;go_wp2_with fail
 refine(HP.out _).mono ?_;clear HP;rintro e w1 ⟨hbel,⟨er,p,hr,rfl⟩|⟨N,T,na,nc,ya,yc,hr,rfl,hN,hT⟩⟩
 · have f0:w1.heap[w.heap.size]? =some (.cells #[iV 0,iV 0] 26 (0,0)):=by
    rw[hbel.block _ (by simp)];exact hb0
   have g0:w1.cell? (aD w.heap.size 0)=some (iV 0):=cr f0 rfl;have g1:w1.cell? (aD w.heap.size 1)=some (iV 0):=cr f0 rfl;have gz:∀o,w1.frozen? (aD w.heap.size o)=false:=fun o=>frozen_of_row w1 _ o _ _ f0;have gl:=(ltG f0);have her:(er !=0)=true:=by simp[hr.1]
   have HBW:Hid (Below w.heap.size w w1):=(Chg.toBelow (Chg.alloc No w _) (fun _ _ x=>x.elim) (Nat.le_refl _)).trans (hbel.mono (by simp));have HRR:=A0 hr;clear hr hbel hb0 f0;go_wp2_with fail
   go_region
   all_goals go_wp2_with fail
   all_goals
    have hcS:Chg (fun k=>k=w.heap.size) w1 ((w1.setCell (aD w.heap.size 0) (iV er)).setCell (aD w.heap.size 1) (iV p)):=Chg.trans (Chg.set w1 (aD w.heap.size 0) _) (Chg.set _ (aD w.heap.size 1) _) (fun _ _ x=>x);have hR:RdB s.data.toList w (.returned (.tuple #[.pointer none,.agg #[iV er,iV p]])) _:=⟨HBW.out.trans (Chg.toBelow (Chg.trans hcS (C8 (C8 (Chg.alloc No _ (.cells #[sN,sN,iV 0] 46)) (Chg.alloc No _ (.cells #[iV er,iV p] 26))) (Chg.drewN No _ 1)) (fun _ _ x=>x.elim)) (fun k _ e=>by omega) HBW.out.size),.inl ⟨er,p,HRR.out,rfl⟩⟩;exact bodyPost_ret (v:= .tuple #[.pointer none,.agg #[iV er,iV p]]) (by simp[results,Tryz.results25,go_sem,g0,g1,gl]) rfl hR
 · obtain⟨ps,hP⟩:=M.P4b hr;have hNl:=hP.lenN;have W2:Hid (∃wz,wz=(((w1.alloc (.cells #[.slice na N.length nc,.slice ya T.length yc,iV ((N.length:Int) - 1)] 46)).alloc (.cells #[iV 0,iV 0] 26)).alloc (.cells #[.slice na N.length nc,sN,sN] 90)).alloc (.cells #[pV (w1.heap.size+1+1)] 85)):=⟨_,rfl⟩;have HPP:=A0 hP;have HNO:=A0 hN;have HBE:=A0 hbel;have HBW:Hid (Below w.heap.size w w1):=(Chg.toBelow (Chg.alloc No w _) (fun _ _ x=>x.elim) (Nat.le_refl _)).trans (hbel.mono (by simp));have HRR:=A0 hr;have f0:w1.heap[w.heap.size]? =some (.cells #[iV 0,iV 0] 26 (0,0)):=by
    rw[hbel.block _ (by simp)];exact hb0
   have F0:=A0 f0;have hwz:w.heap.size<w1.heap.size:=(ltG f0);have hc1:1<=N.length:=by have:=hP.cnt;omega
   clear hT hN hbel hr hP hb0 f0;go_wp2_with fail
   have BZ:Hid (Bmk ((((w1.alloc (.cells #[.slice na N.length nc,.slice ya T.length yc,iV ((N.length:Int) - 1)] 46)).alloc (.cells #[iV 0,iV 0] 26)).alloc (.cells #[.slice na N.length nc,sN,sN] 90)).alloc (.cells #[pV (w1.heap.size+1+1)] 85)) ((((w1.alloc (.cells #[.slice na N.length nc,.slice ya T.length yc,iV ((N.length:Int) - 1)] 46)).alloc (.cells #[iV 0,iV 0] 26)).alloc (.cells #[.slice na N.length nc,sN,sN] 90)).alloc (.cells #[pV (w1.heap.size+1+1)] 85)) w1.heap.size (w1.heap.size+1+1) (.slice na N.length nc) (sN) 0):=by
    refine⟨by omega, ?_,World.ownsRow_nil _ _ _ _,Chg.refl _ _⟩;rw[Below.heap_alloc _ _ _ (by simp)];have:=heap_alloc_new ((w1.alloc (.cells #[.slice na N.length nc,.slice ya T.length yc,iV ((N.length:Int) - 1)] 46)).alloc (.cells #[iV 0,iV 0] 26)) (.cells #[.slice na N.length nc,sN,sN] 90);simpa using this
   have q0:((((w1.alloc (.cells #[.slice na N.length nc,.slice ya T.length yc,iV ((N.length:Int) - 1)] 46)).alloc (.cells #[iV 0,iV 0] 26)).alloc (.cells #[.slice na N.length nc,sN,sN] 90)).alloc (.cells #[pV (w1.heap.size+1+1)] 85)).heap[w1.heap.size+1+1+1]? =some (.cells #[pV (w1.heap.size+1+1)] 85 (0,0)):=by
    have:=heap_alloc_new (((w1.alloc (.cells #[.slice na N.length nc,.slice ya T.length yc,iV ((N.length:Int) - 1)] 46)).alloc (.cells #[iV 0,iV 0] 26)).alloc (.cells #[.slice na N.length nc,sN,sN] 90)) (.cells #[pV (w1.heap.size+1+1)] 85);simpa using this
   have HBZ:Hid (Below w1.heap.size w1 ((((w1.alloc (.cells #[.slice na N.length nc,.slice ya T.length yc,iV ((N.length:Int) - 1)] 46)).alloc (.cells #[iV 0,iV 0] 26)).alloc (.cells #[.slice na N.length nc,sN,sN] 90)).alloc (.cells #[pV (w1.heap.size+1+1)] 85))):=Chg.toBelow (C8 (C8 (Chg.alloc No _ _) (Chg.alloc No _ _)) (C8 (Chg.alloc No _ _) (Chg.alloc No _ _))) (fun _ _ x=>x.elim) (Nat.le_refl _);have p0:((((w1.alloc (.cells #[.slice na N.length nc,.slice ya T.length yc,iV ((N.length:Int) - 1)] 46)).alloc (.cells #[iV 0,iV 0] 26)).alloc (.cells #[.slice na N.length nc,sN,sN] 90)).alloc (.cells #[pV (w1.heap.size+1+1)] 85)).heap[w1.heap.size]? =some (.cells #[.slice na N.length nc,.slice ya T.length yc,iV ((N.length:Int) - 1)] 46 (0,0)):=by
    rw[Below.heap_alloc _ _ _ (by simp;omega),Below.heap_alloc _ _ _ (by simp;omega),Below.heap_alloc _ _ _ (by simp)];exact heap_alloc_new w1 _
   clear W2;generalize ((((w1.alloc (.cells #[.slice na N.length nc,.slice ya T.length yc,iV ((N.length:Int) - 1)] 46)).alloc (.cells #[iV 0,iV 0] 26)).alloc (.cells #[.slice na N.length nc,sN,sN] 90)).alloc (.cells #[pV (w1.heap.size+1+1)] 85))=wz at *;have qbz:w1.heap.size+1+1+1<wz.heap.size:=(ltG q0);have QB:Hid (∀a tv j,Bmk wz a w1.heap.size (w1.heap.size+1+1) (.slice na N.length nc) tv j->a.cell? (aD (w1.heap.size+1+1+1) 0)=some (pV (w1.heap.size+1+1))/\a.cell? (aD (w1.heap.size+1+1) 2)=some tv/\(∀o,a.frozen? (aD (w1.heap.size+1+1) o)=false)/\w1.heap.size+1+1<a.heap.size/\w1.heap.size+1+1+1<a.heap.size):=fun a tv j h=>by
    have q1:=h.chg.block _ (ltG q0) (by omega);rw[q0]at q1;exact⟨cr q1 rfl,cr h.blk rfl,fun o=>frozen_of_row a _ o _ _ h.blk,(ltG h.blk),(ltG q1)⟩
   go_loopw [23] (fun v wr=>∃(j:Nat) (tv:Value),j<=N.length/\v=iV (j:Int)/\Hid (Bmk wz wr w1.heap.size (w1.heap.size+1+1) (.slice na N.length nc) tv j)) (fun v _=>N.length - (intOf v).toNat)
   case atStart=>exact⟨0,_,Nat.zero_le _,rfl,BZ⟩
   case round=>
    obtain⟨j,tv,hj,rfl,BM⟩:=hrel;obtain⟨qa,qc,qz,ql,ql3⟩:=QB.out _ _ _ BM.out;by_cases hjl:j<N.length
    · obtain⟨ad,c,rfl⟩:=B6 BM.out.tos;have HY:=A0 (A8 BM.out.tos (C8 (Chg.drewN No wr 1) (Chg.alloc No _ (.cells #[iV (-1)] 3))) (fun _ _ x=>x));have hcA:Chg No wr (wr.drew.alloc (.cells #[iV (-1)] 3)):=C8 (Chg.drewN No wr 1) (Chg.alloc No _ (.cells #[iV (-1)] 3));have HCA:=A0 hcA;have hne:(Value.slice ad j c).ownBlock≠some (w1.heap.size+1+1):=J7 BM.out.tos BM.out.blk (by decide);have hne3:(Value.slice ad j c).ownBlock≠some (w1.heap.size+1+1+1):=fun e=>by
       have:=(BM.out.tos.lt _ e).1;omega
      have hbz:wz.heap.size<=wr.heap.size:=BM.out.chg.size;clear hcA;go_wp2_with fail
      go_region_law (
       refine step_append_lies _ (by rfl) _ _ _ (by rfl) wz.heap.size 3 i0 (iV 0) 1 8 Tryz.underlying48 hi hz0 hz1 hz2 rfl (by omega) (.slice ad j c) j (C7 (List.replicate j (-1))) (by rfl) HY.out (aD wr.heap.size 0) 1 1 [iV (-1)] (by rfl) (by rfl) (World.news_of_block (cs:=#[iV (-1)]) (t:=3) (fr:=(0,0)) (heap_alloc_new wr.drew _)) (by simp[Value.oneCell']) (by omega) (by simp only[maxLen];omega) (by omega) (by simp;omega) (wr.heap.size+1) (by simp) ?_;intro gg cap w4 hown1 hgrow hat1 hlt1;have z4:w4.cell? (aD (w1.heap.size+1+1) 2)=some (.slice ad j c):=by rw[hgrow.cell_far _ (by simp;omega) (Ne.symm hne)];exact A4 HCA.out qc
       have z5:w4.cell? (aD (w1.heap.size+1+1+1) 0)=some (pV (w1.heap.size+1+1)):=by rw[hgrow.cell_far _ (by simp;omega) (Ne.symm hne3)];exact A4 HCA.out qa
       have y4:w4.frozen? (aD (w1.heap.size+1+1) 2)=false:=by rw[hgrow.frozen_far _ (by simp;omega) (Ne.symm hne)];exact P8 (w:=wr.drew) ql (qz 2))
      all_goals
       have HG:Hid (Bmk wz (w4.setCell (aD (w1.heap.size+1+1) 2) (.slice (some (aD gg 0)) (j+1) cap)) w1.heap.size (w1.heap.size+1+1) (.slice na N.length nc) (.slice (some (aD gg 0)) (j+1) cap) (j+1)):=BM.out.grow HCA.out (Chg.grown hgrow) hown1;clear hown1 hgrow hat1 HY;go_wp2;go_roundw
       case rel=>exact⟨j+1,_,by omega,by go_num,HG⟩
       case measure=>simp[intOf];omega
    · have hje:j=N.length:=by omega
      subst hje;have hNr:Nrow w1 (.slice na N.length nc) N:=by
       obtain⟨nx,h1,h2⟩:=HNO.out;exact⟨nx,C9 h1 (Nat.zero_le _),h2.imp (fun n xs h=>by obtain⟨lv,e,ho,_⟩:=h;exact⟨lv,e,ho,fun _ _=>trivial⟩)⟩
      have hB:=BM.out.done (w0:=w1) (Nat.le_refl _) (by omega) HBZ.out;have hcast:(N.length:Int) - 1=((N.length - 1:Nat):Int):=by omega
      have p1:wr.heap[w1.heap.size]? =some (.cells #[.slice na N.length nc,.slice ya T.length yc,iV ((N.length:Int) - 1)] 46 (0,0)):=by
       rw[BM.out.chg.block _ (ltG p0) (by omega)];exact p0
      have p2:wr.cell? (aD w1.heap.size 2)=some (iV ((N.length - 1:Nat):Int)):=by rw[<-hcast,cell_of_row _ _ 2 _ _ _ p1];rfl
      have q1:wr.heap[w1.heap.size+1+1+1]? =some (.cells #[pV (w1.heap.size+1+1)] 85 (0,0)):=by
       rw[BM.out.chg.block _ qbz (by omega)];exact q0
      have HF:Hid (∀a,Chg No wr a->Calls Tryz.prog 18 #[.func (.func 48) #[] #[pV (w1.heap.size+1+1+1),pV w1.heap.size]] a fun e w5=>∃x y,e= .returned (.agg #[iV x,iV y])/\w5.cell? (aD (w1.heap.size+1+1+1) 0)=some (pV (w1.heap.size+1+1))/\(w5.cell? (aD w.heap.size 0)=some (iV 0)/\w5.cell? (aD w.heap.size 1)=some (iV 0)/\(∀o,w5.frozen? (aD w.heap.size o)=false)/\w.heap.size<w5.heap.size)/\
       Hid (w5.heap[w.heap.size]? =some (.cells #[iV 0,iV 0] 26 (0,0))/\FaP w1 a w1.heap.size (w1.heap.size+1+1) (.slice na N.length nc) tv N 2400 (List.replicate N.length (-1)) (M.bnP ps) (.returned (.agg #[iV x,iV y])) w5)):=by
       intro a ha;refine(S3b (N.length - 1) a 2400 0 [] (List.replicate N.length (-1)) (M.bnP ps) (hB.kept ha) (fun a2 h2=>H5c (E5c hNr) hNr HPP.out (fun nd hm=>Nat.le_trans (HPP.out.tx nd hm) (by decide)) a2 _ ((hB.kept ha).kept h2) (by simp)) (w1.heap.size+1+1+1) w1.heap.size (A4 ha (cr q1 rfl)) (A4 ha p2)).mono ?_;rintro e w5 h5;have r0:w5.heap[w.heap.size]? =some (.cells #[iV 0,iV 0] 26 (0,0)):=by rw[h5.1.1.block _ hwz];exact F0.out
       have q5:=h5.1.2 _ _ _ (show a.heap[w1.heap.size+1+1+1]? =_ by rw[ha.block _ (ltG q1) id];exact q1) (by decide) (by decide);have hxy:∃x y,e= .returned (.agg #[iV x,iV y]):=by
        have h6:=h5.2;cases hbp:M.bnP ps with
        |bad er i=>rw[hbp]at h6;exact⟨_,_,h6⟩
        |ok f l=>rw[hbp]at h6;exact⟨_,_,h6.1⟩
       obtain⟨x,y,rfl⟩:=hxy;exact⟨x,y,rfl,cr q5 rfl,⟨cr r0 rfl,cr r0 rfl,fun o=>frozen_of_row _ _ o _ _ r0,(ltG r0)⟩,r0,h5⟩
      have hmf:=mkf;have qx:wr.cell? (aD (w1.heap.size+1+1+1) 0)=some (pV (w1.heap.size+1+1)):=cr q1 rfl;clear p0 p1 p2 q1 hB hNr hcast qc qz BZ QB BM;go_wp2_with fail
      go_region_with (go_at_call 18;refine(HF.out _ (Chg.drewN _ _ 1)).mono ?_;rintro e w5 ⟨x,y,rfl,cq,⟨r0,r1,rz,rl⟩,H5⟩)
      all_goals
       have hR:=A0 (C6d (HBW.out) hwz HRR.out HPP.out H5.out.2);have s1:=heap_setCell_same w5 w.heap.size 0 _ _ (iV x) H5.out.1;have s2:=heap_setCell_same _ w.heap.size 1 _ _ (iV y) s1;have z0:((w5.setCell (aD w.heap.size 0) (iV x)).setCell (aD w.heap.size 1) (iV y)).cell? (aD w.heap.size 0)=some (iV x):=cr s2 rfl;have z1:((w5.setCell (aD w.heap.size 0) (iV x)).setCell (aD w.heap.size 1) (iV y)).cell? (aD w.heap.size 1)=some (iV y):=cr s2 rfl;clear s1 s2;go_wp2_with fail
       exact bodyPost_ret (v:= .tuple #[pV (w1.heap.size+1+1),.agg #[iV x,iV y]]) (by simp[results,Tryz.results25,go_sem,z0,z1]) rfl hR.out
end
open Go.RowKit Go.Maps
def Q8 (ts:List Int):Nat->List (Int×Int)
 |0=>[]
 |j+1=>Q8 ts j++(if ts.getD j 0≠-1 then [((j:Int),ts.getD j 0)] else [])
theorem V8a (ts:List Int):∀j,(Q8 ts j).length<=j
 |0=>Nat.le_refl _
 |j+1=>by
  have:=V8a ts j;rw[Q8,List.length_append];split<;>simp<;>omega
def U1 (l:List (Int×Int)):List Value:=l.flatMap fun p=>[iV p.1,iV p.2]
theorem V7a (l:List (Int×Int)) (p:Int×Int):U1 (l++[p])=U1 l++[iV p.1,iV p.2]:=by simp[U1]
theorem M.Br.bad_and {r:M.Br} {k:List M.Fr->M.Br} {e:Int} {i:Nat} (h1:∀e i,r= .bad e i->e=5\/e=6) (h2:∀f e i,k f= .bad e i->e=5\/e=6) (h:r.and k= .bad e i):e=5\/e=6:=by
 cases r with
 |bad e' i'=>simp[M.Br.and]at h;exact h.1 ▸ h1 _ _ rfl
 |ok fs l=>
  rw[M.Br.and_ok]at h;cases hk:k fs with
  |bad e' i'=>rw[hk]at h;simp at h;exact h.1 ▸ h2 _ _ _ hk
  |ok f l=>rw[hk]at h;simp at h
mutual
theorem M.bnT_bad:∀(t:M.Nt) (fs:List M.Fr) (b:Nat) (e:Int) (i:Nat),M.bnT fs b t= .bad e i->e=5\/e=6
 | .ty _,fs,b,e,i,h=>by rw[M.bnT]at h;cases h
 | .nd k tx n ps,fs,b,e,i,h=>by
  rw[M.bnT]at h;split at h
  · split at h
    · simp at h;exact .inl h.1.symm
    · cases h
  split at h
  · split at h
    · simp at h;exact .inl h.1.symm
    · exact M.Br.bad_and (fun _ _ h=>by cases h) (fun f e i h=>M.bnL_badE ps false f b e i h) h
  split at h
  · split at h
    · simp at h;exact .inr h.1.symm
    · revert h;cases hb:M.bnL false (if M.M3c ps=true then M.H7 fs tx ((b+M.nNL ps:Nat):Int) else fs) b ps with
      |bad e' i'=>
       intro h;simp[M.Br.setF]at h;exact h.1 ▸ M.bnL_badE ps false _ b e' i' hb
      |ok f l=>intro h;simp[M.Br.setF]at h
  split at h
  · cases h
  split at h
  · revert h;cases hb:M.bnL true (fs++[M.Fr.no]) b ps with
    |bad e' i'=>
     intro h;simp[M.Br.pop]at h;exact h.1 ▸ M.bnL_badE ps true _ b e' i' hb
    |ok f l=>intro h;simp[M.Br.pop]at h
  split at h
  · revert h;cases hb:M.bnL false (fs++[M.Fr.no]) b ps with
    |bad e' i'=>
     intro h;simp[M.Br.pop]at h;exact h.1 ▸ M.bnL_badE ps false _ b e' i' hb
    |ok f l=>intro h;simp[M.Br.pop]at h
  · exact M.bnL_badE ps false fs b e i h
theorem M.bnL_badE:∀(ps:List M.Nt) (fn:Bool) (fs:List M.Fr) (b:Nat) (e:Int) (i:Nat),M.bnL fn fs b ps= .bad e i->e=5\/e=6
 |[],fn,fs,b,e,i,h=>by rw[M.bnL]at h;cases h
 | .ty o::r,fn,fs,b,e,i,h=>by
  rw[M.bnL]at h;exact M.bnL_badE r fn fs b e i h
 | .nd k tx n qs::r,fn,fs,b,e,i,h=>by
  rw[M.bnL]at h;refine M.Br.bad_and (fun e i h=> ?_) (fun f e i h=>M.bnL_badE r fn f _ e i h) h;split at h
  · exact M.bnL_badE qs false fs b e i h
  · exact M.bnT_bad (.nd k tx n qs) fs b e i h
end
def NmA (l:List UInt8) (w:World) (e:Ending) (w':World):Prop:=Below w.heap.size w w'/\
 ((∃er p,er≠0/\M.PRes l (.inl (er,p))/\e= .returned (.tuple #[sN,.agg #[iV er,iV p]]))\/
  ∃N T ps,M.PRes l (.inr (N,T))/\M.Prgm N T ps/\match M.bnP ps with
   | .bad er i=>er≠0/\e= .returned (.tuple #[sN,.agg #[iV er,iV (atI N i)]])
   | .ok _ l2=>∃ad c,e= .returned (.tuple #[.slice ad (Q8 (M.upd (List.replicate N.length (-1)) l2) N.length).length c,.agg #[iV 0,iV 0]])/\w'.ownsRow w.heap.size 62 2 (.slice ad (Q8 (M.upd (List.replicate N.length (-1)) l2) N.length).length c) (Q8 (M.upd (List.replicate N.length (-1)) l2) N.length).length (U1 (Q8 (M.upd (List.replicate N.length (-1)) l2) N.length)))
theorem Tryz.infoBo:(Tryz.prog.info? 62).map (fun i=>(i.zero,i.size,i.bytes))=some (some (.agg #[iV 0,iV 0]),2,16):=by kernel_rfl
theorem A8c (s:ByteArray) (w:World) (hs:s.size<=maxLen):Calls Tryz.prog 12 #[.string s] w (NmA s.data.toList w):=by
 have HR:=A0 (fun w1=>C4d s w1 hs);have hb0:=heap_alloc_new w (.cells #[iV 0,iV 0] 26);obtain⟨i0,hi,hz0,hz1,hz2⟩:=info_parts Tryz.infoBo;clear hs;go_enter Tryz.func12,Tryz.ntmps12;go_wp2_with fail
 refine(HR.out _).mono ?_;clear HR;rintro e w1 ⟨hbel,⟨er,p,hr,rfl⟩|⟨N,T,ps,B,bb,nv,tv,hr,hP,hB,hm⟩⟩
 · have f0:w1.heap[w.heap.size]? =some (.cells #[iV 0,iV 0] 26 (0,0)):=by
    rw[hbel.block _ (by simp)];exact hb0
   have g0:w1.cell? (aD w.heap.size 0)=some (iV 0):=cr f0 rfl;have g1:w1.cell? (aD w.heap.size 1)=some (iV 0):=cr f0 rfl;have gz:∀o,w1.frozen? (aD w.heap.size o)=false:=fun o=>frozen_of_row w1 _ o _ _ f0;have gl:=(ltG f0);have her:(er !=0)=true:=by simp[hr.1]
   have HBW:Hid (Below w.heap.size w w1):=(Chg.toBelow (Chg.alloc No w _) (fun _ _ x=>x.elim) (Nat.le_refl _)).trans (hbel.mono (by simp));have HRR:=A0 hr;clear hr hbel hb0 f0;go_wp2_with fail
   go_region
   all_goals go_wp2_with fail
   all_goals
    have hcS:Chg (fun k=>k=w.heap.size) w1 ((w1.setCell (aD w.heap.size 0) (iV er)).setCell (aD w.heap.size 1) (iV p)):=Chg.trans (Chg.set w1 (aD w.heap.size 0) _) (Chg.set _ (aD w.heap.size 1) _) (fun _ _ x=>x);have hR:NmA s.data.toList w (.returned (.tuple #[sN,.agg #[iV er,iV p]])) _:=⟨HBW.out.trans (Chg.toBelow (Chg.trans hcS (C8 (Chg.alloc No _ (.cells #[iV er,iV p] 26)) (Chg.drewN No _ 1)) (fun _ _ x=>x.elim)) (fun k _ e=>by omega) HBW.out.size),.inl ⟨er,p,HRR.out.1,HRR.out,rfl⟩⟩;exact bodyPost_ret (v:= .tuple #[sN,.agg #[iV er,iV p]]) (by simp[results,Tryz.results12,go_sem,g0,g1,gl]) rfl hR
 · cases hbp:M.bnP ps with
   |bad er ix=>
    rw[hbp]at hm;have e0:e= .returned (.tuple #[pV bb,.agg #[iV er,iV (atI N ix)]]):=hm;subst e0;have HER:Hid (er≠0):=by
     show er≠0;have:=M.bnT_bad (.nd 26 [] 0 ps) [] 0 er ix hbp;omega
    have HQN:Hid (∀w',Below w.heap.size w w'->NmA s.data.toList w (.returned (.tuple #[sN,.agg #[iV er,iV (atI N ix)]])) w'):=fun w' hw=>⟨hw,.inr ⟨N,T,ps,hr,hP,by rw[hbp];exact⟨HER.out,rfl⟩⟩⟩;clear hm hbp hP hr;generalize atI N ix=p at *;have f0:w1.heap[w.heap.size]? =some (.cells #[iV 0,iV 0] 26 (0,0)):=by
     rw[hbel.block _ (by simp)];exact hb0
    have g0:w1.cell? (aD w.heap.size 0)=some (iV 0):=cr f0 rfl;have g1:w1.cell? (aD w.heap.size 1)=some (iV 0):=cr f0 rfl;have gz:∀o,w1.frozen? (aD w.heap.size o)=false:=fun o=>frozen_of_row w1 _ o _ _ f0;have gl:=(ltG f0);have her:(er !=0)=true:=by simp[HER.out]
    have HBW:Hid (Below w.heap.size w w1):=(Chg.toBelow (Chg.alloc No w _) (fun _ _ x=>x.elim) (Nat.le_refl _)).trans (hbel.mono (by simp));clear hbel hb0 f0;go_wp2_with fail
    go_region
    all_goals go_wp2_with fail
    all_goals
     have hcS:Chg (fun k=>k=w.heap.size) w1 ((w1.setCell (aD w.heap.size 0) (iV er)).setCell (aD w.heap.size 1) (iV p)):=Chg.trans (Chg.set w1 (aD w.heap.size 0) _) (Chg.set _ (aD w.heap.size 1) _) (fun _ _ x=>x);have hR:=HQN.out _ (HBW.out.trans (Chg.toBelow (Chg.trans hcS (C8 (Chg.alloc No _ (.cells #[iV er,iV p] 26)) (Chg.drewN No _ 1)) (fun _ _ x=>x.elim)) (fun k _ e=>by omega) HBW.out.size));exact bodyPost_ret (v:= .tuple #[sN,.agg #[iV er,iV p]]) (by simp[results,Tryz.results12,go_sem,g0,g1,gl]) rfl hR
   |ok fs l2=>
    rw[hbp]at hm;obtain⟨e0,av,ms,hs⟩:=hm;subst e0;have f0:w1.heap[w.heap.size]? =some (.cells #[iV 0,iV 0] 26 (0,0)):=by
     rw[hbel.block _ (by simp)];exact hb0
    have gl:=(ltG f0);have HBW:Hid (Below w.heap.size w w1):=(Chg.toBelow (Chg.alloc No w _) (fun _ _ x=>x.elim) (Nat.le_refl _)).trans (hbel.mono (by simp));generalize htss:M.upd (List.replicate N.length (-1)) l2=ts at *;have htl:ts.length=N.length:=by rw[<-htss];simp[M.J9a]
    have HLN:Hid (ts.length<=100000):=by
     show ts.length<=100000;have:=hP.lenN;omega
    have HQN:Hid (∀w' ad c,Below w.heap.size w w'->w'.ownsRow w.heap.size 62 2 (.slice ad (Q8 ts ts.length).length c) (Q8 ts ts.length).length (U1 (Q8 ts ts.length))->NmA s.data.toList w (.returned (.tuple #[.slice ad (Q8 ts ts.length).length c,.agg #[iV 0,iV 0]])) w'):=fun w' ad c hw ho=>⟨hw,.inr ⟨N,T,ps,hr,hP,by
     rw[hbp];show∃ad c,_;rw[htss,<-htl];exact⟨ad,c,rfl,ho⟩⟩⟩
    obtain⟨ta,tc,htv⟩:=B6 hs.tos;subst htv;have c2:w1.cell? (aD bb 2)=some (.slice ta ts.length tc):=cr hs.blk rfl;have lbb:=blt c2;simp only at lbb;have HTO:=A0 (C9 hs.tos (Nat.zero_le _));have HF0:=A0 f0;clear hs hbel hb0 f0 hbp htss hP hr;have C1:=A0 (Chg.alloc No w1 (.cells #[iV 0,iV 0] 26));have hts2:ts.length<=100000:=HLN.out;clear htl HLN hB;go_wp2_with fail
    go_loopw [23,6] (fun v u wr=>∃(j:Nat) (ad:Option Addr) (ac:Nat),j<=ts.length/\v=iV (j:Int)/\u= .slice ad (Q8 ts j).length ac/\Hid (Chg No w1 wr)/\Hid (wr.ownsRow w1.heap.size 62 2 (.slice ad (Q8 ts j).length ac) (Q8 ts j).length (U1 (Q8 ts j)))) (fun v _ _=>ts.length - (intOf v).toNat)
    case atStart=>exact⟨0,none,0,Nat.zero_le _,rfl,rfl,C1.out,World.ownsRow_nil _ _ _ _⟩
    case round=>
     obtain⟨j,ad,ac,hj,rfl,rfl,CR,OR⟩:=hrel;have hwr:w1.heap.size<=wr.heap.size:=CR.out.size;by_cases hjl:j<ts.length
     · obtain⟨g2,hla,hg2,hl1,hl2,v0⟩:=D7 (A8 HTO.out CR.out (fun _ _ x=>x)) hjl;subst hla;have hgd:ts.getD j 0=ts[j]:=by rw[List.getD_eq_getElem?_getD,List.getElem?_eq_getElem hjl];rfl
       have hbl:=V8a ts j;have HBN:Hid (Q8 ts (j+1)=Q8 ts j++if ts[j]≠-1 then [((j:Int),ts[j])] else []):=by
        show _=_;rw[Q8,hgd]
       unfold maxLen at hl2;clear hgd;generalize ts[j]=tj at *;obtain⟨bj,hbj⟩:∃bj,Q8 ts j=bj:=⟨_,rfl⟩;rw[hbj]at OR HBN hbl⊢;clear hbj;by_cases ht:tj= -1
       · subst ht;have HBN':Hid (Q8 ts (j+1)=bj):=by
          show _=_;rw[HBN.out];simp
         clear HBN;go_wp2_with fail
         go_roundw
         case rel=>exact⟨j+1,ad,ac,by omega,by go_num,by rw[HBN'.out],CR,by rw[HBN'.out];exact OR⟩
         case measure=>simp[intOf];omega
       · have HBN':Hid (Q8 ts (j+1)=bj++[((j:Int),tj)]):=by
          show _=_;rw[HBN.out,if_pos ht]
         have gt:(tj != -1)=true:=by simpa using ht
         have HO4:=A0 (OR.out.alloc (.cells #[iV (j:Int),iV tj] 62));clear HBN ht;go_wp2_with (at_builtin;refine wpList_append_own _ rfl _ _ 55 rfl w1.heap.size 62 i0 (.agg #[iV 0,iV 0]) 2 16 Tryz.underlying55 hi hz0 hz1 hz2 rfl (by decide) _ _ _ rfl HO4.out (aD wr.heap.size 0) 1 1 [iV (j:Int),iV tj] rfl rfl ?c1 ?c2 ?c3 ?c4 ?c5 ?_)
         case c1=>exact World.news_of_block (cs:=#[iV (j:Int),iV tj]) (t:=62) (fr:=(0,0)) (heap_alloc_new wr _)
         case c2=>intro u hu;simp at hu;rcases hu with rfl|rfl<;>rfl
         case c3=>simp only[maxLen];omega
         case c4=>omega
         case c5=>simp;omega
         intro v' w4 hown4 hg4 _;obtain⟨ad4,c4,rfl⟩:=B6 hown4;have HOW:=A0 hown4;have hcb:Chg (fun k=>w1.heap.size<=k) wr w4:=(Chg.alloc (fun k=>w1.heap.size<=k) wr (.cells #[iV (j:Int),iV tj] 62)).trans (Chg.grown hg4) (fun k hk x=>(A9 HO4.out k x.symm).1);have HC4:Hid (Chg No w1 w4):=((CR.out.mono (S':=fun k=>w1.heap.size<=k) (fun _ _ x=>x.elim)).trans hcb (fun _ _ x=>x)).mono (fun k hk x=>by omega);clear hown4 hg4 hcb;go_wp2_with fail
         go_roundw
         case rel=>exact⟨j+1,ad4,c4,by omega,by go_num,by rw[HBN'.out,List.length_append,List.length_singleton],HC4,(show World.ownsRow _ _ _ _ _ _ _ from by rw[HBN'.out,V7a,List.length_append,List.length_singleton];exact HOW.out)⟩
         case measure=>simp[intOf];omega
     · have hje:j=ts.length:=by omega
       subst hje;have f1:wr.heap[w.heap.size]? =some (.cells #[iV 0,iV 0] 26 (0,0)):=by
        rw[CR.out.block _ gl (fun x=>x)];exact HF0.out
       have g0:wr.cell? (aD w.heap.size 0)=some (iV 0):=cr f1 rfl;have g1:wr.cell? (aD w.heap.size 1)=some (iV 0):=cr f1 rfl;have gz:∀o,wr.frozen? (aD w.heap.size o)=false:=fun o=>frozen_of_row wr _ o _ _ f1;have gl2:=(ltG f1);have hcS:Chg (fun k=>k=w.heap.size) wr ((wr.setCell (aD w.heap.size 0) (iV 0)).setCell (aD w.heap.size 1) (iV 0)):=Chg.trans (Chg.set wr (aD w.heap.size 0) _) (Chg.set _ (aD w.heap.size 1) _) (fun _ _ x=>x);have HR:=A0 (HQN.out _ ad ac ((HBW.out.trans (Chg.toBelow CR.out (fun _ _ x=>x.elim) HBW.out.size)).trans (Chg.toBelow hcS (fun k _ x=>by omega) (by omega))) (A8 (C9 OR.out (by omega)) hcS (fun g hg x=>by have:=(OR.out.lt g hg).1;omega)));clear hcS f1 HQN;generalize (Q8 ts ts.length).length=bl at *;go_wp2_with fail
       exact bodyPost_ret (v:= .tuple #[.slice ad bl ac,.agg #[iV 0,iV 0]]) (by simp[results,Tryz.results12,go_sem,g0,g1]) rfl HR.out
def asg (l:List (Int×Int)):Int->Option Int:=l.foldl (fun f p=>fun x=>if x=p.1 then some p.2 else f x) (fun _=>none)
theorem M9b (l:List (Int×Int)) (p:Int×Int):asg (l++[p])=fun x=>if x=p.1 then some p.2 else asg l x:=by
 unfold asg;rw[List.foldl_append];rfl
theorem W0a (ts:List Int):∀j:Nat,asg (Q8 ts j)=fun x=>if 0<=x/\x<(j:Int)/\ts.getD x.toNat 0≠-1 then some (ts.getD x.toNat 0) else none
 |0=>by
  funext x
  rw[if_neg (by omega)];rfl
 |j+1=>by
  funext x
  rw[Q8];by_cases ht:ts.getD j 0≠-1
  · rw[if_pos ht,M9b,W0a ts j];by_cases hx:x=(j:Int)
    · subst hx;simp only;rw[if_pos trivial,if_pos ⟨by omega,by omega,by rw[Int.toNat_natCast];exact ht⟩,Int.toNat_natCast]
    · simp only;rw[if_neg hx];by_cases hc:0<=x/\x<(j:Int)/\ts.getD x.toNat 0≠-1
      · rw[if_pos hc,if_pos ⟨hc.1,by omega,hc.2.2⟩]
      · rw[if_neg hc,if_neg (fun h=>hc ⟨h.1,by omega,h.2.2⟩)]
  · rw[if_neg ht,List.append_nil,W0a ts j];simp only;by_cases hc:0<=x/\x<(j:Int)/\ts.getD x.toNat 0≠-1
    · rw[if_pos hc,if_pos ⟨hc.1,by omega,hc.2.2⟩]
    · rw[if_neg hc,if_neg (fun h=>hc ⟨h.1,by
       by_cases hx:x=(j:Int)
       · subst hx;rw[Int.toNat_natCast]at h;exact absurd h.2.2 ht
       · omega,h.2.2⟩)]
theorem H5d (c:M.Cx):asg (Q8 c.ts c.N.length)=nmM c:=by
 rw[W0a];rfl
theorem M3b (ts:List Int):∀(n:Nat) (p:Int×Int),p∈Q8 ts n->∃j:Nat,j<n/\p=((j:Int),ts.getD j 0)/\ts.getD j 0≠-1
 |0,p,h=>by simp[Q8]at h
 |n+1,p,h=>by
  rw[Q8,List.mem_append]at h;rcases h with h|h
  · obtain⟨j,h1,h2⟩:=M3b ts n p h;exact⟨j,by omega,h2⟩
  · by_cases ht:ts.getD n 0≠-1
    · rw[if_pos ht]at h;simp only[List.mem_singleton]at h;exact⟨n,by omega,h,ht⟩
    · rw[if_neg ht]at h;simp at h
theorem S7a {N:List M.Nd} {T:List M.Ty} {ps qs:List M.Nt} (h:M.Prgm N T ps) (k:M.Prgm N T qs):ps=qs:=by
 obtain⟨hl,h2⟩:=h.main;obtain⟨_,k2⟩:=k.main;exact M.S7c (fun p hp=>⟨M.A2b p (h.wn p hp).1,(h.wn p hp).2⟩) (fun p hp=>⟨M.A2b p (k.wn p hp).1,(k.wn p hp).2⟩) h2 k2
theorem X6b (c:M.Cx):∀(j:Nat) {e:Int} {i:Nat},M.R5 c j= .inl (e,i)->e≠0
 |0,e,i,h=>by simp[M.R5]at h
 |j+1,e,i,h=>by
  rw[M.R5]at h;cases hr:M.R5 c j with
  |inl p=>
   obtain⟨e',i'⟩:=p;rw[hr]at h;simp only[M.ckS,Sum.inl.injEq,Prod.mk.injEq]at h;have:=X6b c j hr;omega
  |inr of=>
   rw[hr]at h;simp only[M.ckS]at h;cases hk:M.ckN c of j with
   |inr o=>rw[hk]at h;cases o<;>simp at h
   |inl e'=>
    rw[hk]at h;simp only[Sum.inl.injEq,Prod.mk.injEq]at h;obtain⟨rfl,_⟩:=h;unfold M.ckN at hk;simp only at hk;split at hk
    · split at hk
      · simp only[Sum.inl.injEq]at hk;omega
      · split at hk
        · simp only[Sum.inl.injEq]at hk;omega
        · simp at hk
    · split at hk
      · simp only[Sum.inl.injEq]at hk;omega
      · split at hk
        · simp at hk
        · simp only[Sum.inl.injEq]at hk;omega
theorem G5d {c:M.Cx} {e:Int} {i:Nat} (h:M.ckP c= .inl (e,i)):e≠0:=X6b c _ h
def FtO (l:List UInt8) (er p:Int):Prop:=er≠0/\(M.PRes l (.inl (er,p))\/∃N T ps,M.PRes l (.inr (N,T))/\M.Prgm N T ps/\
 ((∃i,M.bnP ps= .bad er i/\p=atI N i)\/∃fs l2 i,M.bnP ps= .ok fs l2/\M.ckP (M.cxP N T l2)= .inl (er,i)/\p=atI N i))
def Okd (l:List UInt8) (N:List M.Nd) (T:List M.Ty) (l2:List (Nat×Int)) (of:M.Of):Prop:=
 ∃ps fs,M.PRes l (.inr (N,T))/\M.Prgm N T ps/\M.bnP ps= .ok fs l2/\M.ckP (M.cxP N T l2)= .inr of
section
variable {l:List UInt8} {er p er' p':Int} {N N':List M.Nd} {T T':List M.Ty} {l2 l2':List (Nat×Int)} {of of':M.Of}
theorem FtO.one (h:FtO l er p) (k:FtO l er' p'):er=er'/\p=p':=by
 obtain⟨_,h⟩:=h;obtain⟨_,k⟩:=k;rcases h with h|⟨N,T,ps,h1,h2,h3⟩
 · rcases k with k|⟨N',T',qs,k1,_⟩
   · have:=h.one k;simpa using this
   · have:=h.one k1;simp at this
 · rcases k with k|⟨N',T',qs,k1,k2,k3⟩
   · have:=k.one h1;simp at this
   · have e1:=h1.one k1;simp only[Sum.inr.injEq,Prod.mk.injEq]at e1;obtain⟨rfl,rfl⟩:=e1;obtain rfl:=S7a h2 k2;rcases h3 with ⟨i,a1,rfl⟩|⟨fs,l2,i,a1,a2,rfl⟩
     · rcases k3 with ⟨j,b1,rfl⟩|⟨gs,l3,j,b1,b2,rfl⟩
       · rw[a1]at b1;simp only[M.Br.bad.injEq]at b1;obtain⟨rfl,rfl⟩:=b1;exact⟨rfl,rfl⟩
       · rw[a1]at b1;simp at b1
     · rcases k3 with ⟨j,b1,rfl⟩|⟨gs,l3,j,b1,b2,rfl⟩
       · rw[a1]at b1;simp at b1
       · rw[a1]at b1;simp only[M.Br.ok.injEq]at b1;obtain⟨rfl,rfl⟩:=b1;rw[a2]at b2;simp only[Sum.inl.injEq,Prod.mk.injEq]at b2;obtain⟨rfl,rfl⟩:=b2;exact⟨rfl,rfl⟩
theorem Okd.not (h:Okd l N T l2 of):¬FtO l er p:=by
 rintro⟨_,k⟩;obtain⟨ps,fs,h1,h2,h3,h4⟩:=h;rcases k with k|⟨N',T',qs,k1,k2,k3⟩
 · have:=k.one h1;simp at this
 · have e1:=h1.one k1;simp only[Sum.inr.injEq,Prod.mk.injEq]at e1;obtain⟨rfl,rfl⟩:=e1;obtain rfl:=S7a h2 k2;rcases k3 with ⟨i,a1,rfl⟩|⟨gs,l3,i,a1,a2,rfl⟩
   · rw[a1]at h3;simp at h3
   · rw[a1]at h3;simp only[M.Br.ok.injEq]at h3;obtain⟨rfl,rfl⟩:=h3;rw[h4]at a2;simp at a2
theorem Okd.one (h:Okd l N T l2 of) (k:Okd l N' T' l2' of'):N=N'/\T=T'/\l2=l2'/\of=of':=by
 obtain⟨ps,fs,h1,h2,h3,h4⟩:=h;obtain⟨qs,gs,k1,k2,k3,k4⟩:=k;have e1:=h1.one k1;simp only[Sum.inr.injEq,Prod.mk.injEq]at e1;obtain⟨rfl,rfl⟩:=e1;obtain rfl:=S7a h2 k2;rw[h3]at k3;simp only[M.Br.ok.injEq]at k3;obtain⟨rfl,rfl⟩:=k3;rw[h4]at k4;simp only[Sum.inr.injEq]at k4;exact⟨rfl,rfl,rfl,k4⟩
end
end Go.Proofs.YtgdnpemiiageaaaGreatDoor
