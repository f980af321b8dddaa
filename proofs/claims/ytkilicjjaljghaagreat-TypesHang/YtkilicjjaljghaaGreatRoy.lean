/-
  The reference's reader: oneType, over readType; both closed.
-/
import Derived.Test.YtkilicjjaljghaaGreatRty
namespace Go.Proofs.YtkilicjjaljghaaGreat
open Go.RowKit

section
variable {B rb : Nat} {tv : Value} {L : List M.Tk}

theorem isM_text {i : Nat} {m : List UInt8} (h : M.isM L i [m] = true) : ((M.tk L i).kind = 2 ∨ (M.tk L i).kind = 5) ∧ (M.tk L i).text = m := by
  unfold M.isM at h
  simp [M.has] at h
  exact ⟨h.1.symm, h.2⟩
theorem isM_other {i : Nat} {m m' : List UInt8} (h : M.isM L i [m] = true) (hm : m ≠ m') : M.isM L i [m'] = false := by
  obtain ⟨-, h2⟩ := isM_text h
  unfold M.isM
  rw [h2]
  simp [M.has, hm]

set_option maxHeartbeats 8000000 in
set_option maxRecDepth 100000 in
theorem oneType_step (hL : LOk L) {f : Nat} (hT : ∀ g, g < f → ∀ d s s' x, (M.sp' L g).typ d s = some (.ok s' x) → ReadC B rb tv L 38 d s s') {d : Nat} {s s' : M.St} {x : Int} (h : (M.sp' L f).member d s = some (.ok s' x)) : ReadC B rb tv L 60 d s s' := by
  intro w hB hR
  obtain ⟨f1, hf1, hcase⟩ := M.member_inv h
  have hs := hL.short
  have hi := hR.at'
  have hfew := hR.few
  have HTG := hide hT
  have FS : Hid (∀ a, Chg (fun _ => False) w a → Rst a B rb tv L d s) := fun a ha => hR.still ha
  have FE : Hid (∀ a m, Chg (fun _ => False) w a → Calls Tryz.prog 61 #[.pointer (some ⟨rb, 0, none⟩), .string ⟨m.toArray⟩] a fun e w' => e = .returned (.bool (M.isM L s.i [m])) ∧ RKept B a w' ∧ Rst w' B rb tv L d (if M.isM L s.i [m] then s.nx else s)) := fun a m ha => reat_any hL (hR.still ha) m
  have R0 := hide (fun hi1 => hR.store 1 (.int .i64 ((s.i : Int) + 1)) (s.i + 1) d hi1 (by omega) (fun _ _ _ => by simp))
  obtain ⟨tg, tc, rfl, hc1, hc2, hg, hlt, c0, c1, c2, c6, c7, fz, hcell⟩ := hR.cell
  have fz1 := fz 1
  obtain ⟨x0, x1, x2⟩ := tk_cells hi hcell
  unfold maxLen at hc2
  clear hR hcell fz hT h
  obtain ⟨i0, hi0, hz0, hz1, hz2⟩ := info_parts Tryz.infoInt
  obtain ⟨j0, hj0, hy0, hy1, hy2⟩ := info_parts Tryz.infoField
  obtain ⟨k0, hk0, hx0, hx1, hx2⟩ := info_parts Tryz.infoStr
  have hnx1 : (M.tk L s.i).kind ≠ 6 → s.i + 1 < L.length := by
    intro hk
    have h1 := (hL.last s.i hi).2
    by_cases h2 : s.i + 1 = L.length
    · exact absurd (h1 h2) hk
    · omega
  have htx := fun m => isM_text (L := L) (i := s.i) (m := m)
  have hot := fun m m' => isM_other (L := L) (i := s.i) (m := m) (m' := m')
  have HPK := hide (fun x a => rplain_any x a)
  rcases hcase with ⟨hqa, hobj⟩ | ⟨hqn, hqb, s1, y1, htyp, hqe, hse⟩ | ⟨hqn1, hqn2, hqc, hfob⟩ | ⟨hk2, hpk, hse⟩
  · have hk := htx [123] hqa
    have hnk : s.i + 1 < L.length := hnx1 (by rcases hk.1 with e | e <;> rw [e] <;> decide)
    generalize M.tk L s.i = tk at *
    obtain ⟨kd, tx, pl⟩ := tk
    simp only at x0 x1 x2 hk
    obtain ⟨hkd, rfl⟩ := hk
    rcases hkd with hkd | hkd
    · subst hkd
      go_enter Tryz.func60, Tryz.ntmps60
      go_wp2
      go_region
      have HCH : Hid (Chg (fun _ => False) w ((w.alloc (.cells #[.int .i64 2, .string ⟨#[123]⟩, .int .i64 (pl : Int)] 80)).drew)) := (Chg.alloc (fun _ => False) _ _).trans (Chg.drewN (fun _ => False) _ 1) (fun _ _ x => x)
      have HP1 := hide (HPK.out [123] ((w.alloc (.cells #[.int .i64 2, .string ⟨#[123]⟩, .int .i64 (pl : Int)] 80)).drew))
      have ep : M.plainKind [123] = 0 := by decide
      rw [ep] at HP1
      go_wp2_with fail
      refine HP1.out.mono ?_
      rintro e u0 ⟨rfl, hu0⟩
      have HCU := hide (HCH.out.trans hu0 (fun _ _ x => x))
      clear hu0 HP1 HCH
      have HE1 := hide (FE.out u0 [91] HCU.out)
      rw [hot [123] [91] hqa (by decide)] at HE1
      go_wp2_with fail
      refine HE1.out.mono ?_
      rintro e w1 ⟨rfl, k1, r1⟩
      have K1 := hide ((RKept.still HCU.out).trans k1)
      have r1' : Rst w1 B rb (.slice (some ⟨tg, 0, none⟩) L.length tc) L d s := r1
      have HE2 := hide (reat_any hL r1' [123])
      rw [hqa] at HE2
      clear k1 r1 r1' HE1
      go_wp2_with fail
      refine HE2.out.mono ?_
      rintro e w2 ⟨rfl, k2, r2⟩
      have K2 := hide (K1.out.trans k2)
      have R2 : Hid (Rst w2 B rb (.slice (some ⟨tg, 0, none⟩) L.length tc) L d s.nx) := r2
      clear k2 r2 HE2 K1
      go_wp2_with fail
      go_loopw [5, 6] (fun u v wr => ∃ (fs : List (List UInt8 × Int)) (sc : M.St) (fa ma : Option Addr) (fc mc : Nat) (xs : List Value), u = .slice fa fs.length fc ∧ v = .slice ma fs.length mc ∧ fs.length ≤ sc.i ∧ Hid (RKept B w wr) ∧ Hid (wr.ownsRow w.heap.size 55 2 (.slice fa fs.length fc) fs.length xs) ∧ Hid (wr.ownsRow w.heap.size 9 1 (.slice ma fs.length mc) fs.length (svals (fs.map (·.1)))) ∧ Hid (Rst wr B rb (.slice (some ⟨tg, 0, none⟩) L.length tc) L d sc) ∧
          Hid (∃ h, h ≤ f1 ∧ (M.sp' L h).objL d sc fs = some (.ok s' x))) (fun _ _ wr => L.length - nxt wr rb)
      case atStart => exact ⟨[], s.nx, none, none, 0, 0, [], rfl, rfl, by simp, K2.out, World.ownsRow_nil _ _ _ _, World.ownsRow_nil _ _ _ _, R2.out, f1, Nat.le_refl _, hobj⟩
      case round =>
        clear K2 R2
        obtain ⟨fs, sc, fa, ma, fc, mc, xs, rfl, rfl, hfl, KR, FR, MR, RR, h1, hh1, hob⟩ := hrel
        have hnx := RR.out.nxt
        have hic := RR.out.at'
        have hfc := RR.out.few
        have HE3 := hide (reat_any hL RR.out [125])
        have hst := M.objL_step hob
        generalize M.isM L sc.i [[125]] = q at *
        go_wp2_with fail
        refine HE3.out.mono ?_
        rintro e w3 ⟨rfl, k3, r3⟩
        have K3 := hide (KR.out.trans k3)
        have F3 := hide (k3.own FR.out (by decide))
        have M3 := hide (k3.own MR.out (by decide))
        have R3 := hide r3
        clear k3 r3 KR FR MR RR HE3
        cases q
        · rcases hst with ⟨hx, -⟩ | ⟨-, g2, s3, y3, hg2, hk1, hhas, hcol, htyp, hsem, hob2⟩
          case inl => exact absurd hx (by decide)
          have R4 : Hid (Rst w3 B rb (.slice (some ⟨tg, 0, none⟩) L.length tc) L d sc) := R3.out
          clear R3
          have hgr := (M.gF L g2).typ _ _ _ _ htyp
          have HB1 := hide (rbad_any R4.out)
          have ml : (fs.map (·.1)).length = fs.length := by simp
          have HI1 := hide (rident_any hL R4.out hk1 ma mc (fs.map (·.1)) (by rw [ml]; omega) (by rw [ml]; exact owns_base M3.out (Nat.zero_le _)) hhas)
          rw [ml] at HI1
          generalize (M.tk L sc.i).text = nm at *
          go_wp2_with fail
          refine HB1.out.mono ?_
          rintro e w4 ⟨rfl, rfl⟩
          go_wp2_with fail
          refine HI1.out.mono ?_
          rintro e w4 ⟨rfl, k4, r4⟩
          have K4 := hide (K3.out.trans k4)
          have F4 := hide (k4.own F3.out (by decide))
          have M4 := hide ((k4.own M3.out (by decide)).alloc (.cells #[.string ⟨nm.toArray⟩] 9))
          have R5 := hide (r4.still (Chg.alloc (fun _ => False) w4 (.cells #[.string ⟨nm.toArray⟩] 9)))
          clear k4 r4 HB1 HI1 F3 M3 K3 R4
          go_wp2_with (at_builtin; refine wpList_append_own _ rfl _ _ 33 rfl w.heap.size 9 k0 (.string ⟨#[]⟩) 1 16 Tryz.underlying33 hk0 hx0 hx1 hx2 rfl (by decide) _ _ _ rfl M4.out ⟨w4.heap.size, 0, none⟩ 1 1 [.string ⟨nm.toArray⟩] rfl rfl ?c1 ?c2 ?c3 ?c4 ?c5 ?_)
          case c1 => exact cell_one_new _ _ _
          case c2 => intro u hu; simp at hu; rcases hu with rfl; rfl
          case c3 => simp only [maxLen]; omega
          case c4 => omega
          case c5 => have := K4.out.size; simp; omega
          intro v' w5 hown5 hg5 _
          have R6 := hide (R5.out.grown M4.out (by decide) hg5)
          have F5 : Hid (w5.ownsRow w.heap.size 55 2 (.slice fa fs.length fc) fs.length xs) := owns_chg (F4.out.alloc _) (Chg.grown hg5) (fun k hk hx => by
            obtain ⟨_, cur, hh⟩ := owns_tag (F4.out.alloc (.cells #[.string ⟨nm.toArray⟩] 9)) k hk
            obtain ⟨_, cur2, hh2⟩ := owns_tag M4.out k hx.symm
            rw [hh] at hh2
            simp only [Option.some.injEq, Obj.cells.injEq] at hh2
            exact absurd hh2.2.1 (by decide))
          have K5 := hide ((K4.out.trans (RKept.still (Chg.alloc (fun _ => False) w4 (.cells #[.string ⟨nm.toArray⟩] 9)))).grown M4.out hg5)
          have e5 : svals (fs.map (·.1)) ++ [.string ⟨nm.toArray⟩] = svals ((fs ++ [(nm, y3)]).map (·.1)) := by simp [svals]
          rw [e5] at hown5
          obtain ⟨ma5, mc5, rfl⟩ := owns_form hown5
          have M5 := hide hown5
          clear hown5 hg5 M4 R5 K4 F4
          have HM1 := hide (rmust_any hL R6.out [58] hcol)
          clear R6
          go_wp2_with fail
          refine HM1.out.mono ?_
          rintro e w6 ⟨rfl, k6, r6⟩
          have K6 := hide (K5.out.trans k6)
          have F6 := hide (k6.own F5.out (by decide))
          have M6 := hide (k6.own M5.out (by decide))
          have HT1 := hide (HTG.out g2 (by omega) _ _ _ _ htyp w6 (Nat.le_trans hB K6.out.size) r6)
          clear k6 r6 HM1 K5 F5 M5
          go_wp2_with fail
          refine HT1.out.mono ?_
          rintro e w7 ⟨⟨z7, rfl⟩, k7, r7⟩
          have K7 := hide (K6.out.trans k7)
          have F7 := hide (k7.own F6.out (by decide))
          have M7 := hide (k7.own M6.out (by decide))
          have HM2 := hide (rmust_any hL r7 [59] hsem)
          clear k7 r7 HT1 K6 F6 M6
          go_wp2_with fail
          refine HM2.out.mono ?_
          rintro e w8 ⟨rfl, k8, r8⟩
          have K8 := hide (K7.out.trans k8)
          have F8 := hide ((k8.own F7.out (by decide)).alloc (.cells #[.string ⟨nm.toArray⟩, .int .i64 z7] 55))
          have M8 := hide ((k8.own M7.out (by decide)).alloc (.cells #[.string ⟨nm.toArray⟩, .int .i64 z7] 55))
          have R8 := hide (r8.still (Chg.alloc (fun _ => False) w8 (.cells #[.string ⟨nm.toArray⟩, .int .i64 z7] 55)))
          have hi8 := r8.at'
          clear k8 r8 HM2 K7 F7 M7
          go_wp2_with (at_builtin; refine wpList_append_own _ rfl _ _ 50 rfl w.heap.size 55 j0 (.agg #[.string ⟨#[]⟩, .int .i64 0]) 2 24 Tryz.underlying50 hj0 hy0 hy1 hy2 rfl (by decide) _ _ _ rfl F8.out ⟨w8.heap.size, 0, none⟩ 1 1 [.string ⟨nm.toArray⟩, .int .i64 z7] rfl rfl ?c1 ?c2 ?c3 ?c4 ?c5 ?_)
          case c1 => exact cell_two_new _ _ _ _
          case c2 => intro u hu; simp at hu; rcases hu with rfl | rfl <;> rfl
          case c3 => simp only [maxLen]; omega
          case c4 => omega
          case c5 => have := K8.out.size; simp; omega
          intro v' w9 hown9 hg9 _
          have R9 := hide (R8.out.grown F8.out (by decide) hg9)
          have M9 : Hid (w9.ownsRow w.heap.size 9 1 (.slice ma5 (fs.length + 1) mc5) (fs.length + 1) (svals ((fs ++ [(nm, y3)]).map (·.1)))) := owns_chg M8.out (Chg.grown hg9) (fun k hk hx => by
            obtain ⟨_, cur, hh⟩ := owns_tag M8.out k hk
            obtain ⟨_, cur2, hh2⟩ := owns_tag F8.out k hx.symm
            rw [hh] at hh2
            simp only [Option.some.injEq, Obj.cells.injEq] at hh2
            exact absurd hh2.2.1 (by decide))
          have K9 := hide ((K8.out.trans (RKept.still (Chg.alloc (fun _ => False) w8 (.cells #[.string ⟨nm.toArray⟩, .int .i64 z7] 55)))).grown F8.out hg9)
          obtain ⟨fa9, fc9, rfl⟩ := owns_form hown9
          have F9 := hide hown9
          clear hown9 hg9 F8 M8 R8 K8
          go_wp2
          go_roundw
          case rel =>
            have h3 := hgr.1
            simp only [M.St.nx] at h3
            have el : (fs ++ [(nm, y3)]).length = fs.length + 1 := by simp
            refine ⟨fs ++ [(nm, y3)], s3.nx, fa9, ma5, fc9, mc5, xs ++ [.string ⟨nm.toArray⟩, .int .i64 z7], by rw [el], by rw [el], by rw [el]; simp only [M.St.nx]; omega, K9.out, ?_, ?_, R9.out, g2, by omega, hob2⟩
            · show World.ownsRow _ _ _ _ _ _ _
              rw [el]
              exact F9.out
            · show World.ownsRow _ _ _ _ _ _ _
              rw [el]
              exact M9.out
          case measure =>
            have h3 := hgr.1
            have h4 := R9.out.nxt
            simp only [M.St.nx] at h3 h4
            rw [h4, hnx]
            omega
        · rcases hst with ⟨-, rfl⟩ | ⟨hx, -⟩
          case inr => exact absurd hx (by decide)
          have R4 : Hid (Rst w3 B rb (.slice (some ⟨tg, 0, none⟩) L.length tc) L d sc.nx) := R3.out
          clear R3
          have HA1 := hide (raddType_any hL R4.out ⟨7, fs, [], 0⟩ fa none fs.length fc 0 0 0 (by simp only [M.St.nx]; omega) (Nat.le_trans hB K3.out.size))
          go_wp2_with fail
          refine HA1.out.mono ?_
          rintro e w5 ⟨rfl, k5, r5⟩
          have K5 := hide (K3.out.trans k5)
          have R5 := hide r5
          clear k5 r5
          go_wp2
          go_ret
          exact ⟨⟨_, rfl⟩, K5.out, R5.out⟩
    · subst hkd
      go_enter Tryz.func60, Tryz.ntmps60
      go_wp2
      go_region
      have HCH : Hid (Chg (fun _ => False) w ((w.alloc (.cells #[.int .i64 5, .string ⟨#[123]⟩, .int .i64 (pl : Int)] 80)).drew)) := (Chg.alloc (fun _ => False) _ _).trans (Chg.drewN (fun _ => False) _ 1) (fun _ _ x => x)
      have HCU := HCH
      clear HCH
      have HE1 := hide (FE.out ((w.alloc (.cells #[.int .i64 5, .string ⟨#[123]⟩, .int .i64 (pl : Int)] 80)).drew) [91] HCU.out)
      rw [hot [123] [91] hqa (by decide)] at HE1
      go_wp2_with fail
      refine HE1.out.mono ?_
      rintro e w1 ⟨rfl, k1, r1⟩
      have K1 := hide ((RKept.still HCU.out).trans k1)
      have r1' : Rst w1 B rb (.slice (some ⟨tg, 0, none⟩) L.length tc) L d s := r1
      have HE2 := hide (reat_any hL r1' [123])
      rw [hqa] at HE2
      clear k1 r1 r1' HE1
      go_wp2_with fail
      refine HE2.out.mono ?_
      rintro e w2 ⟨rfl, k2, r2⟩
      have K2 := hide (K1.out.trans k2)
      have R2 : Hid (Rst w2 B rb (.slice (some ⟨tg, 0, none⟩) L.length tc) L d s.nx) := r2
      clear k2 r2 HE2 K1
      go_wp2_with fail
      go_loopw [5, 6] (fun u v wr => ∃ (fs : List (List UInt8 × Int)) (sc : M.St) (fa ma : Option Addr) (fc mc : Nat) (xs : List Value), u = .slice fa fs.length fc ∧ v = .slice ma fs.length mc ∧ fs.length ≤ sc.i ∧ Hid (RKept B w wr) ∧ Hid (wr.ownsRow w.heap.size 55 2 (.slice fa fs.length fc) fs.length xs) ∧ Hid (wr.ownsRow w.heap.size 9 1 (.slice ma fs.length mc) fs.length (svals (fs.map (·.1)))) ∧ Hid (Rst wr B rb (.slice (some ⟨tg, 0, none⟩) L.length tc) L d sc) ∧
          Hid (∃ h, h ≤ f1 ∧ (M.sp' L h).objL d sc fs = some (.ok s' x))) (fun _ _ wr => L.length - nxt wr rb)
      case atStart => exact ⟨[], s.nx, none, none, 0, 0, [], rfl, rfl, by simp, K2.out, World.ownsRow_nil _ _ _ _, World.ownsRow_nil _ _ _ _, R2.out, f1, Nat.le_refl _, hobj⟩
      case round =>
        clear K2 R2
        obtain ⟨fs, sc, fa, ma, fc, mc, xs, rfl, rfl, hfl, KR, FR, MR, RR, h1, hh1, hob⟩ := hrel
        have hnx := RR.out.nxt
        have hic := RR.out.at'
        have hfc := RR.out.few
        have HE3 := hide (reat_any hL RR.out [125])
        have hst := M.objL_step hob
        generalize M.isM L sc.i [[125]] = q at *
        go_wp2_with fail
        refine HE3.out.mono ?_
        rintro e w3 ⟨rfl, k3, r3⟩
        have K3 := hide (KR.out.trans k3)
        have F3 := hide (k3.own FR.out (by decide))
        have M3 := hide (k3.own MR.out (by decide))
        have R3 := hide r3
        clear k3 r3 KR FR MR RR HE3
        cases q
        · rcases hst with ⟨hx, -⟩ | ⟨-, g2, s3, y3, hg2, hk1, hhas, hcol, htyp, hsem, hob2⟩
          case inl => exact absurd hx (by decide)
          have R4 : Hid (Rst w3 B rb (.slice (some ⟨tg, 0, none⟩) L.length tc) L d sc) := R3.out
          clear R3
          have hgr := (M.gF L g2).typ _ _ _ _ htyp
          have HB1 := hide (rbad_any R4.out)
          have ml : (fs.map (·.1)).length = fs.length := by simp
          have HI1 := hide (rident_any hL R4.out hk1 ma mc (fs.map (·.1)) (by rw [ml]; omega) (by rw [ml]; exact owns_base M3.out (Nat.zero_le _)) hhas)
          rw [ml] at HI1
          generalize (M.tk L sc.i).text = nm at *
          go_wp2_with fail
          refine HB1.out.mono ?_
          rintro e w4 ⟨rfl, rfl⟩
          go_wp2_with fail
          refine HI1.out.mono ?_
          rintro e w4 ⟨rfl, k4, r4⟩
          have K4 := hide (K3.out.trans k4)
          have F4 := hide (k4.own F3.out (by decide))
          have M4 := hide ((k4.own M3.out (by decide)).alloc (.cells #[.string ⟨nm.toArray⟩] 9))
          have R5 := hide (r4.still (Chg.alloc (fun _ => False) w4 (.cells #[.string ⟨nm.toArray⟩] 9)))
          clear k4 r4 HB1 HI1 F3 M3 K3 R4
          go_wp2_with (at_builtin; refine wpList_append_own _ rfl _ _ 33 rfl w.heap.size 9 k0 (.string ⟨#[]⟩) 1 16 Tryz.underlying33 hk0 hx0 hx1 hx2 rfl (by decide) _ _ _ rfl M4.out ⟨w4.heap.size, 0, none⟩ 1 1 [.string ⟨nm.toArray⟩] rfl rfl ?c1 ?c2 ?c3 ?c4 ?c5 ?_)
          case c1 => exact cell_one_new _ _ _
          case c2 => intro u hu; simp at hu; rcases hu with rfl; rfl
          case c3 => simp only [maxLen]; omega
          case c4 => omega
          case c5 => have := K4.out.size; simp; omega
          intro v' w5 hown5 hg5 _
          have R6 := hide (R5.out.grown M4.out (by decide) hg5)
          have F5 : Hid (w5.ownsRow w.heap.size 55 2 (.slice fa fs.length fc) fs.length xs) := owns_chg (F4.out.alloc _) (Chg.grown hg5) (fun k hk hx => by
            obtain ⟨_, cur, hh⟩ := owns_tag (F4.out.alloc (.cells #[.string ⟨nm.toArray⟩] 9)) k hk
            obtain ⟨_, cur2, hh2⟩ := owns_tag M4.out k hx.symm
            rw [hh] at hh2
            simp only [Option.some.injEq, Obj.cells.injEq] at hh2
            exact absurd hh2.2.1 (by decide))
          have K5 := hide ((K4.out.trans (RKept.still (Chg.alloc (fun _ => False) w4 (.cells #[.string ⟨nm.toArray⟩] 9)))).grown M4.out hg5)
          have e5 : svals (fs.map (·.1)) ++ [.string ⟨nm.toArray⟩] = svals ((fs ++ [(nm, y3)]).map (·.1)) := by simp [svals]
          rw [e5] at hown5
          obtain ⟨ma5, mc5, rfl⟩ := owns_form hown5
          have M5 := hide hown5
          clear hown5 hg5 M4 R5 K4 F4
          have HM1 := hide (rmust_any hL R6.out [58] hcol)
          clear R6
          go_wp2_with fail
          refine HM1.out.mono ?_
          rintro e w6 ⟨rfl, k6, r6⟩
          have K6 := hide (K5.out.trans k6)
          have F6 := hide (k6.own F5.out (by decide))
          have M6 := hide (k6.own M5.out (by decide))
          have HT1 := hide (HTG.out g2 (by omega) _ _ _ _ htyp w6 (Nat.le_trans hB K6.out.size) r6)
          clear k6 r6 HM1 K5 F5 M5
          go_wp2_with fail
          refine HT1.out.mono ?_
          rintro e w7 ⟨⟨z7, rfl⟩, k7, r7⟩
          have K7 := hide (K6.out.trans k7)
          have F7 := hide (k7.own F6.out (by decide))
          have M7 := hide (k7.own M6.out (by decide))
          have HM2 := hide (rmust_any hL r7 [59] hsem)
          clear k7 r7 HT1 K6 F6 M6
          go_wp2_with fail
          refine HM2.out.mono ?_
          rintro e w8 ⟨rfl, k8, r8⟩
          have K8 := hide (K7.out.trans k8)
          have F8 := hide ((k8.own F7.out (by decide)).alloc (.cells #[.string ⟨nm.toArray⟩, .int .i64 z7] 55))
          have M8 := hide ((k8.own M7.out (by decide)).alloc (.cells #[.string ⟨nm.toArray⟩, .int .i64 z7] 55))
          have R8 := hide (r8.still (Chg.alloc (fun _ => False) w8 (.cells #[.string ⟨nm.toArray⟩, .int .i64 z7] 55)))
          have hi8 := r8.at'
          clear k8 r8 HM2 K7 F7 M7
          go_wp2_with (at_builtin; refine wpList_append_own _ rfl _ _ 50 rfl w.heap.size 55 j0 (.agg #[.string ⟨#[]⟩, .int .i64 0]) 2 24 Tryz.underlying50 hj0 hy0 hy1 hy2 rfl (by decide) _ _ _ rfl F8.out ⟨w8.heap.size, 0, none⟩ 1 1 [.string ⟨nm.toArray⟩, .int .i64 z7] rfl rfl ?c1 ?c2 ?c3 ?c4 ?c5 ?_)
          case c1 => exact cell_two_new _ _ _ _
          case c2 => intro u hu; simp at hu; rcases hu with rfl | rfl <;> rfl
          case c3 => simp only [maxLen]; omega
          case c4 => omega
          case c5 => have := K8.out.size; simp; omega
          intro v' w9 hown9 hg9 _
          have R9 := hide (R8.out.grown F8.out (by decide) hg9)
          have M9 : Hid (w9.ownsRow w.heap.size 9 1 (.slice ma5 (fs.length + 1) mc5) (fs.length + 1) (svals ((fs ++ [(nm, y3)]).map (·.1)))) := owns_chg M8.out (Chg.grown hg9) (fun k hk hx => by
            obtain ⟨_, cur, hh⟩ := owns_tag M8.out k hk
            obtain ⟨_, cur2, hh2⟩ := owns_tag F8.out k hx.symm
            rw [hh] at hh2
            simp only [Option.some.injEq, Obj.cells.injEq] at hh2
            exact absurd hh2.2.1 (by decide))
          have K9 := hide ((K8.out.trans (RKept.still (Chg.alloc (fun _ => False) w8 (.cells #[.string ⟨nm.toArray⟩, .int .i64 z7] 55)))).grown F8.out hg9)
          obtain ⟨fa9, fc9, rfl⟩ := owns_form hown9
          have F9 := hide hown9
          clear hown9 hg9 F8 M8 R8 K8
          go_wp2
          go_roundw
          case rel =>
            have h3 := hgr.1
            simp only [M.St.nx] at h3
            have el : (fs ++ [(nm, y3)]).length = fs.length + 1 := by simp
            refine ⟨fs ++ [(nm, y3)], s3.nx, fa9, ma5, fc9, mc5, xs ++ [.string ⟨nm.toArray⟩, .int .i64 z7], by rw [el], by rw [el], by rw [el]; simp only [M.St.nx]; omega, K9.out, ?_, ?_, R9.out, g2, by omega, hob2⟩
            · show World.ownsRow _ _ _ _ _ _ _
              rw [el]
              exact F9.out
            · show World.ownsRow _ _ _ _ _ _ _
              rw [el]
              exact M9.out
          case measure =>
            have h3 := hgr.1
            have h4 := R9.out.nxt
            simp only [M.St.nx] at h3 h4
            rw [h4, hnx]
            omega
        · rcases hst with ⟨-, rfl⟩ | ⟨hx, -⟩
          case inr => exact absurd hx (by decide)
          have R4 : Hid (Rst w3 B rb (.slice (some ⟨tg, 0, none⟩) L.length tc) L d sc.nx) := R3.out
          clear R3
          have HA1 := hide (raddType_any hL R4.out ⟨7, fs, [], 0⟩ fa none fs.length fc 0 0 0 (by simp only [M.St.nx]; omega) (Nat.le_trans hB K3.out.size))
          go_wp2_with fail
          refine HA1.out.mono ?_
          rintro e w5 ⟨rfl, k5, r5⟩
          have K5 := hide (K3.out.trans k5)
          have R5 := hide r5
          clear k5 r5
          go_wp2
          go_ret
          exact ⟨⟨_, rfl⟩, K5.out, R5.out⟩
  · have hk := htx [91] hqb
    have hnk : s.i + 1 < L.length := hnx1 (by rcases hk.1 with e | e <;> rw [e] <;> decide)
    have hgr := (M.gF L f1).typ _ _ _ _ htyp
    subst hse
    unfold M.Gr at hgr
    generalize M.tk L s.i = tk at *
    obtain ⟨kd, tx, pl⟩ := tk
    simp only at x0 x1 x2 hk
    obtain ⟨hkd, rfl⟩ := hk
    rcases hkd with hkd | hkd
    · subst hkd
      go_enter Tryz.func60, Tryz.ntmps60
      go_wp2
      go_region
      have HCH : Hid (Chg (fun _ => False) w ((w.alloc (.cells #[.int .i64 2, .string ⟨#[91]⟩, .int .i64 (pl : Int)] 80)).drew)) := (Chg.alloc (fun _ => False) _ _).trans (Chg.drewN (fun _ => False) _ 1) (fun _ _ x => x)
      have HP1 := hide (HPK.out [91] ((w.alloc (.cells #[.int .i64 2, .string ⟨#[91]⟩, .int .i64 (pl : Int)] 80)).drew))
      have ep : M.plainKind [91] = 0 := by decide
      rw [ep] at HP1
      go_wp2_with fail
      refine HP1.out.mono ?_
      rintro e u0 ⟨rfl, hu0⟩
      have HCU := hide (HCH.out.trans hu0 (fun _ _ x => x))
      clear hu0 HP1 HCH
      have HE1 := hide (FE.out u0 [91] HCU.out)
      rw [hqb] at HE1
      go_wp2_with fail
      refine HE1.out.mono ?_
      rintro e w2 ⟨rfl, k2, r2⟩
      have K2 := hide ((RKept.still HCU.out).trans k2)
      have HT1 := hide (HTG.out f1 (by omega) _ _ _ _ htyp w2 (Nat.le_trans hB K2.out.size) r2)
      clear k2 r2 HE1
      go_wp2_with fail
      refine HT1.out.mono ?_
      rintro e w3 ⟨⟨z, rfl⟩, k3, r3⟩
      have K3 := hide (K2.out.trans k3)
      have HM1 := hide (rmust_any hL r3 [93] hqe)
      clear k3 r3 HT1
      go_wp2_with fail
      refine HM1.out.mono ?_
      rintro e w4 ⟨rfl, k4, r4⟩
      have K4 := hide (K3.out.trans k4)
      have HA1 := hide (raddType_any hL r4 ⟨8, [], [], y1⟩ none none 0 0 0 0 z (by simp only [M.St.nx] at hgr ⊢; omega) (Nat.le_trans hB K4.out.size))
      clear k4 r4 HM1
      go_wp2_with fail
      refine HA1.out.mono ?_
      rintro e w5 ⟨rfl, k5, r5⟩
      have K5 := hide (K4.out.trans k5)
      have R5 := hide r5
      clear k5 r5
      go_wp2
      go_ret
      exact ⟨⟨_, rfl⟩, K5.out, R5.out⟩
    · subst hkd
      go_enter Tryz.func60, Tryz.ntmps60
      go_wp2
      go_region
      have HCH : Hid (Chg (fun _ => False) w ((w.alloc (.cells #[.int .i64 5, .string ⟨#[91]⟩, .int .i64 (pl : Int)] 80)).drew)) := (Chg.alloc (fun _ => False) _ _).trans (Chg.drewN (fun _ => False) _ 1) (fun _ _ x => x)
      have HCU := HCH
      clear HCH
      have HE1 := hide (FE.out ((w.alloc (.cells #[.int .i64 5, .string ⟨#[91]⟩, .int .i64 (pl : Int)] 80)).drew) [91] HCU.out)
      rw [hqb] at HE1
      go_wp2_with fail
      refine HE1.out.mono ?_
      rintro e w2 ⟨rfl, k2, r2⟩
      have K2 := hide ((RKept.still HCU.out).trans k2)
      have HT1 := hide (HTG.out f1 (by omega) _ _ _ _ htyp w2 (Nat.le_trans hB K2.out.size) r2)
      clear k2 r2 HE1
      go_wp2_with fail
      refine HT1.out.mono ?_
      rintro e w3 ⟨⟨z, rfl⟩, k3, r3⟩
      have K3 := hide (K2.out.trans k3)
      have HM1 := hide (rmust_any hL r3 [93] hqe)
      clear k3 r3 HT1
      go_wp2_with fail
      refine HM1.out.mono ?_
      rintro e w4 ⟨rfl, k4, r4⟩
      have K4 := hide (K3.out.trans k4)
      have HA1 := hide (raddType_any hL r4 ⟨8, [], [], y1⟩ none none 0 0 0 0 z (by simp only [M.St.nx] at hgr ⊢; omega) (Nat.le_trans hB K4.out.size))
      clear k4 r4 HM1
      go_wp2_with fail
      refine HA1.out.mono ?_
      rintro e w5 ⟨rfl, k5, r5⟩
      have K5 := hide (K4.out.trans k5)
      have R5 := hide r5
      clear k5 r5
      go_wp2
      go_ret
      exact ⟨⟨_, rfl⟩, K5.out, R5.out⟩
  · have hk := htx [40] hqc
    have hnk : s.i + 1 < L.length := hnx1 (by rcases hk.1 with e | e <;> rw [e] <;> decide)
    obtain ⟨f2, s1, l, hf2, hlist, hend⟩ := M.fob_inv hfob
    have hgl := (M.gF L f2).list _ _ _ _ _ _ hlist
    generalize M.tk L s.i = tk at *
    obtain ⟨kd, tx, pl⟩ := tk
    simp only at x0 x1 x2 hk
    obtain ⟨hkd, rfl⟩ := hk
    rcases hkd with hkd | hkd
    · subst hkd
      go_enter Tryz.func60, Tryz.ntmps60
      go_wp2
      go_region
      have HCH : Hid (Chg (fun _ => False) w ((w.alloc (.cells #[.int .i64 2, .string ⟨#[40]⟩, .int .i64 (pl : Int)] 80)).drew)) := (Chg.alloc (fun _ => False) _ _).trans (Chg.drewN (fun _ => False) _ 1) (fun _ _ x => x)
      have HP1 := hide (HPK.out [40] ((w.alloc (.cells #[.int .i64 2, .string ⟨#[40]⟩, .int .i64 (pl : Int)] 80)).drew))
      have ep : M.plainKind [40] = 0 := by decide
      rw [ep] at HP1
      go_wp2_with fail
      refine HP1.out.mono ?_
      rintro e u0 ⟨rfl, hu0⟩
      have HCU := hide (HCH.out.trans hu0 (fun _ _ x => x))
      clear hu0 HP1 HCH
      have HE1 := hide (FE.out u0 [91] HCU.out)
      rw [hqn2] at HE1
      go_wp2_with fail
      refine HE1.out.mono ?_
      rintro e w1 ⟨rfl, k1, r1⟩
      have K1 := hide ((RKept.still HCU.out).trans k1)
      have r1' : Rst w1 B rb (.slice (some ⟨tg, 0, none⟩) L.length tc) L d s := r1
      have HE2 := hide (reat_any hL r1' [123])
      rw [hqn1] at HE2
      clear k1 r1 r1' HE1
      go_wp2_with fail
      refine HE2.out.mono ?_
      rintro e w2 ⟨rfl, k2, r2⟩
      have K2 := hide (K1.out.trans k2)
      have r2' : Rst w2 B rb (.slice (some ⟨tg, 0, none⟩) L.length tc) L d s := r2
      have HM0 := hide (rmust_any hL r2' [40] hqc)
      clear k2 r2 r2' HE2 K1
      go_wp2_with fail
      refine HM0.out.mono ?_
      rintro e w0 ⟨rfl, k0', r0'⟩
      have K0 := hide (K2.out.trans k0')
      have RS0 := hide r0'
      clear k0' r0' HM0 K2
      go_wp2_with fail
      go_loopw [9] (fun v wr => ∃ (zs : List Int) (sc : M.St) (ad : Option Addr) (c : Nat), v = .slice ad zs.length c ∧ zs.length ≤ sc.i ∧ Hid (RKept B w wr) ∧ Hid (wr.ownsRow w.heap.size 3 1 (.slice ad zs.length c) zs.length (ints zs)) ∧ Hid (Rst wr B rb (.slice (some ⟨tg, 0, none⟩) L.length tc) L d sc) ∧
          Hid (∃ h acc nm, h ≤ f2 ∧ acc.length = zs.length ∧ (M.sp' L h).list .typ [41] d sc nm acc = some (.ok s1 l))) (fun _ wr => L.length - nxt wr rb)
      case atStart => exact ⟨[], s.nx, none, 0, rfl, by simp, K0.out, World.ownsRow_nil _ _ _ _, RS0.out, f2, [], [], Nat.le_refl _, rfl, hlist⟩
      case round =>
        clear K0 RS0
        obtain ⟨zs, sc, ad, c, rfl, hfl, KR, OR, RR, h1, acc, nms, hh1, hal, hls⟩ := hrel
        have hnx := RR.out.nxt
        have hic := RR.out.at'
        have HE3 := hide (reat_any hL RR.out [41])
        have hst := M.list_step hls
        generalize M.isM L sc.i [[41]] = q at *
        go_wp2_with fail
        refine HE3.out.mono ?_
        rintro e w3 ⟨rfl, k3, r3⟩
        have K3 := hide (KR.out.trans k3)
        have O3 := hide (k3.own OR.out (by decide))
        have R3 := hide r3
        clear k3 r3 KR OR RR HE3
        cases q
        · rcases hst with ⟨hx, -⟩ | ⟨-, g2, s4, s3, y3, nm3, hg2, hcom, htyp, hls2⟩
          case inl => exact absurd hx (by decide)
          have R4 : Hid (Rst w3 B rb (.slice (some ⟨tg, 0, none⟩) L.length tc) L d sc) := R3.out
          clear R3
          have hgr := (M.gF L g2).typ _ _ _ _ htyp
          have HB1 := hide (rbad_any R4.out)
          rcases hcom with ⟨hc0, rfl⟩ | ⟨hc0, hcm, rfl⟩
          · have hzl : zs = [] := List.length_eq_zero_iff.1 (by omega)
            subst hzl
            have O3z : Hid (w3.ownsRow w.heap.size 3 1 (.slice ad 0 c) 0 []) := O3.out
            have HT1 := hide (HTG.out g2 (by omega) _ _ _ _ htyp w3 (Nat.le_trans hB K3.out.size) R4.out)
            clear R4
            go_wp2_with fail
            refine HB1.out.mono ?_
            rintro e w4 ⟨rfl, rfl⟩
            go_wp2_with fail
            refine HT1.out.mono ?_
            rintro e w5 ⟨⟨z5, rfl⟩, k5, r5⟩
            have K5 := hide (K3.out.trans k5)
            have O5 := hide ((k5.own O3z.out (by decide)).alloc (.cells #[.int .i64 z5] 3))
            have R5 := hide (r5.still (Chg.alloc (fun _ => False) w5 (.cells #[.int .i64 z5] 3)))
            have hi5 := r5.at'
            clear k5 r5 HT1
            go_wp2_with (at_builtin; refine wpList_append_own _ rfl _ _ 42 rfl w.heap.size 3 i0 (.int .i64 0) 1 8 Tryz.underlying42 hi0 hz0 hz1 hz2 rfl (by decide) _ _ _ rfl O5.out ⟨w5.heap.size, 0, none⟩ 1 1 [.int .i64 z5] rfl rfl ?c1 ?c2 ?c3 ?c4 ?c5 ?_)
            case c1 => exact cell_one_new _ _ _
            case c2 => intro u hu; simp at hu; rcases hu with rfl; rfl
            case c3 => simp only [maxLen]; omega
            case c4 => omega
            case c5 => have := K5.out.size; simp; omega
            intro v' w6 hown6 hg6 _
            have R6 := hide (R5.out.grown O5.out (by decide) hg6)
            have K6 := hide ((K5.out.trans (RKept.still (Chg.alloc (fun _ => False) w5 (.cells #[.int .i64 z5] 3)))).grown O5.out hg6)
            obtain ⟨ad6, c6, rfl⟩ := owns_form hown6
            have O6 : Hid (w6.ownsRow w.heap.size 3 1 (.slice ad6 [z5].length c6) [z5].length (ints [z5])) := hown6
            clear hown6 hg6 O5 R5 K5
            go_wp2
            go_roundw
            case rel =>
              have h3 := hgr.1
              try simp only [M.St.nx] at h3
              exact ⟨[z5], s3, ad6, c6, rfl, by simp; omega, K6.out, O6.out, R6.out, g2, acc ++ [y3], nm3, by omega, by simp [hal], hls2⟩
            case measure =>
              have h3 := hgr.1
              have h4 := R6.out.nxt
              try simp only [M.St.nx] at h3
              rw [h4, hnx]
              omega
          · have hpos : (0 : Int) < (zs.length : Int) := by omega
            have HM1 := hide (rmust_any hL R4.out [44] hcm)
            clear R4
            go_wp2_with fail
            refine HB1.out.mono ?_
            rintro e w4 ⟨rfl, rfl⟩
            go_wp2_with fail
            refine HM1.out.mono ?_
            rintro e w4 ⟨rfl, k4, r4⟩
            have K4 := hide (K3.out.trans k4)
            have O4 := hide (k4.own O3.out (by decide))
            have HT1 := hide (HTG.out g2 (by omega) _ _ _ _ htyp w4 (Nat.le_trans hB K4.out.size) r4)
            clear k4 r4 HM1 K3 O3
            go_wp2_with fail
            refine HT1.out.mono ?_
            rintro e w5 ⟨⟨z5, rfl⟩, k5, r5⟩
            have K5 := hide (K4.out.trans k5)
            have O5 := hide ((k5.own O4.out (by decide)).alloc (.cells #[.int .i64 z5] 3))
            have R5 := hide (r5.still (Chg.alloc (fun _ => False) w5 (.cells #[.int .i64 z5] 3)))
            have hi5 := r5.at'
            clear k5 r5 HT1
            go_wp2_with (at_builtin; refine wpList_append_own _ rfl _ _ 42 rfl w.heap.size 3 i0 (.int .i64 0) 1 8 Tryz.underlying42 hi0 hz0 hz1 hz2 rfl (by decide) _ _ _ rfl O5.out ⟨w5.heap.size, 0, none⟩ 1 1 [.int .i64 z5] rfl rfl ?c1 ?c2 ?c3 ?c4 ?c5 ?_)
            case c1 => exact cell_one_new _ _ _
            case c2 => intro u hu; simp at hu; rcases hu with rfl; rfl
            case c3 => simp only [maxLen]; omega
            case c4 => omega
            case c5 => have := K5.out.size; simp; omega
            intro v' w6 hown6 hg6 _
            have e3 : zs.length + 1 = (zs ++ [z5]).length := by simp
            have R6 := hide (R5.out.grown O5.out (by decide) hg6)
            have K6 := hide ((K5.out.trans (RKept.still (Chg.alloc (fun _ => False) w5 (.cells #[.int .i64 z5] 3)))).grown O5.out hg6)
            rw [e3, show ints zs ++ [.int .i64 z5] = ints (zs ++ [z5]) from by simp [ints]] at hown6
            obtain ⟨ad6, c6, rfl⟩ := owns_form hown6
            have O6 := hide hown6
            clear hown6 hg6 O5 R5 K5
            go_wp2
            go_roundw
            case rel =>
              have h3 := hgr.1
              try simp only [M.St.nx] at h3
              exact ⟨zs ++ [z5], s3, ad6, c6, rfl, by simp; omega, K6.out, O6.out, R6.out, g2, acc ++ [y3], nm3, by omega, by simp [hal], hls2⟩
            case measure =>
              have h3 := hgr.1
              have h4 := R6.out.nxt
              try simp only [M.St.nx] at h3
              rw [h4, hnx]
              omega
        · rcases hst with ⟨-, rfl, rfl⟩ | ⟨hx, -⟩
          case inr => exact absurd hx (by decide)
          have R4 : Hid (Rst w3 B rb (.slice (some ⟨tg, 0, none⟩) L.length tc) L d sc.nx) := R3.out
          clear R3
          have HE4 := hide (reat_any hL R4.out [61, 62])
          rcases hend with ⟨hq2, s2, y2, htyp, rfl⟩ | ⟨hq2, hl1, rfl⟩
          · rw [hq2] at HE4
            have hgt := (M.gF L f2).typ _ _ _ _ htyp
            go_wp2_with fail
            refine HE4.out.mono ?_
            rintro e w4 ⟨rfl, k4, r4⟩
            have K4 := hide (K3.out.trans k4)
            have O4 := hide (k4.own O3.out (by decide))
            have HT1 := hide (HTG.out f2 (by omega) _ _ _ _ htyp w4 (Nat.le_trans hB K4.out.size) r4)
            clear k4 r4 HE4 K3 O3 R4
            go_wp2_with fail
            refine HT1.out.mono ?_
            rintro e w5 ⟨⟨z5, rfl⟩, k5, r5⟩
            have K5 := hide (K4.out.trans k5)
            have HA1 := hide (raddType_any hL r5 ⟨9, [], l, y2⟩ none ad 0 0 zs.length c z5 (by have a1 := hgl.1; have a2 := hgl.2; have a3 := hgt.1; have a4 := hgt.2; simp only [M.St.nx] at a1 a2 a3 a4; omega) (Nat.le_trans hB K5.out.size))
            clear k5 r5 HT1 K4
            go_wp2_with fail
            refine HA1.out.mono ?_
            rintro e w6 ⟨rfl, k6, r6⟩
            have K6 := hide (K5.out.trans k6)
            have R6 := hide r6
            clear k6 r6
            go_wp2
            go_ret
            exact ⟨⟨_, rfl⟩, K6.out, R6.out⟩
          · rw [hq2] at HE4
            have hz1' : zs.length = 1 := by omega
            have O5 := hide O3.out
            go_wp2_with fail
            refine HE4.out.mono ?_
            rintro e w4 ⟨rfl, k4, r4⟩
            have K4 := hide (K3.out.trans k4)
            have O4 := hide (k4.own O3.out (by decide))
            have R5 : Hid (Rst w4 B rb (.slice (some ⟨tg, 0, none⟩) L.length tc) L d sc.nx) := r4
            obtain ⟨g, hga, hgl2, hg1, hg2, y0⟩ := ints_cell (owns_base O4.out (Nat.zero_le _)) (j := 0) (by omega)
            subst hga
            unfold maxLen at hg2
            generalize zs[0] = zz at *
            clear k4 r4 HE4 K3 O3 R4 O4 O5
            generalize zs.length = n at *
            subst hz1'
            go_wp2_with fail
            go_ret
            exact ⟨⟨_, rfl⟩, K4.out, R5.out⟩
    · subst hkd
      go_enter Tryz.func60, Tryz.ntmps60
      go_wp2
      go_region
      have HCH : Hid (Chg (fun _ => False) w ((w.alloc (.cells #[.int .i64 5, .string ⟨#[40]⟩, .int .i64 (pl : Int)] 80)).drew)) := (Chg.alloc (fun _ => False) _ _).trans (Chg.drewN (fun _ => False) _ 1) (fun _ _ x => x)
      have HCU := HCH
      clear HCH
      have HE1 := hide (FE.out ((w.alloc (.cells #[.int .i64 5, .string ⟨#[40]⟩, .int .i64 (pl : Int)] 80)).drew) [91] HCU.out)
      rw [hqn2] at HE1
      go_wp2_with fail
      refine HE1.out.mono ?_
      rintro e w1 ⟨rfl, k1, r1⟩
      have K1 := hide ((RKept.still HCU.out).trans k1)
      have r1' : Rst w1 B rb (.slice (some ⟨tg, 0, none⟩) L.length tc) L d s := r1
      have HE2 := hide (reat_any hL r1' [123])
      rw [hqn1] at HE2
      clear k1 r1 r1' HE1
      go_wp2_with fail
      refine HE2.out.mono ?_
      rintro e w2 ⟨rfl, k2, r2⟩
      have K2 := hide (K1.out.trans k2)
      have r2' : Rst w2 B rb (.slice (some ⟨tg, 0, none⟩) L.length tc) L d s := r2
      have HM0 := hide (rmust_any hL r2' [40] hqc)
      clear k2 r2 r2' HE2 K1
      go_wp2_with fail
      refine HM0.out.mono ?_
      rintro e w0 ⟨rfl, k0', r0'⟩
      have K0 := hide (K2.out.trans k0')
      have RS0 := hide r0'
      clear k0' r0' HM0 K2
      go_wp2_with fail
      go_loopw [9] (fun v wr => ∃ (zs : List Int) (sc : M.St) (ad : Option Addr) (c : Nat), v = .slice ad zs.length c ∧ zs.length ≤ sc.i ∧ Hid (RKept B w wr) ∧ Hid (wr.ownsRow w.heap.size 3 1 (.slice ad zs.length c) zs.length (ints zs)) ∧ Hid (Rst wr B rb (.slice (some ⟨tg, 0, none⟩) L.length tc) L d sc) ∧
          Hid (∃ h acc nm, h ≤ f2 ∧ acc.length = zs.length ∧ (M.sp' L h).list .typ [41] d sc nm acc = some (.ok s1 l))) (fun _ wr => L.length - nxt wr rb)
      case atStart => exact ⟨[], s.nx, none, 0, rfl, by simp, K0.out, World.ownsRow_nil _ _ _ _, RS0.out, f2, [], [], Nat.le_refl _, rfl, hlist⟩
      case round =>
        clear K0 RS0
        obtain ⟨zs, sc, ad, c, rfl, hfl, KR, OR, RR, h1, acc, nms, hh1, hal, hls⟩ := hrel
        have hnx := RR.out.nxt
        have hic := RR.out.at'
        have HE3 := hide (reat_any hL RR.out [41])
        have hst := M.list_step hls
        generalize M.isM L sc.i [[41]] = q at *
        go_wp2_with fail
        refine HE3.out.mono ?_
        rintro e w3 ⟨rfl, k3, r3⟩
        have K3 := hide (KR.out.trans k3)
        have O3 := hide (k3.own OR.out (by decide))
        have R3 := hide r3
        clear k3 r3 KR OR RR HE3
        cases q
        · rcases hst with ⟨hx, -⟩ | ⟨-, g2, s4, s3, y3, nm3, hg2, hcom, htyp, hls2⟩
          case inl => exact absurd hx (by decide)
          have R4 : Hid (Rst w3 B rb (.slice (some ⟨tg, 0, none⟩) L.length tc) L d sc) := R3.out
          clear R3
          have hgr := (M.gF L g2).typ _ _ _ _ htyp
          have HB1 := hide (rbad_any R4.out)
          rcases hcom with ⟨hc0, rfl⟩ | ⟨hc0, hcm, rfl⟩
          · have hzl : zs = [] := List.length_eq_zero_iff.1 (by omega)
            subst hzl
            have O3z : Hid (w3.ownsRow w.heap.size 3 1 (.slice ad 0 c) 0 []) := O3.out
            have HT1 := hide (HTG.out g2 (by omega) _ _ _ _ htyp w3 (Nat.le_trans hB K3.out.size) R4.out)
            clear R4
            go_wp2_with fail
            refine HB1.out.mono ?_
            rintro e w4 ⟨rfl, rfl⟩
            go_wp2_with fail
            refine HT1.out.mono ?_
            rintro e w5 ⟨⟨z5, rfl⟩, k5, r5⟩
            have K5 := hide (K3.out.trans k5)
            have O5 := hide ((k5.own O3z.out (by decide)).alloc (.cells #[.int .i64 z5] 3))
            have R5 := hide (r5.still (Chg.alloc (fun _ => False) w5 (.cells #[.int .i64 z5] 3)))
            have hi5 := r5.at'
            clear k5 r5 HT1
            go_wp2_with (at_builtin; refine wpList_append_own _ rfl _ _ 42 rfl w.heap.size 3 i0 (.int .i64 0) 1 8 Tryz.underlying42 hi0 hz0 hz1 hz2 rfl (by decide) _ _ _ rfl O5.out ⟨w5.heap.size, 0, none⟩ 1 1 [.int .i64 z5] rfl rfl ?c1 ?c2 ?c3 ?c4 ?c5 ?_)
            case c1 => exact cell_one_new _ _ _
            case c2 => intro u hu; simp at hu; rcases hu with rfl; rfl
            case c3 => simp only [maxLen]; omega
            case c4 => omega
            case c5 => have := K5.out.size; simp; omega
            intro v' w6 hown6 hg6 _
            have R6 := hide (R5.out.grown O5.out (by decide) hg6)
            have K6 := hide ((K5.out.trans (RKept.still (Chg.alloc (fun _ => False) w5 (.cells #[.int .i64 z5] 3)))).grown O5.out hg6)
            obtain ⟨ad6, c6, rfl⟩ := owns_form hown6
            have O6 : Hid (w6.ownsRow w.heap.size 3 1 (.slice ad6 [z5].length c6) [z5].length (ints [z5])) := hown6
            clear hown6 hg6 O5 R5 K5
            go_wp2
            go_roundw
            case rel =>
              have h3 := hgr.1
              try simp only [M.St.nx] at h3
              exact ⟨[z5], s3, ad6, c6, rfl, by simp; omega, K6.out, O6.out, R6.out, g2, acc ++ [y3], nm3, by omega, by simp [hal], hls2⟩
            case measure =>
              have h3 := hgr.1
              have h4 := R6.out.nxt
              try simp only [M.St.nx] at h3
              rw [h4, hnx]
              omega
          · have hpos : (0 : Int) < (zs.length : Int) := by omega
            have HM1 := hide (rmust_any hL R4.out [44] hcm)
            clear R4
            go_wp2_with fail
            refine HB1.out.mono ?_
            rintro e w4 ⟨rfl, rfl⟩
            go_wp2_with fail
            refine HM1.out.mono ?_
            rintro e w4 ⟨rfl, k4, r4⟩
            have K4 := hide (K3.out.trans k4)
            have O4 := hide (k4.own O3.out (by decide))
            have HT1 := hide (HTG.out g2 (by omega) _ _ _ _ htyp w4 (Nat.le_trans hB K4.out.size) r4)
            clear k4 r4 HM1 K3 O3
            go_wp2_with fail
            refine HT1.out.mono ?_
            rintro e w5 ⟨⟨z5, rfl⟩, k5, r5⟩
            have K5 := hide (K4.out.trans k5)
            have O5 := hide ((k5.own O4.out (by decide)).alloc (.cells #[.int .i64 z5] 3))
            have R5 := hide (r5.still (Chg.alloc (fun _ => False) w5 (.cells #[.int .i64 z5] 3)))
            have hi5 := r5.at'
            clear k5 r5 HT1
            go_wp2_with (at_builtin; refine wpList_append_own _ rfl _ _ 42 rfl w.heap.size 3 i0 (.int .i64 0) 1 8 Tryz.underlying42 hi0 hz0 hz1 hz2 rfl (by decide) _ _ _ rfl O5.out ⟨w5.heap.size, 0, none⟩ 1 1 [.int .i64 z5] rfl rfl ?c1 ?c2 ?c3 ?c4 ?c5 ?_)
            case c1 => exact cell_one_new _ _ _
            case c2 => intro u hu; simp at hu; rcases hu with rfl; rfl
            case c3 => simp only [maxLen]; omega
            case c4 => omega
            case c5 => have := K5.out.size; simp; omega
            intro v' w6 hown6 hg6 _
            have e3 : zs.length + 1 = (zs ++ [z5]).length := by simp
            have R6 := hide (R5.out.grown O5.out (by decide) hg6)
            have K6 := hide ((K5.out.trans (RKept.still (Chg.alloc (fun _ => False) w5 (.cells #[.int .i64 z5] 3)))).grown O5.out hg6)
            rw [e3, show ints zs ++ [.int .i64 z5] = ints (zs ++ [z5]) from by simp [ints]] at hown6
            obtain ⟨ad6, c6, rfl⟩ := owns_form hown6
            have O6 := hide hown6
            clear hown6 hg6 O5 R5 K5
            go_wp2
            go_roundw
            case rel =>
              have h3 := hgr.1
              try simp only [M.St.nx] at h3
              exact ⟨zs ++ [z5], s3, ad6, c6, rfl, by simp; omega, K6.out, O6.out, R6.out, g2, acc ++ [y3], nm3, by omega, by simp [hal], hls2⟩
            case measure =>
              have h3 := hgr.1
              have h4 := R6.out.nxt
              try simp only [M.St.nx] at h3
              rw [h4, hnx]
              omega
        · rcases hst with ⟨-, rfl, rfl⟩ | ⟨hx, -⟩
          case inr => exact absurd hx (by decide)
          have R4 : Hid (Rst w3 B rb (.slice (some ⟨tg, 0, none⟩) L.length tc) L d sc.nx) := R3.out
          clear R3
          have HE4 := hide (reat_any hL R4.out [61, 62])
          rcases hend with ⟨hq2, s2, y2, htyp, rfl⟩ | ⟨hq2, hl1, rfl⟩
          · rw [hq2] at HE4
            have hgt := (M.gF L f2).typ _ _ _ _ htyp
            go_wp2_with fail
            refine HE4.out.mono ?_
            rintro e w4 ⟨rfl, k4, r4⟩
            have K4 := hide (K3.out.trans k4)
            have O4 := hide (k4.own O3.out (by decide))
            have HT1 := hide (HTG.out f2 (by omega) _ _ _ _ htyp w4 (Nat.le_trans hB K4.out.size) r4)
            clear k4 r4 HE4 K3 O3 R4
            go_wp2_with fail
            refine HT1.out.mono ?_
            rintro e w5 ⟨⟨z5, rfl⟩, k5, r5⟩
            have K5 := hide (K4.out.trans k5)
            have HA1 := hide (raddType_any hL r5 ⟨9, [], l, y2⟩ none ad 0 0 zs.length c z5 (by have a1 := hgl.1; have a2 := hgl.2; have a3 := hgt.1; have a4 := hgt.2; simp only [M.St.nx] at a1 a2 a3 a4; omega) (Nat.le_trans hB K5.out.size))
            clear k5 r5 HT1 K4
            go_wp2_with fail
            refine HA1.out.mono ?_
            rintro e w6 ⟨rfl, k6, r6⟩
            have K6 := hide (K5.out.trans k6)
            have R6 := hide r6
            clear k6 r6
            go_wp2
            go_ret
            exact ⟨⟨_, rfl⟩, K6.out, R6.out⟩
          · rw [hq2] at HE4
            have hz1' : zs.length = 1 := by omega
            have O5 := hide O3.out
            go_wp2_with fail
            refine HE4.out.mono ?_
            rintro e w4 ⟨rfl, k4, r4⟩
            have K4 := hide (K3.out.trans k4)
            have O4 := hide (k4.own O3.out (by decide))
            have R5 : Hid (Rst w4 B rb (.slice (some ⟨tg, 0, none⟩) L.length tc) L d sc.nx) := r4
            obtain ⟨g, hga, hgl2, hg1, hg2, y0⟩ := ints_cell (owns_base O4.out (Nat.zero_le _)) (j := 0) (by omega)
            subst hga
            unfold maxLen at hg2
            generalize zs[0] = zz at *
            clear k4 r4 HE4 K3 O3 R4 O4 O5
            generalize zs.length = n at *
            subst hz1'
            go_wp2_with fail
            go_ret
            exact ⟨⟨_, rfl⟩, K4.out, R5.out⟩
  · have hnk : s.i + 1 < L.length := hnx1 (by rw [hk2]; decide)
    have hpr := M.plainKind_range _ hpk
    subst hse
    have R1 := hide (R0.out hnk)
    generalize M.tk L s.i = tk at *
    obtain ⟨kd, tx, pl⟩ := tk
    simp only at x0 x1 x2 hk2 hpk hpr ⊢
    subst hk2
    have HP := hide (fun a => HPK.out tx a)
    generalize M.plainKind tx = pk at *
    have hpos : (0 : Int) < pk := by omega
    go_enter Tryz.func60, Tryz.ntmps60
    go_wp2
    go_region
    have HCH : Hid (Chg (fun _ => False) w ((w.alloc (.cells #[.int .i64 2, .string ⟨tx.toArray⟩, .int .i64 (pl : Int)] 80)).drew)) := (Chg.alloc (fun _ => False) _ _).trans (Chg.drewN (fun _ => False) _ 1) (fun _ _ x => x)
    have HB0 : Hid (((w.alloc (.cells #[.int .i64 2, .string ⟨tx.toArray⟩, .int .i64 (pl : Int)] 80)).drew).heap[w.heap.size]? = some (.cells #[.int .i64 2, .string ⟨tx.toArray⟩, .int .i64 (pl : Int)] 80 (0, 0))) := heap_alloc_new w _
    have HP1 := hide (HP.out ((w.alloc (.cells #[.int .i64 2, .string ⟨tx.toArray⟩, .int .i64 (pl : Int)] 80)).drew))
    go_wp2_with fail
    refine HP1.out.mono ?_
    rintro e w1 ⟨rfl, hu1⟩
    have HCU := hide (HCH.out.trans hu1 (fun _ _ x => x))
    have HB1 : Hid (w1.heap[w.heap.size]? = some (.cells #[.int .i64 2, .string ⟨tx.toArray⟩, .int .i64 (pl : Int)] 80 (0, 0))) := (hu1.block w.heap.size (by simp [World.drew]) (fun x => x)).trans HB0.out
    have RB := hide (rbad_any (FS.out w1 HCU.out))
    have RS1 := hide ((FS.out w1 HCU.out).store 1 (.int .i64 ((s.i : Int) + 1)) (s.i + 1) d hnk (by omega) (fun _ _ _ => by simp))
    obtain ⟨g2, c2', -, -, -, -, hlt1, -, q1, -, -, -, fz2, -⟩ := (FS.out w1 HCU.out).cell
    have fz21 := fz2 1
    have HB2 := hide (RS1.out.2.other HB1.out (by decide))
    have t1 : (w1.setCell ⟨rb, 1, none⟩ (.int .i64 ((s.i : Int) + 1))).cell? ⟨w.heap.size, 1, none⟩ = some (.string ⟨tx.toArray⟩) := by rw [cell_of_row _ _ 1 _ _ _ HB2.out]; rfl
    have t2 : w.heap.size < (w1.setCell ⟨rb, 1, none⟩ (.int .i64 ((s.i : Int) + 1))).heap.size := (Array.getElem?_eq_some_iff.1 HB2.out).1
    clear hu1 HP1 fz2 R1
    go_wp2_with fail
    refine RB.out.mono ?_
    rintro e w2 ⟨rfl, rfl⟩
    have HP2 := hide (HP.out (w2.setCell ⟨rb, 1, none⟩ (.int .i64 ((s.i : Int) + 1))))
    go_wp2_with fail
    refine HP2.out.mono ?_
    rintro e w3 ⟨rfl, hu3⟩
    have HA1 := hide (raddType_any hL (RS1.out.1.still hu3) ⟨pk, [], [], 0⟩ none none 0 0 0 0 0 (by show s.T.length + 1 ≤ s.i + 1; omega) (Nat.le_trans hB (Nat.le_trans HCU.out.size (Nat.le_trans RS1.out.2.size hu3.size))))
    have K3 := hide (((RKept.still HCU.out).trans RS1.out.2).trans (RKept.still hu3))
    clear hu3 HP2 RB
    go_wp2_with fail
    refine HA1.out.mono ?_
    rintro e w5 ⟨rfl, k5, r5⟩
    have K5 := hide (K3.out.trans k5)
    have R5 := hide r5
    clear k5 r5
    go_wp2
    go_ret
    exact ⟨⟨_, rfl⟩, K5.out, R5.out⟩

/-- Both, closed. -/
theorem reader_con (hL : LOk L) (f : Nat) : (∀ d s s' x, (M.sp' L f).typ d s = some (.ok s' x) → ReadC B rb tv L 38 d s s') ∧ (∀ d s s' x, (M.sp' L f).member d s = some (.ok s' x) → ReadC B rb tv L 60 d s s') := by
  induction f using Nat.strongRecOn with
  | ind f ih => exact ⟨fun d s s' x h => readType_step hL (fun g hg => (ih g hg).2) h, fun d s s' x h => oneType_step hL (fun g hg => (ih g hg).1) h⟩
end
end Go.Proofs.YtkilicjjaljghaaGreat
