/-
  The contract of object, and Type's closed.
-/
import Derived.Test.YtkilicjjaljghaaGreatWty
import Derived.Test.YtkilicjjaljghaaGreatWso
namespace Go.Proofs.YtkilicjjaljghaaGreat
open Go.RowKit Go.Maps

/-- A field, and some of them, as they are written. -/
def fldb (bn : Bool) (T : List M.Ty) (p : List UInt8 × Int) : List UInt8 := [32] ++ p.1 ++ [58, 32] ++ wtx bn T p.2.toNat ++ [59]
def fldsb (bn : Bool) (T : List M.Ty) (l : List (List UInt8 × Int)) : List UInt8 := l.flatMap (fldb bn T)
def orderF (bn : Bool) (l : List (List UInt8 × Int)) : List (List UInt8 × Int) := if bn then M.srtL l else l
theorem fldsb_take {bn : Bool} {T : List M.Ty} (l : List (List UInt8 × Int)) {j : Nat} (hj : j < l.length) : fldsb bn T (l.take (j + 1)) = fldsb bn T (l.take j) ++ fldb bn T l[j] := by
  unfold fldsb
  rw [List.take_succ_eq_append_getElem hj, List.flatMap_append]
  simp
theorem fldsb_le {bn : Bool} {T : List M.Ty} (l : List (List UInt8 × Int)) {j : Nat} (hj : j < l.length) : (fldsb bn T (l.take j)).length + (fldb bn T l[j]).length ≤ (fldsb bn T l).length := by
  have h1 := fldsb_take (bn := bn) (T := T) l hj
  have h2 : fldsb bn T l = fldsb bn T (l.take (j + 1)) ++ fldsb bn T (l.drop (j + 1)) := by
    unfold fldsb
    rw [← List.flatMap_append, List.take_append_drop]
  rw [h2, h1]
  simp only [List.length_append]
  omega

theorem orderF_len (bn : Bool) (l : List (List UInt8 × Int)) : (orderF bn l).length = l.length := by
  unfold orderF
  split
  · exact M.srtL_length l
  · rfl
theorem orderF_mem {bn : Bool} {l : List (List UInt8 × Int)} {p : List UInt8 × Int} (h : p ∈ orderF bn l) : p ∈ l := by
  unfold orderF at h
  split at h
  · exact (M.srtL_perm l).subset h
  · exact h

section
variable {bn : Bool} {T : List M.Ty} {i : Nat}
theorem obj_parts (hT : M.TsOk T) (hi : i < T.length) (h : T[i].kind = 7) : T[i].list = [] ∧ (T[i].fields.map (·.1)).Nodup := by
  rcases hT i hi with ht | ht | ht | ht | ht
  · omega
  · exact ⟨ht.2.1, ht.2.2.1⟩
  · omega
  · omega
  · omega
theorem wtx_obj (hT : M.TsOk T) (hi : i < T.length) (h : T[i].kind = 7) : wtx bn T i = [123] ++ fldsb bn T (orderF bn T[i].fields) ++ (if T[i].fields.length = 0 then [] else [32]) ++ [125] := by
  obtain ⟨hl, hn⟩ := obj_parts hT hi h
  have e : M.tr T i = .nd 7 (T[i].fields.map (·.1)) (T[i].fields.map fun p => (fun z : Int => M.tr T z.toNat) p.2) := by
    rw [M.tr_eq hT hi, if_neg (by omega), hl, h]
    simp
  unfold wtx
  rw [e]
  cases bn with
  | false =>
    have e2 : ∀ t, wtr false t = t := fun t => by simp [wtr]
    rw [e2, M.txt_obj T[i].fields (fun z : Int => M.tr T z.toNat)]
    unfold fldsb fldb orderF wtx
    simp only [e2]
    rfl
  | true =>
    have e2 : ∀ t, wtr true t = M.srt t := fun t => by simp [wtr]
    rw [e2, M.srt_obj _ (fun z : Int => M.tr T z.toNat) hn, M.txt_obj _ (fun z : Int => M.srt (M.tr T z.toNat)), M.srtL_length]
    unfold fldsb fldb orderF wtx
    simp only [e2]
    rfl
end

section
variable {B wb : Nat} {tv : Value} {bn : Bool} {T : List M.Ty} {m : Nat}

/-- Say of three words. -/
theorem say3 {a0 : World} (hB : B ≤ a0.heap.size) (a : World) (q : Nat) (bs : List UInt8) (s1 s2 s3 : ByteArray) (hq : q = a.heap.size) (hk : Wkp B wb a0 a) (hw : Wrt a B wb tv bn bs) (hl : bs.length + s1.size + s2.size + s3.size ≤ 100000000000000) :
    Calls Tryz.prog 80 #[.pointer (some ⟨wb, 0, none⟩), .slice (some ⟨q, 0, none⟩) 3 3] (a.alloc (.cells #[.string s1, .string s2, .string s3] 9)) (WPost a0 B wb tv bn (bs ++ (s1.data.toList ++ s2.data.toList ++ s3.data.toList))) := by
  subst hq
  have e1 : s1.data.toList.length = s1.size := bl s1
  have e2 : s2.data.toList.length = s2.size := bl s2
  have e3 : s3.data.toList.length = s3.size := bl s3
  refine (say_any (hw.still (Chg.alloc _ _ _)) [s1, s2, s3] a.heap.size (0, 0) (heap_alloc_new a _) (by simp) (by simp [said]; omega) (by simp; have := hk.size; omega)).mono ?_
  rintro e w' ⟨rfl, h1, h2⟩
  exact ⟨rfl, (hk.trans (Wkp.still (Chg.alloc _ _ _))).trans h1, by simpa [said] using h2⟩

theorem cmpx (x : ByteArray) : x.data.toList.length = x.size := bl x

/-- The cells of a row of fields. -/
theorem ofld_cell {w : World} {base : Nat} {ga : Option Addr} {gc : Nat} {gs : List (List UInt8 × Int)} (ho : w.ownsRow base 55 2 (.slice ga gs.length gc) gs.length (frows gs)) {j : Nat} (hj : j < gs.length) :
    ∃ g, ga = some ⟨g, 0, none⟩ ∧ g < w.heap.size ∧ gs.length ≤ gc ∧ gc ≤ maxLen ∧ w.cell? ⟨g, j * 2, none⟩ = some (.string ⟨gs[j].1.toArray⟩) ∧ w.cell? ⟨g, j * 2 + 1, none⟩ = some (.int .i64 gs[j].2) := by
  obtain ⟨g, rfl, -, hg, h1, h2, hc⟩ := owns_cell ho (by omega)
  have a0 := flat_get fcells (fun _ => rfl) gs j 0 hj (by omega)
  have a1 := flat_get fcells (fun _ => rfl) gs j 1 hj (by omega)
  exact ⟨g, rfl, hg, h1, h2, hc _ _ a0, hc _ _ a1⟩

set_option maxHeartbeats 4000000 in
set_option maxRecDepth 100000 in
theorem object_any (IH : WCon B wb tv bn T m) (i : Nat) (him : i ≤ m) (hi : i < T.length) (hfs : T[i].fields.length ≤ 1001) : WObj B wb tv bn T i := by
  intro _ w bs fa fc hk7 h hBw ho hlen
  have hT := h.ok
  have hE := wtx_obj (bn := bn) hT hi hk7
  have hnd := (obj_parts hT hi hk7).2
  have hfld := (hT i hi).fld
  have hol := orderF_len bn T[i].fields
  have hmem : ∀ p ∈ orderF bn T[i].fields, 0 ≤ p.2 ∧ p.2 < (i : Int) := fun p hp => hfld p (orderF_mem hp)
  have hlen2 : bs.length + (fldsb bn T (orderF bn T[i].fields)).length + 2 ≤ 100000000000000 := by
    rw [hE] at hlen
    simp only [List.length_append, List.length_cons, List.length_nil] at hlen
    omega
  have hlen3 : T[i].fields.length ≠ 0 → bs.length + (fldsb bn T (orderF bn T[i].fields)).length + 3 ≤ 100000000000000 := by
    intro h0
    rw [hE, if_neg h0] at hlen
    simp only [List.length_append, List.length_cons, List.length_nil] at hlen
    omega
  have HE := hide hE
  clear hE hfld hk7 hlen
  generalize wtx bn T i = tx at *
  obtain ⟨c2, c3, hwl⟩ := h.wrt.tys
  generalize hfe : T[i].fields = fs at *
  generalize hge : orderF bn fs = gs at *
  /- what follows, whatever was done ahead of it -/
  have FS1 : Hid (∀ a0 : World, Chg (fun _ => False) w a0 → ∀ a q bs' s, q = a.heap.size → Wkp B wb a0 a → Wrt a B wb tv bn bs' → bs'.length + s.size ≤ 100000000000000 → Calls Tryz.prog 80 #[.pointer (some ⟨wb, 0, none⟩), .slice (some ⟨q, 0, none⟩) 1 1] (a.alloc (.cells #[.string s] 9)) (WPost a0 B wb tv bn (bs' ++ s.data.toList))) :=
    fun a0 hc a q bs' s => say1 (Nat.le_trans hBw hc.size) a q bs' s
  have FS3 : Hid (∀ a0 : World, Chg (fun _ => False) w a0 → ∀ a q bs' s1 s2 s3, q = a.heap.size → Wkp B wb a0 a → Wrt a B wb tv bn bs' → bs'.length + s1.size + s2.size + s3.size ≤ 100000000000000 → Calls Tryz.prog 80 #[.pointer (some ⟨wb, 0, none⟩), .slice (some ⟨q, 0, none⟩) 3 3] (a.alloc (.cells #[.string s1, .string s2, .string s3] 9)) (WPost a0 B wb tv bn (bs' ++ (s1.data.toList ++ s2.data.toList ++ s3.data.toList)))) :=
    fun a0 hc a q bs' s1 s2 s3 => say3 (Nat.le_trans hBw hc.size) a q bs' s1 s2 s3
  have FW : Hid (∀ a0 : World, Chg (fun _ => False) w a0 → ∀ a z bs', Wkp B wb a0 a → Wrt a B wb tv bn bs' → z < i → bs'.length + (wtx bn T z).length ≤ 100000000000000 → Calls Tryz.prog 64 #[.pointer (some ⟨wb, 0, none⟩), .int .i64 (z : Int)] a (WPost a0 B wb tv bn (bs' ++ wtx bn T z))) := by
    intro a0 hc a z bs' ha hw hz hl
    refine (IH z a bs' (by omega) (by omega) ((h.still hc).kept ha hw) (Nat.le_trans hBw (Nat.le_trans hc.size ha.size)) hl).mono ?_
    rintro e w' ⟨rfl, h1, h2⟩
    exact ⟨rfl, ha.trans h1, h2⟩
  have FWR : Hid (∀ a0 : World, Chg (fun _ => False) w a0 → Wrt a0 B wb tv bn bs) := fun a0 hc => h.wrt.still hc
  have FR : Hid (∀ a0 : World, Chg (fun _ => False) w a0 → ∀ ga gc, a0.ownsRow 0 55 2 (.slice ga gs.length gc) gs.length (frows gs) → ∀ a, Wkp B wb a0 a → a.ownsRow 0 55 2 (.slice ga gs.length gc) gs.length (frows gs)) :=
    fun a0 hc ga gc hr a ha => ha.own (h.wrt.still hc) hr (by decide) (by decide)
  have hnn := hide hnd
  clear hnd
  cases bn with
  | false =>
    have hgs : gs = fs := by rw [← hge]; rfl
    subst hgs
    clear hge hol
    have hc0 : Chg (fun _ => False) w w := Chg.refl _ _
    have hr0 := hide ho
    clear h ho
    go_enter Tryz.func79, Tryz.ntmps79
    go_wp2_with fail
    have HS1 := hide (FS1.out w hc0 w w.heap.size bs ⟨#[123]⟩ rfl (Wkp.refl _ _ _) (FWR.out w hc0) (by simp [ByteArray.size]; omega))
    refine HS1.out.mono ?_
    rintro e u1 ⟨rfl, h1, h2⟩
    have K1 := hide h1
    have R1 := hide h2
    clear h1 h2 HS1
    go_wp2_with fail
    go_loopw [19] (fun v wr => ∃ j : Nat, j ≤ gs.length ∧ v = .int .i64 (j : Int) ∧ Hid (Wrt wr B wb tv false (bs ++ [123] ++ fldsb false T (gs.take j))) ∧ Hid (Wkp B wb w wr)) (fun v _ => gs.length - (intOf v).toNat)
    case atStart => exact ⟨0, Nat.zero_le _, rfl, by simpa [fldsb] using R1, K1.out⟩
    case round =>
      obtain ⟨j, hj, rfl, WR, CR⟩ := hrel
      have hBr : B ≤ wr.heap.size := Nat.le_trans hBw (Nat.le_trans hc0.size CR.out.size)
      by_cases hjl : j < gs.length
      · have hl := fldsb_le (bn := false) (T := T) gs hjl
        have HT := hide (fldsb_take (bn := false) (T := T) gs hjl)
        obtain ⟨g, hga, hg, hg1, hg2, x0, x1⟩ := ofld_cell (FR.out w hc0 _ _ hr0.out wr CR.out) hjl
        subst hga
        unfold maxLen at hg2
        have hzm := hmem gs[j] (List.getElem_mem hjl)
        unfold fldb at hl HT
        generalize gs[j] = p at *
        obtain ⟨nm, zz⟩ := p
        obtain ⟨z, rfl⟩ : ∃ z : Nat, zz = (z : Int) := ⟨zz.toNat, by have := hzm.1; simp only at this; omega⟩
        have hzi : z < i := by have := hzm.2; simp only at this; omega
        simp only [Int.toNat_natCast, List.length_append, List.length_cons, List.length_nil] at hl HT x0 x1
        clear hzm
        have ha1 : Chg (fun _ => False) wr (wr.alloc (.cells #[.string ⟨nm.toArray⟩, .int .i64 (z : Int)] 55)) := Chg.alloc _ _ _
        have HW3 := hide (say3 (B := B) (wb := wb) (tv := tv) (bn := false) (a0 := wr.alloc (.cells #[.string ⟨nm.toArray⟩, .int .i64 (z : Int)] 55)) (Nat.le_trans hBr ha1.size) _ (wr.heap.size + 1) _ ⟨#[32]⟩ ⟨nm.toArray⟩ ⟨#[58, 32]⟩ (by simp) (Wkp.refl _ _ _) (WR.out.still ha1) (by simp [ByteArray.size]; omega))
        have WA := hide (WR.out.still ha1)
        have CR2 := hide (CR.out.trans (Wkp.still ha1))
        have hwr : wr.heap.size < (wr.alloc (.cells #[.string ⟨nm.toArray⟩, .int .i64 (z : Int)] 55)).heap.size := by simp
        clear CR WR ha1
        go_wp2_with fail
        refine HW3.out.mono ?_
        rintro e w3 ⟨rfl, h3, h4⟩
        have hq := h3.other WA.out (heap_alloc_new wr _) (by decide) (by decide)
        have d1 : w3.cell? ⟨wr.heap.size, 1, none⟩ = some (.int .i64 (z : Int)) := by rw [cell_of_row w3 _ 1 _ _ _ hq]; rfl
        have d2 : wr.heap.size < w3.heap.size := Nat.lt_of_lt_of_le hwr h3.size
        have HWT := hide (FW.out w hc0 w3 z _ (CR2.out.trans h3) h4 hzi (by simp only [List.length_append, List.length_cons, List.length_nil]; omega))
        clear h3 h4 hq WA CR2 HW3 hwr
        go_wp2_with fail
        refine HWT.out.mono ?_
        rintro e w4 ⟨rfl, h5, h6⟩
        have HS4 := hide (FS1.out w hc0 w4 w4.heap.size _ ⟨#[59]⟩ rfl h5 h6 (by simp [ByteArray.size]; omega))
        clear h5 h6 HWT
        go_wp2_with fail
        refine HS4.out.mono ?_
        rintro e w5 ⟨rfl, h7, h8⟩
        have K7 := hide h7
        have R8 := hide h8
        clear h7 h8 HS4
        go_wp2
        go_roundw
        case rel => exact ⟨j + 1, by omega, by go_num, by rw [HT.out]; simpa using R8, K7.out⟩
        case measure => simp [intOf]; omega
      · have hje : j = gs.length := by omega
        subst hje
        rw [List.take_length] at WR
        have hcw : Wkp B wb w w := Wkp.still hc0
        by_cases hz : gs.length = 0
        · have HS5 := hide (FS1.out w hc0 wr wr.heap.size _ ⟨#[125]⟩ rfl CR.out WR.out (by simp [ByteArray.size]; omega))
          have HE2 := HE.out
          rw [if_pos hz] at HE2
          have HE3 := hide HE2
          clear HE2 HE
          clear CR WR
          have hz0 : (gs.length : Int) = 0 := by omega
          simp only [hz0] at *
          go_wp2_with fail
          refine HS5.out.mono ?_
          rintro e w6 ⟨rfl, h9, h10⟩
          go_wp2
          go_end0
          exact ⟨rfl, hcw.trans h9, by rw [HE3.out]; simpa using h10⟩
        · have hpos : (0 : Int) < (gs.length : Int) := by omega
          have hlen4 := hlen3 hz
          have HE2 := HE.out
          rw [if_neg hz] at HE2
          have HE3 := hide HE2
          clear HE2 HE
          have HS5 := hide (FS1.out w hc0 wr wr.heap.size _ ⟨#[32]⟩ rfl CR.out WR.out (by simp [ByteArray.size]; omega))
          clear CR WR
          go_wp2_with fail
          refine HS5.out.mono ?_
          rintro e w6 ⟨rfl, h9, h10⟩
          have HS6 := hide (FS1.out w hc0 w6 w6.heap.size _ ⟨#[125]⟩ rfl h9 h10 (by simp [ByteArray.size]; omega))
          clear h9 h10 HS5
          go_wp2_with fail
          refine HS6.out.mono ?_
          rintro e w7 ⟨rfl, h11, h12⟩
          go_wp2
          go_end0
          exact ⟨rfl, hcw.trans h11, by rw [HE3.out]; simpa using h12⟩
  | true =>
    have hgs : gs = M.srtL fs := by rw [← hge]; rfl
    have HC := hide (fclone_any w fs fa fc ho (by omega))
    clear h ho
    go_enter Tryz.func79, Tryz.ntmps79
    go_wp2_with fail
    refine HC.out.mono ?_
    rintro e w1 ⟨ga, gc, rfl, k1, o1⟩
    have HC2 := hide (sort_any w1 w.heap.size fs hnn.out _ o1 (by omega))
    have K1 := hide k1
    have O1 := hide o1
    clear k1 o1 HC
    go_wp2_with fail
    refine HC2.out.mono ?_
    rintro e w2 ⟨rfl, k2, o2⟩
    have hc0 : Chg (fun _ => False) w w2 := K1.out.trans k2 (fun k hk x => by have := (owns_tag O1.out k x.symm).1; omega)
    rw [← hgs] at o2
    have hr0 := hide (owns_base o2 (Nat.zero_le _))
    clear K1 O1 HC2 k2 o2 hgs hnn hge
    generalize fs.length = n at *
    subst hol
    go_wp2_with fail
    have HS1 := hide (FS1.out w2 hc0 w2 w2.heap.size bs ⟨#[123]⟩ rfl (Wkp.refl _ _ _) (FWR.out w2 hc0) (by simp [ByteArray.size]; omega))
    refine HS1.out.mono ?_
    rintro e u1 ⟨rfl, h1, h2⟩
    have K1 := hide h1
    have R1 := hide h2
    clear h1 h2 HS1
    go_wp2_with fail
    go_loopw [19] (fun v wr => ∃ j : Nat, j ≤ gs.length ∧ v = .int .i64 (j : Int) ∧ Hid (Wrt wr B wb tv true (bs ++ [123] ++ fldsb true T (gs.take j))) ∧ Hid (Wkp B wb w2 wr)) (fun v _ => gs.length - (intOf v).toNat)
    case atStart => exact ⟨0, Nat.zero_le _, rfl, by simpa [fldsb] using R1, K1.out⟩
    case round =>
      obtain ⟨j, hj, rfl, WR, CR⟩ := hrel
      have hBr : B ≤ wr.heap.size := Nat.le_trans hBw (Nat.le_trans hc0.size CR.out.size)
      by_cases hjl : j < gs.length
      · have hl := fldsb_le (bn := true) (T := T) gs hjl
        have HT := hide (fldsb_take (bn := true) (T := T) gs hjl)
        obtain ⟨g, hga, hg, hg1, hg2, x0, x1⟩ := ofld_cell (FR.out w2 hc0 _ _ hr0.out wr CR.out) hjl
        subst hga
        unfold maxLen at hg2
        have hzm := hmem gs[j] (List.getElem_mem hjl)
        unfold fldb at hl HT
        generalize gs[j] = p at *
        obtain ⟨nm, zz⟩ := p
        obtain ⟨z, rfl⟩ : ∃ z : Nat, zz = (z : Int) := ⟨zz.toNat, by have := hzm.1; simp only at this; omega⟩
        have hzi : z < i := by have := hzm.2; simp only at this; omega
        simp only [Int.toNat_natCast, List.length_append, List.length_cons, List.length_nil] at hl HT x0 x1
        clear hzm
        have ha1 : Chg (fun _ => False) wr (wr.alloc (.cells #[.string ⟨nm.toArray⟩, .int .i64 (z : Int)] 55)) := Chg.alloc _ _ _
        have HW3 := hide (say3 (B := B) (wb := wb) (tv := tv) (bn := true) (a0 := wr.alloc (.cells #[.string ⟨nm.toArray⟩, .int .i64 (z : Int)] 55)) (Nat.le_trans hBr ha1.size) _ (wr.heap.size + 1) _ ⟨#[32]⟩ ⟨nm.toArray⟩ ⟨#[58, 32]⟩ (by simp) (Wkp.refl _ _ _) (WR.out.still ha1) (by simp [ByteArray.size]; omega))
        have WA := hide (WR.out.still ha1)
        have CR2 := hide (CR.out.trans (Wkp.still ha1))
        have hwr : wr.heap.size < (wr.alloc (.cells #[.string ⟨nm.toArray⟩, .int .i64 (z : Int)] 55)).heap.size := by simp
        clear CR WR ha1
        go_wp2_with fail
        refine HW3.out.mono ?_
        rintro e w3 ⟨rfl, h3, h4⟩
        have hq := h3.other WA.out (heap_alloc_new wr _) (by decide) (by decide)
        have d1 : w3.cell? ⟨wr.heap.size, 1, none⟩ = some (.int .i64 (z : Int)) := by rw [cell_of_row w3 _ 1 _ _ _ hq]; rfl
        have d2 : wr.heap.size < w3.heap.size := Nat.lt_of_lt_of_le hwr h3.size
        have HWT := hide (FW.out w2 hc0 w3 z _ (CR2.out.trans h3) h4 hzi (by simp only [List.length_append, List.length_cons, List.length_nil]; omega))
        clear h3 h4 hq WA CR2 HW3 hwr
        go_wp2_with fail
        refine HWT.out.mono ?_
        rintro e w4 ⟨rfl, h5, h6⟩
        have HS4 := hide (FS1.out w2 hc0 w4 w4.heap.size _ ⟨#[59]⟩ rfl h5 h6 (by simp [ByteArray.size]; omega))
        clear h5 h6 HWT
        go_wp2_with fail
        refine HS4.out.mono ?_
        rintro e w5 ⟨rfl, h7, h8⟩
        have K7 := hide h7
        have R8 := hide h8
        clear h7 h8 HS4
        go_wp2
        go_roundw
        case rel => exact ⟨j + 1, by omega, by go_num, by rw [HT.out]; simpa using R8, K7.out⟩
        case measure => simp [intOf]; omega
      · have hje : j = gs.length := by omega
        subst hje
        rw [List.take_length] at WR
        have hcw : Wkp B wb w w2 := Wkp.still hc0
        by_cases hz : gs.length = 0
        · have HS5 := hide (FS1.out w2 hc0 wr wr.heap.size _ ⟨#[125]⟩ rfl CR.out WR.out (by simp [ByteArray.size]; omega))
          have HE2 := HE.out
          rw [if_pos hz] at HE2
          have HE3 := hide HE2
          clear HE2 HE
          clear CR WR
          have hz0 : (gs.length : Int) = 0 := by omega
          simp only [hz0] at *
          go_wp2_with fail
          refine HS5.out.mono ?_
          rintro e w6 ⟨rfl, h9, h10⟩
          go_wp2
          go_end0
          exact ⟨rfl, hcw.trans h9, by rw [HE3.out]; simpa using h10⟩
        · have hpos : (0 : Int) < (gs.length : Int) := by omega
          have hlen4 := hlen3 hz
          have HE2 := HE.out
          rw [if_neg hz] at HE2
          have HE3 := hide HE2
          clear HE2 HE
          have HS5 := hide (FS1.out w2 hc0 wr wr.heap.size _ ⟨#[32]⟩ rfl CR.out WR.out (by simp [ByteArray.size]; omega))
          clear CR WR
          go_wp2_with fail
          refine HS5.out.mono ?_
          rintro e w6 ⟨rfl, h9, h10⟩
          have HS6 := hide (FS1.out w2 hc0 w6 w6.heap.size _ ⟨#[125]⟩ rfl h9 h10 (by simp [ByteArray.size]; omega))
          clear h9 h10 HS5
          go_wp2_with fail
          refine HS6.out.mono ?_
          rintro e w7 ⟨rfl, h11, h12⟩
          go_wp2
          go_end0
          exact ⟨rfl, hcw.trans h11, by rw [HE3.out]; simpa using h12⟩

theorem wcon_any (hls : ∀ i (hi : i < T.length), T[i].list.length ≤ 100000 ∧ T[i].fields.length ≤ 1001) : ∀ m, WCon B wb tv bn T m
  | 0 => fun i w bs hm => by omega
  | m + 1 => fun i w bs him hi h hBw hlen => wtype_any (wcon_any hls m) i (by omega) (object_any (wcon_any hls m) i (by omega) hi (hls i hi).2) hi w bs h hBw hlen (hls i hi).1
end
end Go.Proofs.YtkilicjjaljghaaGreat
