/-
  The contract of the reference's Tokens: it answers as Scan does.
-/
import Derived.Test.YtkilicjjaljghaaGreatScan
import Derived.Deep.QuietTactic
import Derived.BigQuiet
import Derived.Test.YtkilicjjaljghaaGreatPlainA
import Derived.RegionTactic
import Derived.ChangeAlike
import Derived.Deep.RegionWith
import Derived.Deep.DeepCutAuto
import Derived.Deep.CutBlock
namespace Go.Proofs.YtkilicjjaljghaaGreat
open Go.RowKit

def wordBlock : Obj := .cells #[.string ⟨#[108, 101, 116]⟩, .string ⟨#[102, 110]⟩, .string ⟨#[105, 102]⟩, .string ⟨#[101, 108, 115, 101]⟩, .string ⟨#[119, 104, 105, 108, 101]⟩, .string ⟨#[114, 101, 116, 117, 114, 110]⟩, .string ⟨#[112, 114, 105, 110, 116]⟩, .string ⟨#[116, 114, 117, 101]⟩, .string ⟨#[102, 97, 108, 115, 101]⟩, .string ⟨#[110, 117, 108, 108]⟩, .string ⟨#[97, 115]⟩, .string ⟨#[116, 121, 112, 101, 111, 102]⟩, .string ⟨#[110, 117, 109]⟩, .string ⟨#[98, 111, 111, 108]⟩, .string ⟨#[116, 101, 120, 116]⟩, .string ⟨#[97, 110, 121]⟩, .string ⟨#[117, 110, 107, 110, 111, 119, 110]⟩] 9

set_option maxHeartbeats 400000 in
theorem words_any (w : World) : Calls Tryz.prog 58 #[] w fun e w' => e = .returned (.slice (some ⟨w.heap.size, 0, none⟩) 17 17) ∧ w' = w.alloc wordBlock := by
  unfold wordBlock
  go_enter Tryz.func58, Tryz.ntmps58
  go_wp2
  go_ret
  exact ⟨rfl, rfl⟩

theorem words_cell (w : World) (i : Nat) (h : i < M.words.length) : (w.alloc wordBlock).cell? ⟨w.heap.size, i, none⟩ = some (.string ⟨M.words[i].toArray⟩) := by
  unfold wordBlock
  rw [cell_of_row _ _ _ _ _ _ (heap_alloc_new w _)]
  have h' : i < 17 := h
  have : i = 0 ∨ i = 1 ∨ i = 2 ∨ i = 3 ∨ i = 4 ∨ i = 5 ∨ i = 6 ∨ i = 7 ∨ i = 8 ∨ i = 9 ∨ i = 10 ∨ i = 11 ∨ i = 12 ∨ i = 13 ∨ i = 14 ∨ i = 15 ∨ i = 16 := by omega
  rcases this with rfl | rfl | rfl | rfl | rfl | rfl | rfl | rfl | rfl | rfl | rfl | rfl | rfl | rfl | rfl | rfl | rfl <;> rfl


theorem drop_at (s : ByteArray) (a : Nat) (h : a < s.size) : s.data.toList.drop a = s[a] :: s.data.toList.drop (a + 1) := by
  rw [List.drop_eq_getElem_cons (by rw [bl]; exact h)]; rfl

theorem blank_step {s : ByteArray} {a : Nat} (f : Nat) (acc : List M.Tk) (h : a < s.size) (hb : M.blank s[a].toNat = true) : M.scanF (f + 1) s.data.toList a acc = M.scanF (f + 1) s.data.toList (a + 1) acc := by
  have h1 : M.sp M.blank (s.data.toList.drop a) = M.sp M.blank (s.data.toList.drop (a + 1)) + 1 := by rw [drop_at s a h]; simp [M.sp, hb]
  rw [M.scanF_skip f _ a, M.scanF_skip f _ (a + 1), h1]
  congr 1
  omega

theorem let_not_dig {n : Nat} (h : M.let' n = true) : M.dig n = false := by
  rw [Bool.eq_false_iff]; intro h2; simp [M.let', M.dig] at h h2; omega

theorem drop_get (s : ByteArray) (a k : Nat) (h : a + k < s.size) : ∃ h2 : k < (s.data.toList.drop a).length, (s.data.toList.drop a)[k] = s[a + k] := by
  refine ⟨by rw [List.length_drop, bl]; omega, ?_⟩
  rw [List.getElem_drop]; rfl

theorem below_fault2 {w wr w1 : World} {o : Obj} (hnx : Below (w.heap.size + 1) (w.alloc o) wr) (hb : Below wr.heap.size wr w1) (v0 v1 : Value) :
    Below w.heap.size w ((w1.setCell ⟨w.heap.size, 0, none⟩ v0).setCell ⟨w.heap.size, 1, none⟩ v1) := by
  have h1 : Below w.heap.size w wr := ((Below.refl _ _).alloc (Nat.le_refl _) o).trans (hnx.mono (by omega))
  exact ((h1.trans (hb.mono h1.size)).setCell (p := ⟨w.heap.size, 0, none⟩) (by simp) v0).setCell (p := ⟨w.heap.size, 1, none⟩) (by simp) v1

theorem rel_belowc {w wr w1 w2 : World} {o o2 : Obj} {v : Value} {n : Nat} {xs : List Value} (hnx : Below (w.heap.size + 1) (w.alloc o) wr) (hb : Below wr.heap.size wr w1) (hown : wr.ownsRow (w.heap.size + 1) 80 3 v n xs)
    (hg : (w1.alloc o2).grownBy w2 v.ownBlock) : Below (w.heap.size + 1) (w.alloc o) w2 := by
  have hsz : w.heap.size + 1 ≤ wr.heap.size := by have := hnx.size; simpa using this
  have h1 := hnx.trans (hb.mono hsz)
  have hsz1 : w.heap.size + 1 ≤ w1.heap.size := Nat.le_trans hsz hb.size
  exact (h1.alloc hsz1 o2).grown hg (by simp; omega) (fun k hk => (hown.lt k hk).1)

theorem hasWord_any (x : ByteArray) (g : Nat) (w : World) (hcell : ∀ i (h : i < M.words.length), w.cell? ⟨g, i, none⟩ = some (.string ⟨M.words[i].toArray⟩)) :
    Calls Tryz.prog 57 #[.slice (some ⟨g, 0, none⟩) 17 17, .string x] w fun e w' => e = .returned (.bool (M.isWord x.data.toList)) ∧ w' = w := hasText_any x g 17 M.words w (by decide) hcell

theorem hasWord_b (x : ByteArray) (b : Bool) (hb : b = M.isWord x.data.toList) (g : Nat) (w : World) (hcell : ∀ i (h : i < M.words.length), w.cell? ⟨g, i, none⟩ = some (.string ⟨M.words[i].toArray⟩)) :
    Calls Tryz.prog 57 #[.slice (some ⟨g, 0, none⟩) 17 17, .string x] w fun e w' => e = .returned (.bool b) ∧ w' = w := by rw [hb]; exact hasWord_any x g w hcell

theorem words_cell2 (w : World) (o : Obj) : ∀ i (h : i < M.words.length), ((w.alloc o).alloc wordBlock).cell? ⟨w.heap.size + 1, i, none⟩ = some (.string ⟨M.words[i].toArray⟩) := by
  intro i h
  have := words_cell (w.alloc o) i h
  rw [World.size_alloc] at this
  exact this

theorem ext_mid (s : ByteArray) (a n : Nat) : s.extract a (a + n) = ⟨((s.data.toList.drop a).take n).toArray⟩ := by rw [Lib.extract_eq]; simp

theorem cells_aa (w : World) (x y z : Value) (t : TypeId) (o : Obj) (i : Nat) : ((w.alloc (.cells #[x, y, z] t)).alloc o).cell? ⟨w.heap.size, i, none⟩ = #[x, y, z][i]? := by
  rw [World.cell?_alloc_past _ _ _ (by simp), World.cell?_alloc_new]
theorem cells_a (w : World) (x y z : Value) (t : TypeId) (i : Nat) : (w.alloc (.cells #[x, y, z] t)).cell? ⟨w.heap.size, i, none⟩ = #[x, y, z][i]? := by
  rw [World.cell?_alloc_new]
theorem below_a {w : World} (a : Obj) : Below w.heap.size w (w.alloc a) := (Below.refl _ _).alloc (Nat.le_refl _) a

/-- How the ways through the switch meet, where a token of n bytes stands, or none, as 'b' says. -/
theorem meet_ok {r q : Int × List UInt8 × Nat} {p : Prop} [Decidable p] {b : Bool} (hF : r = if p then (0, [], 0) else q) (hq : q.2.2 ≠ 0) (hb : b = true ↔ ¬ p) : b = decide (r.2.2 ≠ 0) := by
  by_cases h : p
  · rw [if_pos h] at hF; subst hF
    cases hx : b
    · simp
    · exact absurd h (hb.1 hx)
  · rw [if_neg h] at hF; subst hF
    rw [hb.2 h]; simp [hq]
theorem meet_is {r q : Int × List UInt8 × Nat} {p : Prop} [Decidable p] (hF : r = if p then (0, [], 0) else q) (hr : r.2.2 ≠ 0) : r = q := by
  by_cases h : p
  · rw [if_pos h] at hF; subst hF; simp at hr
  · rw [if_neg h] at hF; exact hF

theorem head_at (s : ByteArray) (a : Nat) (h : a < s.size) : (s.data.toList.drop a).head? = some s[a] := by rw [drop_at s a h]; rfl
theorem head_end (s : ByteArray) (a : Nat) (h : s.size ≤ a) : (s.data.toList.drop a).head? = none := by rw [List.drop_of_length_le (by rw [bl]; exact h)]; rfl
theorem two_at (s : ByteArray) (a : Nat) (h : a + 1 < s.size) : (s.extract a (a + 2)).toList = [s[a], s[a + 1]] := by
  rw [ByteArray.toList_eq, ext_mid, drop_at s a (by omega), drop_at s (a + 1) h]
  rfl
theorem two_eq (s : ByteArray) (a : Nat) (h : a + 1 < s.size) (c : UInt8) : ((s.extract a (a + 2)).toList == [61, c]) = decide (s[a] = 61 ∧ s[a + 1] = c) := by
  rw [two_at s a h, Bool.eq_iff_iff]; simp

def signText : ByteArray := ⟨#[40, 41, 123, 125, 91, 93, 44, 59, 58, 46, 61, 60, 43, 45, 42, 33, 124]⟩
theorem signText_get (k : Nat) (h : k < signText.size) : ∃ h2 : k < M.chars.length, signText[k] = M.chars[k] := ⟨h, rfl⟩
def anyC (c : Nat) (k : Nat) : Bool := (M.chars.take k).any (fun x => x.toNat == c)
theorem anyC_succ (c k : Nat) (h : k < M.chars.length) : anyC c (k + 1) = (anyC c k || M.chars[k].toNat == c) := by
  unfold anyC
  rw [List.take_succ_eq_append_getElem h, List.any_append]; simp
theorem anyC_all (c : Nat) : anyC c 17 = M.isSign c := rfl
theorem anyC_zero (c : Nat) : anyC c 0 = false := rfl

set_option maxHeartbeats 8000000 in
set_option maxRecDepth 100000 in
theorem tokens_any (s : ByteArray) (w : World) (hs : s.size ≤ maxLen) : Calls Tryz.prog 37 #[.string s] w (Ans (M.scan s.data.toList) w) := by
  have hR : Hid (M.scan s.data.toList = if 4000 < s.size then ([], 2, 0) else M.scanF (s.size + 1) s.data.toList 0 []) := by show _ = _; unfold M.scan; rw [bl]
  generalize M.scan s.data.toList = R at *
  unfold maxLen at hs
  by_cases hbig : (4000 : Int) < s.size
  · go_enter Tryz.func37, Tryz.ntmps37
    go_wp2
    rw [hR.out, if_pos (by omega)]
    exact bodyPost_ret (v := .tuple #[.slice none 0 0, .agg #[.int .i64 2, .int .i64 ((0 : Nat) : Int)]]) (by simp [results, Tryz.results37, go_sem]) rfl (ans_fault 2 0 ((Below.refl _ _).alloc (Nat.le_refl _) _))
  · rw [if_neg (by omega)] at hR
    go_enter Tryz.func37, Tryz.ntmps37
    go_wp2_with fail
    go_loopw [4, 5] (fun v i wr => ∃ (a f : Nat) (acc : List M.Tk) (ad : Option Addr) (c : Nat), a ≤ s.size ∧ i = .int .i64 a ∧ s.size - a < f + 1 ∧ Hid (R = M.scanF (f + 1) s.data.toList a acc) ∧ acc.length ≤ 1000 ∧ v = .slice ad acc.length c ∧
        Hid (wr.ownsRow (w.heap.size + 1) 80 3 (.slice ad acc.length c) acc.length (rows acc)) ∧ Hid (Below (w.heap.size + 1) (w.alloc (Obj.cells #[Value.int IntKind.i64 0, Value.int IntKind.i64 0] 24)) wr)) (fun _ i _ => s.size - (intOf i).toNat)
    case atStart => exact ⟨0, s.size, [], none, 0, by omega, rfl, by omega, hR, by simp, rfl, World.ownsRow_nil _ _ _ _, Below.refl _ _⟩
    case round =>
      clear hR
      obtain ⟨a, f, acc, ad, c, ha, rfl, hf, hR, hacc, rfl, hown, hnx⟩ := hrel
      obtain ⟨hwc, hwf, hwz⟩ := old_cell hnx.out
      have q0 : wr.cell? ⟨w.heap.size, 0, none⟩ = some (.int .i64 0) := hwc 0 _ rfl
      have q1 : wr.cell? ⟨w.heap.size, 1, none⟩ = some (.int .i64 0) := hwc 1 _ rfl
      clear hwc
      by_cases hlt : a < s.size
      · cases hbk : M.blank s[a].toNat
        · have hb1 : (((s[a].toNat : Nat) : Int) == 32) = false := by simp [M.blank] at hbk; simp; omega
          have hb2 : (((s[a].toNat : Nat) : Int) == 10) = false := by simp [M.blank] at hbk; simp; omega
          have hbl : M.sp M.blank (s.data.toList.drop a) = 0 := by rw [drop_at s a hlt]; simp [M.sp, hbk]
          have HR := hR.out
          rw [M.scanF_at _ _ _ _ hbl, bl, if_neg (by omega)] at HR
          have HRR := hide HR
          clear hR hbl HR
          obtain ⟨r, hr⟩ : ∃ r, r = M.first (s.data.toList.drop a) := ⟨_, rfl⟩
          rw [← hr] at HRR
          have hfl : r.2.2 ≤ s.size - a := by have := M.first_le (s.data.toList.drop a); rw [List.length_drop, bl, ← hr] at this; exact this
          have Hr := hide hr
          clear hr
          go_upto_block 2 with fail
          go_cut [7, 9] (fun en ok wc => ∃ (n' : Nat) (kk : Int) (tx : ByteArray), en = .int .i64 (n' : Int) ∧ n' ≤ s.size + 1 ∧ ok = .bool (decide (r.2.2 ≠ 0)) ∧ wc.cell? ⟨wr.heap.size, 0, none⟩ = some (.int .i64 kk) ∧ wc.cell? ⟨wr.heap.size, 1, none⟩ = some (.string tx) ∧ wc.cell? ⟨wr.heap.size, 2, none⟩ = some (.int .i64 (a : Int)) ∧
              Hid (r.2.2 ≠ 0 → n' = a + r.2.2 ∧ kk = r.1 ∧ tx = ⟨r.2.1.toArray⟩) ∧ Hid (Below wr.heap.size wr wc))
          case first =>
            cases hl : M.let' s[a].toNat
            · cases hd : M.dig s[a].toNat
              · by_cases h34 : s[a].toNat = 34
                · as_aux_lemma =>
                  have hF : Hid (r = if 30 < M.sp M.txt (s.data.toList.drop (a + 1)) ∨ (s.data.toList.drop (a + 1 + M.sp M.txt (s.data.toList.drop (a + 1)))).head? ≠ some 34 then (0, [], 0) else (4, (s.data.toList.drop (a + 1)).take (M.sp M.txt (s.data.toList.drop (a + 1))), M.sp M.txt (s.data.toList.drop (a + 1)) + 2)) := by
                    show _ = _; rw [Hr.out, M.first, drop_at s a hlt]; simp only [List.head?_cons, h34]; rw [M.text, List.tail_cons, List.drop_drop]; rfl
                  have hle := M.sp_le M.txt (s.data.toList.drop (a + 1))
                  rw [List.length_drop, bl] at hle
                  have h34' : (((s[a].toNat : Nat) : Int) == 34) = true := by simp; omega
                  clear hfl h34
                  go_upto_block 9 with (first | (go_at_call 55; refine (refLetter_any _ _).mono ?_; rintro e w' ⟨rfl, rfl⟩) | (go_at_call 56; refine (refDigit_any _ _).mono ?_; rintro e w' ⟨rfl, rfl⟩))
                  go_cut [7] (fun en wc => en = .int .i64 ((a + 1 + M.sp M.txt (s.data.toList.drop (a + 1)) : Nat) : Int) ∧ wc = wr.alloc (Obj.cells #[Value.int IntKind.i64 0, Value.string { data := #[] }, Value.int IntKind.i64 (a : Int)] 80))
                  case first =>
                    go_wp2_with fail
                    go_loop [7] (fun i => ∃ k : Nat, i = .int .i64 ((a + 1 + k : Nat) : Int) ∧ k ≤ M.sp M.txt (s.data.toList.drop (a + 1))) (fun i => s.size - (intOf i).toNat)
                    case atStart => exact ⟨0, by go_num, Nat.zero_le _⟩
                    case round =>
                      obtain ⟨k, rfl, hq⟩ := hrel
                      by_cases hk2 : a + 1 + k < s.size
                      · have hk3 : ((a + 1 + k : Nat) : Int) < (s.size : Int) := by omega
                        obtain ⟨hd1, hd2⟩ := drop_get s (a + 1) k hk2
                        have HD := hide hd2
                        clear hd2
                        cases hy : M.txt s[a + 1 + k].toNat
                        · have Hsp := hide (M.sp_no M.txt _ k hd1 hq (by rw [HD.out]; simp [hy]))
                          have hy2 : (32 ≤ s[a + 1 + k].toNat → s[a + 1 + k].toNat ≤ 126 → s[a + 1 + k].toNat = 34) := by intro h5 h6; apply Classical.byContradiction; intro h7; simp [M.txt, h5, h6, h7] at hy
                          have HY := hide hy2
                          clear hy2 hy
                          by_cases g1 : (32 : Int) ≤ (s[a + 1 + k].toNat : Int)
                          · by_cases g2 : (s[a + 1 + k].toNat : Int) ≤ 126
                            · have g3 : ((s[a + 1 + k].toNat : Int) != 34) = false := by have := HY.out (by omega) (by omega); simp; omega
                              go_wp2_with fail
                              go_meet
                              exact ⟨by rw [Hsp.out]; go_num, rfl⟩
                            · go_wp2_with fail
                              go_meet
                              exact ⟨by rw [Hsp.out]; go_num, rfl⟩
                          · go_wp2_with fail
                            go_meet
                            exact ⟨by rw [Hsp.out]; go_num, rfl⟩
                        · have hy2 : (32 : Int) ≤ (s[a + 1 + k].toNat : Int) ∧ (s[a + 1 + k].toNat : Int) ≤ 126 ∧ ((s[a + 1 + k].toNat : Int) != 34) = true := by simp [M.txt] at hy; simp; omega
                          obtain ⟨hy3, hy4, hy5⟩ := hy2
                          go_wp2_with fail
                          go_round
                          case rel => exact ⟨k + 1, by go_num, M.sp_yes M.txt _ k hd1 hq (by rw [HD.out]; simp [hy])⟩
                          case measure => simp [intOf]; omega
                      · go_wp2_with fail
                        go_meet
                        exact ⟨by go_num, rfl⟩
                  case rest =>
                    obtain ⟨rfl, rfl⟩ := hcut
                    generalize hnn : M.sp M.txt (s.data.toList.drop (a + 1)) = n at *
                    clear hnn
                    by_cases hk : a + 1 + n < s.size
                    · have hk3 : ((a + 1 + n : Nat) : Int) < (s.size : Int) := by omega
                      have Hh := hide (head_at s (a + 1 + n) hk)
                      by_cases g3 : s[a + 1 + n].toNat = 34
                      · have g4 : ((s[a + 1 + n].toNat : Int) == 34) = true := by simp; omega
                        have Hh2 : Hid ((s.data.toList.drop (a + 1 + n)).head? = some 34) := by show _ = _; rw [Hh.out, (byte_eq s[a + 1 + n] 34 (by omega)).2 g3]; rfl
                        clear g3
                        go_wp2_with fail
                        go_region
                        go_wp2_with fail
                        go_meet
                        refine ⟨a + 1 + n + 1, 4, s.extract (a + 1) (a + 1 + n), by go_num, by omega, congrArg Value.bool (meet_ok hF.out (by simp) (by rw [Hh2.out]; simp; omega)), cells_a _ _ _ _ _ 0, cells_a _ _ _ _ _ 1, cells_a _ _ _ _ _ 2, ?_, by repeat (first | exact below_a _ | apply Below.drew)⟩
                        intro hr0
                        have := meet_is hF.out hr0
                        rw [this]
                        exact ⟨by show _ = a + (n + 2); omega, rfl, ext_mid _ _ _⟩
                      · have g4 : ((s[a + 1 + n].toNat : Int) == 34) = false := by simp; omega
                        have Hh2 : Hid ((s.data.toList.drop (a + 1 + n)).head? ≠ some 34) := by show _ ≠ _; rw [Hh.out]; intro e; exact g3 ((byte_eq s[a + 1 + n] 34 (by omega)).1 (Option.some.inj e))
                        clear g3
                        go_wp2_with fail
                        go_region
                        go_wp2_with fail
                        go_meet
                        refine ⟨a + 1 + n + 1, 4, s.extract (a + 1) (a + 1 + n), by go_num, by omega, congrArg Value.bool (meet_ok hF.out (by simp) ⟨fun h => by simp at h, fun h => absurd (Or.inr Hh2.out) h⟩), cells_a _ _ _ _ _ 0, cells_a _ _ _ _ _ 1, cells_a _ _ _ _ _ 2, ?_, by repeat (first | exact below_a _ | apply Below.drew)⟩
                        intro hr0
                        have := meet_is hF.out hr0
                        rw [this]
                        exact ⟨by show _ = a + (n + 2); omega, rfl, ext_mid _ _ _⟩
                    · have hk3 : ¬ ((a + 1 + n : Nat) : Int) < (s.size : Int) := by omega
                      have Hh2 : Hid ((s.data.toList.drop (a + 1 + n)).head? ≠ some 34) := by show _ ≠ _; rw [head_end s _ (by omega)]; simp
                      · skip
                        go_wp2_with fail
                        go_region
                        go_wp2_with fail
                        go_meet
                        refine ⟨a + 1 + n + 1, 4, s.extract (a + 1) (a + 1 + n), by go_num, by omega, congrArg Value.bool (meet_ok hF.out (by simp) ⟨fun h => by simp at h, fun h => absurd (Or.inr Hh2.out) h⟩), cells_a _ _ _ _ _ 0, cells_a _ _ _ _ _ 1, cells_a _ _ _ _ _ 2, ?_, by repeat (first | exact below_a _ | apply Below.drew)⟩
                        intro hr0
                        have := meet_is hF.out hr0
                        rw [this]
                        exact ⟨by show _ = a + (n + 2); omega, rfl, ext_mid _ _ _⟩
                · as_aux_lemma =>
                  have hF : Hid (r = if M.longest (s.data.toList.drop a) M.signs = 0 then (0, [], 0) else (5, (s.data.toList.drop a).take (M.longest (s.data.toList.drop a) M.signs), M.longest (s.data.toList.drop a) M.signs)) := by
                    show _ = M.sign _; rw [Hr.out, M.first, drop_at s a hlt]; simp [hd, hl, h34]
                  have HL : Hid (M.longest (s.data.toList.drop a) M.signs = if s[a] = 61 ∧ ((s.data.toList.drop (a + 1)).head? = some 61 ∨ (s.data.toList.drop (a + 1)).head? = some 62) then 2 else if M.isSign s[a].toNat then 1 else 0) := by
                    show _ = _; rw [drop_at s a hlt, M.longest_signs]
                  generalize M.longest (s.data.toList.drop a) M.signs = n at *
                  have h34' : (((s[a].toNat : Nat) : Int) == 34) = false := by simp; omega
                  clear hfl h34
                  by_cases hB : a + 1 < s.size ∧ s[a] = 61 ∧ ((s.data.toList.drop (a + 1)).head? = some 61 ∨ (s.data.toList.drop (a + 1)).head? = some 62)
                  · obtain ⟨h2, hB1, hB2⟩ := hB
                    have HN := HL.out
                    rw [if_pos ⟨hB1, hB2⟩] at HN
                    subst HN
                    rw [head_at s (a + 1) h2] at hB2
                    have hk3 : ((a : Int) + 1) < (s.size : Int) := by omega
                    have hk4 : ((a : Int) + 2) ≤ (s.size : Int) := by omega
                    have e1 := two_eq s a h2 61
                    have e2 := two_eq s a h2 62
                    simp only [hB1, true_and] at e1 e2
                    clear hB1
                    simp only [Option.some.injEq] at hB2
                    by_cases e3 : s[a + 1] = 61
                    · have e4 : ((s.extract a (a + 2)).toList == [61, 61]) = true := by rw [e1]; simp [e3]
                      clear e1 e2 e3 hB2
                      go_wp2_with (first | (go_at_call 55; refine (refLetter_any _ _).mono ?_; rintro e w' ⟨rfl, rfl⟩) | (go_at_call 56; refine (refDigit_any _ _).mono ?_; rintro e w' ⟨rfl, rfl⟩))
                      go_meet
                      refine ⟨a + 2, 5, _, by go_num, by omega, congrArg Value.bool (meet_ok hF.out (by simp) (by simp)), cells_a _ _ _ _ _ 0, cells_a _ _ _ _ _ 1, cells_a _ _ _ _ _ 2, ?_, below_a _⟩
                      intro hr0
                      have := meet_is hF.out hr0
                      rw [this]
                      exact ⟨rfl, rfl, ext_mid s a 2⟩
                    · have e4 : ((s.extract a (a + 2)).toList == [61, 61]) = false := by rw [e1]; simp [e3]
                      have e5 : ((s.extract a (a + 2)).toList == [61, 62]) = true := by rw [e2]; simp [hB2.resolve_left e3]
                      clear e1 e2 e3 hB2
                      go_wp2_with (first | (go_at_call 55; refine (refLetter_any _ _).mono ?_; rintro e w' ⟨rfl, rfl⟩) | (go_at_call 56; refine (refDigit_any _ _).mono ?_; rintro e w' ⟨rfl, rfl⟩))
                      go_meet
                      refine ⟨a + 2, 5, _, by go_num, by omega, congrArg Value.bool (meet_ok hF.out (by simp) (by simp)), cells_a _ _ _ _ _ 0, cells_a _ _ _ _ _ 1, cells_a _ _ _ _ _ 2, ?_, below_a _⟩
                      intro hr0
                      have := meet_is hF.out hr0
                      rw [this]
                      exact ⟨rfl, rfl, ext_mid s a 2⟩
                  · have HN : Hid (n = if M.isSign s[a].toNat then 1 else 0) := by
                      show _ = _
                      rw [HL.out, if_neg]
                      rintro ⟨g1, g2⟩
                      by_cases g3 : a + 1 < s.size
                      · exact hB ⟨g3, g1, g2⟩
                      · rw [head_end s _ (by omega)] at g2; simp at g2
                    clear HL
                    by_cases h2 : a + 1 < s.size
                    · have hk3 : ((a : Int) + 1) < (s.size : Int) := by omega
                      have hk4 : ((a : Int) + 2) ≤ (s.size : Int) := by omega
                      have e4 : ((s.extract a (a + 2)).toList == [61, 61]) = false := by
                        rw [two_eq s a h2 61]; exact decide_eq_false (fun g => hB ⟨h2, g.1, Or.inl (by rw [head_at s (a + 1) h2, g.2])⟩)
                      have e5 : ((s.extract a (a + 2)).toList == [61, 62]) = false := by
                        rw [two_eq s a h2 62]; exact decide_eq_false (fun g => hB ⟨h2, g.1, Or.inr (by rw [head_at s (a + 1) h2, g.2])⟩)
                      clear hB
                      go_upto_region 16 with (first | (go_at_call 55; refine (refLetter_any _ _).mono ?_; rintro e w' ⟨rfl, rfl⟩) | (go_at_call 56; refine (refDigit_any _ _).mono ?_; rintro e w' ⟨rfl, rfl⟩))
                      go_cut [10] (fun sg wc => sg = .string signText ∧ wc = wr.alloc (Obj.cells #[Value.int IntKind.i64 5, Value.string { data := #[] }, Value.int IntKind.i64 (a : Int)] 80))
                      case first =>
                        go_wp2_with fail
                        go_meet
                        exact ⟨rfl, rfl⟩
                      case rest =>
                        obtain ⟨rfl, rfl⟩ := hcut
                        have hg := signText_get
                        have hsz : signText.size = 17 := rfl
                        have HG := hide hg
                        clear hg
                        go_wp2_with fail
                        go_loop [9, 11] (fun ok i => ∃ k : Nat, k ≤ 17 ∧ i = .int .i64 (k : Int) ∧ ok = .bool (anyC s[a].toNat k)) (fun _ i => 17 - (intOf i).toNat)
                        case atStart => exact ⟨0, Nat.zero_le _, rfl, rfl⟩
                        case round =>
                          obtain ⟨k, hk, rfl, rfl⟩ := hrel
                          by_cases hk2 : k < signText.size
                          · obtain ⟨hk5, hk6⟩ := HG.out k hk2
                            have Hac := hide (anyC_succ s[a].toNat k hk5)
                            rw [← hk6] at Hac
                            clear hk6
                            cases hac : anyC s[a].toNat k
                            · go_wp2_with fail
                              go_round
                              case rel => exact ⟨k + 1, by omega, by go_num, by rw [Hac.out, hac]; simp; rw [Bool.eq_iff_iff]; simp; omega⟩
                              case measure => simp [intOf]; omega
                            · go_wp2_with fail
                              go_round
                              case rel => exact ⟨k + 1, by omega, by go_num, by rw [Hac.out, hac]; simp⟩
                              case measure => simp [intOf]; omega
                          · obtain rfl : k = 17 := by omega
                            rw [anyC_all]
                            go_wp2_with fail
                            go_meet
                            refine ⟨a + 1, 5, _, by go_num, by omega, ?_, cells_a _ _ _ _ _ 0, cells_a _ _ _ _ _ 1, cells_a _ _ _ _ _ 2, ?_, below_a _⟩
                            · cases hsg : M.isSign s[a].toNat
                              · have hn0 := HN.out
                                rw [hsg] at hn0
                                have h3 := hF.out
                                rw [hn0] at h3
                                rw [h3]; rfl
                              · have hn0 := HN.out
                                rw [hsg] at hn0
                                have h3 := hF.out
                                rw [hn0] at h3
                                rw [h3]; rfl
                            · intro hr0
                              have h3 := meet_is hF.out hr0
                              cases hsg : M.isSign s[a].toNat
                              · have hn0 := HN.out
                                rw [hsg] at hn0
                                rw [h3, hn0] at hr0
                                exact absurd rfl hr0
                              · have hn0 := HN.out
                                rw [hsg] at hn0
                                rw [h3, hn0]
                                exact ⟨rfl, rfl, ext_mid s a 1⟩
                    · have hk3 : ¬ ((a : Int) + 1) < (s.size : Int) := by omega
                      clear hB
                      go_upto_region 16 with (first | (go_at_call 55; refine (refLetter_any _ _).mono ?_; rintro e w' ⟨rfl, rfl⟩) | (go_at_call 56; refine (refDigit_any _ _).mono ?_; rintro e w' ⟨rfl, rfl⟩))
                      go_cut [10] (fun sg wc => sg = .string signText ∧ wc = wr.alloc (Obj.cells #[Value.int IntKind.i64 5, Value.string { data := #[] }, Value.int IntKind.i64 (a : Int)] 80))
                      case first =>
                        go_wp2_with fail
                        go_meet
                        exact ⟨rfl, rfl⟩
                      case rest =>
                        obtain ⟨rfl, rfl⟩ := hcut
                        have hg := signText_get
                        have hsz : signText.size = 17 := rfl
                        have HG := hide hg
                        clear hg
                        go_wp2_with fail
                        go_loop [9, 11] (fun ok i => ∃ k : Nat, k ≤ 17 ∧ i = .int .i64 (k : Int) ∧ ok = .bool (anyC s[a].toNat k)) (fun _ i => 17 - (intOf i).toNat)
                        case atStart => exact ⟨0, Nat.zero_le _, rfl, rfl⟩
                        case round =>
                          obtain ⟨k, hk, rfl, rfl⟩ := hrel
                          by_cases hk2 : k < signText.size
                          · obtain ⟨hk5, hk6⟩ := HG.out k hk2
                            have Hac := hide (anyC_succ s[a].toNat k hk5)
                            rw [← hk6] at Hac
                            clear hk6
                            cases hac : anyC s[a].toNat k
                            · go_wp2_with fail
                              go_round
                              case rel => exact ⟨k + 1, by omega, by go_num, by rw [Hac.out, hac]; simp; rw [Bool.eq_iff_iff]; simp; omega⟩
                              case measure => simp [intOf]; omega
                            · go_wp2_with fail
                              go_round
                              case rel => exact ⟨k + 1, by omega, by go_num, by rw [Hac.out, hac]; simp⟩
                              case measure => simp [intOf]; omega
                          · obtain rfl : k = 17 := by omega
                            rw [anyC_all]
                            go_wp2_with fail
                            go_meet
                            refine ⟨a + 1, 5, _, by go_num, by omega, ?_, cells_a _ _ _ _ _ 0, cells_a _ _ _ _ _ 1, cells_a _ _ _ _ _ 2, ?_, below_a _⟩
                            · cases hsg : M.isSign s[a].toNat
                              · have hn0 := HN.out
                                rw [hsg] at hn0
                                have h3 := hF.out
                                rw [hn0] at h3
                                rw [h3]; rfl
                              · have hn0 := HN.out
                                rw [hsg] at hn0
                                have h3 := hF.out
                                rw [hn0] at h3
                                rw [h3]; rfl
                            · intro hr0
                              have h3 := meet_is hF.out hr0
                              cases hsg : M.isSign s[a].toNat
                              · have hn0 := HN.out
                                rw [hsg] at hn0
                                rw [h3, hn0] at hr0
                                exact absurd rfl hr0
                              · have hn0 := HN.out
                                rw [hsg] at hn0
                                rw [h3, hn0]
                                exact ⟨rfl, rfl, ext_mid s a 1⟩
              · as_aux_lemma =>
                have hF : Hid (r = if 9 < M.sp M.dig (s.data.toList.drop a) ∨ s[a].toNat = 48 ∧ 1 < M.sp M.dig (s.data.toList.drop a) then (0, [], 0) else (3, (s.data.toList.drop a).take (M.sp M.dig (s.data.toList.drop a)), M.sp M.dig (s.data.toList.drop a))) := by
                  show _ = _; rw [Hr.out, M.first, drop_at s a hlt]; simp only [List.head?_cons, hd, if_true]; rw [M.number, List.head?_cons]; simp only [Option.some.injEq, show (s[a] = 48 ↔ s[a].toNat = 48) from byte_eq _ 48 (by omega)]
                have hle := M.sp_le M.dig (s.data.toList.drop a)
                rw [List.length_drop, bl] at hle
                have h1 : 1 ≤ M.sp M.dig (s.data.toList.drop a) := by rw [drop_at s a hlt]; simp [M.sp, hd]
                clear hfl
                go_upto_block 7 with (first | (go_at_call 55; refine (refLetter_any _ _).mono ?_; rintro e w' ⟨rfl, rfl⟩) | (go_at_call 56; refine (refDigit_any _ _).mono ?_; rintro e w' ⟨rfl, rfl⟩))
                go_cut [7] (fun en wc => en = .int .i64 ((a + M.sp M.dig (s.data.toList.drop a) : Nat) : Int) ∧ wc = wr.alloc (Obj.cells #[Value.int IntKind.i64 0, Value.string { data := #[] }, Value.int IntKind.i64 (a : Int)] 80))
                case first =>
                  go_wp2_with fail
                  go_loop [7] (fun i => ∃ k : Nat, 1 ≤ k ∧ i = .int .i64 ((a + k : Nat) : Int) ∧ k ≤ M.sp M.dig (s.data.toList.drop a)) (fun i => s.size - (intOf i).toNat)
                  case atStart => exact ⟨1, Nat.le_refl _, by go_num, h1⟩
                  case round =>
                    obtain ⟨k, hk, rfl, hq⟩ := hrel
                    by_cases hk2 : a + k < s.size
                    · have hk3 : ((a + k : Nat) : Int) < (s.size : Int) := by omega
                      obtain ⟨hd1, hd2⟩ := drop_get s a k hk2
                      have HD := hide hd2
                      clear hd2
                      cases hy : M.dig s[a + k].toNat
                      · have Hsp := hide (M.sp_no M.dig _ k hd1 hq (by rw [HD.out]; simp [hy]))
                        go_wp2_with (go_at_call 56; refine (refDigit_any _ _).mono ?_; rintro e w' ⟨rfl, rfl⟩)
                        go_meet
                        exact ⟨by rw [Hsp.out]; go_num, rfl⟩
                      · go_wp2_with (go_at_call 56; refine (refDigit_any _ _).mono ?_; rintro e w' ⟨rfl, rfl⟩)
                        go_round
                        case rel => exact ⟨k + 1, by omega, by go_num, M.sp_yes M.dig _ k hd1 hq (by rw [HD.out]; simp [hy])⟩
                        case measure => simp [intOf]; omega
                    · go_wp2_with fail
                      go_meet
                      exact ⟨by go_num, rfl⟩
                case rest =>
                  obtain ⟨rfl, rfl⟩ := hcut
                  generalize hnn : M.sp M.dig (s.data.toList.drop a) = n at *
                  clear hnn
                  go_wp2_with fail
                  go_region
                  by_cases h48 : s[a].toNat = 48
                  · have h48' : (((s[a].toNat : Nat) : Int) != 48) = false := by simp; omega
                    have H48 := hide h48
                    clear h48
                    by_cases h9 : (n : Int) ≤ 9
                    all_goals
                      go_wp2_with fail
                      go_meet
                      refine ⟨a + n, 3, s.extract a (a + n), by go_num, by omega, congrArg Value.bool (meet_ok hF.out (by show n ≠ 0; omega) (by have := H48.out; simp; omega)), cells_a _ _ _ _ _ 0, cells_a _ _ _ _ _ 1, cells_a _ _ _ _ _ 2, ?_, by repeat (first | exact below_a _ | apply Below.drew)⟩
                      intro hr0
                      have := meet_is hF.out hr0
                      rw [this]
                      exact ⟨rfl, rfl, ext_mid _ _ _⟩
                  · have h48' : (((s[a].toNat : Nat) : Int) != 48) = true := by simp; omega
                    have H48 := hide h48
                    clear h48
                    by_cases h9 : (n : Int) ≤ 9
                    all_goals
                      go_wp2_with fail
                      go_meet
                      refine ⟨a + n, 3, s.extract a (a + n), by go_num, by omega, congrArg Value.bool (meet_ok hF.out (by show n ≠ 0; omega) (by have := H48.out; simp; omega)), cells_a _ _ _ _ _ 0, cells_a _ _ _ _ _ 1, cells_a _ _ _ _ _ 2, ?_, by repeat (first | exact below_a _ | apply Below.drew)⟩
                      intro hr0
                      have := meet_is hF.out hr0
                      rw [this]
                      exact ⟨rfl, rfl, ext_mid _ _ _⟩
            · as_aux_lemma =>
              have hne : M.dig s[a].toNat = false := let_not_dig hl
              have hF : Hid (r = if 20 < M.sp M.nam (s.data.toList.drop a) then (0, [], 0) else (if M.isWord ((s.data.toList.drop a).take (M.sp M.nam (s.data.toList.drop a))) then 2 else 1, (s.data.toList.drop a).take (M.sp M.nam (s.data.toList.drop a)), M.sp M.nam (s.data.toList.drop a))) := by
                show _ = M.name _; rw [Hr.out, M.first, drop_at s a hlt]; simp [hl, hne]
              have hle := M.sp_le M.nam (s.data.toList.drop a)
              rw [List.length_drop, bl] at hle
              have h1 : 1 ≤ M.sp M.nam (s.data.toList.drop a) := by rw [drop_at s a hlt]; simp [M.sp, M.nam, hl]
              clear hfl
              go_upto_block 5 with (go_at_call 55; refine (refLetter_any _ _).mono ?_; rintro e w' ⟨rfl, rfl⟩)
              go_cut [7] (fun en wc => en = .int .i64 ((a + M.sp M.nam (s.data.toList.drop a) : Nat) : Int) ∧ wc = wr.alloc (Obj.cells #[Value.int IntKind.i64 0, Value.string { data := #[] }, Value.int IntKind.i64 (a : Int)] 80))
              case first =>
                go_wp2_with fail
                go_loop [7] (fun i => ∃ k : Nat, 1 ≤ k ∧ i = .int .i64 ((a + k : Nat) : Int) ∧ k ≤ M.sp M.nam (s.data.toList.drop a)) (fun i => s.size - (intOf i).toNat)
                case atStart => exact ⟨1, Nat.le_refl _, by go_num, h1⟩
                case round =>
                  obtain ⟨k, hk, rfl, hq⟩ := hrel
                  by_cases hk2 : a + k < s.size
                  · have hk3 : ((a + k : Nat) : Int) < (s.size : Int) := by omega
                    obtain ⟨hd1, hd2⟩ := drop_get s a k hk2
                    have HD := hide hd2
                    clear hd2
                    cases hx : M.let' s[a + k].toNat
                    · cases hy : M.dig s[a + k].toNat
                      · have Hsp := hide (M.sp_no M.nam _ k hd1 hq (by rw [HD.out]; simp [M.nam, hx, hy]))
                        go_wp2_with (first | (go_at_call 55; refine (refLetter_any _ _).mono ?_; rintro e w' ⟨rfl, rfl⟩) | (go_at_call 56; refine (refDigit_any _ _).mono ?_; rintro e w' ⟨rfl, rfl⟩))
                        go_meet
                        exact ⟨by rw [Hsp.out]; go_num, rfl⟩
                      · go_wp2_with (first | (go_at_call 55; refine (refLetter_any _ _).mono ?_; rintro e w' ⟨rfl, rfl⟩) | (go_at_call 56; refine (refDigit_any _ _).mono ?_; rintro e w' ⟨rfl, rfl⟩))
                        go_round
                        case rel => exact ⟨k + 1, by omega, by go_num, M.sp_yes M.nam _ k hd1 hq (by rw [HD.out]; simp [M.nam, hy])⟩
                        case measure => simp [intOf]; omega
                    · go_wp2_with (first | (go_at_call 55; refine (refLetter_any _ _).mono ?_; rintro e w' ⟨rfl, rfl⟩) | (go_at_call 56; refine (refDigit_any _ _).mono ?_; rintro e w' ⟨rfl, rfl⟩))
                      go_round
                      case rel => exact ⟨k + 1, by omega, by go_num, M.sp_yes M.nam _ k hd1 hq (by rw [HD.out]; simp [M.nam, hx])⟩
                      case measure => simp [intOf]; omega
                  · go_wp2_with fail
                    go_meet
                    exact ⟨by go_num, rfl⟩
              case rest =>
                obtain ⟨rfl, rfl⟩ := hcut
                generalize hnn : M.sp M.nam (s.data.toList.drop a) = n at *
                clear hnn
                go_wp2_with fail
                go_region
                have hcw := words_cell2 wr (Obj.cells #[Value.int IntKind.i64 1, Value.string (s.extract a (a + n)), Value.int IntKind.i64 (a : Int)] 80)
                go_wp2_with fail
                obtain ⟨b, HW, HV⟩ : ∃ b, Hid (b = M.isWord ((s.data.toList.drop a).take n)) ∧ Hid (b = M.isWord (s.extract a (a + n)).data.toList) := ⟨_, rfl, by show _ = _; rw [ext_mid]⟩
                go_region_with (first | (go_at_call 58; refine (words_any _).mono ?_; rintro e w' ⟨rfl, rfl⟩) | (go_at_call 57; refine (hasWord_b _ b HV.out (wr.heap.size + 1) _ (by exact hcw)).mono ?_; rintro e w' ⟨rfl, rfl⟩))
                all_goals
                  cases b
                  · go_wp2_with fail
                    go_meet
                    refine ⟨a + n, 1, s.extract a (a + n), by go_num, by omega, congrArg Value.bool (meet_ok hF.out (by show n ≠ 0; omega) (by simp; omega)), cells_aa _ _ _ _ _ _ 0, cells_aa _ _ _ _ _ _ 1, cells_aa _ _ _ _ _ _ 2, ?_, by repeat (first | exact below_aa _ _ | apply Below.drew)⟩
                    intro hr0
                    have := meet_is hF.out hr0
                    rw [← HW.out] at this
                    rw [this]
                    exact ⟨rfl, rfl, ext_mid _ _ _⟩
                  · go_wp2_with fail
                    go_meet
                    refine ⟨a + n, 2, s.extract a (a + n), by go_num, by omega, congrArg Value.bool (meet_ok hF.out (by show n ≠ 0; omega) (by simp; omega)), cells_aa _ _ _ _ _ _ 0, cells_aa _ _ _ _ _ _ 1, cells_aa _ _ _ _ _ _ 2, ?_, by repeat (first | exact below_aa _ _ | apply Below.drew)⟩
                    intro hr0
                    have := meet_is hF.out hr0
                    rw [← HW.out] at this
                    rw [this]
                    exact ⟨rfl, rfl, ext_mid _ _ _⟩
          case rest =>
            obtain ⟨n', kk, tx, rfl, hn', rfl, t0, t1, t2, HT, HB⟩ := hcut
            as_aux_lemma =>
            have hz : w.heap.size < wc.heap.size := Nat.lt_of_lt_of_le hwz HB.out.size
            obtain ⟨hc, hfz⟩ := bcell HB.out
            have p0 : wc.cell? ⟨w.heap.size, 0, none⟩ = some (.int .i64 0) := (hc _ _ hwz).trans q0
            have p1 : wc.cell? ⟨w.heap.size, 1, none⟩ = some (.int .i64 0) := (hc _ _ hwz).trans q1
            have z0 : ∀ o, wc.frozen? ⟨w.heap.size, o, none⟩ = false := fun o => (hfz _ _ hwz).trans (hwf o)
            clear hc hfz q0 q1 hwf Hr
            obtain ⟨k, t, n⟩ := r
            simp only at HRR HT hfl
            by_cases hn : n = 0
            · subst hn
              go_wp2_with fail
              rw [HRR.out, if_pos (by trivial)]
              exact bodyPost_ret (v := .tuple #[.slice none 0 0, .agg #[.int .i64 1, .int .i64 (a : Int)]]) (by simp [results, Tryz.results37, go_sem, p0, p1]) rfl (ans_fault 1 a (below_fault2 hnx.out HB.out _ _))
            · have hn2 : decide (n ≠ 0) = true := by simp [hn]
              obtain ⟨rfl, rfl, rfl⟩ := HT.out hn
              have HRR2 := HRR.out
              rw [if_neg hn] at HRR2
              have HR3 := hide HRR2
              clear HRR2 HRR HT
              by_cases hm : acc.length = 1000
              · have hm' : ((acc.length : Int) == 1000) = true := by simp; omega
                rw [if_pos hm] at HR3
                clear hm
                go_wp2_with fail
                rw [HR3.out]
                exact bodyPost_ret (v := .tuple #[.slice none 0 0, .agg #[.int .i64 2, .int .i64 (a : Int)]]) (by simp [results, Tryz.results37, go_sem, p0, p1]) rfl (ans_fault 2 a (below_fault2 hnx.out HB.out _ _))
              · have hm' : ((acc.length : Int) == 1000) = false := by simp; omega
                rw [if_neg hm] at HR3
                have hm2 : acc.length < 1000 := by omega
                clear hm
                obtain ⟨i0, hi, hz0, hz1, hz2⟩ := info_parts Tryz.info80
                have hw3 := hide ((ownsRow_below hown.out HB.out).alloc (.cells #[Value.int IntKind.i64 kk, Value.string { data := t.toArray }, Value.int IntKind.i64 (a : Int)] 80))
                go_wp2_with (at_builtin; refine wpList_append_own _ rfl _ _ 69 rfl (w.heap.size + 1) 80 i0 (.agg #[.int .i64 0, .string ⟨#[]⟩, .int .i64 0]) 3 32 Tryz.underlying69 hi hz0 hz1 hz2 rfl (by decide) _ _ _ rfl hw3.out ⟨wc.heap.size, 0, none⟩ 1 1 [.int .i64 kk, .string ⟨t.toArray⟩, .int .i64 (a : Int)] rfl rfl ?c1 ?c2 ?c3 ?c4 ?c5 ?_)
                case c1 => exact cell_three_one _ _ _ _ _
                case c2 => intro u hu; simp at hu; rcases hu with rfl | rfl | rfl <;> rfl
                case c3 => simp only [maxLen]; omega
                case c4 => omega
                case c5 => simp; omega
                · intro v' w2 hown2 hg2 _
                  obtain ⟨ad2, c2, hv2⟩ := ownsRow_form hown2
                  rw [hv2] at hown2 ⊢
                  obtain ⟨f', rfl⟩ : ∃ f', f = f' + 1 := ⟨f - 1, by omega⟩
                  have HO := hide (rel_more (t := ⟨kk, t, a⟩) hown2)
                  have HBB := hide (rel_belowc hnx.out HB.out hown.out hg2)
                  clear hown2 hg2 hown hnx HB hw3 hv2
                  go_wp2_with fail
                  go_roundw
                  case rel => exact ⟨a + n, f', _, ad2, c2, by omega, by go_num, by omega, HR3, by simp; omega, by simp, by have := HO.out; show World.ownsRow _ _ _ _ _ _ _; simpa using this, HBB⟩
                  case measure => simp [intOf]; omega
        · have hb : (((s[a].toNat : Nat) : Int) == 32) = true ∨ ((((s[a].toNat : Nat) : Int) == 32) = false ∧ (((s[a].toNat : Nat) : Int) == 10) = true) := by simp [M.blank] at hbk; simp; omega
          have HB := hide (blank_step f acc hlt hbk)
          as_aux_lemma =>
          rcases hb with hb | ⟨hb1, hb2⟩
          all_goals
            go_wp2_with fail
            go_roundw
            case rel => exact ⟨a + 1, f, acc, ad, c, by omega, by go_num, by omega, by show _ = _; rw [hR.out]; exact HB.out, hacc, rfl, hown, hnx⟩
            case measure => simp [intOf]; omega
      · as_aux_lemma =>
        have HR := hR.out
        rw [M.scanF_at _ _ _ _ (by rw [List.drop_of_length_le (by rw [bl]; omega)]; rfl), bl, if_pos (by omega)] at HR
        have HR3 := hide HR
        clear HR hR
        have hz : w.heap.size < wr.heap.size := hwz
        obtain ⟨i0, hi, hz0, hz1, hz2⟩ := info_parts Tryz.info80
        have hw3 := hide (hown.out.alloc (.cells #[Value.int IntKind.i64 6, Value.string { data := #[] }, Value.int IntKind.i64 (s.size : Int)] 80))
        go_wp2_with (at_builtin; refine wpList_append_own _ rfl _ _ 69 rfl (w.heap.size + 1) 80 i0 (.agg #[.int .i64 0, .string ⟨#[]⟩, .int .i64 0]) 3 32 Tryz.underlying69 hi hz0 hz1 hz2 rfl (by decide) _ _ _ rfl hw3.out ⟨wr.heap.size, 0, none⟩ 1 1 [.int .i64 6, .string ⟨#[]⟩, .int .i64 (s.size : Int)] rfl rfl ?c1 ?c2 ?c3 ?c4 ?c5 ?_)
        case c1 => exact cell_three_one _ _ _ _ _
        case c2 => intro u hu; simp at hu; rcases hu with rfl | rfl | rfl <;> rfl
        case c3 => simp only [maxLen]; omega
        case c4 => omega
        case c5 => simp; omega
        · intro v' w2 hown2 hg2 _
          obtain ⟨ad2, c2, hv2⟩ := ownsRow_form hown2
          rw [hv2] at hown2 ⊢
          have HO := hide (rel_more (t := ⟨6, [], s.size⟩) hown2)
          have HBB := hide (rel_below' hnx.out hown.out hg2)
          clear hown2 hg2 hown hnx hw3 hwf hwz hv2 q0 q1
          obtain ⟨hwc, hwf, hwz⟩ := old_cell HBB.out
          have q0 : w2.cell? ⟨w.heap.size, 0, none⟩ = some (.int .i64 0) := hwc 0 _ rfl
          have q1 : w2.cell? ⟨w.heap.size, 1, none⟩ = some (.int .i64 0) := hwc 1 _ rfl
          clear hwc
          go_wp2_with fail
          rw [HR3.out]
          exact bodyPost_ret (v := .tuple #[.slice ad2 (acc.length + 1) c2, .agg #[.int .i64 0, .int .i64 ((0 : Nat) : Int)]]) (by simp [results, Tryz.results37, go_sem, q0, q1]) rfl (ans_ok HO.out HBB.out _ _)
end Go.Proofs.YtkilicjjaljghaaGreat
