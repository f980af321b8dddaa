/-
  The writer: a builder that lies at the head of a greater block.
  The contracts of Say, word and needsBrackets.
  The writer and its types; the contracts of word and needsBrackets.
  The contract of Type's closure, over Type.
-/
import Derived.Test.YtjojlcfoiknlhaaGreatDoorScanC
import Derived.Test.YtjojlcfoiknlhaaGreatDoorPlainB
import Derived.Deep.QuietTactic
import Derived.BigQuiet
import Derived.Shelf.Strings.Builder1
namespace Go.Proofs.YtjojlcfoiknlhaaGreatDoor
open Go.RowKit

/-- What a writer may change: its own block, and bytes. -/
def Wkp (B wb : Nat) (w w' : World) : Prop := Chg (fun k => B ≤ k ∧ (k = wb ∨ ∃ cs fz, w.heap[k]? = some (.cells cs 5 fz))) w w'
theorem Wkp.refl (B wb : Nat) (w : World) : Wkp B wb w w := Chg.refl _ _
theorem Wkp.trans {B wb : Nat} {a b c : World} (h : Wkp B wb a b) (k : Wkp B wb b c) : Wkp B wb a c := by
  refine ⟨k.os.trans h.os, k.tape.trans h.tape, k.output.trans h.output, Nat.le_trans h.size k.size, fun i hi hn => ?_⟩
  have h1 := h.block i hi hn
  refine (k.block i (Nat.lt_of_lt_of_le hi h.size) (fun x => hn ⟨x.1, ?_⟩)).trans h1
  rcases x.2 with hx | ⟨cs, fz, hh⟩
  · exact .inl hx
  · exact .inr ⟨cs, fz, by rw [← h1]; exact hh⟩
theorem Wkp.still {B wb : Nat} {w w' : World} (h : Chg (fun _ => False) w w') : Wkp B wb w w' := h.mono fun _ _ x => x.elim
theorem Wkp.below {B wb : Nat} {w w' : World} (h : Wkp B wb w w') (hB : B ≤ w.heap.size) : Below B w w' := Chg.toBelow h (fun _ _ x => x.1) hB
theorem Wkp.set {B wb : Nat} (hB : B ≤ wb) (w : World) (o : Nat) (v : Value) : Wkp B wb w (w.setCell ⟨wb, o, none⟩ v) := (Chg.set w _ v).mono fun k _ x => by
  have x' : k = wb := x
  exact ⟨by omega, .inl x'⟩
/-- A row of something else is kept. -/
theorem Wkp.row {B wb : Nat} {w w' : World} (hc : Wkp B wb w w') {base : Nat} {e : TypeId} {size : Nat} {v : Value} {n : Nat} {xs : List Value} (h : w.ownsRow base e size v n xs) (he : e ≠ 5) (hw : v.ownBlock ≠ some wb) : w'.ownsRow base e size v n xs := by
  refine owns_chg h hc fun g hg hx => ?_
  rcases hx.2 with rfl | ⟨cs, fz, hh⟩
  · exact hw hg
  · obtain ⟨_, cur, hh2⟩ := owns_tag h g hg
    rw [hh] at hh2
    simp only [Option.some.injEq, Obj.cells.injEq] at hh2
    exact he hh2.2.1.symm

/-- What a writer's block is: its own, or a printer's. -/
structure Wk where
  b : Bool
  e : TypeId
  rest : Array Value
  ok : (e = 78 ∧ rest = #[]) ∨ (e = 80 ∧ ∃ nv dp, rest = #[nv, .int .i64 dp])
theorem Wk.ne (k : Wk) {t : TypeId} (h1 : t ≠ 78) (h2 : t ≠ 80) : k.e ≠ t := by
  rcases k.ok with ⟨h, _⟩ | ⟨h, _⟩
  · rw [h]; exact h1.symm
  · rw [h]; exact h2.symm

/-- The writer's block: what is written, the types, and whether fields go by their names. -/
structure Wrt (w : World) (B wb : Nat) (tv : Value) (bn : Wk) (bs : List UInt8) : Prop where
  low : B ≤ wb
  blk : ∃ p v, w.heap[wb]? = some (.cells (#[p, v, tv, .bool bn.b] ++ bn.rest) bn.e (0, 0)) ∧ (p = .pointer none ∨ p = .pointer (some ⟨wb, 0, none⟩)) ∧ w.ownsRow B 5 1 v bs.length (Lib.byteCells bs)

theorem head_get0 {a b c d : Value} {r : Array Value} : (#[a, b, c, d] ++ r)[0]? = some a := by rw [Array.getElem?_append_left (by simp)]; rfl
theorem head_get1 {a b c d : Value} {r : Array Value} : (#[a, b, c, d] ++ r)[1]? = some b := by rw [Array.getElem?_append_left (by simp)]; rfl
theorem head_get2 {a b c d : Value} {r : Array Value} : (#[a, b, c, d] ++ r)[2]? = some c := by rw [Array.getElem?_append_left (by simp)]; rfl
theorem head_get3 {a b c d : Value} {r : Array Value} : (#[a, b, c, d] ++ r)[3]? = some d := by rw [Array.getElem?_append_left (by simp)]; rfl
theorem Wrt.still {w w' : World} {B wb : Nat} {tv : Value} {bn : Wk} {bs : List UInt8} (h : Wrt w B wb tv bn bs) (hc : Chg (fun _ => False) w w') : Wrt w' B wb tv bn bs := by
  obtain ⟨hB, p, v, hb, hp, ho⟩ := h
  exact ⟨hB, p, v, by rw [hc.block wb (Array.getElem?_eq_some_iff.1 hb).1 (fun x => x)]; exact hb, hp, owns_chg ho hc (fun _ _ x => x)⟩
theorem Wrt.tys {w : World} {B wb : Nat} {tv : Value} {bn : Wk} {bs : List UInt8} (h : Wrt w B wb tv bn bs) : w.cell? ⟨wb, 2, none⟩ = some tv ∧ w.cell? ⟨wb, 3, none⟩ = some (.bool bn.b) ∧ wb < w.heap.size := by
  obtain ⟨hB, p, v, hb, hp, ho⟩ := h
  exact ⟨by rw [cell_of_row w wb 2 _ _ _ hb]; exact head_get2, by rw [cell_of_row w wb 3 _ _ _ hb]; exact head_get3, (Array.getElem?_eq_some_iff.1 hb).1⟩

theorem Tryz.sizeBld : (Tryz.prog.info? 76).map (·.size) = some 2 := by kernel_rfl
theorem Tryz.liesBld : liesAt Tryz.prog Tryz.prog.depth 78 (4 / Tryz.prog.cellsOf 78) 0 76 1 = true := by kernel_rfl
theorem Tryz.liesBldP : liesAt Tryz.prog Tryz.prog.depth 80 (6 / Tryz.prog.cellsOf 80) 0 76 1 = true := by kernel_rfl
theorem Tryz.infoByte : (Tryz.prog.info? 5).map (fun i => (i.zero, i.size, i.bytes)) = some (some (.int .u8 0), 1, 1) := by kernel_rfl
theorem Tryz.cellsByte : Tryz.prog.cellsOf 5 = 1 := by kernel_rfl

set_option maxHeartbeats 1000000 in
set_option maxRecDepth 100000 in
theorem copyCheck_used (b : Nat) (w : World) (h0 : w.cell? ⟨b, 0, none⟩ = some (.pointer (some ⟨b, 0, none⟩))) :
    Calls Tryz.prog 142 #[.pointer (some ⟨b, 0, none⟩)] w fun e w' => e = .returned (.tuple #[]) ∧ w' = w := by
  obtain ⟨j, hj, _⟩ := Option.map_eq_some_iff.1 Tryz.sizeBld
  go_enter Tryz.func142, Tryz.ntmps142
  go_wp2
  rw [Lib.run_neq_ptr_same w _ Tryz.underlying73 hj]
  go_wp2
  go_end0
  exact ⟨rfl, rfl⟩

set_option maxHeartbeats 1000000 in
set_option maxRecDepth 100000 in
theorem copyCheck_fresh (b : Nat) (w : World) (h0 : w.cell? ⟨b, 0, none⟩ = some (.pointer none)) (hsh : w.shape? b = some (78, 4)) (hfz : w.frozen? ⟨b, 0, none⟩ = false) :
    Calls Tryz.prog 142 #[.pointer (some ⟨b, 0, none⟩)] w fun e w' => e = .returned (.tuple #[]) ∧ w' = w.setCell ⟨b, 0, none⟩ (.pointer (some ⟨b, 0, none⟩)) := by
  obtain ⟨j, hj, hjs⟩ := Option.map_eq_some_iff.1 Tryz.sizeBld
  go_enter Tryz.func142, Tryz.ntmps142
  go_wp2
  rw [Lib.run_to_unsafe w ⟨b, 0, none⟩ Tryz.underlying73 Tryz.underlying163 hj (by rw [hjs]; decide) hsh (Nat.zero_lt_succ 3)]
  simp only [Result.andThen]
  rw [Oper.upon_value]
  go_wp2
  rw [run_callFunc_extern Tryz.func172 (by kernel_rfl) (by kernel_rfl) (by kernel_rfl) (e := Extern.AbiNoEscape.same) (by kernel_rfl)]
  rw [Lib.run_noEscape]
  simp only [Result.andThen]
  rw [Oper.upon_value]
  go_wp2
  rw [Lib.run_from_unsafe w ⟨b, 0, none⟩ Tryz.underlying163 Tryz.underlying73 hj hsh Tryz.liesBld]
  simp only [Result.andThen]
  rw [Oper.upon_value]
  go_wp2
  go_end0
  exact ⟨rfl, rfl⟩

set_option maxHeartbeats 1000000 in
set_option maxRecDepth 100000 in
theorem copyCheck_freshP (b : Nat) (w : World) (h0 : w.cell? ⟨b, 0, none⟩ = some (.pointer none)) (hsh : w.shape? b = some (80, 6)) (hfz : w.frozen? ⟨b, 0, none⟩ = false) :
    Calls Tryz.prog 142 #[.pointer (some ⟨b, 0, none⟩)] w fun e w' => e = .returned (.tuple #[]) ∧ w' = w.setCell ⟨b, 0, none⟩ (.pointer (some ⟨b, 0, none⟩)) := by
  obtain ⟨j, hj, hjs⟩ := Option.map_eq_some_iff.1 Tryz.sizeBld
  go_enter Tryz.func142, Tryz.ntmps142
  go_wp2
  rw [Lib.run_to_unsafe w ⟨b, 0, none⟩ Tryz.underlying73 Tryz.underlying163 hj (by rw [hjs]; decide) hsh (Nat.zero_lt_succ 5)]
  simp only [Result.andThen]
  rw [Oper.upon_value]
  go_wp2
  rw [run_callFunc_extern Tryz.func172 (by kernel_rfl) (by kernel_rfl) (by kernel_rfl) (e := Extern.AbiNoEscape.same) (by kernel_rfl)]
  rw [Lib.run_noEscape]
  simp only [Result.andThen]
  rw [Oper.upon_value]
  go_wp2
  rw [Lib.run_from_unsafe w ⟨b, 0, none⟩ Tryz.underlying163 Tryz.underlying73 hj hsh Tryz.liesBldP]
  simp only [Result.andThen]
  rw [Oper.upon_value]
  go_wp2
  go_end0
  exact ⟨rfl, rfl⟩

theorem copyCheck_any {w : World} {B wb : Nat} {tv : Value} {bn : Wk} {bs : List UInt8} (h : Wrt w B wb tv bn bs) :
    Calls Tryz.prog 142 #[.pointer (some ⟨wb, 0, none⟩)] w fun e w' => e = .returned (.tuple #[]) ∧ Wkp B wb w w' ∧ w'.heap.size = w.heap.size ∧
      ∃ v, w'.heap[wb]? = some (.cells (#[.pointer (some ⟨wb, 0, none⟩), v, tv, .bool bn.b] ++ bn.rest) bn.e (0, 0)) ∧ w'.ownsRow B 5 1 v bs.length (Lib.byteCells bs) := by
  obtain ⟨hB, p, v, hb, hp, ho⟩ := h
  have hlt := (Array.getElem?_eq_some_iff.1 hb).1
  rcases hp with rfl | rfl
  · have c0 : w.cell? ⟨wb, 0, none⟩ = some (.pointer none) := by rw [cell_of_row w wb 0 _ _ _ hb]; exact head_get0
    have HF : Calls Tryz.prog 142 #[.pointer (some ⟨wb, 0, none⟩)] w fun e w' => e = .returned (.tuple #[]) ∧ w' = w.setCell ⟨wb, 0, none⟩ (.pointer (some ⟨wb, 0, none⟩)) := by
      rcases bn.ok with ⟨he, hr⟩ | ⟨he, nv, dp, hr⟩
      · exact copyCheck_fresh wb w c0 (by simp [World.shape?, hb, he, hr]) (frozen_of_row w wb 0 _ _ hb)
      · exact copyCheck_freshP wb w c0 (by simp [World.shape?, hb, he, hr]) (frozen_of_row w wb 0 _ _ hb)
    refine HF.mono ?_
    rintro e w' ⟨rfl, rfl⟩
    refine ⟨rfl, Wkp.set hB w 0 _, by simp, v, by rw [heap_setCell_same w wb 0 _ _ _ hb]; simp, owns_chg ho (Chg.set w ⟨wb, 0, none⟩ _) fun k hk hx => ?_⟩
    have hx' : k = wb := hx
    subst hx'
    obtain ⟨_, cur, hh⟩ := owns_tag ho k hk
    rw [hb] at hh
    simp only [Option.some.injEq, Obj.cells.injEq] at hh
    exact absurd hh.2.1 (bn.ne (by decide) (by decide))
  · refine (copyCheck_used wb w (by rw [cell_of_row w wb 0 _ _ _ hb]; exact head_get0)).mono ?_
    rintro e w' ⟨rfl, rfl⟩
    exact ⟨rfl, Wkp.refl _ _ _, rfl, v, hb, ho⟩

set_option maxHeartbeats 2000000 in
set_option maxRecDepth 100000 in
theorem writeString_any {w : World} {B wb : Nat} {tv : Value} {bn : Wk} {bs : List UInt8} (h : Wrt w B wb tv bn bs) (s : ByteArray) (hlen : bs.length + s.size ≤ 100000000000000) (hBw : B ≤ w.heap.size) :
    Calls Tryz.prog 109 #[.pointer (some ⟨wb, 0, none⟩), .string s] w fun e w' => e = .returned (.tuple #[.int .i64 s.size, .nilIface]) ∧ Wkp B wb w w' ∧ Wrt w' B wb tv bn (bs ++ s.data.toList) := by
  obtain ⟨i0, hi, hz0, hz1, hz2⟩ := info_parts Tryz.infoByte
  have hB := h.low
  have HC := hide (copyCheck_any h)
  clear h
  go_enter Tryz.func109, Tryz.ntmps109
  go_wp2_with fail
  refine HC.out.mono ?_
  rintro e w1 ⟨rfl, hk1, hs1, v, hbk, hown⟩
  have hlt := (Array.getElem?_eq_some_iff.1 hbk).1
  have c1 : w1.cell? ⟨wb, 1, none⟩ = some v := by rw [cell_of_row w1 wb 1 _ _ _ hbk]; exact head_get1
  have HK1 := hide hk1
  have HBK := hide hbk
  have HO := hide hown
  have HS1 := hide hs1
  clear hk1 hbk hown hs1
  go_wp2_with (at_builtin; refine Lib.wpList_append_own_string _ rfl _ _ 74 9 rfl B 5 i0 Tryz.underlying74 Tryz.underlying9 hi hz0 hz1 hz2 _ _ _ rfl HO.out s rfl ?c3 ?c4 ?c5 ?_)
  case c3 => unfold maxLen; omega
  case c4 => omega
  case c5 => rw [HS1.out]; exact hBw
  intro v' w2 hown' hgrow _
  have hne : v.ownBlock ≠ some wb := by
    intro hx
    obtain ⟨_, cur, hh⟩ := owns_tag HO.out wb hx
    rw [HBK.out] at hh
    simp only [Option.some.injEq, Obj.cells.injEq] at hh
    exact absurd hh.2.1 (bn.ne (by decide) (by decide))
  have hb2 : w2.heap[wb]? = some (.cells (#[.pointer (some ⟨wb, 0, none⟩), v, tv, .bool bn.b] ++ bn.rest) bn.e (0, 0)) := by
    rw [hgrow.block wb hlt (fun e => hne e.symm)]
    exact HBK.out
  have d1 : w2.cell? ⟨wb, 1, none⟩ = some v := by rw [cell_of_row w2 wb 1 _ _ _ hb2]; exact head_get1
  have f1 : w2.frozen? ⟨wb, 1, none⟩ = false := frozen_of_row w2 wb 1 _ _ hb2
  obtain ⟨ao, n', cap, rfl⟩ : ∃ ao n' cap, v' = .slice ao n' cap := by
    rcases hown'.2 with ⟨hv, _⟩ | ⟨g, cap, cur, hv, _⟩
    · exact ⟨_, _, _, hv⟩
    · exact ⟨_, _, _, hv⟩
  have HB2 := hide hb2
  have HO2 := hide hown'
  have HG := hide hgrow
  clear hb2 hown' hgrow
  go_wp2
  go_ret2
  refine ⟨rfl, ?_, hB, _, .slice ao n' cap, by rw [heap_setCell_same w2 wb 1 _ _ _ HB2.out]; simp, .inr rfl, ?_⟩
  · refine (HK1.out.trans ?_).trans (Wkp.set hB w2 1 _)
    refine (Chg.grown HG.out).mono fun k hk hx => ?_
    obtain ⟨hlow, cur, hh⟩ := owns_tag HO.out k hx.symm
    exact ⟨hlow, .inr ⟨cur, _, hh⟩⟩
  · have := owns_chg HO2.out (Chg.set w2 ⟨wb, 1, none⟩ (.slice ao n' cap)) fun k hk hx => by
      have hx' : k = wb := hx
      subst hx'
      obtain ⟨_, cur, hh⟩ := owns_tag HO2.out k hk
      rw [HB2.out] at hh
      simp only [Option.some.injEq, Obj.cells.injEq] at hh
      exact absurd hh.2.1 (bn.ne (by decide) (by decide))
    rw [Lib.byteCells_append, ← Lib.strCells_eq]
    simpa [bl] using this
end Go.Proofs.YtjojlcfoiknlhaaGreatDoor

namespace Go.Proofs.YtjojlcfoiknlhaaGreatDoor
open Go.RowKit

/-- The bytes of some words, one behind the other. -/
def said (ws : List ByteArray) : List UInt8 := ws.flatMap (fun s => s.data.toList)
theorem said_take (ws : List ByteArray) {j : Nat} (hj : j < ws.length) : said (ws.take (j + 1)) = said (ws.take j) ++ ws[j].data.toList := by
  unfold said
  rw [List.take_succ_eq_append_getElem hj, List.flatMap_append]
  simp
theorem said_le (ws : List ByteArray) {j : Nat} (hj : j < ws.length) : (said (ws.take j)).length + ws[j].size ≤ (said ws).length := by
  have h1 := said_take ws hj
  have h2 : said ws = said (ws.take (j + 1)) ++ said (ws.drop (j + 1)) := by
    unfold said
    rw [← List.flatMap_append, List.take_append_drop]
  rw [h2, h1]
  have : ws[j].data.toList.length = ws[j].size := bl _
  simp only [List.length_append]
  omega

set_option maxHeartbeats 2000000 in
set_option maxRecDepth 100000 in
theorem say_any {w : World} {B wb : Nat} {tv : Value} {bn : Wk} {bs : List UInt8} (h : Wrt w B wb tv bn bs) (ws : List ByteArray) (g : Nat) (fz : Nat × Nat) (hg : w.heap[g]? = some (.cells (ws.map Value.string).toArray 9 fz)) (hn : ws.length ≤ 1000) (hlen : bs.length + (said ws).length ≤ 100000000000000) (hBw : B ≤ w.heap.size) :
    Calls Tryz.prog 67 #[.pointer (some ⟨wb, 0, none⟩), .slice (some ⟨g, 0, none⟩) ws.length ws.length] w fun e w' => e = .returned (.tuple #[]) ∧ Wkp B wb w w' ∧ Wrt w' B wb tv bn (bs ++ said ws) := by
  have hlg := (Array.getElem?_eq_some_iff.1 hg).1
  have hgw : g ≠ wb := by
    intro hx
    subst hx
    obtain ⟨p, v, hb, _⟩ := h.blk
    rw [hg] at hb
    simp only [Option.some.injEq, Obj.cells.injEq] at hb
    exact absurd hb.2.1.symm (bn.ne (by decide) (by decide))
  have HG : Hid (∀ wr, Wkp B wb w wr → wr.heap[g]? = some (.cells (ws.map Value.string).toArray 9 fz)) := by
    intro wr hc
    rw [hc.block g hlg (fun x => ?_)]
    · exact hg
    · rcases x.2 with hx | ⟨cs, f2, hx⟩
      · exact hgw hx
      · rw [hg] at hx
        simp only [Option.some.injEq, Obj.cells.injEq] at hx
        exact absurd hx.2.1 (by decide)
  have H0 := hide h
  clear h hg
  go_enter Tryz.func67, Tryz.ntmps67
  go_wp2_with fail
  go_loopw [8] (fun v wr => ∃ (j : Nat), j ≤ ws.length ∧ v = .int .i64 (j : Int) ∧ Hid (Wrt wr B wb tv bn (bs ++ said (ws.take j))) ∧ Hid (Wkp B wb w wr)) (fun v _ => ws.length - (intOf v).toNat)
  case atStart => exact ⟨0, Nat.zero_le _, rfl, by simpa [said] using H0, Wkp.refl _ _ _⟩
  case round =>
    obtain ⟨j, hj, rfl, WR, CR⟩ := hrel
    by_cases hjl : j < ws.length
    · have cg : wr.cell? ⟨g, j, none⟩ = some (.string ws[j]) := by
        rw [cell_of_row wr g j _ _ _ (HG.out wr CR.out)]
        simp [hjl]
      have hlgr : g < wr.heap.size := Nat.lt_of_lt_of_le hlg CR.out.size
      have hl := said_le ws hjl
      have hwl : wb < wr.heap.size := WR.out.tys.2.2
      have HT := hide (said_take ws hjl)
      have HW := hide (writeString_any WR.out ws[j] (by simp only [List.length_append]; omega) (Nat.le_trans hBw CR.out.size))
      have CR2 := hide CR.out
      clear CR WR
      go_wp2_with fail
      refine HW.out.mono ?_
      rintro e w1 ⟨rfl, hk, hw⟩
      have HK := hide hk
      have HWr := hide hw
      clear hk hw
      go_wp2
      go_roundw
      case rel => exact ⟨j + 1, by omega, by go_num, by rw [HT.out, ← List.append_assoc]; exact HWr.out, CR2.out.trans HK.out⟩
      case measure => simp [intOf]; omega
    · have hje : j = ws.length := by omega
      subst hje
      rw [List.take_length] at *
      go_wp2_with fail
      go_end0
      exact ⟨rfl, CR.out, WR.out⟩
end Go.Proofs.YtjojlcfoiknlhaaGreatDoor

namespace Go.Proofs.YtjojlcfoiknlhaaGreatDoor
open Go.RowKit

/-- The cells of one type of a row. -/
theorem tys_cell {w : World} {xa : Option Addr} {xc : Nat} {X : List M.Ty} {xx : List Value} (hx : w.ownsRow 0 66 4 (.slice xa X.length xc) X.length xx) (hr : Rws (TyV w (fun _ => True)) X xx) {i : Nat} (hi : i < X.length) :
    ∃ g fa fc la lc, xa = some ⟨g, 0, none⟩ ∧ g < w.heap.size ∧ X.length ≤ xc ∧ xc ≤ maxLen ∧ w.cell? ⟨g, i * 4, none⟩ = some (.int .i64 X[i].kind) ∧ w.cell? ⟨g, i * 4 + 1, none⟩ = some (.slice fa X[i].fields.length fc) ∧ w.cell? ⟨g, i * 4 + 2, none⟩ = some (.slice la X[i].list.length lc) ∧
      w.cell? ⟨g, i * 4 + 3, none⟩ = some (.int .i64 X[i].of') ∧ w.ownsRow 0 71 2 (.slice fa X[i].fields.length fc) X[i].fields.length (frows X[i].fields) ∧ w.ownsRow 0 3 1 (.slice la X[i].list.length lc) X[i].list.length (ints X[i].list) := by
  obtain ⟨g, rfl, _, hg, hc1, hc2, hcell⟩ := owns_cell hx (by omega)
  obtain ⟨xs, ht, hx⟩ := Rws.at (z := 4) (fun _ _ h => h.len) i hi hr
  obtain ⟨fv, lv, rfl, ho1, ho2, _⟩ := ht
  obtain ⟨fa, fc, rfl⟩ := owns_form ho1
  obtain ⟨la, lc, rfl⟩ := owns_form ho2
  refine ⟨g, fa, fc, la, lc, rfl, hg, hc1, hc2, hcell _ _ ?_, hcell _ _ ?_, hcell _ _ ?_, hcell _ _ ?_, ho1, ho2⟩
  · have := hx 0 (by omega); simpa using this
  · have := hx 1 (by omega); simpa using this
  · have := hx 2 (by omega); simpa using this
  · have := hx 3 (by omega); simpa using this

/-- The writer, and the types that it writes. -/
structure Wsp (w : World) (B wb : Nat) (tv : Value) (bn : Wk) (T : List M.Ty) (bs : List UInt8) : Prop where
  wrt : Wrt w B wb tv bn bs
  ok : M.TsOk T
  row : ∃ yx, w.ownsRow 0 66 4 tv T.length yx ∧ Rws (TyV w (fun _ => True)) T yx

/-- Behind whatever the writer has done. -/
theorem Wsp.kept {w w' : World} {B wb : Nat} {tv : Value} {bn : Wk} {T : List M.Ty} {bs bs' : List UInt8} (h : Wsp w B wb tv bn T bs) (hc : Wkp B wb w w') (h' : Wrt w' B wb tv bn bs') : Wsp w' B wb tv bn T bs' := by
  obtain ⟨hw, hT, yx, ho, hr⟩ := h
  obtain ⟨p, v, hb, _⟩ := hw.blk
  have key : ∀ k cur e, w.heap[k]? = some (.cells cur e (0, 0)) → (e = 66 ∨ e = 71 ∨ e = 3) → ¬ (B ≤ k ∧ (k = wb ∨ ∃ cs fz, w.heap[k]? = some (.cells cs 5 fz))) := by
    rintro k cur e hk he ⟨_, hx | ⟨cs, fz, hx⟩⟩
    · subst hx
      rw [hb] at hk
      simp only [Option.some.injEq, Obj.cells.injEq] at hk
      rcases he with rfl | rfl | rfl <;> exact absurd hk.2.1 (bn.ne (by decide) (by decide))
    · rw [hk] at hx
      simp only [Option.some.injEq, Obj.cells.injEq] at hx
      rcases he with rfl | rfl | rfl <;> exact absurd hx.2.1 (by decide)
  refine ⟨h', hT, yx, owns_chg ho hc fun g hg x => ?_, hr.imp (TyV.chg hc (fun g _ _ hx hh => ?_) (fun _ _ _ => trivial))⟩
  · obtain ⟨_, cur, hh⟩ := owns_tag ho g hg
    exact key g cur _ hh (.inl rfl) x
  · obtain ⟨cur, e, hh, he⟩ := hh
    rcases he with rfl | rfl
    · exact key g cur _ hh (.inr (.inl rfl)) hx
    · exact key g cur _ hh (.inr (.inr rfl)) hx
theorem Wsp.still {w w' : World} {B wb : Nat} {tv : Value} {bn : Wk} {T : List M.Ty} {bs : List UInt8} (h : Wsp w B wb tv bn T bs) (hc : Chg (fun _ => False) w w') : Wsp w' B wb tv bn T bs := h.kept (Wkp.still hc) (h.wrt.still hc)

theorem Wsp.cell {w : World} {B wb : Nat} {tv : Value} {bn : Wk} {T : List M.Ty} {bs : List UInt8} (h : Wsp w B wb tv bn T bs) : ∃ ad c, tv = .slice ad T.length c ∧ w.cell? ⟨wb, 2, none⟩ = some (.slice ad T.length c) ∧ w.cell? ⟨wb, 3, none⟩ = some (.bool bn.b) ∧ wb < w.heap.size ∧
    ∀ i (hi : i < T.length), ∃ g fa fc la lc, ad = some ⟨g, 0, none⟩ ∧ g < w.heap.size ∧ T.length ≤ c ∧ c ≤ maxLen ∧ w.cell? ⟨g, i * 4, none⟩ = some (.int .i64 T[i].kind) ∧ w.cell? ⟨g, i * 4 + 1, none⟩ = some (.slice fa T[i].fields.length fc) ∧ w.cell? ⟨g, i * 4 + 2, none⟩ = some (.slice la T[i].list.length lc) ∧
      w.cell? ⟨g, i * 4 + 3, none⟩ = some (.int .i64 T[i].of') ∧ w.ownsRow 0 71 2 (.slice fa T[i].fields.length fc) T[i].fields.length (frows T[i].fields) ∧ w.ownsRow 0 3 1 (.slice la T[i].list.length lc) T[i].list.length (ints T[i].list) := by
  obtain ⟨hw, hT, yx, ho, hr⟩ := h
  obtain ⟨ad, c, rfl⟩ := owns_form ho
  obtain ⟨h1, h2, h3⟩ := hw.tys
  exact ⟨ad, c, rfl, h1, h2, h3, fun i hi => tys_cell ho hr hi⟩

set_option maxHeartbeats 1000000 in
theorem word_any (k : Int) (h1 : 1 ≤ k) (h2 : k ≤ 6) (w : World) : Calls Tryz.prog 76 #[.int .i64 k] w fun e w' => e = .returned (.string ⟨(M.word k).toArray⟩) ∧ w' = w := by
  have hk : k = 1 ∨ k = 2 ∨ k = 3 ∨ k = 4 ∨ k = 5 ∨ k = 6 := by omega
  rcases hk with rfl | rfl | rfl | rfl | rfl | rfl <;>
  · go_enter Tryz.func76, Tryz.ntmps76
    go_wp2
    go_ret
    exact ⟨rfl, rfl⟩

/-- Whether a type of a union stands in brackets. -/
def brk (k : Int) (last : Bool) : Bool := decide (k = 10) || (decide (k = 9) && !last)

set_option maxHeartbeats 1000000 in
theorem needs_any {w : World} {B wb : Nat} {tv : Value} {bn : Wk} {T : List M.Ty} {bs : List UInt8} (h : Wsp w B wb tv bn T bs) (i : Nat) (hi : i < T.length) (last : Bool) :
    Calls Tryz.prog 117 #[.pointer (some ⟨wb, 0, none⟩), .int .i64 (i : Int), .bool last] w fun e w' => e = .returned (.bool (brk T[i].kind last)) ∧ w' = w := by
  obtain ⟨ad, c, rfl, c2, c3, hlt, hcell⟩ := h.cell
  obtain ⟨g, fa, fc, la, lc, rfl, hg, hc1, hc2, x0, x1, x2, x3, -, -⟩ := hcell i hi
  unfold maxLen at hc2
  clear hcell h
  generalize T[i].kind = k at *
  by_cases h10 : k = 10
  · subst h10
    go_enter Tryz.func117, Tryz.ntmps117
    go_wp2
    go_ret
    exact ⟨rfl, rfl⟩
  · by_cases h9 : k = 9
    · subst h9
      cases last <;>
      · go_enter Tryz.func117, Tryz.ntmps117
        go_wp2
        go_ret
        exact ⟨rfl, rfl⟩
    · have e : brk k last = false := by simp [brk, h10, h9]
      rw [e]
      go_enter Tryz.func117, Tryz.ntmps117
      go_wp2
      go_ret
      refine ⟨?_, rfl⟩
      have e10 : (k == 10) = false := by simp [h10]
      show Ending.returned (Value.bool (k == 10)) = _
      rw [e10]
end Go.Proofs.YtjojlcfoiknlhaaGreatDoor

namespace Go.Proofs.YtjojlcfoiknlhaaGreatDoor
open Go.RowKit

/-- How the type of a number is written. -/
def wtr (bn : Wk) (t : M.Tr) : M.Tr := if bn.b then M.srt t else t
def wtx (bn : Wk) (T : List M.Ty) (i : Nat) : List UInt8 := M.txt' (wtr bn (M.tr T i))

/-- What a method of the writer answers. -/
def WPost (w : World) (B wb : Nat) (tv : Value) (bn : Wk) (bs : List UInt8) (e : Ending) (w' : World) : Prop := e = .returned (.tuple #[]) ∧ Wkp B wb w w' ∧ Wrt w' B wb tv bn bs

/-- Type, of types whose numbers are less than m. -/
def WCon (B wb : Nat) (tv : Value) (bn : Wk) (T : List M.Ty) (m : Nat) : Prop := ∀ (i : Nat) (w : World) (bs : List UInt8), i + 1 ≤ m → i < T.length → Wsp w B wb tv bn T bs → B ≤ w.heap.size → bs.length + (wtx bn T i).length ≤ 100000000000000 →
  Calls Tryz.prog 40 #[.pointer (some ⟨wb, 0, none⟩), .int .i64 (i : Int)] w (WPost w B wb tv bn (bs ++ wtx bn T i))

theorem ints_cell {w : World} {la : Option Addr} {lc : Nat} {ls : List Int} (h : w.ownsRow 0 3 1 (.slice la ls.length lc) ls.length (ints ls)) {j : Nat} (hj : j < ls.length) : ∃ g, la = some ⟨g, 0, none⟩ ∧ g < w.heap.size ∧ ls.length ≤ lc ∧ lc ≤ maxLen ∧ w.cell? ⟨g, j, none⟩ = some (.int .i64 ls[j]) := by
  obtain ⟨g2, h1, _, h2, h3, h4, h5⟩ := owns_cell h (by omega)
  exact ⟨g2, h1, h2, h3, h4, h5 j _ (by simp [ints, hj])⟩
/-- A block of something else is kept. -/
theorem Wkp.other {w w' : World} {B wb : Nat} {tv : Value} {bn : Wk} {bs : List UInt8} (hc : Wkp B wb w w') (hw : Wrt w B wb tv bn bs) {q : Nat} {cs : Array Value} {e : TypeId} {fz : Nat × Nat} (h : w.heap[q]? = some (.cells cs e fz)) (he : e ≠ 5) (hf : e ≠ 78 ∧ e ≠ 80) : w'.heap[q]? = some (.cells cs e fz) := by
  rw [hc.block q (Array.getElem?_eq_some_iff.1 h).1 (fun x => ?_)]
  · exact h
  · rcases x.2 with hx | ⟨cs2, f2, hx⟩
    · subst hx
      obtain ⟨p, v, hb, _⟩ := hw.blk
      rw [h] at hb
      simp only [Option.some.injEq, Obj.cells.injEq] at hb
      exact bn.ne hf.1.symm.symm hf.2 hb.2.1.symm
    · rw [h] at hx
      simp only [Option.some.injEq, Obj.cells.injEq] at hx
      exact he hx.2.1
theorem Wkp.own {w w' : World} {B wb : Nat} {tv : Value} {bn : Wk} {bs : List UInt8} (hc : Wkp B wb w w') (hw : Wrt w B wb tv bn bs) {base size n : Nat} {e : TypeId} {v : Value} {xs : List Value} (h : w.ownsRow base e size v n xs) (he : e ≠ 5) (hf : e ≠ 78 ∧ e ≠ 80) : w'.ownsRow base e size v n xs := by
  refine hc.row h he fun hx => ?_
  obtain ⟨_, cur, hh⟩ := owns_tag h wb hx
  obtain ⟨p, v, hb, _⟩ := hw.blk
  rw [hb] at hh
  simp only [Option.some.injEq, Obj.cells.injEq] at hh
  exact bn.ne hf.1 hf.2 hh.2.1

section
variable {B wb : Nat} {tv : Value} {bn : Wk} {T : List M.Ty} {m : Nat}

set_option maxHeartbeats 1000000 in
theorem type1_any (IH : WCon B wb tv bn T m) (w : World) (bs : List UInt8) (h : Wsp w B wb tv bn T bs) (hBw : B ≤ w.heap.size) (k qx qt : Nat) (kd fv o : Value) (la : Option Addr) (lc : Nat) (ls : List Int) (hk : k < ls.length) (z : Nat) (hz : ls[k] = (z : Int)) (hzm : z + 1 ≤ m) (hzT : z < T.length) (hlen : bs.length + (wtx bn T z).length ≤ 100000000000000)
    (hx : w.heap[qx]? = some (.cells #[.pointer (some ⟨wb, 0, none⟩)] 84 (0, 0))) (ht : w.heap[qt]? = some (.cells #[kd, fv, .slice la ls.length lc, o] 66 (0, 0))) (ho : w.ownsRow 0 3 1 (.slice la ls.length lc) ls.length (ints ls)) :
    Calls Tryz.prog 74 #[.int .i64 (k : Int), .pointer (some ⟨qx, 0, none⟩), .pointer (some ⟨qt, 0, none⟩)] w (WPost w B wb tv bn (bs ++ wtx bn T z)) := by
  have FW : Hid (∀ a, Chg (fun _ => False) w a → Calls Tryz.prog 40 #[.pointer (some ⟨wb, 0, none⟩), .int .i64 (z : Int)] a (WPost w B wb tv bn (bs ++ wtx bn T z))) := by
    intro a ha
    refine (IH z a bs hzm hzT (h.still ha) (Nat.le_trans hBw ha.size) hlen).mono ?_
    rintro e w' ⟨rfl, h1, h2⟩
    exact ⟨rfl, (Wkp.still ha).trans h1, h2⟩
  have c1 : w.cell? ⟨qx, 0, none⟩ = some (.pointer (some ⟨wb, 0, none⟩)) := by rw [cell_of_row w qx 0 _ _ _ hx]; rfl
  have c2 : w.cell? ⟨qt, 2, none⟩ = some (.slice la ls.length lc) := by rw [cell_of_row w qt 2 _ _ _ ht]; rfl
  obtain ⟨g, rfl, hg, hl1, hl2, y0⟩ := ints_cell ho hk
  rw [hz] at y0
  unfold maxLen at hl2
  have hk1 : decide ((k : Int) < 0) = false := by simp
  have hk' : (k : Int) < (ls.length : Int) := by omega
  clear h hx ht ho hz hlen
  generalize wtx bn T z = tx at *
  go_enter Tryz.func74, Tryz.ntmps74
  go_wp2_with fail
  go_region_with ((go_at_call 40; refine (FW.out _ (Chg.drewN _ _ 1)).mono ?_; rintro e w1 ⟨rfl, h1, h2⟩))
  all_goals
    go_wp2
    go_end0
    exact ⟨rfl, h1, h2⟩
end
end Go.Proofs.YtjojlcfoiknlhaaGreatDoor
