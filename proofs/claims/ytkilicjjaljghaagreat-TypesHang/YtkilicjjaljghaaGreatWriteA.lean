/-
  The writer: a builder that lies at the head of a greater block.
  The contracts of Say, word and needsBrackets.
  The writer and its types; the contracts of word and needsBrackets.
  The contract of Type's closure, over Type.
  The contract of union's closure, over Type.
  The contract of Row, over the two closures.
  The contract of union, over Type.
  Plain: how the writer's rows are what a type's text is made of.
-/
import Derived.Test.YtkilicjjaljghaaGreatTfi
import Derived.Shelf.Strings.Builder1
import Derived.Deep.QuietTactic
import Derived.BigQuiet
/- The writer: a builder that lies at the head of a greater block. -/
namespace Go.Proofs.YtkilicjjaljghaaGreat
open Go.RowKit Go.Maps

/-- What a writer may change: its own block, and bytes. -/
def Wkp (B wb : Nat) (w w' : World) : Prop := Chg (fun k => B ≤ k ∧ (k = wb ∨ ∃ cs fz, w.heap[k]? = some (.cells cs 5 fz))) w w'
theorem Wkp.refl (B wb : Nat) (w : World) : Wkp B wb w w := Chg.refl _ _
theorem Wkp.trans {B wb : Nat} {a b c : World} (h : Wkp B wb a b) (k : Wkp B wb b c) : Wkp B wb a c := by
  refine ⟨k.os.trans h.os, k.tape.trans h.tape, k.output.trans h.output, Nat.le_trans h.size k.size, fun i hi hn => ?_⟩
  have h1 := h.block i hi hn
  refine (k.block i (Nat.lt_of_lt_of_le hi h.size) (fun x => hn ⟨x.1, ?_⟩)).trans h1
  rcases x.2 with hx | ⟨cs, fz, hh⟩
  · exact .inl hx
  · exact .inr ⟨cs, fz, by rw [← h1]; exact hh⟩
theorem Wkp.still {B wb : Nat} {w w' : World} (h : Chg (fun _ => False) w w') : Wkp B wb w w' := h.mono fun _ _ x => x.elim
theorem Wkp.below {B wb : Nat} {w w' : World} (h : Wkp B wb w w') (hB : B ≤ w.heap.size) : Below B w w' := Chg.toBelow h (fun _ _ x => x.1) hB
theorem Wkp.set {B wb : Nat} (hB : B ≤ wb) (w : World) (o : Nat) (v : Value) : Wkp B wb w (w.setCell ⟨wb, o, none⟩ v) := (Chg.set w _ v).mono fun k _ x => by
  have x' : k = wb := x
  exact ⟨by omega, .inl x'⟩
/-- A row of something else is kept. -/
theorem Wkp.row {B wb : Nat} {w w' : World} (hc : Wkp B wb w w') {base : Nat} {e : TypeId} {size : Nat} {v : Value} {n : Nat} {xs : List Value} (h : w.ownsRow base e size v n xs) (he : e ≠ 5) (hw : v.ownBlock ≠ some wb) : w'.ownsRow base e size v n xs := by
  refine owns_chg h hc fun g hg hx => ?_
  rcases hx.2 with rfl | ⟨cs, fz, hh⟩
  · exact hw hg
  · obtain ⟨_, cur, hh2⟩ := owns_tag h g hg
    rw [hh] at hh2
    simp only [Option.some.injEq, Obj.cells.injEq] at hh2
    exact he hh2.2.1.symm

/-- The writer's block: what is written, the types, and whether fields go by their names. -/
structure Wrt (w : World) (B wb : Nat) (tv : Value) (bn : Bool) (bs : List UInt8) : Prop where
  low : B ≤ wb
  blk : ∃ p v, w.heap[wb]? = some (.cells #[p, v, tv, .bool bn] 89 (0, 0)) ∧ (p = .pointer none ∨ p = .pointer (some ⟨wb, 0, none⟩)) ∧ w.ownsRow B 5 1 v bs.length (Lib.byteCells bs)

theorem Wrt.still {w w' : World} {B wb : Nat} {tv : Value} {bn : Bool} {bs : List UInt8} (h : Wrt w B wb tv bn bs) (hc : Chg (fun _ => False) w w') : Wrt w' B wb tv bn bs := by
  obtain ⟨hB, p, v, hb, hp, ho⟩ := h
  exact ⟨hB, p, v, by rw [hc.block wb (Array.getElem?_eq_some_iff.1 hb).1 (fun x => x)]; exact hb, hp, owns_chg ho hc (fun _ _ x => x)⟩
theorem Wrt.tys {w : World} {B wb : Nat} {tv : Value} {bn : Bool} {bs : List UInt8} (h : Wrt w B wb tv bn bs) : w.cell? ⟨wb, 2, none⟩ = some tv ∧ w.cell? ⟨wb, 3, none⟩ = some (.bool bn) ∧ wb < w.heap.size := by
  obtain ⟨hB, p, v, hb, hp, ho⟩ := h
  exact ⟨by rw [cell_of_row w wb 2 _ _ _ hb]; rfl, by rw [cell_of_row w wb 3 _ _ _ hb]; rfl, (Array.getElem?_eq_some_iff.1 hb).1⟩

theorem Tryz.sizeBld : (Tryz.prog.info? 87).map (·.size) = some 2 := by kernel_rfl
theorem Tryz.liesBld : liesAt Tryz.prog Tryz.prog.depth 89 (4 / Tryz.prog.cellsOf 89) 0 87 1 = true := by kernel_rfl
theorem Tryz.infoByte : (Tryz.prog.info? 5).map (fun i => (i.zero, i.size, i.bytes)) = some (some (.int .u8 0), 1, 1) := by kernel_rfl
theorem Tryz.cellsByte : Tryz.prog.cellsOf 5 = 1 := by kernel_rfl

set_option maxHeartbeats 1000000 in
set_option maxRecDepth 100000 in
theorem copyCheck_used (b : Nat) (w : World) (h0 : w.cell? ⟨b, 0, none⟩ = some (.pointer (some ⟨b, 0, none⟩))) :
    Calls Tryz.prog 123 #[.pointer (some ⟨b, 0, none⟩)] w fun e w' => e = .returned (.tuple #[]) ∧ w' = w := by
  obtain ⟨j, hj, _⟩ := Option.map_eq_some_iff.1 Tryz.sizeBld
  go_enter Tryz.func123, Tryz.ntmps123
  go_wp2
  rw [Lib.run_neq_ptr_same w _ Tryz.underlying84 hj]
  go_wp2
  go_end0
  exact ⟨rfl, rfl⟩

set_option maxHeartbeats 1000000 in
set_option maxRecDepth 100000 in
theorem copyCheck_fresh (b : Nat) (w : World) (h0 : w.cell? ⟨b, 0, none⟩ = some (.pointer none)) (hsh : w.shape? b = some (89, 4)) (hfz : w.frozen? ⟨b, 0, none⟩ = false) :
    Calls Tryz.prog 123 #[.pointer (some ⟨b, 0, none⟩)] w fun e w' => e = .returned (.tuple #[]) ∧ w' = w.setCell ⟨b, 0, none⟩ (.pointer (some ⟨b, 0, none⟩)) := by
  obtain ⟨j, hj, hjs⟩ := Option.map_eq_some_iff.1 Tryz.sizeBld
  go_enter Tryz.func123, Tryz.ntmps123
  go_wp2
  rw [Lib.run_to_unsafe w ⟨b, 0, none⟩ Tryz.underlying84 Tryz.underlying162 hj (by rw [hjs]; decide) hsh (Nat.zero_lt_succ 3)]
  simp only [Result.andThen]
  rw [Oper.upon_value]
  go_wp2
  rw [run_callFunc_extern Tryz.func140 (by kernel_rfl) (by kernel_rfl) (by kernel_rfl) (e := Extern.AbiNoEscape.same) (by kernel_rfl)]
  rw [Lib.run_noEscape]
  simp only [Result.andThen]
  rw [Oper.upon_value]
  go_wp2
  rw [Lib.run_from_unsafe w ⟨b, 0, none⟩ Tryz.underlying162 Tryz.underlying84 hj hsh Tryz.liesBld]
  simp only [Result.andThen]
  rw [Oper.upon_value]
  go_wp2
  go_end0
  exact ⟨rfl, rfl⟩

theorem copyCheck_any {w : World} {B wb : Nat} {tv : Value} {bn : Bool} {bs : List UInt8} (h : Wrt w B wb tv bn bs) :
    Calls Tryz.prog 123 #[.pointer (some ⟨wb, 0, none⟩)] w fun e w' => e = .returned (.tuple #[]) ∧ Wkp B wb w w' ∧ w'.heap.size = w.heap.size ∧
      ∃ v, w'.heap[wb]? = some (.cells #[.pointer (some ⟨wb, 0, none⟩), v, tv, .bool bn] 89 (0, 0)) ∧ w'.ownsRow B 5 1 v bs.length (Lib.byteCells bs) := by
  obtain ⟨hB, p, v, hb, hp, ho⟩ := h
  have hlt := (Array.getElem?_eq_some_iff.1 hb).1
  rcases hp with rfl | rfl
  · refine (copyCheck_fresh wb w (by rw [cell_of_row w wb 0 _ _ _ hb]; rfl) (by simp [World.shape?, hb]) (frozen_of_row w wb 0 _ _ hb)).mono ?_
    rintro e w' ⟨rfl, rfl⟩
    refine ⟨rfl, Wkp.set hB w 0 _, by simp, v, by rw [heap_setCell_same w wb 0 _ _ _ hb]; rfl, owns_chg ho (Chg.set w ⟨wb, 0, none⟩ _) fun k hk hx => ?_⟩
    have hx' : k = wb := hx
    subst hx'
    obtain ⟨_, cur, hh⟩ := owns_tag ho k hk
    rw [hb] at hh
    simp only [Option.some.injEq, Obj.cells.injEq] at hh
    exact absurd hh.2.1 (by decide)
  · refine (copyCheck_used wb w (by rw [cell_of_row w wb 0 _ _ _ hb]; rfl)).mono ?_
    rintro e w' ⟨rfl, rfl⟩
    exact ⟨rfl, Wkp.refl _ _ _, rfl, v, hb, ho⟩

set_option maxHeartbeats 2000000 in
set_option maxRecDepth 100000 in
theorem writeString_any {w : World} {B wb : Nat} {tv : Value} {bn : Bool} {bs : List UInt8} (h : Wrt w B wb tv bn bs) (s : ByteArray) (hlen : bs.length + s.size ≤ 100000000000000) (hBw : B ≤ w.heap.size) :
    Calls Tryz.prog 105 #[.pointer (some ⟨wb, 0, none⟩), .string s] w fun e w' => e = .returned (.tuple #[.int .i64 s.size, .nilIface]) ∧ Wkp B wb w w' ∧ Wrt w' B wb tv bn (bs ++ s.data.toList) := by
  obtain ⟨i0, hi, hz0, hz1, hz2⟩ := info_parts Tryz.infoByte
  have hB := h.low
  have HC := hide (copyCheck_any h)
  clear h
  go_enter Tryz.func105, Tryz.ntmps105
  go_wp2_with fail
  refine HC.out.mono ?_
  rintro e w1 ⟨rfl, hk1, hs1, v, hbk, hown⟩
  have hlt := (Array.getElem?_eq_some_iff.1 hbk).1
  have c1 : w1.cell? ⟨wb, 1, none⟩ = some v := by rw [cell_of_row w1 wb 1 _ _ _ hbk]; rfl
  have HK1 := hide hk1
  have HBK := hide hbk
  have HO := hide hown
  have HS1 := hide hs1
  clear hk1 hbk hown hs1
  go_wp2_with (at_builtin; refine Lib.wpList_append_own_string _ rfl _ _ 85 9 rfl B 5 i0 Tryz.underlying85 Tryz.underlying9 hi hz0 hz1 hz2 _ _ _ rfl HO.out s rfl ?c3 ?c4 ?c5 ?_)
  case c3 => unfold maxLen; omega
  case c4 => omega
  case c5 => rw [HS1.out]; exact hBw
  intro v' w2 hown' hgrow _
  have hne : v.ownBlock ≠ some wb := by
    intro hx
    obtain ⟨_, cur, hh⟩ := owns_tag HO.out wb hx
    rw [HBK.out] at hh
    simp only [Option.some.injEq, Obj.cells.injEq] at hh
    exact absurd hh.2.1 (by decide)
  have hb2 : w2.heap[wb]? = some (.cells #[.pointer (some ⟨wb, 0, none⟩), v, tv, .bool bn] 89 (0, 0)) := by
    rw [hgrow.block wb hlt (fun e => hne e.symm)]
    exact HBK.out
  have d1 : w2.cell? ⟨wb, 1, none⟩ = some v := by rw [cell_of_row w2 wb 1 _ _ _ hb2]; rfl
  have f1 : w2.frozen? ⟨wb, 1, none⟩ = false := frozen_of_row w2 wb 1 _ _ hb2
  obtain ⟨ao, n', cap, rfl⟩ : ∃ ao n' cap, v' = .slice ao n' cap := by
    rcases hown'.2 with ⟨hv, _⟩ | ⟨g, cap, cur, hv, _⟩
    · exact ⟨_, _, _, hv⟩
    · exact ⟨_, _, _, hv⟩
  have HB2 := hide hb2
  have HO2 := hide hown'
  have HG := hide hgrow
  clear hb2 hown' hgrow
  go_wp2
  go_ret2
  refine ⟨rfl, ?_, hB, _, .slice ao n' cap, by rw [heap_setCell_same w2 wb 1 _ _ _ HB2.out]; rfl, .inr rfl, ?_⟩
  · refine (HK1.out.trans ?_).trans (Wkp.set hB w2 1 _)
    refine (Chg.grown HG.out).mono fun k hk hx => ?_
    obtain ⟨hlow, cur, hh⟩ := owns_tag HO.out k hx.symm
    exact ⟨hlow, .inr ⟨cur, _, hh⟩⟩
  · have := owns_chg HO2.out (Chg.set w2 ⟨wb, 1, none⟩ (.slice ao n' cap)) fun k hk hx => by
      have hx' : k = wb := hx
      subst hx'
      obtain ⟨_, cur, hh⟩ := owns_tag HO2.out k hk
      rw [HB2.out] at hh
      simp only [Option.some.injEq, Obj.cells.injEq] at hh
      exact absurd hh.2.1 (by decide)
    rw [Lib.byteCells_append, ← Lib.strCells_eq]
    simpa [bl] using this
end Go.Proofs.YtkilicjjaljghaaGreat

/- The contracts of Say, word and needsBrackets. -/
namespace Go.Proofs.YtkilicjjaljghaaGreat
open Go.RowKit Go.Maps

/-- The bytes of some words, one behind the other. -/
def said (ws : List ByteArray) : List UInt8 := ws.flatMap (fun s => s.data.toList)
theorem said_take (ws : List ByteArray) {j : Nat} (hj : j < ws.length) : said (ws.take (j + 1)) = said (ws.take j) ++ ws[j].data.toList := by
  unfold said
  rw [List.take_succ_eq_append_getElem hj, List.flatMap_append]
  simp
theorem said_le (ws : List ByteArray) {j : Nat} (hj : j < ws.length) : (said (ws.take j)).length + ws[j].size ≤ (said ws).length := by
  have h1 := said_take ws hj
  have h2 : said ws = said (ws.take (j + 1)) ++ said (ws.drop (j + 1)) := by
    unfold said
    rw [← List.flatMap_append, List.take_append_drop]
  rw [h2, h1]
  have : ws[j].data.toList.length = ws[j].size := bl _
  simp only [List.length_append]
  omega

set_option maxHeartbeats 2000000 in
set_option maxRecDepth 100000 in
theorem say_any {w : World} {B wb : Nat} {tv : Value} {bn : Bool} {bs : List UInt8} (h : Wrt w B wb tv bn bs) (ws : List ByteArray) (g : Nat) (fz : Nat × Nat) (hg : w.heap[g]? = some (.cells (ws.map Value.string).toArray 9 fz)) (hn : ws.length ≤ 1000) (hlen : bs.length + (said ws).length ≤ 100000000000000) (hBw : B ≤ w.heap.size) :
    Calls Tryz.prog 80 #[.pointer (some ⟨wb, 0, none⟩), .slice (some ⟨g, 0, none⟩) ws.length ws.length] w fun e w' => e = .returned (.tuple #[]) ∧ Wkp B wb w w' ∧ Wrt w' B wb tv bn (bs ++ said ws) := by
  have hlg := (Array.getElem?_eq_some_iff.1 hg).1
  have hgw : g ≠ wb := by
    intro hx
    subst hx
    obtain ⟨p, v, hb, _⟩ := h.blk
    rw [hg] at hb
    simp only [Option.some.injEq, Obj.cells.injEq] at hb
    exact absurd hb.2.1 (by decide)
  have HG : Hid (∀ wr, Wkp B wb w wr → wr.heap[g]? = some (.cells (ws.map Value.string).toArray 9 fz)) := by
    intro wr hc
    rw [hc.block g hlg (fun x => ?_)]
    · exact hg
    · rcases x.2 with hx | ⟨cs, f2, hx⟩
      · exact hgw hx
      · rw [hg] at hx
        simp only [Option.some.injEq, Obj.cells.injEq] at hx
        exact absurd hx.2.1 (by decide)
  have H0 := hide h
  clear h hg
  go_enter Tryz.func80, Tryz.ntmps80
  go_wp2_with fail
  go_loopw [8] (fun v wr => ∃ (j : Nat), j ≤ ws.length ∧ v = .int .i64 (j : Int) ∧ Hid (Wrt wr B wb tv bn (bs ++ said (ws.take j))) ∧ Hid (Wkp B wb w wr)) (fun v _ => ws.length - (intOf v).toNat)
  case atStart => exact ⟨0, Nat.zero_le _, rfl, by simpa [said] using H0, Wkp.refl _ _ _⟩
  case round =>
    obtain ⟨j, hj, rfl, WR, CR⟩ := hrel
    by_cases hjl : j < ws.length
    · have cg : wr.cell? ⟨g, j, none⟩ = some (.string ws[j]) := by
        rw [cell_of_row wr g j _ _ _ (HG.out wr CR.out)]
        simp [hjl]
      have hlgr : g < wr.heap.size := Nat.lt_of_lt_of_le hlg CR.out.size
      have hl := said_le ws hjl
      have hwl : wb < wr.heap.size := WR.out.tys.2.2
      have HT := hide (said_take ws hjl)
      have HW := hide (writeString_any WR.out ws[j] (by simp only [List.length_append]; omega) (Nat.le_trans hBw CR.out.size))
      have CR2 := hide CR.out
      clear CR WR
      go_wp2_with fail
      refine HW.out.mono ?_
      rintro e w1 ⟨rfl, hk, hw⟩
      have HK := hide hk
      have HWr := hide hw
      clear hk hw
      go_wp2
      go_roundw
      case rel => exact ⟨j + 1, by omega, by go_num, by rw [HT.out, ← List.append_assoc]; exact HWr.out, CR2.out.trans HK.out⟩
      case measure => simp [intOf]; omega
    · have hje : j = ws.length := by omega
      subst hje
      rw [List.take_length] at *
      go_wp2_with fail
      go_end0
      exact ⟨rfl, CR.out, WR.out⟩
end Go.Proofs.YtkilicjjaljghaaGreat

/- The writer and its types; the contracts of word and needsBrackets. -/
namespace Go.Proofs.YtkilicjjaljghaaGreat
open Go.RowKit Go.Maps

/-- The writer, and the types that it writes. -/
structure Wsp (w : World) (B wb : Nat) (tv : Value) (bn : Bool) (T : List M.Ty) (bs : List UInt8) : Prop where
  wrt : Wrt w B wb tv bn bs
  ok : M.TsOk T
  row : ∃ yx, w.ownsRow 0 52 4 tv T.length yx ∧ Rws (TyV w (fun _ => True)) T yx

/-- Behind whatever the writer has done. -/
theorem Wsp.kept {w w' : World} {B wb : Nat} {tv : Value} {bn : Bool} {T : List M.Ty} {bs bs' : List UInt8} (h : Wsp w B wb tv bn T bs) (hc : Wkp B wb w w') (h' : Wrt w' B wb tv bn bs') : Wsp w' B wb tv bn T bs' := by
  obtain ⟨hw, hT, yx, ho, hr⟩ := h
  obtain ⟨p, v, hb, _⟩ := hw.blk
  have key : ∀ k cur e, w.heap[k]? = some (.cells cur e (0, 0)) → (e = 52 ∨ e = 55 ∨ e = 3) → ¬ (B ≤ k ∧ (k = wb ∨ ∃ cs fz, w.heap[k]? = some (.cells cs 5 fz))) := by
    rintro k cur e hk he ⟨_, hx | ⟨cs, fz, hx⟩⟩
    · subst hx
      rw [hb] at hk
      simp only [Option.some.injEq, Obj.cells.injEq] at hk
      rcases he with rfl | rfl | rfl <;> exact absurd hk.2.1 (by decide)
    · rw [hk] at hx
      simp only [Option.some.injEq, Obj.cells.injEq] at hx
      rcases he with rfl | rfl | rfl <;> exact absurd hx.2.1 (by decide)
  refine ⟨h', hT, yx, owns_chg ho hc fun g hg x => ?_, hr.imp (TyV.chg hc (fun g _ _ hx hh => ?_) (fun _ _ _ => trivial))⟩
  · obtain ⟨_, cur, hh⟩ := owns_tag ho g hg
    exact key g cur _ hh (.inl rfl) x
  · obtain ⟨cur, e, hh, he⟩ := hh
    rcases he with rfl | rfl
    · exact key g cur _ hh (.inr (.inl rfl)) hx
    · exact key g cur _ hh (.inr (.inr rfl)) hx
theorem Wsp.still {w w' : World} {B wb : Nat} {tv : Value} {bn : Bool} {T : List M.Ty} {bs : List UInt8} (h : Wsp w B wb tv bn T bs) (hc : Chg (fun _ => False) w w') : Wsp w' B wb tv bn T bs := h.kept (Wkp.still hc) (h.wrt.still hc)

theorem Wsp.cell {w : World} {B wb : Nat} {tv : Value} {bn : Bool} {T : List M.Ty} {bs : List UInt8} (h : Wsp w B wb tv bn T bs) : ∃ ad c, tv = .slice ad T.length c ∧ w.cell? ⟨wb, 2, none⟩ = some (.slice ad T.length c) ∧ w.cell? ⟨wb, 3, none⟩ = some (.bool bn) ∧ wb < w.heap.size ∧
    ∀ i (hi : i < T.length), ∃ g fa fc la lc, ad = some ⟨g, 0, none⟩ ∧ g < w.heap.size ∧ T.length ≤ c ∧ c ≤ maxLen ∧ w.cell? ⟨g, i * 4, none⟩ = some (.int .i64 T[i].kind) ∧ w.cell? ⟨g, i * 4 + 1, none⟩ = some (.slice fa T[i].fields.length fc) ∧ w.cell? ⟨g, i * 4 + 2, none⟩ = some (.slice la T[i].list.length lc) ∧
      w.cell? ⟨g, i * 4 + 3, none⟩ = some (.int .i64 T[i].of') ∧ w.ownsRow 0 55 2 (.slice fa T[i].fields.length fc) T[i].fields.length (frows T[i].fields) ∧ w.ownsRow 0 3 1 (.slice la T[i].list.length lc) T[i].list.length (ints T[i].list) := by
  obtain ⟨hw, hT, yx, ho, hr⟩ := h
  obtain ⟨ad, c, rfl⟩ := owns_form ho
  obtain ⟨h1, h2, h3⟩ := hw.tys
  exact ⟨ad, c, rfl, h1, h2, h3, fun i hi => tys_cell ho hr hi⟩

set_option maxHeartbeats 1000000 in
theorem word_any (k : Int) (h1 : 1 ≤ k) (h2 : k ≤ 6) (w : World) : Calls Tryz.prog 84 #[.int .i64 k] w fun e w' => e = .returned (.string ⟨(M.word k).toArray⟩) ∧ w' = w := by
  have hk : k = 1 ∨ k = 2 ∨ k = 3 ∨ k = 4 ∨ k = 5 ∨ k = 6 := by omega
  rcases hk with rfl | rfl | rfl | rfl | rfl | rfl <;>
  · go_enter Tryz.func84, Tryz.ntmps84
    go_wp2
    go_ret
    exact ⟨rfl, rfl⟩

/-- Whether a type of a union stands in brackets. -/
def brk (k : Int) (last : Bool) : Bool := decide (k = 10) || (decide (k = 9) && !last)

set_option maxHeartbeats 1000000 in
theorem needs_any {w : World} {B wb : Nat} {tv : Value} {bn : Bool} {T : List M.Ty} {bs : List UInt8} (h : Wsp w B wb tv bn T bs) (i : Nat) (hi : i < T.length) (last : Bool) :
    Calls Tryz.prog 107 #[.pointer (some ⟨wb, 0, none⟩), .int .i64 (i : Int), .bool last] w fun e w' => e = .returned (.bool (brk T[i].kind last)) ∧ w' = w := by
  obtain ⟨ad, c, rfl, c2, c3, hlt, hcell⟩ := h.cell
  obtain ⟨g, fa, fc, la, lc, rfl, hg, hc1, hc2, x0, x1, x2, x3, -, -⟩ := hcell i hi
  unfold maxLen at hc2
  clear hcell h
  generalize T[i].kind = k at *
  by_cases h10 : k = 10
  · subst h10
    go_enter Tryz.func107, Tryz.ntmps107
    go_wp2
    go_ret
    exact ⟨rfl, rfl⟩
  · by_cases h9 : k = 9
    · subst h9
      cases last <;>
      · go_enter Tryz.func107, Tryz.ntmps107
        go_wp2
        go_ret
        exact ⟨rfl, rfl⟩
    · have e : brk k last = false := by simp [brk, h10, h9]
      rw [e]
      go_enter Tryz.func107, Tryz.ntmps107
      go_wp2
      go_ret
      refine ⟨?_, rfl⟩
      have e10 : (k == 10) = false := by simp [h10]
      show Ending.returned (Value.bool (k == 10)) = _
      rw [e10]
end Go.Proofs.YtkilicjjaljghaaGreat

/- The contract of Type's closure, over Type. -/
namespace Go.Proofs.YtkilicjjaljghaaGreat
open Go.RowKit Go.Maps

/-- How the type of a number is written. -/
def wtr (bn : Bool) (t : M.Tr) : M.Tr := if bn then M.srt t else t
def wtx (bn : Bool) (T : List M.Ty) (i : Nat) : List UInt8 := M.txt' (wtr bn (M.tr T i))

/-- What a method of the writer answers. -/
def WPost (w : World) (B wb : Nat) (tv : Value) (bn : Bool) (bs : List UInt8) (e : Ending) (w' : World) : Prop := e = .returned (.tuple #[]) ∧ Wkp B wb w w' ∧ Wrt w' B wb tv bn bs

/-- Type, of types whose numbers are less than m. -/
def WCon (B wb : Nat) (tv : Value) (bn : Bool) (T : List M.Ty) (m : Nat) : Prop := ∀ (i : Nat) (w : World) (bs : List UInt8), i + 1 ≤ m → i < T.length → Wsp w B wb tv bn T bs → B ≤ w.heap.size → bs.length + (wtx bn T i).length ≤ 100000000000000 →
  Calls Tryz.prog 64 #[.pointer (some ⟨wb, 0, none⟩), .int .i64 (i : Int)] w (WPost w B wb tv bn (bs ++ wtx bn T i))

/-- A block of something else is kept. -/
theorem Wkp.other {w w' : World} {B wb : Nat} {tv : Value} {bn : Bool} {bs : List UInt8} (hc : Wkp B wb w w') (hw : Wrt w B wb tv bn bs) {q : Nat} {cs : Array Value} {e : TypeId} {fz : Nat × Nat} (h : w.heap[q]? = some (.cells cs e fz)) (he : e ≠ 5) (hf : e ≠ 89) : w'.heap[q]? = some (.cells cs e fz) := by
  rw [hc.block q (Array.getElem?_eq_some_iff.1 h).1 (fun x => ?_)]
  · exact h
  · rcases x.2 with hx | ⟨cs2, f2, hx⟩
    · subst hx
      obtain ⟨p, v, hb, _⟩ := hw.blk
      rw [h] at hb
      simp only [Option.some.injEq, Obj.cells.injEq] at hb
      exact hf hb.2.1
    · rw [h] at hx
      simp only [Option.some.injEq, Obj.cells.injEq] at hx
      exact he hx.2.1
theorem Wkp.own {w w' : World} {B wb : Nat} {tv : Value} {bn : Bool} {bs : List UInt8} (hc : Wkp B wb w w') (hw : Wrt w B wb tv bn bs) {base size n : Nat} {e : TypeId} {v : Value} {xs : List Value} (h : w.ownsRow base e size v n xs) (he : e ≠ 5) (hf : e ≠ 89) : w'.ownsRow base e size v n xs := by
  refine hc.row h he fun hx => ?_
  obtain ⟨_, cur, hh⟩ := owns_tag h wb hx
  obtain ⟨p, v, hb, _⟩ := hw.blk
  rw [hb] at hh
  simp only [Option.some.injEq, Obj.cells.injEq] at hh
  exact hf hh.2.1.symm

section
variable {B wb : Nat} {tv : Value} {bn : Bool} {T : List M.Ty} {m : Nat}

set_option maxHeartbeats 1000000 in
theorem type1_any (IH : WCon B wb tv bn T m) (w : World) (bs : List UInt8) (h : Wsp w B wb tv bn T bs) (hBw : B ≤ w.heap.size) (k qx qt : Nat) (kd fv o : Value) (la : Option Addr) (lc : Nat) (ls : List Int) (hk : k < ls.length) (z : Nat) (hz : ls[k] = (z : Int)) (hzm : z + 1 ≤ m) (hzT : z < T.length) (hlen : bs.length + (wtx bn T z).length ≤ 100000000000000)
    (hx : w.heap[qx]? = some (.cells #[.pointer (some ⟨wb, 0, none⟩)] 83 (0, 0))) (ht : w.heap[qt]? = some (.cells #[kd, fv, .slice la ls.length lc, o] 52 (0, 0))) (ho : w.ownsRow 0 3 1 (.slice la ls.length lc) ls.length (ints ls)) :
    Calls Tryz.prog 82 #[.int .i64 (k : Int), .pointer (some ⟨qx, 0, none⟩), .pointer (some ⟨qt, 0, none⟩)] w (WPost w B wb tv bn (bs ++ wtx bn T z)) := by
  have FW : Hid (∀ a, Chg (fun _ => False) w a → Calls Tryz.prog 64 #[.pointer (some ⟨wb, 0, none⟩), .int .i64 (z : Int)] a (WPost w B wb tv bn (bs ++ wtx bn T z))) := by
    intro a ha
    refine (IH z a bs hzm hzT (h.still ha) (Nat.le_trans hBw ha.size) hlen).mono ?_
    rintro e w' ⟨rfl, h1, h2⟩
    exact ⟨rfl, (Wkp.still ha).trans h1, h2⟩
  have c1 : w.cell? ⟨qx, 0, none⟩ = some (.pointer (some ⟨wb, 0, none⟩)) := by rw [cell_of_row w qx 0 _ _ _ hx]; rfl
  have c2 : w.cell? ⟨qt, 2, none⟩ = some (.slice la ls.length lc) := by rw [cell_of_row w qt 2 _ _ _ ht]; rfl
  obtain ⟨g, rfl, hg, hl1, hl2, y0⟩ := ints_cell ho hk
  rw [hz] at y0
  unfold maxLen at hl2
  have hk1 : decide ((k : Int) < 0) = false := by simp
  have hk' : (k : Int) < (ls.length : Int) := by omega
  clear h hx ht ho hz hlen
  generalize wtx bn T z = tx at *
  go_enter Tryz.func82, Tryz.ntmps82
  go_wp2_with fail
  go_region_with ((go_at_call 64; refine (FW.out _ (Chg.drewN _ _ 1)).mono ?_; rintro e w1 ⟨rfl, h1, h2⟩))
  all_goals
    go_wp2
    go_end0
    exact ⟨rfl, h1, h2⟩
end
end Go.Proofs.YtkilicjjaljghaaGreat

/- The contract of union's closure, over Type. -/
namespace Go.Proofs.YtkilicjjaljghaaGreat
open Go.RowKit Go.Maps

section
variable {B wb : Nat} {tv : Value} {bn : Bool} {T : List M.Ty} {m : Nat}

/-- A type of a union, as it is written. -/
def wup (bn : Bool) (T : List M.Ty) (z : Nat) (b : Bool) : List UInt8 := if b then [40] ++ wtx bn T z ++ [41] else wtx bn T z

set_option maxHeartbeats 2000000 in
theorem union1_any (IH : WCon B wb tv bn T m) (w : World) (bs : List UInt8) (h : Wsp w B wb tv bn T bs) (hBw : B ≤ w.heap.size) (k qx ql : Nat) (la : Option Addr) (lc : Nat) (ls : List Int) (hk : k < ls.length) (z : Nat) (hz : ls[k] = (z : Int)) (hzm : z + 1 ≤ m) (hzT : z < T.length) (bb : Bool) (hbb : bb = brk T[z].kind (decide (k + 1 = ls.length))) (hlen : bs.length + (wup bn T z bb).length ≤ 100000000000000)
    (hx : w.heap[qx]? = some (.cells #[.pointer (some ⟨wb, 0, none⟩)] 83 (0, 0))) (ht : w.heap[ql]? = some (.cells #[.slice la ls.length lc] 42 (0, 0))) (ho : w.ownsRow 0 3 1 (.slice la ls.length lc) ls.length (ints ls)) :
    Calls Tryz.prog 106 #[.int .i64 (k : Int), .pointer (some ⟨qx, 0, none⟩), .pointer (some ⟨ql, 0, none⟩)] w (WPost w B wb tv bn (bs ++ wup bn T z bb)) := by
  have hlq := (Array.getElem?_eq_some_iff.1 ht).1
  have elast : ((k : Int) == IntKind.i64.wrap ((ls.length : Int) - 1)) = decide (k + 1 = ls.length) := by
    obtain ⟨_, _, _, hl1, hl2, _⟩ := ints_cell ho hk
    unfold maxLen at hl2
    have e : IntKind.i64.wrap ((ls.length : Int) - 1) = (ls.length : Int) - 1 := by
      simp [IntKind.wrap, IntKind.bits, IntKind.signed]
      omega
    rw [e, Bool.eq_iff_iff]
    simp
    omega
  have FN : Hid (∀ n lst, lst = decide (k + 1 = ls.length) → Calls Tryz.prog 107 #[.pointer (some ⟨wb, 0, none⟩), .int .i64 (z : Int), .bool lst] (w.drewN n) fun e w' => e = .returned (.bool bb) ∧ w' = w.drewN n) := by
    intro n lst hl
    rw [hbb, hl]
    exact needs_any (h.still (Chg.drewN _ _ _)) z hzT _
  have FW : Hid (∀ a bs', Wkp B wb w a → Wrt a B wb tv bn bs' → bs'.length + (wtx bn T z).length ≤ 100000000000000 → Calls Tryz.prog 64 #[.pointer (some ⟨wb, 0, none⟩), .int .i64 (z : Int)] a (WPost w B wb tv bn (bs' ++ wtx bn T z))) := by
    intro a bs' ha hw hl
    refine (IH z a bs' hzm hzT (h.kept ha hw) (Nat.le_trans hBw ha.size) hl).mono ?_
    rintro e w' ⟨rfl, h1, h2⟩
    exact ⟨rfl, ha.trans h1, h2⟩
  have FS : Hid (∀ a bs' (c : UInt8), Wkp B wb w a → Wrt a B wb tv bn bs' → bs'.length + 1 ≤ 100000000000000 → Calls Tryz.prog 80 #[.pointer (some ⟨wb, 0, none⟩), .slice (some ⟨a.heap.size, 0, none⟩) 1 1] (a.alloc (.cells #[.string ⟨#[c]⟩] 9)) (WPost w B wb tv bn (bs' ++ [c]))) := by
    intro a bs' c ha hw hl
    refine (say_any (hw.still (Chg.alloc _ _ _)) [⟨#[c]⟩] a.heap.size (0, 0) (heap_alloc_new a _) (by simp) (by simp [said]; omega) (by simp; have := ha.size; omega)).mono ?_
    rintro e w' ⟨rfl, h1, h2⟩
    exact ⟨rfl, (ha.trans (Wkp.still (Chg.alloc _ _ _))).trans h1, by simpa [said] using h2⟩
  have FC : Hid (∀ a, Wkp B wb w a → a.cell? ⟨qx, 0, none⟩ = some (.pointer (some ⟨wb, 0, none⟩)) ∧ a.cell? ⟨ql, 0, none⟩ = some (.slice la ls.length lc) ∧ qx < a.heap.size ∧ ql < a.heap.size ∧ ∀ g, la = some ⟨g, 0, none⟩ → g < a.heap.size ∧ a.cell? ⟨g, k, none⟩ = some (.int .i64 (z : Int))) := by
    intro a ha
    have hx2 := ha.other h.wrt hx (by decide) (by decide)
    have ht2 := ha.other h.wrt ht (by decide) (by decide)
    refine ⟨by rw [cell_of_row a qx 0 _ _ _ hx2]; rfl, by rw [cell_of_row a ql 0 _ _ _ ht2]; rfl, (Array.getElem?_eq_some_iff.1 hx2).1, (Array.getElem?_eq_some_iff.1 ht2).1, fun g hg => ?_⟩
    obtain ⟨g', e, hg1, _, _, y⟩ := ints_cell (ha.own h.wrt ho (by decide) (by decide)) hk
    rw [hg] at e
    cases e
    rw [hz] at y
    exact ⟨hg1, y⟩
  obtain ⟨g, rfl, hg, hl1, hl2, y0⟩ := ints_cell ho hk
  have HW := hide h.wrt
  unfold maxLen at hl2
  have hk1 : decide ((k : Int) < 0) = false := by simp
  have hk' : (k : Int) < (ls.length : Int) := by omega
  obtain ⟨c1, c2, -, -, c3⟩ := FC.out w (Wkp.refl _ _ _)
  have y1 := (c3 g rfl).2
  clear h hx ht ho hz y0 c3 hbb
  have hwu : Hid (wup bn T z bb = if bb then [40] ++ wtx bn T z ++ [41] else wtx bn T z) := rfl
  generalize wup bn T z bb = tx at *
  generalize wtx bn T z = tz at *
  go_enter Tryz.func106, Tryz.ntmps106
  go_wp2_with fail
  go_quiet ((go_at_call 107; refine Calls.quiet_of_same (FN.out _ _ ?_); rfl))
  cases bb
  · have e := hwu.out
    simp only [Bool.false_eq_true, if_false] at e
    subst e
    obtain ⟨c1, c2, l1, l2, c3⟩ := FC.out _ (Wkp.still (Chg.drewN (fun _ => False) w nq))
    obtain ⟨hg1, y1⟩ := c3 g rfl
    go_wp2_with fail
    go_region_with ((go_at_call 64; refine (FW.out _ bs ?_ ?_ hlen).mono ?_; exact Wkp.still (Chg.drewN (fun _ => False) w _); exact HW.out.still (Chg.drewN (fun _ => False) w _); rintro e w1 ⟨rfl, h1, h2⟩))
    all_goals
      go_wp2
      go_end0
      exact ⟨rfl, h1, h2⟩
  · have e := hwu.out
    simp only [if_true] at e
    subst e
    simp only [List.length_append, List.length_cons, List.length_nil] at hlen
    have hw0 : Wkp B wb w (w.drewN nq) := Wkp.still (Chg.drewN (fun _ => False) w nq)
    obtain ⟨c1, c2, l1, l2, c3⟩ := FC.out _ hw0
    have HS1 := hide (FS.out (w.drewN nq) bs 40 hw0 (HW.out.still (Chg.drewN (fun _ => False) w nq)) (by omega))
    clear c3 hw0
    go_wp2_with fail
    refine HS1.out.mono ?_
    rintro e w1 ⟨rfl, h1, h2⟩
    obtain ⟨d1, d2, m1, m2, d3⟩ := FC.out w1 h1
    obtain ⟨hg1, y2⟩ := d3 g rfl
    have H1 := hide h1
    have H2 := hide h2
    clear h1 h2 d3 HS1
    go_wp2_with fail
    go_region_with ((go_at_call 64; refine (FW.out _ (bs ++ [40]) (H1.out.trans (Wkp.still (Chg.drewN (fun _ => False) w1 1))) (H2.out.still (Chg.drewN (fun _ => False) w1 1)) (by simp; omega)).mono ?_; rintro e w2 ⟨rfl, h3, h4⟩))
    all_goals
      obtain ⟨d4, -, m4, -, -⟩ := FC.out w2 h3
      have HS2 := hide (FS.out w2 _ 41 h3 h4 (by simp; omega))
      clear h3 h4
      go_wp2_with fail
      refine HS2.out.mono ?_
      rintro e w3 ⟨rfl, h5, h6⟩
      go_wp2
      go_end0
      exact ⟨rfl, h5, by simpa using h6⟩
end
end Go.Proofs.YtkilicjjaljghaaGreat

/- The contract of Row, over the two closures. -/
namespace Go.Proofs.YtkilicjjaljghaaGreat
open Go.RowKit Go.Maps

/-- Some parts, and something between them. -/
def rowb (sep : List UInt8) (f : Nat → List UInt8) : Nat → List UInt8
  | 0 => []
  | n + 1 => rowb sep f n ++ ((if n = 0 then [] else sep) ++ f n)
theorem rowb_le (sep : List UInt8) (f : Nat → List UInt8) {j n : Nat} (h : j ≤ n) : (rowb sep f j).length ≤ (rowb sep f n).length := by
  induction n with
  | zero => have : j = 0 := by omega
            subst this; exact Nat.le_refl _
  | succ n ih =>
    by_cases hj : j = n + 1
    · subst hj; exact Nat.le_refl _
    · have := ih (by omega)
      simp only [rowb, List.length_append]
      omega
theorem rowb_succ (sep : List UInt8) (f : Nat → List UInt8) (j : Nat) : rowb sep f (j + 1) = rowb sep f j ++ ((if j = 0 then [] else sep) ++ f j) := rfl

section
variable {B wb : Nat} {tv : Value} {bn : Bool}

set_option maxHeartbeats 2000000 in
set_option maxRecDepth 100000 in
theorem row_type (w : World) (bs : List UInt8) (h : Wrt w B wb tv bn bs) (hBw : B ≤ w.heap.size) (n : Nat) (hn : n ≤ 1000000) (sep : ByteArray) (c1 c2 : Value) (f : Nat → List UInt8) (hlen : bs.length + (rowb sep.data.toList f n).length ≤ 100000000000000)
    (HP : ∀ (a : World) (j : Nat) (bs' : List UInt8), Wkp B wb w a → Wrt a B wb tv bn bs' → j < n → bs'.length + (f j).length ≤ 100000000000000 → Calls Tryz.prog 82 #[.int .i64 (j : Int), c1, c2] a (WPost w B wb tv bn (bs' ++ f j))) :
    Calls Tryz.prog 81 #[.pointer (some ⟨wb, 0, none⟩), .int .i64 (n : Int), .string sep, .func (.func 82) #[] #[c1, c2]] w (WPost w B wb tv bn (bs ++ rowb sep.data.toList f n)) := by
  have H0 := hide h
  have HPP := hide HP
  have HSZ : Hid (sep.data.toList.length = sep.size) := bl sep
  clear h HP
  go_enter Tryz.func81, Tryz.ntmps81
  go_wp2_with fail
  go_loopw [10] (fun v wr => ∃ (j : Nat), j ≤ n ∧ v = .int .i64 (j : Int) ∧ Hid (Wrt wr B wb tv bn (bs ++ rowb sep.data.toList f j)) ∧ Hid (Wkp B wb w wr)) (fun v _ => n - (intOf v).toNat)
  case atStart => exact ⟨0, Nat.zero_le _, rfl, by simpa [rowb] using H0, Wkp.refl _ _ _⟩
  case round =>
    obtain ⟨j, hj, rfl, WR, CR⟩ := hrel
    by_cases hjl : j < n
    · have hl := rowb_le sep.data.toList f (show j + 1 ≤ n from hjl)
      have HE := hide (rowb_succ sep.data.toList f j)
      rw [rowb_succ] at hl
      simp only [List.length_append] at hl
      have hwl : wb < wr.heap.size := WR.out.tys.2.2
      by_cases hj0 : j = 0
      · have HC := hide (HPP.out wr j _ CR.out WR.out hjl (by simp only [List.length_append]; omega))
        simp only [hj0, if_true, List.nil_append] at HE
        subst hj0
        have CR2 := hide CR.out
        clear CR WR hl
        go_wp2_with fail
        refine HC.out.mono ?_
        rintro e w1 ⟨rfl, hk, hw⟩
        have HK := hide hk
        have HWr := hide hw
        clear hk hw
        go_wp2
        go_roundw
        case rel => exact ⟨0 + 1, by omega, by go_num, by rw [HE.out, ← List.append_assoc]; exact HWr.out, HK.out⟩
        case measure => simp [intOf]; omega
      · simp only [hj0, if_false] at HE hl
        have hpos : (0 : Int) < (j : Int) := by omega
        have HW := hide (writeString_any WR.out sep (by have := HSZ.out; simp only [List.length_append]; omega) (Nat.le_trans hBw CR.out.size))
        have CR2 := hide CR.out
        have HL := hide hl
        clear CR WR hl
        go_wp2_with fail
        refine HW.out.mono ?_
        rintro e w1 ⟨rfl, hk, hw⟩
        have HC := hide (HPP.out w1 j _ (CR2.out.trans hk) hw hjl (by have := HL.out; simp only [List.length_append]; omega))
        clear hk hw HW
        go_wp2_with fail
        refine HC.out.mono ?_
        rintro e w2 ⟨rfl, hk, hw⟩
        have HK := hide hk
        have HWr := hide hw
        clear hk hw
        go_wp2
        go_roundw
        case rel => exact ⟨j + 1, by omega, by go_num, by rw [HE.out]; simpa using HWr, HK.out⟩
        case measure => simp [intOf]; omega
    · have hje : j = n := by omega
      subst hje
      go_wp2_with fail
      go_end0
      exact ⟨rfl, CR.out, WR.out⟩

set_option maxHeartbeats 2000000 in
set_option maxRecDepth 100000 in
theorem row_union (w : World) (bs : List UInt8) (h : Wrt w B wb tv bn bs) (hBw : B ≤ w.heap.size) (n : Nat) (hn : n ≤ 1000000) (sep : ByteArray) (c1 c2 : Value) (f : Nat → List UInt8) (hlen : bs.length + (rowb sep.data.toList f n).length ≤ 100000000000000)
    (HP : ∀ (a : World) (j : Nat) (bs' : List UInt8), Wkp B wb w a → Wrt a B wb tv bn bs' → j < n → bs'.length + (f j).length ≤ 100000000000000 → Calls Tryz.prog 106 #[.int .i64 (j : Int), c1, c2] a (WPost w B wb tv bn (bs' ++ f j))) :
    Calls Tryz.prog 81 #[.pointer (some ⟨wb, 0, none⟩), .int .i64 (n : Int), .string sep, .func (.func 106) #[] #[c1, c2]] w (WPost w B wb tv bn (bs ++ rowb sep.data.toList f n)) := by
  have H0 := hide h
  have HPP := hide HP
  have HSZ : Hid (sep.data.toList.length = sep.size) := bl sep
  clear h HP
  go_enter Tryz.func81, Tryz.ntmps81
  go_wp2_with fail
  go_loopw [10] (fun v wr => ∃ (j : Nat), j ≤ n ∧ v = .int .i64 (j : Int) ∧ Hid (Wrt wr B wb tv bn (bs ++ rowb sep.data.toList f j)) ∧ Hid (Wkp B wb w wr)) (fun v _ => n - (intOf v).toNat)
  case atStart => exact ⟨0, Nat.zero_le _, rfl, by simpa [rowb] using H0, Wkp.refl _ _ _⟩
  case round =>
    obtain ⟨j, hj, rfl, WR, CR⟩ := hrel
    by_cases hjl : j < n
    · have hl := rowb_le sep.data.toList f (show j + 1 ≤ n from hjl)
      have HE := hide (rowb_succ sep.data.toList f j)
      rw [rowb_succ] at hl
      simp only [List.length_append] at hl
      have hwl : wb < wr.heap.size := WR.out.tys.2.2
      by_cases hj0 : j = 0
      · have HC := hide (HPP.out wr j _ CR.out WR.out hjl (by simp only [List.length_append]; omega))
        simp only [hj0, if_true, List.nil_append] at HE
        subst hj0
        have CR2 := hide CR.out
        clear CR WR hl
        go_wp2_with fail
        refine HC.out.mono ?_
        rintro e w1 ⟨rfl, hk, hw⟩
        have HK := hide hk
        have HWr := hide hw
        clear hk hw
        go_wp2
        go_roundw
        case rel => exact ⟨0 + 1, by omega, by go_num, by rw [HE.out, ← List.append_assoc]; exact HWr.out, HK.out⟩
        case measure => simp [intOf]; omega
      · simp only [hj0, if_false] at HE hl
        have hpos : (0 : Int) < (j : Int) := by omega
        have HW := hide (writeString_any WR.out sep (by have := HSZ.out; simp only [List.length_append]; omega) (Nat.le_trans hBw CR.out.size))
        have CR2 := hide CR.out
        have HL := hide hl
        clear CR WR hl
        go_wp2_with fail
        refine HW.out.mono ?_
        rintro e w1 ⟨rfl, hk, hw⟩
        have HC := hide (HPP.out w1 j _ (CR2.out.trans hk) hw hjl (by have := HL.out; simp only [List.length_append]; omega))
        clear hk hw HW
        go_wp2_with fail
        refine HC.out.mono ?_
        rintro e w2 ⟨rfl, hk, hw⟩
        have HK := hide hk
        have HWr := hide hw
        clear hk hw
        go_wp2
        go_roundw
        case rel => exact ⟨j + 1, by omega, by go_num, by rw [HE.out]; simpa using HWr, HK.out⟩
        case measure => simp [intOf]; omega
    · have hje : j = n := by omega
      subst hje
      go_wp2_with fail
      go_end0
      exact ⟨rfl, CR.out, WR.out⟩
end
end Go.Proofs.YtkilicjjaljghaaGreat

/- The contract of union, over Type. -/
namespace Go.Proofs.YtkilicjjaljghaaGreat
open Go.RowKit Go.Maps

section
variable {B wb : Nat} {tv : Value} {bn : Bool} {T : List M.Ty} {m : Nat}

/-- One part of a union, by its place. -/
def wus (bn : Bool) (T : List M.Ty) (ls : List Int) (j : Nat) : List UInt8 := wup bn T (ls.getD j 0).toNat (brk (T.getD (ls.getD j 0).toNat M.ty0).kind (decide (j + 1 = ls.length)))

set_option maxHeartbeats 1000000 in
theorem wunion_any (IH : WCon B wb tv bn T m) (w : World) (bs : List UInt8) (h : Wsp w B wb tv bn T bs) (hBw : B ≤ w.heap.size) (la : Option Addr) (lc : Nat) (ls : List Int) (hn : ls.length ≤ 100000) (hin : ∀ x ∈ ls, 0 ≤ x ∧ x < T.length ∧ x + 1 ≤ m) (ho : w.ownsRow 0 3 1 (.slice la ls.length lc) ls.length (ints ls)) (hlen : bs.length + (rowb [32, 124, 32] (wus bn T ls) ls.length).length ≤ 100000000000000) :
    Calls Tryz.prog 83 #[.pointer (some ⟨wb, 0, none⟩), .slice la ls.length lc] w (WPost w B wb tv bn (bs ++ rowb [32, 124, 32] (wus bn T ls) ls.length)) := by
  have HR : Hid (∀ a, a = (w.alloc (.cells #[.pointer (some ⟨wb, 0, none⟩)] 83)).alloc (.cells #[.slice la ls.length lc] 42) → Calls Tryz.prog 81 #[.pointer (some ⟨wb, 0, none⟩), .int .i64 (ls.length : Int), .string ⟨#[32, 124, 32]⟩, .func (.func 106) #[] #[.pointer (some ⟨w.heap.size, 0, none⟩), .pointer (some ⟨w.heap.size + 1, 0, none⟩)]] a (WPost w B wb tv bn (bs ++ rowb [32, 124, 32] (wus bn T ls) ls.length))) := by
    intro a ha
    have hc : Chg (fun _ => False) w a := by subst ha; exact (Chg.alloc (fun _ => False) _ _).trans (Chg.alloc (fun _ => False) _ _) (fun _ _ x => x)
    have hs := h.still hc
    have hx : a.heap[w.heap.size]? = some (.cells #[.pointer (some ⟨wb, 0, none⟩)] 83 (0, 0)) := by
      subst ha
      rw [Below.heap_alloc _ _ _ (by simp)]
      exact heap_alloc_new w _
    have ht : a.heap[w.heap.size + 1]? = some (.cells #[.slice la ls.length lc] 42 (0, 0)) := by
      subst ha
      have := heap_alloc_new (w.alloc (.cells #[.pointer (some ⟨wb, 0, none⟩)] 83)) (.cells #[.slice la ls.length lc] 42)
      simpa using this
    have ho2 : a.ownsRow 0 3 1 (.slice la ls.length lc) ls.length (ints ls) := owns_chg ho hc (fun _ _ x => x)
    refine (row_union a bs hs.wrt (Nat.le_trans hBw hc.size) ls.length (by omega) ⟨#[32, 124, 32]⟩ _ _ (wus bn T ls) hlen ?_).mono ?_
    · intro a2 j bs' hk hw hj hl
      have hxx := hin ls[j] (List.getElem_mem hj)
      obtain ⟨z, hz⟩ : ∃ z : Nat, ls[j] = (z : Int) := ⟨ls[j].toNat, by omega⟩
      have hzT : z < T.length := by omega
      have e : wus bn T ls j = wup bn T z (brk T[z].kind (decide (j + 1 = ls.length))) := by
        unfold wus
        rw [show ls.getD j 0 = (z : Int) from by simp [hj, hz], Int.toNat_natCast, M.getD_at hzT]
      rw [e] at hl ⊢
      refine (union1_any IH a2 bs' (hs.kept hk hw) (Nat.le_trans hBw (Nat.le_trans hc.size hk.size)) j w.heap.size (w.heap.size + 1) la lc ls hj z hz (by omega) hzT _ rfl hl (hk.other hs.wrt hx (by decide) (by decide)) (hk.other hs.wrt ht (by decide) (by decide)) (hk.own hs.wrt ho2 (by decide) (by decide))).mono ?_
      rintro e w' ⟨rfl, h1, h2⟩
      exact ⟨rfl, hk.trans h1, h2⟩
    · rintro e w' ⟨rfl, h1, h2⟩
      exact ⟨rfl, (Wkp.still hc).trans h1, h2⟩
  clear h ho hin hlen
  generalize rowb [32, 124, 32] (wus bn T ls) ls.length = tx at *
  go_enter Tryz.func83, Tryz.ntmps83
  go_wp2_with fail
  refine (HR.out _ rfl).mono ?_
  rintro e w1 ⟨rfl, h1, h2⟩
  go_wp2
  go_end0
  exact ⟨rfl, h1, h2⟩
end
end Go.Proofs.YtkilicjjaljghaaGreat

/- Plain: how the writer's rows are what a type's text is made of. -/
namespace Go.Proofs.YtkilicjjaljghaaGreat

def rowx (sep : List UInt8) (f : Nat → List UInt8) : Nat → List UInt8
  | 0 => []
  | n + 1 => rowx sep f n ++ (sep ++ f n)
theorem rowx_cons (sep : List UInt8) (f : Nat → List UInt8) : ∀ n, rowx sep f (n + 1) = sep ++ f 0 ++ rowx sep (fun j => f (j + 1)) n
  | 0 => by simp [rowx]
  | n + 1 => by
    rw [rowx, rowx_cons sep f n, rowx]
    simp
theorem rowb_cons (sep : List UInt8) (f : Nat → List UInt8) : ∀ n, rowb sep f (n + 1) = f 0 ++ rowx sep (fun j => f (j + 1)) n
  | 0 => by simp [rowb, rowx]
  | n + 1 => by
    rw [rowb, rowb_cons sep f n, rowx]
    simp
theorem rowx_congr (sep : List UInt8) {f g : Nat → List UInt8} : ∀ n, (∀ j, j < n → f j = g j) → rowx sep f n = rowx sep g n
  | 0, _ => rfl
  | n + 1, h => by rw [rowx, rowx, rowx_congr sep n (fun j hj => h j (by omega)), h n (by omega)]
theorem rowb_congr (sep : List UInt8) {f g : Nat → List UInt8} : ∀ n, (∀ j, j < n → f j = g j) → rowb sep f n = rowb sep g n
  | 0, _ => rfl
  | n + 1, h => by rw [rowb, rowb, rowb_congr sep n (fun j hj => h j (by omega)), h n (by omega)]

/-- A type that is none. -/
def tr0 : M.Tr := .nd 0 [] []
theorem txtC_false : ∀ r : List M.Tr, M.txtC false r = rowx [44, 32] (fun j => M.txt' (r.getD j tr0)) r.length
  | [] => by simp [M.txtC, rowx]
  | t :: r => by
    rw [M.txtC, txtC_false r, List.length_cons, rowx_cons]
    simp
theorem txtC_true : ∀ r : List M.Tr, M.txtC true r = rowb [44, 32] (fun j => M.txt' (r.getD j tr0)) r.length
  | [] => by simp [M.txtC, rowb]
  | t :: r => by
    rw [M.txtC, txtC_false r, List.length_cons, rowb_cons]
    simp

/-- A part of a union. -/
def upt (t : M.Tr) (last : Bool) : List UInt8 := if brk t.k last then [40] ++ M.txt' t ++ [41] else M.txt' t
theorem upt_eq (t : M.Tr) (r : List M.Tr) : (if t.k = 10 ∨ t.k = 9 ∧ r.length ≠ 0 then [40] ++ M.txt' t ++ [41] else M.txt' t) = upt t (decide (0 + 1 = (t :: r).length)) := by
  unfold upt brk
  have e : decide (0 + 1 = (t :: r).length) = decide (r.length = 0) := by
    rw [Bool.eq_iff_iff]; simp
  rw [e]
  by_cases h10 : t.k = 10
  · simp [h10]
  · by_cases h9 : t.k = 9
    · by_cases hr : r.length = 0 <;> simp [h9, hr]
    · simp [h10, h9]
theorem txtU_false : ∀ r : List M.Tr, M.txtU false r = rowx [32, 124, 32] (fun j => upt (r.getD j tr0) (decide (j + 1 = r.length))) r.length
  | [] => by simp [M.txtU, rowx]
  | t :: r => by
    rw [M.txtU, txtU_false r, upt_eq, List.length_cons, rowx_cons]
    simp
theorem txtU_true : ∀ r : List M.Tr, M.txtU true r = rowb [32, 124, 32] (fun j => upt (r.getD j tr0) (decide (j + 1 = r.length))) r.length
  | [] => by simp [M.txtU, rowb]
  | t :: r => by
    rw [M.txtU, txtU_false r, upt_eq, List.length_cons, rowb_cons]
    simp

theorem wtr_k (bn : Bool) (t : M.Tr) : (wtr bn t).k = t.k := by
  unfold wtr
  split
  · exact M.srt_k t
  · rfl
theorem wtr_ne (bn : Bool) {k : Int} {ns : List (List UInt8)} {ks : List M.Tr} (h : k ≠ 7) : wtr bn (.nd k ns ks) = .nd k ns (ks.map (wtr bn)) := by
  cases bn
  · have e : wtr false = id := by funext t; simp [wtr]
    rw [e]
    simp
  · have e : wtr true = M.srt := by funext t; simp [wtr]
    rw [e]
    exact M.srt_ne h

section
variable {bn : Bool} {T : List M.Ty} {i : Nat}
theorem wtx_plain (hT : M.TsOk T) (hi : i < T.length) (h1 : 1 ≤ T[i].kind) (h2 : T[i].kind ≤ 6) : wtx bn T i = M.word T[i].kind := by
  unfold wtx
  rw [M.tr_eq hT hi, wtr_ne bn (by omega), M.txt', if_neg (by omega), if_neg (by omega), if_neg (by omega), if_neg (by omega)]
theorem wtx_arr (hT : M.TsOk T) (hi : i < T.length) (h : T[i].kind = 8) : wtx bn T i = [91] ++ wtx bn T T[i].of'.toNat ++ [93] := by
  unfold wtx
  rw [M.tr_eq hT hi, wtr_ne bn (by omega), M.txt', if_neg (by omega), if_pos h, if_pos (.inl h)]
  simp [M.txtH]
theorem no_fields (hT : M.TsOk T) (hi : i < T.length) (h : T[i].kind = 9 ∨ T[i].kind = 10) : T[i].fields = [] := by
  rcases hT i hi with ht | ht | ht | ht | ht
  · omega
  · omega
  · omega
  · exact ht.2.1
  · exact ht.2.1
theorem wtx_fn (hT : M.TsOk T) (hi : i < T.length) (h : T[i].kind = 9) : wtx bn T i = [40] ++ rowb [44, 32] (fun j => wtx bn T (T[i].list.getD j 0).toNat) T[i].list.length ++ [41, 32, 61, 62, 32] ++ wtx bn T T[i].of'.toNat := by
  have e : rowb [44, 32] (fun j => wtx bn T (T[i].list.getD j 0).toNat) T[i].list.length = M.txtC true ((T[i].list.map fun x => M.tr T x.toNat).map (wtr bn)) := by
    rw [txtC_true, List.length_map, List.length_map]
    refine rowb_congr _ _ fun j hj => ?_
    unfold wtx
    simp [hj]
  rw [e]
  unfold wtx
  rw [M.tr_eq hT hi, wtr_ne bn (by omega), M.txt', if_neg (by omega), if_neg (by omega), if_pos h, if_pos (.inr h), no_fields hT hi (.inl h)]
  simp [M.txtB]
theorem wtx_uni (hT : M.TsOk T) (hi : i < T.length) (h : T[i].kind = 10) : wtx bn T i = rowb [32, 124, 32] (wus bn T T[i].list) T[i].list.length := by
  have e : rowb [32, 124, 32] (wus bn T T[i].list) T[i].list.length = M.txtU true ((T[i].list.map fun x => M.tr T x.toNat).map (wtr bn)) := by
    rw [txtU_true, List.length_map, List.length_map]
    refine rowb_congr _ _ fun j hj => ?_
    have hx := (hT i hi).lst T[i].list[j] (List.getElem_mem hj)
    have hz : T[i].list[j].toNat < T.length := by omega
    unfold wus wup upt wtx
    have e1 : (M.tr T T[i].list[j].toNat).k = T[T[i].list[j].toNat].kind := by rw [M.tr_eq hT hz]; rfl
    simp [hj, wtr_k, e1, hz]
  rw [e]
  unfold wtx
  rw [M.tr_eq hT hi, wtr_ne bn (by omega), M.txt', if_neg (by omega), if_neg (by omega), if_neg (by omega), if_pos h, if_neg (by omega), no_fields hT hi (.inr h)]
  simp
end
end Go.Proofs.YtkilicjjaljghaaGreat
