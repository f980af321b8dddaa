/-
  Plain facts: the tokens of a text stand apart.
-/
import Derived.Test.YthaffghlalnjaaaMathd
namespace Go.Proofs.Ythaffghlalnjaaa.M

def plain (k : Int) : Bool := k == 1 || k == 2 || k == 3

/-- Where a token ends. -/
def tend (t : Tk) : Nat := t.at' + t.text.length + if t.kind = 4 then 2 else 0

/-- The tokens stand one behind the other from a place on, behind one of kind pk, with blanks alone between, to the end. -/
def chk (l : List UInt8) : Nat → Int → List Tk → Prop
  | a, _, [] => a = l.length
  | a, pk, t :: r => a ≤ t.at' ∧ t.at' ≤ l.length ∧ (∀ k (h : k < l.length), a ≤ k → k < t.at' → blank l[k].toNat = true) ∧
      (plain t.kind = true → t.at' = a → plain pk = true → pk = 3 ∧ t.kind ≠ 3) ∧ chk l (tend t) t.kind r

/-- Behind a name no letter or digit stands, behind a number no digit. -/
def munch (l : List UInt8) (a : Nat) (pk : Int) : Prop :=
  (pk = 1 ∨ pk = 2 → ∀ h : a < l.length, nam l[a].toNat = false) ∧ (pk = 3 → ∀ h : a < l.length, dig l[a].toNat = false)

theorem sp_end (p : Nat → Bool) : ∀ (l : List UInt8) (h : sp p l < l.length), p l[sp p l].toNat = false
  | [], h => by simp [sp] at h
  | c :: r, h => by
    cases hc : p c.toNat
    · simp [sp, hc]
    · have h2 : sp p (c :: r) = sp p r + 1 := by simp [sp, hc]
      simp only [h2, List.getElem_cons_succ]
      rw [h2] at h
      exact sp_end p r (by simpa using h)

theorem sp_all (p : Nat → Bool) : ∀ (l : List UInt8) (k : Nat) (h : k < l.length), k < sp p l → p l[k].toNat = true
  | [], k, h, _ => by simp at h
  | c :: r, 0, _, hk => by
    cases hc : p c.toNat
    · simp [sp, hc] at hk
    · simpa using hc
  | c :: r, k + 1, h, hk => by
    cases hc : p c.toNat
    · simp [sp, hc] at hk
    · simp only [sp, hc, if_true] at hk
      simpa using sp_all p r k (by simpa using h) (by omega)

/-- What the first token of a text is like. -/
structure FirstOk (l : List UInt8) (r : Int × List UInt8 × Nat) : Prop where
  le : r.2.2 ≤ l.length
  size : r.2.2 = r.2.1.length + if r.1 = 4 then 2 else 0
  kind : r.1 ≠ 6
  name : r.1 = 1 ∨ r.1 = 2 → (∀ h : 0 < l.length, let' l[0].toNat = true) ∧ (∀ h : r.2.2 < l.length, nam l[r.2.2].toNat = false)
  num : r.1 = 3 → (∀ h : 0 < l.length, dig l[0].toNat = true) ∧ (∀ h : r.2.2 < l.length, dig l[r.2.2].toNat = false)

theorem first_ok (l : List UInt8) (hr : (first l).2.2 ≠ 0) : FirstOk l (first l) := by
  have hle := first_le l
  unfold first at hr hle ⊢
  cases hh : l.head? with
  | none => rw [hh] at hr; simp at hr
  | some c =>
    rw [hh] at hr hle
    simp only at hr hle ⊢
    have h0 : ∀ h : 0 < l.length, l[0] = c := by
      intro h
      rw [List.head?_eq_getElem?, List.getElem?_eq_getElem h] at hh
      exact Option.some.inj hh
    cases hd : dig c.toNat
    · rw [hd] at hr hle
      cases hl : let' c.toNat
      · rw [hl] at hr hle
        by_cases h34 : c.toNat = 34
        · rw [if_pos h34] at hr hle ⊢
          simp only [Bool.false_eq_true, if_false] at hr hle ⊢
          unfold text at hr hle ⊢
          split at hr
          · simp at hr
          · rename_i hn
            rw [if_neg hn] at hle ⊢
            have h2 : sp txt l.tail + 2 ≤ l.length := hle
            refine ⟨hle, ?_, by simp, by simp, by simp⟩
            simp; omega
        · rw [if_neg h34] at hr hle ⊢
          simp only [Bool.false_eq_true, if_false] at hr hle ⊢
          unfold sign at hr hle ⊢
          split at hr
          · simp at hr
          · rename_i hn
            rw [if_neg hn] at hle ⊢
            have h2 : longest l signs ≤ l.length := hle
            refine ⟨hle, ?_, by simp, by simp, by simp⟩
            simp; omega
      · rw [hl] at hr hle
        simp only [Bool.false_eq_true, if_false, if_true] at hr hle ⊢
        unfold name at hr hle ⊢
        split at hr
        · simp at hr
        · rename_i hn
          rw [if_neg hn] at hle ⊢
          have h2 : sp nam l ≤ l.length := hle
          refine ⟨hle, ?_, ?_, ?_, ?_⟩
          · cases isWord (l.take (sp nam l)) <;> simp <;> omega
          · cases isWord (l.take (sp nam l)) <;> simp
          · intro _
            exact ⟨fun h => by rw [h0 h]; exact hl, fun h => sp_end nam l h⟩
          · cases isWord (l.take (sp nam l)) <;> simp
    · rw [hd] at hr hle
      simp only [if_true] at hr hle ⊢
      unfold number at hr hle ⊢
      split at hr
      · simp at hr
      · rename_i hn
        rw [if_neg hn] at hle ⊢
        have h2 : sp dig l ≤ l.length := hle
        refine ⟨hle, ?_, by simp, by simp, ?_⟩
        · simp; omega
        · intro _
          exact ⟨fun h => by rw [h0 h]; exact hd, fun h => sp_end dig l h⟩

theorem scanF_apart : ∀ (f : Nat) (l : List UInt8) (a : Nat) (acc : List Tk) (pk : Int), l.length - a < f → a ≤ l.length → munch l a pk → (scanF f l a acc).2.1 = 0 →
    ∃ suf last, (scanF f l a acc).1 = acc ++ suf ∧ chk l a pk suf ∧ suf.getLast? = some last ∧ last.kind = 6
  | 0, l, a, acc, pk, hf, _, _, _ => by omega
  | f + 1, l, a, acc, pk, hf, ha, hm, he => by
    have hsl := sp_le blank (l.drop a)
    rw [List.length_drop] at hsl
    have hbl : ∀ k (h : k < l.length), a ≤ k → k < a + sp blank (l.drop a) → blank l[k].toNat = true := by
      intro k h h1 h2
      have := sp_all blank (l.drop a) (k - a) (by rw [List.length_drop]; omega) (by omega)
      rw [List.getElem_drop] at this
      simpa [show a + (k - a) = k by omega] using this
    simp only [scanF] at he ⊢
    by_cases h1 : l.length ≤ a + sp blank (l.drop a)
    · rw [if_pos h1]
      refine ⟨[⟨6, [], l.length⟩], ⟨6, [], l.length⟩, rfl, ?_, rfl, rfl⟩
      refine ⟨ha, Nat.le_refl _, fun k h h2 h3 => hbl k h h2 (by omega), by simp [plain], ?_⟩
      simp [chk, tend]
    · rw [if_neg h1] at he ⊢
      by_cases h2 : (first (l.drop (a + sp blank (l.drop a)))).2.2 = 0
      · rw [if_pos h2] at he; simp at he
      · rw [if_neg h2] at he ⊢
        by_cases h3 : acc.length = 1000
        · rw [if_pos h3] at he; simp at he
        · rw [if_neg h3] at he ⊢
          have ho := first_ok (l.drop (a + sp blank (l.drop a))) h2
          generalize hb : a + sp blank (l.drop a) = b at *
          generalize first (l.drop b) = r at *
          obtain ⟨k, t, n⟩ := r
          have hle := ho.le
          have hsz := ho.size
          simp only [List.length_drop] at h2 he hle hsz ⊢
          have hget : ∀ j (h : b + j < l.length), (l.drop b)[j]'(by rw [List.length_drop]; omega) = l[b + j] := fun j h => by rw [List.getElem_drop]
          have hm2 : munch l (b + n) k := by
            refine ⟨fun hk h => ?_, fun hk h => ?_⟩
            · have := (ho.name hk).2 (by rw [List.length_drop]; show n < _; omega)
              simp only at this
              rw [hget n h] at this
              exact this
            · have := (ho.num hk).2 (by rw [List.length_drop]; show n < _; omega)
              simp only at this
              rw [hget n h] at this
              exact this
          obtain ⟨suf, last, hs1, hs2, hs3, hs4⟩ := scanF_apart f l (b + n) (acc ++ [⟨k, t, b⟩]) k (by omega) (by omega) hm2 he
          refine ⟨⟨k, t, b⟩ :: suf, last, by rw [hs1]; simp, ?_, ?_, hs4⟩
          · refine ⟨by show a ≤ b; omega, by show b ≤ _; omega, hbl, ?_, ?_⟩
            · intro hp hab hpk
              have hab' : b = a := hab
              subst hab'
              have hlt : b < l.length := by omega
              have g0 := hget 0 (by omega)
              simp only [Nat.add_zero] at g0
              simp only [plain, Bool.or_eq_true, beq_iff_eq] at hp hpk
              have e1 : k = 1 ∨ k = 2 → let' l[b].toNat = true := fun hk => by
                have := (ho.name hk).1 (by rw [List.length_drop]; omega)
                rw [g0] at this
                exact this
              have e2 : k = 3 → dig l[b].toNat = true := fun hk => by
                have := (ho.num hk).1 (by rw [List.length_drop]; omega)
                rw [g0] at this
                exact this
              have m1 : pk = 1 ∨ pk = 2 → False := fun h => by
                have := hm.1 h hlt
                simp only [nam, Bool.or_eq_false_iff] at this
                rcases hp with hp | hp
                · rw [e1 hp] at this; simp at this
                · rw [e2 hp] at this; simp at this
              have m2 : pk = 3 → k ≠ 3 := fun h hk => by
                have := hm.2 h hlt
                rw [e2 hk] at this; simp at this
              rcases hpk with h | h
              · exact (m1 h).elim
              · exact ⟨h, m2 h⟩
            · have : tend ⟨k, t, b⟩ = b + n := by simp only [tend]; omega
              rw [this]
              exact hs2
          · cases suf with
            | nil => simp at hs3
            | cons x xs => rw [List.getLast?_cons_cons]; exact hs3

/-- The tokens of a text stand apart, if there is no fault. -/
theorem scan_apart (l : List UInt8) (h : (scan l).2.1 = 0) : chk l 0 0 (scan l).1 ∧ ∃ last, (scan l).1.getLast? = some last ∧ last.kind = 6 := by
  unfold scan at h ⊢
  split at h
  · simp at h
  · rename_i hn
    rw [if_neg hn]
    obtain ⟨suf, last, h1, h2, h3, h4⟩ := scanF_apart (l.length + 1) l 0 [] 0 (by omega) (by omega) ⟨by simp, by simp⟩ h
    rw [h1]
    exact ⟨h2, last, h3, h4⟩

/-- With a fault there are no tokens. -/
theorem scan_none (l : List UInt8) (h : (scan l).2.1 ≠ 0) : (scan l).1 = [] := by
  have key : ∀ (f : Nat) (l : List UInt8) (a : Nat) (acc : List Tk), (scanF f l a acc).2.1 ≠ 0 → (scanF f l a acc).1 = [] := by
    intro f
    induction f with
    | zero => intro l a acc h; simp [scanF]
    | succ f ih =>
      intro l a acc h
      simp only [scanF] at h ⊢
      split at h
      · simp at h
      rename_i h1
      rw [if_neg h1]
      split at h
      · rename_i h2; rw [if_pos h2]
      rename_i h2
      rw [if_neg h2]
      split at h
      · rename_i h3; rw [if_pos h3]
      rename_i h3
      rw [if_neg h3]
      exact ih _ _ _ h
  unfold scan at h ⊢
  split at h
  · rename_i h1; rw [if_pos h1]
  · rename_i h1; rw [if_neg h1]; exact key _ _ _ _ h

end Go.Proofs.Ythaffghlalnjaaa.M
