/-
  Plain functions on bytes and lists of bytes that say what the token scanner answers; nothing of the program is named here.
-/
namespace Go.Proofs.Ythaffghlalnjaaa.M

def dig (n : Nat) : Bool := decide (48 ≤ n) && decide (n ≤ 57)
def let' (n : Nat) : Bool := (decide (97 ≤ n) && decide (n ≤ 122)) || (decide (65 ≤ n) && decide (n ≤ 90)) || decide (n = 95)
def blank (n : Nat) : Bool := decide (n = 32) || decide (n = 10)
def nam (n : Nat) : Bool := let' n || dig n
def txt (n : Nat) : Bool := decide (32 ≤ n) && decide (n ≤ 126) && decide (n ≠ 34)

/-- How many bytes at the front go on. -/
def sp (p : Nat → Bool) : List UInt8 → Nat
  | [] => 0
  | c :: r => if p c.toNat then sp p r + 1 else 0

theorem sp_le (p : Nat → Bool) (l : List UInt8) : sp p l ≤ l.length := by
  induction l with
  | nil => simp [sp]
  | cons c r ih => simp only [sp]; split <;> simp <;> omega

theorem sp_yes (p : Nat → Bool) : ∀ (l : List UInt8) (k : Nat) (h : k < l.length), k ≤ sp p l → p l[k].toNat = true → k + 1 ≤ sp p l
  | [], _, h, _, _ => by simp at h
  | c :: r, 0, _, _, hp => by simp only [List.getElem_cons_zero] at hp; simp [sp, hp]
  | c :: r, k + 1, h, hk, hp => by
    simp only [sp] at hk ⊢
    split at hk
    · rename_i hc
      rw [if_pos hc]
      have := sp_yes p r k (by simpa using h) (by omega) (by simpa using hp)
      omega
    · omega

theorem sp_no (p : Nat → Bool) : ∀ (l : List UInt8) (k : Nat) (h : k < l.length), k ≤ sp p l → p l[k].toNat = false → sp p l = k
  | [], _, h, _, _ => by simp at h
  | c :: r, 0, _, _, hp => by simp only [List.getElem_cons_zero] at hp; simp [sp, hp]
  | c :: r, k + 1, h, hk, hp => by
    simp only [sp] at hk ⊢
    split at hk
    · rename_i hc
      rw [if_pos hc]
      have := sp_no p r k (by simpa using h) (by omega) (by simpa using hp)
      omega
    · omega

end Go.Proofs.Ythaffghlalnjaaa.M
