/-
  Plain: the text of an object, field by field, and in the order of names.
  Plain: how long the texts of types can be.
  Plain: how far the parser comes with types, and how many it makes.
  Plain: what the parser's functions for types have done, where they answer a type.
  Plain: a text has one answer; the answers of some texts.
-/
import Derived.Test.YtkilicjjaljghaaGreatPlainB
/- Plain: the text of an object, field by field, and in the order of names. -/
namespace Go.Proofs.YtkilicjjaljghaaGreat.M

theorem txtF_map : ∀ qs : List (List UInt8 × Tr), txtF (qs.map (·.1)) (qs.map (·.2)) = qs.flatMap fun p => [32] ++ p.1 ++ [58, 32] ++ txt' p.2 ++ [59]
  | [] => rfl
  | p :: r => by
    rw [List.map_cons, List.map_cons, txtF, List.headD_cons, List.tail_cons, txtF_map r, List.flatMap_cons]

theorem leN_fst {α β : Type} (a b : List UInt8 × α) (x y : β) : leN (a.1, x) (b.1, y) = leN a b := rfl

theorem srtL_map {α β : Type} (g : α → β) (l : List (List UInt8 × α)) (hn : (l.map (·.1)).Nodup) : srtL (l.map fun p => (p.1, g p.2)) = (srtL l).map fun p => (p.1, g p.2) := by
  refine (sorted_one _ _ (((srtL_perm l).map _).trans (srtL_perm _).symm) ?_ ?_ (srtL_sorted _)).symm
  · rw [List.map_map]
    have e : ((fun p : List UInt8 × β => p.1) ∘ fun p : List UInt8 × α => (p.1, g p.2)) = fun p => p.1 := rfl
    rw [e]
    exact ((srtL_perm l).map _).nodup_iff.2 hn
  · rw [List.pairwise_map]
    exact srtL_sorted l

theorem srt_obj (fs : List (List UInt8 × Int)) (f : Int → Tr) (hn : (fs.map (·.1)).Nodup) : srt (.nd 7 (fs.map (·.1)) (fs.map fun p => f p.2)) = .nd 7 ((srtL fs).map (·.1)) ((srtL fs).map fun p => srt (f p.2)) := by
  have e : (fs.map (·.1)).zip (srtK (fs.map fun p => f p.2)) = fs.map fun p => (p.1, (fun z => srt (f z)) p.2) := by
    rw [srtK_eq, List.map_map]
    induction fs with
    | nil => rfl
    | cons p r ih =>
      rw [List.map_cons, List.nodup_cons] at hn
      simp only [List.map_cons, List.zip_cons_cons, ih hn.2]
      rfl
  rw [srt, if_pos rfl, e, srtL_map (fun z => srt (f z)) fs hn, List.map_map, List.map_map]
  rfl

/-- The text of an object whose fields stand so. -/
theorem txt_obj (fs : List (List UInt8 × Int)) (f : Int → Tr) : txt' (.nd 7 (fs.map (·.1)) (fs.map fun p => f p.2)) = [123] ++ (fs.flatMap fun p => [32] ++ p.1 ++ [58, 32] ++ txt' (f p.2) ++ [59]) ++ (if fs.length = 0 then [] else [32]) ++ [125] := by
  have e := txtF_map (fs.map fun p => (p.1, f p.2))
  rw [List.map_map, List.map_map] at e
  have e2 : txtF (fs.map (·.1)) (fs.map fun p => f p.2) = fs.flatMap fun p => [32] ++ p.1 ++ [58, 32] ++ txt' (f p.2) ++ [59] := by
    refine Eq.trans e ?_
    rw [List.flatMap_map]
  rw [txt', if_pos rfl, e2, List.length_map]

theorem srtL_length {α : Type} (l : List (List UInt8 × α)) : (srtL l).length = l.length := (srtL_perm l).length_eq
end Go.Proofs.YtkilicjjaljghaaGreat.M

/- Plain: how long the texts of types can be. -/
namespace Go.Proofs.YtkilicjjaljghaaGreat.M

def nsW (ns : List (List UInt8)) : Nat := (ns.map fun n => n.length + 8).sum
mutual
/-- More than a type's text has bytes, whatever the order of its fields. -/
def wg : Tr → Nat
  | .nd _ ns ks => 16 + nsW ns + wgL ks
def wgL : List Tr → Nat
  | [] => 0
  | t :: r => wg t + 5 + wgL r
end
theorem wgL_eq : ∀ l : List Tr, wgL l = (l.map fun t => wg t + 5).sum
  | [] => rfl
  | t :: r => by rw [wgL, wgL_eq r, List.map_cons, List.sum_cons]
theorem wgL_app (l l' : List Tr) : wgL (l ++ l') = wgL l + wgL l' := by rw [wgL_eq, wgL_eq, wgL_eq, List.map_append, List.sum_append]
theorem nsW_app (l l' : List (List UInt8)) : nsW (l ++ l') = nsW l + nsW l' := by unfold nsW; rw [List.map_append, List.sum_append]
theorem wgL_one (t : Tr) : wgL [t] = wg t + 5 := by simp [wgL]
theorem nsW_one (n : List UInt8) : nsW [n] = n.length + 8 := by simp [nsW]
theorem wgL_mem : ∀ {l : List Tr} {x : Tr}, x ∈ l → wg x + 5 ≤ wgL l
  | t :: r, x, h => by
    rw [wgL]
    rcases List.mem_cons.1 h with rfl | h
    · omega
    · have := wgL_mem h; omega
theorem sum_perm {l l' : List Nat} (h : l.Perm l') : l.sum = l'.sum := by
  induction h with
  | nil => rfl
  | cons x _ ih => rw [List.sum_cons, List.sum_cons, ih]
  | swap x y l => simp only [List.sum_cons]; omega
  | trans _ _ ih1 ih2 => rw [ih1, ih2]
theorem wgL_perm {l l' : List Tr} (h : l.Perm l') : wgL l = wgL l' := by rw [wgL_eq, wgL_eq, sum_perm (h.map _)]
theorem nsW_perm {l l' : List (List UInt8)} (h : l.Perm l') : nsW l = nsW l' := sum_perm (h.map _)

theorem len_txtC : ∀ (r : List Tr) (b : Bool), (∀ x ∈ r, (txt' x).length ≤ wg x) → (txtC b r).length ≤ wgL r
  | [], _, _ => by simp [txtC]
  | t :: r, b, h => by
    have h1 := h t (by simp)
    have h2 := len_txtC r false (fun x hx => h x (by simp [hx]))
    rw [txtC, wgL]
    simp only [List.length_append]
    have : (if b = true then ([] : List UInt8) else [44, 32]).length ≤ 2 := by split <;> simp
    omega
theorem len_txtU : ∀ (r : List Tr) (b : Bool), (∀ x ∈ r, (txt' x).length ≤ wg x) → (txtU b r).length ≤ wgL r
  | [], _, _ => by simp [txtU]
  | t :: r, b, h => by
    have h1 := h t (by simp)
    have h2 := len_txtU r false (fun x hx => h x (by simp [hx]))
    rw [txtU, wgL]
    simp only [List.length_append]
    have e1 : (if b = true then ([] : List UInt8) else [32, 124, 32]).length ≤ 3 := by split <;> simp
    have e2 : (if t.k = 10 ∨ t.k = 9 ∧ r.length ≠ 0 then [40] ++ txt' t ++ [41] else txt' t).length ≤ (txt' t).length + 2 := by split <;> simp
    omega
theorem len_txtF : ∀ (r : List Tr) (ns : List (List UInt8)), (∀ x ∈ r, (txt' x).length ≤ wg x) → (txtF ns r).length ≤ nsW ns + wgL r
  | [], _, _ => by simp [txtF]
  | t :: r, ns, h => by
    have h1 := h t (by simp)
    have h2 := len_txtF r ns.tail (fun x hx => h x (by simp [hx]))
    rw [txtF, wgL]
    simp only [List.length_append, List.length_cons, List.length_nil]
    cases ns with
    | nil => simp only [List.headD_nil, List.tail_nil, List.length_nil] at *; omega
    | cons n ns =>
      have e : nsW (n :: ns) = n.length + 8 + nsW ns := by simp [nsW]
      simp only [List.headD_cons, List.tail_cons] at *
      omega
theorem len_word (k : Int) : (word k).length ≤ 7 := by
  unfold word
  split
  · simp
  split
  · simp
  split
  · simp
  split
  · simp
  split <;> simp
theorem len_txt (t : Tr) : (txt' t).length ≤ wg t := by
  induction t using Tr.ind with
  | h k ns ks ih =>
    rw [txt', wg]
    split
    · have h1 := len_txtF ks ns ih
      have h2 : (if ns.length = 0 then ([] : List UInt8) else [32]).length ≤ 1 := by split <;> simp
      simp only [List.length_append, List.length_cons, List.length_nil]
      omega
    split
    · cases ks with
      | nil => simp [txtH]; omega
      | cons t r =>
        have h1 := ih t (by simp)
        simp only [txtH, List.length_append, List.length_cons, List.length_nil, wgL]
        omega
    split
    · cases ks with
      | nil => simp [txtB]
      | cons t r =>
        have h1 := ih t (by simp)
        have h2 := len_txtC r true (fun x hx => ih x (by simp [hx]))
        simp only [txtB, List.length_append, List.length_cons, List.length_nil, wgL]
        omega
    split
    · have := len_txtU ks true ih
      omega
    · have := len_word k
      omega

theorem zip_fst : ∀ (ns : List (List UInt8)) (l : List Tr), nsW ((ns.zip l).map (·.1)) ≤ nsW ns
  | [], _ => by simp [nsW]
  | _ :: _, [] => by simp [nsW]
  | n :: ns, t :: l => by
    have := zip_fst ns l
    unfold nsW at *
    simp only [List.zip_cons_cons, List.map_cons, List.sum_cons] at *
    omega
theorem zip_snd : ∀ (ns : List (List UInt8)) (l : List Tr), wgL ((ns.zip l).map (·.2)) ≤ wgL l
  | [], _ => by simp [wgL]
  | _ :: _, [] => by simp [wgL]
  | n :: ns, t :: l => by
    have := zip_snd ns l
    simp only [List.zip_cons_cons, List.map_cons, wgL] at *
    omega
theorem wgL_srt : ∀ (l : List Tr), (∀ x ∈ l, wg (srt x) ≤ wg x) → wgL (l.map srt) ≤ wgL l
  | [], _ => by simp [wgL]
  | t :: r, h => by
    have h1 := h t (by simp)
    have h2 := wgL_srt r (fun x hx => h x (by simp [hx]))
    simp only [List.map_cons, wgL]
    omega
theorem wg_srt (t : Tr) : wg (srt t) ≤ wg t := by
  induction t using Tr.ind with
  | h k ns ks ih =>
    have h0 := wgL_srt ks ih
    by_cases hk : k = 7
    · subst hk
      rw [srt, if_pos rfl, wg, wg]
      have hp := srtL_perm (ns.zip (srtK ks))
      have e1 := nsW_perm (hp.map (·.1))
      have e2 := wgL_perm (hp.map (·.2))
      have h1 := zip_fst ns (srtK ks)
      have h2 := zip_snd ns (srtK ks)
      rw [srtK_eq] at *
      omega
    · rw [srt_ne hk, wg, wg]
      omega

theorem wg_flatL : ∀ (l : List Tr), (∀ x ∈ l, wgL (flat x) ≤ wg x + 5) → wgL (flatL l) ≤ wgL l
  | [], _ => by simp [flatL, wgL]
  | t :: r, h => by
    have h1 := h t (by simp)
    have h2 := wg_flatL r (fun x hx => h x (by simp [hx]))
    rw [flatL, wgL_app, wgL]
    omega
theorem wg_flat (t : Tr) : wgL (flat t) ≤ wg t + 5 := by
  induction t using Tr.ind with
  | h k ns ks ih =>
    rw [flat]
    split
    · have := wg_flatL ks ih
      rw [wg]
      omega
    · rw [wgL_one]
      omega
theorem wg_dd : ∀ (l acc : List Tr), wgL (dd acc l) ≤ wgL acc + wgL l
  | [], acc => by simp [dd, wgL]
  | t :: r, acc => by
    rw [dd, wgL]
    split
    · have := wg_dd r acc; omega
    · have := wg_dd r (acc ++ [t])
      rw [wgL_app, wgL_one] at this
      omega
theorem wg_unite (l : List Tr) : wg (unite l) ≤ 16 + wgL l := by
  have h1 := wg_flatL l (fun x _ => wg_flat x)
  have h2 := wg_dd (flatL l) []
  have h3 : wgL [] = 0 := rfl
  have h5 : wg (.nd 5 [] []) = 16 := rfl
  unfold unite
  split
  · omega
  · split
    · omega
    · rename_i t e
      rw [e, wgL_one] at h2
      omega
    · rename_i t u r e
      rw [e] at h2
      rw [wg]
      simp only [nsW, List.map_nil, List.sum_nil]
      omega

/-- Names are short. -/
def Nml (l : List TT) : Prop := ∀ p ∈ l, p.1 = 1 → p.2.length ≤ 20
theorem Nml.tail {l : List TT} (h : Nml l) : Nml l.tail := fun p hp => h p (List.mem_of_mem_tail hp)
theorem isS_len {l : List TT} {m : List UInt8} (h : isS l m = true) : l.tail.length + 1 = l.length := by
  cases l with
  | nil => simp [isS] at h
  | cons p r => simp
theorem hd_len {l : List TT} (h : hdK l ≠ 6) : l.tail.length + 1 = l.length := by
  cases l with
  | nil => simp [hdK] at h
  | cons p r => simp
theorem hd_nm {l : List TT} (hn : Nml l) (h : hdK l = 1) : (hdX l).length ≤ 20 := by
  cases l with
  | nil => simp [hdK] at h
  | cons p r =>
    obtain ⟨k, x⟩ := p
    exact hn (k, x) (by simp) h

structure RdW (f : Nat) : Prop where
  T : ∀ l t r, Nml l → rdT f l = some (t, r) → Nml r ∧ wg t + 64 * r.length ≤ 64 * l.length
  N : ∀ l t r, Nml l → rdN f l = some (t, r) → Nml r ∧ wg t + 64 * r.length ≤ 64 * l.length
  U : ∀ l acc q r, Nml l → rdU f l acc = some (q, r) → Nml r ∧ wgL q + 64 * r.length + (if isS l [124] then 21 else 0) ≤ 64 * l.length + wgL acc
  M : ∀ l t r, Nml l → rdM f l = some (t, r) → Nml r ∧ wg t + 64 * r.length ≤ 64 * l.length
  O : ∀ l ns ks t r, Nml l → rdO f l ns ks = some (t, r) → Nml r ∧ wg t + 64 * r.length ≤ 64 * l.length + 16 + nsW ns + wgL ks
  B : ∀ l t r, Nml l → rdB f l = some (t, r) → Nml r ∧ wg t + 64 * r.length ≤ 64 * l.length
  L : ∀ l acc q r, Nml l → rdL f l acc = some (q, r) → Nml r ∧ wgL q + 64 * r.length + 50 ≤ 64 * l.length + wgL acc + (if acc.length = 0 then 5 else 0)

theorem rdW : ∀ f, RdW f
  | 0 => ⟨fun _ _ _ _ h => by simp [rdT] at h, fun _ _ _ _ h => by simp [rdN] at h, fun _ _ _ _ _ h => by simp [rdU] at h, fun _ _ _ _ h => by simp [rdM] at h, fun _ _ _ _ _ _ h => by simp [rdO] at h, fun _ _ _ _ h => by simp [rdB] at h, fun _ _ _ _ _ h => by simp [rdL] at h⟩
  | f + 1 => by
    have ih := rdW f
    refine ⟨fun l t r hn h => ?_, fun l t r hn h => ?_, fun l acc q r hn h => ?_, fun l t r hn h => ?_, fun l ns ks t r hn h => ?_, fun l t r hn h => ?_, fun l acc q r hn h => ?_⟩
    · rw [rdT] at h
      exact ih.N l t r hn h
    · rw [rdN] at h
      obtain ⟨p, h1, h2⟩ := Option.bind_eq_some_iff.1 h
      obtain ⟨n1, l1⟩ := ih.M l p.1 p.2 hn h1
      split at h2
      · rename_i hb
        obtain ⟨q, h3, h4⟩ := Option.bind_eq_some_iff.1 h2
        obtain ⟨n2, l2⟩ := ih.U p.2 [p.1] q.1 q.2 n1 h3
        rw [if_pos hb, wgL_one] at l2
        simp only [Option.some.injEq, Prod.mk.injEq] at h4
        obtain ⟨rfl, rfl⟩ := h4
        rw [wg]
        simp only [nsW, List.map_nil, List.sum_nil]
        exact ⟨n2, by omega⟩
      · simp only [Option.some.injEq] at h2
        subst h2
        exact ⟨n1, l1⟩
    · rw [rdU] at h
      split at h
      · rename_i hb
        obtain ⟨p, h1, h2⟩ := Option.bind_eq_some_iff.1 h
        have e := isS_len hb
        obtain ⟨n1, l1⟩ := ih.M l.tail p.1 p.2 hn.tail h1
        obtain ⟨n2, l2⟩ := ih.U p.2 _ q r n1 h2
        rw [wgL_app, wgL_one] at l2
        rw [if_pos hb]
        exact ⟨n2, by split at l2 <;> omega⟩
      · rename_i hb
        simp only [Option.some.injEq, Prod.mk.injEq] at h
        obtain ⟨rfl, rfl⟩ := h
        rw [if_neg hb]
        exact ⟨hn, by omega⟩
    · rw [rdM] at h
      split at h
      · rename_i hb
        have e := isS_len hb
        obtain ⟨n1, l1⟩ := ih.O l.tail [] [] t r hn.tail h
        have h3 : wgL [] = 0 := rfl
        have h4 : nsW [] = 0 := rfl
        exact ⟨n1, by omega⟩
      split at h
      · rename_i hb
        have e := isS_len hb
        obtain ⟨p, h1, h2⟩ := Option.bind_eq_some_iff.1 h
        obtain ⟨n1, l1⟩ := ih.T l.tail p.1 p.2 hn.tail h1
        split at h2
        · rename_i hb2
          have e2 := isS_len hb2
          simp only [Option.some.injEq, Prod.mk.injEq] at h2
          obtain ⟨rfl, rfl⟩ := h2
          rw [wg, wgL_one]
          simp only [nsW, List.map_nil, List.sum_nil]
          exact ⟨n1.tail, by omega⟩
        · simp at h2
      split at h
      · rename_i hb
        have e := isS_len hb
        obtain ⟨n1, l1⟩ := ih.B l.tail t r hn.tail h
        exact ⟨n1, by omega⟩
      split at h
      · rename_i hb
        have e := hd_len (l := l) (by rw [hb.1]; decide)
        simp only [Option.some.injEq, Prod.mk.injEq] at h
        obtain ⟨rfl, rfl⟩ := h
        rw [wg]
        simp only [nsW, wgL, List.map_nil, List.sum_nil]
        exact ⟨hn.tail, by omega⟩
      · simp at h
    · rw [rdO] at h
      split at h
      · rename_i hb
        have e := isS_len hb
        simp only [Option.some.injEq, Prod.mk.injEq] at h
        obtain ⟨rfl, rfl⟩ := h
        rw [wg]
        exact ⟨hn.tail, by omega⟩
      split at h
      · rename_i hk
        have e := hd_len (l := l) (by rw [hk]; decide)
        have hnm := hd_nm hn hk
        split at h
        · rename_i hb2
          have e2 := isS_len hb2
          obtain ⟨p, h1, h2⟩ := Option.bind_eq_some_iff.1 h
          obtain ⟨n1, l1⟩ := ih.T l.tail.tail p.1 p.2 hn.tail.tail h1
          split at h2
          · rename_i hb3
            have e3 := isS_len hb3
            obtain ⟨n2, l2⟩ := ih.O p.2.tail _ _ t r n1.tail h2
            rw [wgL_app, wgL_one, nsW_app, nsW_one] at l2
            exact ⟨n2, by omega⟩
          · simp at h2
        · simp at h
      · simp at h
    · rw [rdB] at h
      obtain ⟨p, h1, h2⟩ := Option.bind_eq_some_iff.1 h
      obtain ⟨n1, l1⟩ := ih.L l [] p.1 p.2 hn h1
      have h3 : wgL [] = 0 := rfl
      rw [if_pos (by rfl)] at l1
      split at h2
      · rename_i hb
        have e := isS_len hb
        obtain ⟨q, h4, h5⟩ := Option.bind_eq_some_iff.1 h2
        obtain ⟨n2, l2⟩ := ih.T p.2.tail q.1 q.2 n1.tail h4
        simp only [Option.some.injEq, Prod.mk.injEq] at h5
        obtain ⟨rfl, rfl⟩ := h5
        rw [wg, wgL]
        simp only [nsW, List.map_nil, List.sum_nil]
        exact ⟨n2, by omega⟩
      · split at h2
        · rename_i u e
          rw [e, wgL_one] at l1
          simp only [Option.some.injEq, Prod.mk.injEq] at h2
          obtain ⟨rfl, rfl⟩ := h2
          exact ⟨n1, by omega⟩
        · simp at h2
    · rw [rdL] at h
      split at h
      · rename_i hb
        have e := isS_len hb
        simp only [Option.some.injEq, Prod.mk.injEq] at h
        obtain ⟨rfl, rfl⟩ := h
        exact ⟨hn.tail, by split <;> omega⟩
      split at h
      · rename_i h0
        obtain ⟨p, h1, h2⟩ := Option.bind_eq_some_iff.1 h
        obtain ⟨n1, l1⟩ := ih.T l p.1 p.2 hn h1
        obtain ⟨n2, l2⟩ := ih.L p.2 _ q r n1 h2
        rw [wgL_app, wgL_one, if_neg (by simp)] at l2
        rw [if_pos h0]
        exact ⟨n2, by omega⟩
      split at h
      · rename_i h0 hb
        have e := isS_len hb
        obtain ⟨p, h1, h2⟩ := Option.bind_eq_some_iff.1 h
        obtain ⟨n1, l1⟩ := ih.T l.tail p.1 p.2 hn.tail h1
        obtain ⟨n2, l2⟩ := ih.L p.2 _ q r n1 h2
        rw [wgL_app, wgL_one, if_neg (by simp)] at l2
        exact ⟨n2, by split <;> omega⟩
      · simp at h

theorem nml_tt {L : List Tk} (hL : NmL L) (i : Nat) : Nml (tt L i) := by
  intro p hp hk
  unfold tt at hp
  obtain ⟨t, ht, rfl⟩ := List.mem_map.1 hp
  obtain ⟨j, hj, e⟩ := List.getElem_of_mem (List.mem_of_mem_drop ht)
  have e2 : tk L j = t := by rw [← e]; simp [tk, List.getD, hj]
  have := (hL j (by rw [e2]; exact hk)).2.1
  rw [e2] at this
  exact this

/-- How much a type has that was parsed. -/
theorem typ_wg {L : List Tk} (hL : NmL L) {d : Nat} {s s' : St} {x : Int} (hs : TsOk s.T) (h : Ev L (fun r => r.typ d s) (.ok s' x)) : wg (tr s'.T x.toNat) ≤ 64 * L.length := by
  obtain ⟨_, _, _, f0, h0⟩ := sim hL hs h
  have := ((rdW f0).T _ _ _ (nml_tt hL s.i) (h0 f0 (Nat.le_refl _))).2
  have e : (tt L s.i).length ≤ L.length := by unfold tt; simp
  omega

theorem tres_wg {l : List UInt8} {T : List Ty} (h : TRes l (.inr T)) : wg (tr T (T.length - 1)) ≤ 64064 := by
  obtain ⟨h1, s', x, h2, h3, h4, h5, rfl⟩ := h
  have := typ_wg (nmL_scan l) (s := ⟨0, [], []⟩) (by intro i hi; simp at hi) h2
  have hl := typ_last h2
  have hlen := (scan_last l h1).1
  have hx : x.toNat = s'.T.length - 1 := by omega
  rw [hx] at this
  omega

/-- A type is written by something. -/
theorem txt_ne (t : Tr) (h : Wf t) : txt' t ≠ [] := by
  induction h with
  | plain k h1 h2 =>
    rw [txt', if_neg (by omega), if_neg (by omega), if_neg (by omega), if_neg (by omega)]
    unfold word
    split
    · simp
    split
    · simp
    split
    · simp
    split
    · simp
    split <;> simp
  | obj ns ks a b c d _ => rw [txt', if_pos rfl]; simp
  | arr t a _ => rw [txt', if_neg (by decide), if_pos rfl]; simp
  | fn t ps a b _ _ => rw [txt', if_neg (by decide), if_neg (by decide), if_pos rfl, txtB]; simp
  | uni ks h2 h ih =>
    rw [txt', if_neg (by decide), if_neg (by decide), if_neg (by decide), if_pos rfl]
    cases ks with
    | nil => simp at h2
    | cons t r =>
      have h3 : 0 < (txt' t).length := List.length_pos_iff.2 (ih t (by simp))
      have h4 : (txt' t).length ≤ (if t.k = 10 ∨ t.k = 9 ∧ r.length ≠ 0 then [40] ++ txt' t ++ [41] else txt' t).length := by split <;> simp; omega
      rw [txtU]
      intro e
      have e2 := congrArg List.length e
      simp only [List.length_append, List.length_nil] at e2
      omega
end Go.Proofs.YtkilicjjaljghaaGreat.M

/- Plain: how far the parser comes with types, and how many it makes. -/
namespace Go.Proofs.YtkilicjjaljghaaGreat.M

def Gr (s s' : St) : Prop := s.i < s'.i ∧ s'.T.length + s.i ≤ s.T.length + s'.i
def Gu (L : List Tk) (s s' : St) : Prop := s.i ≤ s'.i ∧ s'.T.length + s.i + (if isM L s.i [[124]] then 1 else 0) ≤ s.T.length + s'.i
def Gl (s s' : St) : Prop := s.i < s'.i ∧ s'.T.length + s.i + 1 ≤ s.T.length + s'.i

structure GF (L : List Tk) (f : Nat) : Prop where
  typ : ∀ d s s' x, (sp' L f).typ d s = some (.ok s' x) → Gr s s'
  union : ∀ d s s' x, (sp' L f).union d s = some (.ok s' x) → Gr s s'
  unionL : ∀ d s acc s' l, (sp' L f).unionL d s acc = some (.ok s' l) → Gu L s s'
  member : ∀ d s s' x, (sp' L f).member d s = some (.ok s' x) → Gr s s'
  objL : ∀ d s fs s' x, (sp' L f).objL d s fs = some (.ok s' x) → Gr s s'
  fob : ∀ d s s' x, (sp' L f).fob d s = some (.ok s' x) → Gr s s'
  list : ∀ d s nm acc s' l, (sp' L f).list .typ [41] d s nm acc = some (.ok s' l) → Gl s s'

theorem gF (L : List Tk) : ∀ f, GF L f
  | 0 => ⟨fun _ _ _ _ h => by simp [sp', bot] at h, fun _ _ _ _ h => by simp [sp', bot] at h, fun _ _ _ _ _ h => by simp [sp', bot] at h, fun _ _ _ _ h => by simp [sp', bot] at h, fun _ _ _ _ _ h => by simp [sp', bot] at h, fun _ _ _ _ h => by simp [sp', bot] at h, fun _ _ _ _ _ _ h => by simp [sp', bot] at h⟩
  | f + 1 => by
    have ih := gF L f
    refine ⟨fun d s s' x h => ?_, fun d s s' x h => ?_, fun d s acc s' l h => ?_, fun d s s' x h => ?_, fun d s fs s' x h => ?_, fun d s s' x h => ?_, fun d s nm acc s' l h => ?_⟩
    · have h : inside L (isM L s.i typeBegins) d s (sp' L f).union = some (.ok s' x) := h
      unfold inside at h
      split at h
      · split at h
        · simp [flt] at h
        · exact ih.union _ _ _ _ h
      · simp [flt] at h
    · obtain ⟨s1, y, h1, h2⟩ := obind_ok h
      obtain ⟨a1, b1⟩ := ih.member _ _ _ _ h1
      split at h2
      · rename_i hm
        obtain ⟨s2, l, h3, h4⟩ := obind_ok h2
        obtain ⟨rfl, rfl⟩ := addT_ok h4
        obtain ⟨a2, b2⟩ := ih.unionL _ _ _ _ _ h3
        rw [if_pos hm] at b2
        exact ⟨by show s.i < s2.i; omega, by simp only [List.length_append, List.length_cons, List.length_nil]; omega⟩
      · simp only [Option.some.injEq, Out.ok.injEq] at h2
        obtain ⟨rfl, rfl⟩ := h2
        exact ⟨a1, b1⟩
    · have h : (if isM L s.i [[124]] then obind ((sp' L f).member d s.nx) fun s x => (sp' L f).unionL d s (acc ++ [x]) else some (.ok s acc)) = some (.ok s' l) := h
      unfold Gu
      split at h
      · rename_i hm
        rw [if_pos hm]
        obtain ⟨s1, y, h1, h2⟩ := obind_ok h
        obtain ⟨a1, b1⟩ := ih.member _ _ _ _ h1
        obtain ⟨a2, b2⟩ := ih.unionL _ _ _ _ _ h2
        simp only [St.nx] at a1 b1
        exact ⟨by omega, by split at b2 <;> omega⟩
      · rename_i hm
        rw [if_neg hm]
        simp only [Option.some.injEq, Out.ok.injEq] at h
        obtain ⟨rfl, rfl⟩ := h
        exact ⟨Nat.le_refl _, by omega⟩
    · have h : (if isM L s.i [[123]] then (sp' L f).objL d s.nx []
        else if isM L s.i [[91]] then obind ((sp' L f).typ d s.nx) fun s x => obind (need L s [93]) fun s _ => addT s ⟨8, [], [], x⟩
        else if isM L s.i [[40]] then (sp' L f).fob d s.nx
        else if (tk L s.i).kind = 2 ∧ plainKind (tk L s.i).text ≠ 0 then addT s.nx ⟨plainKind (tk L s.i).text, [], [], 0⟩ else flt L s.i 1) = some (.ok s' x) := h
      split at h
      · obtain ⟨a1, b1⟩ := ih.objL _ _ _ _ _ h
        simp only [St.nx] at a1 b1
        exact ⟨by omega, by omega⟩
      split at h
      · obtain ⟨s1, y, h1, h2⟩ := obind_ok h
        obtain ⟨s2, u, h3, h4⟩ := obind_ok h2
        obtain ⟨hn, rfl⟩ := need_ok h3
        obtain ⟨rfl, rfl⟩ := addT_ok h4
        obtain ⟨a1, b1⟩ := ih.typ _ _ _ _ h1
        simp only [St.nx] at a1 b1
        exact ⟨by show s.i < s1.i + 1; omega, by simp only [St.nx, List.length_append, List.length_cons, List.length_nil]; omega⟩
      split at h
      · obtain ⟨a1, b1⟩ := ih.fob _ _ _ _ h
        simp only [St.nx] at a1 b1
        exact ⟨by omega, by omega⟩
      split at h
      · obtain ⟨rfl, rfl⟩ := addT_ok h
        exact ⟨by show s.i < s.i + 1; omega, by simp only [St.nx, List.length_append, List.length_cons, List.length_nil]; omega⟩
      · simp [flt] at h
    · have h : (if isM L s.i [[125]] then addT s.nx ⟨7, fs, [], 0⟩
        else obind (newName L s (fs.map (·.1))) fun s nm => obind (need L s [58]) fun s _ => obind ((sp' L f).typ d s) fun s x => obind (need L s [59]) fun s _ => (sp' L f).objL d s (fs ++ [(nm, x)])) = some (.ok s' x) := h
      split at h
      · obtain ⟨rfl, rfl⟩ := addT_ok h
        exact ⟨by show s.i < s.i + 1; omega, by simp only [St.nx, List.length_append, List.length_cons, List.length_nil]; omega⟩
      · obtain ⟨s1, nm, h1, h2⟩ := obind_ok h
        obtain ⟨s2, u, h3, h4⟩ := obind_ok h2
        obtain ⟨s3, y, h5, h6⟩ := obind_ok h4
        obtain ⟨s4, u', h7, h8⟩ := obind_ok h6
        have e1 : s1 = s.nx := by
          unfold newName at h1
          split at h1
          · split at h1
            · simp [flt] at h1
            · simp only [Option.some.injEq, Out.ok.injEq] at h1
              exact h1.1.symm
          · simp [flt] at h1
        subst e1
        obtain ⟨n1, rfl⟩ := need_ok h3
        obtain ⟨n2, rfl⟩ := need_ok h7
        obtain ⟨a1, b1⟩ := ih.typ _ _ _ _ h5
        obtain ⟨a2, b2⟩ := ih.objL _ _ _ _ _ h8
        simp only [St.nx] at a1 b1 a2 b2
        exact ⟨by omega, by omega⟩
    · obtain ⟨s1, l, h1, h2⟩ := obind_ok h
      obtain ⟨a1, b1⟩ := ih.list _ _ _ _ _ _ h1
      split at h2
      · obtain ⟨s2, y, h3, h4⟩ := obind_ok h2
        obtain ⟨rfl, rfl⟩ := addT_ok h4
        obtain ⟨a2, b2⟩ := ih.typ _ _ _ _ h3
        simp only [St.nx] at a2 b2
        exact ⟨by show s.i < s2.i; omega, by simp only [List.length_append, List.length_cons, List.length_nil]; omega⟩
      · match l, h2 with
        | [y], h2 =>
          simp only [Option.some.injEq, Out.ok.injEq] at h2
          obtain ⟨rfl, rfl⟩ := h2
          exact ⟨a1, by omega⟩
        | [], h2 => simp [flt] at h2
        | _ :: _ :: _, h2 => simp [flt] at h2
    · have h : (if isM L s.i [[41]] then some (.ok s.nx acc)
        else obind (if acc.length = 0 then some (.ok s ()) else need L s [44]) fun s _ => obind (part L (sp' L f) d s nm .typ) fun s x => (sp' L f).list .typ [41] d s x.2 (acc ++ [x.1])) = some (.ok s' l) := h
      split at h
      · simp only [Option.some.injEq, Out.ok.injEq] at h
        obtain ⟨rfl, rfl⟩ := h
        exact ⟨by show s.i < s.i + 1; omega, by simp only [St.nx]; omega⟩
      · obtain ⟨s1, u, h1, h2⟩ := obind_ok h
        have e1 : s1.T = s.T ∧ s.i ≤ s1.i := by
          split at h1
          · simp only [Option.some.injEq, Out.ok.injEq] at h1
            obtain ⟨rfl, _⟩ := h1
            exact ⟨rfl, Nat.le_refl _⟩
          · obtain ⟨_, rfl⟩ := need_ok h1
            exact ⟨rfl, by show s.i ≤ s.i + 1; omega⟩
        obtain ⟨s2, y, h3, h4⟩ := obind_ok h2
        obtain ⟨s3, z, h5, h6⟩ := obind_ok h3
        simp only [Option.some.injEq, Out.ok.injEq] at h6
        obtain ⟨rfl, rfl⟩ := h6
        obtain ⟨a1, b1⟩ := ih.typ _ _ _ _ h5
        obtain ⟨a2, b2⟩ := ih.list _ _ _ _ _ _ h4
        have e2 := e1.2
        rw [e1.1] at b1
        exact ⟨by omega, by omega⟩
end Go.Proofs.YtkilicjjaljghaaGreat.M

/- Plain: what the parser's functions for types have done, where they answer a type. -/
namespace Go.Proofs.YtkilicjjaljghaaGreat.M

section
variable {L : List Tk} {f d : Nat} {s s' : St} {x : Int}

theorem uL_step {acc l : List Int} (h : (sp' L f).unionL d s acc = some (.ok s' l)) : (isM L s.i [[124]] = false ∧ s' = s ∧ l = acc) ∨ (isM L s.i [[124]] = true ∧ ∃ g s1 y, g + 1 = f ∧ (sp' L g).member d s.nx = some (.ok s1 y) ∧ (sp' L g).unionL d s1 (acc ++ [y]) = some (.ok s' l)) := by
  cases f with
  | zero => simp [sp', bot] at h
  | succ g =>
    have h : (if isM L s.i [[124]] then obind ((sp' L g).member d s.nx) fun s x => (sp' L g).unionL d s (acc ++ [x]) else some (.ok s acc)) = some (.ok s' l) := h
    split at h
    · rename_i hm
      obtain ⟨s1, y, h1, h2⟩ := obind_ok h
      exact .inr ⟨hm, g, s1, y, rfl, h1, h2⟩
    · rename_i hm
      simp only [Option.some.injEq, Out.ok.injEq] at h
      exact .inl ⟨by simpa using hm, h.1.symm, h.2.symm⟩
theorem uL_len : ∀ (f : Nat) (s : St) (acc l : List Int), (sp' L f).unionL d s acc = some (.ok s' l) → acc.length ≤ l.length ∧ (isM L s.i [[124]] = true → acc.length + 1 ≤ l.length)
  | 0, _, _, _, h => by simp [sp', bot] at h
  | f + 1, s, acc, l, h => by
    rcases uL_step h with ⟨h1, -, rfl⟩ | ⟨-, g, s1, y, hg, -, h2⟩
    · exact ⟨Nat.le_refl _, fun hx => by rw [h1] at hx; simp at hx⟩
    · have e : g = f := by omega
      subst e
      have := (uL_len g s1 _ l h2).1
      simp at this
      exact ⟨by omega, fun _ => by omega⟩

theorem typ_inv (h : (sp' L f).typ d s = some (.ok s' x)) : d < 20 ∧ ∃ f2 s1 y s2 l2, f2 < f ∧ (sp' L f2).member (d + 1) s = some (.ok s1 y) ∧ (∃ h, h ≤ f2 ∧ (sp' L h).unionL (d + 1) s1 [y] = some (.ok s2 l2)) ∧
    ((l2.length = 1 ∧ s' = s2) ∨ (2 ≤ l2.length ∧ s2.T.length + 1 + s1.i ≤ s1.T.length + s2.i ∧ s' = ⟨s2.i, s2.N, s2.T ++ [⟨10, [], l2, 0⟩]⟩)) := by
  cases f with
  | zero => simp [sp', bot] at h
  | succ f1 =>
    have h : inside L (isM L s.i typeBegins) d s (sp' L f1).union = some (.ok s' x) := h
    unfold inside at h
    split at h
    case isFalse => simp [flt] at h
    split at h
    · simp [flt] at h
    · rename_i _ hd
      refine ⟨by omega, ?_⟩
      cases f1 with
      | zero => simp [sp', bot] at h
      | succ f2 =>
        obtain ⟨s1, y, h1, h2⟩ := obind_ok h
        have hf2 : 0 < f2 := by
          cases f2 with
          | zero => simp [sp', bot] at h1
          | succ _ => omega
        split at h2
        · rename_i hm
          obtain ⟨s2, l, h3, h4⟩ := obind_ok h2
          obtain ⟨rfl, rfl⟩ := addT_ok h4
          have hg := ((gF L f2).unionL _ _ _ _ _ h3).2
          rw [if_pos hm] at hg
          have hl := (uL_len f2 s1 [y] l h3).2 hm
          exact ⟨f2, s1, y, s2, l, by omega, h1, ⟨f2, Nat.le_refl _, h3⟩, .inr ⟨by simpa using hl, by omega, rfl⟩⟩
        · rename_i hm
          simp only [Option.some.injEq, Out.ok.injEq] at h2
          obtain ⟨rfl, rfl⟩ := h2
          refine ⟨f2, s1, y, s1, [y], by omega, h1, ⟨1, by omega, ?_⟩, .inl ⟨rfl, rfl⟩⟩
          show (if isM L s1.i [[124]] then obind ((sp' L 0).member (d + 1) s1.nx) (fun s x => (sp' L 0).unionL (d + 1) s ([y] ++ [x])) else some (Out.ok s1 [y])) = some (Out.ok s1 [y])
          rw [if_neg hm]

theorem member_inv (h : (sp' L f).member d s = some (.ok s' x)) : ∃ g, g + 1 = f ∧
    ((isM L s.i [[123]] = true ∧ (sp' L g).objL d s.nx [] = some (.ok s' x)) ∨
     (isM L s.i [[123]] = false ∧ isM L s.i [[91]] = true ∧ ∃ s1 y, (sp' L g).typ d s.nx = some (.ok s1 y) ∧ isM L s1.i [[93]] = true ∧ s' = ⟨s1.nx.i, s1.nx.N, s1.nx.T ++ [⟨8, [], [], y⟩]⟩) ∨
     (isM L s.i [[123]] = false ∧ isM L s.i [[91]] = false ∧ isM L s.i [[40]] = true ∧ (sp' L g).fob d s.nx = some (.ok s' x)) ∨
     ((tk L s.i).kind = 2 ∧ plainKind (tk L s.i).text ≠ 0 ∧ s' = ⟨s.nx.i, s.nx.N, s.nx.T ++ [⟨plainKind (tk L s.i).text, [], [], 0⟩]⟩)) := by
  cases f with
  | zero => simp [sp', bot] at h
  | succ g =>
    refine ⟨g, rfl, ?_⟩
    have h : (if isM L s.i [[123]] then (sp' L g).objL d s.nx []
        else if isM L s.i [[91]] then obind ((sp' L g).typ d s.nx) fun s x => obind (need L s [93]) fun s _ => addT s ⟨8, [], [], x⟩
        else if isM L s.i [[40]] then (sp' L g).fob d s.nx
        else if (tk L s.i).kind = 2 ∧ plainKind (tk L s.i).text ≠ 0 then addT s.nx ⟨plainKind (tk L s.i).text, [], [], 0⟩ else flt L s.i 1) = some (.ok s' x) := h
    split at h
    · rename_i hm
      exact .inl ⟨hm, h⟩
    rename_i n1
    have n1 : isM L s.i [[123]] = false := by simpa using n1
    split at h
    · rename_i hm
      obtain ⟨s1, y, h1, h2⟩ := obind_ok h
      obtain ⟨s2, u, h3, h4⟩ := obind_ok h2
      obtain ⟨hn, rfl⟩ := need_ok h3
      obtain ⟨rfl, rfl⟩ := addT_ok h4
      exact .inr (.inl ⟨n1, hm, s1, y, h1, hn, rfl⟩)
    rename_i n2
    have n2 : isM L s.i [[91]] = false := by simpa using n2
    split at h
    · rename_i hm
      exact .inr (.inr (.inl ⟨n1, n2, hm, h⟩))
    split at h
    · rename_i hk
      obtain ⟨rfl, rfl⟩ := addT_ok h
      exact .inr (.inr (.inr ⟨hk.1, hk.2, rfl⟩))
    · simp [flt] at h

theorem objL_step {fs : List (List UInt8 × Int)} (h : (sp' L f).objL d s fs = some (.ok s' x)) : (isM L s.i [[125]] = true ∧ s' = ⟨s.nx.i, s.nx.N, s.nx.T ++ [⟨7, fs, [], 0⟩]⟩) ∨
    (isM L s.i [[125]] = false ∧ ∃ g s3 y, g + 1 = f ∧ (tk L s.i).kind = 1 ∧ has (fs.map (·.1)) (tk L s.i).text = false ∧ isM L s.nx.i [[58]] = true ∧ (sp' L g).typ d s.nx.nx = some (.ok s3 y) ∧ isM L s3.i [[59]] = true ∧ (sp' L g).objL d s3.nx (fs ++ [((tk L s.i).text, y)]) = some (.ok s' x)) := by
  cases f with
  | zero => simp [sp', bot] at h
  | succ g =>
    have h : (if isM L s.i [[125]] then addT s.nx ⟨7, fs, [], 0⟩
        else obind (newName L s (fs.map (·.1))) fun s nm => obind (need L s [58]) fun s _ => obind ((sp' L g).typ d s) fun s x => obind (need L s [59]) fun s _ => (sp' L g).objL d s (fs ++ [(nm, x)])) = some (.ok s' x) := h
    split at h
    · rename_i hm
      obtain ⟨rfl, rfl⟩ := addT_ok h
      exact .inl ⟨hm, rfl⟩
    · rename_i hm
      obtain ⟨s1, nm, h1, h2⟩ := obind_ok h
      obtain ⟨s2, u, h3, h4⟩ := obind_ok h2
      obtain ⟨s3, y, h5, h6⟩ := obind_ok h4
      obtain ⟨s4, u', h7, h8⟩ := obind_ok h6
      unfold newName at h1
      by_cases hk : (tk L s.i).kind = 1
      case neg => rw [if_neg hk] at h1; exact absurd h1 (by simp [flt])
      rw [if_pos hk] at h1
      by_cases hn : has (fs.map (·.1)) (tk L s.i).text = true
      case pos => rw [if_pos hn] at h1; exact absurd h1 (by simp [flt])
      rw [if_neg hn] at h1
      simp only [Option.some.injEq, Out.ok.injEq] at h1
      obtain ⟨rfl, rfl⟩ := h1
      obtain ⟨n1, rfl⟩ := need_ok h3
      obtain ⟨n2, rfl⟩ := need_ok h7
      exact .inr ⟨by simpa using hm, g, s3, y, rfl, hk, by simpa using hn, n1, h5, n2, h8⟩

theorem list_step {nm : List (List UInt8)} {acc l : List Int} (h : (sp' L f).list .typ [41] d s nm acc = some (.ok s' l)) : (isM L s.i [[41]] = true ∧ s' = s.nx ∧ l = acc) ∨
    (isM L s.i [[41]] = false ∧ ∃ g s1 s2 y nm', g + 1 = f ∧ ((acc.length = 0 ∧ s1 = s) ∨ (acc.length ≠ 0 ∧ isM L s.i [[44]] = true ∧ s1 = s.nx)) ∧ (sp' L g).typ d s1 = some (.ok s2 y) ∧ (sp' L g).list .typ [41] d s2 nm' (acc ++ [y]) = some (.ok s' l)) := by
  cases f with
  | zero => simp [sp', bot] at h
  | succ g =>
    have h : (if isM L s.i [[41]] then some (.ok s.nx acc)
        else obind (if acc.length = 0 then some (.ok s ()) else need L s [44]) fun s _ => obind (part L (sp' L g) d s nm .typ) fun s x => (sp' L g).list .typ [41] d s x.2 (acc ++ [x.1])) = some (.ok s' l) := h
    split at h
    · rename_i hm
      simp only [Option.some.injEq, Out.ok.injEq] at h
      exact .inl ⟨hm, h.1.symm, h.2.symm⟩
    · rename_i hm
      obtain ⟨s1, u, h1, h2⟩ := obind_ok h
      obtain ⟨s2, y, h3, h4⟩ := obind_ok h2
      obtain ⟨s3, z, h5, h6⟩ := obind_ok h3
      simp only [Option.some.injEq, Out.ok.injEq] at h6
      obtain ⟨rfl, rfl⟩ := h6
      refine .inr ⟨by simpa using hm, g, s1, s3, z, nm, rfl, ?_, h5, h4⟩
      split at h1
      · rename_i h0
        simp only [Option.some.injEq, Out.ok.injEq] at h1
        exact .inl ⟨h0, h1.1.symm⟩
      · rename_i h0
        obtain ⟨n1, rfl⟩ := need_ok h1
        exact .inr ⟨h0, n1, rfl⟩

theorem fob_inv (h : (sp' L f).fob d s = some (.ok s' x)) : ∃ g s1 l, g + 1 = f ∧ (sp' L g).list .typ [41] d s [] [] = some (.ok s1 l) ∧
    ((isM L s1.i [[61, 62]] = true ∧ ∃ s2 y, (sp' L g).typ d s1.nx = some (.ok s2 y) ∧ s' = ⟨s2.i, s2.N, s2.T ++ [⟨9, [], l, y⟩]⟩) ∨ (isM L s1.i [[61, 62]] = false ∧ l.length = 1 ∧ s' = s1)) := by
  cases f with
  | zero => simp [sp', bot] at h
  | succ g =>
    obtain ⟨s1, l, h1, h2⟩ := obind_ok h
    refine ⟨g, s1, l, rfl, h1, ?_⟩
    split at h2
    · rename_i hm
      obtain ⟨s2, y, h3, h4⟩ := obind_ok h2
      obtain ⟨rfl, rfl⟩ := addT_ok h4
      exact .inl ⟨hm, s2, y, h3, rfl⟩
    · rename_i hm
      refine .inr ⟨by simpa using hm, ?_⟩
      match l, h2 with
      | [y], h2 =>
        simp only [Option.some.injEq, Out.ok.injEq] at h2
        exact ⟨rfl, h2.1.symm⟩
      | [], h2 => simp [flt] at h2
      | _ :: _ :: _, h2 => simp [flt] at h2
end
end Go.Proofs.YtkilicjjaljghaaGreat.M

/- Plain: a text has one answer; the answers of some texts. -/
namespace Go.Proofs.YtkilicjjaljghaaGreat.M

theorem ev_one {L : List Tk} {α : Type} {φ : Sp → Option (Out α)} {o o' : Out α} (h : Ev L φ o) (h' : Ev L φ o') : o = o' := by
  obtain ⟨f1, h1⟩ := h
  obtain ⟨f2, h2⟩ := h'
  have a := h1 (f1 + f2) (by omega)
  have b := h2 (f1 + f2) (by omega)
  rw [a] at b
  exact Option.some.inj b
theorem tres_one {l : List UInt8} {X Y : List Ty} (h : TRes l (.inr X)) (h' : TRes l (.inr Y)) : X = Y := by
  obtain ⟨_, s1, x1, e1, _, _, _, rfl⟩ := h
  obtain ⟨_, s2, x2, e2, _, _, _, rfl⟩ := h'
  have := ev_one e1 e2
  simp only [Out.ok.injEq] at this
  rw [this.1]
theorem tres_excl {l : List UInt8} {er p : Int} {X : List Ty} (h : TRes l (.inl (er, p))) (h' : TRes l (.inr X)) : False := by
  obtain ⟨h0, s2, x2, e2, k2, n2, t2, rfl⟩ := h'
  obtain ⟨hne, h | ⟨_, h | ⟨s1, x1, e1, h⟩⟩⟩ := h
  · exact hne (by rw [← h.1]; exact h0)
  · have := ev_one h e2
    cases this
  · have := ev_one e1 e2
    simp only [Out.ok.injEq] at this
    obtain ⟨rfl, rfl⟩ := this
    rw [if_pos k2] at h
    omega

theorem tres_num : ∃ X, TRes [110, 117, 109] (.inr X) := ⟨_, by rfl, ⟨1, [], [⟨1, [], [], 0⟩]⟩, 0, ⟨8, fun f hf => by obtain ⟨g, rfl⟩ : ∃ g, f = g + 8 := ⟨f - 8, by omega⟩; rfl⟩, by rfl, by simp, by simp, rfl⟩
theorem tres_text : ∃ X, TRes [116, 101, 120, 116] (.inr X) := ⟨_, by rfl, ⟨1, [], [⟨3, [], [], 0⟩]⟩, 0, ⟨8, fun f hf => by obtain ⟨g, rfl⟩ : ∃ g, f = g + 8 := ⟨f - 8, by omega⟩; rfl⟩, by rfl, by simp, by simp, rfl⟩
theorem tres_num_text : ∃ X, TRes [110, 117, 109, 32, 124, 32, 116, 101, 120, 116] (.inr X) := ⟨_, by rfl, ⟨3, [], [⟨1, [], [], 0⟩, ⟨3, [], [], 0⟩, ⟨10, [], [0, 1], 0⟩]⟩, 2, ⟨8, fun f hf => by obtain ⟨g, rfl⟩ : ∃ g, f = g + 8 := ⟨f - 8, by omega⟩; rfl⟩, by rfl, by simp, by simp, rfl⟩
theorem tres_num_null : ∃ X, TRes [110, 117, 109, 32, 124, 32, 110, 117, 108, 108] (.inr X) := ⟨_, by rfl, ⟨3, [], [⟨1, [], [], 0⟩, ⟨4, [], [], 0⟩, ⟨10, [], [0, 1], 0⟩]⟩, 2, ⟨8, fun f hf => by obtain ⟨g, rfl⟩ : ∃ g, f = g + 8 := ⟨f - 8, by omega⟩; rfl⟩, by rfl, by simp, by simp, rfl⟩
def tNum : Tr := .nd 1 [] []
def tText : Tr := .nd 3 [] []
def tNumText : Tr := .nd 10 [] [.nd 1 [] [], .nd 3 [] []]
def tNumNull : Tr := .nd 10 [] [.nd 1 [] [], .nd 4 [] []]
theorem wf_two (a b : Int) (h1 : 1 ≤ a ∧ a ≤ 6) (h2 : 1 ≤ b ∧ b ≤ 6) : Wf (.nd 10 [] [.nd a [] [], .nd b [] []]) := Wf.uni _ (by simp) (fun x hx => by
  simp only [List.mem_cons, List.not_mem_nil, or_false] at hx
  rcases hx with rfl | rfl
  · exact Wf.plain a h1.1 h1.2
  · exact Wf.plain b h2.1 h2.2)
theorem root_num {X : List Ty} (h : TRes [110, 117, 109] (.inr X)) : tr X (X.length - 1) = tNum := tres_txt (Wf.plain 1 (by decide) (by decide)) (by rfl) h
theorem root_text {X : List Ty} (h : TRes [116, 101, 120, 116] (.inr X)) : tr X (X.length - 1) = tText := tres_txt (Wf.plain 3 (by decide) (by decide)) (by rfl) h
theorem root_num_text {X : List Ty} (h : TRes [110, 117, 109, 32, 124, 32, 116, 101, 120, 116] (.inr X)) : tr X (X.length - 1) = tNumText := tres_txt (wf_two 1 3 (by decide) (by decide)) (by rfl) h
theorem root_num_null {X : List Ty} (h : TRes [110, 117, 109, 32, 124, 32, 110, 117, 108, 108] (.inr X)) : tr X (X.length - 1) = tNumNull := tres_txt (wf_two 1 4 (by decide) (by decide)) (by rfl) h
theorem fit_yes : fits tNum tNumText = true := by decide
theorem fit_no : fits tText tNum = false := by decide
theorem tags_nn : tags tNumNull = 9 := by decide
end Go.Proofs.YtkilicjjaljghaaGreat.M
