/-
  Plain: what is written of a program has its tokens.
  Plain: the tokens of a type are read back as that type.
  Plain: the tokens of an expression are read back as that expression: what is read of the parts gives the whole.
  Plain: the tokens of a program are read back: lists, each kind of an expression.
  Plain: the tokens of a program are read back: operators, statements, blocks; all.
  Plain: the parser does not go past the last token.
  Plain: what is parsed is a tree; what is written of it is parsed as it was, but for places.
  Plain: the tree that lies at a number is one.
  Plain: what is parsed of the four texts that are tried first.
  Plain: the lists of a program's nodes are short.
-/
import Derived.Test.YtjojlcfoiknlhaaGreatDoorPlainD
import Derived.Test.YtjojlcfoiknlhaaGreatDoorPlainC
import Derived.Test.YtjojlcfoiknlhaaGreatDoorPlainB
namespace Go.Proofs.YtjojlcfoiknlhaaGreatDoor.M

def psigns : List (List UInt8) := [[61, 61], [61, 62], [40], [41], [123], [125], [91], [93], [44], [59], [58], [46], [60], [43], [45], [42], [33], [124]]
theorem lexS {m r : List UInt8} {ts : List TT} (hm : m ∈ psigns) (h : Lex r ts) : Lex (m ++ r) (sg m :: ts) := by
  refine Lex.tok m r ts 5 m ?_ ?_ h
  · simp only [psigns, List.mem_cons, List.not_mem_nil, or_false] at hm
    rcases hm with rfl | rfl | rfl | rfl | rfl | rfl | rfl | rfl | rfl | rfl | rfl | rfl | rfl | rfl | rfl | rfl | rfl | rfl <;> simp [first, sign, longest, signs, dig, let']
  · rintro rfl
    exact absurd hm (by decide)
theorem lexEq {r : List UInt8} {ts : List TT} (h : Lex (32 :: r) ts) : Lex ([61] ++ 32 :: r) (sg [61] :: ts) := by
  refine Lex.tok [61] (32 :: r) ts 5 [61] ?_ (by simp) h
  simp [first, sign, longest, signs, dig, let']
theorem words_ok : ∀ w ∈ words, w ≠ [] ∧ w.length ≤ 20 ∧ (∀ c ∈ w, nam c.toNat = true) ∧ (w.head?.all fun c => let' c.toNat) = true ∧ isWord w = true := by decide
theorem lexW {w r : List UInt8} {ts : List TT} (hw : w ∈ words) (hr : Del r) (h : Lex r ts) : Lex (w ++ r) ((2, w) :: ts) := by
  obtain ⟨h1, h2, h3, h4, h5⟩ := words_ok w hw
  refine Lex.tok w r ts 2 w ?_ h1 h
  rw [first_name w r h1 h2 h3 (fun c hc => by rw [hc] at h4; simpa using h4) hr, h5]
  simp
theorem lexT {tx r : List UInt8} {ts : List TT} (hx : tx.length ≤ 30 ∧ ∀ c ∈ tx, txt c.toNat = true) (h : Lex r ts) : Lex ([34] ++ tx ++ [34] ++ r) ((4, tx) :: ts) := by
  refine Lex.tok ([34] ++ tx ++ [34]) r ts 4 tx ?_ (by simp) h
  have e : [34] ++ tx ++ [34] ++ r = 34 :: (tx ++ 34 :: r) := by simp
  have hs : sp txt (tx ++ 34 :: r) = tx.length := sp_app txt tx (34 :: r) hx.2 (fun c hc => by simp at hc; subst hc; decide)
  rw [e]
  simp only [first, List.head?_cons]
  rw [if_neg (by decide), if_neg (by decide), if_pos (by decide)]
  show (if 30 < sp txt (tx ++ 34 :: r) ∨ ((tx ++ 34 :: r).drop (sp txt (tx ++ 34 :: r))).head? ≠ some 34 then ((0 : Int), ([] : List UInt8), 0) else (4, (tx ++ 34 :: r).take (sp txt (tx ++ 34 :: r)), sp txt (tx ++ 34 :: r) + 2)) = _
  rw [if_neg (by rw [hs]; simp; omega), hs]
  simp
theorem lexU {n : Int} {r : List UInt8} {ts : List TT} (hn : 0 ≤ n ∧ n ≤ 999999999) (hr : Del r) (h : Lex r ts) : Lex (Lib.itoa n ++ r) ((3, Lib.itoa n) :: ts) := by
  rw [itoa_pos hn.1]
  have hl := dec_len n.toNat (by omega)
  obtain ⟨h1, _, h3, h4⟩ := dec_all n.toNat
  have h0 : (Lib.decDigits n.toNat).head? = some 48 → (Lib.decDigits n.toNat).length = 1 := by
    intro hh
    by_cases hz : 1 ≤ n.toNat
    · exact absurd hh (h4 hz)
    · rw [show n.toNat = 0 by omega, Lib.decDigits, dif_pos (by omega)]; rfl
  generalize Lib.decDigits n.toNat = w at h1 h3 hl h0
  refine Lex.tok w r ts 3 w ?_ h3 h
  cases w with
  | nil => exact absurd rfl h3
  | cons c w =>
    have hs : sp dig (c :: w ++ r) = (c :: w).length := sp_app dig (c :: w) r h1 (fun x hx => by
      have := hr x hx
      simp only [nam, Bool.or_eq_false_iff] at this
      exact this.2)
    rw [List.cons_append] at hs ⊢
    simp only [first, List.head?_cons]
    rw [if_pos (h1 c (by simp))]
    unfold number
    rw [hs, if_neg ?_]
    · rw [← List.cons_append, List.take_left]
    · rintro (hc | ⟨hc, hd⟩)
      · omega
      · have := h0 (by simpa using hc)
        omega

theorem delC {c : UInt8} {r : List UInt8} (h : nam c.toNat = false) : Del (c :: r) := by
  intro x hx
  simp at hx; subst hx; exact h
theorem lexB {r : List UInt8} {ts : List TT} (h : Lex r ts) : Lex (32 :: r) ts := Lex.blank _ _ h
theorem lex_mg (d : Nat) {r : List UInt8} {ts : List TT} (h : Lex r ts) : Lex (mg d ++ r) ts := by
  induction d with
  | zero => exact h
  | succ d ih =>
    have e : mg (d + 1) = 32 :: 32 :: mg d := by simp [mg, List.replicate_succ]
    rw [e]
    exact lexB (lexB ih)

def LxN (t : Nt) : Prop := ∀ d r ts, Del r → Lex r ts → Lex (pr d t ++ r) ((me t).1 ++ ts)
def pc (d : Nat) (t : Nt) : Pc := ⟨bnd t, t.k, pr d t⟩
theorem lex_wi {t : Nt} (h : LxN t) (l d : Nat) {r : List UInt8} {ts : List TT} (hr : Del r) (hl : Lex r ts) : Lex (wi l (pc d t) ++ r) (wt l (pt t) ++ ts) := by
  unfold wi wt
  by_cases hb : l ≤ bnd t
  · have e1 : l ≤ (pc d t).b := hb
    have e2 : l ≤ (pt t).b := hb
    rw [if_pos e1, if_pos e2]
    exact h d r ts hr hl
  · have e1 : ¬l ≤ (pc d t).b := hb
    have e2 : ¬l ≤ (pt t).b := hb
    rw [if_neg e1, if_neg e2]
    have := lexS (m := [40]) (by decide) (h d _ _ (delC (by decide)) (lexS (m := [41]) (by decide) hl))
    simpa [pc, pt] using this
theorem lex_colon {a : Nt} (h : LxN a) (d : Nat) {r : List UInt8} {ts : List TT} (hr : Del r) (hl : Lex r ts) : Lex (colon (pc d a) ++ r) (colT (pt a) ++ ts) ∧ Del (colon (pc d a) ++ r) := by
  unfold colon colT
  by_cases hk : a.k = -1
  · have e1 : (pc d a).k = -1 := hk
    have e2 : (pt a).k = -1 := hk
    rw [if_pos e1, if_pos e2]
    exact ⟨hl, hr⟩
  · have e1 : ¬(pc d a).k = -1 := hk
    have e2 : ¬(pt a).k = -1 := hk
    rw [if_neg e1, if_neg e2]
    have := lexS (m := [58]) (by decide) (lexB (h d r ts hr hl))
    refine ⟨by simpa [pc, pt] using this, ?_⟩
    rw [List.append_assoc]
    exact delC (by decide)
theorem prL_pc (d : Nat) (ps : List Nt) : prL d ps = ps.map (pc d) := prL_map d ps
theorem lex_join (d : Nat) : ∀ (ps : List Nt) {r : List UInt8} {ts : List TT}, (∀ p ∈ ps, LxN p) → Del r → Lex r ts → Lex (join [44, 32] (prL d ps) ++ r) (joiT true (meL ps) ++ ts)
  | [], r, ts, _, _, h => by simpa [prL, join, meL, joiT] using h
  | [p], r, ts, hp, hr, h => by
    have := hp p (by simp) d r ts hr h
    simpa [prL, join, meL, joiT] using this
  | p :: q :: ps, r, ts, hp, hr, h => by
    have h1 := lex_join d (q :: ps) (fun x hx => hp x (List.mem_cons_of_mem _ hx)) hr h
    have h2 := hp p (by simp) d _ _ (delC (by decide)) (lexS (m := [44]) (by decide) (lexB h1))
    have e1 : join [44, 32] (prL d (p :: q :: ps)) = pr d p ++ [44, 32] ++ join [44, 32] (prL d (q :: ps)) := rfl
    have e2 : joiT true (meL (p :: q :: ps)) = (me p).1 ++ sg [44] :: joiT true (meL (q :: ps)) := by simp [meL, joiT]
    rw [e1, e2]
    simpa using h2
theorem lex_lines (d : Nat) : ∀ (ps : List Nt) {r : List UInt8} {ts : List TT}, (∀ p ∈ ps, LxN p) → Lex r ts → Lex (lines d (prL d ps) ++ r) (flT (meL ps) ++ ts)
  | [], r, ts, _, h => by simpa [prL, lines, meL, flT] using h
  | p :: ps, r, ts, hp, h => by
    have h1 := lex_lines d ps (fun x hx => hp x (List.mem_cons_of_mem _ hx)) h
    have h2 := lex_mg d (hp p (by simp) d _ _ (delC (by decide)) (Lex.line _ _ h1))
    have e1 : lines d (prL d (p :: ps)) = mg d ++ pr d p ++ [10] ++ lines d (prL d ps) := rfl
    have e2 : flT (meL (p :: ps)) = (me p).1 ++ flT (meL ps) := rfl
    rw [e1, e2]
    simpa using h2

theorem lex_pr : ∀ (m : Nat) (t : Nt), szN t ≤ m → Wn t → LxN t
  | 0, t, hm, _ => by cases t <;> simp [szN] at hm
  | m + 1, t, hm, hw => by
    have ih := lex_pr m
    intro d r ts hr hl
    cases wn_cases hw with
    | ty0 => simpa [pr, me] using hl
    | ty1 t ht => exact lex_txt t ht r ts hr hl
    | n1 n hn => exact lexU hn hr hl
    | n2 tx hx => exact lexT hx hl
    | n3 n hn =>
      rcases hn with rfl | rfl
      · exact lexW (w := [102, 97, 108, 115, 101]) (by decide) hr hl
      · exact lexW (w := [116, 114, 117, 101]) (by decide) hr hl
    | n4 => exact lexW (w := [110, 117, 108, 108]) (by decide) hr hl
    | n5 tx hx => exact lex_name tx r ts hx hr hl
    | n6 ps a b hp hn ha ia hb ib =>
      have hsz : szNL (ps ++ [a, b]) = szNL ps + szN a + szN b := by
        have app : ∀ xs ys, szNL (xs ++ ys) = szNL xs + szNL ys := by
          intro xs ys
          induction xs with
          | nil => simp [szNL]
          | cons x xs ih => rw [List.cons_append, szNL, szNL, ih]; omega
        rw [app, szNL, szNL, szNL]; omega
      rw [szN, hsz] at hm
      have e : pr d (.nd 6 [] 0 (ps ++ [a, b])) = [102, 110, 40] ++ join [44, 32] (prL d ps) ++ [41] ++ colon (pc d a) ++ [32] ++ pr d b := by
        rw [pr, if_neg (by decide), if_pos (by decide), prL_pc, prL_pc, List.map_append]
        show [102, 110, 40] ++ join [44, 32] (ps.map (pc d) ++ [pc d a, pc d b]).dropLast.dropLast ++ [41] ++ colon ((ps.map (pc d) ++ [pc d a, pc d b]).dropLast.getLastD pc0) ++ [32] ++ ((ps.map (pc d) ++ [pc d a, pc d b]).getLastD pc0).s = _
        rw [dl3, dl4, dl5]
        rfl
      rw [e, me6]
      have h1 := ih b (by omega) hb d r ts hr hl
      have h2 := (lex_colon (ih a (by omega) ha) d (r := [32] ++ (pr d b ++ r)) (delC (by decide)) (lexB h1)).1
      have h3 := lexS (m := [41]) (by decide) h2
      have h4 := lex_join d ps (fun p hp' => ih p (by have := szNL_mem hp'; omega) (hp p hp').1) (delC (by decide)) h3
      have h5 := lexW (w := [102, 110]) (by decide) (delC (by decide)) (lexS (m := [40]) (by decide) h4)
      simpa using h5
    | n7 a ps ha ia hp =>
      rw [szN, szNL] at hm
      have e : pr d (.nd 7 [] 0 (a :: ps)) = wi 5 (pc d a) ++ ([40] ++ join [44, 32] (prL d ps) ++ [41]) := rfl
      rw [e, me7]
      have h1 := lex_join d ps (fun p hp' => ih p (by have := szNL_mem hp'; omega) (hp p hp').1) (delC (by decide)) (lexS (m := [41]) (by decide) hl)
      have h2 := lex_wi (ih a (by omega) ha) 5 d (delC (by decide)) (lexS (m := [40]) (by decide) h1)
      simpa using h2
    | n8 tx a hx ha ia =>
      rw [szN, szNL, szNL] at hm
      have e : pr d (.nd 8 tx 0 [a]) = wi 5 (pc d a) ++ ([46] ++ tx) := rfl
      rw [e, me8]
      have h2 := lex_wi (ih a (by omega) ha) 5 d (delC (by decide)) (lexS (m := [46]) (by decide) (lex_name tx r ts hx hr hl))
      simpa using h2
    | n9 a b ha ia hb ib =>
      rw [szN, szNL, szNL, szNL] at hm
      have e : pr d (.nd 9 [] 0 [a, b]) = wi 5 (pc d a) ++ [91] ++ pr d b ++ [93] := rfl
      rw [e, me9]
      have h1 := ih b (by omega) hb d _ _ (delC (by decide)) (lexS (m := [93]) (by decide) hl)
      have h2 := lex_wi (ih a (by omega) ha) 5 d (delC (by decide)) (lexS (m := [91]) (by decide) h1)
      simpa using h2
    | n10 ps hp hn =>
      rw [szN] at hm
      rw [me10]
      cases ps with
      | nil =>
        have e : pr d (.nd 10 [] 0 []) = [123, 125] := rfl
        rw [e]
        have := lexS (m := [123]) (by decide) (lexS (m := [125]) (by decide) hl)
        simpa [meL, joiT] using this
      | cons p ps =>
        have e : pr d (.nd 10 [] 0 (p :: ps)) = [123, 32] ++ join [44, 32] (prL d (p :: ps)) ++ [32, 125] := rfl
        rw [e]
        have h1 := lex_join d (p :: ps) (r := [32, 125] ++ r) (fun q hq => ih q (by have := szNL_mem hq; omega) (hp q hq).1) (delC (by decide)) (lexB (lexS (m := [125]) (by decide) hl))
        have h2 := lexS (m := [123]) (by decide) (lexB h1)
        simpa using h2
    | n11 ps hp =>
      rw [szN] at hm
      have e : pr d (.nd 11 [] 0 ps) = [91] ++ join [44, 32] (prL d ps) ++ [93] := rfl
      rw [e, me11]
      have h1 := lex_join d ps (fun p hp' => ih p (by have := szNL_mem hp'; omega) (hp p hp').1) (delC (by decide)) (lexS (m := [93]) (by decide) hl)
      have h2 := lexS (m := [91]) (by decide) h1
      simpa using h2
    | n12 tx a b hx ha ia hb ib =>
      rw [szN, szNL, szNL, szNL] at hm
      have e : pr d (.nd 12 tx 0 [a, b]) = wi (lv tx) (pc d a) ++ ([32] ++ tx ++ [32]) ++ wi (bnK 12 tx + 1) (pc d b) := rfl
      rw [e, me12]
      have h1 := lex_wi (ih b (by omega) hb) (bnK 12 tx + 1) d hr hl
      have h2 : Lex (tx ++ 32 :: (wi (bnK 12 tx + 1) (pc d b) ++ r)) (sg tx :: (wt (bnK 12 tx + 1) (pt b) ++ ts)) := by
        refine lexS ?_ (lexB h1)
        simp only [List.mem_cons, List.not_mem_nil, or_false] at hx
        rcases hx with rfl | rfl | rfl | rfl | rfl <;> decide
      have h3 := lex_wi (ih a (by omega) ha) (lv tx) d (r := 32 :: (tx ++ 32 :: (wi (bnK 12 tx + 1) (pc d b) ++ r))) (delC (by decide)) (lexB h2)
      simpa using h3
    | n13 tx a hx ha ia =>
      rw [szN, szNL, szNL] at hm
      have e : pr d (.nd 13 tx 0 [a]) = tx ++ (if tx = [116, 121, 112, 101, 111, 102] then [32] else []) ++ wi 4 (pc d a) := rfl
      rw [e, me13]
      have h1 := lex_wi (ih a (by omega) ha) 4 d hr hl
      simp only [List.mem_cons, List.not_mem_nil, or_false] at hx
      rcases hx with rfl | rfl | rfl
      · have := lexS (m := [33]) (by decide) h1
        simpa [sgw] using this
      · have := lexS (m := [45]) (by decide) h1
        simpa [sgw] using this
      · have := lexW (w := [116, 121, 112, 101, 111, 102]) (by decide) (delC (by decide)) (lexB h1)
        simpa [sgw] using this
    | n14 a t ha ia ht =>
      rw [szN, szNL, szNL, szNL] at hm
      have e : pr d (.nd 14 [] 0 [a, .ty (some t)]) = wi 5 (pc d a) ++ [32, 97, 115, 32] ++ txt' t := rfl
      rw [e, me14, me]
      have h1 := lex_txt t ht r ts hr hl
      have h2 := lexW (w := [97, 115]) (by decide) (delC (by decide)) (lexB h1)
      have h3 := lex_wi (ih a (by omega) ha) 5 d (r := 32 :: ([97, 115] ++ 32 :: (txt' t ++ r))) (delC (by decide)) (lexB h2)
      simpa using h3
    | n15 tx a hx ha ia =>
      rw [szN, szNL, szNL] at hm
      have e : pr d (.nd 15 tx 0 [a]) = (tx ++ [58, 32]) ++ pr d a := rfl
      rw [e, me15]
      have h1 := lexS (m := [58]) (by decide) (lexB (ih a (by omega) ha d r ts hr hl))
      have h2 := lex_name tx _ _ hx (delC (by decide)) h1
      simpa using h2
    | n16 tx a hx ha ia =>
      rw [szN, szNL, szNL] at hm
      have e : pr d (.nd 16 tx 0 [a]) = tx ++ colon (pc d a) := rfl
      rw [e, me16]
      have h1 := lex_colon (ih a (by omega) ha) d hr hl
      have h2 := lex_name tx _ _ hx h1.2 h1.1
      simpa using h2
    | n17 tx a b hx ha ia hb ib =>
      rw [szN, szNL, szNL, szNL] at hm
      have e : pr d (.nd 17 tx 0 [a, b]) = ([108, 101, 116, 32] ++ tx) ++ colon (pc d a) ++ [32, 61, 32] ++ pr d b ++ [59] := rfl
      rw [e, me17]
      have h1 := ih b (by omega) hb d _ _ (delC (by decide)) (lexS (m := [59]) (by decide) hl)
      have h2 := lex_colon (ih a (by omega) ha) d (r := 32 :: ([61] ++ 32 :: (pr d b ++ ([59] ++ r)))) (delC (by decide)) (lexB (lexEq (lexB h1)))
      have h3 := lexW (w := [108, 101, 116]) (by decide) (delC (by decide)) (lexB (lex_name tx _ _ hx h2.2 h2.1))
      simpa using h3
    | n18 tx a hx ha ia =>
      rw [szN, szNL, szNL] at hm
      have e : pr d (.nd 18 tx 0 [a]) = (tx ++ [32, 61, 32]) ++ pr d a ++ [59] := rfl
      rw [e, me18]
      have h1 := ih a (by omega) ha d _ _ (delC (by decide)) (lexS (m := [59]) (by decide) hl)
      have h2 := lex_name tx _ _ hx (delC (by decide)) (lexB (lexEq (lexB h1)))
      simpa using h2
    | n19 tx a b hx ha ia hb ib =>
      rw [szN, szNL, szNL, szNL] at hm
      have e : pr d (.nd 19 tx 0 [a, b]) = wi 5 (pc d a) ++ ([46] ++ tx) ++ [32, 61, 32] ++ pr d b ++ [59] := rfl
      rw [e, me19]
      have h1 := ih b (by omega) hb d _ _ (delC (by decide)) (lexS (m := [59]) (by decide) hl)
      have h2 := lex_name tx _ _ hx (delC (by decide)) (lexB (lexEq (lexB h1)))
      have h3 := lex_wi (ih a (by omega) ha) 5 d (delC (by decide)) (lexS (m := [46]) (by decide) h2)
      simpa using h3
    | n20 a b c ha ia hb ib hc ic =>
      rw [szN, szNL, szNL, szNL, szNL] at hm
      have e : pr d (.nd 20 [] 0 [a, b, c]) = wi 5 (pc d a) ++ [91] ++ pr d b ++ [93] ++ [32, 61, 32] ++ pr d c ++ [59] := rfl
      rw [e, me20]
      have h1 := ih c (by omega) hc d _ _ (delC (by decide)) (lexS (m := [59]) (by decide) hl)
      have h2 := ih b (by omega) hb d _ _ (delC (by decide)) (lexS (m := [93]) (by decide) (lexB (lexEq (lexB h1))))
      have h3 := lex_wi (ih a (by omega) ha) 5 d (delC (by decide)) (lexS (m := [91]) (by decide) h2)
      simpa using h3
    | n21 a ha ia =>
      rw [szN, szNL, szNL] at hm
      have e : pr d (.nd 21 [] 0 [a]) = [112, 114, 105, 110, 116, 32] ++ pr d a ++ [59] := rfl
      rw [e, me21]
      have h1 := ih a (by omega) ha d _ _ (delC (by decide)) (lexS (m := [59]) (by decide) hl)
      have h2 := lexW (w := [112, 114, 105, 110, 116]) (by decide) (delC (by decide)) (lexB h1)
      simpa using h2
    | n22 a b c ha ia hb ib hc ic =>
      rw [szN, szNL, szNL, szNL, szNL] at hm
      have e : pr d (.nd 22 [] 0 [a, b, c]) = [105, 102, 32, 40] ++ pr d a ++ [41, 32] ++ pr d b ++ (if c.k = -1 then [] else [32, 101, 108, 115, 101, 32] ++ pr d c) := rfl
      rw [e, me22]
      have h0 : Lex ((if c.k = -1 then [] else [32, 101, 108, 115, 101, 32] ++ pr d c) ++ r) ((if c.k = -1 then [] else (2, [101, 108, 115, 101]) :: (me c).1) ++ ts) ∧ Del ((if c.k = -1 then [] else [32, 101, 108, 115, 101, 32] ++ pr d c) ++ r) := by
        by_cases hk : c.k = -1
        · rw [if_pos hk, if_pos hk]; exact ⟨hl, hr⟩
        · rw [if_neg hk, if_neg hk]
          have := lexB (lexW (w := [101, 108, 115, 101]) (by decide) (delC (by decide)) (lexB (ih c (by omega) hc d r ts hr hl)))
          exact ⟨by simpa using this, by rw [List.append_assoc]; exact delC (by decide)⟩
      have h1 := ih b (by omega) hb d _ _ h0.2 h0.1
      have h2 := ih a (by omega) ha d _ _ (delC (by decide)) (lexS (m := [41]) (by decide) (lexB h1))
      have h3 := lexW (w := [105, 102]) (by decide) (delC (by decide)) (lexB (lexS (m := [40]) (by decide) h2))
      simpa using h3
    | n23 a b ha ia hb ib =>
      rw [szN, szNL, szNL, szNL] at hm
      have e : pr d (.nd 23 [] 0 [a, b]) = [119, 104, 105, 108, 101, 32, 40] ++ pr d a ++ [41, 32] ++ pr d b := rfl
      rw [e, me23]
      have h1 := ih b (by omega) hb d r ts hr hl
      have h2 := ih a (by omega) ha d _ _ (delC (by decide)) (lexS (m := [41]) (by decide) (lexB h1))
      have h3 := lexW (w := [119, 104, 105, 108, 101]) (by decide) (delC (by decide)) (lexB (lexS (m := [40]) (by decide) h2))
      simpa using h3
    | n24 a ha ia =>
      rw [szN, szNL, szNL] at hm
      have e : pr d (.nd 24 [] 0 [a]) = [114, 101, 116, 117, 114, 110, 32] ++ pr d a ++ [59] := rfl
      rw [e, me24]
      have h1 := ih a (by omega) ha d _ _ (delC (by decide)) (lexS (m := [59]) (by decide) hl)
      have h2 := lexW (w := [114, 101, 116, 117, 114, 110]) (by decide) (delC (by decide)) (lexB h1)
      simpa using h2
    | n25 a ha ia =>
      rw [szN, szNL, szNL] at hm
      have e : pr d (.nd 25 [] 0 [a]) = pr d a ++ [59] := rfl
      rw [e, me25]
      have h1 := ih a (by omega) ha d _ _ (delC (by decide)) (lexS (m := [59]) (by decide) hl)
      simpa using h1
    | n26 ps hp =>
      rw [szN] at hm
      have e : pr d (.nd 26 [] 0 ps) = [123, 10] ++ lines (d + 1) (prL (d + 1) ps) ++ mg d ++ [125] := rfl
      rw [e, me26]
      have h1 := lex_mg d (lexS (m := [125]) (by decide) hl)
      have h2 := lex_lines (d + 1) ps (fun p hp' => ih p (by have := szNL_mem hp'; omega) (hp p hp').1) h1
      have h3 := lexS (m := [123]) (by decide) (Lex.line _ _ h2)
      simpa using h3

/-! ### The scanner has no fault there -/

theorem lex_okF {l : List UInt8} {ts : List TT} (h : Lex l ts) : ∀ (f : Nat) (L : List UInt8) (a : Nat) (acc : List Tk), L.drop a = l → L.length - a < f → acc.length + ts.length ≤ 1000 → (scanF f L a acc).2.1 = 0 := by
  induction h with
  | nil =>
    intro f L a acc hd hf he
    obtain ⟨f, rfl⟩ : ∃ g, f = g + 1 := ⟨f - 1, by omega⟩
    have hlen : L.length ≤ a := by
      have := congrArg List.length hd
      simp at this
      omega
    simp only [scanF, hd, sp, Nat.add_zero, if_pos hlen]
  | blank l ts _ ih =>
    intro f L a acc hd hf he
    obtain ⟨f, rfl⟩ : ∃ g, f = g + 1 := ⟨f - 1, by omega⟩
    have hd1 : L.drop (a + 1) = l := by
      rw [← List.drop_drop, hd]; rfl
    have e : scanF (f + 1) L a acc = scanF (f + 1) L (a + 1) acc := by
      rw [scanF_skip f L a acc, scanF_skip f L (a + 1) acc, hd, hd1]
      have : sp blank (32 :: l) = sp blank l + 1 := by
        show (if blank (32 : UInt8).toNat then sp blank l + 1 else 0) = _
        rw [if_pos (by decide)]
      rw [this]
      congr 1
      omega
    rw [e]
    exact ih (f + 1) L (a + 1) acc hd1 (by omega) he
  | line l ts _ ih =>
    intro f L a acc hd hf he
    obtain ⟨f, rfl⟩ : ∃ g, f = g + 1 := ⟨f - 1, by omega⟩
    have hd1 : L.drop (a + 1) = l := by
      rw [← List.drop_drop, hd]; rfl
    have e : scanF (f + 1) L a acc = scanF (f + 1) L (a + 1) acc := by
      rw [scanF_skip f L a acc, scanF_skip f L (a + 1) acc, hd, hd1]
      have : sp blank (10 :: l) = sp blank l + 1 := by
        show (if blank (10 : UInt8).toNat then sp blank l + 1 else 0) = _
        rw [if_pos (by decide)]
      rw [this]
      congr 1
      omega
    rw [e]
    exact ih (f + 1) L (a + 1) acc hd1 (by omega) he
  | tok t l ts k x hf1 ht _ ih =>
    intro f L a acc hd hf he
    obtain ⟨f, rfl⟩ : ∃ g, f = g + 1 := ⟨f - 1, by omega⟩
    have hlen : t.length + l.length = L.length - a := by
      have := congrArg List.length hd
      simp at this
      omega
    have hpos : 0 < t.length := List.length_pos_iff.2 ht
    have hb : sp blank (L.drop a) = 0 := by rw [hd]; exact sp_tok hf1 ht
    rw [List.length_cons] at he
    rw [scanF_at f L a acc hb, hd, hf1]
    simp only
    rw [if_neg (by omega), if_neg (by omega), if_neg (by omega)]
    have hd2 : L.drop (a + t.length) = l := by rw [← List.drop_drop, hd, List.drop_left]
    exact ih f L (a + t.length) _ hd2 (by omega) (by rw [List.length_append]; simp only [List.length_cons, List.length_nil]; omega)
theorem lex_ok {l : List UInt8} {ts : List TT} (h : Lex l ts) (hl : l.length ≤ 4000) (ht : ts.length ≤ 1000) : (scan l).2.1 = 0 := by
  unfold scan
  rw [if_neg (by omega)]
  exact lex_okF h (l.length + 1) l 0 [] rfl (by omega) (by simpa using ht)
end Go.Proofs.YtjojlcfoiknlhaaGreatDoor.M

namespace Go.Proofs.YtjojlcfoiknlhaaGreatDoor.M

/-- The parser answers, and so. -/
def Gt {α : Type} (L : List Tk) (φ : Sp → Option (Out α)) (Q : St → α → Prop) : Prop := ∃ s' x, Ev L φ (.ok s' x) ∧ Q s' x
theorem Gt.bind {α β : Type} {L : List Tk} {φ : Sp → Option (Out α)} {k : Sp → St → α → Option (Out β)} {Q : St → α → Prop} {R : St → β → Prop} (h : Gt L φ Q) (hk : ∀ s x, Q s x → Gt L (fun r => k r s x) R) : Gt L (fun r => obind (φ r) (k r)) R := by
  obtain ⟨s, x, h1, h2⟩ := h
  obtain ⟨s', y, h3, h4⟩ := hk s x h2
  exact ⟨s', y, h1.bind h3, h4⟩
theorem Gt.step {α : Type} {L : List Tk} {φ : Sp → Option (Out α)} {Q : St → α → Prop} (h : Gt L (fun r => φ (step L r)) Q) : Gt L φ Q := by
  obtain ⟨s, x, h1, h2⟩ := h
  exact ⟨s, x, h1.step, h2⟩
theorem Gt.pure {α : Type} {L : List Tk} {s : St} {x : α} {Q : St → α → Prop} (h : Q s x) : Gt L (fun _ => some (.ok s x)) Q := ⟨s, x, Ev.pure, h⟩
theorem Gt.eq {α : Type} {L : List Tk} {φ ψ : Sp → Option (Out α)} {Q : St → α → Prop} (h : Gt L φ Q) (e : ∀ r, ψ r = φ r) : Gt L ψ Q := by
  obtain ⟨s, x, h1, h2⟩ := h
  exact ⟨s, x, h1.eq e, h2⟩
theorem Gt.mono {α : Type} {L : List Tk} {φ : Sp → Option (Out α)} {Q R : St → α → Prop} (h : Gt L φ Q) (e : ∀ s x, Q s x → R s x) : Gt L φ R := by
  obtain ⟨s, x, h1, h2⟩ := h
  exact ⟨s, x, h1, e s x h2⟩
theorem Gt.addT {L : List Tk} {s : St} {t : Ty} {Q : St → Int → Prop} (h : Q ⟨s.i, s.N, s.T ++ [t]⟩ s.T.length) : Gt L (fun _ => addT s t) Q := Gt.pure h
theorem Gt.addN {L : List Tk} {s : St} {t : Nd} {Q : St → Int → Prop} (h : Q ⟨s.i, s.N ++ [t], s.T⟩ s.N.length) : Gt L (fun _ => addN s t) Q := Gt.pure h
/-- Where a test is so. -/
theorem Gt.pos {α : Type} {L : List Tk} {c : Prop} [Decidable c] {φ ψ : Sp → Option (Out α)} {Q : St → α → Prop} (hc : c) (h : Gt L φ Q) : Gt L (fun r => if c then φ r else ψ r) Q := h.eq fun _ => if_pos hc
theorem Gt.neg {α : Type} {L : List Tk} {c : Prop} [Decidable c] {φ ψ : Sp → Option (Out α)} {Q : St → α → Prop} (hc : ¬c) (h : Gt L ψ Q) : Gt L (fun r => if c then φ r else ψ r) Q := h.eq fun _ => if_neg hc

theorem tt_hd {L : List Tk} {i : Nat} {k : Int} {x : List UInt8} {r : List TT} (h : tt L i = (k, x) :: r) : (tk L i).kind = k ∧ (tk L i).text = x ∧ tt L (i + 1) = r := by
  have h1 := hdK_tt L i
  have h2 := hdX_tt L i
  have h3 := tt_tail L i
  rw [h] at h1 h2 h3
  exact ⟨h1.symm, h2.symm, h3.symm⟩
theorem tt_isM {L : List Tk} {i : Nat} {k : Int} {x : List UInt8} {r : List TT} (h : tt L i = (k, x) :: r) (ms : List (List UInt8)) : isM L i ms = ((k == 5 || k == 2) && has ms x) := by
  obtain ⟨h1, h2, _⟩ := tt_hd h
  rw [isM, h1, h2]
theorem Gt.need {L : List Tk} {s : St} {m : List UInt8} {r : List TT} {Q : St → Unit → Prop} (h : tt L s.i = sg m :: r) (hq : Q s.nx ()) : Gt L (fun _ => M.need L s m) Q := by
  refine ⟨s.nx, (), Ev.pure.eq fun _ => ?_, hq⟩
  unfold M.need
  rw [tt_isM h, if_pos (by simp [has])]
theorem Gt.inside {L : List Tk} {b : Bool} {d : Nat} {s : St} {p : Sp → Nat → St → Option (Out Int)} {Q : St → Int → Prop} (hb : b = true) (hd : d < 20) (h : Gt L (fun r => p r (d + 1) s) Q) : Gt L (fun r => M.inside L b d s (p r)) Q := by
  refine h.eq fun r => ?_
  unfold M.inside
  rw [if_pos hb, if_neg (by omega)]
theorem Gt.newName {L : List Tk} {s : St} {nm : List (List UInt8)} {x : List UInt8} {r : List TT} {Q : St → List UInt8 → Prop} (h : tt L s.i = (1, x) :: r) (hx : x ∉ nm) (hq : Q s.nx x) : Gt L (fun _ => M.newName L s nm) Q := by
  obtain ⟨h1, h2, _⟩ := tt_hd h
  refine ⟨s.nx, x, Ev.pure.eq fun _ => ?_, hq⟩
  unfold M.newName
  rw [if_pos h1, h2, if_neg (by simp [has, hx])]

section
variable (L : List Tk)
def Qt (r : List TT) (s : St) (t : Tr) (s' : St) (x : Int) : Prop := tt L s'.i = r ∧ Yft s t s' x
def QtL (r : List TT) (s : St) (ks : List Tr) (acc : List Int) (s' : St) (l : List Int) : Prop := tt L s'.i = r ∧ ∃ l', l = acc ++ l' ∧ YftL s ks s' l'
def Dt (t : Tr) : Prop := ∀ d s r, tt L s.i = tks t ++ r → Fol r → dTy t + 1 ≤ 20 - d → Gt L (fun q => q.typ d s) (Qt L r s t)
def Dm (t : Tr) (bare : Bool) : Prop := ∀ d s r, tt L s.i = tks t ++ r → isS r [61, 62] = false → (bare = false → isS r [124] = false) → dTy t ≤ 20 - d → Gt L (fun q => q.member d s) (Qt L r s t)
end

section
variable {L : List Tk}
theorem Yft.base {s s1 s' : St} {t : Tr} {x : Int} (h : Yft s1 t s' x) (hN : s1.N = s.N) (hT : s1.T = s.T) : Yft s t s' x := by
  obtain ⟨a, b, c⟩ := h
  rw [hN] at a
  rw [hT] at b c
  exact ⟨a, b, c⟩

/-- Types begin so. -/
theorem tks_beg (t : Tr) (h : Wf t) : ∃ k x r, tks t = (k, x) :: r ∧ ((k == 5 || k == 2) && has typeBegins x) = true ∧ x ≠ [41] := by
  induction h with
  | plain k h1 h2 =>
    have e : tks (.nd k [] []) = [(2, word k)] := by
      rw [tks, if_neg (by omega), if_neg (by omega), if_neg (by omega), if_neg (by omega)]
    have hk : k = 1 ∨ k = 2 ∨ k = 3 ∨ k = 4 ∨ k = 5 ∨ k = 6 := by omega
    refine ⟨2, word k, [], e, ?_, ?_⟩
    · rcases hk with rfl | rfl | rfl | rfl | rfl | rfl <;> decide
    · rcases hk with rfl | rfl | rfl | rfl | rfl | rfl <;> decide
  | obj ns ks _ _ _ _ _ => exact ⟨5, [123], _, rfl, by decide, by decide⟩
  | arr t _ _ => exact ⟨5, [91], _, rfl, by decide, by decide⟩
  | fn t ps _ _ _ _ => exact ⟨5, [40], _, rfl, by decide, by decide⟩
  | uni ks h2 _ ih =>
    cases ks with
    | nil => simp at h2
    | cons t ks =>
      simp only [tks, tksU]
      simp only [show ¬((10 : Int) = 7) from by decide, show ¬((10 : Int) = 8) from by decide, show ¬((10 : Int) = 9) from by decide, if_false, if_true, List.nil_append]
      split
      · exact ⟨5, [40], _, rfl, by decide, by decide⟩
      · obtain ⟨k, x, r, e, h⟩ := ih t (by simp)
        exact ⟨k, x, _, by rw [e]; rfl, h⟩
theorem typ_of (t : Tr) (hw : Wf t) {d : Nat} {s : St} {r : List TT} (h : tt L s.i = tks t ++ r) (hd : d < 20) (h2 : Gt L (fun q => q.union (d + 1) s) (Qt L r s t)) : Gt L (fun q => q.typ d s) (Qt L r s t) := by
  refine Gt.step ?_
  obtain ⟨k, x, r', e, hb, _⟩ := tks_beg t hw
  rw [e] at h
  refine Gt.inside (p := fun q => q.union) ?_ hd h2
  rw [tt_isM h]; exact hb
theorem dt_of_dm {t : Tr} {b : Bool} (hw : Wf t) (h : Dm L t b) : Dt L t := by
  intro d s r ht hr hd
  refine typ_of t hw ht (by omega) (Gt.step ?_)
  refine Gt.bind (h (d + 1) s r ht hr.2 (fun _ => hr.1) (by omega)) fun s1 x hq => ?_
  refine Gt.neg ?_ (Gt.pure hq)
  rw [← isM_isS, hq.1, hr.1]; simp

theorem dm_plain (k : Int) (h1 : 1 ≤ k) (h2 : k ≤ 6) : Dm L (.nd k [] []) true := by
  intro d s r ht _ _ _
  have e : tks (.nd k [] []) = [(2, word k)] := by
    rw [tks, if_neg (by omega), if_neg (by omega), if_neg (by omega), if_neg (by omega)]
  have hk : k = 1 ∨ k = 2 ∨ k = 3 ∨ k = 4 ∨ k = 5 ∨ k = 6 := by omega
  rw [e] at ht
  have ht : tt L s.i = (2, word k) :: r := ht
  obtain ⟨a1, a2, a3⟩ := tt_hd ht
  have hn : ∀ m ∈ [[123], [91], [40]], isM L s.i [m] = false := by
    intro m hm
    rw [tt_isM ht]
    simp only [List.mem_cons, List.not_mem_nil, or_false] at hm
    rcases hm with rfl | rfl | rfl <;> rcases hk with rfl | rfl | rfl | rfl | rfl | rfl <;> rfl
  refine Gt.step ?_
  refine Gt.neg (by rw [hn _ (by simp)]; simp) (Gt.neg (by rw [hn _ (by simp)]; simp) (Gt.neg (by rw [hn _ (by simp)]; simp) (Gt.pos ?_ (Gt.addT ⟨a3, ?_⟩))))
  · rw [a1, a2, word_kind k h1 h2]
    exact ⟨rfl, by omega⟩
  · rw [a2, word_kind k h1 h2]
    exact (YftL.nil s).row k [] (by omega) _ (by rw [rowT, if_neg (by omega), if_neg (by omega), if_neg (by omega)])

theorem objL_more : ∀ (ks : List Tr) (ns : List (List UInt8)) (d : Nat) (s : St) (fs : List (List UInt8 × Int)) (r : List TT), ns.length = ks.length → (fs.map (·.1) ++ ns).Nodup → (∀ x ∈ ks, Dt L x) → tt L s.i = tksF ns ks ++ sg [125] :: r → dTyK ks ≤ 20 - d →
    Gt L (fun q => q.objL d s fs) (fun s' x => tt L s'.i = r ∧ s'.N = s.N ∧ s'.T = s.T ++ emTL s.T.length ks ++ [⟨7, fs ++ ns.zip (ixT s.T.length ks), [], 0⟩] ∧ x = ((s.T.length + nTyL ks : Nat) : Int))
  | [], ns, d, s, fs, r, hl, _, _, ht, _ => by
    have : ns = [] := List.eq_nil_of_length_eq_zero (by simpa using hl)
    subst this
    have ht : tt L s.i = sg [125] :: r := by simpa [tksF] using ht
    refine Gt.step (Gt.pos (by rw [tt_isM ht]; rfl) (Gt.addT ⟨(tt_hd ht).2.2, rfl, by simp [emTL, St.nx], by simp [nTyL, St.nx]⟩))
  | t :: ks, [], _, _, _, _, hl, _, _, _, _ => by simp at hl
  | t :: ks, n :: ns, d, s, fs, r, hl, hnd, hk, ht, hd => by
    have ht : tt L s.i = (1, n) :: sg [58] :: (tks t ++ sg [59] :: (tksF ns ks ++ sg [125] :: r)) := by simpa [tksF] using ht
    rw [dTyK] at hd
    have h1 := tt_hd ht
    refine Gt.step (Gt.neg (by rw [tt_isM ht]; simp) ?_)
    have hni : n ∉ fs.map (·.1) := by
      intro hm
      rw [List.nodup_append] at hnd
      exact hnd.2.2 n hm n (by simp) rfl
    refine Gt.bind (Gt.newName (Q := fun s1 x => s1 = s.nx ∧ x = n) ht hni ⟨rfl, rfl⟩) ?_
    rintro s1 nm ⟨rfl, rfl⟩
    have h2 : tt L s.nx.i = sg [58] :: (tks t ++ sg [59] :: (tksF ns ks ++ sg [125] :: r)) := h1.2.2
    refine Gt.bind (Gt.need (Q := fun s2 _ => s2 = s.nx.nx) h2 rfl) ?_
    rintro s2 _ rfl
    have h3 : tt L s.nx.nx.i = tks t ++ sg [59] :: (tksF ns ks ++ sg [125] :: r) := (tt_hd h2).2.2
    refine Gt.bind (hk t (by simp) d _ _ h3 ⟨by simp [isS, sg, has], by simp [isS, sg, has]⟩ (by omega)) ?_
    rintro s3 x ⟨h4, hy⟩
    have hy : Yft s t s3 x := hy
    refine Gt.bind (Gt.need (Q := fun s4 _ => s4 = s3.nx) h4 rfl) ?_
    rintro s4 _ rfl
    have h5 : tt L s3.nx.i = tksF ns ks ++ sg [125] :: r := (tt_hd h4).2.2
    refine (objL_more ks ns d s3.nx (fs ++ [(nm, x)]) r (by simpa using hl) (by simpa using hnd) (fun y hy => hk y (by simp [hy])) h5 (by omega)).mono ?_
    rintro s' z ⟨a, b, c, e⟩
    have b : s'.N = s3.N := b
    have c : s'.T = s3.T ++ emTL s3.T.length ks ++ [⟨7, fs ++ [(nm, x)] ++ ns.zip (ixT s3.T.length ks), [], 0⟩] := c
    have e : z = ((s3.T.length + nTyL ks : Nat) : Int) := e
    refine ⟨a, b.trans hy.1, ?_, ?_⟩
    · rw [c, hy.len, hy.2.1, hy.2.2, emTL, ixT]
      simp
    · rw [e, hy.len, nTyL, Nat.add_assoc]

theorem dm_obj (ns : List (List UInt8)) (ks : List Tr) (hl : ns.length = ks.length) (hnd : ns.Nodup) (hk : ∀ x ∈ ks, Dt L x) : Dm L (.nd 7 ns ks) true := by
  intro d s r ht _ _ hd
  have ht : tt L s.i = sg [123] :: (tksF ns ks ++ sg [125] :: r) := by simpa [tks] using ht
  rw [dTy, if_neg (by decide)] at hd
  refine Gt.step (Gt.pos (by rw [tt_isM ht]; rfl) ?_)
  refine (objL_more ks ns d s.nx [] r hl (by simpa using hnd) hk (tt_hd ht).2.2 hd).mono ?_
  rintro s' x ⟨a, b, c, e⟩
  refine ⟨a, b, ?_, ?_⟩
  · rw [c, emT_row _ _ _ _ (by decide), List.append_assoc]
    rfl
  · rw [e, nTy]
    show ((s.T.length + nTyL ks : Nat) : Int) = _
    omega

theorem dm_arr (t : Tr) (hk : Dt L t) : Dm L (.nd 8 [] [t]) true := by
  intro d s r ht _ _ hd
  have ht : tt L s.i = sg [91] :: (tks t ++ sg [93] :: r) := by simpa [tks, tksH] using ht
  rw [dTy, if_neg (by decide), dTyK, dTyK] at hd
  refine Gt.step (Gt.neg (by rw [tt_isM ht]; simp [has]) (Gt.pos (by rw [tt_isM ht]; rfl) ?_))
  refine Gt.bind (hk d s.nx (sg [93] :: r) (tt_hd ht).2.2 ⟨by simp [isS, sg, has], by simp [isS, sg, has]⟩ (by omega)) ?_
  rintro s1 x ⟨h1, hy⟩
  refine Gt.bind (Gt.need (Q := fun s4 _ => s4 = s1.nx) h1 rfl) ?_
  rintro s4 _ rfl
  have y2 : YftL s [t] s1.nx [x] := Yft.cons' hy (YftL.nil s1)
  exact Gt.addT ⟨(tt_hd h1).2.2, y2.row 8 [] (by decide) _ rfl⟩

theorem list_more : ∀ (ks : List Tr) (d : Nat) (s : St) (nm : List (List UInt8)) (acc : List Int) (r : List TT), (∀ x ∈ ks, Dt L x ∧ Wf x) → tt L s.i = tksC (decide (acc.length = 0)) ks ++ sg [41] :: r → dTyK ks ≤ 20 - d →
    Gt L (fun q => q.list .typ [41] d s nm acc) (QtL L r s ks acc)
  | [], d, s, nm, acc, r, _, ht, _ => by
    have ht : tt L s.i = sg [41] :: r := by simpa [tksC] using ht
    exact Gt.step (Gt.pos (by rw [tt_isM ht]; rfl) (Gt.pure ⟨(tt_hd ht).2.2, [], by simp, YftL.nil s⟩))
  | t :: ks, d, s, nm, acc, r, hk, ht, hd => by
    rw [dTyK] at hd
    obtain ⟨k0, x0, r0, e0, _, hx0⟩ := tks_beg t (hk t (by simp)).2
    have hfol : Fol (tksC false ks ++ sg [41] :: r) := by
      cases ks with
      | nil => exact ⟨by simp [tksC, isS, sg, has], by simp [tksC, isS, sg, has]⟩
      | cons u us => exact ⟨by simp [tksC, isS, sg, has], by simp [tksC, isS, sg, has]⟩
    refine Gt.step (Gt.neg ?_ ?_)
    · by_cases h0 : acc.length = 0
      · have ht : tt L s.i = (k0, x0) :: (r0 ++ (tksC false ks ++ sg [41] :: r)) := by simpa [h0, tksC, e0] using ht
        rw [tt_isM ht]
        simp [has, hx0]
      · have ht : tt L s.i = sg [44] :: (tks t ++ (tksC false ks ++ sg [41] :: r)) := by simpa [h0, tksC] using ht
        rw [tt_isM ht]
        simp [has]
    · refine Gt.bind (Q := fun s1 _ => s1.N = s.N ∧ s1.T = s.T ∧ tt L s1.i = tks t ++ (tksC false ks ++ sg [41] :: r)) ?_ ?_
      · by_cases h0 : acc.length = 0
        · exact Gt.pos h0 (Gt.pure ⟨rfl, rfl, by simpa [h0, tksC] using ht⟩)
        · have ht : tt L s.i = sg [44] :: (tks t ++ (tksC false ks ++ sg [41] :: r)) := by simpa [h0, tksC] using ht
          exact Gt.neg h0 (Gt.need ht ⟨rfl, rfl, (tt_hd ht).2.2⟩)
      · rintro s1 _ ⟨hN, hT, h1⟩
        refine Gt.bind (Q := fun s2 p => tt L s2.i = tksC false ks ++ sg [41] :: r ∧ Yft s t s2 p.1) ?_ ?_
        · refine Gt.bind ((hk t (by simp)).1 d s1 _ h1 hfol (by omega)) ?_
          rintro s2 x ⟨h2, hy⟩
          exact Gt.pure ⟨h2, hy.base hN hT⟩
        · rintro s2 ⟨x, nm'⟩ ⟨h2, hy⟩
          refine (list_more ks d s2 nm' (acc ++ [x]) r (fun y hy => hk y (by simp [hy])) (by simpa using h2) (by omega)).mono ?_
          rintro s3 l ⟨h3, l', rfl, hy2⟩
          exact ⟨h3, x :: l', by simp, hy.cons' hy2⟩

theorem dm_fn (t : Tr) (ps : List Tr) (ht0 : Dt L t) (hp : ∀ x ∈ ps, Dt L x ∧ Wf x) : Dm L (.nd 9 [] (t :: ps)) false := by
  intro d s r ht h1 h2 hd
  have ht : tt L s.i = sg [40] :: (tksC true ps ++ sg [41] :: sg [61, 62] :: (tks t ++ r)) := by simpa [tks, tksB] using ht
  rw [dTy, if_neg (by decide), dTyK] at hd
  refine Gt.step (Gt.neg (by rw [tt_isM ht]; simp [has]) (Gt.neg (by rw [tt_isM ht]; simp [has]) (Gt.pos (by rw [tt_isM ht]; rfl) (Gt.step ?_))))
  refine Gt.bind (list_more ps d s.nx [] [] (sg [61, 62] :: (tks t ++ r)) hp (tt_hd ht).2.2 (by omega)) ?_
  rintro s1 l ⟨h3, l', e0, y1⟩
  rw [List.nil_append] at e0
  subst e0
  have y1 : YftL s ps s1 l := y1
  refine Gt.pos (by rw [tt_isM h3]; rfl) ?_
  refine Gt.bind (ht0 d s1.nx r (tt_hd h3).2.2 ⟨h2 rfl, h1⟩ (by omega)) ?_
  rintro s2 y ⟨h4, y2⟩
  have y2 : Yft s1 t s2 y := y2
  refine Gt.addT ⟨h4, y2.1.trans y1.1, ?_, ?_⟩
  · show s2.T ++ [_] = _
    have e : emT s.T.length (.nd 9 [] (t :: ps)) = emB s.T.length (t :: ps) := by rw [emT, if_pos rfl]
    rw [e, emB, y2.2.1, y2.2.2, y1.len, y1.2.1, y1.2.2]
    simp
  · rw [y2.len, y1.len, nTy, nTyL]
    omega

/-- In brackets. -/
theorem dm_brackets (t : Tr) (ht0 : Dt L t) (hw : Wf t) {d : Nat} {s : St} {r : List TT} (ht : tt L s.i = sg [40] :: (tks t ++ sg [41] :: r)) (hr : isS r [61, 62] = false) (hd : dTy t + 1 ≤ 20 - d) : Gt L (fun q => q.member d s) (Qt L r s t) := by
  refine Gt.step (Gt.neg (by rw [tt_isM ht]; simp [has]) (Gt.neg (by rw [tt_isM ht]; simp [has]) (Gt.pos (by rw [tt_isM ht]; rfl) (Gt.step ?_))))
  have h0 : tt L s.nx.i = tks t ++ sg [41] :: r := (tt_hd ht).2.2
  refine Gt.bind (list_more [t] d s.nx [] [] r (fun x hx => by simp at hx; subst hx; exact ⟨ht0, hw⟩) (by simpa [tksC] using h0) (by rw [dTyK, dTyK]; omega)) ?_
  rintro s1 l ⟨h3, l', e0, y1⟩
  rw [List.nil_append] at e0
  subst e0
  refine Gt.neg (by rw [← isM_isS, h3, hr]; simp) ?_
  have e : l = [((s.T.length + nTy t : Nat) : Int) - 1] := y1.2.2
  rw [e]
  exact Gt.pure ⟨h3, y1.1, by rw [y1.2.1, emTL, emTL, List.append_nil]; rfl, rfl⟩

theorem dm_one (t : Tr) (hw : Wf t) (ht0 : Dt L t) (hm : t.k ≠ 10 → Dm L t (decide (t.k ≠ 9))) (last : Bool) {d : Nat} {s : St} {r : List TT} (ht : tt L s.i = one t last ++ r) (h1 : isS r [61, 62] = false) (h2 : last = true → isS r [124] = false)
    (hd : dTy t + (brk t last).toNat ≤ 20 - d) : Gt L (fun q => q.member d s) (Qt L r s t) := by
  unfold one at ht
  split at ht
  · rename_i hb
    have hbr : brk t last = true := by
      rcases hb with hb | ⟨hb, hl⟩
      · simp [brk, hb]
      · simp [brk, hb, hl]
    rw [hbr] at hd
    exact dm_brackets t ht0 hw (by simpa using ht) h1 hd
  · rename_i h
    rw [not_or] at h
    refine hm h.1 d s r ht h1 (fun hb => ?_) (by omega)
    have h9 : t.k = 9 := by simpa using hb
    cases last
    · exact absurd ⟨h9, rfl⟩ h.2
    · exact h2 rfl

theorem unionL_more : ∀ (ks : List Tr) (d : Nat) (s : St) (acc : List Int) (r : List TT), Fol r → (∀ x ∈ ks, Wf x ∧ Dt L x ∧ (x.k ≠ 10 → Dm L x (decide (x.k ≠ 9)))) → tt L s.i = tksU false ks ++ r → dTyU ks ≤ 20 - d →
    Gt L (fun q => q.unionL d s acc) (QtL L r s ks acc)
  | [], d, s, acc, r, hr, _, ht, _ => by
    have ht : tt L s.i = r := by simpa [tksU] using ht
    exact Gt.step (Gt.neg (by rw [← isM_isS, ht, hr.1]; simp) (Gt.pure ⟨ht, [], by simp, YftL.nil s⟩))
  | t :: ks, d, s, acc, r, hr, hk, ht, hd => by
    rw [dTyU] at hd
    have ha : isS (tksU false ks ++ r) [61, 62] = false := by
      cases ks with
      | nil => simpa [tksU] using hr.2
      | cons u us => simp [tksU, isS, sg, has]
    have e : tksU false (t :: ks) ++ r = sg [124] :: (one t (decide (ks.length = 0)) ++ (tksU false ks ++ r)) := by
      simp [tksU, one]
    rw [e] at ht
    refine Gt.step (Gt.pos (by rw [tt_isM ht]; rfl) ?_)
    refine Gt.bind (dm_one t (hk t (by simp)).1 (hk t (by simp)).2.1 (hk t (by simp)).2.2 (decide (ks.length = 0)) (s := s.nx) (tt_hd ht).2.2 ha (fun hl => by
      have : ks = [] := List.eq_nil_of_length_eq_zero (by simpa using hl)
      subst this
      simpa [tksU] using hr.1) (by omega)) ?_
    rintro s1 x ⟨h1, hy⟩
    have hy : Yft s t s1 x := hy
    refine (unionL_more ks d s1 (acc ++ [x]) r hr (fun y hy => hk y (by simp [hy])) h1 (by omega)).mono ?_
    rintro s3 l ⟨h3, l', rfl, hy2⟩
    exact ⟨h3, x :: l', by simp, hy.cons' hy2⟩

theorem dt_uni (ks : List Tr) (h2 : 2 ≤ ks.length) (hk : ∀ x ∈ ks, Wf x ∧ Dt L x ∧ (x.k ≠ 10 → Dm L x (decide (x.k ≠ 9)))) : Dt L (.nd 10 [] ks) := by
  intro d s r ht hr hd
  match ks, h2, hk with
  | t :: u :: us, _, hk =>
    have e : tks (.nd 10 [] (t :: u :: us)) ++ r = one t false ++ (tksU false (u :: us) ++ r) := by
      simp [tks, tksU, one]
    rw [dTy, if_pos rfl, dTyU] at hd
    have h0 : decide ((u :: us).length = 0) = false := rfl
    rw [h0] at hd
    refine typ_of _ (Wf.uni _ (by simp) fun x hx => (hk x hx).1) ht (by omega) (Gt.step ?_)
    rw [e] at ht
    refine Gt.bind (dm_one t (hk t (by simp)).1 (hk t (by simp)).2.1 (hk t (by simp)).2.2 false ht (by simp [tksU, isS, sg, has]) (by simp) (by omega)) ?_
    rintro s1 x ⟨h1, hy⟩
    refine Gt.pos (by rw [← isM_isS, h1]; simp [tksU, isS, sg, has]) ?_
    refine Gt.bind (unionL_more (u :: us) (d + 1) s1 [x] r hr (fun y hy => hk y (by simp at hy ⊢; exact .inr hy)) h1 (by omega)) ?_
    rintro s2 l ⟨h3, l', rfl, hy2⟩
    exact Gt.addT ⟨h3, (hy.cons' hy2).row 10 [] (by decide) _ rfl⟩

/-- What is written is read back. -/
theorem dt_all (t : Tr) (h : Wf t) : Dt L t ∧ (t.k ≠ 10 → Dm L t (decide (t.k ≠ 9))) := by
  have hw := h
  induction h with
  | plain k h1 h2 =>
    have h := dm_plain (L := L) k h1 h2
    have e : decide ((Tr.nd k [] []).k ≠ 9) = true := decide_eq_true (by show k ≠ 9; omega)
    rw [e]
    exact ⟨dt_of_dm hw h, fun _ => h⟩
  | obj ns ks hl nd _ hk ih =>
    have h := dm_obj (L := L) ns ks hl nd (fun x hx => (ih x hx (hk x hx)).1)
    exact ⟨dt_of_dm hw h, fun _ => h⟩
  | arr t ht ih =>
    have h := dm_arr (L := L) t (ih ht).1
    exact ⟨dt_of_dm hw h, fun _ => h⟩
  | fn t ps ht hp iht ihp =>
    have h := dm_fn (L := L) t ps (iht ht).1 (fun x hx => ⟨(ihp x hx (hp x hx)).1, hp x hx⟩)
    exact ⟨dt_of_dm hw h, fun _ => h⟩
  | uni ks h2 hk ih =>
    exact ⟨dt_uni ks h2 (fun x hx => ⟨hk x hx, ih x hx (hk x hx)⟩), fun h => absurd rfl h⟩
end
end Go.Proofs.YtjojlcfoiknlhaaGreatDoor.M

namespace Go.Proofs.YtjojlcfoiknlhaaGreatDoor.M

def hasS (r : List TT) (ms : List (List UInt8)) : Bool :=
  match r with
  | [] => false
  | (k, x) :: _ => (k == 5 || k == 2) && has ms x
theorem isM_hasS (L : List Tk) (i : Nat) (ms : List (List UInt8)) : isM L i ms = hasS (tt L i) ms := by
  cases h : tt L i with
  | nil =>
    have := hdK_tt L i
    rw [h] at this
    have h6 : (tk L i).kind = 6 := this.symm
    simp [isM, h6, hasS]
  | cons p r =>
    obtain ⟨k, x⟩ := p
    rw [tt_isM h]; rfl
theorem hasS_sub {r : List TT} {ms ms' : List (List UInt8)} (h : hasS r ms = false) (hs : ∀ m ∈ ms', m ∈ ms) : hasS r ms' = false := by
  cases r with
  | nil => rfl
  | cons p r =>
    obtain ⟨k, x⟩ := p
    simp only [hasS, has, Bool.and_eq_false_iff, List.contains_eq_mem, decide_eq_false_iff_not] at h ⊢
    rcases h with h | h
    · exact .inl h
    · exact .inr fun hm => h (hs x hm)
theorem isS_hasS (r : List TT) (m : List UInt8) : isS r m = hasS r [m] := by
  cases r with
  | nil => rfl
  | cons p r => rfl

def fo : List (List UInt8) := [[124], [61, 62]]
def f5 : List (List UInt8) := [[40], [46], [91], [97, 115], [124], [61, 62]]
def f3 : List (List UInt8) := [[40], [46], [91], [97, 115], [124], [61, 62], [42]]
def f2 : List (List UInt8) := [[40], [46], [91], [97, 115], [124], [61, 62], [42], [43], [45]]
def f1 : List (List UInt8) := [[40], [46], [91], [97, 115], [124], [61, 62], [42], [43], [45], [61, 61], [60]]
theorem f12 : ∀ m ∈ f2, m ∈ f1 := by decide
theorem f23 : ∀ m ∈ f3, m ∈ f2 := by decide
theorem f35 : ∀ m ∈ f5, m ∈ f3 := by decide

section
variable (L : List Tk)
def Qn (r : List TT) (s : St) (t : Nt) (s' : St) (x : Int) : Prop := tt L s'.i = r ∧ Nft s t s' x
def QnL (r : List TT) (s : St) (ps : List Nt) (acc : List Int) (s' : St) (l : List Int) : Prop := tt L s'.i = r ∧ ∃ l', l = acc ++ l' ∧ NftL s ps s' l'
/-- From what was read, whatever follows. -/
def Cp (φ : Sp → Option (Out Int)) (k : Sp → St → Int → Option (Out Int)) (r : List TT) (s : St) (t : Nt) : Prop :=
  ∃ s' x, Qn L r s t s' x ∧ ∀ R, Gt L (fun q => k q s' x) R → Gt L (fun q => obind (φ q) (k q)) R
def P5 (t : Nt) : Prop := ∀ d s r, tt L s.i = wt 5 (pt t) ++ r → hasS r fo = false → wd 5 (pt t) ≤ 20 - d → Cp L (fun q => q.simple d s) (fun q s x => q.tail d s x) r s t
def P4 (t : Nt) : Prop := ∀ d s r, tt L s.i = wt 4 (pt t) ++ r → hasS r f5 = false → wd 4 (pt t) ≤ 20 - d → Gt L (fun q => q.oper d s) (Qn L r s t)
def P3 (t : Nt) : Prop := ∀ d s r, tt L s.i = wt 3 (pt t) ++ r → hasS r f5 = false → wd 3 (pt t) ≤ 20 - d → Cp L (fun q => q.oper d s) (fun q s x => q.row false d s x) r s t
def P2 (t : Nt) : Prop := ∀ d s r, tt L s.i = wt 2 (pt t) ++ r → hasS r f3 = false → wd 2 (pt t) ≤ 20 - d → Cp L (fun q => q.prod d s) (fun q s x => q.row true d s x) r s t
def P1 (t : Nt) : Prop := ∀ d s r, tt L s.i = (me t).1 ++ r → hasS r f1 = false → (me t).2 ≤ 20 - d → Gt L (fun q => q.comp d s) (Qn L r s t)
def PE (t : Nt) : Prop := ∀ d s r, tt L s.i = (me t).1 ++ r → hasS r f1 = false → (me t).2 + 1 ≤ 20 - d → Gt L (fun q => q.expr d s) (Qn L r s t)
structure Px (t : Nt) : Prop where
  p5 : P5 L t
  p4 : P4 L t
  p3 : P3 L t
  p2 : P2 L t
  p1 : P1 L t
  pe : PE L t
end

/-! ### How it begins -/
def Fb (l : List TT) : Prop := ∃ k x r, l = (k, x) :: r ∧ (k = 1 ∨ k = 3 ∨ k = 4 ∨ ((k = 5 ∨ k = 2) ∧ x ∈ exprBegins))
def Fz (l : List TT) : Prop := ∃ k x r, l = (k, x) :: r ∧ (k = 1 ∨ k = 3 ∨ k = 4 ∨ ((k = 5 ∨ k = 2) ∧ x ∈ exprBegins ∧ x ∉ [[33], [45], [116, 121, 112, 101, 111, 102]]))
theorem Fz.b {l : List TT} (h : Fz l) : Fb l := by
  obtain ⟨k, x, r, e, h⟩ := h
  refine ⟨k, x, r, e, ?_⟩
  rcases h with h | h | h | h
  · exact .inl h
  · exact .inr (.inl h)
  · exact .inr (.inr (.inl h))
  · exact .inr (.inr (.inr ⟨h.1, h.2.1⟩))
theorem Fb.app {l : List TT} (h : Fb l) (r : List TT) : Fb (l ++ r) := by
  obtain ⟨k, x, r', rfl, h⟩ := h
  exact ⟨k, x, r' ++ r, rfl, h⟩
theorem Fz.app {l : List TT} (h : Fz l) (r : List TT) : Fz (l ++ r) := by
  obtain ⟨k, x, r', rfl, h⟩ := h
  exact ⟨k, x, r' ++ r, rfl, h⟩
theorem Fz.sg {m : List UInt8} (r : List TT) (h : m ∈ exprBegins ∧ m ∉ [[33], [45], [116, 121, 112, 101, 111, 102]]) : Fz (M.sg m :: r) := ⟨5, m, r, rfl, .inr (.inr (.inr ⟨.inl rfl, h⟩))⟩
theorem Fz.wd {m : List UInt8} (r : List TT) (h : m ∈ exprBegins ∧ m ∉ [[33], [45], [116, 121, 112, 101, 111, 102]]) : Fz ((2, m) :: r) := ⟨2, m, r, rfl, .inr (.inr (.inr ⟨.inr rfl, h⟩))⟩
theorem wt_fb {a : Nt} (h : Fb (me a).1 ∧ (bnd a = 5 → Fz (me a).1)) (l : Nat) : Fb (wt l (pt a)) := by
  unfold wt
  split
  · exact h.1
  · exact (Fz.sg _ (by decide)).b
theorem wt_fs {a : Nt} (h : Fb (me a).1 ∧ (bnd a = 5 → Fz (me a).1)) : Fz (wt 5 (pt a)) := by
  unfold wt
  split
  · rename_i hb
    have hb : 5 ≤ bnd a := hb
    refine h.2 ?_
    have : bnd a ≤ 5 := by
      cases a with
      | ty o => exact Nat.le_refl _
      | nd k tx n ps =>
        rw [bnd, bnK]
        repeat' split
        all_goals omega
    omega
  · exact Fz.sg _ (by decide)
theorem fst_of : ∀ (m : Nat) (t : Nt), szN t ≤ m → Wn t → isE t.k → Fb (me t).1 ∧ (bnd t = 5 → Fz (me t).1)
  | 0, t, hm, _, _ => by cases t <;> simp [szN] at hm
  | m + 1, t, hm, hw, hk => by
    have ih := fst_of m
    have five : ∀ {l : List TT}, Fz l → Fb l ∧ (bnd t = 5 → Fz l) := fun h => ⟨h.b, fun _ => h⟩
    cases wn_cases hw with
    | ty0 => simp [isE, Nt.k] at hk
    | ty1 t ht => simp [isE, Nt.k] at hk
    | n1 n hn => exact five ⟨3, _, _, rfl, .inr (.inl rfl)⟩
    | n2 tx hx => exact five ⟨4, _, _, rfl, .inr (.inr (.inl rfl))⟩
    | n3 n hn =>
      rcases hn with rfl | rfl
      · exact five (Fz.wd _ (by decide))
      · exact five (Fz.wd _ (by decide))
    | n4 => exact five (Fz.wd _ (by decide))
    | n5 tx hx => exact five ⟨1, _, _, rfl, .inl rfl⟩
    | n6 ps a b hp hn ha ia hb ib => rw [me6]; exact five (Fz.wd _ (by decide))
    | n7 a ps ha ia hp =>
      rw [szN, szNL] at hm
      rw [me7]; exact five ((wt_fs (ih a (by omega) ha ia)).app _)
    | n8 tx a hx ha ia =>
      rw [szN, szNL] at hm
      rw [me8]; exact five ((wt_fs (ih a (by omega) ha ia)).app _)
    | n9 a b ha ia hb ib =>
      rw [szN, szNL] at hm
      rw [me9]; exact five ((wt_fs (ih a (by omega) ha ia)).app _)
    | n10 ps hp hn => rw [me10]; exact five (Fz.sg _ (by decide))
    | n11 ps hp => rw [me11]; exact five (Fz.sg _ (by decide))
    | n12 tx a b hx ha ia hb ib =>
      rw [szN, szNL] at hm
      rw [me12]
      refine ⟨(wt_fb (ih a (by omega) ha ia) _).app _, fun h5 => ?_⟩
      exfalso
      simp only [List.mem_cons, List.not_mem_nil, or_false] at hx
      have h5 : bnK 12 tx = 5 := h5
      rcases hx with rfl | rfl | rfl | rfl | rfl <;> exact absurd h5 (by decide)
    | n13 tx a hx ha ia =>
      rw [me13]
      refine ⟨?_, fun h5 => by simp [bnd, bnK] at h5⟩
      simp only [List.mem_cons, List.not_mem_nil, or_false] at hx
      rcases hx with rfl | rfl | rfl
      · exact ⟨5, _, _, rfl, .inr (.inr (.inr ⟨.inl rfl, by decide⟩))⟩
      · exact ⟨5, _, _, rfl, .inr (.inr (.inr ⟨.inl rfl, by decide⟩))⟩
      · exact ⟨2, _, _, rfl, .inr (.inr (.inr ⟨.inr rfl, by decide⟩))⟩
    | n14 a t ha ia ht =>
      rw [szN, szNL] at hm
      rw [me14]; exact five ((wt_fs (ih a (by omega) ha ia)).app _)
    | n15 tx a hx ha ia => simp [isE, Nt.k] at hk
    | n16 tx a hx ha ia => simp [isE, Nt.k] at hk
    | n17 tx a b hx ha ia hb ib => simp [isE, Nt.k] at hk
    | n18 tx a hx ha ia => simp [isE, Nt.k] at hk
    | n19 tx a b hx ha ia hb ib => simp [isE, Nt.k] at hk
    | n20 a b c ha ia hb ib hc ic => simp [isE, Nt.k] at hk
    | n21 a ha ia => simp [isE, Nt.k] at hk
    | n22 a b c ha ia hb ib hc ic => simp [isE, Nt.k] at hk
    | n23 a b ha ia hb ib => simp [isE, Nt.k] at hk
    | n24 a ha ia => simp [isE, Nt.k] at hk
    | n25 a ha ia => simp [isE, Nt.k] at hk
    | n26 ps hp => simp [isE, Nt.k] at hk
theorem fst_E {t : Nt} (hw : Wn t) (hk : isE t.k) : Fb (me t).1 ∧ (bnd t = 5 → Fz (me t).1) := fst_of _ t (Nat.le_refl _) hw hk
section
variable {L : List Tk}
theorem Fb.beg {i : Nat} {l : List TT} (h : Fb l) (ht : tt L i = l) : begE L i = true := by
  obtain ⟨k, x, r, rfl, h⟩ := h
  obtain ⟨h1, _, _⟩ := tt_hd ht
  rw [begE, h1, tt_isM ht]
  rcases h with rfl | rfl | rfl | ⟨rfl | rfl, h⟩
  · simp
  · simp
  · simp
  · simp [has, h]
  · simp [has, h]
theorem Fb.not {i : Nat} {l : List TT} (h : Fb l) (ht : tt L i = l) {ms : List (List UInt8)} (hm : ∀ m ∈ exprBegins, m ∉ ms) : isM L i ms = false := by
  obtain ⟨k, x, r, rfl, h⟩ := h
  rw [tt_isM ht]
  rcases h with rfl | rfl | rfl | ⟨_, h⟩
  · simp
  · simp
  · simp
  · have := hm x h
    simp [has, this]
theorem Fz.not {i : Nat} {l : List TT} (h : Fz l) (ht : tt L i = l) : isM L i [[33], [45], [116, 121, 112, 101, 111, 102]] = false := by
  obtain ⟨k, x, r, rfl, h⟩ := h
  rw [tt_isM ht]
  rcases h with rfl | rfl | rfl | ⟨_, _, h⟩
  · simp
  · simp
  · simp
  · rw [has, List.contains_eq_mem, decide_eq_false h, Bool.and_false]

theorem Cp.of {φ : Sp → Option (Out Int)} {k : Sp → St → Int → Option (Out Int)} {r : List TT} {s : St} {t : Nt} (h : Gt L φ (Qn L r s t)) : Cp L φ k r s t := by
  obtain ⟨s', x, h1, h2⟩ := h
  refine ⟨s', x, h2, fun R h => ?_⟩
  obtain ⟨s2, y, h3, h4⟩ := h
  exact ⟨s2, y, h1.bind h3, h4⟩
theorem wt_eq {a b : Nat} {c : Pt} (h : b ≤ c.b ∨ c.b < a) (hab : a ≤ b) : wt a c = wt b c ∧ wd a c = wd b c := by
  unfold wt wd
  rcases h with h | h
  · rw [if_pos (by omega), if_pos h, if_pos (by omega), if_pos h]; exact ⟨rfl, rfl⟩
  · rw [if_neg (by omega), if_neg (by omega), if_neg (by omega), if_neg (by omega)]; exact ⟨rfl, rfl⟩

theorem p4_of {t : Nt} (hw : Wn t) (hk : isE t.k) (hb : bnd t ≠ 4) (h : P5 L t) : P4 L t := by
  intro d s r ht hr hd
  obtain ⟨e1, e2⟩ := wt_eq (a := 4) (b := 5) (c := pt t) (by show 5 ≤ bnd t ∨ bnd t < 4; omega) (by decide)
  rw [e1] at ht
  rw [e2] at hd
  obtain ⟨s', x, hq, hc⟩ := h d s r ht (hasS_sub hr (by decide)) hd
  refine Gt.step (Gt.neg ?_ (hc _ (Gt.step ?_)))
  · rw [((wt_fs (fst_E hw hk)).app r).not ht]; simp
  · have hn : ∀ m ∈ f5, isM L s'.i [m] = false := fun m hm => by
      rw [isM_hasS, hq.1]
      exact hasS_sub hr fun x hx => by simp at hx; subst hx; exact hm
    refine Gt.neg (by rw [hn [40] (by decide)]; simp) (Gt.neg (by rw [hn [46] (by decide)]; simp) (Gt.neg (by rw [hn [91] (by decide)]; simp) (Gt.neg (by rw [hn [97, 115] (by decide)]; simp) (Gt.pure hq))))
theorem p3_of {t : Nt} (hb : bnd t ≠ 3) (h : P4 L t) : P3 L t := by
  intro d s r ht hr hd
  obtain ⟨e1, e2⟩ := wt_eq (a := 3) (b := 4) (c := pt t) (by show 4 ≤ bnd t ∨ bnd t < 3; omega) (by decide)
  rw [e1] at ht
  rw [e2] at hd
  exact Cp.of (h d s r ht hr hd)
theorem row_end {b : Bool} {d : Nat} {s : St} {x : Int} {Q : St → Int → Prop} (hr : hasS (tt L s.i) (rowSigns b) = false) (hq : Q s x) : Gt L (fun q => q.row b d s x) Q :=
  Gt.step (Gt.neg (by rw [isM_hasS, hr]; simp) (Gt.pure hq))
theorem prod_of {t : Nt} (h : P3 L t) : ∀ d s r, tt L s.i = wt 3 (pt t) ++ r → hasS r f3 = false → wd 3 (pt t) ≤ 20 - d → Gt L (fun q => q.prod d s) (Qn L r s t) := by
  intro d s r ht hr hd
  obtain ⟨s', x, hq, hc⟩ := h d s r ht (hasS_sub hr f35) hd
  exact Gt.step (hc _ (row_end (by rw [hq.1]; exact hasS_sub hr (by decide)) hq))
theorem p2_of {t : Nt} (hb : bnd t ≠ 2) (h : P3 L t) : P2 L t := by
  intro d s r ht hr hd
  obtain ⟨e1, e2⟩ := wt_eq (a := 2) (b := 3) (c := pt t) (by show 3 ≤ bnd t ∨ bnd t < 2; omega) (by decide)
  rw [e1] at ht
  rw [e2] at hd
  exact Cp.of (prod_of h d s r ht hr hd)
theorem sum_of {t : Nt} (h : P2 L t) : ∀ d s r, tt L s.i = wt 2 (pt t) ++ r → hasS r f2 = false → wd 2 (pt t) ≤ 20 - d → Gt L (fun q => q.sum d s) (Qn L r s t) := by
  intro d s r ht hr hd
  obtain ⟨s', x, hq, hc⟩ := h d s r ht (hasS_sub hr f23) hd
  exact Gt.step (hc _ (row_end (by rw [hq.1]; exact hasS_sub hr (by decide)) hq))
theorem p1_of {t : Nt} (hb : 2 ≤ bnd t) (h : P2 L t) : P1 L t := by
  intro d s r ht hr hd
  have e1 : wt 2 (pt t) = (me t).1 := wt_is 2 (pt t) hb
  have e2 : wd 2 (pt t) = (me t).2 := wd_is 2 (pt t) hb
  refine Gt.step (Gt.bind (sum_of h d s r (by rw [e1]; exact ht) (hasS_sub hr f12) (by rw [e2]; exact hd)) fun s' x hq => Gt.neg ?_ (Gt.pure hq))
  rw [isM_hasS, hq.1, hasS_sub hr (by decide)]; simp
theorem pe_of {t : Nt} (hw : Wn t) (hk : isE t.k) (h : P1 L t) : PE L t := by
  intro d s r ht hr hd
  exact Gt.step (Gt.inside (p := fun q => q.comp) (((fst_E hw hk).1.app r).beg ht) (by omega) (h (d + 1) s r ht hr (by omega)))
theorem p5_of {t : Nt} (hb : bnd t < 5) (h : PE L t) : P5 L t := by
  intro d s r ht _ hd
  have e1 : wt 5 (pt t) = sg [40] :: ((me t).1 ++ [sg [41]]) := by
    rw [wt, if_neg (by show ¬5 ≤ bnd t; omega)]; rfl
  have e2 : wd 5 (pt t) = (me t).2 + 1 := by
    rw [wd, if_neg (by show ¬5 ≤ bnd t; omega)]; rfl
  have ht : tt L s.i = sg [40] :: ((me t).1 ++ sg [41] :: r) := by rw [ht, e1]; simp
  rw [e2] at hd
  have h0 := tt_hd ht
  have hn : ∀ m, m ≠ [40] → isM L s.i [m] = false := fun m hm => by
    rw [tt_isM ht]; simp [has, Ne.symm hm]
  refine Cp.of (Gt.step ?_)
  refine Gt.neg (by rw [h0.1]; decide) (Gt.neg (by rw [h0.1]; decide) (Gt.neg (by rw [h0.1]; decide) ?_))
  refine Gt.neg (by rw [hn _ (by decide)]; simp) (Gt.neg (by rw [hn _ (by decide)]; simp) (Gt.neg (by rw [hn _ (by decide)]; simp) (Gt.neg (by rw [hn _ (by decide)]; simp) (Gt.neg (by rw [hn _ (by decide)]; simp) (Gt.neg (by rw [hn _ (by decide)]; simp) ?_)))))
  refine Gt.bind (Gt.need (Q := fun s2 _ => s2 = s.nx) ht rfl) ?_
  rintro s2 _ rfl
  refine Gt.bind (h d s.nx (sg [41] :: r) h0.2.2 rfl hd) ?_
  rintro s3 x ⟨h3, hn3⟩
  refine Gt.bind (Gt.need (Q := fun s2 _ => s2 = s3.nx) h3 rfl) ?_
  rintro s2 _ rfl
  exact Gt.pure ⟨(tt_hd h3).2.2, hn3⟩

theorem px5 {t : Nt} (hw : Wn t) (hk : isE t.k) (hb : bnd t = 5) (h : P5 L t) : Px L t :=
  have h4 := p4_of hw hk (by omega) h
  have h3 := p3_of (by omega) h4
  have h2 := p2_of (by omega) h3
  have h1 := p1_of (by omega) h2
  ⟨h, h4, h3, h2, h1, pe_of hw hk h1⟩
theorem px4 {t : Nt} (hw : Wn t) (hk : isE t.k) (hb : bnd t = 4) (h : P4 L t) : Px L t :=
  have h3 := p3_of (by omega) h
  have h2 := p2_of (by omega) h3
  have h1 := p1_of (by omega) h2
  have he := pe_of hw hk h1
  ⟨p5_of (by omega) he, h, h3, h2, h1, he⟩
theorem px3 {t : Nt} (hw : Wn t) (hk : isE t.k) (hb : bnd t = 3) (h : P3 L t) : Px L t :=
  have h2 := p2_of (by omega) h
  have h1 := p1_of (by omega) h2
  have he := pe_of hw hk h1
  have h5 := p5_of (by omega) he
  ⟨h5, p4_of hw hk (by omega) h5, h, h2, h1, he⟩
theorem px2 {t : Nt} (hw : Wn t) (hk : isE t.k) (hb : bnd t = 2) (h : P2 L t) : Px L t :=
  have h1 := p1_of (by omega) h
  have he := pe_of hw hk h1
  have h5 := p5_of (by omega) he
  have h4 := p4_of hw hk (by omega) h5
  ⟨h5, h4, p3_of (by omega) h4, h, h1, he⟩
theorem px1 {t : Nt} (hw : Wn t) (hk : isE t.k) (hb : bnd t = 1) (h : P1 L t) : Px L t :=
  have he := pe_of hw hk h
  have h5 := p5_of (by omega) he
  have h4 := p4_of hw hk (by omega) h5
  have h3 := p3_of (by omega) h4
  ⟨h5, h4, h3, p2_of (by omega) h3, h, he⟩
end
end Go.Proofs.YtjojlcfoiknlhaaGreatDoor.M

namespace Go.Proofs.YtjojlcfoiknlhaaGreatDoor.M

/-- What may stand behind a part of a list. -/
def fw : List (List UInt8) := [[41], [93], [125], [44]]
def Fw (r : List TT) : Prop := ∃ m r', r = sg m :: r' ∧ m ∈ fw
theorem Fw.no {r : List TT} (h : Fw r) {ms : List (List UInt8)} (hm : ∀ m ∈ fw, m ∉ ms) : hasS r ms = false := by
  obtain ⟨m, r', rfl, h⟩ := h
  have := hm m h
  simp [hasS, sg, has, this]
theorem Fw.fol {r : List TT} (h : Fw r) : Fol r := ⟨by rw [isS_hasS]; exact h.no (by decide), by rw [isS_hasS]; exact h.no (by decide)⟩

section
variable {L : List Tk}
theorem list_gen (pk : Part) (e : List UInt8) (he : e ∈ [[41], [93], [125]]) (c : Nat) (I : List (List UInt8) → List Nt → Prop)
    (hI : ∀ nm p ps, I nm (p :: ps) → ∃ nm', I nm' ps ∧ (∀ r, hasS ((me p).1 ++ r) [e] = false) ∧ ∀ d s r, tt L s.i = (me p).1 ++ r → Fw r → (me p).2 + c ≤ 20 - d →
      Gt L (fun q => part L q d s nm pk) (fun s2 y => tt L s2.i = r ∧ Nft s p s2 y.1 ∧ y.2 = nm')) :
    ∀ (ps : List Nt) (d : Nat) (s : St) (nm : List (List UInt8)) (acc : List Int) (r : List TT), I nm ps → tt L s.i = joiT (decide (acc.length = 0)) (meL ps) ++ sg e :: r → mx c (meL ps) ≤ 20 - d →
      Gt L (fun q => q.list pk e d s nm acc) (QnL L r s ps acc)
  | [], d, s, nm, acc, r, _, ht, _ => by
    have ht : tt L s.i = sg e :: r := by simpa [meL, joiT] using ht
    exact Gt.step (Gt.pos (by rw [tt_isM ht]; simp [has]) (Gt.pure ⟨(tt_hd ht).2.2, [], by simp, NftL.nil s⟩))
  | p :: ps, d, s, nm, acc, r, hi, ht, hd => by
    rw [meL_cons, mx, pt_d] at hd
    obtain ⟨nm', hi2, hno, hg⟩ := hI nm p ps hi
    have hfw : Fw (joiT false (meL ps) ++ sg e :: r) := by
      cases ps with
      | nil =>
        refine ⟨e, r, rfl, ?_⟩
        simp only [List.mem_cons, List.not_mem_nil, or_false] at he
        rcases he with rfl | rfl | rfl <;> decide
      | cons u us => exact ⟨[44], _, rfl, by decide⟩
    refine Gt.step (Gt.neg ?_ ?_)
    · by_cases h0 : acc.length = 0
      · have ht : tt L s.i = (me p).1 ++ (joiT false (meL ps) ++ sg e :: r) := by simpa [h0, meL_cons, joiT, pt_ts] using ht
        rw [isM_hasS, ht, hno]; simp
      · have ht : tt L s.i = sg [44] :: ((me p).1 ++ (joiT false (meL ps) ++ sg e :: r)) := by simpa [h0, meL_cons, joiT, pt_ts] using ht
        rw [tt_isM ht]
        simp only [List.mem_cons, List.not_mem_nil, or_false] at he
        rcases he with rfl | rfl | rfl <;> decide
    · refine Gt.bind (Q := fun s1 _ => s1.N = s.N ∧ s1.T = s.T ∧ tt L s1.i = (me p).1 ++ (joiT false (meL ps) ++ sg e :: r)) ?_ ?_
      · by_cases h0 : acc.length = 0
        · exact Gt.pos h0 (Gt.pure ⟨rfl, rfl, by simpa [h0, meL_cons, joiT, pt_ts] using ht⟩)
        · have ht : tt L s.i = sg [44] :: ((me p).1 ++ (joiT false (meL ps) ++ sg e :: r)) := by simpa [h0, meL_cons, joiT, pt_ts] using ht
          exact Gt.neg h0 (Gt.need ht ⟨rfl, rfl, (tt_hd ht).2.2⟩)
      · rintro s1 _ ⟨hN, hT, h1⟩
        refine Gt.bind (hg d s1 _ h1 hfw (by omega)) ?_
        rintro s2 ⟨x, nm2⟩ ⟨h2, hy, rfl⟩
        have hy := hy.base hN hT
        refine (list_gen pk e he c I hI ps d s2 nm2 (acc ++ [x]) r hi2 (by simpa using h2) (by omega)).mono ?_
        rintro s3 l ⟨h3, l', rfl, hy2⟩
        exact ⟨h3, x :: l', by simp, hy.cons hy2⟩

theorem Fb.no {l : List TT} (h : Fb l) {ms : List (List UInt8)} (hm : ∀ m ∈ exprBegins, m ∉ ms) : hasS l ms = false := by
  obtain ⟨k, x, r, rfl, h⟩ := h
  rcases h with rfl | rfl | rfl | ⟨_, h⟩
  · simp [hasS]
  · simp [hasS]
  · simp [hasS]
  · have := hm x h
    simp [hasS, has, this]

theorem listE_more (e : List UInt8) (he : e ∈ [[41], [93], [125]]) (ps : List Nt) (d : Nat) (s : St) (nm : List (List UInt8)) (acc : List Int) (r : List TT) (hp : ∀ p ∈ ps, Wn p ∧ isE p.k ∧ PE L p)
    (ht : tt L s.i = joiT (decide (acc.length = 0)) (meL ps) ++ sg e :: r) (hd : mx 1 (meL ps) ≤ 20 - d) : Gt L (fun q => q.list .expr e d s nm acc) (QnL L r s ps acc) := by
  refine list_gen .expr e he 1 (fun _ ps => ∀ p ∈ ps, Wn p ∧ isE p.k ∧ PE L p) ?_ ps d s nm acc r hp ht hd
  intro nm p ps hi
  obtain ⟨h1, h2, h3⟩ := hi p (by simp)
  refine ⟨nm, fun q hq => hi q (by simp [hq]), fun r => ?_, fun d s r ht hr hd => ?_⟩
  · refine ((fst_E h1 h2).1.app r).no ?_
    simp only [List.mem_cons, List.not_mem_nil, or_false] at he
    rcases he with rfl | rfl | rfl <;> decide
  · refine Gt.bind (h3 d s r ht (hr.no (by decide)) hd) ?_
    rintro s2 x ⟨a, b⟩
    exact Gt.pure ⟨a, b, rfl⟩

theorem listO_more (ps : List Nt) (d : Nat) (s : St) (r : List TT) (hn : (ps.map Nt.tx).Nodup) (hp : ∀ p ∈ ps, ∃ tx a, p = .nd 15 tx 0 [a] ∧ Wn a ∧ isE a.k ∧ PE L a)
    (ht : tt L s.i = joiT true (meL ps) ++ sg [125] :: r) (hd : mx 0 (meL ps) ≤ 20 - d) : Gt L (fun q => q.list .obj [125] d s [] []) (QnL L r s ps []) := by
  refine list_gen .obj [125] (by decide) 0 (fun nm ps => (nm ++ ps.map Nt.tx).Nodup ∧ ∀ p ∈ ps, ∃ tx a, p = .nd 15 tx 0 [a] ∧ Wn a ∧ isE a.k ∧ PE L a) ?_ ps d s [] [] r ⟨by simpa using hn, hp⟩ ht hd
  rintro nm p ps ⟨hnd, hi⟩
  obtain ⟨tx, a, rfl, hw, hk, he⟩ := hi p (by simp)
  refine ⟨nm ++ [tx], ⟨by simpa [Nt.tx] using hnd, fun q hq => hi q (by simp [hq])⟩, fun r => by rw [me15]; simp [hasS], fun d s r ht hr hd => ?_⟩
  rw [me15] at ht hd
  have ht : tt L s.i = (1, tx) :: sg [58] :: ((me a).1 ++ r) := ht
  have hni : tx ∉ nm := by
    intro hm
    rw [List.nodup_append] at hnd
    exact hnd.2.2 tx hm tx (by simp [Nt.tx]) rfl
  refine Gt.bind (Gt.newName (Q := fun s1 x => s1 = s.nx ∧ x = tx) ht hni ⟨rfl, rfl⟩) ?_
  rintro s1 _ ⟨rfl, rfl⟩
  have h2 : tt L s.nx.i = sg [58] :: ((me a).1 ++ r) := (tt_hd ht).2.2
  refine Gt.bind (Gt.need (Q := fun s2 _ => s2 = s.nx.nx) h2 rfl) ?_
  rintro s2 _ rfl
  refine Gt.bind (he d s.nx.nx r (tt_hd h2).2.2 (hr.no (by decide)) hd) ?_
  rintro s3 x ⟨h3, hx⟩
  have hx : Nft s a s3 x := hx
  refine Gt.bind (Gt.addN (Q := fun s4 y => tt L s4.i = r ∧ Nft s (.nd 15 _ 0 [a]) s4 y) ⟨h3, hx.l.node _ 15 _ 0 _ rfl⟩) ?_
  rintro s4 y ⟨h4, hy⟩
  exact Gt.pure ⟨h4, hy, rfl⟩

theorem typeIf_more {o : Option Tr} (hw : Wn (.ty o)) {d : Nat} {s : St} {r : List TT} (ht : tt L s.i = colT (pt (.ty o)) ++ r) (h1 : hasS r [[58]] = false) (h2 : Fol r) (hd : (me (.ty o)).2 ≤ 20 - d) : Gt L (fun q => typeIf L q d s) (Qn L r s (.ty o)) := by
  cases o with
  | none =>
    have ht : tt L s.i = r := by simpa [colT, pt, Nt.k] using ht
    exact Gt.neg (by rw [isM_hasS, ht, h1]; simp) (Gt.pure ⟨ht, Nft.none s⟩)
  | some t =>
    have ht : tt L s.i = sg [58] :: (tks t ++ r) := ht
    refine Gt.pos (by rw [tt_isM ht]; rfl) (((dt_all t hw).1 d s.nx r (tt_hd ht).2.2 h2 hd).mono ?_)
    rintro s' x ⟨a, b⟩
    exact ⟨a, Yft.n b⟩

theorem listP_more (ps : List Nt) (d : Nat) (s : St) (r : List TT) (hn : (ps.map Nt.tx).Nodup) (hp : ∀ p ∈ ps, ∃ tx o, p = .nd 16 tx 0 [.ty o] ∧ Wn (.ty o))
    (ht : tt L s.i = joiT true (meL ps) ++ sg [41] :: r) (hd : mx 0 (meL ps) ≤ 20 - d) : Gt L (fun q => q.list .par [41] d s [] []) (QnL L r s ps []) := by
  refine list_gen .par [41] (by decide) 0 (fun nm ps => (nm ++ ps.map Nt.tx).Nodup ∧ ∀ p ∈ ps, ∃ tx o, p = .nd 16 tx 0 [.ty o] ∧ Wn (.ty o)) ?_ ps d s [] [] r ⟨by simpa using hn, hp⟩ ht hd
  rintro nm p ps ⟨hnd, hi⟩
  obtain ⟨tx, o, rfl, hw⟩ := hi p (by simp)
  refine ⟨nm ++ [tx], ⟨by simpa [Nt.tx] using hnd, fun q hq => hi q (by simp [hq])⟩, fun r => by rw [me16]; simp [hasS], fun d s r ht hr hd => ?_⟩
  rw [me16] at ht hd
  have ht : tt L s.i = (1, tx) :: (colT (pt (.ty o)) ++ r) := ht
  have hni : tx ∉ nm := by
    intro hm
    rw [List.nodup_append] at hnd
    exact hnd.2.2 tx hm tx (by simp [Nt.tx]) rfl
  refine Gt.bind (Gt.newName (Q := fun s1 x => s1 = s.nx ∧ x = tx) ht hni ⟨rfl, rfl⟩) ?_
  rintro s1 _ ⟨rfl, rfl⟩
  refine Gt.bind (typeIf_more hw (s := s.nx) (tt_hd ht).2.2 (hr.no (by decide)) hr.fol hd) ?_
  rintro s3 x ⟨h3, hx⟩
  have hx : Nft s (.ty o) s3 x := hx
  refine Gt.bind (Gt.addN (Q := fun s4 y => tt L s4.i = r ∧ Nft s (.nd 16 _ 0 [.ty o]) s4 y) ⟨h3, hx.l.node _ 16 _ 0 _ rfl⟩) ?_
  rintro s4 y ⟨h4, hy⟩
  exact Gt.pure ⟨h4, hy, rfl⟩

/-! ### Each kind of an expression -/

theorem me5w (t : Nt) (h : bnd t = 5) : wt 5 (pt t) = (me t).1 ∧ wd 5 (pt t) = (me t).2 := ⟨wt_is 5 (pt t) (by show 5 ≤ bnd t; omega), wd_is 5 (pt t) (by show 5 ≤ bnd t; omega)⟩
theorem p5_simple {t : Nt} (hb : bnd t = 5) (h : ∀ d s r, tt L s.i = (me t).1 ++ r → (me t).2 ≤ 20 - d → Gt L (fun q => q.simple d s) (Qn L r s t)) : P5 L t := by
  intro d s r ht _ hd
  rw [(me5w t hb).1] at ht
  rw [(me5w t hb).2] at hd
  exact Cp.of (h d s r ht hd)

theorem cp1 (n : Int) (hn : 0 ≤ n ∧ n ≤ 999999999) : Px L (.nd 1 [] n []) := by
  refine px5 (w1 hn) (by simp [isE, Nt.k]) rfl (p5_simple rfl fun d s r ht _ => ?_)
  have ht : tt L s.i = (3, Lib.itoa n) :: r := ht
  obtain ⟨a1, a2, a3⟩ := tt_hd ht
  refine Gt.step (Gt.pos a1 (Gt.addN ⟨a3, NftL.node (s' := s.nx) (NftL.nil s) _ 1 [] n _ ?_⟩))
  rw [a2, itoa_pos hn.1, (dec_all n.toNat).2.1, show ((n.toNat : Nat) : Int) = n by omega]
  rfl
theorem cp2 (tx : List UInt8) (hx : tx.length ≤ 30 ∧ ∀ c ∈ tx, txt c.toNat = true) : Px L (.nd 2 tx 0 []) := by
  refine px5 (w2 hx) (by simp [isE, Nt.k]) rfl (p5_simple rfl fun d s r ht _ => ?_)
  have ht : tt L s.i = (4, tx) :: r := ht
  obtain ⟨a1, a2, a3⟩ := tt_hd ht
  refine Gt.step (Gt.neg (by rw [a1]; decide) (Gt.pos a1 (Gt.addN ⟨a3, NftL.node (s' := s.nx) (NftL.nil s) _ 2 tx 0 _ ?_⟩)))
  rw [a2]; rfl
theorem cp5 (tx : List UInt8) (hx : NmOk tx) : Px L (.nd 5 tx 0 []) := by
  refine px5 (w5 hx) (by simp [isE, Nt.k]) rfl (p5_simple rfl fun d s r ht _ => ?_)
  have ht : tt L s.i = (1, tx) :: r := ht
  obtain ⟨a1, a2, a3⟩ := tt_hd ht
  refine Gt.step (Gt.neg (by rw [a1]; decide) (Gt.neg (by rw [a1]; decide) (Gt.pos a1 (Gt.addN ⟨a3, NftL.node (s' := s.nx) (NftL.nil s) _ 5 tx 0 _ ?_⟩))))
  rw [a2]; rfl
theorem cp3 (n : Int) (hn : n = 0 ∨ n = 1) : Px L (.nd 3 [] n []) := by
  refine px5 (w3 hn) (by simp [isE, Nt.k]) rfl (p5_simple rfl fun d s r ht _ => ?_)
  rcases hn with rfl | rfl
  · have ht : tt L s.i = (2, [102, 97, 108, 115, 101]) :: r := ht
    obtain ⟨a1, a2, a3⟩ := tt_hd ht
    exact Gt.step (Gt.neg (by rw [a1]; decide) (Gt.neg (by rw [a1]; decide) (Gt.neg (by rw [a1]; decide) (Gt.neg (by rw [tt_isM ht]; decide) (Gt.pos (by rw [tt_isM ht]; rfl) (Gt.addN ⟨a3, NftL.node (s' := s.nx) (NftL.nil s) _ 3 [] 0 _ rfl⟩))))))
  · have ht : tt L s.i = (2, [116, 114, 117, 101]) :: r := ht
    obtain ⟨a1, a2, a3⟩ := tt_hd ht
    exact Gt.step (Gt.neg (by rw [a1]; decide) (Gt.neg (by rw [a1]; decide) (Gt.neg (by rw [a1]; decide) (Gt.pos (by rw [tt_isM ht]; rfl) (Gt.addN ⟨a3, NftL.node (s' := s.nx) (NftL.nil s) _ 3 [] 1 _ rfl⟩)))))
theorem cp4 : Px L (.nd 4 [] 0 []) := by
  refine px5 w4 (by simp [isE, Nt.k]) rfl (p5_simple rfl fun d s r ht _ => ?_)
  have ht : tt L s.i = (2, [110, 117, 108, 108]) :: r := ht
  obtain ⟨a1, a2, a3⟩ := tt_hd ht
  exact Gt.step (Gt.neg (by rw [a1]; decide) (Gt.neg (by rw [a1]; decide) (Gt.neg (by rw [a1]; decide) (Gt.neg (by rw [tt_isM ht]; decide) (Gt.neg (by rw [tt_isM ht]; decide) (Gt.pos (by rw [tt_isM ht]; rfl) (Gt.addN ⟨a3, NftL.node (s' := s.nx) (NftL.nil s) _ 4 [] 0 _ rfl⟩)))))))
end

section
variable (L : List Tk)
def Pb (t : Nt) : Prop := ∀ d s r, tt L s.i = (me t).1 ++ r → (me t).2 ≤ 20 - d → Gt L (fun q => q.block d s) (Qn L r s t)
def Ps (t : Nt) : Prop := ∀ d s r, tt L s.i = (me t).1 ++ r → hasS r [[101, 108, 115, 101]] = false → (me t).2 ≤ 20 - d → Gt L (fun q => q.any d s) (Qn L r s t)
end
section
variable {L : List Tk}

theorem cp6 (ps : List Nt) (o : Option Tr) (b : Nt) (hw : Wn (.nd 6 [] 0 (ps ++ [.ty o, b]))) (hp : ∀ p ∈ ps, ∃ tx o, p = .nd 16 tx 0 [.ty o] ∧ Wn (.ty o)) (hn : (ps.map Nt.tx).Nodup) (ho : Wn (.ty o)) (hbb : ∃ r', (me b).1 = sg [123] :: r') (hb : Pb L b) : Px L (.nd 6 [] 0 (ps ++ [.ty o, b])) := by
  refine px5 hw (by simp [isE, Nt.k]) rfl (p5_simple rfl fun d s r ht hd => ?_)
  rw [me6] at ht hd
  simp only at hd
  have ht : tt L s.i = (2, [102, 110]) :: sg [40] :: (joiT true (meL ps) ++ sg [41] :: (colT (pt (.ty o)) ++ ((me b).1 ++ r))) := by rw [ht]; simp
  obtain ⟨a1, a2, a3⟩ := tt_hd ht
  refine Gt.step (Gt.neg (by rw [a1]; decide) (Gt.neg (by rw [a1]; decide) (Gt.neg (by rw [a1]; decide) (Gt.neg (by rw [tt_isM ht]; decide) (Gt.neg (by rw [tt_isM ht]; decide) (Gt.neg (by rw [tt_isM ht]; decide) (Gt.pos (by rw [tt_isM ht]; rfl) ?_)))))))
  refine Gt.bind (Gt.need (Q := fun s2 _ => s2 = s.nx.nx) (s := s.nx) a3 rfl) ?_
  rintro s2 _ rfl
  have h2 : tt L s.nx.nx.i = joiT true (meL ps) ++ sg [41] :: (colT (pt (.ty o)) ++ ((me b).1 ++ r)) := (tt_hd a3).2.2
  refine Gt.bind (listP_more ps d s.nx.nx _ hn hp h2 (by omega)) ?_
  rintro s3 l ⟨h3, l', e0, hl⟩
  rw [List.nil_append] at e0
  subst e0
  have hl : NftL s ps s3 l := hl
  obtain ⟨rb, eb⟩ := hbb
  refine Gt.bind (typeIf_more ho h3 (by rw [eb]; rfl) (by rw [eb]; exact ⟨rfl, rfl⟩) (by omega)) ?_
  rintro s4 x ⟨h4, hx⟩
  refine Gt.bind (hb d s4 r h4 (by omega)) ?_
  rintro s5 y ⟨h5, hy⟩
  have hc : NftL s (ps ++ [.ty o, b]) s5 (l ++ [x, y]) := hl.app (hx.cons hy.l)
  refine Gt.addN ⟨h5, hc.node _ 6 [] 0 _ ?_⟩
  show _ = (⟨6, (l ++ [x, y]).getLastD 0, 0, 0, (l ++ [x, y]).dropLast.dropLast, [], 0, (l ++ [x, y]).dropLast.getLastD 0, 0⟩ : Nd)
  rw [dl3, dl4, dl5]
  rfl
theorem cp10 (ps : List Nt) (hw : Wn (.nd 10 [] 0 ps)) (hn : (ps.map Nt.tx).Nodup) (hp : ∀ p ∈ ps, ∃ tx a, p = .nd 15 tx 0 [a] ∧ Wn a ∧ isE a.k ∧ PE L a) : Px L (.nd 10 [] 0 ps) := by
  refine px5 hw (by simp [isE, Nt.k]) rfl (p5_simple rfl fun d s r ht hd => ?_)
  rw [me10] at ht hd
  have ht : tt L s.i = sg [123] :: (joiT true (meL ps) ++ sg [125] :: r) := by rw [ht]; simp
  obtain ⟨a1, a2, a3⟩ := tt_hd ht
  refine Gt.step (Gt.neg (by rw [a1]; decide) (Gt.neg (by rw [a1]; decide) (Gt.neg (by rw [a1]; decide) (Gt.neg (by rw [tt_isM ht]; decide) (Gt.neg (by rw [tt_isM ht]; decide) (Gt.neg (by rw [tt_isM ht]; decide) (Gt.neg (by rw [tt_isM ht]; decide) (Gt.neg (by rw [tt_isM ht]; decide) (Gt.pos (by rw [tt_isM ht]; rfl) ?_)))))))))
  refine Gt.bind (listO_more ps d s.nx r hn hp a3 hd) ?_
  rintro s3 l ⟨h3, l', e0, hl⟩
  rw [List.nil_append] at e0
  subst e0
  have hl : NftL s ps s3 l := hl
  exact Gt.addN ⟨h3, hl.node _ 10 [] 0 _ rfl⟩
theorem cp11 (ps : List Nt) (hw : Wn (.nd 11 [] 0 ps)) (hp : ∀ p ∈ ps, Wn p ∧ isE p.k ∧ PE L p) : Px L (.nd 11 [] 0 ps) := by
  refine px5 hw (by simp [isE, Nt.k]) rfl (p5_simple rfl fun d s r ht hd => ?_)
  rw [me11] at ht hd
  have ht : tt L s.i = sg [91] :: (joiT true (meL ps) ++ sg [93] :: r) := by rw [ht]; simp
  obtain ⟨a1, a2, a3⟩ := tt_hd ht
  refine Gt.step (Gt.neg (by rw [a1]; decide) (Gt.neg (by rw [a1]; decide) (Gt.neg (by rw [a1]; decide) (Gt.neg (by rw [tt_isM ht]; decide) (Gt.neg (by rw [tt_isM ht]; decide) (Gt.neg (by rw [tt_isM ht]; decide) (Gt.neg (by rw [tt_isM ht]; decide) (Gt.pos (by rw [tt_isM ht]; rfl) ?_))))))))
  refine Gt.bind (listE_more [93] (by decide) ps d s.nx [] [] r hp a3 hd) ?_
  rintro s3 l ⟨h3, l', e0, hl⟩
  rw [List.nil_append] at e0
  subst e0
  have hl : NftL s ps s3 l := hl
  exact Gt.addN ⟨h3, hl.node _ 11 [] 0 _ rfl⟩

/-- A tail behind what was read. -/
theorem Cp.tail {φ : Sp → Option (Out Int)} {k : Sp → St → Int → Option (Out Int)} {r r' : List TT} {s : St} {t t' : Nt} (h : Cp L φ k r s t) (hs : ∀ s1 x1, Qn L r s t s1 x1 → ∃ s2 x2, Qn L r' s t' s2 x2 ∧ ∀ R, Gt L (fun q => k q s2 x2) R → Gt L (fun q => k q s1 x1) R) : Cp L φ k r' s t' := by
  obtain ⟨s1, x1, hq, hc⟩ := h
  obtain ⟨s2, x2, hq2, hc2⟩ := hs s1 x1 hq
  exact ⟨s2, x2, hq2, fun R h => hc R (hc2 R h)⟩
theorem p5_tail {t a : Nt} {tl : List TT} {dd : Nat} (hb : bnd t = 5) (h1 : (me t).1 = wt 5 (pt a) ++ tl) (h2 : (me t).2 = max (wd 5 (pt a)) dd) (htl : ∀ r, hasS (tl ++ r) fo = false) (ha : P5 L a)
    (h : ∀ d s s1 x1 r, tt L s1.i = tl ++ r → hasS r fo = false → Nft s a s1 x1 → dd ≤ 20 - d → ∃ s2 x2, Qn L r s t s2 x2 ∧ ∀ R, Gt L (fun q => q.tail d s2 x2) R → Gt L (fun q => q.tail d s1 x1) R) : P5 L t := by
  intro d s r ht hr hd
  rw [(me5w t hb).1, h1, List.append_assoc] at ht
  rw [(me5w t hb).2, h2] at hd
  refine (ha d s (tl ++ r) ht (htl r) (by omega)).tail ?_
  rintro s1 x1 ⟨hq, hn⟩
  exact h d s s1 x1 r hq hr hn (by omega)
theorem cp7 (a : Nt) (ps : List Nt) (hw : Wn (.nd 7 [] 0 (a :: ps))) (ha : P5 L a) (hp : ∀ p ∈ ps, Wn p ∧ isE p.k ∧ PE L p) : Px L (.nd 7 [] 0 (a :: ps)) := by
  refine px5 hw (by simp [isE, Nt.k]) rfl (p5_tail rfl (by rw [me7]) (by rw [me7]) (fun _ => rfl) ha fun d s s1 x1 r ht hr hn hd => ?_)
  have ht : tt L s1.i = sg [40] :: (joiT true (meL ps) ++ sg [41] :: r) := by rw [ht]; simp
  obtain ⟨a1, a2, a3⟩ := tt_hd ht
  obtain ⟨s2, l, he, h3, l', e0, hl⟩ := listE_more [41] (by decide) ps d s1.nx [] [] r hp a3 hd
  rw [List.nil_append] at e0
  subst e0
  have hl : NftL s1 ps s2 l := hl
  refine ⟨⟨s2.i, s2.N ++ [⟨7, x1, 0, 0, l, [], 0, -1, atN s1 x1⟩], s2.T⟩, s2.N.length, ⟨h3, (hn.cons hl).node _ 7 [] 0 _ rfl⟩, fun R h => ?_⟩
  refine Gt.step (Gt.pos (by rw [tt_isM ht]; rfl) (Gt.bind (Q := fun s' l' => s' = s2 ∧ l' = l) ⟨s2, l, he, rfl, rfl⟩ ?_))
  rintro _ _ ⟨rfl, rfl⟩
  refine Gt.bind (Q := fun s' x' => s' = _ ∧ x' = _) (Gt.addN ⟨rfl, rfl⟩) ?_
  rintro _ _ ⟨rfl, rfl⟩
  exact h
theorem cp8 (tx : List UInt8) (a : Nt) (hw : Wn (.nd 8 tx 0 [a])) (ha : P5 L a) : Px L (.nd 8 tx 0 [a]) := by
  refine px5 hw (by simp [isE, Nt.k]) rfl (p5_tail (dd := 0) rfl (by rw [me8]) (by rw [me8]; simp) (fun _ => rfl) ha fun d s s1 x1 r ht hr hn hd => ?_)
  have ht : tt L s1.i = sg [46] :: (1, tx) :: r := ht
  obtain ⟨a1, a2, a3⟩ := tt_hd ht
  obtain ⟨b1, b2, b3⟩ := tt_hd a3
  refine ⟨⟨s1.i + 1 + 1, s1.N ++ [⟨8, x1, 0, 0, [], tx, 0, -1, atN s1 x1⟩], s1.T⟩, s1.N.length, ⟨b3, hn.l.node _ 8 tx 0 _ rfl⟩, fun R h => ?_⟩
  refine Gt.step (Gt.neg (by rw [tt_isM ht]; decide) (Gt.pos (by rw [tt_isM ht]; rfl) (Gt.pos b1 ?_)))
  refine Gt.bind (Q := fun s' x' => s' = _ ∧ x' = _) (Gt.addN ⟨rfl, rfl⟩) ?_
  rintro _ _ ⟨rfl, rfl⟩
  rw [b2]
  exact h
theorem cp9 (a b : Nt) (hw : Wn (.nd 9 [] 0 [a, b])) (ha : P5 L a) (hb : PE L b) : Px L (.nd 9 [] 0 [a, b]) := by
  refine px5 hw (by simp [isE, Nt.k]) rfl (p5_tail rfl (by rw [me9]) (by rw [me9]) (fun _ => rfl) ha fun d s s1 x1 r ht hr hn hd => ?_)
  have ht : tt L s1.i = sg [91] :: ((me b).1 ++ sg [93] :: r) := by rw [ht]; simp
  obtain ⟨a1, a2, a3⟩ := tt_hd ht
  obtain ⟨s2, y, he, h3, hl⟩ := hb d s1.nx (sg [93] :: r) a3 rfl hd
  have hl : Nft s1 b s2.nx y := hl
  refine ⟨⟨s2.i + 1, s2.N ++ [⟨9, x1, y, 0, [], [], 0, -1, atN s1 x1⟩], s2.T⟩, s2.N.length, ⟨(tt_hd h3).2.2, (hn.cons hl.l).node _ 9 [] 0 _ rfl⟩, fun R h => ?_⟩
  refine Gt.step (Gt.neg (by rw [tt_isM ht]; decide) (Gt.neg (by rw [tt_isM ht]; decide) (Gt.pos (by rw [tt_isM ht]; rfl) (Gt.bind (Q := fun s' l' => s' = s2 ∧ l' = y) ⟨s2, y, he, rfl, rfl⟩ ?_))))
  rintro _ _ ⟨rfl, rfl⟩
  refine Gt.bind (Gt.need (Q := fun s' _ => s' = _) h3 rfl) ?_
  rintro _ _ rfl
  refine Gt.bind (Q := fun s' x' => s' = _ ∧ x' = _) (Gt.addN ⟨rfl, rfl⟩) ?_
  rintro _ _ ⟨rfl, rfl⟩
  exact h
theorem cp14 (a : Nt) (t : Tr) (hw : Wn (.nd 14 [] 0 [a, .ty (some t)])) (hwt : Wf t) (ha : P5 L a) : Px L (.nd 14 [] 0 [a, .ty (some t)]) := by
  refine px5 hw (by simp [isE, Nt.k]) rfl (p5_tail rfl (by rw [me14]) (by rw [me14]) (fun _ => rfl) ha fun d s s1 x1 r ht hr hn hd => ?_)
  have ht : tt L s1.i = (2, [97, 115]) :: (tks t ++ r) := ht
  obtain ⟨a1, a2, a3⟩ := tt_hd ht
  obtain ⟨s2, y, he, h3, hl⟩ := (dt_all t hwt).1 d s1.nx r a3 ⟨by rw [isS_hasS]; exact hasS_sub hr (by decide), by rw [isS_hasS]; exact hasS_sub hr (by decide)⟩ hd
  have hl : Nft s1 (.ty (some t)) s2 y := Yft.n hl
  refine ⟨⟨s2.i, s2.N ++ [⟨14, x1, 0, 0, [], [], 0, y, atN s1 x1⟩], s2.T⟩, s2.N.length, ⟨h3, (hn.cons hl.l).node _ 14 [] 0 _ rfl⟩, fun R h => ?_⟩
  refine Gt.step (Gt.neg (by rw [tt_isM ht]; decide) (Gt.neg (by rw [tt_isM ht]; decide) (Gt.neg (by rw [tt_isM ht]; decide) (Gt.pos (by rw [tt_isM ht]; rfl) (Gt.bind (Q := fun s' l' => s' = s2 ∧ l' = y) ⟨s2, y, he, rfl, rfl⟩ ?_)))))
  rintro _ _ ⟨rfl, rfl⟩
  refine Gt.bind (Q := fun s' x' => s' = _ ∧ x' = _) (Gt.addN ⟨rfl, rfl⟩) ?_
  rintro _ _ ⟨rfl, rfl⟩
  exact h
end
end Go.Proofs.YtjojlcfoiknlhaaGreatDoor.M

namespace Go.Proofs.YtjojlcfoiknlhaaGreatDoor.M
section
variable {L : List Tk}

theorem cp13 (tx : List UInt8) (a : Nt) (hw : Wn (.nd 13 tx 0 [a])) (hx : tx ∈ [[33], [45], [116, 121, 112, 101, 111, 102]]) (hwa : Wn a) (hk : isE a.k) (ha : P4 L a) : Px L (.nd 13 tx 0 [a]) := by
  refine px4 hw (by simp [isE, Nt.k]) rfl fun d s r ht hr hd => ?_
  rw [wt_is 4 _ (by show 4 ≤ bnK 13 tx; exact Nat.le_refl _), pt_ts, me13] at ht
  rw [wd_is 4 _ (by show 4 ≤ bnK 13 tx; exact Nat.le_refl _), pt_d, me13] at hd
  simp only at hd
  have ht : tt L s.i = sgw tx :: (wt 4 (pt a) ++ r) := ht
  obtain ⟨k, ht, hk2⟩ : ∃ k, tt L s.i = (k, tx) :: (wt 4 (pt a) ++ r) ∧ (k == 5 || k == 2) = true := by
    simp only [List.mem_cons, List.not_mem_nil, or_false] at hx
    rcases hx with rfl | rfl | rfl
    · exact ⟨5, ht, rfl⟩
    · exact ⟨5, ht, rfl⟩
    · exact ⟨2, ht, rfl⟩
  obtain ⟨a1, a2, a3⟩ := tt_hd ht
  refine Gt.step (Gt.pos (by rw [tt_isM ht, hk2, has_mem hx]; rfl) ?_)
  refine Gt.bind (Gt.inside (p := fun q => q.oper) (((wt_fb (fst_E hwa hk) 4).app r).beg a3) (by omega) (ha (d + 1) s.nx r a3 hr (by omega))) ?_
  rintro s1 x ⟨h1, hn⟩
  have hn : Nft s a s1 x := hn
  rw [a2]
  exact Gt.addN ⟨h1, hn.l.node _ 13 tx 0 _ rfl⟩

theorem row_two {b : Bool} {tx : List UInt8} (htx : tx ∈ rowSigns b) {a c : Nt} {d : Nat} {s s1 : St} {x1 : Int} {r r1 : List TT} (ht : tt L s1.i = sg tx :: r1) (hn : Nft s a s1 x1) (hc : Gt L (fun q => (if b then q.prod d else q.oper d) s1.nx) (Qn L r s1.nx c)) :
    ∃ s2 x2, Qn L r s (.nd 12 tx 0 [a, c]) s2 x2 ∧ ∀ R, Gt L (fun q => q.row b d s2 x2) R → Gt L (fun q => q.row b d s1 x1) R := by
  obtain ⟨s2, y, he, h2, hy⟩ := hc
  have hy : Nft s1 c s2 y := hy
  refine ⟨⟨s2.i, s2.N ++ [⟨12, x1, y, 0, [], tx, 0, -1, atN s2 x1⟩], s2.T⟩, s2.N.length, ⟨h2, (hn.cons hy.l).node _ 12 tx 0 _ rfl⟩, fun R h => ?_⟩
  have a2 := (tt_hd ht).2.1
  refine Gt.step (Gt.pos (by rw [tt_isM ht, has_mem htx]; rfl) ?_)
  refine Gt.bind (Q := fun s' x' => s' = ⟨s2.i, s2.N ++ [⟨12, x1, y, 0, [], (tk L s1.i).text, 0, -1, atN s2 x1⟩], s2.T⟩ ∧ x' = (s2.N.length : Int)) ?_ ?_
  · refine Gt.bind (Q := fun s' l' => s' = s2 ∧ l' = y) ⟨s2, y, he, rfl, rfl⟩ ?_
    rintro _ _ ⟨rfl, rfl⟩
    exact Gt.addN ⟨rfl, rfl⟩
  · rintro _ _ ⟨rfl, rfl⟩
    rw [a2]
    exact h

theorem cp12 (tx : List UInt8) (a b : Nt) (hw : Wn (.nd 12 tx 0 [a, b])) (hx : tx ∈ [[61, 61], [60], [43], [45], [42]]) (ha : Px L a) (hb : Px L b) : Px L (.nd 12 tx 0 [a, b]) := by
  have star : tx = [42] → Px L (.nd 12 tx 0 [a, b]) := by
    rintro rfl
    refine px3 hw (by simp [isE, Nt.k]) rfl fun d s r ht hr hd => ?_
    rw [wt_is 3 _ (by show 3 ≤ bnK 12 [42]; decide), pt_ts, me12] at ht
    rw [wd_is 3 _ (by show 3 ≤ bnK 12 [42]; decide), pt_d, me12] at hd
    have ht : tt L s.i = wt 3 (pt a) ++ sg [42] :: (wt 4 (pt b) ++ r) := by rw [ht, List.append_assoc]; rfl
    have hd : max (wd 3 (pt a)) (wd 4 (pt b)) ≤ 20 - d := hd
    refine (ha.p3 d s _ ht rfl (by omega)).tail ?_
    rintro s1 x1 ⟨h1, hn⟩
    exact row_two (b := false) (by decide) h1 hn (hb.p4 d s1.nx r (tt_hd h1).2.2 hr (by omega))
  have plus : tx ∈ rowSigns true → Px L (.nd 12 tx 0 [a, b]) := by
    intro hm
    have hb2 : bnK 12 tx = 2 ∧ lv tx = 2 ∧ hasS [sg tx] f3 = false := by
      simp only [rowSigns, List.mem_cons, List.not_mem_nil, or_false] at hm
      rcases hm with rfl | rfl <;> decide
    refine px2 hw (by simp [isE, Nt.k]) hb2.1 fun d s r ht hr hd => ?_
    rw [wt_is 2 _ (by show 2 ≤ bnK 12 tx; omega), pt_ts, me12, hb2.1, hb2.2.1] at ht
    rw [wd_is 2 _ (by show 2 ≤ bnK 12 tx; omega), pt_d, me12, hb2.1, hb2.2.1] at hd
    have ht : tt L s.i = wt 2 (pt a) ++ sg tx :: (wt 3 (pt b) ++ r) := by rw [ht, List.append_assoc]; rfl
    have hd : max (wd 2 (pt a)) (wd 3 (pt b)) ≤ 20 - d := hd
    refine (ha.p2 d s _ ht hb2.2.2 (by omega)).tail ?_
    rintro s1 x1 ⟨h1, hn⟩
    exact row_two (b := true) hm h1 hn (prod_of hb.p3 d s1.nx r (tt_hd h1).2.2 hr (by omega))
  have comp : tx ∈ [[61, 61], [60]] → Px L (.nd 12 tx 0 [a, b]) := by
    intro hm
    have hb2 : bnK 12 tx = 1 ∧ lv tx = 2 ∧ hasS [sg tx] f2 = false := by
      simp only [List.mem_cons, List.not_mem_nil, or_false] at hm
      rcases hm with rfl | rfl <;> decide
    refine px1 hw (by simp [isE, Nt.k]) hb2.1 fun d s r ht hr hd => ?_
    rw [me12, hb2.1, hb2.2.1] at ht hd
    have ht : tt L s.i = wt 2 (pt a) ++ sg tx :: (wt 2 (pt b) ++ r) := by rw [ht, List.append_assoc]; rfl
    have hd : max (wd 2 (pt a)) (wd 2 (pt b)) ≤ 20 - d := hd
    refine Gt.step (Gt.bind (sum_of ha.p2 d s _ ht hb2.2.2 (by omega)) ?_)
    rintro s1 x1 ⟨h1, hn⟩
    refine Gt.pos (by rw [tt_isM h1, has_mem hm]; rfl) ?_
    refine Gt.bind (sum_of hb.p2 d s1.nx r (tt_hd h1).2.2 (hasS_sub hr f12) (by omega)) ?_
    rintro s2 y ⟨h2, hy⟩
    have hy : Nft s1 b s2 y := hy
    rw [(tt_hd h1).2.1]
    exact Gt.addN ⟨h2, (hn.cons hy.l).node _ 12 tx 0 _ rfl⟩
  simp only [List.mem_cons, List.not_mem_nil, or_false] at hx
  rcases hx with h | h | h | h | h
  · exact comp (by rw [h]; decide)
  · exact comp (by rw [h]; decide)
  · exact plus (by rw [h]; decide)
  · exact plus (by rw [h]; decide)
  · exact star h

/-! ### Statements -/
def FS (l : List TT) : Prop := ∃ k x r, l = (k, x) :: r ∧ (k = 1 ∨ k = 3 ∨ k = 4 ∨ ((k = 5 ∨ k = 2) ∧ x ∈ exprBegins ++ stmtBegins))
theorem FS.app {l : List TT} (h : FS l) (r : List TT) : FS (l ++ r) := by
  obtain ⟨k, x, r', rfl, h⟩ := h
  exact ⟨k, x, r' ++ r, rfl, h⟩
theorem Fb.s {l : List TT} (h : Fb l) : FS l := by
  obtain ⟨k, x, r, e, h⟩ := h
  refine ⟨k, x, r, e, ?_⟩
  rcases h with h | h | h | h
  · exact .inl h
  · exact .inr (.inl h)
  · exact .inr (.inr (.inl h))
  · exact .inr (.inr (.inr ⟨h.1, List.mem_append_left _ h.2⟩))
theorem FS.w {m : List UInt8} (r : List TT) (h : m ∈ stmtBegins) : FS ((2, m) :: r) := ⟨2, m, r, rfl, .inr (.inr (.inr ⟨.inr rfl, List.mem_append_right _ h⟩))⟩
theorem FS.no {l : List TT} (h : FS l) {ms : List (List UInt8)} (hm : ∀ m ∈ exprBegins ++ stmtBegins, m ∉ ms) : hasS l ms = false := by
  obtain ⟨k, x, r, rfl, h⟩ := h
  rcases h with rfl | rfl | rfl | ⟨_, h⟩
  · simp [hasS]
  · simp [hasS]
  · simp [hasS]
  · have := hm x h
    simp [hasS, has, this]
theorem FS.beg {i : Nat} {l : List TT} (h : FS l) (ht : tt L i = l) : begS L i = true ∧ (tk L i).kind ≠ 6 := by
  obtain ⟨k, x, r, rfl, h⟩ := h
  obtain ⟨h1, _, _⟩ := tt_hd ht
  rw [begS, begE, h1, tt_isM ht, tt_isM ht]
  rcases h with rfl | rfl | rfl | ⟨hk, h⟩
  · simp
  · simp
  · simp
  · rw [List.mem_append] at h
    rcases hk with rfl | rfl <;> rcases h with h | h <;> simp [has, h]
theorem fst_S {t : Nt} (hw : Wn t) (hk : 17 ≤ t.k ∧ t.k ≤ 25) : FS (me t).1 := by
  cases wn_cases hw with
  | n17 tx a b hx ha ia hb ib => rw [me17]; exact FS.w _ (by decide)
  | n18 tx a hx ha ia => rw [me18]; exact ⟨1, _, _, rfl, .inl rfl⟩
  | n19 tx a b hx ha ia hb ib => rw [me19]; exact ((wt_fs (fst_E ha ia)).b.s).app _
  | n20 a b c ha ia hb ib hc ic => rw [me20]; exact ((wt_fs (fst_E ha ia)).b.s).app _
  | n21 a ha ia => rw [me21]; exact FS.w _ (by decide)
  | n22 a b c ha ia hb ib hc ic => rw [me22]; exact FS.w _ (by decide)
  | n23 a b ha ia hb ib => rw [me23]; exact FS.w _ (by decide)
  | n24 a ha ia => rw [me24]; exact FS.w _ (by decide)
  | n25 a ha ia => rw [me25]; exact ((fst_E ha ia).1.s).app _
  | _ => simp [Nt.k] at hk

theorem stmt_of {t : Nt} (hw : Wn t) (hk : 17 ≤ t.k ∧ t.k ≤ 25) (h : Ps L t) {d : Nat} {s : St} {r : List TT} (ht : tt L s.i = (me t).1 ++ r) (hr : hasS r [[101, 108, 115, 101]] = false) (hd : (me t).2 + 1 ≤ 20 - d) : Gt L (fun q => q.stmt d s) (Qn L r s t) :=
  Gt.step (Gt.inside (p := fun q => q.any) (((fst_S hw hk).app r).beg ht).1 (by omega) (h (d + 1) s r ht hr (by omega)))
theorem fl_else {ps : List Nt} (hp : ∀ p ∈ ps, Wn p ∧ (17 ≤ p.k ∧ p.k ≤ 25) ∧ Ps L p) {r : List TT} (hr : hasS r [[101, 108, 115, 101]] = false) : hasS (flT (meL ps) ++ r) [[101, 108, 115, 101]] = false := by
  cases ps with
  | nil => exact hr
  | cons p ps =>
    have := hp p (by simp)
    rw [meL_cons, flT, pt_ts, List.append_assoc]
    exact ((fst_S this.1 this.2.1).app _).no (by decide)
theorem blockL_more : ∀ (ps : List Nt) (d : Nat) (s : St) (acc : List Int) (r : List TT), (∀ p ∈ ps, Wn p ∧ (17 ≤ p.k ∧ p.k ≤ 25) ∧ Ps L p) → tt L s.i = flT (meL ps) ++ sg [125] :: r → mx 1 (meL ps) ≤ 20 - d → Gt L (fun q => q.blockL d s acc) (QnL L r s ps acc)
  | [], d, s, acc, r, _, ht, _ => by
    have ht : tt L s.i = sg [125] :: r := ht
    exact Gt.step (Gt.pos (by rw [tt_isM ht]; rfl) (Gt.pure ⟨(tt_hd ht).2.2, [], by simp, NftL.nil s⟩))
  | p :: ps, d, s, acc, r, hp, ht, hd => by
    rw [meL_cons, mx, pt_d] at hd
    have ht : tt L s.i = (me p).1 ++ (flT (meL ps) ++ sg [125] :: r) := by rw [ht, meL_cons, flT, pt_ts, List.append_assoc]
    obtain ⟨h1, h2, h3⟩ := hp p (by simp)
    refine Gt.step (Gt.neg (by rw [isM_hasS, ht, ((fst_S h1 h2).app _).no (by decide)]; simp) ?_)
    refine Gt.bind (stmt_of h1 h2 h3 ht (fl_else (fun q hq => hp q (by simp [hq])) rfl) (by omega)) ?_
    rintro s1 x ⟨h4, hn⟩
    refine (blockL_more ps d s1 (acc ++ [x]) r (fun q hq => hp q (by simp [hq])) h4 (by omega)).mono ?_
    rintro s3 l ⟨h5, l', rfl, hy2⟩
    exact ⟨h5, x :: l', by simp, hn.cons hy2⟩
theorem progL_more : ∀ (ps : List Nt) (d : Nat) (s : St) (acc : List Int), (∀ p ∈ ps, Wn p ∧ (17 ≤ p.k ∧ p.k ≤ 25) ∧ Ps L p) → tt L s.i = flT (meL ps) ++ [(6, [])] → mx 1 (meL ps) ≤ 20 - d → Gt L (fun q => q.progL d s acc) (QnL L [(6, [])] s ps acc)
  | [], d, s, acc, _, ht, _ => by
    have ht : tt L s.i = [(6, [])] := ht
    exact Gt.step (Gt.pos (tt_hd ht).1 (Gt.pure ⟨ht, [], by simp, NftL.nil s⟩))
  | p :: ps, d, s, acc, hp, ht, hd => by
    rw [meL_cons, mx, pt_d] at hd
    have ht : tt L s.i = (me p).1 ++ (flT (meL ps) ++ [(6, [])]) := by rw [ht, meL_cons, flT, pt_ts, List.append_assoc]
    obtain ⟨h1, h2, h3⟩ := hp p (by simp)
    refine Gt.step (Gt.neg (((fst_S h1 h2).app _).beg ht).2 ?_)
    refine Gt.bind (stmt_of h1 h2 h3 ht (fl_else (fun q hq => hp q (by simp [hq])) rfl) (by omega)) ?_
    rintro s1 x ⟨h4, hn⟩
    refine (progL_more ps d s1 (acc ++ [x]) (fun q hq => hp q (by simp [hq])) h4 (by omega)).mono ?_
    rintro s3 l ⟨h5, l', rfl, hy2⟩
    exact ⟨h5, x :: l', by simp, hn.cons hy2⟩
theorem cp26 (ps : List Nt) (hp : ∀ p ∈ ps, Wn p ∧ (17 ≤ p.k ∧ p.k ≤ 25) ∧ Ps L p) : Pb L (.nd 26 [] 0 ps) := by
  intro d s r ht hd
  rw [me26] at ht hd
  have ht : tt L s.i = sg [123] :: (flT (meL ps) ++ sg [125] :: r) := by rw [ht]; simp
  refine Gt.step (Gt.bind (Gt.need (Q := fun s' _ => s' = s.nx) ht rfl) ?_)
  rintro _ _ rfl
  refine Gt.bind (blockL_more ps d s.nx [] r hp (tt_hd ht).2.2 hd) ?_
  rintro s2 l ⟨h3, l', e0, hl⟩
  rw [List.nil_append] at e0
  subst e0
  have hl : NftL s ps s2 l := hl
  exact Gt.addN ⟨h3, hl.node _ 26 [] 0 _ rfl⟩

theorem any_words {s : St} {l : List TT} (h : Fb l) (ht : tt L s.i = l) : ∀ m ∈ stmtBegins, ¬isM L s.i [m] = true := by
  intro m hm
  rw [isM_hasS, ht, h.no ?_]
  · simp
  · simp only [stmtBegins, List.mem_cons, List.not_mem_nil, or_false] at hm
    rcases hm with rfl | rfl | rfl | rfl | rfl <;> decide

theorem cp17 (tx : List UInt8) (o : Option Tr) (b : Nt) (ho : Wn (.ty o)) (hb : PE L b) : Ps L (.nd 17 tx 0 [.ty o, b]) := by
  intro d s r ht _ hd
  rw [me17] at ht hd
  simp only at hd
  have ht : tt L s.i = (2, [108, 101, 116]) :: (1, tx) :: (colT (pt (.ty o)) ++ sg [61] :: ((me b).1 ++ sg [59] :: r)) := by rw [ht]; simp
  obtain ⟨a1, a2, a3⟩ := tt_hd ht
  obtain ⟨b1, b2, b3⟩ := tt_hd a3
  refine Gt.step (Gt.pos (by rw [tt_isM ht]; rfl) (Gt.pos b1 ?_))
  refine Gt.bind (typeIf_more ho (s := s.nx.nx) b3 rfl ⟨rfl, rfl⟩ (by omega)) ?_
  rintro s1 x ⟨h1, hx⟩
  have hx : Nft s (.ty o) s1.nx x := hx
  refine Gt.bind (Gt.need (Q := fun s' _ => s' = s1.nx) h1 rfl) ?_
  rintro _ _ rfl
  refine Gt.bind (hb d s1.nx (sg [59] :: r) (tt_hd h1).2.2 rfl (by omega)) ?_
  rintro s2 y ⟨h2, hy⟩
  have hy : Nft s1.nx b s2.nx y := hy
  refine Gt.bind (Gt.need (Q := fun s' _ => s' = s2.nx) h2 rfl) ?_
  rintro _ _ rfl
  rw [b2]
  exact Gt.addN ⟨(tt_hd h2).2.2, (hx.cons hy.l).node _ 17 tx 0 _ rfl⟩
theorem cp21 (a : Nt) (ha : PE L a) : Ps L (.nd 21 [] 0 [a]) := by
  intro d s r ht _ hd
  rw [me21] at ht hd
  have ht : tt L s.i = (2, [112, 114, 105, 110, 116]) :: ((me a).1 ++ sg [59] :: r) := by rw [ht]; simp
  refine Gt.step (Gt.neg (by rw [tt_isM ht]; decide) (Gt.pos (by rw [tt_isM ht]; rfl) ?_))
  refine Gt.bind (ha d s.nx (sg [59] :: r) (tt_hd ht).2.2 rfl hd) ?_
  rintro s2 y ⟨h2, hy⟩
  have hy : Nft s a s2.nx y := hy
  refine Gt.bind (Gt.need (Q := fun s' _ => s' = s2.nx) h2 rfl) ?_
  rintro _ _ rfl
  exact Gt.addN ⟨(tt_hd h2).2.2, hy.l.node _ 21 [] 0 _ rfl⟩
theorem cp24 (a : Nt) (ha : PE L a) : Ps L (.nd 24 [] 0 [a]) := by
  intro d s r ht _ hd
  rw [me24] at ht hd
  have ht : tt L s.i = (2, [114, 101, 116, 117, 114, 110]) :: ((me a).1 ++ sg [59] :: r) := by rw [ht]; simp
  refine Gt.step (Gt.neg (by rw [tt_isM ht]; decide) (Gt.neg (by rw [tt_isM ht]; decide) (Gt.pos (by rw [tt_isM ht]; rfl) ?_)))
  refine Gt.bind (ha d s.nx (sg [59] :: r) (tt_hd ht).2.2 rfl hd) ?_
  rintro s2 y ⟨h2, hy⟩
  have hy : Nft s a s2.nx y := hy
  refine Gt.bind (Gt.need (Q := fun s' _ => s' = s2.nx) h2 rfl) ?_
  rintro _ _ rfl
  exact Gt.addN ⟨(tt_hd h2).2.2, hy.l.node _ 24 [] 0 _ rfl⟩
theorem cp25 (a : Nt) (hw : Wn a) (hk : isE a.k) (ha : PE L a) : Ps L (.nd 25 [] 0 [a]) := by
  intro d s r ht _ hd
  rw [me25] at ht hd
  have ht : tt L s.i = (me a).1 ++ sg [59] :: r := by rw [ht]; simp
  have hn := any_words ((fst_E hw hk).1.app _) ht
  refine Gt.step (Gt.neg (hn _ (by decide)) (Gt.neg (hn _ (by decide)) (Gt.neg (hn _ (by decide)) (Gt.neg (hn _ (by decide)) (Gt.neg (hn _ (by decide)) ?_)))))
  refine Gt.bind (ha d s (sg [59] :: r) ht rfl hd) ?_
  rintro s2 y ⟨h2, hy⟩
  have hy : Nft s a s2.nx y := hy
  refine Gt.neg (by rw [tt_isM h2]; decide) ?_
  refine Gt.bind (Gt.need (Q := fun s' _ => s' = s2.nx) h2 rfl) ?_
  rintro _ _ rfl
  exact Gt.addN ⟨(tt_hd h2).2.2, hy.l.node _ 25 [] 0 _ rfl⟩
theorem cp23 (a b : Nt) (ha : PE L a) (hb : Pb L b) : Ps L (.nd 23 [] 0 [a, b]) := by
  intro d s r ht _ hd
  rw [me23] at ht hd
  simp only at hd
  have ht : tt L s.i = (2, [119, 104, 105, 108, 101]) :: sg [40] :: ((me a).1 ++ sg [41] :: ((me b).1 ++ r)) := by rw [ht]; simp
  obtain ⟨a1, a2, a3⟩ := tt_hd ht
  refine Gt.step (Gt.neg (by rw [tt_isM ht]; decide) (Gt.neg (by rw [tt_isM ht]; decide) (Gt.neg (by rw [tt_isM ht]; decide) (Gt.neg (by rw [tt_isM ht]; decide) (Gt.pos (by rw [tt_isM ht]; rfl) ?_)))))
  refine Gt.bind (Gt.need (Q := fun s' _ => s' = s.nx.nx) (s := s.nx) a3 rfl) ?_
  rintro _ _ rfl
  refine Gt.bind (ha d s.nx.nx _ (tt_hd a3).2.2 rfl (by omega)) ?_
  rintro s1 x ⟨h1, hx⟩
  have hx : Nft s a s1.nx x := hx
  refine Gt.bind (Gt.need (Q := fun s' _ => s' = s1.nx) h1 rfl) ?_
  rintro _ _ rfl
  refine Gt.bind (hb d s1.nx r (tt_hd h1).2.2 (by omega)) ?_
  rintro s2 y ⟨h2, hy⟩
  exact Gt.addN ⟨h2, (hx.cons hy.l).node _ 23 [] 0 _ rfl⟩
theorem cp22 (a b c : Nt) (ha : PE L a) (hb : Pb L b) (hc : c = .ty none ∨ c.k = 26 ∧ Pb L c) : Ps L (.nd 22 [] 0 [a, b, c]) := by
  intro d s r ht hr hd
  rw [me22] at ht hd
  simp only at hd
  have ht : tt L s.i = (2, [105, 102]) :: sg [40] :: ((me a).1 ++ sg [41] :: ((me b).1 ++ ((if c.k = -1 then [] else (2, [101, 108, 115, 101]) :: (me c).1) ++ r))) := by rw [ht]; simp
  obtain ⟨a1, a2, a3⟩ := tt_hd ht
  refine Gt.step (Gt.neg (by rw [tt_isM ht]; decide) (Gt.neg (by rw [tt_isM ht]; decide) (Gt.neg (by rw [tt_isM ht]; decide) (Gt.pos (by rw [tt_isM ht]; rfl) ?_))))
  refine Gt.bind (Gt.need (Q := fun s' _ => s' = s.nx.nx) (s := s.nx) a3 rfl) ?_
  rintro _ _ rfl
  refine Gt.bind (ha d s.nx.nx _ (tt_hd a3).2.2 rfl (by omega)) ?_
  rintro s1 x ⟨h1, hx⟩
  have hx : Nft s a s1.nx x := hx
  refine Gt.bind (Gt.need (Q := fun s' _ => s' = s1.nx) h1 rfl) ?_
  rintro _ _ rfl
  refine Gt.bind (hb d s1.nx _ (tt_hd h1).2.2 (by omega)) ?_
  rintro s2 y ⟨h2, hy⟩
  refine Gt.bind (Q := Qn L r s2 c) ?_ ?_
  · rcases hc with rfl | ⟨hk, hc⟩
    · have h2 : tt L s2.i = r := h2
      exact Gt.neg (by rw [isM_hasS, h2, hr]; simp) (Gt.pure ⟨h2, Nft.none s2⟩)
    · rw [if_neg (by omega)] at h2
      have h2 : tt L s2.i = (2, [101, 108, 115, 101]) :: ((me c).1 ++ r) := h2
      exact Gt.pos (by rw [tt_isM h2]; rfl) (hc d s2.nx r (tt_hd h2).2.2 (by omega))
  · rintro s3 z ⟨h3, hz⟩
    exact Gt.addN ⟨h3, (hx.cons (hy.cons hz.l)).node _ 22 [] 0 _ rfl⟩

theorem set_more {k : Int} {tx : List UInt8} {n : Int} {ps : List Nt} {u : Nt} (hk : k = 5 ∨ k = 8 ∨ k = 9) (hw : Wn (.nd k tx n ps)) (ht0 : PE L (.nd k tx n ps)) (hu : PE L u) {d : Nat} {s : St} {r : List TT}
    (ht : tt L s.i = (me (.nd k tx n ps)).1 ++ sg [61] :: ((me u).1 ++ sg [59] :: r)) (hd1 : (me (.nd k tx n ps)).2 + 1 ≤ 20 - d) (hd2 : (me u).2 + 1 ≤ 20 - d) :
    Gt L (fun q => q.any d s) (fun s' y => ∃ s2 m l v, s' = ⟨s2.i, s2.N ++ [setN m v], s2.T⟩ ∧ y = s2.N.length ∧ tt L s2.i = r ∧ m.fl = mkN k tx n l ∧ l = ixL s.N.length s.T.length ps ∧ NftL s (ps ++ [u]) s2 (l ++ [v])) := by
  have hke : isE (Nt.nd k tx n ps).k := by rcases hk with rfl | rfl | rfl <;> simp [isE, Nt.k]
  have hn := any_words ((fst_E hw hke).1.app _) ht
  refine Gt.step (Gt.neg (hn _ (by decide)) (Gt.neg (hn _ (by decide)) (Gt.neg (hn _ (by decide)) (Gt.neg (hn _ (by decide)) (Gt.neg (hn _ (by decide)) ?_)))))
  refine Gt.bind (ht0 d s _ ht rfl hd1) ?_
  rintro s1 x ⟨h1, hx⟩
  obtain ⟨l, hm, hl⟩ := hx.split (s1.i + 1)
  have hkk : (s1.N.getD x.toNat nd0).kind = k := by
    have := congrArg Nd.kind hm
    rw [mkN_kind] at this
    exact this
  refine Gt.pos (by rw [tt_isM h1]; rfl) (Gt.neg (by rw [hkk]; rcases hk with rfl | rfl | rfl <;> decide) ?_)
  refine Gt.bind (hu d ⟨s1.i + 1, s1.N.take x.toNat, s1.T⟩ (sg [59] :: r) (tt_hd h1).2.2 rfl hd2) ?_
  rintro s2 v ⟨h2, hv⟩
  refine Gt.bind (Gt.need (Q := fun s' _ => s' = s2.nx) h2 rfl) ?_
  rintro _ _ rfl
  exact Gt.addN ⟨s2.nx, _, l, v, rfl, rfl, (tt_hd h2).2.2, hm, hl.2.2, hl.app (Nft.l hv)⟩

theorem cp18 (tx : List UInt8) (u : Nt) (hx : NmOk tx) (hu : PE L u) : Ps L (.nd 18 tx 0 [u]) := by
  intro d s r ht _ hd
  rw [me18] at ht hd
  simp only at hd
  refine (set_more (k := 5) (tx := tx) (n := 0) (ps := []) (.inl rfl) (w5 hx) (cp5 tx hx).pe hu (r := r) (by rw [ht, me5]; simp) (by rw [me5]; simp only; omega) hd).mono ?_
  rintro s' y ⟨s2, m, l, v, rfl, rfl, h1, hm, hll, hc⟩
  have hll : l = [] := hll
  subst hll
  refine ⟨h1, ?_⟩
  obtain ⟨mk, ma, mb, mc, ml, mt, mn, my, mat⟩ := m
  simp [Nd.fl, mkN] at hm
  obtain ⟨rfl, rfl, rfl, rfl, rfl, rfl, rfl, rfl⟩ := hm
  exact hc.node s2.i 18 mt 0 _ rfl
theorem cp19 (tx : List UInt8) (a u : Nt) (hw : Wn (.nd 8 tx 0 [a])) (ha : PE L (.nd 8 tx 0 [a])) (hu : PE L u) : Ps L (.nd 19 tx 0 [a, u]) := by
  intro d s r ht _ hd
  rw [me19] at ht hd
  simp only at hd
  refine (set_more (k := 8) (tx := tx) (n := 0) (ps := [a]) (.inr (.inl rfl)) hw ha hu (r := r) (by rw [ht, me8]; simp) (by rw [me8]; simp only; omega) (by omega)).mono ?_
  rintro s' y ⟨s2, m, l, v, rfl, rfl, h1, hm, hll, hc⟩
  obtain ⟨p', rfl⟩ : ∃ p', l = [p'] := ⟨_, hll⟩
  refine ⟨h1, ?_⟩
  obtain ⟨mk, ma, mb, mc, ml, mt, mn, my, mat⟩ := m
  simp [Nd.fl, mkN] at hm
  obtain ⟨rfl, rfl, rfl, rfl, rfl, rfl, rfl, rfl⟩ := hm
  exact hc.node s2.i 19 mt 0 _ rfl
theorem cp20 (a b u : Nt) (hw : Wn (.nd 9 [] 0 [a, b])) (ha : PE L (.nd 9 [] 0 [a, b])) (hu : PE L u) : Ps L (.nd 20 [] 0 [a, b, u]) := by
  intro d s r ht _ hd
  rw [me20] at ht hd
  simp only at hd
  refine (set_more (k := 9) (tx := []) (n := 0) (ps := [a, b]) (.inr (.inr rfl)) hw ha hu (r := r) (by rw [ht, me9]; simp) (by rw [me9]; simp only; omega) (by omega)).mono ?_
  rintro s' y ⟨s2, m, l, v, rfl, rfl, h1, hm, hll, hc⟩
  obtain ⟨p', p2', rfl⟩ : ∃ p' p2', l = [p', p2'] := ⟨_, _, hll⟩
  refine ⟨h1, ?_⟩
  obtain ⟨mk, ma, mb, mc, ml, mt, mn, my, mat⟩ := m
  simp [Nd.fl, mkN] at hm
  obtain ⟨rfl, rfl, rfl, rfl, rfl, rfl, rfl, rfl⟩ := hm
  exact hc.node s2.i 20 [] 0 _ rfl

structure All (t : Nt) : Prop where
  ex : isE t.k → Px L t
  bl : t.k = 26 → Pb L t
  st : 17 ≤ t.k ∧ t.k ≤ 25 → Ps L t
theorem All.e {t : Nt} (hk : isE t.k) (h : Px L t) : All (L := L) t := ⟨fun _ => h, fun h26 => by have := hk.2; omega, fun h17 => by have := hk.2; omega⟩
theorem All.s {t : Nt} (hk : 17 ≤ t.k ∧ t.k ≤ 25) (h : Ps L t) : All (L := L) t := ⟨fun he => by have := he.2; omega, fun h26 => by omega, fun _ => h⟩
theorem All.b {t : Nt} (hk : t.k = 26) (h : Pb L t) : All (L := L) t := ⟨fun he => by have := he.2; omega, fun _ => h, fun h17 => by omega⟩
theorem All.no {t : Nt} (hk : ¬isE t.k ∧ t.k < 17) : All (L := L) t := ⟨fun he => absurd he hk.1, fun h => by omega, fun h => by omega⟩
theorem szNL_app (xs ys : List Nt) : szNL (xs ++ ys) = szNL xs + szNL ys := by
  induction xs with
  | nil => simp [szNL]
  | cons x xs ih => rw [List.cons_append, szNL, szNL, ih]; omega

/-- What is written is read back. -/
theorem all_back : ∀ (m : Nat) (t : Nt), szN t ≤ m → Wn t → All (L := L) t
  | 0, t, hm, _ => by have := szN_pos t; omega
  | m + 1, t, hm, hw => by
    have ih := all_back m
    have hE : ∀ a, szN a ≤ m → Wn a → isE a.k → Px L a := fun a ha hwa hk => (ih a ha hwa).ex hk
    have hk1 : ∀ {k : Int} {tx : List UInt8} {n : Int} {ps : List Nt}, 1 ≤ k ∧ k ≤ 14 → isE (Nt.nd k tx n ps).k := fun h => h
    cases wn_cases hw with
    | ty0 => exact All.no ⟨by simp [isE, Nt.k], by simp [Nt.k]⟩
    | ty1 t ht => exact All.no ⟨by simp [isE, Nt.k], by simp [Nt.k]⟩
    | n1 n hn => exact All.e (hk1 (by omega)) (cp1 n hn)
    | n2 tx hx => exact All.e (hk1 (by omega)) (cp2 tx hx)
    | n3 n hn => exact All.e (hk1 (by omega)) (cp3 n hn)
    | n4 => exact All.e (hk1 (by omega)) cp4
    | n5 tx hx => exact All.e (hk1 (by omega)) (cp5 tx hx)
    | n6 ps a b hp hn ha ia hb ib =>
      rw [szN, szNL_app, szNL, szNL, szNL] at hm
      obtain ⟨o, rfl⟩ := isT_wn ha ia
      refine All.e (hk1 (by omega)) (cp6 ps o b hw (fun p hp' => ?_) hn ha ?_ ((ih b (by omega) hb).bl ib))
      · have h1 := hp p hp'
        have h2 := wn_cases h1.1
        cases h2 with
        | n16 tx a' hx ha' ia' =>
          obtain ⟨o', rfl⟩ := isT_wn ha' ia'
          exact ⟨tx, o', rfl, ha'⟩
        | _ => have := h1.2; simp [Nt.k] at this
      · have h2 := wn_cases hb
        cases h2 with
        | n26 qs hq => exact ⟨_, rfl⟩
        | _ => simp [Nt.k] at ib
    | n7 a ps ha ia hp =>
      rw [szN, szNL] at hm
      exact All.e (hk1 (by omega)) (cp7 a ps hw (hE a (by omega) ha ia).p5 fun p hp' => ⟨(hp p hp').1, (hp p hp').2, (hE p (by have := szNL_mem hp'; omega) (hp p hp').1 (hp p hp').2).pe⟩)
    | n8 tx a hx ha ia =>
      rw [szN, szNL] at hm
      exact All.e (hk1 (by omega)) (cp8 tx a hw (hE a (by omega) ha ia).p5)
    | n9 a b ha ia hb ib =>
      rw [szN, szNL, szNL] at hm
      exact All.e (hk1 (by omega)) (cp9 a b hw (hE a (by omega) ha ia).p5 (hE b (by omega) hb ib).pe)
    | n10 ps hp hn =>
      rw [szN] at hm
      refine All.e (hk1 (by omega)) (cp10 ps hw hn fun p hp' => ?_)
      have h0 := szNL_mem hp'
      have h1 := hp p hp'
      have h2 := wn_cases h1.1
      cases h2 with
      | n15 tx a' hx ha' ia' =>
        rw [szN, szNL] at h0
        exact ⟨tx, a', rfl, ha', ia', (hE a' (by omega) ha' ia').pe⟩
      | _ => have := h1.2; simp [Nt.k] at this
    | n11 ps hp =>
      rw [szN] at hm
      exact All.e (hk1 (by omega)) (cp11 ps hw fun p hp' => ⟨(hp p hp').1, (hp p hp').2, (hE p (by have := szNL_mem hp'; omega) (hp p hp').1 (hp p hp').2).pe⟩)
    | n12 tx a b hx ha ia hb ib =>
      rw [szN, szNL, szNL] at hm
      exact All.e (hk1 (by omega)) (cp12 tx a b hw hx (hE a (by omega) ha ia) (hE b (by omega) hb ib))
    | n13 tx a hx ha ia =>
      rw [szN, szNL] at hm
      exact All.e (hk1 (by omega)) (cp13 tx a hw hx ha ia (hE a (by omega) ha ia).p4)
    | n14 a t ha ia ht =>
      rw [szN, szNL] at hm
      exact All.e (hk1 (by omega)) (cp14 a t hw ht (hE a (by omega) ha ia).p5)
    | n15 tx a hx ha ia => exact All.no ⟨by simp [isE, Nt.k], by simp [Nt.k]⟩
    | n16 tx a hx ha ia => exact All.no ⟨by simp [isE, Nt.k], by simp [Nt.k]⟩
    | n17 tx a b hx ha ia hb ib =>
      rw [szN, szNL, szNL] at hm
      obtain ⟨o, rfl⟩ := isT_wn ha ia
      exact All.s (by simp [Nt.k]) (cp17 tx o b ha (hE b (by omega) hb ib).pe)
    | n18 tx a hx ha ia =>
      rw [szN, szNL] at hm
      exact All.s (by simp [Nt.k]) (cp18 tx a hx (hE a (by omega) ha ia).pe)
    | n19 tx a b hx ha ia hb ib =>
      rw [szN, szNL, szNL, szNL] at hm
      have hp := szN_pos b
      have hw8 : Wn (.nd 8 tx 0 [a]) := w8 hx ha ia
      exact All.s (by simp [Nt.k]) (cp19 tx a b hw8 (hE _ (by rw [szN, szNL, szNL]; omega) hw8 (hk1 (by omega))).pe (hE b (by omega) hb ib).pe)
    | n20 a b c ha ia hb ib hc ic =>
      rw [szN, szNL, szNL, szNL, szNL] at hm
      have hp := szN_pos c
      have hw9 : Wn (.nd 9 [] 0 [a, b]) := w9 ha ia hb ib
      exact All.s (by simp [Nt.k]) (cp20 a b c hw9 (hE _ (by rw [szN, szNL, szNL, szNL]; omega) hw9 (hk1 (by omega))).pe (hE c (by omega) hc ic).pe)
    | n21 a ha ia =>
      rw [szN, szNL] at hm
      exact All.s (by simp [Nt.k]) (cp21 a (hE a (by omega) ha ia).pe)
    | n22 a b c ha ia hb ib hc ic =>
      rw [szN, szNL, szNL, szNL] at hm
      refine All.s (by simp [Nt.k]) (cp22 a b c (hE a (by omega) ha ia).pe ((ih b (by omega) hb).bl ib) ?_)
      rcases ic with ic | ic
      · exact .inr ⟨ic, (ih c (by omega) hc).bl ic⟩
      · left
        obtain ⟨o, rfl⟩ := isT_wn hc (.inl ic)
        cases o with
        | none => rfl
        | some t => simp [Nt.k] at ic
    | n23 a b ha ia hb ib =>
      rw [szN, szNL, szNL] at hm
      exact All.s (by simp [Nt.k]) (cp23 a b (hE a (by omega) ha ia).pe ((ih b (by omega) hb).bl ib))
    | n24 a ha ia =>
      rw [szN, szNL] at hm
      exact All.s (by simp [Nt.k]) (cp24 a (hE a (by omega) ha ia).pe)
    | n25 a ha ia =>
      rw [szN, szNL] at hm
      exact All.s (by simp [Nt.k]) (cp25 a ha ia (hE a (by omega) ha ia).pe)
    | n26 ps hp =>
      rw [szN] at hm
      exact All.b rfl (cp26 ps fun p hp' => ⟨(hp p hp').1, (hp p hp').2, (ih p (by have := szNL_mem hp'; omega) (hp p hp').1).st (hp p hp').2⟩)

/-- A program that was written is read back. -/
theorem prg_back {ps : List Nt} (hp : ∀ p ∈ ps, Wn p ∧ 17 ≤ p.k ∧ p.k ≤ 25) (ht : tt L 0 = flT (meL ps) ++ [(6, [])]) (hd : mx 1 (meL ps) ≤ 20) :
    ∃ s' x, Ev L (prgS 0 ⟨0, [], []⟩) (.ok s' x) ∧ s'.N.map Nd.fl = emN 0 0 (.nd 26 [] 0 ps) ∧ s'.T = emYL 0 ps := by
  have h : Gt L (prgS 0 ⟨0, [], []⟩) (fun s' x => Nft ⟨0, [], []⟩ (.nd 26 [] 0 ps) s' x) := by
    refine Gt.bind (progL_more ps 0 ⟨0, [], []⟩ [] (fun p hp' => ⟨(hp p hp').1, (hp p hp').2, (all_back _ p (Nat.le_refl _) (hp p hp').1).st (hp p hp').2⟩) ht (by omega)) ?_
    rintro s2 l ⟨h3, l', e0, hl⟩
    rw [List.nil_append] at e0
    subst e0
    exact Gt.addN (hl.node s2.i 26 [] 0 ⟨26, 0, 0, 0, l, [], 0, -1, 0⟩ rfl)
  obtain ⟨s', x, h1, h2⟩ := h
  exact ⟨s', x, h1, by simpa using h2.1, by simpa [emY] using h2.2.1⟩
end
end Go.Proofs.YtjojlcfoiknlhaaGreatDoor.M

namespace Go.Proofs.YtjojlcfoiknlhaaGreatDoor.M

def Bd {α : Type} (Z : Nat) (x : Option (Out α)) : Prop := ∀ s' a, x = some (.ok s' a) → s'.i ≤ Z
theorem Bd.bind {α β : Type} {Z : Nat} {x : Option (Out α)} {k : St → α → Option (Out β)} (h : Bd Z x) (hk : ∀ s a, s.i ≤ Z → Bd Z (k s a)) : Bd Z (obind x k) := by
  intro s' b e
  obtain ⟨s1, a, h1, h2⟩ := obind_ok e
  exact hk s1 a (h _ _ h1) _ _ h2
theorem Bd.ok {α : Type} {Z : Nat} {s : St} {a : α} (h : s.i ≤ Z) : Bd Z (some (.ok s a)) := by
  intro s' b e
  simp only [Option.some.injEq, Out.ok.injEq] at e
  rw [← e.1]; exact h
theorem Bd.flt {α : Type} {Z : Nat} {L : List Tk} {i : Nat} {e : Int} : Bd Z (flt L i e : Option (Out α)) := by
  intro s' b h
  simp [M.flt] at h
theorem Bd.addN {Z : Nat} {s : St} {n : Nd} (h : s.i ≤ Z) : Bd Z (addN s n) := Bd.ok (s := ⟨s.i, s.N ++ [n], s.T⟩) h
theorem Bd.addT {Z : Nat} {s : St} {n : Ty} (h : s.i ≤ Z) : Bd Z (addT s n) := Bd.ok (s := ⟨s.i, s.N, s.T ++ [n]⟩) h
theorem Bd.ite {α : Type} {Z : Nat} {c : Prop} [Decidable c] {x y : Option (Out α)} (h1 : c → Bd Z x) (h2 : ¬c → Bd Z y) : Bd Z (if c then x else y) := by
  by_cases h : c
  · rw [if_pos h]; exact h1 h
  · rw [if_neg h]; exact h2 h
theorem Bd.inside {Z : Nat} {L : List Tk} {b : Bool} {d : Nat} {s : St} {p : Nat → St → Option (Out Int)} (h : ∀ d, Bd Z (p d s)) : Bd Z (inside L b d s p) :=
  Bd.ite (fun _ => Bd.ite (fun _ => Bd.flt) fun _ => h _) fun _ => Bd.flt

/-- What is behind a token that is not the last is a token. -/
def End (L : List Tk) (Z : Nat) : Prop := ∀ i, (tk L i).kind ≠ 6 → i + 1 ≤ Z
theorem End.m {L : List Tk} {Z : Nat} (h : End L Z) {i : Nat} {ms : List (List UInt8)} (hm : isM L i ms = true) : i + 1 ≤ Z := by
  refine h i fun h6 => ?_
  simp [isM, h6] at hm
theorem Bd.need {Z : Nat} {L : List Tk} (hZ : End L Z) {s : St} {m : List UInt8} : Bd Z (need L s m) := Bd.ite (fun hm => Bd.ok (hZ.m hm)) fun _ => Bd.flt

structure BF (Z : Nat) (r : Sp) : Prop where
  typ : ∀ d s, s.i ≤ Z → Bd Z (r.typ d s)
  union : ∀ d s, s.i ≤ Z → Bd Z (r.union d s)
  unionL : ∀ d s l, s.i ≤ Z → Bd Z (r.unionL d s l)
  member : ∀ d s, s.i ≤ Z → Bd Z (r.member d s)
  objL : ∀ d s l, s.i ≤ Z → Bd Z (r.objL d s l)
  fob : ∀ d s, s.i ≤ Z → Bd Z (r.fob d s)
  list : ∀ p e d s nm l, s.i ≤ Z → Bd Z (r.list p e d s nm l)
  expr : ∀ d s, s.i ≤ Z → Bd Z (r.expr d s)
  comp : ∀ d s, s.i ≤ Z → Bd Z (r.comp d s)
  sum : ∀ d s, s.i ≤ Z → Bd Z (r.sum d s)
  prod : ∀ d s, s.i ≤ Z → Bd Z (r.prod d s)
  row : ∀ b d s x, s.i ≤ Z → Bd Z (r.row b d s x)
  oper : ∀ d s, s.i ≤ Z → Bd Z (r.oper d s)
  tail : ∀ d s x, s.i ≤ Z → Bd Z (r.tail d s x)
  simple : ∀ d s, s.i ≤ Z → Bd Z (r.simple d s)
  block : ∀ d s, s.i ≤ Z → Bd Z (r.block d s)
  blockL : ∀ d s l, s.i ≤ Z → Bd Z (r.blockL d s l)
  stmt : ∀ d s, s.i ≤ Z → Bd Z (r.stmt d s)
  any : ∀ d s, s.i ≤ Z → Bd Z (r.any d s)
  progL : ∀ d s l, s.i ≤ Z → Bd Z (r.progL d s l)

section
variable {L : List Tk} {Z : Nat} {r : Sp}
theorem Bd.two {s : St} {x : Int} {p : St → Option (Out Int)} (hm : s.i + 1 ≤ Z) (h : ∀ s, s.i ≤ Z → Bd Z (p s)) : Bd Z (two L s x p) := Bd.bind (h s.nx hm) fun _ _ h1 => Bd.addN h1
theorem Bd.typeIf (hZ : End L Z) (i : BF Z r) {d : Nat} {s : St} (h : s.i ≤ Z) : Bd Z (typeIf L r d s) := Bd.ite (fun hm => i.typ d s.nx (hZ.m hm)) fun _ => Bd.ok h
theorem Bd.newName (hZ : End L Z) {s : St} {nm : List (List UInt8)} : Bd Z (newName L s nm) :=
  Bd.ite (fun hk => Bd.ite (fun _ => Bd.flt) fun _ => Bd.ok (hZ s.i (by omega))) fun _ => Bd.flt
theorem Bd.part (hZ : End L Z) (i : BF Z r) {d : Nat} {s : St} {nm : List (List UInt8)} (h : s.i ≤ Z) : ∀ p, Bd Z (part L r d s nm p)
  | .typ => Bd.bind (i.typ d s h) fun _ _ h => Bd.ok h
  | .expr => Bd.bind (i.expr d s h) fun _ _ h => Bd.ok h
  | .obj => Bd.bind (Bd.newName hZ) fun _ _ _ => Bd.bind (Bd.need hZ) fun _ _ h2 => Bd.bind (i.expr d _ h2) fun _ _ h3 => Bd.bind (Bd.addN h3) fun _ _ h4 => Bd.ok h4
  | .par => Bd.bind (Bd.newName hZ) fun _ _ h1 => Bd.bind (Bd.typeIf hZ i h1) fun _ _ h2 => Bd.bind (Bd.addN h2) fun _ _ h3 => Bd.ok h3

theorem bf_step (hZ : End L Z) (i : BF Z r) : BF Z (step L r) where
  typ d s h := Bd.inside fun d => i.union d s h
  union d s h := Bd.bind (i.member d s h) fun _ _ h1 => Bd.ite (fun _ => Bd.bind (i.unionL d _ _ h1) fun _ _ h2 => Bd.addT h2) fun _ => Bd.ok h1
  unionL d s l h := Bd.ite (fun hm => Bd.bind (i.member d s.nx (hZ.m hm)) fun _ _ h1 => i.unionL d _ _ h1) fun _ => Bd.ok h
  member d s h := Bd.ite (fun hm => i.objL d s.nx [] (hZ.m hm)) fun _ => Bd.ite (fun hm => Bd.bind (i.typ d s.nx (hZ.m hm)) fun _ _ _ => Bd.bind (Bd.need hZ) fun _ _ h2 => Bd.addT h2) fun _ =>
    Bd.ite (fun hm => i.fob d s.nx (hZ.m hm)) fun _ => Bd.ite (fun hk => Bd.addT (s := s.nx) (hZ s.i (by omega))) fun _ => Bd.flt
  objL d s l h := Bd.ite (fun hm => Bd.addT (s := s.nx) (hZ.m hm)) fun _ => Bd.bind (Bd.newName hZ) fun _ _ _ => Bd.bind (Bd.need hZ) fun _ _ h2 => Bd.bind (i.typ d _ h2) fun _ _ _ => Bd.bind (Bd.need hZ) fun _ _ h4 => i.objL d _ _ h4
  fob d s h := Bd.bind (i.list _ _ d s _ _ h) fun s1 l h1 => Bd.ite (fun hm => Bd.bind (i.typ d s1.nx (hZ.m hm)) fun _ _ h2 => Bd.addT h2) fun _ => by
    split
    · exact Bd.ok h1
    · exact Bd.flt
  list p e d s nm l h := Bd.ite (fun hm => Bd.ok (hZ.m hm)) fun _ => Bd.bind (Bd.ite (fun _ => Bd.ok h) fun _ => Bd.need hZ) fun _ _ h1 => Bd.bind (Bd.part hZ i h1 p) fun _ _ h2 => i.list p e d _ _ _ h2
  expr d s h := Bd.inside fun d => i.comp d s h
  comp d s h := Bd.bind (i.sum d s h) fun _ _ h1 => Bd.ite (fun hm => Bd.two (hZ.m hm) fun s h => i.sum d s h) fun _ => Bd.ok h1
  sum d s h := Bd.bind (i.prod d s h) fun _ _ h1 => i.row _ d _ _ h1
  prod d s h := Bd.bind (i.oper d s h) fun _ _ h1 => i.row _ d _ _ h1
  row b d s x h := Bd.ite (fun hm => Bd.bind (Bd.two (hZ.m hm) (by cases b; exact fun s h => i.oper d s h; exact fun s h => i.prod d s h)) fun _ _ h1 => i.row b d _ _ h1) fun _ => Bd.ok h
  oper d s h := Bd.ite (fun hm => Bd.bind (Bd.inside fun d => i.oper d s.nx (hZ.m hm)) fun _ _ h1 => Bd.addN h1) fun _ => Bd.bind (i.simple d s h) fun _ _ h1 => i.tail d _ _ h1
  tail d s x h := Bd.ite (fun hm => Bd.bind (i.list _ _ d s.nx _ _ (hZ.m hm)) fun _ _ h1 => Bd.bind (Bd.addN h1) fun _ _ h2 => i.tail d _ _ h2) fun _ =>
    Bd.ite (fun _ => Bd.ite (fun hk => Bd.bind (Bd.addN (s := s.nx.nx) (hZ (s.i + 1) (by omega))) fun _ _ h2 => i.tail d _ _ h2) fun _ => Bd.flt) fun _ =>
    Bd.ite (fun hm => Bd.bind (i.expr d s.nx (hZ.m hm)) fun _ _ _ => Bd.bind (Bd.need hZ) fun _ _ h2 => Bd.bind (Bd.addN h2) fun _ _ h3 => i.tail d _ _ h3) fun _ =>
    Bd.ite (fun hm => Bd.bind (i.typ d s.nx (hZ.m hm)) fun _ _ h1 => Bd.bind (Bd.addN h1) fun _ _ h2 => i.tail d _ _ h2) fun _ => Bd.ok h
  simple d s h := Bd.ite (fun hk => Bd.addN (s := s.nx) (hZ s.i (by omega))) fun _ => Bd.ite (fun hk => Bd.addN (s := s.nx) (hZ s.i (by omega))) fun _ => Bd.ite (fun hk => Bd.addN (s := s.nx) (hZ s.i (by omega))) fun _ =>
    Bd.ite (fun hm => Bd.addN (s := s.nx) (hZ.m hm)) fun _ => Bd.ite (fun hm => Bd.addN (s := s.nx) (hZ.m hm)) fun _ => Bd.ite (fun hm => Bd.addN (s := s.nx) (hZ.m hm)) fun _ =>
    Bd.ite (fun _ => Bd.bind (Bd.need hZ) fun _ _ h1 => Bd.bind (i.list _ _ d _ _ _ h1) fun _ _ h2 => Bd.bind (Bd.typeIf hZ i h2) fun _ _ h3 => Bd.bind (i.block d _ h3) fun _ _ h4 => Bd.addN h4) fun _ =>
    Bd.ite (fun hm => Bd.bind (i.list _ _ d s.nx _ _ (hZ.m hm)) fun _ _ h1 => Bd.addN h1) fun _ => Bd.ite (fun hm => Bd.bind (i.list _ _ d s.nx _ _ (hZ.m hm)) fun _ _ h1 => Bd.addN h1) fun _ =>
    Bd.bind (Bd.need hZ) fun _ _ h1 => Bd.bind (i.expr d _ h1) fun _ _ _ => Bd.bind (Bd.need hZ) fun _ _ h3 => Bd.ok h3
  block d s h := Bd.bind (Bd.need hZ) fun _ _ h1 => Bd.bind (i.blockL d _ _ h1) fun _ _ h2 => Bd.addN h2
  blockL d s l h := Bd.ite (fun hm => Bd.ok (hZ.m hm)) fun _ => Bd.bind (i.stmt d s h) fun _ _ h1 => i.blockL d _ _ h1
  stmt d s h := Bd.inside fun d => i.any d s h
  any d s h := Bd.ite (fun _ => Bd.ite (fun hk => Bd.bind (Bd.typeIf (s := s.nx.nx) hZ i (hZ (s.i + 1) (by omega))) fun _ _ _ => Bd.bind (Bd.need hZ) fun _ _ h2 => Bd.bind (i.expr d _ h2) fun _ _ _ => Bd.bind (Bd.need hZ) fun _ _ h4 => Bd.addN h4) fun _ => Bd.flt) fun _ =>
    Bd.ite (fun hm => Bd.bind (i.expr d s.nx (hZ.m hm)) fun _ _ _ => Bd.bind (Bd.need hZ) fun _ _ h2 => Bd.addN h2) fun _ =>
    Bd.ite (fun hm => Bd.bind (i.expr d s.nx (hZ.m hm)) fun _ _ _ => Bd.bind (Bd.need hZ) fun _ _ h2 => Bd.addN h2) fun _ =>
    Bd.ite (fun _ => Bd.bind (Bd.need hZ) fun _ _ h1 => Bd.bind (i.expr d _ h1) fun _ _ _ => Bd.bind (Bd.need hZ) fun _ _ h3 => Bd.bind (i.block d _ h3) fun s4 _ h4 => Bd.bind (Bd.ite (fun hm => i.block d s4.nx (hZ.m hm)) fun _ => Bd.ok h4) fun _ _ h5 => Bd.addN h5) fun _ =>
    Bd.ite (fun _ => Bd.bind (Bd.need hZ) fun _ _ h1 => Bd.bind (i.expr d _ h1) fun _ _ _ => Bd.bind (Bd.need hZ) fun _ _ h3 => Bd.bind (i.block d _ h3) fun _ _ h4 => Bd.addN h4) fun _ =>
    Bd.bind (i.expr d s h) fun s1 x h1 => Bd.ite (fun hm => Bd.ite (fun _ => Bd.flt) fun _ => Bd.bind (i.expr d ⟨s1.i + 1, s1.N.take x.toNat, s1.T⟩ (hZ.m hm)) fun _ _ _ => Bd.bind (Bd.need hZ) fun _ _ h3 => Bd.addN h3) fun _ =>
      Bd.bind (Bd.need hZ) fun _ _ h2 => Bd.addN h2
  progL d s l h := Bd.ite (fun _ => Bd.ok h) fun _ => Bd.bind (i.stmt d s h) fun _ _ h1 => i.progL d _ _ h1
end

theorem bf_all {L : List Tk} {Z : Nat} (hZ : End L Z) : ∀ f, BF Z (sp' L f)
  | 0 => by constructor <;> (intros; intro _ _ h; cases h)
  | f + 1 => bf_step hZ (bf_all hZ f)
theorem prg_bd {L : List Tk} {Z : Nat} (hZ : End L Z) {s' : St} {x : Int} (h : Ev L (prgS 0 ⟨0, [], []⟩) (.ok s' x)) : s'.i ≤ Z := by
  obtain ⟨f, hf⟩ := h
  have h := hf f (Nat.le_refl _)
  exact (Bd.bind ((bf_all hZ f).progL 0 ⟨0, [], []⟩ [] (Nat.zero_le _)) fun _ _ h1 => Bd.addN h1) _ _ h
end Go.Proofs.YtjojlcfoiknlhaaGreatDoor.M

namespace Go.Proofs.YtjojlcfoiknlhaaGreatDoor.M

theorem val_bd : ∀ (l : List UInt8) (a B : Int), 0 ≤ a → a < B → (∀ c ∈ l, dig c.toNat = true) → 0 ≤ l.foldl (fun n c => 10 * n + (c.toNat : Int) - 48) a ∧ l.foldl (fun n c => 10 * n + (c.toNat : Int) - 48) a < B * 10 ^ l.length
  | [], a, B, h0, h1, _ => by simpa using ⟨h0, h1⟩
  | c :: r, a, B, h0, h1, hd => by
    have hc := hd c (by simp)
    simp only [dig, Bool.and_eq_true, decide_eq_true_eq] at hc
    have := val_bd r (10 * a + (c.toNat : Int) - 48) (B * 10) (by omega) (by omega) (fun x hx => hd x (by simp [hx]))
    rw [List.foldl_cons, List.length_cons, Int.pow_succ, Int.mul_comm (10 ^ r.length) 10, ← Int.mul_assoc]
    exact this
theorem vaL_scan (l : List UInt8) : VaL (scan l).1 := by
  intro i hk
  obtain ⟨_, h2, h3⟩ := nuL_scan l i hk
  have h := val_bd _ 0 1 (by omega) (by omega) h3
  have hp : ∀ n : Nat, n ≤ 9 → (1 : Int) * 10 ^ n ≤ 1000000000 := by
    intro n hn
    have : n = 0 ∨ n = 1 ∨ n = 2 ∨ n = 3 ∨ n = 4 ∨ n = 5 ∨ n = 6 ∨ n = 7 ∨ n = 8 ∨ n = 9 := by omega
    rcases this with rfl | rfl | rfl | rfl | rfl | rfl | rfl | rfl | rfl | rfl <;> decide
  have := hp _ h2
  unfold value
  omega

theorem first_tx (l : List UInt8) (h : (first l).1 = 4) : (first l).2.1.length ≤ 30 ∧ ∀ c ∈ (first l).2.1, txt c.toNat = true := by
  unfold first at h ⊢
  cases hc : l.head? with
  | none => rw [hc] at h; simp at h
  | some c =>
    rw [hc] at h
    simp only at h ⊢
    cases hd : dig c.toNat with
    | true =>
      rw [hd] at h
      simp only [if_true] at h
      unfold number at h
      split at h <;> simp at h
    | false =>
      rw [hd] at h
      simp only [Bool.false_eq_true, if_false] at h ⊢
      cases hl : let' c.toNat with
      | true =>
        rw [hl] at h
        simp only [if_true] at h
        unfold name at h
        split at h
        · simp at h
        · split at h <;> simp at h
      | false =>
        rw [hl] at h
        simp only [Bool.false_eq_true, if_false] at h ⊢
        by_cases h34 : c.toNat = 34
        · rw [if_pos h34] at h ⊢
          unfold text at h ⊢
          split at h
          · simp at h
          · rename_i hn
            rw [if_neg hn]
            rw [not_or] at hn
            refine ⟨?_, fun x hx => ?_⟩
            · rw [List.length_take]; omega
            · obtain ⟨k, hk, rfl⟩ := List.getElem_of_mem hx
              rw [List.getElem_take]
              rw [List.length_take] at hk
              exact sp_all txt l.tail k (by omega) (by omega)
        · rw [if_neg h34] at h
          unfold sign at h
          split at h <;> simp at h
theorem scanF_tx : ∀ (f : Nat) (l : List UInt8) (a : Nat) (acc : List Tk), (∀ t ∈ acc, t.kind = 4 → t.text.length ≤ 30 ∧ ∀ c ∈ t.text, txt c.toNat = true) → ∀ t ∈ (scanF f l a acc).1, t.kind = 4 → t.text.length ≤ 30 ∧ ∀ c ∈ t.text, txt c.toNat = true
  | 0, l, a, acc, _ => by simp [scanF]
  | f + 1, l, a, acc, h => by
    simp only [scanF]
    split
    · intro t ht hk
      simp only [List.mem_append, List.mem_singleton] at ht
      rcases ht with ht | rfl
      · exact h t ht hk
      · simp at hk
    split
    · simp
    split
    · simp
    refine scanF_tx f l _ _ fun t ht hk => ?_
    simp only [List.mem_append, List.mem_singleton] at ht
    rcases ht with ht | rfl
    · exact h t ht hk
    · exact first_tx _ hk
theorem txL_scan (l : List UInt8) : TxL (scan l).1 := by
  intro i hk
  by_cases hi : i < (scan l).1.length
  · have e : tk (scan l).1 i = (scan l).1[i] := by simp [tk, List.getD, hi]
    rw [e] at hk ⊢
    have hm := List.getElem_mem hi
    revert hk hm
    generalize (scan l).1[i] = t
    intro hk hm
    unfold scan at hm
    split at hm
    · simp at hm
    · exact scanF_tx _ _ _ _ (by simp) t hm hk
  · rw [tk_nil hi] at hk
    simp at hk

theorem scanF_end : ∀ (f : Nat) (l : List UInt8) (a : Nat) (acc : List Tk), acc.length ≤ 1000 → (scanF f l a acc).1 = [] ∨ ∃ b z, (scanF f l a acc).1 = b ++ [⟨6, [], z⟩] ∧ b.length ≤ 1000
  | 0, l, a, acc, _ => .inl rfl
  | f + 1, l, a, acc, h => by
    simp only [scanF]
    split
    · exact .inr ⟨acc, l.length, rfl, h⟩
    split
    · exact .inl rfl
    split
    · exact .inl rfl
    · refine scanF_end f l _ _ ?_
      rw [List.length_append]
      simp only [List.length_cons, List.length_nil]
      omega
theorem end_scan (l : List UInt8) : End (scan l).1 1000 := by
  intro i hk
  have hs : (scan l).1 = [] ∨ ∃ b z, (scan l).1 = b ++ [⟨6, [], z⟩] ∧ b.length ≤ 1000 := by
    unfold scan
    split
    · exact .inl rfl
    · exact scanF_end _ _ _ _ (by simp)
  rcases hs with h | ⟨b, z, h, hb⟩
  · rw [h] at hk
    exact absurd rfl hk
  · rw [h] at hk
    by_cases hi : i < b.length
    · omega
    · exfalso
      refine hk ?_
      by_cases he : i = b.length
      · subst he
        simp [tk]
      · rw [tk_nil (by simp; omega)]

theorem few_kids : ∀ ps : List Nt, (∀ p ∈ ps, 17 ≤ p.k) → ps.length ≤ nNL ps
  | [], _ => Nat.le_refl _
  | .ty o :: r, h => by
    have := h (.ty o) (by simp)
    cases o <;> simp [Nt.k] at this
  | .nd k tx n qs :: r, h => by
    have := few_kids r fun p hp => h p (by simp [hp])
    rw [nNL, nN, List.length_cons]
    omega
theorem nN_mem : ∀ {ps : List Nt} {p : Nt}, p ∈ ps → nN p ≤ nNL ps
  | q :: r, p, h => by
    rw [List.mem_cons] at h
    rw [nNL]
    rcases h with rfl | h
    · omega
    · have := nN_mem h
      omega

/-- What a program is. -/
structure Prgm (N : List Nd) (T : List Ty) (ps : List Nt) : Prop where
  wn : ∀ p ∈ ps, Wn p ∧ 17 ≤ p.k ∧ p.k ≤ 25
  nodes : N.map Nd.fl = emN 0 0 (.nd 26 [] 0 ps)
  types : T = emYL 0 ps
  toks : (flT (meL ps)).length ≤ 1000
  deep : mx 1 (meL ps) ≤ 20
  lenN : N.length ≤ 1200
  lenT : T.length ≤ 300

theorem parse_tree {l : List UInt8} {N : List Nd} {T : List Ty} (h : PRes l (.inr (N, T))) : ∃ ps, Prgm N T ps := by
  obtain ⟨_, s', x, he, h1, h2, rfl, rfl⟩ := h
  obtain ⟨ps, a, b, c, d, e⟩ := prg_sound (nmL_scan l) (vaL_scan l) (txL_scan l) he
  have hz := prg_bd (end_scan l) he
  exact ⟨ps, a, b, c, by omega, e, h1, h2⟩

section
variable {N : List Nd} {T : List Ty} {ps : List Nt}
theorem Prgm.n (h : Prgm N T ps) : N.length = nNL ps + 1 := by
  have := congrArg List.length h.nodes
  rw [List.length_map, emN_len, nN] at this
  exact this
theorem Prgm.t (h : Prgm N T ps) : T.length = nTL ps := by rw [h.types, emYL_len]
theorem Prgm.wl (h : Prgm N T ps) : WnL ps := (wnL_iff ps).2 fun p hp => (h.wn p hp).1
theorem tsOk_nil : TsOk [] := fun i hi => by simp at hi
theorem Prgm.ok (h : Prgm N T ps) : TsOk T := by
  have := ok_emL ps h.wl [] tsOk_nil
  rw [h.types]
  simpa using this
theorem Prgm.ls (h : Prgm N T ps) (i : Nat) (hi : i < T.length) : T[i].list.length ≤ 300 ∧ T[i].fields.length ≤ 300 := by
  have hm : T[i] ∈ emYL 0 ps := by
    have := List.getElem_mem hi
    rw [← h.types]
    exact this
  have h1 := emYL_ls ps 0 _ hm
  have h2 := h.lenT
  rw [h.t] at h2
  omega
theorem Prgm.num (h : Prgm N T ps) (i : Nat) (hi : i < N.length) : 0 ≤ N[i].n ∧ N[i].n ≤ 999999999 := by
  have hm : N[i].fl ∈ emN 0 0 (.nd 26 [] 0 ps) := by
    rw [← h.nodes]
    exact List.mem_map_of_mem (List.getElem_mem hi)
  have := em_n (.nd 26 [] 0 ps) (w26 h.wn) 0 0 _ hm
  exact this
theorem Prgm.main (h : Prgm N T ps) : ∃ hl : N.length - 1 < N.length, AtL N T ps N[N.length - 1].list := by
  have hn := h.n
  have ha := at_em (.nd 26 [] 0 ps) (w26 h.wn) N T [] [] [] [] (by simpa using h.nodes) (by rw [h.types, emY]; simp) tsOk_nil
  rw [At] at ha
  obtain ⟨j, hj, hjl, _, _, _, is, hf, hat⟩ := ha
  have ej : j = N.length - 1 := by
    rw [ixN, nN] at hj
    simp only [List.length_nil] at hj
    omega
  subst ej
  have hf : N[N.length - 1].list = is := hf
  exact ⟨hjl, by rw [hf]; exact hat⟩
theorem Prgm.sz (h : Prgm N T ps) {p : Nt} (hp : p ∈ ps) : szN p ≤ 2401 := by
  have h1 := (sz_two p (gd_wn p (h.wn p hp).1)).1
  have h2 := nN_mem hp
  have h3 := h.n
  have h4 := h.lenN
  omega
theorem Prgm.few (h : Prgm N T ps) : ps.length ≤ 1200 := by
  have h1 := few_kids ps fun p hp => (h.wn p hp).2.1
  have h3 := h.n
  have h4 := h.lenN
  omega
theorem Prgm.len (h : Prgm N T ps) : (lines 0 (prL 0 ps)).length ≤ 1000000000000 := by
  have h1 := szL_two ps (gdL_wn ps h.wl)
  have h2 := cTy_le ps
  have h3 := h.few
  have h4 := h.n
  have h5 := h.lenN
  have h6 := h.lenT
  rw [h.t] at h6
  have h7 := len_prL 4000 16200 (by decide) ps 0 h.wl (by omega)
  have h8 := len_lines 4000 0 (by decide) (prL 0 ps)
  have h9 : 16200 * (szNL ps + nTL ps) ≤ 16200 * 10000 := Nat.mul_le_mul_left _ (by omega)
  omega

/-- What is written is parsed as it was. -/
theorem Prgm.back (h : Prgm N T ps) (hl : (lines 0 (prL 0 ps)).length ≤ 4000) : ∃ N', PRes (lines 0 (prL 0 ps)) (.inr (N', T)) ∧ N'.map Nd.fl = N.map Nd.fl ∧ Prgm N' T ps := by
  have hx : Lex (lines 0 (prL 0 ps)) (flT (meL ps)) := by
    have := lex_lines 0 ps (r := []) (ts := []) (fun p hp => lex_pr _ p (Nat.le_refl _) (h.wn p hp).1) Lex.nil
    simpa using this
  have hok := lex_ok hx hl h.toks
  have ht := lex_scan hx hok
  obtain ⟨s', x, he, hN, hT⟩ := prg_back h.wn ht h.deep
  have hlN : s'.N.length = N.length := by
    have h1 := congrArg List.length hN
    have h2 := congrArg List.length h.nodes
    rw [List.length_map] at h1 h2
    omega
  have hTT : s'.T = T := by rw [hT, h.types]
  refine ⟨s'.N, ⟨hok, s', x, he, by rw [hlN]; exact h.lenN, by rw [hTT]; exact h.lenT, rfl, hTT⟩, by rw [hN, h.nodes], ?_⟩
  exact ⟨h.wn, hN, h.types, h.toks, h.deep, by rw [hlN]; exact h.lenN, h.lenT⟩
end
end Go.Proofs.YtjojlcfoiknlhaaGreatDoor.M

namespace Go.Proofs.YtjojlcfoiknlhaaGreatDoor.M

theorem flds_one {k : Int} {is is' : List Int} {n : Nd} (h : flds k is n) (h' : flds k is' n) : is = is' := by
  have l2 : ∀ {l : List Int}, 2 ≤ l.length → l = l.dropLast.dropLast ++ [l.dropLast.getLastD 0, l.getLastD 0] := by
    intro l hl
    rcases List.eq_nil_or_concat l with rfl | ⟨xs, b, rfl⟩
    · simp at hl
    · rcases List.eq_nil_or_concat xs with rfl | ⟨ys, a, rfl⟩
      · simp at hl
      · have e : ys.concat a ++ [b] = ys ++ [a, b] := by simp
        simp only [List.concat_eq_append] at *
        rw [e] at *
        rw [dl3, dl4, dl5]
  unfold flds at h h'
  by_cases c1 : k = 6
  · rw [if_pos c1] at h h'
    rw [l2 h.2.2.2, l2 h'.2.2.2, ← h.1, ← h.2.1, ← h.2.2.1, ← h'.1, ← h'.2.1, ← h'.2.2.1]
  rw [if_neg c1] at h h'
  by_cases c2 : k = 7
  · rw [if_pos c2] at h h'
    obtain ⟨a1, a2, a3⟩ := h
    obtain ⟨b1, b2, b3⟩ := h'
    cases is with
    | nil => simp at a3
    | cons x xs =>
      cases is' with
      | nil => simp at b3
      | cons y ys =>
        simp only [List.headD_cons, List.tail_cons] at a1 a2 b1 b2
        rw [← a1, ← a2, ← b1, ← b2]
  rw [if_neg c2] at h h'
  by_cases c3 : k = 10 ∨ k = 11 ∨ k = 26
  · rw [if_pos c3] at h h'
    exact h.symm.trans h'
  rw [if_neg c3] at h h'
  by_cases c4 : k = 14
  · rw [if_pos c4] at h h'
    exact h.trans h'.symm
  rw [if_neg c4] at h h'
  by_cases c5 : k = 16
  · rw [if_pos c5] at h h'
    exact h.trans h'.symm
  rw [if_neg c5] at h h'
  by_cases c6 : k = 17
  · rw [if_pos c6] at h h'
    exact h.trans h'.symm
  rw [if_neg c6] at h h'
  by_cases c7 : k = 9 ∨ k = 12 ∨ k = 19 ∨ k = 23
  · rw [if_pos c7] at h h'
    exact h.trans h'.symm
  rw [if_neg c7] at h h'
  by_cases c8 : k = 20 ∨ k = 22
  · rw [if_pos c8] at h h'
    exact h.trans h'.symm
  rw [if_neg c8] at h h'
  by_cases c9 : k = 8 ∨ k = 13 ∨ k = 15 ∨ k = 18 ∨ k = 21 ∨ k = 24 ∨ k = 25
  · rw [if_pos c9] at h h'
    exact h.trans h'.symm
  rw [if_neg c9] at h h'
  exact h.trans h'.symm

/-- Where a type stands there stands none but a type. -/
def Cls : List Int → List Int → Prop
  | x :: r, y :: s => (x = 0 → y ≤ 0) ∧ (y = 0 → x ≤ 0) ∧ Cls r s
  | _, _ => True
theorem cls_pos : ∀ (a b : List Int), (∀ x ∈ a, 1 ≤ x) → (∀ x ∈ b, 1 ≤ x) → Cls a b
  | [], _, _, _ => by simp [Cls]
  | _ :: _, [], _, _ => by simp [Cls]
  | x :: r, y :: s, h1, h2 => by
    have := h1 x (by simp)
    have := h2 y (by simp)
    exact ⟨fun h => by omega, fun h => by omega, cls_pos r s (fun z hz => h1 z (by simp [hz])) (fun z hz => h2 z (by simp [hz]))⟩
theorem cls_app : ∀ (a b c d : List Int), a.length = b.length → Cls a b → Cls c d → Cls (a ++ c) (b ++ d)
  | [], [], _, _, _, _, h => h
  | [], _ :: _, _, _, h, _, _ => by simp at h
  | _ :: _, [], _, _, h, _, _ => by simp at h
  | x :: r, y :: s, c, d, hl, h1, h2 => ⟨h1.1, h1.2.1, cls_app r s c d (by simpa using hl) h1.2.2 h2⟩
theorem shp_cls {k : Int} {a b : List Int} (h : shp k a) (h' : shp k b) (hl : a.length = b.length) : Cls a b := by
  have one : ∀ {x y : Int}, isE x → isE y → Cls [x] [y] := fun h1 h2 => cls_pos _ _ (fun z hz => by simp at hz; subst hz; exact h1.1) (fun z hz => by simp at hz; subst hz; exact h2.1)
  have ty : ∀ {x y : Int}, isT x → isT y → (x = 0 → y ≤ 0) ∧ (y = 0 → x ≤ 0) := fun h1 h2 => ⟨fun _ => by rcases h2 with h | h <;> omega, fun _ => by rcases h1 with h | h <;> omega⟩
  have e1 : ∀ {x y : Int}, isE x → isE y → (x = 0 → y ≤ 0) ∧ (y = 0 → x ≤ 0) := fun h1 h2 => ⟨fun h => by have := h1.1; omega, fun h => by have := h2.1; omega⟩
  unfold shp at h h'
  by_cases c1 : k = 1 ∨ k = 2 ∨ k = 3 ∨ k = 4 ∨ k = 5
  · rw [if_pos c1] at h
    rw [h]; simp [Cls]
  rw [if_neg c1] at h h'
  by_cases c2 : k = 6
  · rw [if_pos c2] at h h'
    obtain ⟨xs, r, rfl, h2, h3⟩ := h
    obtain ⟨ys, r', rfl, h2', h3'⟩ := h'
    refine cls_app _ _ _ _ (by simpa using hl) (cls_pos _ _ (fun z hz => by rw [h2 z hz]; omega) (fun z hz => by rw [h2' z hz]; omega)) ?_
    exact ⟨(ty h3 h3').1, (ty h3 h3').2, fun h => by omega, fun h => by omega, trivial⟩
  rw [if_neg c2] at h h'
  by_cases c3 : k = 7
  · rw [if_pos c3] at h h'
    obtain ⟨x, xs, rfl, h2, h3⟩ := h
    obtain ⟨y, ys, rfl, h2', h3'⟩ := h'
    exact cls_pos _ _ (fun z hz => by rcases List.mem_cons.1 hz with rfl | hz; exact h2.1; exact (h3 z hz).1) (fun z hz => by rcases List.mem_cons.1 hz with rfl | hz; exact h2'.1; exact (h3' z hz).1)
  rw [if_neg c3] at h h'
  by_cases c4 : k = 8 ∨ k = 13 ∨ k = 15 ∨ k = 18 ∨ k = 21 ∨ k = 24 ∨ k = 25
  · rw [if_pos c4] at h h'
    obtain ⟨x, rfl, h2⟩ := h
    obtain ⟨y, rfl, h2'⟩ := h'
    exact one h2 h2'
  rw [if_neg c4] at h h'
  by_cases c5 : k = 9 ∨ k = 12 ∨ k = 19
  · rw [if_pos c5] at h h'
    obtain ⟨x, y, rfl, h2, h3⟩ := h
    obtain ⟨x', y', rfl, h2', h3'⟩ := h'
    exact ⟨(e1 h2 h2').1, (e1 h2 h2').2, one h3 h3'⟩
  rw [if_neg c5] at h h'
  by_cases c6 : k = 10
  · rw [if_pos c6] at h h'
    exact cls_pos _ _ (fun z hz => by rw [h z hz]; omega) (fun z hz => by rw [h' z hz]; omega)
  rw [if_neg c6] at h h'
  by_cases c7 : k = 11
  · rw [if_pos c7] at h h'
    exact cls_pos _ _ (fun z hz => (h z hz).1) (fun z hz => (h' z hz).1)
  rw [if_neg c7] at h h'
  by_cases c8 : k = 14
  · rw [if_pos c8] at h h'
    obtain ⟨x, rfl, h2⟩ := h
    obtain ⟨y, rfl, h2'⟩ := h'
    exact ⟨(e1 h2 h2').1, (e1 h2 h2').2, fun _ => by omega, fun _ => by omega, trivial⟩
  rw [if_neg c8] at h h'
  by_cases c9 : k = 16
  · rw [if_pos c9] at h h'
    obtain ⟨x, rfl, h2⟩ := h
    obtain ⟨y, rfl, h2'⟩ := h'
    exact ⟨(ty h2 h2').1, (ty h2 h2').2, trivial⟩
  rw [if_neg c9] at h h'
  by_cases c10 : k = 17
  · rw [if_pos c10] at h h'
    obtain ⟨x, y, rfl, h2, h3⟩ := h
    obtain ⟨x', y', rfl, h2', h3'⟩ := h'
    exact ⟨(ty h2 h2').1, (ty h2 h2').2, one h3 h3'⟩
  rw [if_neg c10] at h h'
  by_cases c11 : k = 20
  · rw [if_pos c11] at h h'
    obtain ⟨x, y, z, rfl, h2, h3, h4⟩ := h
    obtain ⟨x', y', z', rfl, h2', h3', h4'⟩ := h'
    exact ⟨(e1 h2 h2').1, (e1 h2 h2').2, (e1 h3 h3').1, (e1 h3 h3').2, one h4 h4'⟩
  rw [if_neg c11] at h h'
  by_cases c12 : k = 22
  · rw [if_pos c12] at h h'
    obtain ⟨x, z, rfl, h2, h3⟩ := h
    obtain ⟨x', z', rfl, h2', h3'⟩ := h'
    exact ⟨(e1 h2 h2').1, (e1 h2 h2').2, fun _ => by omega, fun _ => by omega, fun _ => by omega, fun _ => by omega, trivial⟩
  rw [if_neg c12] at h h'
  by_cases c13 : k = 23
  · rw [if_pos c13] at h h'
    obtain ⟨x, rfl, h2⟩ := h
    obtain ⟨y, rfl, h2'⟩ := h'
    exact ⟨(e1 h2 h2').1, (e1 h2 h2').2, fun _ => by omega, fun _ => by omega, trivial⟩
  rw [if_neg c13] at h h'
  by_cases c14 : k = 26
  · rw [if_pos c14] at h h'
    exact cls_pos _ _ (fun z hz => by have := h z hz; omega) (fun z hz => by have := h' z hz; omega)
  rw [if_neg c14] at h
  exact h.elim

section
variable {N : List Nd} {T : List Ty}
mutual
theorem at_one : ∀ (t t' : Nt) (i : Int), Gd t → Gd t' → (t.k = 0 → t'.k ≤ 0) → (t'.k = 0 → t.k ≤ 0) → At N T t i → At N T t' i → t = t'
  | .ty none, t', i, _, hg, _, _, h, h' => by
    rw [At] at h
    subst h
    cases t' with
    | ty o =>
      cases o with
      | none => rfl
      | some t => rw [At] at h'; obtain ⟨j, hj, _⟩ := h'; omega
    | nd k tx n ps => rw [At] at h'; obtain ⟨j, hj, _⟩ := h'; omega
  | .ty (some t), t', i, _, hg, hc, _, h, h' => by
    have hc : t'.k ≤ 0 := hc rfl
    rw [At] at h
    obtain ⟨j, rfl, _, e⟩ := h
    cases t' with
    | ty o =>
      cases o with
      | none => rw [At] at h'; omega
      | some t' =>
        rw [At] at h'
        obtain ⟨j', hj, _, e'⟩ := h'
        have : j' = j := by omega
        subst this
        rw [← e, ← e']
    | nd k tx n ps =>
      rw [Gd] at hg
      exfalso
      have h1 := hg.1
      have hk : k ≤ 0 := hc
      unfold shp at h1
      rw [if_neg (by omega), if_neg (by omega), if_neg (by omega), if_neg (by omega), if_neg (by omega), if_neg (by omega), if_neg (by omega), if_neg (by omega), if_neg (by omega), if_neg (by omega), if_neg (by omega), if_neg (by omega), if_neg (by omega), if_neg (by omega)] at h1
      exact h1
  | .nd k tx n ps, t', i, hg0, hg, hc0, hc, h, h' => by
    rw [Gd] at hg0
    rw [At] at h
    obtain ⟨j, rfl, hj, e1, e2, e3, is, hf, hl⟩ := h
    cases t' with
    | ty o =>
      cases o with
      | none => rw [At] at h'; omega
      | some t' =>
        have hk : k ≤ 0 := hc rfl
        exfalso
        have h1 := hg0.1
        unfold shp at h1
        rw [if_neg (by omega), if_neg (by omega), if_neg (by omega), if_neg (by omega), if_neg (by omega), if_neg (by omega), if_neg (by omega), if_neg (by omega), if_neg (by omega), if_neg (by omega), if_neg (by omega), if_neg (by omega), if_neg (by omega), if_neg (by omega)] at h1
        exact h1
    | nd k' tx' n' ps' =>
      rw [Gd] at hg
      rw [At] at h'
      obtain ⟨j', hj', hjl', e1', e2', e3', is', hf', hl'⟩ := h'
      have : j' = j := by omega
      subst this
      obtain rfl : k = k' := by rw [← e1, ← e1']
      obtain rfl : tx = tx' := by rw [← e2, ← e2']
      obtain rfl : n = n' := by rw [← e3, ← e3']
      obtain rfl := flds_one hf hf'
      have hlen : (ps.map Nt.k).length = (ps'.map Nt.k).length := by rw [List.length_map, List.length_map, ← atL_len hl, ← atL_len hl']
      rw [atL_one ps ps' is hg0.2 hg.2 (shp_cls hg0.1 hg.1 hlen) hl hl']
theorem atL_one : ∀ (ps ps' : List Nt) (is : List Int), GdL ps → GdL ps' → Cls (ps.map Nt.k) (ps'.map Nt.k) → AtL N T ps is → AtL N T ps' is → ps = ps'
  | [], ps', is, _, _, _, h, h' => by
    rw [AtL] at h
    subst h
    cases ps' with
    | nil => rfl
    | cons p r => rw [AtL] at h'; obtain ⟨i, js, e, _⟩ := h'; cases e
  | p :: r, ps', is, hg, hg', hc, h, h' => by
    rw [AtL] at h
    obtain ⟨i, js, rfl, ha, hr⟩ := h
    cases ps' with
    | nil => rw [AtL] at h'; cases h'
    | cons p' r' =>
      rw [AtL] at h'
      obtain ⟨i', js', e, ha', hr'⟩ := h'
      simp only [List.cons.injEq] at e
      obtain ⟨rfl, rfl⟩ := e
      have hc : (p.k = 0 → p'.k ≤ 0) ∧ (p'.k = 0 → p.k ≤ 0) ∧ Cls (r.map Nt.k) (r'.map Nt.k) := hc
      rw [at_one p p' i hg.1 hg'.1 hc.1 hc.2.1 ha ha', atL_one r r' js hg.2 hg'.2 hc.2.2 hr hr']
end

mutual
theorem at_fl {N' : List Nd} (h : N'.map Nd.fl = N.map Nd.fl) : ∀ (t : Nt) (i : Int), At N T t i → At N' T t i
  | .ty none, i, ha => by rw [At] at ha ⊢; exact ha
  | .ty (some t), i, ha => by rw [At] at ha ⊢; exact ha
  | .nd k tx n ps, i, ha => by
    rw [At] at ha ⊢
    obtain ⟨j, rfl, hj, e1, e2, e3, is, hf, hl⟩ := ha
    have hlen : N'.length = N.length := by have := congrArg List.length h; simpa using this
    have hj' : j < N'.length := by omega
    have e : N'[j].fl = N[j].fl := by
      have h1 : (N'.map Nd.fl)[j]'(by simpa using hj') = N'[j].fl := by simp
      have h2 : (N.map Nd.fl)[j]'(by simpa using hj) = N[j].fl := by simp
      rw [← h1, ← h2]
      simp only [h]
    refine ⟨j, rfl, hj', (congrArg Nd.kind e).trans e1, (congrArg Nd.text e).trans e2, (congrArg Nd.n e).trans e3, is, ?_, atL_fl h ps is hl⟩
    rw [← flds_fl, e, flds_fl]
    exact hf
theorem atL_fl {N' : List Nd} (h : N'.map Nd.fl = N.map Nd.fl) : ∀ (ps : List Nt) (is : List Int), AtL N T ps is → AtL N' T ps is
  | [], is, ha => by rw [AtL] at ha ⊢; exact ha
  | p :: r, is, ha => by
    rw [AtL] at ha ⊢
    obtain ⟨i, js, rfl, h1, h2⟩ := ha
    exact ⟨i, js, rfl, at_fl h p i h1, atL_fl h r js h2⟩
end

/-- Two lists of statements that lie at the same numbers are one. -/
theorem stm_one {ps ps' : List Nt} {is : List Int} (h1 : ∀ p ∈ ps, Gd p ∧ 17 ≤ p.k ∧ p.k ≤ 25) (h2 : ∀ p ∈ ps', Gd p ∧ 17 ≤ p.k ∧ p.k ≤ 25) (ha : AtL N T ps is) (hb : AtL N T ps' is) : ps = ps' := by
  have gd : ∀ qs : List Nt, (∀ p ∈ qs, Gd p) → GdL qs := by
    intro qs
    induction qs with
    | nil => intro _; trivial
    | cons q r ih => intro h; exact ⟨h q (by simp), ih fun p hp => h p (by simp [hp])⟩
  refine atL_one ps ps' is (gd ps fun p hp => (h1 p hp).1) (gd ps' fun p hp => (h2 p hp).1) (cls_pos _ _ (fun x hx => ?_) (fun x hx => ?_)) ha hb
  · obtain ⟨p, hp, rfl⟩ := List.mem_map.1 hx
    have := h1 p hp
    omega
  · obtain ⟨p, hp, rfl⟩ := List.mem_map.1 hx
    have := h2 p hp
    omega
end
end Go.Proofs.YtjojlcfoiknlhaaGreatDoor.M

namespace Go.Proofs.YtjojlcfoiknlhaaGreatDoor.M

theorem tres_one {l : List UInt8} {T : List Ty} {o : (Int × Int) ⊕ List Ty} (h : TRes l (.inr T)) (k : TRes l o) : o = .inr T := by
  obtain ⟨h1, s', x, he, h6, h3, h4, rfl⟩ := h
  rcases o with ⟨er, p⟩ | T'
  · exfalso
    obtain ⟨k0, k⟩ := k
    rcases k with ⟨k1, _⟩ | ⟨_, k⟩
    · exact k0 (k1.symm.trans h1)
    · rcases k with k | ⟨s2, x2, k, k2⟩
      · cases he.one k
      · have := he.one k
        simp only [Out.ok.injEq] at this
        obtain ⟨rfl, _⟩ := this
        rw [if_pos h6] at k2
        omega
  · obtain ⟨_, s2, x2, k, _, _, _, rfl⟩ := k
    have := he.one k
    simp only [Out.ok.injEq] at this
    obtain ⟨rfl, _⟩ := this
    rfl

theorem prs_at {l : List UInt8} {ps : List Nt} (hs : (scan l).2.1 = 0) (ht : tt (scan l).1 0 = flT (meL ps) ++ [(6, [])]) (hp : ∀ p ∈ ps, Wn p ∧ 17 ≤ p.k ∧ p.k ≤ 25) (hd : mx 1 (meL ps) ≤ 20) (hf : (flT (meL ps)).length ≤ 1000) (hn : nNL ps + 1 ≤ 1200) (hy : nTL ps ≤ 300) :
    ∃ N T, PRes l (.inr (N, T)) ∧ Prgm N T ps := by
  obtain ⟨s', x, he, hN, hT⟩ := prg_back hp ht hd
  have hlN : s'.N.length = nNL ps + 1 := by
    have h1 := congrArg List.length hN
    rw [List.length_map, emN_len, nN] at h1
    exact h1
  have hlT : s'.T.length = nTL ps := by rw [hT, emYL_len]
  exact ⟨s'.N, s'.T, ⟨hs, s', x, he, by omega, by omega, rfl, rfl⟩, hp, hN, hT, hf, hd, by omega, by omega⟩

theorem itoa_one (n : Nat) (h : n < 10) : Lib.itoa (n : Int) = [UInt8.ofNat (48 + n)] := by
  rw [itoa_pos (by omega), show (n : Int).toNat = n by omega, Lib.decDigits, dif_pos h]

def xN : List UInt8 := [120]
theorem xN_ok : NmOk xN := ⟨by decide, by decide, by decide, by decide, fun c hc => by simp [xN] at hc; subst hc; decide⟩

/-- 'let x = 1; x = x + 2;' -/
def bt1 : List Nt := [.nd 17 xN 0 [.ty none, .nd 1 [] 1 []], .nd 18 xN 0 [.nd 12 [43] 0 [.nd 5 xN 0 [], .nd 1 [] 2 []]]]
theorem bt1_ok : ∀ p ∈ bt1, Wn p ∧ 17 ≤ p.k ∧ p.k ≤ 25 := by
  intro p hp
  simp only [bt1, List.mem_cons, List.not_mem_nil, or_false] at hp
  rcases hp with rfl | rfl
  · exact ⟨w17 xN_ok trivial (.inl rfl) (w1 (by omega)) (by simp [isE, Nt.k]), by simp [Nt.k]⟩
  · exact ⟨w18 xN_ok (w12 (by decide) (w5 xN_ok) (by simp [isE, Nt.k]) (w1 (by omega)) (by simp [isE, Nt.k])) (by simp [isE, Nt.k]), by simp [Nt.k]⟩
theorem bt1_tk : flT (meL bt1) = [(2, [108, 101, 116]), (1, [120]), sg [61], (3, [49]), sg [59], (1, [120]), sg [61], (1, [120]), sg [43], (3, [50]), sg [59]] := by
  have e : flT (meL bt1) = [(2, [108, 101, 116]), (1, [120]), sg [61], (3, Lib.itoa ((1 : Nat) : Int)), sg [59], (1, [120]), sg [61], (1, [120]), sg [43], (3, Lib.itoa ((2 : Nat) : Int)), sg [59]] := rfl
  rw [e, itoa_one 1 (by decide), itoa_one 2 (by decide)]
  rfl
theorem bt1_at : ∃ N T, PRes [108, 101, 116, 32, 120, 32, 61, 32, 49, 59, 32, 120, 32, 61, 32, 120, 32, 43, 32, 50, 59] (.inr (N, T)) ∧ Prgm N T bt1 := by
  refine prs_at (by decide +kernel) ?_ bt1_ok (by decide) (by rw [bt1_tk]; decide) (by decide) (by decide)
  rw [bt1_tk]
  decide +kernel

/-- 'let x=(1+2)*3;' -/
def bt2 : List Nt := [.nd 17 xN 0 [.ty none, .nd 12 [42] 0 [.nd 12 [43] 0 [.nd 1 [] 1 [], .nd 1 [] 2 []], .nd 1 [] 3 []]]]
theorem bt2_ok : ∀ p ∈ bt2, Wn p ∧ 17 ≤ p.k ∧ p.k ≤ 25 := by
  intro p hp
  simp only [bt2, List.mem_cons, List.not_mem_nil, or_false] at hp
  subst hp
  exact ⟨w17 xN_ok trivial (.inl rfl) (w12 (by decide) (w12 (by decide) (w1 (by omega)) (by simp [isE, Nt.k]) (w1 (by omega)) (by simp [isE, Nt.k])) (by simp [isE, Nt.k]) (w1 (by omega)) (by simp [isE, Nt.k])) (by simp [isE, Nt.k]), by simp [Nt.k]⟩
theorem bt2_tk : flT (meL bt2) = [(2, [108, 101, 116]), (1, [120]), sg [61], sg [40], (3, [49]), sg [43], (3, [50]), sg [41], sg [42], (3, [51]), sg [59]] := by
  have e : flT (meL bt2) = [(2, [108, 101, 116]), (1, [120]), sg [61], sg [40], (3, Lib.itoa ((1 : Nat) : Int)), sg [43], (3, Lib.itoa ((2 : Nat) : Int)), sg [41], sg [42], (3, Lib.itoa ((3 : Nat) : Int)), sg [59]] := rfl
  rw [e, itoa_one 1 (by decide), itoa_one 2 (by decide), itoa_one 3 (by decide)]
  rfl
theorem bt2_at : ∃ N T, PRes [108, 101, 116, 32, 120, 61, 40, 49, 43, 50, 41, 42, 51, 59] (.inr (N, T)) ∧ Prgm N T bt2 := by
  refine prs_at (by decide +kernel) ?_ bt2_ok (by decide) (by rw [bt2_tk]; decide) (by decide) (by decide)
  rw [bt2_tk]
  decide +kernel
theorem bt2_txt : lines 0 (prL 0 bt2) = [108, 101, 116, 32, 120, 32, 61, 32, 40, 49, 32, 43, 32, 50, 41, 32, 42, 32, 51, 59] ++ [10] := by
  have e : lines 0 (prL 0 bt2) = (mg 0 ++ (([108, 101, 116, 32] ++ xN) ++ colon ⟨5, -1, []⟩ ++ [32, 61, 32] ++ (wi 3 ⟨2, 12, wi 2 ⟨5, 1, Lib.itoa ((1 : Nat) : Int)⟩ ++ ([32] ++ [43] ++ [32]) ++ wi 3 ⟨5, 1, Lib.itoa ((2 : Nat) : Int)⟩⟩ ++ ([32] ++ [42] ++ [32]) ++ wi 4 ⟨5, 1, Lib.itoa ((3 : Nat) : Int)⟩) ++ [59]) ++ [10]) ++ [] := rfl
  rw [e, itoa_one 1 (by decide), itoa_one 2 (by decide), itoa_one 3 (by decide)]
  rfl

/-- 'num | text' -/
def bty : Tr := .nd 10 [] [.nd 1 [] [], .nd 3 [] []]
theorem bty_ok : Wf bty := Wf.uni _ (by decide) fun x hx => by
  simp only [List.mem_cons, List.not_mem_nil, or_false] at hx
  rcases hx with rfl | rfl
  · exact Wf.plain 1 (by decide) (by decide)
  · exact Wf.plain 3 (by decide) (by decide)
def btT : List Ty := [⟨1, [], [], 0⟩, ⟨3, [], [], 0⟩, ⟨10, [], [0, 1], 0⟩]
theorem btT_ok : TsOk btT ∧ tr btT 2 = bty := by
  have := em_ok bty bty_ok [] tsOk_nil
  exact this
theorem bty1_at : TRes [110, 117, 109, 32, 124, 32, 116, 101, 120, 116] (.inr btT) := by
  obtain ⟨s', x, he, h1, hy⟩ := (dt_all (L := (scan [110, 117, 109, 32, 124, 32, 116, 101, 120, 116]).1) bty bty_ok).1 0 ⟨0, [], []⟩ [(6, [])] (by decide +kernel) ⟨rfl, rfl⟩ (by decide)
  have hT : s'.T = btT := hy.2.1
  exact ⟨by decide +kernel, s', x, he, (tt_hd h1).1, by rw [hy.1]; decide, by rw [hT]; decide, hT.symm⟩
theorem bty2_at : TRes [40, 110, 117, 109, 41, 124, 116, 101, 120, 116] (.inr btT) := by
  have hd : ∀ s : St, tt (scan [40, 110, 117, 109, 41, 124, 116, 101, 120, 116]).1 s.i = sg [40] :: (tks (.nd 1 [] []) ++ sg [41] :: (sg [124] :: (tks (.nd 3 [] []) ++ [(6, [])]))) → Gt (scan [40, 110, 117, 109, 41, 124, 116, 101, 120, 116]).1 (fun q => q.typ 0 s) (Qt (scan [40, 110, 117, 109, 41, 124, 116, 101, 120, 116]).1 [(6, [])] s bty) := by
    intro s hs
    have w1 : Wf (.nd 1 [] []) := Wf.plain 1 (by decide) (by decide)
    have w3 : Wf (.nd 3 [] []) := Wf.plain 3 (by decide) (by decide)
    refine Gt.step (Gt.inside (p := fun q => q.union) (by rw [tt_isM hs]; rfl) (by decide) (Gt.step ?_))
    refine Gt.bind (dm_brackets (.nd 1 [] []) (dt_all _ w1).1 w1 hs rfl (by decide)) ?_
    rintro s1 x ⟨h1, y1⟩
    refine Gt.pos (by rw [tt_isM h1]; rfl) ?_
    refine Gt.bind (unionL_more [.nd 3 [] []] 1 s1 [x] [(6, [])] ⟨rfl, rfl⟩ (fun t ht => by simp at ht; subst ht; exact ⟨w3, (dt_all _ w3).1, (dt_all _ w3).2⟩) h1 (by decide)) ?_
    rintro s2 l ⟨h3, l', rfl, y2⟩
    exact Gt.addT ⟨h3, (y1.cons' y2).row 10 [] (by decide) _ rfl⟩
  obtain ⟨s', x, he, h1, hy⟩ := hd ⟨0, [], []⟩ (by decide +kernel)
  have hT : s'.T = btT := hy.2.1
  exact ⟨by decide +kernel, s', x, he, (tt_hd h1).1, by rw [hy.1]; decide, by rw [hT]; decide, hT.symm⟩
end Go.Proofs.YtjojlcfoiknlhaaGreatDoor.M

namespace Go.Proofs.YtjojlcfoiknlhaaGreatDoor.M

theorem kids_two : ∀ ps : List Nt, ps.length ≤ nNL ps + cTy ps
  | [] => Nat.le_refl _
  | .ty o :: r => by have := kids_two r; rw [nNL, cTy, nN, List.length_cons]; omega
  | .nd k tx n qs :: r => by have := kids_two r; rw [nNL, cTy, nN, List.length_cons]; omega
theorem mkN_list (k : Int) (tx : List UInt8) (n : Int) (l : List Int) : (mkN k tx n l).list.length ≤ l.length := by
  unfold mkN
  repeat' split
  all_goals (first | exact Nat.zero_le _ | exact Nat.le_refl _ | (simp only [List.length_dropLast]; omega) | (simp only [List.length_tail]; omega))
mutual
theorem em_list : ∀ (t : Nt), Gd t → ∀ b tb, ∀ m ∈ emN b tb t, m.list.length ≤ nN t
  | .ty _, _, b, tb, m, hm => by simp [emN] at hm
  | .nd k tx n ps, h, b, tb, m, hm => by
    rw [Gd] at h
    rw [emN, List.mem_append, List.mem_singleton] at hm
    rw [nN]
    rcases hm with hm | rfl
    · have := emL_list ps h.2 b tb m hm
      omega
    · have h1 := mkN_list k tx n (ixL b tb ps)
      have h2 := ixL_len ps b tb
      have h3 := kids_two ps
      have h4 := shp_few h.1
      omega
theorem emL_list : ∀ (ps : List Nt), GdL ps → ∀ b tb, ∀ m ∈ emNL b tb ps, m.list.length ≤ nNL ps
  | [], _, b, tb, m, hm => by simp [emNL] at hm
  | p :: r, h, b, tb, m, hm => by
    rw [emNL, List.mem_append] at hm
    rw [nNL]
    rcases hm with hm | hm
    · have := em_list p h.1 b tb m hm
      omega
    · have := emL_list r h.2 _ _ m hm
      omega
end
theorem Prgm.nl {N : List Nd} {T : List Ty} {ps : List Nt} (h : Prgm N T ps) (i : Nat) (hi : i < N.length) : N[i].list.length ≤ 1000000 := by
  have hm : N[i].fl ∈ emN 0 0 (.nd 26 [] 0 ps) := by
    rw [← h.nodes]
    exact List.mem_map_of_mem (List.getElem_mem hi)
  have h1 := em_list (.nd 26 [] 0 ps) (gd_wn _ (w26 h.wn)) 0 0 _ hm
  have h2 := h.n
  have h3 := h.lenN
  rw [nN] at h1
  have h4 : N[i].fl.list = N[i].list := rfl
  rw [h4] at h1
  omega
end Go.Proofs.YtjojlcfoiknlhaaGreatDoor.M
