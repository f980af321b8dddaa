/-
  The contract of Union.
-/
import Derived.Test.YtkilicjjaljghaaGreatApt
namespace Go.Proofs.YtkilicjjaljghaaGreat
open Go.RowKit Go.Maps

theorem dd_snoc : ∀ (l acc : List M.Tr) (t : M.Tr), M.dd acc (l ++ [t]) = if (M.dd acc l).any (fun u => M.key u == M.key t) then M.dd acc l else M.dd acc l ++ [t]
  | [], acc, t => by simp [M.dd]
  | u :: r, acc, t => by
    rw [List.cons_append, M.dd, M.dd]
    split <;> exact dd_snoc r _ t
theorem dd_any (l : List M.Tr) (k : List UInt8) : (M.dd [] l).any (fun u => M.key u == k) = decide ((l.map M.key).count k ≠ 0) := by
  rw [Bool.eq_iff_iff, List.any_eq_true, decide_eq_true_iff]
  constructor
  · rintro ⟨u, hu, e⟩
    have : u ∈ l := by
      rcases M.dd_sub _ _ u hu with h | h
      · simp at h
      · exact h
    have hc : k ∈ l.map M.key := List.mem_map.2 ⟨u, this, by simpa using e⟩
    have := List.count_pos_iff.2 hc
    omega
  · intro h
    have hc : k ∈ l.map M.key := List.count_pos_iff.1 (by omega)
    obtain ⟨x, hx, e⟩ := List.mem_map.1 hc
    obtain ⟨u, hu, e2⟩ := M.dd_has l [] x hx
    exact ⟨u, hu, by rw [e2, e]; simp⟩

theorem lawStr : Keyed Tryz.prog 9 := string_keyed Tryz.underlying9
theorem keyOf_str (l : List UInt8) (h : l.length ≤ 1000000) : keyOf Tryz.prog 9 (.string ⟨l.toArray⟩) = some (.string l) := by
  have hs : (⟨l.toArray⟩ : ByteArray).size ≤ maxLen := by simp [ByteArray.size]; unfold maxLen; omega
  unfold keyOf
  simp only [Tryz.underlying9]
  unfold mapKey
  simp [Tryz.underlying9, hs]

/-- How often each text was seen. -/
structure Seen (w : World) (q : Nat) (m : Nat) (ks : List (List UInt8)) : Prop where
  own : ∃ n D, w.ownsMap Tryz.prog 9 (plainElem (H := Unit) Tryz.prog 3) q n D ∧ n ≤ m ∧ IsMap D ∧ ∀ s : List UInt8, D.atKey (.string s) (.lit (.int .i64 0)) = .lit (.int .i64 ((ks.count s : Nat) : Int))

theorem Seen.new (w : World) : Seen (w.alloc (.map #[] 0)) w.heap.size 0 [] := ⟨0, .map [], World.ownsMap_made w _ _ _, Nat.le_refl _, isMap_empty, fun _ => rfl⟩
theorem Seen.chg {S : Nat → Prop} {w w' : World} {q m : Nat} {ks : List (List UInt8)} (h : Seen w q m ks) (hc : Chg S w w') (hn : ¬ S q) : Seen w' q m ks := by
  obtain ⟨n, D, ⟨es, cl, h1, h2⟩, r⟩ := h.own
  exact ⟨n, D, ⟨es, cl, by rw [hc.block q (Array.getElem?_eq_some_iff.1 h1).1 hn]; exact h1, h2⟩, r⟩
theorem Seen.look {w : World} {q m : Nat} {ks : List (List UInt8)} (h : Seen w q m ks) (s : List UInt8) (hs : s.length ≤ 1000000) :
    (Instr.lookup 90 (.map (some q)) (.string ⟨s.toArray⟩) false).run Tryz.prog w = .ok (.int .i64 ((ks.count s : Nat) : Int)) w := by
  obtain ⟨n, D, ho, hn, hm, hat⟩ := h.own
  obtain ⟨c, hrun, h2, _⟩ := ho.lookup_int lawStr Tryz.underlying90 Tryz.underlying3 (Tryz.zeroInt _) (keyOf_str s hs)
  rw [hat s] at h2
  simp only [DataW.lit.injEq, Lit.int.injEq, true_and] at h2
  rw [h2]
  exact hrun
theorem Seen.put {w : World} {q m : Nat} {ks : List (List UInt8)} (h : Seen w q m ks) (s : List UInt8) (hs : s.length ≤ 1000000) (hm : m ≤ 1000000) (hk : ks.length ≤ 200000) :
    ∃ w', (Instr.mapUpdate 90 (.map (some q)) (.string ⟨s.toArray⟩) (.int .i64 (((ks.count s : Nat) : Int) + 1))).run Tryz.prog w = .ok () w' ∧ Seen w' q (m + 1) (ks ++ [s]) ∧ Chg (fun k => k = q) w w' := by
  obtain ⟨n, D, ho, hn, hmap, hat⟩ := h.own
  have hcl : ks.count s ≤ ks.length := List.count_le_length
  have hwf : (Lit.int .i64 (((ks.count s : Nat) : Int) + 1)).wf = true := by
    have := wf_small (ks.count s + 1) (by omega)
    simpa using this
  obtain ⟨w', hrun, ho', hg⟩ := ho.update lawStr Tryz.underlying90 (by unfold maxLen; omega) (keyOf_str s hs) (plainElem_int Tryz.underlying3 hwf)
  refine ⟨w', hrun, ⟨n + 1, _, ho', by omega, hmap.put _ _, fun u => ?_⟩, (Chg.grown hg).mono (fun k _ x => by simpa using x)⟩
  by_cases hu : u = s
  · subst hu
    rw [atKey_put_same hmap (show WideAt.IsKeyLit (.string u) from trivial)]
    simp
  · rw [atKey_put_other (by simpa using hu), hat u, List.count_append]
    have : List.count u [s] = 0 := by simp [List.count_singleton]; exact fun e => hu e.symm
    rw [this]
    simp

/-- What Union answers. -/
def UnP (lb mb N : Nat) (T : List M.Ty) (D : Dt) (ls : List Int) (w : World) (e : Ending) (w' : World) : Prop :=
  ∃ (r : Nat) (X : List M.Ty), e = .returned (.int .i64 (r : Int)) ∧ r < (T ++ X).length ∧ Shp w' lb mb N (T ++ X) D ∧ Few (T ++ X) ∧ M.tr (T ++ X) r = M.unite (ls.map (trx T)) ∧ ∃ v, w.cell? ⟨lb, 0, none⟩ = some v ∧ Chg (AddS lb v) w w'

theorem any_tr {T : List M.Ty} {z : Nat} (hT : M.TsOk T) (hz : z < T.length) (hk : T[z].kind = 5) : M.tr T z = .nd 5 [] [] := by
  rcases hT z hz with ht | ht | ht | ht | ht
  · rw [M.tr_eq hT hz, if_neg (by omega), ht.2.2.1, ht.2.2.2, hk]; rfl
  · omega
  · omega
  · omega
  · omega

section
variable {lb mb N : Nat} {T : List M.Ty} {D : Dt}

set_option maxHeartbeats 4000000 in
set_option maxRecDepth 100000 in
theorem lunion_any (w : World) (h : Shp w lb mb N T D) (hf : Few T) (ls : List Int) (hls : ∀ x ∈ ls, 0 ≤ x ∧ x < (T.length : Int)) (hne : ls ≠ []) (la : Option Addr) (lc : Nat) (hol : w.ownsRow 0 3 1 (.slice la ls.length lc) ls.length (ints ls)) (hn : ls.length ≤ 1001) (hwg : M.wgL (ls.map (trx T)) ≤ 200000) (hN : T.length + 1 ≤ N) :
    Calls Tryz.prog 24 #[.pointer (some ⟨lb, 0, none⟩), .slice la ls.length lc] w (UnP lb mb N T D ls w) := by
  have hT := h.ok
  have hmm := @run_makeMap Tryz.prog
  obtain ⟨i0, hi, hz0, hz1, hz2⟩ := info_parts Tryz.infoInt
  have hmlt := h.mst.lt
  have hc0 : Chg (fun _ => False) w (w.alloc (.map #[] 0)) := Chg.alloc _ _ _
  have HA := hide (apart_con (lb := lb) (mb := mb) (N := N) (D := D) hf T.length ls (w.alloc (.map #[] 0)) la lc (fun x hx => by have := hls x hx; omega) (h.still hc0) (hol.alloc _) (by omega) (by omega))
  have SN := hide (Seen.new w)
  have HS := hide (h.still hc0)
  have HNE : Hid (M.flatL (ls.map (trx T)) ≠ []) := flatL_ne (by simpa using hne) (fun t ht => by
    obtain ⟨x, hx, rfl⟩ := List.mem_map.1 ht
    exact flat_ne _ (M.wf_tr hT x.toNat (by have := hls x hx; omega)))
  obtain ⟨yv, yx, hbk, hyo, -⟩ := h.blk
  have V0 : Hid (w.cell? ⟨lb, 0, none⟩ = some yv) := (show _ = _ from by rw [cell_of_row w lb 0 _ _ _ hbk]; rfl)
  have HC0 := hide hc0
  have hlb := (Array.getElem?_eq_some_iff.1 hbk).1
  clear h hol hbk hyo hc0
  go_enter Tryz.func24, Tryz.ntmps24
  go_wp2_with fail
  refine HA.out.mono ?_
  rintro e w1 ⟨pa, pc, ps, rfl, h1, h2, h3, h4⟩
  have hpl := out_len (ls := ls) (j := ls.length) (by rw [List.take_length]; exact h4)
  simp only [World.size_alloc] at h2
  have S1 := hide (SN.out.chg h1 (fun x => x))
  have HS1 := hide (HS.out.still h1)
  have HC1 := hide (HC0.out.trans h1 (fun _ _ x => x))
  have hsz1 : w.heap.size + 1 ≤ w1.heap.size := by have := h1.size; simpa using this
  have FP : Hid (∀ a, Chg (fun k => k = w.heap.size) w1 a → a.ownsRow 0 3 1 (.slice pa ps.length pc) ps.length (ints ps)) := fun a ha => owns_base (owns_chg h2 ha (fun g hg x => by have := (owns_tag h2 g hg).1; omega)) (Nat.zero_le _)
  have FS : Hid (∀ a, Chg (fun k => k = w.heap.size) w1 a → Shp a lb mb N T D) := by
    intro a ha
    refine HS1.out.chg ha (HS1.out.mst.chg ha (by omega)) (fun k cur e hk _ x => ?_)
    obtain ⟨n, Dm, ⟨es, cl, hh, _⟩, _⟩ := S1.out.own
    have x' : k = w.heap.size := x
    rw [x', hh] at hk
    cases hk
  have FC : Hid (∀ a, Chg (fun k => k = w.heap.size) w1 a → Chg (fun _ => False) w a) := fun a ha => ((HC1.out.mono (S' := fun k => k = w.heap.size) (fun _ _ x => x.elim)).trans ha (fun _ _ x => x)).mono (fun k hk x => by omega)
  have HI := hide h3
  have HP := hide h4
  clear h1 h2 h3 h4 HA SN HS
  go_wp2_with fail
  go_loopw [15, 5] (fun v u wr => ∃ (j : Nat) (acc : List Int) (ad : Option Addr) (ac : Nat), j ≤ ps.length ∧ v = .int .i64 (j : Int) ∧ u = .slice ad acc.length ac ∧ Hid (Chg (fun k => k = w.heap.size) w1 wr) ∧ Hid (wr.ownsRow w1.heap.size 3 1 (.slice ad acc.length ac) acc.length (ints acc)) ∧ Hid (∀ x ∈ acc, 0 ≤ x ∧ x < (T.length : Int)) ∧
      Hid (Seen wr w.heap.size j ((ps.take j).map fun x => M.key (trx T x))) ∧ Hid (acc.map (trx T) = M.dd [] ((ps.take j).map (trx T))) ∧ Hid (∀ x ∈ ps.take j, (trx T x).k ≠ 5)) (fun v _ _ => ps.length - (intOf v).toNat)
  case atStart => exact ⟨0, [], none, 0, Nat.zero_le _, rfl, rfl, Chg.refl _ _, World.ownsRow_nil _ _ _ _, (show ∀ x ∈ ([] : List Int), _ from by simp), S1.out, (show _ = _ from rfl), (show ∀ x ∈ ps.take 0, _ from by simp)⟩
  case round =>
    obtain ⟨j, acc, ad, ac, hj, rfl, rfl, CR, OR, IR, SR, ER, NR⟩ := hrel
    have hwr : w1.heap.size ≤ wr.heap.size := CR.out.size
    have hal : acc.length ≤ ps.length := by
      have e1 := congrArg List.length ER.out
      have e2 : ∀ (l a : List M.Tr), (M.dd a l).length ≤ a.length + l.length := by
        intro l
        induction l with
        | nil => intro a; simp [M.dd]
        | cons t r ih =>
          intro a
          rw [M.dd]
          split
          · have := ih a; simp; omega
          · have := ih (a ++ [t]); simp at this ⊢; omega
      have e3 := e2 ((ps.take j).map (trx T)) []
      simp at e1 e3
      omega
    by_cases hjl : j < ps.length
    · have hxx := HI.out ps[j] (List.getElem_mem hjl)
      have hmemf : trx T ps[j] ∈ M.flatL (ls.map (trx T)) := by rw [← HP.out]; exact List.mem_map.2 ⟨_, List.getElem_mem hjl, rfl⟩
      have hwx : M.wg (trx T ps[j]) ≤ 200000 := by
        have e1 := M.wgL_mem hmemf
        have e2 := M.wg_flatL (ls.map (trx T)) (fun x _ => M.wg_flat x)
        omega
      have hmemps : ps[j] ∈ ps := List.getElem_mem hjl
      have HTK := hide (List.take_succ_eq_append_getElem hjl)
      obtain ⟨g, hpa, hg, hg1, hg2, y0⟩ := ints_cell (FP.out wr CR.out) hjl
      subst hpa
      unfold maxLen at hg2
      generalize ps[j] = xx at *
      obtain ⟨z, rfl⟩ : ∃ z : Nat, xx = (z : Int) := ⟨xx.toNat, by omega⟩
      have hz : z < T.length := by omega
      have htz : trx T (z : Int) = M.tr T z := by simp [trx]
      rw [htz] at hwx hmemf
      have SHR := hide (FS.out wr CR.out)
      obtain ⟨ad3, c3, c0, -, hlbr, -, hcell⟩ := SHR.out.cell
      obtain ⟨g3, fa, fc, la2, lc2, rfl, hg3, hc1, hc2, x0, -, -, -, -, -⟩ := hcell z hz
      unfold maxLen at hc2
      clear hcell
      have HAN := hide (fun hk => any_tr hT hz hk)
      have HK5 : Hid ((M.tr T z).k = T[z].kind) := (show _ = _ from by rw [M.tr_eq hT hz]; rfl)
      have HKY := hide (key_any wr SHR.out hf z hz (by omega))
      have e1 : wtx true T z = M.key (M.tr T z) := rfl
      have hkl : (M.key (M.tr T z)).length ≤ 1000000 := by
        have := wtx_len (bn := true) (T := T) (i := z)
        rw [e1] at this
        omega
      rw [e1] at HKY
      by_cases hk5 : T[z].kind = 5
      · generalize T[z].kind = k at *
        subst hk5
        have HUN : Hid (M.unite (ls.map (trx T)) = M.tr T z) := by
          show _ = _
          unfold M.unite
          rw [if_pos (List.any_eq_true.2 ⟨M.tr T z, hmemf, by rw [HK5.out]; rfl⟩)]
          exact (HAN.out rfl).symm
        have HCW := hide (FC.out wr CR.out)
        clear CR OR SR HKY
        go_wp2_with fail
        go_ret
        exact ⟨z, [], rfl, by simpa using hz, by rw [List.append_nil]; exact SHR.out, by rw [List.append_nil]; exact hf, by rw [List.append_nil]; exact HUN.out.symm, yv, V0.out, HCW.out.mono fun _ _ x => x.elim⟩
      · have hkb : (T[z].kind == 5) = false := by simp [hk5]
        have hk5' : (M.tr T z).k ≠ 5 := by rw [HK5.out]; exact hk5
        have HKN := hide hk5'
        generalize T[z].kind = k at *
        generalize hKK : M.key (M.tr T z) = kk at *
        have HKK := hide hKK
        clear hKK
        have SRR := hide SR.out
        have CRR := hide CR.out
        have ORR := hide OR.out
        clear SR CR OR hk5'
        go_wp2_with fail
        refine HKY.out.mono ?_
        rintro e w2 ⟨rfl, k2⟩
        have hc2 : Chg (fun k => k = w.heap.size) w1 w2 := CRR.out.trans k2 (fun _ _ x => x.elim)
        have hs2 := SRR.out.chg k2 (fun x => x)
        have hw2 : wr.heap.size ≤ w2.heap.size := k2.size
        have hlk := hs2.look kk hkl
        obtain ⟨w3, hup, hs3, k3⟩ := hs2.put kk hkl (by omega) (by simp; omega)
        have hlk3 := hs3.look kk hkl
        have hcount : ((((ps.take j).map fun x => M.key (trx T x)) ++ [kk]).count kk : Int) = (((ps.take j).map fun x => M.key (trx T x)).count kk : Int) + 1 := by simp
        rw [hcount] at hlk3
        have hcl : ((ps.take j).map fun x => M.key (trx T x)).count kk ≤ 200000 := by
          have := List.count_le_length (a := kk) (l := (ps.take j).map fun x => M.key (trx T x))
          rw [List.length_map, List.length_take] at this
          omega
        have HDD : Hid ((M.dd [] ((ps.take j).map (trx T))).any (fun u => M.key u == kk) = decide (((ps.take j).map fun x => M.key (trx T x)).count kk ≠ 0)) := by
          have := dd_any ((ps.take j).map (trx T)) kk
          rw [List.map_map] at this
          exact this
        have HTKm : Hid ((ps.take (j + 1)).map (fun x => M.key (trx T x)) = ((ps.take j).map fun x => M.key (trx T x)) ++ [kk]) := by
          show _ = _
          rw [HTK.out, List.map_append]
          simp [htz, HKK.out]
        generalize ((ps.take j).map fun x => M.key (trx T x)).count kk = cnt at *
        have HC3 := hide (hc2.trans k3 (fun _ _ x => x))
        have HS3 := hide hs3
        have HK23 := hide (k2.mono (S' := fun k => k = w.heap.size) (fun _ _ x => x.elim) |>.trans k3 (fun _ _ x => x))
        have hw3 : w2.heap.size ≤ w3.heap.size := k3.size
        have HO3 := hide (owns_chg ORR.out HK23.out (fun g hg x => by have := (owns_tag ORR.out g hg).1; omega))
        clear hs2 hs3 k2 k3 hc2 hcount HKY
        have HNR : Hid (∀ x ∈ ps.take (j + 1), (trx T x).k ≠ 5) := by
          intro x hx
          rw [HTK.out] at hx
          rcases List.mem_append.1 hx with hx | hx
          · exact NR.out x hx
          · simp at hx
            subst hx
            rw [htz]
            exact HKN.out
        have HSN : Hid (Seen w3 w.heap.size (j + 1) ((ps.take (j + 1)).map fun x => M.key (trx T x))) := by
          have := HS3.out
          rw [← HTKm.out] at this
          exact this
        have HDN : Hid (M.dd [] ((ps.take (j + 1)).map (trx T)) = if cnt ≠ 0 then M.dd [] ((ps.take j).map (trx T)) else M.dd [] ((ps.take j).map (trx T)) ++ [M.tr T z]) := by
          show _ = _
          rw [HTK.out, List.map_append, List.map_cons, List.map_nil, htz, dd_snoc, HKK.out, HDD.out]
          simp only [decide_eq_true_eq]
        by_cases hc0 : cnt = 0
        · subst hc0
          have e01 : ((0 : Nat) : Int) + 1 = 1 := rfl
          rw [e01] at hup hlk3
          have HO4 := hide (HO3.out.alloc (.cells #[.int .i64 (z : Int)] 3))
          go_wp2_with (at_builtin; refine wpList_append_own _ rfl _ _ 42 rfl w1.heap.size 3 i0 (.int .i64 0) 1 8 Tryz.underlying42 hi hz0 hz1 hz2 rfl (by decide) _ _ _ rfl HO4.out ⟨w3.heap.size, 0, none⟩ 1 1 [.int .i64 (z : Int)] rfl rfl ?c1 ?c2 ?c3 ?c4 ?c5 ?_)
          case c1 =>
            intro i u hu
            match i, hu with
            | 0, hu => simp at hu; subst hu; simp [Addr.add]
          case c2 => intro u hu; simp at hu; subst hu; rfl
          case c3 => simp only [maxLen]; omega
          case c4 => omega
          case c5 => simp; omega
          intro v' w4 hown4 hg4 _
          have e3 : acc.length + 1 = (acc ++ [(z : Int)]).length := by simp
          rw [e3, show ints acc ++ [.int .i64 (z : Int)] = ints (acc ++ [(z : Int)]) from by simp [ints]] at hown4
          obtain ⟨ad4, c4, rfl⟩ := owns_form hown4
          have HOW := hide hown4
          have hca := Chg.alloc (fun k => w1.heap.size ≤ k) w3 (.cells #[.int .i64 (z : Int)] 3)
          have hcb : Chg (fun k => w1.heap.size ≤ k) w3 w4 := hca.trans (Chg.grown hg4) (fun k hk x => (owns_tag HO4.out k x.symm).1)
          have HC4 : Hid (Chg (fun k => k = w.heap.size) w1 w4) := ((HC3.out.mono (S' := fun k => k = w.heap.size ∨ w1.heap.size ≤ k) (fun _ _ x => .inl x)).trans hcb (fun _ _ x => .inr x)).mono (fun k hk x => by
            rcases x with x | x
            · exact x
            · omega)
          have HS4 : Hid (Seen w4 w.heap.size (j + 1) ((ps.take (j + 1)).map fun x => M.key (trx T x))) := HSN.out.chg hcb (by omega)
          clear hown4 hg4 hca hcb
          go_wp2
          go_roundw
          case rel =>
            refine ⟨j + 1, acc ++ [(z : Int)], ad4, c4, by omega, by go_num, rfl, HC4.out, HOW.out, fun x hx => ?_, HS4.out, ?_, HNR.out⟩
            · rcases List.mem_append.1 hx with hx | hx
              · exact IR.out x hx
              · simp at hx; subst hx; omega
            · show _ = _
              rw [HDN.out, if_neg (by simp), List.map_append, ER.out]
              simp [htz]
          case measure => simp [intOf]; omega
        · have hcne : ((cnt : Int) + 1 == 1) = false := by simp; omega
          go_wp2_with fail
          go_roundw
          case rel => exact ⟨j + 1, acc, ad, ac, by omega, by go_num, rfl, HC3.out, HO3.out, IR.out, HSN.out, (show _ = _ from by rw [HDN.out, if_pos hc0, ER.out]), HNR.out⟩
          case measure => simp [intOf]; omega
    · have hje : j = ps.length := by omega
      subst hje
      rw [List.take_length] at ER NR
      have HCW := hide (FC.out wr CR.out)
      have SHR := hide (FS.out wr CR.out)
      have hany : (M.flatL (ls.map (trx T))).any (fun t => t.k == 5) = false := by
        rw [← HP.out, List.any_map, Bool.eq_false_iff]
        intro hx
        obtain ⟨x, hx, e⟩ := List.any_eq_true.1 hx
        exact NR.out x hx (by simpa using e)
      have HUN : Hid (M.unite (ls.map (trx T)) = match acc.map (trx T) with
          | [] => .nd 5 [] []
          | [t] => t
          | t :: u :: r => .nd 10 [] (t :: u :: r)) := by
        show _ = _
        unfold M.unite
        rw [if_neg (by rw [hany]; decide), ← HP.out, ← ER.out]
        rfl
      have hacc : acc ≠ [] := by
        rintro rfl
        have e1 := ER.out
        have hne2 := HNE.out
        rw [← HP.out] at hne2
        obtain ⟨t, r, e2⟩ := List.exists_cons_of_ne_nil hne2
        obtain ⟨u, hu, -⟩ := M.dd_has (ps.map (trx T)) [] t (by rw [e2]; simp)
        rw [← e1] at hu
        simp at hu
      have OR2 := hide OR.out
      clear CR OR SR hany
      have hal2 : acc.length ≤ 100000 := by omega
      match acc, hacc with
      | [x], _ =>
        obtain ⟨g, hga, hg, hg1, hg2, y0⟩ := ints_cell (ls := [x]) (owns_base OR2.out (Nat.zero_le _)) (j := 0) (by simp)
        subst hga
        unfold maxLen at hg2
        have hx := IR.out x (by simp)
        simp only [List.getElem_cons_zero] at y0
        obtain ⟨z, rfl⟩ : ∃ z : Nat, x = (z : Int) := ⟨x.toNat, by omega⟩
        have htz : trx T (z : Int) = M.tr T z := by simp [trx]
        simp only [List.length_cons, List.length_nil, Nat.zero_add] at *
        go_wp2_with fail
        go_ret
        exact ⟨z, [], rfl, by rw [List.append_nil]; omega, by rw [List.append_nil]; exact SHR.out, by rw [List.append_nil]; exact hf, by rw [List.append_nil, HUN.out]; simp [htz], yv, V0.out, HCW.out.mono fun _ _ x => x.elim⟩
      | x :: y :: r, _ =>
        have ht : M.TyOk ⟨10, [], x :: y :: r, 0⟩ T.length := .inr (.inr (.inr (.inr ⟨rfl, rfl, by simp, fun u hu => IR.out u hu⟩)))
        have htv : TyV wr (fun _ => True) ⟨10, [], x :: y :: r, 0⟩ [.int .i64 10, .slice none 0 0, .slice ad (x :: y :: r).length ac, .int .i64 0] := ⟨_, _, rfl, World.ownsRow_nil _ _ _ _, owns_base OR2.out (Nat.zero_le _), fun _ _ => trivial, fun _ _ => trivial⟩
        have HPUT := hide (put_any wr SHR.out ⟨10, [], x :: y :: r, 0⟩ none ad 0 0 (x :: y :: r).length ac htv ht hN)
        have HTR : Hid (M.tr (T ++ [⟨10, [], x :: y :: r, 0⟩]) T.length = M.unite (ls.map (trx T))) := by
          show _ = _
          rw [M.tr_new hT ht, HUN.out]
          simp [trx]
        have HFE : Hid (Few (T ++ [⟨10, [], x :: y :: r, 0⟩])) := by
          intro i hi
          by_cases hil : i < T.length
          · rw [List.getElem_append_left hil]
            exact hf i hil
          · have e : i = T.length := by simp at hi; omega
            subst e
            simp only [List.getElem_concat_length]
            exact ⟨hal2, by simp⟩
        have e0 : ((((x :: y :: r).length : Nat) : Int) == 0) = false := by simp; omega
        have e1 : ((((x :: y :: r).length : Nat) : Int) == 1) = false := by simp; omega
        generalize (x :: y :: r).length = nn at *
        go_wp2_with fail
        refine HPUT.out.mono ?_
        rintro e w5 ⟨rfl, ⟨v5, hv5, hc5⟩, hs5⟩
        have hv6 : v5 = yv := by
          have e6 : wr.cell? ⟨lb, 0, none⟩ = some yv := by rw [World.cell?_of_block (HCW.out.block lb hlb (fun x => x))]; exact V0.out
          rw [hv5] at e6
          exact Option.some.inj e6
        subst hv6
        have HC5 := hide ((HCW.out.mono (S' := AddS lb v5) (fun _ _ x => x.elim)).trans hc5 (fun _ _ x => x))
        have HS5 := hide hs5
        clear hc5 hs5 hv5
        go_wp2
        go_ret
        exact ⟨T.length, [⟨10, [], x :: y :: r, 0⟩], rfl, by simp, HS5.out, HFE.out, HTR.out, v5, V0.out, HC5.out⟩
end
end Go.Proofs.YtkilicjjaljghaaGreat
