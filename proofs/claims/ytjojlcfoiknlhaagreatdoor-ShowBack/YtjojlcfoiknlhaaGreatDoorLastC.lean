/-
  The reference's comparison of two programs that are the same but for places.
  What must be in any case: treeBegun, showBegun return true.
-/
import Derived.Test.YtjojlcfoiknlhaaGreatDoorLastB
import Derived.Test.YtjojlcfoiknlhaaGreatDoorSnd
import Derived.Test.YtjojlcfoiknlhaaGreatDoorLastA
namespace Go.Proofs.YtjojlcfoiknlhaaGreatDoor
open Go.RowKit

set_option maxHeartbeats 4000000 in
set_option maxRecDepth 100000 in
theorem sameProgram_any (w : World) (pa pb ya yb : Option Addr) (ca cb yc yd : Nat) (N N' : List M.Nd) (T : List M.Ty) (nn tn : Nat) (m : Int) (hnn : N.length = nn) (hlen : N'.length = nn) (htn : T.length = tn) (hfl : N'.map M.Nd.fl = N.map M.Nd.fl) (hn : nn ≤ 1200) (ht : tn ≤ 300)
    (hnl : ∀ i (hi : i < N.length), N[i].list.length ≤ 1000000) (hls : ∀ i (hi : i < T.length), T[i].list.length ≤ 300 ∧ T[i].fields.length ≤ 300)
    (n1 : NdOk w (.slice pa nn ca) N) (n2 : NdOk w (.slice pb nn cb) N') (t1 : TyOwn w 0 (.slice ya tn yc) T) (t2 : TyOwn w 0 (.slice yb tn yd) T) :
    Calls Tryz.prog 12 #[.agg #[.slice pa nn ca, .slice ya tn yc, .int .i64 m], .agg #[.slice pb nn cb, .slice yb tn yd, .int .i64 m], .bool false] w fun e w' => e = .returned (.bool true) ∧ Chg (fun _ => False) w w' := by
  subst htn
  have HT := hide (fun (a : World) (ha : Chg (fun _ => False) w a) => sameTypes_any a ya yb yc yd T ht hls (tyown_chg t1 ha) (tyown_chg t2 ha))
  have HN := hide (fun (a : World) (ha : Chg (fun _ => False) w a) => sameNodes_any a pa pb ca cb N N' nn hnn hlen hfl hn hnl (n1.still ha) (n2.still ha))
  have C1 : Hid (Chg (fun _ => False) w ((w.alloc (.cells #[.slice pa nn ca, .slice ya T.length yc, .int .i64 m] 25)).alloc (.cells #[.slice pb nn cb, .slice yb T.length yd, .int .i64 m] 25))) := chg2 (Chg.alloc (fun _ => False) _ _) (Chg.alloc (fun _ => False) _ _)
  have b1 : ((w.alloc (.cells #[.slice pa nn ca, .slice ya T.length yc, .int .i64 m] 25)).alloc (.cells #[.slice pb nn cb, .slice yb T.length yd, .int .i64 m] 25)).heap[w.heap.size]? = some (.cells #[.slice pa nn ca, .slice ya T.length yc, .int .i64 m] 25 (0, 0)) := by
    rw [(Chg.alloc (fun _ => False) (w.alloc (.cells #[.slice pa nn ca, .slice ya T.length yc, .int .i64 m] 25)) (.cells #[.slice pb nn cb, .slice yb T.length yd, .int .i64 m] 25)).block w.heap.size (by simp) (fun x => x)]
    exact heap_alloc_new w _
  have b2 : ((w.alloc (.cells #[.slice pa nn ca, .slice ya T.length yc, .int .i64 m] 25)).alloc (.cells #[.slice pb nn cb, .slice yb T.length yd, .int .i64 m] 25)).heap[w.heap.size + 1]? = some (.cells #[.slice pb nn cb, .slice yb T.length yd, .int .i64 m] 25 (0, 0)) := by
    have := heap_alloc_new (w.alloc (.cells #[.slice pa nn ca, .slice ya T.length yc, .int .i64 m] 25)) (.cells #[.slice pb nn cb, .slice yb T.length yd, .int .i64 m] 25)
    simpa using this
  have PQ : Hid (∀ a, Chg (fun _ => False) ((w.alloc (.cells #[.slice pa nn ca, .slice ya T.length yc, .int .i64 m] 25)).alloc (.cells #[.slice pb nn cb, .slice yb T.length yd, .int .i64 m] 25)) a → a.cell? ⟨w.heap.size, 0, none⟩ = some (.slice pa nn ca) ∧ a.cell? ⟨w.heap.size + 1, 0, none⟩ = some (.slice pb nn cb)) := by
    intro a ha
    refine ⟨cell_still ha ?_, cell_still ha ?_⟩
    · rw [cell_of_row _ _ 0 _ _ _ b1]; rfl
    · rw [cell_of_row _ _ 0 _ _ _ b2]; rfl
  clear b1 b2 n1 n2 t1 t2 hnl hls hfl
  go_enter Tryz.func12, Tryz.ntmps12
  go_wp2_with fail
  refine (HT.out _ C1.out).mono ?_
  rintro e w2 ⟨rfl, hc⟩
  obtain ⟨q1, q2⟩ := PQ.out w2 hc
  have C2 := hide (chg2 C1.out hc)
  clear HT PQ C1 hc
  go_wp2_with fail
  refine (HN.out _ C2.out).mono ?_
  rintro e w3 ⟨rfl, hc3⟩
  have C3 := hide (chg2 C2.out hc3)
  clear HN C2 hc3
  go_wp2
  go_ret
  exact ⟨rfl, C3.out⟩
end Go.Proofs.YtjojlcfoiknlhaaGreatDoor

namespace Go.Proofs.YtjojlcfoiknlhaaGreatDoor
open Go.RowKit

theorem chgB {w w' : World} (h : Below w.heap.size w w') : Chg (fun _ => False) w w' := (Chg.below h).mono fun _ hi x => by omega
theorem ndok_of {w w' : World} {lo : Nat} {v : Value} {N : List M.Nd} (h : NdOwn w lo v N) (hc : Chg (fun _ => False) w w') : NdOk w' v N := by
  obtain ⟨nx, h1, h2⟩ := h
  exact ⟨nx, owns_base (owns_chg h1 hc (fun _ _ x => x)) (Nat.zero_le _), h2.imp (NdV.chg hc (fun _ _ _ x => x.elim) (fun _ _ _ => trivial))⟩

theorem trd_of {N : List M.Nd} {T : List M.Ty} {ps : List M.Nt} (h : M.Prgm N T ps) : Trd N T ps where
  ok := h.ok
  ls i hi := by have := h.ls i hi; omega
  num i hi := by have := h.num i hi; omega
  main := h.main
  gd p hp := by have := h.wn p hp; have h2 := h.sz hp; exact ⟨M.gd_wn p this.1, this.2.1, this.2.2, by omega⟩
  few := by have := h.few; have := h.lenN; omega
  len := h.len
theorem trd_one {N : List M.Nd} {T : List M.Ty} {ps ps' : List M.Nt} (h : Trd N T ps) (k : M.Prgm N T ps') : ps = ps' := by
  obtain ⟨h1, h2⟩ := h.main
  obtain ⟨_, k2⟩ := k.main
  exact M.stm_one (fun p hp => ⟨(h.gd p hp).1, (h.gd p hp).2.1, (h.gd p hp).2.2.1⟩) (fun p hp => ⟨M.gd_wn p (k.wn p hp).1, (k.wn p hp).2⟩) h2 k2
theorem hA_all (l : List UInt8) : ∀ N T, M.PRes l (.inr (N, T)) → ∃ ps, Trd N T ps := fun N T h => by
  obtain ⟨ps, hp⟩ := M.parse_tree h
  exact ⟨ps, trd_of hp⟩

def sB1 : ByteArray := ⟨([108, 101, 116, 32, 120, 32, 61, 32, 49, 59, 32, 120, 32, 61, 32, 120, 32, 43, 32, 50, 59]).toArray⟩
def sB2 : ByteArray := ⟨([110, 117, 109, 32, 124, 32, 116, 101, 120, 116]).toArray⟩
def sB3 : ByteArray := ⟨([108, 101, 116, 32, 120, 61, 40, 49, 43, 50, 41, 42, 51, 59]).toArray⟩
def sB4 : ByteArray := ⟨([40, 110, 117, 109, 41, 124, 116, 101, 120, 116]).toArray⟩

/-- What Parse answers where the answer is known. -/
theorem parse_at (s : ByteArray) (hs : s.size ≤ maxLen) {N : List M.Nd} {T : List M.Ty} (h : M.PRes s.data.toList (.inr (N, T))) (w : World) : Calls Tryz.prog 9 #[.string s] w fun e w' => Below w.heap.size w w' ∧
    ∃ na nc ya yc, e = .returned (.tuple #[.agg #[.slice na N.length nc, .slice ya T.length yc, .int .i64 ((N.length : Int) - 1)], .agg #[.int .i64 0, .int .i64 0]]) ∧ NdOwn w' w.heap.size (.slice na N.length nc) N ∧ TyOwn w' w.heap.size (.slice ya T.length yc) T := by
  refine (parse_any s w hs).mono ?_
  rintro e w' ⟨hb, ⟨er, p, hr, _⟩ | ⟨N', T', na, nc, ya, yc, hr, he, hN, hT⟩⟩
  · exact absurd (M.PRes_part hr h) id
  · have := hr.one h
    simp only [Sum.inr.injEq, Prod.mk.injEq] at this
    obtain ⟨rfl, rfl⟩ := this
    exact ⟨hb, na, nc, ya, yc, he, hN, hT⟩
theorem type_at (s : ByteArray) (hs : s.size ≤ maxLen) {T : List M.Ty} (h : M.TRes s.data.toList (.inr T)) (w : World) : Calls Tryz.prog 13 #[.string s] w fun e w' => Below w.heap.size w w' ∧
    ∃ ad c, e = .returned (.tuple #[.slice ad T.length c, .agg #[.int .i64 0, .int .i64 0]]) ∧ TyOwn w' w.heap.size (.slice ad T.length c) T := by
  refine (type_any s w hs).mono ?_
  rintro e w' ⟨hb, ⟨er, p, hr, _⟩ | ⟨T', ad, c, hr, he, hT⟩⟩
  · have := M.tres_one h hr
    cases this
  · have := M.tres_one h hr
    simp only [Sum.inr.injEq] at this
    subst this
    exact ⟨hb, ad, c, he, hT⟩
/-- What Print answers where the answer is known. -/
theorem print_at (s : ByteArray) (hs : s.size ≤ maxLen) {N : List M.Nd} {T : List M.Ty} {ps : List M.Nt} (h : M.PRes s.data.toList (.inr (N, T))) (hp : M.Prgm N T ps) (hl : (M.lines 0 (M.prL 0 ps)).length ≤ 4000) (w : World) (ht : Tab w w.heap.size) :
    Calls Tryz.prog 16 #[.string s] w fun e w' => Below w.heap.size w w' ∧ e = .returned (.tuple #[.string ⟨(M.lines 0 (M.prL 0 ps)).toArray⟩, .agg #[.int .i64 0, .int .i64 0]]) := by
  refine (print_any s w hs ht (hA_all _)).mono ?_
  rintro e w' ⟨hb, ⟨er, p, hr, _⟩ | ⟨N', T', ps', hr, htr, he⟩⟩
  · exact absurd (M.PRes_part hr h) id
  · have := hr.one h
    simp only [Sum.inr.injEq, Prod.mk.injEq] at this
    obtain ⟨rfl, rfl⟩ := this
    obtain rfl := trd_one htr hp
    rcases he with ⟨h1, _⟩ | ⟨_, he⟩
    · omega
    · exact ⟨hb, he⟩

set_option maxHeartbeats 4000000 in
set_option maxRecDepth 100000 in
theorem treeBegun_any (w : World) : Calls Tryz.prog 11 #[] w fun e w' => e = .returned (.bool true) ∧ Below w.heap.size w w' := by
  obtain ⟨N, T, hr, hp⟩ := M.bt1_at
  have hl7 : N.length = 7 := hp.n
  have hk5 : ∃ h : 5 < N.length, N[5].kind = 18 := by
    refine ⟨by omega, ?_⟩
    have h1 : (N.map M.Nd.fl)[5]'(by simp; omega) = N[5].fl := by simp
    have h2 : N[5].kind = ((N.map M.Nd.fl)[5]'(by simp; omega)).kind := by rw [h1]; rfl
    rw [h2]
    simp only [hp.nodes]
    rfl
  obtain ⟨h5, hk5⟩ := hk5
  have HP := hide (parse_at sB1 (by decide) (N := N) (T := T) hr)
  have HT := hide (type_at sB2 (by decide) M.bty1_at)
  clear hr hp
  go_enter Tryz.func11, Tryz.ntmps11
  go_wp2_with fail
  refine (HP.out _).mono ?_
  rintro e w1 ⟨hb, na, nc, ya, yc, rfl, hN, -⟩
  have hN := ndok_of hN (Chg.refl _ _)
  obtain ⟨g, la, lc, rfl, hg, hc1, hc2, x0, -⟩ := NdOk.cell hN 5 h5
  rw [hk5] at x0
  clear hk5 hN HP
  unfold maxLen at hc2
  generalize N.length = nn at *
  subst hl7
  have hz : w.heap.size ≤ w1.heap.size := hb.size
  have HB := hide hb
  clear hb
  have q0 := cell_old (o := .cells #[.int .i64 0, .int .i64 0] 28) (w := w1.alloc (.cells #[.slice (some ⟨g, 0, none⟩) 7 nc, .slice ya T.length yc, .int .i64 6] 25)) (by simp; omega) (cell_old (o := .cells #[.slice (some ⟨g, 0, none⟩) 7 nc, .slice ya T.length yc, .int .i64 6] 25) hg x0)
  have b1 : ((w1.alloc (.cells #[.slice (some ⟨g, 0, none⟩) 7 nc, .slice ya T.length yc, .int .i64 6] 25)).alloc (.cells #[.int .i64 0, .int .i64 0] 28)).heap[w1.heap.size]? = some (.cells #[.slice (some ⟨g, 0, none⟩) 7 nc, .slice ya T.length yc, .int .i64 6] 25 (0, 0)) := by
    rw [(Chg.alloc (fun _ => False) (w1.alloc (.cells #[.slice (some ⟨g, 0, none⟩) 7 nc, .slice ya T.length yc, .int .i64 6] 25)) (.cells #[.int .i64 0, .int .i64 0] 28)).block w1.heap.size (by simp) (fun x => x)]
    exact heap_alloc_new w1 _
  have b2 : ((w1.alloc (.cells #[.slice (some ⟨g, 0, none⟩) 7 nc, .slice ya T.length yc, .int .i64 6] 25)).alloc (.cells #[.int .i64 0, .int .i64 0] 28)).heap[w1.heap.size + 1]? = some (.cells #[.int .i64 0, .int .i64 0] 28 (0, 0)) := by
    have := heap_alloc_new (w1.alloc (.cells #[.slice (some ⟨g, 0, none⟩) 7 nc, .slice ya T.length yc, .int .i64 6] 25)) (.cells #[.int .i64 0, .int .i64 0] 28)
    simpa using this
  have PQ : Hid (∀ a, Chg (fun _ => False) ((w1.alloc (.cells #[.slice (some ⟨g, 0, none⟩) 7 nc, .slice ya T.length yc, .int .i64 6] 25)).alloc (.cells #[.int .i64 0, .int .i64 0] 28)) a → a.cell? ⟨g, 45, none⟩ = some (.int .i64 18) ∧ a.cell? ⟨w1.heap.size, 0, none⟩ = some (.slice (some ⟨g, 0, none⟩) 7 nc) ∧ a.cell? ⟨w1.heap.size, 2, none⟩ = some (.int .i64 6) ∧ a.cell? ⟨w1.heap.size + 1, 0, none⟩ = some (.int .i64 0)) := by
    intro a ha
    refine ⟨cell_still ha q0, cell_still ha ?_, cell_still ha ?_, cell_still ha ?_⟩
    · rw [cell_of_row _ _ 0 _ _ _ b1]; rfl
    · rw [cell_of_row _ _ 2 _ _ _ b1]; rfl
    · rw [cell_of_row _ _ 0 _ _ _ b2]; rfl
  clear q0 b1 b2 x0
  go_wp2_with fail
  refine (HT.out _).mono ?_
  rintro e w2 ⟨hb2, ad, c, rfl, yx, ho, hr⟩
  obtain ⟨g2, fa, fc, lb, ld, rfl, hg2, hd1, hd2, y0, -⟩ := tys_cell (X := M.btT) (owns_base ho (Nat.zero_le _)) (hr.imp (TyV.chg (Chg.refl (fun _ => False) _) (fun _ _ _ x => x.elim) (fun _ _ _ => trivial))) (show 2 < M.btT.length by decide)
  obtain ⟨z0, z1, z2, z3⟩ := PQ.out w2 (chgB hb2)
  have hz2 := hb2.size
  have HB2 := hide (Chg.toBelow (chg2 (chg2 (Chg.alloc (fun _ => False) _ _) (Chg.alloc (fun _ => False) _ _)) (chgB hb2)) (fun _ _ x => x.elim) hz)
  have HB3 := hide (HB.out.trans HB2.out)
  have y0 : w2.cell? ⟨g2, 2 * 4, none⟩ = some (.int .i64 10) := y0
  have hl3 : M.btT.length = 3 := rfl
  rw [hl3] at *
  unfold maxLen at hd2
  simp only [World.size_alloc] at hz2
  have l1 : w1.heap.size < w2.heap.size := by omega
  have l2 : w1.heap.size + 1 < w2.heap.size := by omega
  have l3 : g < w2.heap.size := by omega
  clear HT HB HB2 PQ hb2 ho hr
  go_wp2
  go_ret
  exact ⟨rfl, HB3.out.alloc (by omega) _⟩

set_option maxHeartbeats 4000000 in
set_option maxRecDepth 100000 in
theorem showBegun_any (w : World) (ht : Tab w w.heap.size) : Calls Tryz.prog 18 #[] w fun e w' => e = .returned (.bool true) ∧ Below w.heap.size w w' := by
  obtain ⟨N, T, hr, hp⟩ := M.bt2_at
  have HP := hide (print_at sB3 (by decide) (N := N) (T := T) hr hp (by rw [M.bt2_txt]; decide))
  have HT := hide (fun w1 => showType_at sB4 w1 (by decide) M.bty2_at)
  rw [M.bt2_txt] at HP
  clear hr hp
  go_enter Tryz.func18, Tryz.ntmps18
  go_wp2_with fail
  refine (HP.out _ ht).mono ?_
  rintro e w1 ⟨hb, rfl⟩
  have hz : w.heap.size ≤ w1.heap.size := hb.size
  have HB := hide hb
  clear hb HP
  have b2 := heap_alloc_new w1 (.cells #[.int .i64 0, .int .i64 0] 28)
  have PQ : Hid (∀ a, Chg (fun _ => False) (w1.alloc (.cells #[.int .i64 0, .int .i64 0] 28)) a → a.cell? ⟨w1.heap.size, 0, none⟩ = some (.int .i64 0)) := by
    intro a ha
    refine cell_still ha ?_
    rw [cell_of_row _ _ 0 _ _ _ b2]; rfl
  clear b2
  go_wp2_with fail
  refine (HT.out _).mono ?_
  rintro e w2 ⟨rfl, hb2⟩
  have z0 := PQ.out w2 (chgB hb2)
  have hz2 := hb2.size
  have HB3 := hide (HB.out.trans (Chg.toBelow (chg2 (Chg.alloc (fun _ => False) _ _) (chgB hb2)) (fun _ _ x => x.elim) hz))
  simp only [World.size_alloc] at hz2
  have l1 : w1.heap.size < w2.heap.size := by omega
  clear HT HB PQ hb2
  go_wp2
  go_ret
  exact ⟨rfl, HB3.out.alloc (by omega) _⟩
end Go.Proofs.YtjojlcfoiknlhaaGreatDoor
