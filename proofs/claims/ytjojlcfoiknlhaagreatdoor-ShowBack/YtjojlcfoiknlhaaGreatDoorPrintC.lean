/-
  The printer: its methods at trees, put together by the trees' size.
  The printer: statement at trees.
  The printer: block at trees; what stands between commas.
  The printer: expression at trees, over function and object.
  The printer: object at trees.
  The printer: function at trees; all of it at every size.
  The printer: the contract of Len; a new printer.
-/
import Derived.Test.YtjojlcfoiknlhaaGreatDoorPli
import Derived.Test.YtjojlcfoiknlhaaGreatDoorPrintB
import Derived.Test.YtjojlcfoiknlhaaGreatDoorPlainC
import Derived.Sort.Grow
import Derived.Test.YtjojlcfoiknlhaaGreatDoorPsi
import Derived.Test.YtjojlcfoiknlhaaGreatDoorWriteB
namespace Go.Proofs.YtjojlcfoiknlhaaGreatDoor
open Go.RowKit

section
variable {B wb : Nat} {tv nv : Value} {N : List M.Nd} {T : List M.Ty} {d : Nat}

/-- block, at trees of at most this size. -/
def PB (B wb : Nat) (tv nv : Value) (N : List M.Nd) (T : List M.Ty) (m : Nat) : Prop :=
  ∀ (t : M.Nt) (i : Int) (d : Nat) (w : World) (bs : List UInt8), M.szN t ≤ m → d + M.szN t ≤ 1000000 → M.Gd t → t.k = 26 → M.At N T t i → Psp w B wb tv nv d N T bs → B ≤ w.heap.size → bs.length + (M.pr d t).length ≤ 100000000000000 →
    Calls Tryz.prog 107 #[.pointer (some ⟨wb, 0, none⟩), .int .i64 i] w (WPost w B wb tv (pk nv d) (bs ++ M.pr d t))

/-- A contract at every later world is one that can be used in a row. -/
theorem lift {w : World} {bs0 : List UInt8} (hp : Psp w B wb tv nv d N T bs0) (hB : B ≤ w.heap.size) {K : Nat} {args : Array Value} {X : List UInt8} (h : ∀ a bs, Wkp B wb w a → Psp a B wb tv nv d N T bs → B ≤ a.heap.size → bs.length + X.length ≤ 100000000000000 → Calls Tryz.prog K args a (WPost a B wb tv (pk nv d) (bs ++ X))) :
    CCs w B wb tv (pk nv d) K args X := by
  intro w1 hc a bs hk hw hl
  have hk0 := (Wkp.still (B := B) (wb := wb) hc).trans hk
  refine (h a bs hk0 (hp.kept hk0 hw) (Nat.le_trans hB hk0.size) hl).mono ?_
  rintro e w' ⟨rfl, h1, h2⟩
  exact ⟨rfl, hk.trans h1, h2⟩

section
variable {w : World} {bs0 : List UInt8} {m : Nat}
theorem l_expr (hE : PE B wb tv nv N T m) (hp : Psp w B wb tv nv d N T bs0) (hB : B ≤ w.heap.size) {t : M.Nt} {i : Int} (hs : M.szN t ≤ m) (hd : d + M.szN t ≤ 1000000) (hg : M.Gd t) (he : M.isE t.k) (ha : M.At N T t i) :
    CCs w B wb tv (pk nv d) 138 #[.pointer (some ⟨wb, 0, none⟩), .int .i64 i] (M.pr d t) :=
  lift hp hB (fun a bs _ hpa hBa hl => hE t i d a bs hs hd hg he ha hpa hBa hl)
theorem l_within (hE : PE B wb tv nv N T m) (hp : Psp w B wb tv nv d N T bs0) (hB : B ≤ w.heap.size) (least : Nat) {t : M.Nt} {i : Int} (hs : M.szN t ≤ m) (hd : d + M.szN t ≤ 1000000) (hg : M.Gd t) (he : M.isE t.k) (ha : M.At N T t i) :
    CCs w B wb tv (pk nv d) 169 #[.pointer (some ⟨wb, 0, none⟩), .int .i64 i, .int .i64 (least : Int)] (M.wi least (pcOf d t)) :=
  lift hp hB (fun _ _ _ hpa hBa hl => within_any hE least hs hd hg he ha hpa hBa hl)
theorem l_block (hK : PB B wb tv nv N T m) (hp : Psp w B wb tv nv d N T bs0) (hB : B ≤ w.heap.size) {t : M.Nt} {i : Int} (hs : M.szN t ≤ m) (hd : d + M.szN t ≤ 1000000) (hg : M.Gd t) (he : t.k = 26) (ha : M.At N T t i) :
    CCs w B wb tv (pk nv d) 107 #[.pointer (some ⟨wb, 0, none⟩), .int .i64 i] (M.pr d t) :=
  lift hp hB (fun a bs _ hpa hBa hl => hK t i d a bs hs hd hg he ha hpa hBa hl)
theorem wtx_pk (d j : Nat) : wtx (pk nv d) T j = M.txt' (M.tr T j) := by simp [wtx, wtr, pk]
theorem l_type (hls : ∀ i (hi : i < T.length), T[i].list.length ≤ 100000 ∧ T[i].fields.length ≤ 1001) (hp : Psp w B wb tv nv d N T bs0) (hB : B ≤ w.heap.size) {t : M.Tr} {j : Nat} (hj : j < T.length) (ht : M.tr T j = t) :
    CCs w B wb tv (pk nv d) 40 #[.pointer (some ⟨wb, 0, none⟩), .int .i64 (j : Int)] (M.txt' t) := by
  subst ht
  refine lift hp hB (fun a bs _ hpa hBa hl => ?_)
  have h := wcon_any (B := B) (wb := wb) (tv := tv) (bn := pk nv d) (T := T) rfl hls (j + 1) j a bs (by omega) hj hpa.sp hBa (by rw [wtx_pk]; exact hl)
  rw [wtx_pk] at h
  exact h
theorem l_tif (hls : ∀ i (hi : i < T.length), T[i].list.length ≤ 100000 ∧ T[i].fields.length ≤ 1001) (hp : Psp w B wb tv nv d N T bs0) (hB : B ≤ w.heap.size) {t : Option M.Tr} {i : Int} (ha : M.At N T (.ty t) i) :
    CCs w B wb tv (pk nv d) 139 #[.pointer (some ⟨wb, 0, none⟩), .int .i64 i] (M.colon (pcOf d (.ty t))) := by
  refine lift hp hB (fun a bs _ hpa hBa hl => ?_)
  cases t with
  | none =>
    rw [M.At] at ha
    subst ha
    exact typeIfAny_no hBa hpa.sp.wrt hl
  | some t =>
    rw [M.At] at ha
    obtain ⟨j, rfl, hj, ht⟩ := ha
    exact typeIfAny_yes hBa hpa.sp.wrt j (M.txt' t) (l_type hls hpa hBa hj ht) hl
end
end
end Go.Proofs.YtjojlcfoiknlhaaGreatDoor

namespace Go.Proofs.YtjojlcfoiknlhaaGreatDoor
open Go.RowKit

section
variable {B wb : Nat} {tv nv : Value} {N : List M.Nd} {T : List M.Ty}

set_option maxHeartbeats 2000000 in
theorem ps_step {m : Nat} (hls : ∀ i (hi : i < T.length), T[i].list.length ≤ 100000 ∧ T[i].fields.length ≤ 1001) (hE : PE B wb tv nv N T m) (hK : PB B wb tv nv N T m) : PS B wb tv nv N T (m + 1) := by
  intro t j d hj la lc w bs hsz hd hg h17 h25 ha hp ol hB hl
  cases t with
  | ty t0 => cases t0 <;> simp [M.Nt.k] at h17
  | nd k tx n ps =>
  simp only [M.Nt.k] at h17 h25
  rw [M.At] at ha
  obtain ⟨j', e0, hj', e1, e2, e3, is, hf, hL⟩ := ha
  have ej : j' = j := by omega
  subst ej
  rw [M.Gd] at hg
  obtain ⟨hsh, hgl⟩ := hg
  rw [M.szN] at hsz hd
  generalize N[j'] = nn at *
  obtain ⟨kd, va, vb, vc, vl, tx', vn, vt, vp⟩ := nn
  simp only at e1 e2 e3 hf ol
  subst e1 e2 e3
  have hk : kd = 17 ∨ kd = 18 ∨ kd = 19 ∨ kd = 20 ∨ kd = 21 ∨ kd = 22 ∨ kd = 23 ∨ kd = 24 ∨ kd = 25 := by omega
  have hgm : ∀ p ∈ ps, M.Gd p ∧ M.szN p ≤ m ∧ d + M.szN p ≤ 1000000 := fun p hm => by
    have h1 := M.szNL_mem hm
    exact ⟨M.gdL_mem hgl hm, by omega, by omega⟩
  clear hgl hsz hd h17 h25
  rcases hk with rfl | rfl | rfl | rfl | rfl | rfl | rfl | rfl | rfl
  · obtain ⟨x, y, hm, h1, h2⟩ : ∃ x y, ps.map M.Nt.k = [x, y] ∧ M.isT x ∧ M.isE y := by simpa [M.shp] using hsh
    obtain ⟨a, b, rfl, rfl, rfl⟩ := M.k2 hm
    obtain rfl : is = [vt, va] := by simpa [M.flds] using hf
    obtain ⟨ha, hb⟩ := M.at2 hL
    obtain ⟨ga, sa, da⟩ := hgm a (by simp)
    obtain ⟨gb, sb, db⟩ := hgm b (by simp)
    obtain ⟨t0, rfl⟩ := M.isT_ty ga h1
    exact stmt_line hB hp.sp.wrt 17 (by decide) (by decide) va vb vc vl tx' vn vt vp la lc _ (lift hp hB (fun a bs hk hpa hBa hla => line_let hBa hpa.sp.wrt va vb vc vl tx' vn vt vp la lc _ _ (l_tif hls hpa hBa ha) (l_expr hE hpa hBa sb db gb h2 hb) hla)) hl
  · obtain ⟨x, hm, h1⟩ : ∃ x, ps.map M.Nt.k = [x] ∧ M.isE x := by simpa [M.shp] using hsh
    obtain ⟨a, rfl, rfl⟩ := M.k1 hm
    obtain rfl : is = [va] := by simpa [M.flds] using hf
    have ha := M.at1 hL
    obtain ⟨ga, sa, da⟩ := hgm a (by simp)
    exact stmt_line hB hp.sp.wrt 18 (by decide) (by decide) va vb vc vl tx' vn vt vp la lc _ (lift hp hB (fun a bs hk hpa hBa hla => line_set hBa hpa.sp.wrt va vb vc vl tx' vn vt vp la lc _ (l_expr hE hpa hBa sa da ga h1 ha) hla)) hl
  · obtain ⟨x, y, hm, h1, h2⟩ : ∃ x y, ps.map M.Nt.k = [x, y] ∧ M.isE x ∧ M.isE y := by simpa [M.shp] using hsh
    obtain ⟨a, b, rfl, rfl, rfl⟩ := M.k2 hm
    obtain rfl : is = [va, vb] := by simpa [M.flds] using hf
    obtain ⟨ha, hb⟩ := M.at2 hL
    obtain ⟨ga, sa, da⟩ := hgm a (by simp)
    obtain ⟨gb, sb, db⟩ := hgm b (by simp)
    exact stmt_line hB hp.sp.wrt 19 (by decide) (by decide) va vb vc vl tx' vn vt vp la lc _ (lift hp hB (fun a bs hk hpa hBa hla => line_put hBa hpa.sp.wrt va vb vc vl tx' vn vt vp la lc _ _ (lift hpa hBa (fun a2 bs2 hk2 hp2 hB2 hl2 => get_any hB2 hp2.sp.wrt va tx' _ (l_within hE hp2 hB2 5 sa da ga h1 ha) hl2)) (l_expr hE hpa hBa sb db gb h2 hb) hla)) hl
  · obtain ⟨x, y, z, hm, h1, h2, h3⟩ : ∃ x y z, ps.map M.Nt.k = [x, y, z] ∧ M.isE x ∧ M.isE y ∧ M.isE z := by simpa [M.shp] using hsh
    obtain ⟨a, b, c, rfl, rfl, rfl, rfl⟩ := M.k3 hm
    obtain rfl : is = [va, vb, vc] := by simpa [M.flds] using hf
    obtain ⟨ha, hb, hc⟩ := M.at3 hL
    obtain ⟨ga, sa, da⟩ := hgm a (by simp)
    obtain ⟨gb, sb, db⟩ := hgm b (by simp)
    obtain ⟨gc, sc, dc⟩ := hgm c (by simp)
    exact stmt_line hB hp.sp.wrt 20 (by decide) (by decide) va vb vc vl tx' vn vt vp la lc _ (lift hp hB (fun a bs hk hpa hBa hla => line_lay hBa hpa.sp.wrt va vb vc vl tx' vn vt vp la lc _ _ (lift hpa hBa (fun a2 bs2 hk2 hp2 hB2 hl2 => at_any' hB2 hp2.sp.wrt va vb _ _ (l_within hE hp2 hB2 5 sa da ga h1 ha) (l_expr hE hp2 hB2 sb db gb h2 hb) hl2)) (l_expr hE hpa hBa sc dc gc h3 hc) hla)) hl
  · obtain ⟨x, hm, h1⟩ : ∃ x, ps.map M.Nt.k = [x] ∧ M.isE x := by simpa [M.shp] using hsh
    obtain ⟨a, rfl, rfl⟩ := M.k1 hm
    obtain rfl : is = [va] := by simpa [M.flds] using hf
    have ha := M.at1 hL
    obtain ⟨ga, sa, da⟩ := hgm a (by simp)
    exact stmt_line hB hp.sp.wrt 21 (by decide) (by decide) va vb vc vl tx' vn vt vp la lc _ (lift hp hB (fun a bs hk hpa hBa hla => line_print hBa hpa.sp.wrt va vb vc vl tx' vn vt vp la lc _ (l_expr hE hpa hBa sa da ga h1 ha) hla)) hl
  · obtain ⟨x, z, hm, h1, h2⟩ : ∃ x z, ps.map M.Nt.k = [x, 26, z] ∧ M.isE x ∧ (z = 26 ∨ z = -1) := by simpa [M.shp] using hsh
    obtain ⟨a, b, c, rfl, rfl, hb26, rfl⟩ := M.k3 hm
    obtain rfl : is = [va, vb, vc] := by simpa [M.flds] using hf
    obtain ⟨ha, hb, hc⟩ := M.at3 hL
    obtain ⟨ga, sa, da⟩ := hgm a (by simp)
    obtain ⟨gb, sb, db⟩ := hgm b (by simp)
    obtain ⟨gc, sc, dc⟩ := hgm c (by simp)
    rcases h2 with h2 | h2
    · have hcc := hc
      cases c with
      | ty t0 => cases t0 <;> simp [M.Nt.k] at h2
      | nd ck ctx cn cps =>
      rw [M.At] at hcc
      obtain ⟨jc, rfl, _⟩ := hcc
      have e : M.pr d (.nd 22 tx' vn [a, b, .nd ck ctx cn cps]) = ((([105, 102] ++ [32, 40]) ++ M.pr d a ++ [41, 32] ++ M.pr d b) ++ [32, 101, 108, 115, 101, 32] ++ M.pr d (.nd ck ctx cn cps)) := by
        simp only [M.Nt.k] at h2
        subst h2
        simp [M.pr, M.prL, M.prS, M.c0, M.c1, M.c2, M.Nt.k]
      rw [e] at hl ⊢
      exact stmt_else hB hp.sp.wrt va vb jc vl tx' vn vt vp la lc _ _ (lift hp hB (fun a bs hk hpa hBa hla => when_any hBa hpa.sp.wrt [105, 102] 22 va vb jc vl tx' vn vt vp la lc _ _ (l_expr hE hpa hBa sa da ga h1 ha) (l_block hK hpa hBa sb db gb hb26 hb) hla)) (l_block hK hp hB sc dc gc h2 hc) hl
    · obtain ⟨t0, rfl⟩ := M.isT_ty gc (.inl h2)
      cases t0 with
      | some t0 => simp [M.Nt.k] at h2
      | none =>
      rw [M.At] at hc
      subst hc
      have e : M.pr d (.nd 22 tx' vn [a, b, .ty none]) = ([105, 102] ++ [32, 40]) ++ M.pr d a ++ [41, 32] ++ M.pr d b := by
        simp [M.pr, M.prL, M.prS, M.c0, M.c1, M.c2, M.Nt.k]
      rw [e] at hl ⊢
      exact stmt_if hB hp.sp.wrt va vb vl tx' vn vt vp la lc _ (lift hp hB (fun a bs hk hpa hBa hla => when_any hBa hpa.sp.wrt [105, 102] 22 va vb (-1) vl tx' vn vt vp la lc _ _ (l_expr hE hpa hBa sa da ga h1 ha) (l_block hK hpa hBa sb db gb hb26 hb) hla)) hl
  · obtain ⟨x, hm, h1⟩ : ∃ x, ps.map M.Nt.k = [x, 26] ∧ M.isE x := by simpa [M.shp] using hsh
    obtain ⟨a, b, rfl, rfl, hb26⟩ := M.k2 hm
    obtain rfl : is = [va, vb] := by simpa [M.flds] using hf
    obtain ⟨ha, hb⟩ := M.at2 hL
    obtain ⟨ga, sa, da⟩ := hgm a (by simp)
    obtain ⟨gb, sb, db⟩ := hgm b (by simp)
    have e : M.pr d (.nd 23 tx' vn [a, b]) = ([119, 104, 105, 108, 101] ++ [32, 40]) ++ M.pr d a ++ [41, 32] ++ M.pr d b := by
      simp [M.pr, M.prL, M.prS, M.c0, M.c1]
    rw [e] at hl ⊢
    exact stmt_while hB hp.sp.wrt va vb vc vl tx' vn vt vp la lc _ (lift hp hB (fun a bs hk hpa hBa hla => when_any hBa hpa.sp.wrt [119, 104, 105, 108, 101] 23 va vb vc vl tx' vn vt vp la lc _ _ (l_expr hE hpa hBa sa da ga h1 ha) (l_block hK hpa hBa sb db gb hb26 hb) hla)) hl
  · obtain ⟨x, hm, h1⟩ : ∃ x, ps.map M.Nt.k = [x] ∧ M.isE x := by simpa [M.shp] using hsh
    obtain ⟨a, rfl, rfl⟩ := M.k1 hm
    obtain rfl : is = [va] := by simpa [M.flds] using hf
    have ha := M.at1 hL
    obtain ⟨ga, sa, da⟩ := hgm a (by simp)
    exact stmt_line hB hp.sp.wrt 24 (by decide) (by decide) va vb vc vl tx' vn vt vp la lc _ (lift hp hB (fun a bs hk hpa hBa hla => line_return hBa hpa.sp.wrt va vb vc vl tx' vn vt vp la lc _ (l_expr hE hpa hBa sa da ga h1 ha) hla)) hl
  · obtain ⟨x, hm, h1⟩ : ∃ x, ps.map M.Nt.k = [x] ∧ M.isE x := by simpa [M.shp] using hsh
    obtain ⟨a, rfl, rfl⟩ := M.k1 hm
    obtain rfl : is = [va] := by simpa [M.flds] using hf
    have ha := M.at1 hL
    obtain ⟨ga, sa, da⟩ := hgm a (by simp)
    exact stmt_line hB hp.sp.wrt 25 (by decide) (by decide) va vb vc vl tx' vn vt vp la lc _ (lift hp hB (fun a bs hk hpa hBa hla => line_do hBa hpa.sp.wrt va vb vc vl tx' vn vt vp la lc _ (l_expr hE hpa hBa sa da ga h1 ha) hla)) hl
end
end Go.Proofs.YtjojlcfoiknlhaaGreatDoor

namespace Go.Proofs.YtjojlcfoiknlhaaGreatDoor
open Go.RowKit

section
variable {B wb : Nat} {tv nv : Value} {N : List M.Nd} {T : List M.Ty}

theorem pb_step {m : Nat} (hS : PS B wb tv nv N T m) : PB B wb tv nv N T (m + 1) := by
  intro t i d w bs hsz hd hg hk ha hp hB hl
  cases t with
  | ty t0 => cases t0 <;> simp [M.Nt.k] at hk
  | nd k tx n ps =>
  simp only [M.Nt.k] at hk
  subst hk
  rw [M.At] at ha
  obtain ⟨j, rfl, hj, e1, e2, e3, is, hf, hL⟩ := ha
  rw [M.Gd] at hg
  obtain ⟨hsh, hgl⟩ := hg
  rw [M.szN] at hsz hd
  have hf' : N[j].list = is := by simpa [M.flds] using hf
  have hsh' : ∀ x ∈ ps.map M.Nt.k, 17 ≤ x ∧ x ≤ 25 := by simpa [M.shp] using hsh
  have hle := M.len_szNL ps
  refine block_p hS j d hj tx n ps w bs (fun p hm => ?_) (fun p hm => ?_) (by rw [hf']; exact hL) hp hB (by omega) (by omega) hl
  · have h1 := M.szNL_mem hm
    have h2 := hsh' p.k (List.mem_map_of_mem hm)
    exact ⟨by omega, M.gdL_mem hgl hm, h2.1, h2.2⟩
  · have h1 := M.szNL_mem hm
    omega

theorem rowx_first (sep : List UInt8) : ∀ (n : Nat) (f : Nat → List UInt8), rowx sep f (n + 1) = sep ++ f 0 ++ rowx sep (fun j => f (j + 1)) n
  | 0, f => by simp [rowx]
  | n + 1, f => by
    rw [rowx, rowx_first sep n f, rowx]
    simp
theorem rowx_join (sep : List UInt8) : ∀ (cs : List M.Pc) (f : Nat → List UInt8), (∀ j (h : j < cs.length), f j = cs[j].s) → rowx sep f cs.length = if cs.length = 0 then [] else sep ++ M.join sep cs
  | [], _, _ => by simp [rowx]
  | [c], f, h => by
    have h0 := h 0 (by simp)
    simp at h0
    simp [rowx, M.join, h0]
  | c :: c' :: r, f, h => by
    have h0 := h 0 (by simp)
    simp at h0
    rw [List.length_cons, rowx_first, rowx_join sep (c' :: r) (fun j => f (j + 1)) (fun j hj => by have := h (j + 1) (by simpa using hj); simpa using this)]
    simp [M.join, h0]
theorem rowb_join (sep : List UInt8) (cs : List M.Pc) (f : Nat → List UInt8) (h : ∀ j (h : j < cs.length), f j = cs[j].s) : rowb sep f cs.length = M.join sep cs := by
  cases cs with
  | nil => simp [rowb, M.join]
  | cons c r =>
    have h0 := h 0 (by simp)
    simp at h0
    rw [List.length_cons, rowb_cons, rowx_join sep r (fun j => f (j + 1)) (fun j hj => by have := h (j + 1) (by simpa using hj); simpa using this), h0]
    cases r with
    | nil => simp [M.join]
    | cons c' r => simp [M.join]

theorem chg_grow (w : World) (os : Array Obj) : Chg (fun _ => False) w (Go.Sort.grow w os) := ⟨rfl, rfl, rfl, by simp, fun k hk _ => by simp [Go.Sort.grow, Array.getElem?_append, hk]⟩
end
end Go.Proofs.YtjojlcfoiknlhaaGreatDoor

namespace Go.Proofs.YtjojlcfoiknlhaaGreatDoor
open Go.RowKit

section
variable {B wb : Nat} {tv nv : Value} {N : List M.Nd} {T : List M.Ty}

/-- function and object, at trees of at most this size. -/
def PF (B wb : Nat) (tv nv : Value) (N : List M.Nd) (T : List M.Ty) (m : Nat) : Prop :=
  ∀ (t : M.Nt) (j d : Nat) (hj : j < N.length) (la : Option Addr) (lc : Nat) (w : World) (bs : List UInt8), M.szN t ≤ m → d + M.szN t ≤ 1000000 → M.Gd t → t.k = 6 → M.At N T t (j : Int) → Psp w B wb tv nv d N T bs → w.ownsRow 0 3 1 (.slice la N[j].list.length lc) N[j].list.length (ints N[j].list) → B ≤ w.heap.size → bs.length + (M.pr d t).length ≤ 100000000000000 →
    Calls Tryz.prog 195 #[.pointer (some ⟨wb, 0, none⟩), ndv N[j] la lc] w (WPost w B wb tv (pk nv d) (bs ++ M.pr d t))
def PO (B wb : Nat) (tv nv : Value) (N : List M.Nd) (T : List M.Ty) (m : Nat) : Prop :=
  ∀ (t : M.Nt) (j d : Nat) (hj : j < N.length) (la : Option Addr) (lc : Nat) (w : World) (bs : List UInt8), M.szN t ≤ m → d + M.szN t ≤ 1000000 → M.Gd t → t.k = 10 → M.At N T t (j : Int) → Psp w B wb tv nv d N T bs → w.ownsRow 0 3 1 (.slice la N[j].list.length lc) N[j].list.length (ints N[j].list) → B ≤ w.heap.size → bs.length + (M.pr d t).length ≤ 100000000000000 →
    Calls Tryz.prog 196 #[.pointer (some ⟨wb, 0, none⟩), .slice la N[j].list.length lc] w (WPost w B wb tv (pk nv d) (bs ++ M.pr d t))

theorem l_row {m d : Nat} (hE : PE B wb tv nv N T m) {w : World} {bs0 : List UInt8} (hp : Psp w B wb tv nv d N T bs0) (hB : B ≤ w.heap.size) (bg en : List UInt8) (qs : List M.Nt) (vl : List Int) (la : Option Addr) (lc : Nat) (ol : w.ownsRow 0 3 1 (.slice la vl.length lc) vl.length (ints vl)) (hL : M.AtL N T qs vl) (hq : ∀ p ∈ qs, M.szN p ≤ m ∧ d + M.szN p ≤ 1000000 ∧ M.Gd p ∧ M.isE p.k) (hn : qs.length ≤ 1000000) :
    CCs w B wb tv (pk nv d) 170 #[.pointer (some ⟨wb, 0, none⟩), .string ⟨bg.toArray⟩, .slice la vl.length lc, .string ⟨en.toArray⟩] (bg ++ M.join [44, 32] (M.prL d qs) ++ en) := by
  have hll := M.atL_len hL
  have hcs : (M.prL d qs).length = qs.length := by rw [M.prL_map]; simp
  have hj : rowb [44, 32] (fun j => ((M.prL d qs).getD j M.pc0).s) vl.length = M.join [44, 32] (M.prL d qs) := by
    rw [hll, ← hcs]
    exact rowb_join _ _ _ (fun j hj => by simp [hj])
  refine lift hp hB (fun a bs hk hpa hBa hl => ?_)
  rw [← hj] at hl ⊢
  refine row_any hBa hpa.sp.wrt bg en la lc vl (fun j => ((M.prL d qs).getD j M.pc0).s) (by omega) (hk.own hp.sp.wrt ol (by decide) (by decide)) (fun a2 hk2 j hj w1 hc a3 bs3 hk3 hw3 hl3 => ?_) hl
  have hjq : j < qs.length := by omega
  obtain ⟨h1, h2, h3, h4⟩ := hq qs[j] (List.getElem_mem hjq)
  have e : ((M.prL d qs).getD j M.pc0).s = M.pr d qs[j] := by simp [M.prL_map, hjq]
  have hk4 := (hk2.trans (Wkp.still hc)).trans hk3
  simp only [e] at hl3 ⊢
  refine (hE qs[j] vl[j] d a3 bs3 h1 h2 h3 h4 (M.atL_at hL j hjq hj) (hpa.kept hk4 hw3) (Nat.le_trans hBa hk4.size) hl3).mono ?_
  rintro e w' ⟨rfl, g1, g2⟩
  exact ⟨rfl, hk3.trans g1, g2⟩

set_option maxHeartbeats 2000000 in
theorem pe_step {m : Nat} (hls : ∀ i (hi : i < T.length), T[i].list.length ≤ 100000 ∧ T[i].fields.length ≤ 1001) (hnum : ∀ i (h : i < N.length), -9223372036854775808 ≤ N[i].n ∧ N[i].n ≤ 9223372036854775807) (hE : PE B wb tv nv N T m) (hF : PF B wb tv nv N T (m + 1)) (hO : PO B wb tv nv N T (m + 1)) : PE B wb tv nv N T (m + 1) := by
  intro t i d w bs hsz hd hg he ha hp hB hl
  cases t with
  | ty t0 => cases t0 <;> simp [M.Nt.k, M.isE] at he
  | nd k tx n ps =>
  have hg0 := hg
  have ha0 := ha
  have hsz0 := hsz
  have hd0 := hd
  simp only [M.Nt.k, M.isE] at he
  rw [M.At] at ha
  obtain ⟨j, rfl, hj, e1, e2, e3, is, hf, hL⟩ := ha
  rw [M.Gd] at hg
  obtain ⟨hsh, hgl⟩ := hg
  rw [M.szN] at hsz hd
  obtain ⟨na, nc, env, c4, c5, fz, hlt, hcell⟩ := hp.cell
  obtain ⟨g, la, lc, rfl, hgl2, hc1, hc2, x0, x1, x2, x3, x4, x5, x6, x7, x8, ol⟩ := hcell j hj
  have hgl3 := hgl2
  have HF : k = 6 → ∀ (a0 : World) (bs1 : List UInt8), Wkp B wb w a0 → Psp a0 B wb tv nv d N T bs1 → B ≤ a0.heap.size → CCs a0 B wb tv (pk nv d) 195 #[.pointer (some ⟨wb, 0, none⟩), ndv N[j] la lc] (M.pr d (.nd k tx n ps)) := fun h6 a0 bs1 hk0 hp0 hB0 => lift hp0 hB0 (fun a bs hk hpa hBa hla => hF _ j d hj la lc a bs hsz0 hd0 hg0 h6 ha0 hpa ((hk0.trans hk).own hp.sp.wrt ol (by decide) (by decide)) hBa hla)
  have HO : k = 10 → ∀ (a0 : World) (bs1 : List UInt8), Wkp B wb w a0 → Psp a0 B wb tv nv d N T bs1 → B ≤ a0.heap.size → CCs a0 B wb tv (pk nv d) 196 #[.pointer (some ⟨wb, 0, none⟩), .slice la N[j].list.length lc] (M.pr d (.nd k tx n ps)) := fun h6 a0 bs1 hk0 hp0 hB0 => lift hp0 hB0 (fun a bs hk hpa hBa hla => hO _ j d hj la lc a bs hsz0 hd0 hg0 h6 ha0 hpa ((hk0.trans hk).own hp.sp.wrt ol (by decide) (by decide)) hBa hla)
  have hnn := hnum j hj
  clear hcell hg0 ha0 hsz0 hd0 hF hO
  generalize N[j] = nn at *
  obtain ⟨kd, va, vb, vc, vl, tx', vn, vt, vp⟩ := nn
  simp only [ndv] at e1 e2 e3 hf ol x0 x1 x2 x3 x4 x5 x6 x7 x8 HF HO hnn
  subst e1 e2 e3
  have hk : kd = 1 ∨ kd = 2 ∨ kd = 3 ∨ kd = 4 ∨ kd = 5 ∨ kd = 6 ∨ kd = 7 ∨ kd = 8 ∨ kd = 9 ∨ kd = 10 ∨ kd = 11 ∨ kd = 12 ∨ kd = 13 ∨ kd = 14 := by omega
  have hgm : ∀ p ∈ ps, M.Gd p ∧ M.szN p ≤ m ∧ d + M.szN p ≤ 1000000 := fun p hm => by
    have h1 := M.szNL_mem hm
    exact ⟨M.gdL_mem hgl hm, by omega, by omega⟩
  have hpl : ps.length ≤ 1000000 := by have := M.len_szNL ps; omega
  clear hgl hsz hd he
  have hgl := hgl3
  rcases hk with rfl | rfl | rfl | rfl | rfl | rfl | rfl | rfl | rfl | rfl | rfl | rfl | rfl | rfl
  · refine expr_simple hB hp.sp.wrt 1 (by decide) (by decide) (by decide) (by decide) (by decide) (by decide) g N.length nc j va vb vc vl tx' vn vt vp la lc c4 hj hc1 hc2 hgl hlt x0 x1 x2 x3 x4 x5 x6 x7 x8 (Lib.itoa vn) (lift hp hB (fun a bs hk hpa hBa hla => simple_num hBa hpa.sp.wrt va vb vc vl tx' vn vt vp la lc _ (fun w1 hc a' hk' => ?_) hla)) hl
    have ht : Tab a' B := tab_chg (tab_chg hpa.tab hc (fun _ _ x => x)) hk' (fun k hk x => by have := x.1; omega)
    refine (Tryz.strconv_Itoa vn hnn.1 hnn.2 a' ht.1).mono ?_
    rintro e w' ⟨rfl, q, os, rfl⟩
    exact ⟨rfl, (Chg.drewN (fun _ => False) _ q).trans (chg_grow _ os) (fun _ _ x => x)⟩
  · exact expr_simple hB hp.sp.wrt 2 (by decide) (by decide) (by decide) (by decide) (by decide) (by decide) g N.length nc j va vb vc vl tx' vn vt vp la lc c4 hj hc1 hc2 hgl hlt x0 x1 x2 x3 x4 x5 x6 x7 x8 ([34] ++ tx' ++ [34]) (lift hp hB (fun a bs hk hpa hBa hla => simple_text hBa hpa.sp.wrt va vb vc vl tx' vn vt vp la lc hla)) hl
  · refine expr_simple hB hp.sp.wrt 3 (by decide) (by decide) (by decide) (by decide) (by decide) (by decide) g N.length nc j va vb vc vl tx' vn vt vp la lc c4 hj hc1 hc2 hgl hlt x0 x1 x2 x3 x4 x5 x6 x7 x8 (Lib.formatBool (vn == 1)) (lift hp hB (fun a bs hk hpa hBa hla => simple_bool hBa hpa.sp.wrt va vb vc vl tx' vn vt vp la lc _ (fun w1 hc a' hk' => ?_) hla)) hl
    refine (Tryz.strconv_FormatBool (vn == 1) a').mono ?_
    rintro e w' ⟨rfl, rfl⟩
    exact ⟨rfl, Chg.refl _ _⟩
  · exact expr_simple hB hp.sp.wrt 4 (by decide) (by decide) (by decide) (by decide) (by decide) (by decide) g N.length nc j va vb vc vl tx' vn vt vp la lc c4 hj hc1 hc2 hgl hlt x0 x1 x2 x3 x4 x5 x6 x7 x8 [110, 117, 108, 108] (lift hp hB (fun a bs hk hpa hBa hla => simple_null hBa hpa.sp.wrt va vb vc vl tx' vn vt vp la lc hla)) hl
  · exact expr_simple hB hp.sp.wrt 5 (by decide) (by decide) (by decide) (by decide) (by decide) (by decide) g N.length nc j va vb vc vl tx' vn vt vp la lc c4 hj hc1 hc2 hgl hlt x0 x1 x2 x3 x4 x5 x6 x7 x8 tx' (lift hp hB (fun a bs hk hpa hBa hla => simple_var hBa hpa.sp.wrt va vb vc vl tx' vn vt vp la lc hla)) hl
  · exact expr_simple hB hp.sp.wrt 6 (by decide) (by decide) (by decide) (by decide) (by decide) (by decide) g N.length nc j va vb vc vl tx' vn vt vp la lc c4 hj hc1 hc2 hgl hlt x0 x1 x2 x3 x4 x5 x6 x7 x8 _ (lift hp hB (fun a bs hk hpa hBa hla => simple_fn hBa hpa.sp.wrt va vb vc vl tx' vn vt vp la lc _ (HF rfl a bs hk hpa hBa) hla)) hl
  · obtain ⟨x, xs, hm, h1, h2⟩ : ∃ x xs, ps.map M.Nt.k = x :: xs ∧ M.isE x ∧ ∀ y ∈ xs, M.isE y := by simpa [M.shp] using hsh
    obtain ⟨a, qs, rfl, rfl, rfl⟩ : ∃ a qs, ps = a :: qs ∧ a.k = x ∧ qs.map M.Nt.k = xs := by
      cases ps with
      | nil => simp at hm
      | cons a qs => simp at hm; exact ⟨a, qs, rfl, hm.1, hm.2⟩
    obtain rfl : is = va :: vl := by
      have hf' : va = is.headD 0 ∧ vl = is.tail ∧ 1 ≤ is.length := by simpa [M.flds] using hf
      cases is with
      | nil => simp at hf'
      | cons y ys => simp at hf'; rw [hf'.1, hf'.2]
    rw [M.AtL] at hL
    obtain ⟨i', js, e, ha, hLq⟩ := hL
    simp only [List.cons.injEq] at e
    obtain ⟨rfl, rfl⟩ := e
    obtain ⟨ga, sa, da⟩ := hgm a (by simp)
    exact expr_call hB hp.sp.wrt g N.length nc j va vb vc vl tx' vn vt vp la lc c4 hj hc1 hc2 hgl hlt x0 x1 x2 x3 x4 x5 x6 x7 x8 _ _ (l_within hE hp hB 5 sa da ga h1 ha) (l_row hE hp hB [40] [41] qs vl la lc ol hLq (fun p hpq => by obtain ⟨g1, g2, g3⟩ := hgm p (by simp [hpq]); exact ⟨g2, g3, g1, h2 p.k (List.mem_map_of_mem hpq)⟩) (by simp at hpl; omega)) hl
  · obtain ⟨x, hm, h1⟩ : ∃ x, ps.map M.Nt.k = [x] ∧ M.isE x := by simpa [M.shp] using hsh
    obtain ⟨a, rfl, rfl⟩ := M.k1 hm
    obtain rfl : is = [va] := by simpa [M.flds] using hf
    have ha := M.at1 hL
    obtain ⟨ga, sa, da⟩ := hgm a (by simp)
    exact expr_get hB hp.sp.wrt g N.length nc j va vb vc vl tx' vn vt vp la lc c4 hj hc1 hc2 hgl hlt x0 x1 x2 x3 x4 x5 x6 x7 x8 _ (lift hp hB (fun a bs hk hpa hBa hla => get_any hBa hpa.sp.wrt va tx' _ (l_within hE hpa hBa 5 sa da ga h1 ha) hla)) hl
  · obtain ⟨x, y, hm, h1, h2⟩ : ∃ x y, ps.map M.Nt.k = [x, y] ∧ M.isE x ∧ M.isE y := by simpa [M.shp] using hsh
    obtain ⟨a, b, rfl, rfl, rfl⟩ := M.k2 hm
    obtain rfl : is = [va, vb] := by simpa [M.flds] using hf
    obtain ⟨ha, hb⟩ := M.at2 hL
    obtain ⟨ga, sa, da⟩ := hgm a (by simp)
    obtain ⟨gb, sb, db⟩ := hgm b (by simp)
    exact expr_at hB hp.sp.wrt g N.length nc j va vb vc vl tx' vn vt vp la lc c4 hj hc1 hc2 hgl hlt x0 x1 x2 x3 x4 x5 x6 x7 x8 _ (lift hp hB (fun a bs hk hpa hBa hla => at_any' hBa hpa.sp.wrt va vb _ _ (l_within hE hpa hBa 5 sa da ga h1 ha) (l_expr hE hpa hBa sb db gb h2 hb) hla)) hl
  · exact expr_simple hB hp.sp.wrt 10 (by decide) (by decide) (by decide) (by decide) (by decide) (by decide) g N.length nc j va vb vc vl tx' vn vt vp la lc c4 hj hc1 hc2 hgl hlt x0 x1 x2 x3 x4 x5 x6 x7 x8 _ (lift hp hB (fun a bs hk hpa hBa hla => simple_obj hBa hpa.sp.wrt va vb vc vl tx' vn vt vp la lc _ (HO rfl a bs hk hpa hBa) hla)) hl
  · have hsh' : ∀ x ∈ ps.map M.Nt.k, M.isE x := by simpa [M.shp] using hsh
    obtain rfl : vl = is := by simpa [M.flds] using hf
    exact expr_simple hB hp.sp.wrt 11 (by decide) (by decide) (by decide) (by decide) (by decide) (by decide) g N.length nc j va vb vc vl tx' vn vt vp la lc c4 hj hc1 hc2 hgl hlt x0 x1 x2 x3 x4 x5 x6 x7 x8 _ (lift hp hB (fun a bs hk hpa hBa hla => simple_arr hBa hpa.sp.wrt va vb vc vl tx' vn vt vp la lc _ (l_row hE hpa hBa [91] [93] ps vl la lc (hk.own hp.sp.wrt ol (by decide) (by decide)) hL (fun p hpq => by obtain ⟨g1, g2, g3⟩ := hgm p hpq; exact ⟨g2, g3, g1, hsh' p.k (List.mem_map_of_mem hpq)⟩) hpl) hla)) hl
  · obtain ⟨x, y, hm, h1, h2⟩ : ∃ x y, ps.map M.Nt.k = [x, y] ∧ M.isE x ∧ M.isE y := by simpa [M.shp] using hsh
    obtain ⟨a, b, rfl, rfl, rfl⟩ := M.k2 hm
    obtain rfl : is = [va, vb] := by simpa [M.flds] using hf
    obtain ⟨ha, hb⟩ := M.at2 hL
    obtain ⟨ga, sa, da⟩ := hgm a (by simp)
    obtain ⟨gb, sb, db⟩ := hgm b (by simp)
    have hb3 : 1 ≤ M.bnK 12 tx' ∧ M.bnK 12 tx' ≤ 3 := by
      rw [M.bnK, if_neg (by decide), if_pos rfl]
      split
      · exact ⟨by decide, by decide⟩
      · split <;> exact ⟨by decide, by decide⟩
    exact expr_two hB hp.sp.wrt g N.length nc j va vb vc vl tx' vn vt vp la lc c4 hj hc1 hc2 hgl hlt x0 x1 x2 x3 x4 x5 x6 x7 x8 _ (lift hp hB (fun a bs hk hpa hBa hla => two_any hBa hpa.sp.wrt 12 va vb vc vl tx' vn vt vp la lc _ _ (M.bnK 12 tx' : Int) ((if M.bnK 12 tx' = 1 then 2 else M.bnK 12 tx' : Nat) : Int) ((M.bnK 12 tx' + 1 : Nat) : Int) rfl (by omega) (fun h => by rw [if_pos (by omega)]; rfl) (fun h => by rw [if_neg (by omega)]) (by omega) (l_within hE hpa hBa _ sa da ga h1 ha) (l_within hE hpa hBa _ sb db gb h2 hb) hla)) hl
  · obtain ⟨x, hm, h1⟩ : ∃ x, ps.map M.Nt.k = [x] ∧ M.isE x := by simpa [M.shp] using hsh
    obtain ⟨a, rfl, rfl⟩ := M.k1 hm
    obtain rfl : is = [va] := by simpa [M.flds] using hf
    have ha := M.at1 hL
    obtain ⟨ga, sa, da⟩ := hgm a (by simp)
    exact expr_one hB hp.sp.wrt g N.length nc j va vb vc vl tx' vn vt vp la lc c4 hj hc1 hc2 hgl hlt x0 x1 x2 x3 x4 x5 x6 x7 x8 _ (lift hp hB (fun a bs hk hpa hBa hla => one_any hBa hpa.sp.wrt 13 va vb vc vl tx' vn vt vp la lc _ (l_within hE hpa hBa 4 sa da ga h1 ha) hla)) hl
  · obtain ⟨x, hm, h1⟩ : ∃ x, ps.map M.Nt.k = [x, 0] ∧ M.isE x := by simpa [M.shp] using hsh
    obtain ⟨a, b, rfl, rfl, hb0⟩ := M.k2 hm
    obtain rfl : is = [va, vt] := by simpa [M.flds] using hf
    obtain ⟨ha, hb⟩ := M.at2 hL
    obtain ⟨ga, sa, da⟩ := hgm a (by simp)
    obtain ⟨gb, sb, db⟩ := hgm b (by simp)
    obtain ⟨t0, rfl⟩ := M.isT_ty gb (.inr hb0)
    cases t0 with
    | none => simp [M.Nt.k] at hb0
    | some t0 =>
    rw [M.At] at hb
    obtain ⟨jt, rfl, hjt, ht⟩ := hb
    exact expr_as hB hp.sp.wrt g N.length nc j va vb vc vl tx' vn (jt : Int) vp la lc c4 hj hc1 hc2 hgl hlt x0 x1 x2 x3 x4 x5 x6 x7 x8 _ _ (l_within hE hp hB 5 sa da ga h1 ha) (l_type hls hp hB hjt ht) hl
end
end Go.Proofs.YtjojlcfoiknlhaaGreatDoor

namespace Go.Proofs.YtjojlcfoiknlhaaGreatDoor
open Go.RowKit

section
variable {B wb : Nat} {tv nv : Value} {N : List M.Nd} {T : List M.Ty}

set_option maxHeartbeats 2000000 in
theorem po_step {m : Nat} (hE : PE B wb tv nv N T m) : PO B wb tv nv N T (m + 1) := by
  intro t j d hj la lc w bs hsz hd hg hk6 ha hp ol hB hl
  cases t with
  | ty t0 => cases t0 <;> simp [M.Nt.k] at hk6
  | nd k tx n ps =>
  simp only [M.Nt.k] at hk6
  subst hk6
  rw [M.At] at ha
  obtain ⟨j', e0, hj', e1, e2, e3, is, hf, hL⟩ := ha
  have ej : j' = j := by omega
  subst ej
  rw [M.Gd] at hg
  obtain ⟨hsh, hgl⟩ := hg
  rw [M.szN] at hsz hd
  have hf' : N[j'].list = is := by simpa [M.flds] using hf
  have hsh' : ∀ x ∈ ps.map M.Nt.k, x = 15 := by simpa [M.shp] using hsh
  rw [hf'] at ol ⊢
  have hll := M.atL_len hL
  have hcs : (M.prL d ps).length = ps.length := by rw [M.prL_map]; simp
  have hpl : ps.length ≤ 1000000 := by have := M.len_szNL ps; omega
  have hjoin : rowb [44, 32] (fun j => ((M.prL d ps).getD j M.pc0).s) is.length = M.join [44, 32] (M.prL d ps) := by
    rw [hll, ← hcs]
    exact rowb_join _ _ _ (fun j hj => by simp [hj])
  have e : M.pr d (.nd 10 tx n ps) = if is.length = 0 then [123, 125] else [123, 32] ++ rowb [44, 32] (fun j => ((M.prL d ps).getD j M.pc0).s) is.length ++ [32, 125] := by
    rw [hjoin, hll, ← hcs]
    rfl
  rw [e] at hl ⊢
  refine object_p hB hp.sp.wrt la lc is (fun j => ((M.prL d ps).getD j M.pc0).s) (by omega) (fun a bs' qx ql j hka hwa hBa hji hx hlx hla => ?_) hl
  have hjq : j < ps.length := by omega
  have hm := List.getElem_mem hjq
  have hpa := hp.kept hka hwa
  have hs1 := M.szNL_mem hm
  have hg1 := M.gdL_mem hgl hm
  have hk1 := hsh' ps[j].k (List.mem_map_of_mem hm)
  have ha1 := M.atL_at hL j hjq hji
  have ep : ((M.prL d ps).getD j M.pc0).s = M.pr d ps[j] := by simp [M.prL_map, hjq]
  simp only [ep] at hla ⊢
  have ol2 := hka.own hp.sp.wrt ol (by decide) (by decide)
  generalize ps[j] = p at *
  cases p with
  | ty t0 => cases t0 <;> simp [M.Nt.k] at hk1
  | nd pk1 ptx pn pps =>
  simp only [M.Nt.k] at hk1
  subst hk1
  rw [M.At] at ha1
  obtain ⟨z, hz, hzN, f1, f2, f3, pis, pf, pL⟩ := ha1
  rw [M.Gd] at hg1
  rw [M.szN] at hs1
  obtain ⟨x, hpm, h1⟩ : ∃ x, pps.map M.Nt.k = [x] ∧ M.isE x := by simpa [M.shp] using hg1.1
  obtain ⟨ex, rfl, rfl⟩ := M.k1 hpm
  obtain ⟨na, nc, env, c4, c5, fz, hlt, hcell⟩ := hpa.cell
  obtain ⟨g, la1, lc1, rfl, hgl2, hc1, hc2, x0, x1, x2, x3, x4, x5, x6, x7, x8, -⟩ := hcell z hzN
  clear hcell
  generalize N[z] = nn at *
  obtain ⟨kd, va, vb, vc, vl, tx', vn, vt, vp⟩ := nn
  simp only at f1 f2 f3 pf x0 x1 x2 x3 x4 x5 x6 x7 x8
  subst f1 f2 f3
  obtain rfl : pis = [va] := by simpa [M.flds] using pf
  have hse : M.szN ex ≤ M.szNL [ex] := M.szNL_mem (by simp)
  exact object1_p hBa hwa j qx ql z la lc is hji hz hx hlx ol2 g N.length nc 15 va vb vc vl tx' vn vt vp la1 lc1 c4 hzN hc1 hc2 hgl2 hlt x0 x1 x2 x3 x4 x5 x6 x7 x8 _ (l_expr hE hpa hBa (by omega) (by omega) hg1.2.1 h1 (M.at1 pL)) hla
end
end Go.Proofs.YtjojlcfoiknlhaaGreatDoor

namespace Go.Proofs.YtjojlcfoiknlhaaGreatDoor
open Go.RowKit

theorem M.atL_app {N : List M.Nd} {T : List M.Ty} : ∀ {ps qs : List M.Nt} {is : List Int}, M.AtL N T (ps ++ qs) is → ∃ i1 i2, is = i1 ++ i2 ∧ M.AtL N T ps i1 ∧ M.AtL N T qs i2
  | [], qs, is, h => ⟨[], is, rfl, by rw [M.AtL], h⟩
  | p :: r, qs, is, h => by
    rw [List.cons_append, M.AtL] at h
    obtain ⟨i, js, rfl, h1, h2⟩ := h
    obtain ⟨i1, i2, rfl, h3, h4⟩ := M.atL_app h2
    exact ⟨i :: i1, i2, rfl, by rw [M.AtL]; exact ⟨i, i1, rfl, h1, h3⟩, h4⟩

section
variable {B wb : Nat} {tv nv : Value} {N : List M.Nd} {T : List M.Ty}

set_option maxHeartbeats 2000000 in
theorem pf_step {m : Nat} (hls : ∀ i (hi : i < T.length), T[i].list.length ≤ 100000 ∧ T[i].fields.length ≤ 1001) (hK : PB B wb tv nv N T m) : PF B wb tv nv N T (m + 1) := by
  intro t j d hj la lc w bs hsz hd hg hk6 ha hp ol hB hl
  cases t with
  | ty t0 => cases t0 <;> simp [M.Nt.k] at hk6
  | nd k tx n ps =>
  simp only [M.Nt.k] at hk6
  subst hk6
  rw [M.At] at ha
  obtain ⟨j', e0, hj', e1, e2, e3, is, hf, hL⟩ := ha
  have ej : j' = j := by omega
  subst ej
  rw [M.Gd] at hg
  obtain ⟨hsh, hgl⟩ := hg
  rw [M.szN] at hsz hd
  obtain ⟨pks, r, hm, h16, hr⟩ : ∃ pks r, ps.map M.Nt.k = pks ++ [r, 26] ∧ (∀ x ∈ pks, x = 16) ∧ M.isT r := by simpa [M.shp] using hsh
  obtain ⟨qs, q2, rfl, rfl, hm2⟩ := List.map_eq_append_iff.1 hm
  obtain ⟨rt, bk, rfl, rfl, hbk⟩ := M.k2 hm2
  obtain ⟨is1, is2, rfl, hL1, hL2⟩ := M.atL_app hL
  obtain ⟨y, z, rfl⟩ : ∃ y z, is2 = [y, z] := by
    have := M.atL_len hL2
    match is2, this with
    | [y, z], _ => exact ⟨y, z, rfl⟩
  obtain ⟨hrt, hblk⟩ := M.at2 hL2
  have hgm : ∀ p ∈ qs ++ [rt, bk], M.Gd p ∧ M.szN p ≤ m ∧ d + M.szN p ≤ 1000000 := fun p hm => by
    have h1 := M.szNL_mem hm
    exact ⟨M.gdL_mem hgl hm, by omega, by omega⟩
  have hf' : N[j'].list = is1 ∧ N[j'].ty = y ∧ N[j'].a = z := by
    have h : N[j'].list = (is1 ++ [y, z]).dropLast.dropLast ∧ N[j'].ty = (is1 ++ [y, z]).dropLast.getLastD 0 ∧ N[j'].a = (is1 ++ [y, z]).getLastD 0 ∧ 2 ≤ (is1 ++ [y, z]).length := by simpa [M.flds] using hf
    have e1 : is1 ++ [y, z] = (is1 ++ [y]) ++ [z] := by simp
    rw [e1] at h
    simp only [List.dropLast_concat, List.getLastD_concat] at h
    exact ⟨h.1, h.2.1, h.2.2.1⟩
  obtain ⟨gr, sr, dr⟩ := hgm rt (by simp)
  obtain ⟨gb, sb, db⟩ := hgm bk (by simp)
  obtain ⟨t0, rfl⟩ := M.isT_ty gr hr
  have hll := M.atL_len hL1
  have hcs : (M.prL d qs).length = qs.length := by rw [M.prL_map]; simp
  have hpl : qs.length ≤ 1000000 := by have := M.len_szNL (qs ++ [.ty t0, bk]); simp only [List.length_append] at this; omega
  have hjoin : rowb [44, 32] (fun j => ((M.prL d qs).getD j M.pc0).s) is1.length = M.join [44, 32] (M.prL d qs) := by
    rw [hll, ← hcs]
    exact rowb_join _ _ _ (fun j hj => by simp [hj])
  have e : M.pr d (.nd 6 tx n (qs ++ [.ty t0, bk])) = [102, 110, 40] ++ rowb [44, 32] (fun j => ((M.prL d qs).getD j M.pc0).s) is1.length ++ [41] ++ M.colon (pcOf d (.ty t0)) ++ [32] ++ M.pr d bk := by
    rw [hjoin]
    have e1 : M.prL d (qs ++ [.ty t0, bk]) = (M.prL d qs ++ [pcOf d (.ty t0)]) ++ [pcOf d bk] := by simp [M.prL_map, pcOf]
    show M.prE 6 tx n (M.prL d (qs ++ [.ty t0, bk])) = _
    rw [e1]
    simp [M.prE, pcOf]
  rw [e] at hl ⊢
  clear hgl hsh hf e0
  generalize N[j'] = nn at *
  obtain ⟨kd, va, vb, vc, vl, tx', vn, vt, vp⟩ := nn
  simp only at e1 e2 e3 hf' ol
  obtain ⟨rfl, rfl, rfl⟩ := hf'
  subst e1 e2 e3
  refine function_p hB hp.sp.wrt 6 va vb vc tx' vn vt vp la lc vl (fun j => ((M.prL d qs).getD j M.pc0).s) _ _ (by omega) (fun a bs' qx ql j hka hwa hBa hji hx hlx hla => ?_) (l_tif hls hp hB hrt) (l_block hK hp hB sb db gb hbk hblk) hl
  have hjq : j < qs.length := by omega
  have hm := List.getElem_mem hjq
  have hpa := hp.kept hka hwa
  have hg1 := (hgm qs[j] (by simp [hm])).1
  have hk1 := h16 qs[j].k (List.mem_map_of_mem hm)
  have ha1 := M.atL_at hL1 j hjq hji
  have ep : ((M.prL d qs).getD j M.pc0).s = M.pr d qs[j] := by simp [M.prL_map, hjq]
  simp only [ep] at hla ⊢
  have ol2 := hka.own hp.sp.wrt ol (by decide) (by decide)
  generalize qs[j] = p at *
  cases p with
  | ty t0 => cases t0 <;> simp [M.Nt.k] at hk1
  | nd pk1 ptx pn pps =>
  simp only [M.Nt.k] at hk1
  subst hk1
  rw [M.At] at ha1
  obtain ⟨z, hz, hzN, f1, f2, f3, pis, pf, pL⟩ := ha1
  rw [M.Gd] at hg1
  obtain ⟨x, hpm, h1⟩ : ∃ x, pps.map M.Nt.k = [x] ∧ M.isT x := by simpa [M.shp] using hg1.1
  obtain ⟨ex, rfl, rfl⟩ := M.k1 hpm
  obtain ⟨t1, rfl⟩ := M.isT_ty hg1.2.1 h1
  obtain ⟨na, nc, env, c4, c5, fz, hlt, hcell⟩ := hpa.cell
  obtain ⟨g, la1, lc1, rfl, hgl2, hc1, hc2, x0, x1, x2, x3, x4, x5, x6, x7, x8, -⟩ := hcell z hzN
  clear hcell
  generalize N[z] = nn at *
  obtain ⟨kd2, ua, ub, uc, ul, ux, un, ut, up⟩ := nn
  simp only at f1 f2 f3 pf x0 x1 x2 x3 x4 x5 x6 x7 x8
  subst f1 f2 f3
  obtain rfl : pis = [ut] := by simpa [M.flds] using pf
  exact function1_p hBa hwa j qx ql z 6 va vb vc tx' vn vt vp la lc vl hji hz hx hlx ol2 g N.length nc 16 ua ub uc ul ux un ut up la1 lc1 c4 hzN hc1 hc2 hgl2 hlt x0 x1 x2 x3 x4 x5 x6 x7 x8 _ (l_tif hls hpa hBa (M.at1 pL)) hla

/-- The printer's methods write trees, whatever their size. -/
theorem print_all (hls : ∀ i (hi : i < T.length), T[i].list.length ≤ 100000 ∧ T[i].fields.length ≤ 1001) (hnum : ∀ i (h : i < N.length), -9223372036854775808 ≤ N[i].n ∧ N[i].n ≤ 9223372036854775807) : ∀ m, PE B wb tv nv N T m ∧ PS B wb tv nv N T m ∧ PB B wb tv nv N T m
  | 0 => ⟨fun t i d w bs hs => by have := M.szN_pos t; omega, fun t j d hj la lc w bs hs => by have := M.szN_pos t; omega, fun t i d w bs hs => by have := M.szN_pos t; omega⟩
  | m + 1 => by
    obtain ⟨hE, hS, hK⟩ := print_all hls hnum m
    exact ⟨pe_step hls hnum hE (pf_step hls hK) (po_step hE), ps_step hls hE hK, pb_step hS⟩
end
end Go.Proofs.YtjojlcfoiknlhaaGreatDoor

namespace Go.Proofs.YtjojlcfoiknlhaaGreatDoor
open Go.RowKit

section
variable {B wb : Nat} {tv : Value}

set_option maxHeartbeats 1000000 in
theorem blen_any {bn : Wk} {w : World} {bs : List UInt8} (h : Wrt w B wb tv bn bs) :
    Calls Tryz.prog 37 #[.pointer (some ⟨wb, 0, none⟩)] w fun e w' => e = .returned (.int .i64 (bs.length : Int)) ∧ w' = w := by
  obtain ⟨p, v, hb, _, ho⟩ := h.blk
  obtain ⟨ad, c, rfl⟩ := owns_form ho
  have c1 : w.cell? ⟨wb, 1, none⟩ = some (.slice ad bs.length c) := by rw [cell_of_row w wb 1 _ _ _ hb]; exact head_get1
  have hlt := (Array.getElem?_eq_some_iff.1 hb).1
  clear hb ho h
  go_enter Tryz.func37, Tryz.ntmps37
  go_wp2
  go_ret
  exact ⟨rfl, rfl⟩

set_option maxHeartbeats 1000000 in
theorem bstring_nil {w : World} {e : TypeId} {cs : Array Value} (hb : w.heap[wb]? = some (.cells cs e (0, 0))) (h1 : cs[1]? = some (.slice none 0 0)) :
    Calls Tryz.prog 38 #[.pointer (some ⟨wb, 0, none⟩)] w fun e w' => e = .returned (.string ⟨#[]⟩) ∧ w' = w.drew := by
  have c1 : w.drew.cell? ⟨wb, 1, none⟩ = some (.slice none 0 0) := by
    have h2 : w.drew.heap[wb]? = _ := hb
    rw [cell_of_row w.drew wb 1 _ _ _ h2]
    exact h1
  have hSD : (Builtin.unsafeSliceData_ #[74] 110 #[.slice none 0 0]).run Tryz.prog w.drew = .ok (.pointer none) w.drew := Lib.run_unsafeSliceData_nil _ _ _ _ _
  have hUS : (Builtin.unsafeString_ #[110, 3] 9 #[.pointer none, .int .i64 0]).run Tryz.prog w.drew = .ok (.string .empty) w.drew := Lib.run_unsafeString_none _ _ _ _ _
  clear hb h1
  go_enter Tryz.func38, Tryz.ntmps38
  go_wp2
  go_region
  all_goals (go_wp2; go_ret; exact ⟨rfl, rfl⟩)

set_option maxHeartbeats 1000000 in
theorem statements_nil {nv : Value} {N : List M.Nd} {T : List M.Ty} {d : Nat} (z : Nat) (hz : z < N.length) (w : World) (bs : List UInt8) (he : N[z].list = []) (hp : Psp w B wb tv nv d N T bs) :
    Calls Tryz.prog 36 #[.pointer (some ⟨wb, 0, none⟩), .int .i64 (z : Int)] w fun e w' => e = .returned (.tuple #[]) ∧ w' = w := by
  obtain ⟨na, nc, rfl, c4, c5, fz, hlt, hcell⟩ := hp.cell
  obtain ⟨g, la, lc, rfl, hgl, hc1, hc2, x0, x1, x2, x3, x4, x5, x6, x7, x8, -⟩ := hcell z hz
  unfold maxLen at hc2
  rw [he] at x4
  simp only [List.length_nil] at x4
  clear hcell hp x0 x1 x2 x3 x5 x6 x7 x8 he
  go_enter Tryz.func36, Tryz.ntmps36
  go_wp2_with fail
  go_loopw [15] (fun v wr => v = .int .i64 0 ∧ wr = w) (fun _ _ => 0)
  case atStart => exact ⟨rfl, rfl⟩
  case round =>
    obtain ⟨rfl, rfl⟩ := hrel
    go_wp2_with fail
    go_end0
    exact ⟨rfl, rfl⟩

/-- A printer that has written nothing. -/
theorem psp_new {w : World} {B : Nat} {ya : Option Addr} {yc : Nat} {nv : Value} {N : List M.Nd} {T : List M.Ty} (hB : B ≤ wb) (hb : w.heap[wb]? = some (.cells #[.pointer none, .slice none 0 0, .slice ya T.length yc, .bool false, nv, .int .i64 0] 80 (0, 0))) (hT : M.TsOk T) (hy : TyOwn w 0 (.slice ya T.length yc) T) (hn : NdOwn w 0 nv N) (ht : Tab w B) :
    Psp w B wb (.slice ya T.length yc) nv 0 N T [] := by
  obtain ⟨yx, hy1, hy2⟩ := hy
  obtain ⟨nx, hn1, hn2⟩ := hn
  refine ⟨⟨⟨hB, .pointer none, .slice none 0 0, hb, .inl rfl, World.ownsRow_nil _ _ _ _⟩, hT, yx, hy1, hy2.imp (TyV.chg (Chg.refl (fun _ => False) _) (fun _ _ _ x => x.elim) (fun _ _ _ => trivial))⟩, ⟨nx, hn1, hn2.imp (NdV.chg (Chg.refl (fun _ => False) _) (fun _ _ _ x => x.elim) (fun _ _ _ => trivial))⟩, ht⟩
end
end Go.Proofs.YtjojlcfoiknlhaaGreatDoor
