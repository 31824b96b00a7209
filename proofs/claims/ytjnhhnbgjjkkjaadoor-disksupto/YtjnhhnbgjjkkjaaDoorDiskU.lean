/-
  Disks: the act that is none.
-/
import Derived.Test.YtjnhhnbgjjkkjaaDoorDiskM
import Derived.Deep.RegionHeld3
namespace Go.Proofs.YtjnhhnbgjjkkjaaDoor
open Go.ChangeShapes Go.WideShapes Go.ChangeAt Go.RowKit
set_option linter.unusedVariables false
set_option linter.unusedSimpArgs false

set_option maxRecDepth 1000000 in
set_option maxHeartbeats 2000000 in
theorem act_other (ρ : Nat → Nat) (w : World) (g : Nat) (vl : Value) (n : Nat) (S : List Ent) (kind on a : Int) (s : ByteArray) (v : Value) (L : List Int) (h : Sh ρ w g vl n S) (hI : IntsZ ρ w v L) (hn : n < 2097152) (hS : 0 < S.length) (hon : -9223372036854775808 ≤ on ∧ on ≤ 9223372036854775807) (ha : -9223372036854775808 ≤ a ∧ a ≤ 9223372036854775807) (hsz : s.size ≤ 2097152) (k1 : kind ≠ 1) (k2 : kind ≠ 2) (k3 : kind ≠ 3) (k4 : kind ≠ 4) (k5 : kind ≠ 5) (k6 : kind ≠ 6) (k7 : kind ≠ 7) :
    Calls Tryd.prog 8 #[.pointer (some ⟨g, 0, none⟩), .agg #[.int .i64 kind, .int .i64 on, .int .i64 a, .string s, v]] w (ActOk ρ w g n) := by
  obtain ⟨⟨av, cv, rfl, _, _, _⟩, _⟩ := hI
  obtain ⟨lb, lc, rfl, hc1, hc2, hlb, hcells⟩ := h.reads hS
  unfold maxLen at hc2
  have c0 : w.cell? ⟨g, 0, none⟩ = some (.slice (some ⟨lb, 0, none⟩) S.length lc) := h.blk.cell 0
  have gz : g < w.heap.size := h.blk.lt
  have hlen := h.len
  have HC : Hid (∀ j, j < S.length → w.cell? ⟨lb, j * 2, none⟩ = some (.pointer (some ⟨(entAt S j).d, 0, none⟩)) ∧ w.cell? ⟨lb, j * 2 + 1, none⟩ = some (.pointer (some ⟨(entAt S j).r, 0, none⟩))) := hcells
  have HS : Hid (Sh ρ w g (.slice (some ⟨lb, 0, none⟩) S.length lc) n S) := h
  have HP : Hid (∀ wz, Calls Tryd.prog 19 #[.int .i64 on, .int .i64 S.length] wz fun e w' => ∃ j : Nat, j < S.length ∧ e = .returned (.int .i64 j) ∧ w' = wz) := fun wz => lpick_any on S.length wz hon hS (by omega)
  have j1 : (kind == 1) = false := by simpa using k1
  have j2 : (kind == 2) = false := by simpa using k2
  have j3 : (kind == 3) = false := by simpa using k3
  have j4 : (kind == 4) = false := by simpa using k4
  have j5 : (kind == 5) = false := by simpa using k5
  have j6 : (kind == 6) = false := by simpa using k6
  have j7 : (kind == 7) = false := by simpa using k7
  clear h hcells
  generalize L.length = ll
  generalize S.length = sl at *
  go_enter Tryd.func8, Tryd.ntmps8
  go_wp2_with fail
  obtain ⟨w0, hw0⟩ : ∃ w0, w0 = w.alloc (.cells #[.int .i64 kind, .int .i64 on, .int .i64 a, .string s, .slice av ll cv] 37) := ⟨_, rfl⟩
  have o0 : w0.cell? ⟨w.heap.size, 0, none⟩ = some (.int .i64 kind) := by rw [hw0]; simp [go_sem]
  have o1 : w0.cell? ⟨w.heap.size, 1, none⟩ = some (.int .i64 on) := by rw [hw0]; simp [go_sem]
  have o2 : w0.cell? ⟨w.heap.size, 2, none⟩ = some (.int .i64 a) := by rw [hw0]; simp [go_sem]
  have o3 : w0.cell? ⟨w.heap.size, 3, none⟩ = some (.string s) := by rw [hw0]; simp [go_sem]
  have o4 : w0.cell? ⟨w.heap.size, 4, none⟩ = some (.slice av ll cv) := by rw [hw0]; simp [go_sem]
  have hz0 : w0.heap.size = w.heap.size + 1 := by rw [hw0]; simp
  have HB0 : Hid (Below w.heap.size w w0) := by rw [hw0]; exact (Below.refl _ _).alloc (Nat.le_refl _) _
  have p0 : w0.cell? ⟨g, 0, none⟩ = some (.slice (some ⟨lb, 0, none⟩) sl lc) := (HB0.out.cell (p := ⟨g, 0, none⟩) gz).trans c0
  have HC0 : ∀ j, j < sl → w0.cell? ⟨lb, j * 2, none⟩ = some (.pointer (some ⟨(entAt S j).d, 0, none⟩)) := fun j hj => (HB0.out.cell (p := ⟨lb, j * 2, none⟩) hlb).trans (HC.out j hj).1
  have HC1 : ∀ j, j < sl → w0.cell? ⟨lb, j * 2 + 1, none⟩ = some (.pointer (some ⟨(entAt S j).r, 0, none⟩)) := fun j hj => (HB0.out.cell (p := ⟨lb, j * 2 + 1, none⟩) hlb).trans (HC.out j hj).2
  rw [← hw0]
  clear hw0 HC
  have gz0 : g < w0.heap.size := by omega
  have lz0 : lb < w0.heap.size := by omega
  have oz0 : w.heap.size < w0.heap.size := by omega
  go_region_held3 (fun w' => w'.cell? ⟨g, 0, none⟩ = some (.slice (some ⟨lb, 0, none⟩) sl lc) ∧ w'.cell? ⟨w.heap.size, 1, none⟩ = some (.int .i64 on) ∧ (∀ j, j < sl → w'.cell? ⟨lb, j * 2, none⟩ = some (.pointer (some ⟨(entAt S j).d, 0, none⟩))) ∧ (∀ j, j < sl → w'.cell? ⟨lb, j * 2 + 1, none⟩ = some (.pointer (some ⟨(entAt S j).r, 0, none⟩)))) (refine ⟨by go_keep, by go_keep, fun i hi => ?_, fun i hi => ?_⟩ <;> simp [*, go_sem]) (first | (go_at_call 19; refine (HP.out _).mono ?_; rintro e w1 ⟨j, hj, rfl, rfl⟩))
  all_goals (
    obtain ⟨wp, hwp⟩ : ∃ wp, wp = (w0.alloc (.cells #[.pointer (some ⟨(entAt S j).d, 0, none⟩), .pointer (some ⟨(entAt S j).r, 0, none⟩)] 56)).drew := ⟨_, rfl⟩
    have q0 : wp.cell? ⟨w.heap.size + 1, 0, none⟩ = some (.pointer (some ⟨(entAt S j).d, 0, none⟩)) := by rw [hwp, ← hz0]; simp [go_sem]
    have q1 : wp.cell? ⟨w.heap.size + 1, 1, none⟩ = some (.pointer (some ⟨(entAt S j).r, 0, none⟩)) := by rw [hwp, ← hz0]; simp [go_sem]
    have u0 : wp.cell? ⟨w.heap.size, 0, none⟩ = some (.int .i64 kind) := by rw [hwp]; simp [go_sem, o0, oz0]
    have u2 : wp.cell? ⟨w.heap.size, 2, none⟩ = some (.int .i64 a) := by rw [hwp]; simp [go_sem, o2, oz0]
    have u3 : wp.cell? ⟨w.heap.size, 3, none⟩ = some (.string s) := by rw [hwp]; simp [go_sem, o3, oz0]
    have u4 : wp.cell? ⟨w.heap.size, 4, none⟩ = some (.slice av ll cv) := by rw [hwp]; simp [go_sem, o4, oz0]
    have hzp : wp.heap.size = w.heap.size + 2 := by rw [hwp]; simp [hz0]
    have HBp : Hid (Below w.heap.size w wp) := by rw [hwp]; exact (Below.alloc HB0.out HB0.out.size _).drew
    have oz : w.heap.size < wp.heap.size := by omega
    have pz : w.heap.size + 1 < wp.heap.size := by omega
    rw [← hwp]
    clear hwp o0 o1 o2 o3 o4 p0 HC0 HC1 HB0
    try clear hs_1
    try clear hs_2
    go_wp2
    go_ret
    exact ⟨rfl, ρ, _, S, HS.out.below HBp.out (Nat.le_succ n), Stp.below HS.out.clean HBp.out⟩)
end Go.Proofs.YtjnhhnbgjjkkjaaDoor
