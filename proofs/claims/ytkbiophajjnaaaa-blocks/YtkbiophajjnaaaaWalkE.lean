/-
  What the document's Parent, Buddy, Halves and Meet (package acreref) answer, whatever the block.
-/
import Derived.Test.YtkbiophajjnaaaaWalkA
import Derived.Test.YtkbiophajjnaaaaPlainB
namespace Go.Proofs.Ytkbiophajjnaaaa
open Go.ChangeShapes Go.WideShapes Go.ChangeAt Go.RowKit
set_option linter.unusedVariables false
set_option linter.unusedSimpArgs false
attribute [local go_sem ↓] Go.wp_at_zero Go.wp_at_succ

set_option maxHeartbeats 400000 in
theorem rparent_no (a n : Int) (w : World) (ha : 0 ≤ a) (hb : a < 4294967296) (h : rt a n = false ∨ n = 0) :
    Calls Try.prog 6 #[.agg #[.int .u32 a, .int .i64 n]] w fun e w' => e = .returned (.tuple #[.agg #[.int .u32 (0), .int .i64 (0)], .int .i64 (2)]) ∧ Below w.heap.size w w' := by
  by_cases hr : rt a n = false
  · go_enter Try.func6, Try.ntmps6
    go_wp2_with (go_at_call 17; refine (rright_any _ _ _ ha hb).mono ?_; rintro e w1 ⟨rfl, hb1⟩; obtain ⟨hc, hf⟩ := bcell hb1; have hk0 : w1.cell? ⟨w.heap.size, 0, none⟩ = some (.int .u32 a) := (by simp [hc, go_sem]); have hk1 : w1.cell? ⟨w.heap.size, 1, none⟩ = some (.int .i64 n) := (by simp [hc, go_sem]); have hk1a : w1.cell? ⟨w.heap.size + 1, 0, none⟩ = some (.int .u32 0) := (by simp [hc, go_sem]); have hk1b : w1.cell? ⟨w.heap.size + 1, 1, none⟩ = some (.int .i64 0) := (by simp [hc, go_sem]); have hk1c : w1.frozen? ⟨w.heap.size + 1, 0, none⟩ = false := (by simp [hf, go_sem]); have hk1d : w1.frozen? ⟨w.heap.size + 1, 1, none⟩ = false := (by simp [hf, go_sem]); have hz1 : w.heap.size + 1 < w1.heap.size := (by have := hb1.size; simp at this; omega); have hz0 : w.heap.size < w1.heap.size := (by have := hb1.size; simp at this; omega); clear hc hf)
    exact bodyPost_ret (v := .tuple #[.agg #[.int .u32 (0), .int .i64 (0)], .int .i64 (2)]) (by simp [results, Try.results6, go_sem, hk1a, hk1b, hk1c, hk1d, World.cell?_alloc_lt, hz1, Nat.lt_succ_of_lt hz1]) rfl ⟨rfl, (by have hq := hb1.mono (B' := w.heap.size) (by simp <;> omega); have hq2 := Below.trans (B := w.heap.size) (a := w) (by repeat' (first | with_reducible assumption | with_reducible exact Below.refl _ _ | with_reducible apply Below.drew | with_reducible apply below_drewN | with_reducible apply Below.setCell | with_reducible apply Below.alloc | omega | (simp; done) | (simp; omega))) hq; clear hq; repeat' (first | with_reducible assumption | with_reducible exact Below.refl _ _ | with_reducible apply Below.drew | with_reducible apply below_drewN | with_reducible apply Below.setCell | with_reducible apply Below.alloc | omega | (simp; done) | (simp; omega)))⟩
  · have hr' : rt a n = true := by simpa using hr
    have hn : (n == 0) = true := (by simpa using h.resolve_left hr)
    go_enter Try.func6, Try.ntmps6
    go_wp2_with (go_at_call 17; refine (rright_any _ _ _ ha hb).mono ?_; rintro e w1 ⟨rfl, hb1⟩; obtain ⟨hc, hf⟩ := bcell hb1; have hk0 : w1.cell? ⟨w.heap.size, 0, none⟩ = some (.int .u32 a) := (by simp [hc, go_sem]); have hk1 : w1.cell? ⟨w.heap.size, 1, none⟩ = some (.int .i64 n) := (by simp [hc, go_sem]); have hk1a : w1.cell? ⟨w.heap.size + 1, 0, none⟩ = some (.int .u32 0) := (by simp [hc, go_sem]); have hk1b : w1.cell? ⟨w.heap.size + 1, 1, none⟩ = some (.int .i64 0) := (by simp [hc, go_sem]); have hk1c : w1.frozen? ⟨w.heap.size + 1, 0, none⟩ = false := (by simp [hf, go_sem]); have hk1d : w1.frozen? ⟨w.heap.size + 1, 1, none⟩ = false := (by simp [hf, go_sem]); have hz1 : w.heap.size + 1 < w1.heap.size := (by have := hb1.size; simp at this; omega); have hz0 : w.heap.size < w1.heap.size := (by have := hb1.size; simp at this; omega); clear hc hf)
    exact bodyPost_ret (v := .tuple #[.agg #[.int .u32 (0), .int .i64 (0)], .int .i64 (2)]) (by simp [results, Try.results6, go_sem, hk1a, hk1b, hk1c, hk1d, World.cell?_alloc_lt, hz1, Nat.lt_succ_of_lt hz1]) rfl ⟨rfl, (by have hq := hb1.mono (B' := w.heap.size) (by simp <;> omega); have hq2 := Below.trans (B := w.heap.size) (a := w) (by repeat' (first | with_reducible assumption | with_reducible exact Below.refl _ _ | with_reducible apply Below.drew | with_reducible apply below_drewN | with_reducible apply Below.setCell | with_reducible apply Below.alloc | omega | (simp; done) | (simp; omega))) hq; clear hq; repeat' (first | with_reducible assumption | with_reducible exact Below.refl _ _ | with_reducible apply Below.drew | with_reducible apply below_drewN | with_reducible apply Below.setCell | with_reducible apply Below.alloc | omega | (simp; done) | (simp; omega)))⟩

set_option maxHeartbeats 400000 in
theorem rparent_yes (a n : Int) (w : World) (ha : 0 ≤ a) (hb : a < 4294967296) (hr : rt a n = true) (h : n ≠ 0) :
    Calls Try.prog 6 #[.agg #[.int .u32 a, .int .i64 n]] w fun e w' => e = .returned (.tuple #[.agg #[.int .u32 (par a n), .int .i64 (n - 1)], .int .i64 (0)]) ∧ Below w.heap.size w w' := by
  obtain ⟨h0, h1, h2⟩ := rt_iff.1 hr
  have hn : (n == 0) = false := by simpa using h
  have hp := sz_pos (n - 1)
  have hl := sz_le (n - 1) (by omega)
  have e : Hid (a / sz (n - 1) * sz (n - 1) = par a n) := rfl
  have hb0 := par_bd a n h1 ha hb
  obtain ⟨e0, e1⟩ : 0 ≤ a / sz (n - 1) * sz (n - 1) ∧ a / sz (n - 1) * sz (n - 1) < 4294967296 := by rw [e.out]; omega
  clear h2 hb0
  go_enter Try.func6, Try.ntmps6
  go_wp2_with (first | (go_at_call 17; refine (rright_any _ _ _ ha hb).mono ?_; rintro e w1 ⟨rfl, hb1⟩; obtain ⟨hc, hf⟩ := bcell hb1; have hk0 : w1.cell? ⟨w.heap.size, 0, none⟩ = some (.int .u32 a) := (by simp [hc, go_sem]); have hk1 : w1.cell? ⟨w.heap.size, 1, none⟩ = some (.int .i64 n) := (by simp [hc, go_sem]); have hk1a : w1.cell? ⟨w.heap.size + 1, 0, none⟩ = some (.int .u32 0) := (by simp [hc, go_sem]); have hk1b : w1.cell? ⟨w.heap.size + 1, 1, none⟩ = some (.int .i64 0) := (by simp [hc, go_sem]); have hk1c : w1.frozen? ⟨w.heap.size + 1, 0, none⟩ = false := (by simp [hf, go_sem]); have hk1d : w1.frozen? ⟨w.heap.size + 1, 1, none⟩ = false := (by simp [hf, go_sem]); have hz1 : w.heap.size + 1 < w1.heap.size := (by have := hb1.size; simp at this; omega); have hz0 : w.heap.size < w1.heap.size := (by have := hb1.size; simp at this; omega); clear hc hf) | (go_at_call 18; refine (rsize_any _ _ (by omega) (by omega)).mono ?_; rintro e w' ⟨rfl, rfl⟩))
  go_region
  all_goals (go_wp2; rw [e.out]; exact bodyPost_ret (v := .tuple #[.agg #[.int .u32 (par a n), .int .i64 (n - 1)], .int .i64 (0)]) (by simp [results, Try.results6, go_sem, hk1a, hk1b, hk1c, hk1d, World.cell?_alloc_lt, hz1, Nat.lt_succ_of_lt hz1]) rfl ⟨rfl, (by have hq := hb1.mono (B' := w.heap.size) (by simp <;> omega); have hq2 := Below.trans (B := w.heap.size) (a := w) (by repeat' (first | with_reducible assumption | with_reducible exact Below.refl _ _ | with_reducible apply Below.drew | with_reducible apply below_drewN | with_reducible apply Below.setCell | with_reducible apply Below.alloc | omega | (simp; done) | (simp; omega))) hq; clear hq; repeat' (first | with_reducible assumption | with_reducible exact Below.refl _ _ | with_reducible apply Below.drew | with_reducible apply below_drewN | with_reducible apply Below.setCell | with_reducible apply Below.alloc | omega | (simp; done) | (simp; omega)))⟩)

set_option maxHeartbeats 400000 in
theorem rhalves_no (a n : Int) (w : World) (ha : 0 ≤ a) (hb : a < 4294967296) (h : rt a n = false ∨ n = 32) :
    Calls Try.prog 11 #[.agg #[.int .u32 a, .int .i64 n]] w fun e w' => e = .returned (.tuple #[.agg #[.int .u32 (0), .int .i64 (0)], .agg #[.int .u32 (0), .int .i64 (0)], .int .i64 (2)]) ∧ Below w.heap.size w w' := by
  by_cases hr : rt a n = false
  · go_enter Try.func11, Try.ntmps11
    go_wp2_with (go_at_call 17; refine (rright_any _ _ _ ha hb).mono ?_; rintro e w1 ⟨rfl, hb1⟩; obtain ⟨hc, hf⟩ := bcell hb1; have hk0 : w1.cell? ⟨w.heap.size, 0, none⟩ = some (.int .u32 a) := (by simp [hc, go_sem]); have hk1 : w1.cell? ⟨w.heap.size, 1, none⟩ = some (.int .i64 n) := (by simp [hc, go_sem]); have hk1a : w1.cell? ⟨w.heap.size + 1, 0, none⟩ = some (.int .u32 0) := (by simp [hc, go_sem]); have hk1b : w1.cell? ⟨w.heap.size + 1, 1, none⟩ = some (.int .i64 0) := (by simp [hc, go_sem]); have hk1c : w1.frozen? ⟨w.heap.size + 1, 0, none⟩ = false := (by simp [hf, go_sem]); have hk1d : w1.frozen? ⟨w.heap.size + 1, 1, none⟩ = false := (by simp [hf, go_sem]); have hk2a : w1.cell? ⟨w.heap.size + 1 + 1, 0, none⟩ = some (.int .u32 0) := (by simp [hc, go_sem]); have hk2b : w1.cell? ⟨w.heap.size + 1 + 1, 1, none⟩ = some (.int .i64 0) := (by simp [hc, go_sem]); have hk2c : w1.frozen? ⟨w.heap.size + 1 + 1, 0, none⟩ = false := (by simp [hf, go_sem]); have hk2d : w1.frozen? ⟨w.heap.size + 1 + 1, 1, none⟩ = false := (by simp [hf, go_sem]); have hz2 : w.heap.size + 1 + 1 < w1.heap.size := (by have := hb1.size; simp at this; omega); have hz1 : w.heap.size + 1 < w1.heap.size := (by have := hb1.size; simp at this; omega); have hz0 : w.heap.size < w1.heap.size := (by have := hb1.size; simp at this; omega); clear hc hf)
    exact bodyPost_ret (v := .tuple #[.agg #[.int .u32 (0), .int .i64 (0)], .agg #[.int .u32 (0), .int .i64 (0)], .int .i64 (2)]) (by simp [results, Try.results11, go_sem, hk1a, hk1b, hk1c, hk1d, hk2a, hk2b, hk2c, hk2d, World.cell?_alloc_lt, hz1, hz2, Nat.lt_succ_of_lt hz1, Nat.lt_succ_of_lt hz2]) rfl ⟨rfl, (by have hq := hb1.mono (B' := w.heap.size) (by simp <;> omega); have hq2 := Below.trans (B := w.heap.size) (a := w) (by repeat' (first | with_reducible assumption | with_reducible exact Below.refl _ _ | with_reducible apply Below.drew | with_reducible apply below_drewN | with_reducible apply Below.setCell | with_reducible apply Below.alloc | omega | (simp; done) | (simp; omega))) hq; clear hq; repeat' (first | with_reducible assumption | with_reducible exact Below.refl _ _ | with_reducible apply Below.drew | with_reducible apply below_drewN | with_reducible apply Below.setCell | with_reducible apply Below.alloc | omega | (simp; done) | (simp; omega)))⟩
  · have hr' : rt a n = true := by simpa using hr
    have hn : (n == 32) = true := (by simpa using h.resolve_left hr)
    go_enter Try.func11, Try.ntmps11
    go_wp2_with (go_at_call 17; refine (rright_any _ _ _ ha hb).mono ?_; rintro e w1 ⟨rfl, hb1⟩; obtain ⟨hc, hf⟩ := bcell hb1; have hk0 : w1.cell? ⟨w.heap.size, 0, none⟩ = some (.int .u32 a) := (by simp [hc, go_sem]); have hk1 : w1.cell? ⟨w.heap.size, 1, none⟩ = some (.int .i64 n) := (by simp [hc, go_sem]); have hk1a : w1.cell? ⟨w.heap.size + 1, 0, none⟩ = some (.int .u32 0) := (by simp [hc, go_sem]); have hk1b : w1.cell? ⟨w.heap.size + 1, 1, none⟩ = some (.int .i64 0) := (by simp [hc, go_sem]); have hk1c : w1.frozen? ⟨w.heap.size + 1, 0, none⟩ = false := (by simp [hf, go_sem]); have hk1d : w1.frozen? ⟨w.heap.size + 1, 1, none⟩ = false := (by simp [hf, go_sem]); have hk2a : w1.cell? ⟨w.heap.size + 1 + 1, 0, none⟩ = some (.int .u32 0) := (by simp [hc, go_sem]); have hk2b : w1.cell? ⟨w.heap.size + 1 + 1, 1, none⟩ = some (.int .i64 0) := (by simp [hc, go_sem]); have hk2c : w1.frozen? ⟨w.heap.size + 1 + 1, 0, none⟩ = false := (by simp [hf, go_sem]); have hk2d : w1.frozen? ⟨w.heap.size + 1 + 1, 1, none⟩ = false := (by simp [hf, go_sem]); have hz2 : w.heap.size + 1 + 1 < w1.heap.size := (by have := hb1.size; simp at this; omega); have hz1 : w.heap.size + 1 < w1.heap.size := (by have := hb1.size; simp at this; omega); have hz0 : w.heap.size < w1.heap.size := (by have := hb1.size; simp at this; omega); clear hc hf)
    exact bodyPost_ret (v := .tuple #[.agg #[.int .u32 (0), .int .i64 (0)], .agg #[.int .u32 (0), .int .i64 (0)], .int .i64 (2)]) (by simp [results, Try.results11, go_sem, hk1a, hk1b, hk1c, hk1d, hk2a, hk2b, hk2c, hk2d, World.cell?_alloc_lt, hz1, hz2, Nat.lt_succ_of_lt hz1, Nat.lt_succ_of_lt hz2]) rfl ⟨rfl, (by have hq := hb1.mono (B' := w.heap.size) (by simp <;> omega); have hq2 := Below.trans (B := w.heap.size) (a := w) (by repeat' (first | with_reducible assumption | with_reducible exact Below.refl _ _ | with_reducible apply Below.drew | with_reducible apply below_drewN | with_reducible apply Below.setCell | with_reducible apply Below.alloc | omega | (simp; done) | (simp; omega))) hq; clear hq; repeat' (first | with_reducible assumption | with_reducible exact Below.refl _ _ | with_reducible apply Below.drew | with_reducible apply below_drewN | with_reducible apply Below.setCell | with_reducible apply Below.alloc | omega | (simp; done) | (simp; omega)))⟩

set_option maxHeartbeats 400000 in
theorem rhalves_yes (a n : Int) (w : World) (ha : 0 ≤ a) (hb : a < 4294967296) (hr : rt a n = true) (h : n ≠ 32) :
    Calls Try.prog 11 #[.agg #[.int .u32 a, .int .i64 n]] w fun e w' => e = .returned (.tuple #[.agg #[.int .u32 (a), .int .i64 (n + 1)], .agg #[.int .u32 (a + sz (n + 1)), .int .i64 (n + 1)], .int .i64 (0)]) ∧ Below w.heap.size w w' := by
  obtain ⟨h0, h1, h2⟩ := rt_iff.1 hr
  have hn : (n == 32) = false := by simpa using h
  have hp := sz_pos (n + 1)
  have hl := sz_le (n + 1) (by omega)
  have he := end_lt a n h0 (by omega) ha hb h2
  clear h2
  go_enter Try.func11, Try.ntmps11
  go_wp2_with (first | (go_at_call 17; refine (rright_any _ _ _ ha hb).mono ?_; rintro e w1 ⟨rfl, hb1⟩; obtain ⟨hc, hf⟩ := bcell hb1; have hk0 : w1.cell? ⟨w.heap.size, 0, none⟩ = some (.int .u32 a) := (by simp [hc, go_sem]); have hk1 : w1.cell? ⟨w.heap.size, 1, none⟩ = some (.int .i64 n) := (by simp [hc, go_sem]); have hk1a : w1.cell? ⟨w.heap.size + 1, 0, none⟩ = some (.int .u32 0) := (by simp [hc, go_sem]); have hk1b : w1.cell? ⟨w.heap.size + 1, 1, none⟩ = some (.int .i64 0) := (by simp [hc, go_sem]); have hk1c : w1.frozen? ⟨w.heap.size + 1, 0, none⟩ = false := (by simp [hf, go_sem]); have hk1d : w1.frozen? ⟨w.heap.size + 1, 1, none⟩ = false := (by simp [hf, go_sem]); have hk2a : w1.cell? ⟨w.heap.size + 1 + 1, 0, none⟩ = some (.int .u32 0) := (by simp [hc, go_sem]); have hk2b : w1.cell? ⟨w.heap.size + 1 + 1, 1, none⟩ = some (.int .i64 0) := (by simp [hc, go_sem]); have hk2c : w1.frozen? ⟨w.heap.size + 1 + 1, 0, none⟩ = false := (by simp [hf, go_sem]); have hk2d : w1.frozen? ⟨w.heap.size + 1 + 1, 1, none⟩ = false := (by simp [hf, go_sem]); have hz2 : w.heap.size + 1 + 1 < w1.heap.size := (by have := hb1.size; simp at this; omega); have hz1 : w.heap.size + 1 < w1.heap.size := (by have := hb1.size; simp at this; omega); have hz0 : w.heap.size < w1.heap.size := (by have := hb1.size; simp at this; omega); clear hc hf) | (go_at_call 18; refine (rsize_any _ _ (by omega) (by omega)).mono ?_; rintro e w' ⟨rfl, rfl⟩))
  go_region
  all_goals (go_wp2; exact bodyPost_ret (v := .tuple #[.agg #[.int .u32 (a), .int .i64 (n + 1)], .agg #[.int .u32 (a + sz (n + 1)), .int .i64 (n + 1)], .int .i64 (0)]) (by simp [results, Try.results11, go_sem, hk1a, hk1b, hk1c, hk1d, hk2a, hk2b, hk2c, hk2d, World.cell?_alloc_lt, hz1, hz2, Nat.lt_succ_of_lt hz1, Nat.lt_succ_of_lt hz2]) rfl ⟨rfl, (by have hq := hb1.mono (B' := w.heap.size) (by simp <;> omega); have hq2 := Below.trans (B := w.heap.size) (a := w) (by repeat' (first | with_reducible assumption | with_reducible exact Below.refl _ _ | with_reducible apply Below.drew | with_reducible apply below_drewN | with_reducible apply Below.setCell | with_reducible apply Below.alloc | omega | (simp; done) | (simp; omega))) hq; clear hq; repeat' (first | with_reducible assumption | with_reducible exact Below.refl _ _ | with_reducible apply Below.drew | with_reducible apply below_drewN | with_reducible apply Below.setCell | with_reducible apply Below.alloc | omega | (simp; done) | (simp; omega)))⟩)

theorem rparent_any (a n : Int) (w : World) (ha : 0 ≤ a) (hb : a < 4294967296) :
    Calls Try.prog 6 #[.agg #[.int .u32 a, .int .i64 n]] w fun e w' => e = .returned (.tuple #[.agg #[.int .u32 (pB a n), .int .i64 (pN a n)], .int .i64 (pE a n)]) ∧ Below w.heap.size w w' := by
  rcases ho : pOk a n with _ | _
  · have h := rparent_no a n w ha hb (pOk_no ho)
    simpa [pB, pN, pE, ho] using h
  · obtain ⟨h1, h2⟩ := pOk_yes ho
    have h := rparent_yes a n w ha hb h1 h2
    simpa [pB, pN, pE, ho] using h

theorem rhalves_any (a n : Int) (w : World) (ha : 0 ≤ a) (hb : a < 4294967296) :
    Calls Try.prog 11 #[.agg #[.int .u32 a, .int .i64 n]] w fun e w' => e = .returned (.tuple #[.agg #[.int .u32 (hB a n), .int .i64 (hN a n)], .agg #[.int .u32 (hC a n), .int .i64 (hN a n)], .int .i64 (hE a n)]) ∧ Below w.heap.size w w' := by
  rcases ho : hOk a n with _ | _
  · have h := rhalves_no a n w ha hb (hOk_no ho)
    simpa [hB, hC, hN, hE, ho] using h
  · obtain ⟨h1, h2⟩ := hOk_yes ho
    have h := rhalves_yes a n w ha hb h1 h2
    simpa [hB, hC, hN, hE, ho] using h

theorem rhalves_par (a n : Int) (w : World) (ha : 0 ≤ a) (hb : a < 4294967296) (h0 : 1 ≤ n) (h1 : n ≤ 32) :
    Calls Try.prog 11 #[.agg #[.int .u32 (par a n), .int .i64 (n - 1)]] w fun e w' => e = .returned (.tuple #[.agg #[.int .u32 (par a n), .int .i64 (n)], .agg #[.int .u32 (par a n + sz n), .int .i64 (n)], .int .i64 (0)]) ∧ Below w.heap.size w w' := by
  have hp := par_bd a n h1 ha hb
  have h := rhalves_yes (par a n) (n - 1) w (by omega) (by omega) (par_rt a n h0 h1) (by omega)
  rw [show n - 1 + 1 = n by omega] at h
  exact h

set_option maxHeartbeats 400000 in
theorem rbuddy_no (a n : Int) (w : World) (ha : 0 ≤ a) (hb : a < 4294967296) (h : rt a n = false ∨ n = 0) :
    Calls Try.prog 9 #[.agg #[.int .u32 a, .int .i64 n]] w fun e w' => e = .returned (.tuple #[.agg #[.int .u32 (0), .int .i64 (0)], .int .i64 (2)]) ∧ Below w.heap.size w w' := by
  go_enter Try.func9, Try.ntmps9
  go_wp2_with (go_at_call 6; refine (rparent_no _ _ _ ha hb h).mono ?_; rintro e w1 ⟨rfl, hb1⟩; obtain ⟨hc, hf⟩ := bcell hb1; have hk0 : w1.cell? ⟨w.heap.size, 0, none⟩ = some (.int .u32 a) := (by simp [hc, go_sem]); have hk1 : w1.cell? ⟨w.heap.size, 1, none⟩ = some (.int .i64 n) := (by simp [hc, go_sem]); have hk1a : w1.cell? ⟨w.heap.size + 1, 0, none⟩ = some (.int .u32 0) := (by simp [hc, go_sem]); have hk1b : w1.cell? ⟨w.heap.size + 1, 1, none⟩ = some (.int .i64 0) := (by simp [hc, go_sem]); have hk1c : w1.frozen? ⟨w.heap.size + 1, 0, none⟩ = false := (by simp [hf, go_sem]); have hk1d : w1.frozen? ⟨w.heap.size + 1, 1, none⟩ = false := (by simp [hf, go_sem]); have hz1 : w.heap.size + 1 < w1.heap.size := (by have := hb1.size; simp at this; omega); have hz0 : w.heap.size < w1.heap.size := (by have := hb1.size; simp at this; omega); clear hc hf)
  exact bodyPost_ret (v := .tuple #[.agg #[.int .u32 (0), .int .i64 (0)], .int .i64 (2)]) (by simp [results, Try.results9, go_sem, hk1a, hk1b, hk1c, hk1d, World.cell?_alloc_lt, hz1, Nat.lt_succ_of_lt hz1]) rfl ⟨rfl, (by have hq := hb1.mono (B' := w.heap.size) (by simp <;> omega); have hq2 := Below.trans (B := w.heap.size) (a := w) (by repeat' (first | with_reducible assumption | with_reducible exact Below.refl _ _ | with_reducible apply Below.drew | with_reducible apply below_drewN | with_reducible apply Below.setCell | with_reducible apply Below.alloc | omega | (simp; done) | (simp; omega))) hq; clear hq; repeat' (first | with_reducible assumption | with_reducible exact Below.refl _ _ | with_reducible apply Below.drew | with_reducible apply below_drewN | with_reducible apply Below.setCell | with_reducible apply Below.alloc | omega | (simp; done) | (simp; omega)))⟩

set_option maxHeartbeats 800000 in
theorem rbuddy_yes (a n : Int) (w : World) (ha : 0 ≤ a) (hb : a < 4294967296) (hr : rt a n = true) (h : n ≠ 0) :
    Calls Try.prog 9 #[.agg #[.int .u32 a, .int .i64 n]] w fun e w' => e = .returned (.tuple #[.agg #[.int .u32 (bud a n), .int .i64 (n)], .int .i64 (0)]) ∧ Below w.heap.size w w' := by
  obtain ⟨h0, h1, h2⟩ := rt_iff.1 hr
  clear h2
  by_cases hq : par a n = a
  · have hu : bud a n = par a n + sz n := by unfold bud; rw [if_pos hq, hq]
    have hq' : (par a n == a) = true := by simpa using hq
    rw [hu]
    clear hq hu
    go_enter Try.func9, Try.ntmps9
    go_wp2_with (first | (go_at_call 6; refine (rparent_yes _ _ _ ha hb hr h).mono ?_; rintro e w1 ⟨rfl, hb1⟩; obtain ⟨hc, hf⟩ := bcell hb1; have hk0 : w1.cell? ⟨w.heap.size, 0, none⟩ = some (.int .u32 a) := (by simp [hc, go_sem]); have hk1 : w1.cell? ⟨w.heap.size, 1, none⟩ = some (.int .i64 n) := (by simp [hc, go_sem]); have hk1a : w1.cell? ⟨w.heap.size + 1, 0, none⟩ = some (.int .u32 0) := (by simp [hc, go_sem]); have hk1b : w1.cell? ⟨w.heap.size + 1, 1, none⟩ = some (.int .i64 0) := (by simp [hc, go_sem]); have hk1c : w1.frozen? ⟨w.heap.size + 1, 0, none⟩ = false := (by simp [hf, go_sem]); have hk1d : w1.frozen? ⟨w.heap.size + 1, 1, none⟩ = false := (by simp [hf, go_sem]); have hz1 : w.heap.size + 1 < w1.heap.size := (by have := hb1.size; simp at this; omega); have hz0 : w.heap.size < w1.heap.size := (by have := hb1.size; simp at this; omega); clear hc hf) | (go_at_call 11; refine (rhalves_par _ _ _ ha hb (by omega) h1).mono ?_; rintro e w2 ⟨rfl, hb2⟩; obtain ⟨hc2, hf2⟩ := bcell hb2; have hl0 : w2.cell? ⟨w.heap.size, 0, none⟩ = some (.int .u32 a) := (by rw [hc2 _ _ (by simp <;> omega), World.cell?_alloc_past _ _ _ hz0]; exact hk0); have hl1 : w2.cell? ⟨w.heap.size, 1, none⟩ = some (.int .i64 n) := (by rw [hc2 _ _ (by simp <;> omega), World.cell?_alloc_past _ _ _ hz0]; exact hk1); have hl1a : w2.cell? ⟨w.heap.size + 1, 0, none⟩ = some (.int .u32 0) := (by rw [hc2 _ _ (by simp <;> omega), World.cell?_alloc_past _ _ _ hz1]; exact hk1a); have hl1b : w2.cell? ⟨w.heap.size + 1, 1, none⟩ = some (.int .i64 0) := (by rw [hc2 _ _ (by simp <;> omega), World.cell?_alloc_past _ _ _ hz1]; exact hk1b); have hl1c : w2.frozen? ⟨w.heap.size + 1, 0, none⟩ = false := (by rw [hf2 _ _ (by simp <;> omega), World.frozen?_alloc_past _ _ _ hz1]; exact hk1c); have hl1d : w2.frozen? ⟨w.heap.size + 1, 1, none⟩ = false := (by rw [hf2 _ _ (by simp <;> omega), World.frozen?_alloc_past _ _ _ hz1]; exact hk1d); have hy0 : w.heap.size < w2.heap.size := (by have := hb2.size; simp at this; omega); have hy1 : w.heap.size + 1 < w2.heap.size := (by have := hb2.size; simp at this; omega); clear hc2 hf2))
    exact bodyPost_ret (v := .tuple #[.agg #[.int .u32 (par a n + sz n), .int .i64 (n)], .int .i64 (0)]) (by simp [results, Try.results9, go_sem, hl1a, hl1b, hl1c, hl1d, World.cell?_alloc_lt, hy1, Nat.lt_succ_of_lt hy1]) rfl ⟨rfl, (by have hq := hb1.mono (B' := w.heap.size) (by simp <;> omega); have hq2 := Below.trans (B := w.heap.size) (a := w) (by repeat' (first | with_reducible assumption | with_reducible exact Below.refl _ _ | with_reducible apply Below.drew | with_reducible apply below_drewN | with_reducible apply Below.setCell | with_reducible apply Below.alloc | omega | (simp; done) | (simp; omega))) hq; clear hq; have hq3 := Below.trans (B := w.heap.size) (a := w) (by repeat' (first | with_reducible assumption | with_reducible exact Below.refl _ _ | with_reducible apply Below.drew | with_reducible apply below_drewN | with_reducible apply Below.setCell | with_reducible apply Below.alloc | omega | (simp; done) | (simp; omega))) (hb2.mono (B' := w.heap.size) (by simp <;> omega)); clear hq2; repeat' (first | with_reducible assumption | with_reducible exact Below.refl _ _ | with_reducible apply Below.drew | with_reducible apply below_drewN | with_reducible apply Below.setCell | with_reducible apply Below.alloc | omega | (simp; done) | (simp; omega)))⟩
  · have hu : bud a n = par a n := by unfold bud; rw [if_neg hq]
    have hq' : (par a n == a) = false := by simpa using hq
    rw [hu]
    clear hq hu
    go_enter Try.func9, Try.ntmps9
    go_wp2_with (first | (go_at_call 6; refine (rparent_yes _ _ _ ha hb hr h).mono ?_; rintro e w1 ⟨rfl, hb1⟩; obtain ⟨hc, hf⟩ := bcell hb1; have hk0 : w1.cell? ⟨w.heap.size, 0, none⟩ = some (.int .u32 a) := (by simp [hc, go_sem]); have hk1 : w1.cell? ⟨w.heap.size, 1, none⟩ = some (.int .i64 n) := (by simp [hc, go_sem]); have hk1a : w1.cell? ⟨w.heap.size + 1, 0, none⟩ = some (.int .u32 0) := (by simp [hc, go_sem]); have hk1b : w1.cell? ⟨w.heap.size + 1, 1, none⟩ = some (.int .i64 0) := (by simp [hc, go_sem]); have hk1c : w1.frozen? ⟨w.heap.size + 1, 0, none⟩ = false := (by simp [hf, go_sem]); have hk1d : w1.frozen? ⟨w.heap.size + 1, 1, none⟩ = false := (by simp [hf, go_sem]); have hz1 : w.heap.size + 1 < w1.heap.size := (by have := hb1.size; simp at this; omega); have hz0 : w.heap.size < w1.heap.size := (by have := hb1.size; simp at this; omega); clear hc hf) | (go_at_call 11; refine (rhalves_par _ _ _ ha hb (by omega) h1).mono ?_; rintro e w2 ⟨rfl, hb2⟩; obtain ⟨hc2, hf2⟩ := bcell hb2; have hl0 : w2.cell? ⟨w.heap.size, 0, none⟩ = some (.int .u32 a) := (by rw [hc2 _ _ (by simp <;> omega), World.cell?_alloc_past _ _ _ hz0]; exact hk0); have hl1 : w2.cell? ⟨w.heap.size, 1, none⟩ = some (.int .i64 n) := (by rw [hc2 _ _ (by simp <;> omega), World.cell?_alloc_past _ _ _ hz0]; exact hk1); have hl1a : w2.cell? ⟨w.heap.size + 1, 0, none⟩ = some (.int .u32 0) := (by rw [hc2 _ _ (by simp <;> omega), World.cell?_alloc_past _ _ _ hz1]; exact hk1a); have hl1b : w2.cell? ⟨w.heap.size + 1, 1, none⟩ = some (.int .i64 0) := (by rw [hc2 _ _ (by simp <;> omega), World.cell?_alloc_past _ _ _ hz1]; exact hk1b); have hl1c : w2.frozen? ⟨w.heap.size + 1, 0, none⟩ = false := (by rw [hf2 _ _ (by simp <;> omega), World.frozen?_alloc_past _ _ _ hz1]; exact hk1c); have hl1d : w2.frozen? ⟨w.heap.size + 1, 1, none⟩ = false := (by rw [hf2 _ _ (by simp <;> omega), World.frozen?_alloc_past _ _ _ hz1]; exact hk1d); have hy0 : w.heap.size < w2.heap.size := (by have := hb2.size; simp at this; omega); have hy1 : w.heap.size + 1 < w2.heap.size := (by have := hb2.size; simp at this; omega); clear hc2 hf2))
    exact bodyPost_ret (v := .tuple #[.agg #[.int .u32 (par a n), .int .i64 (n)], .int .i64 (0)]) (by simp [results, Try.results9, go_sem, hl1a, hl1b, hl1c, hl1d, World.cell?_alloc_lt, hy1, Nat.lt_succ_of_lt hy1]) rfl ⟨rfl, (by have hq := hb1.mono (B' := w.heap.size) (by simp <;> omega); have hq2 := Below.trans (B := w.heap.size) (a := w) (by repeat' (first | with_reducible assumption | with_reducible exact Below.refl _ _ | with_reducible apply Below.drew | with_reducible apply below_drewN | with_reducible apply Below.setCell | with_reducible apply Below.alloc | omega | (simp; done) | (simp; omega))) hq; clear hq; have hq3 := Below.trans (B := w.heap.size) (a := w) (by repeat' (first | with_reducible assumption | with_reducible exact Below.refl _ _ | with_reducible apply Below.drew | with_reducible apply below_drewN | with_reducible apply Below.setCell | with_reducible apply Below.alloc | omega | (simp; done) | (simp; omega))) (hb2.mono (B' := w.heap.size) (by simp <;> omega)); clear hq2; repeat' (first | with_reducible assumption | with_reducible exact Below.refl _ _ | with_reducible apply Below.drew | with_reducible apply below_drewN | with_reducible apply Below.setCell | with_reducible apply Below.alloc | omega | (simp; done) | (simp; omega)))⟩

theorem rbuddy_any (a n : Int) (w : World) (ha : 0 ≤ a) (hb : a < 4294967296) :
    Calls Try.prog 9 #[.agg #[.int .u32 a, .int .i64 n]] w fun e w' => e = .returned (.tuple #[.agg #[.int .u32 (uB a n), .int .i64 (uN a n)], .int .i64 (pE a n)]) ∧ Below w.heap.size w w' := by
  rcases ho : pOk a n with _ | _
  · have h := rbuddy_no a n w ha hb (pOk_no ho)
    simpa [uB, uN, pE, ho] using h
  · obtain ⟨h1, h2⟩ := pOk_yes ho
    have h := rbuddy_yes a n w ha hb h1 h2
    simpa [uB, uN, pE, ho] using h

set_option maxHeartbeats 400000 in
theorem rlast_any (a n : Int) (w : World) (ha : 0 ≤ a) (hb : a < 4294967296) (h0 : 0 ≤ n) (h1 : n ≤ 32) :
    Calls Try.prog 22 #[.agg #[.int .u32 a, .int .i64 n]] w fun e w' => e = .returned (.int .i64 (lst a n)) ∧ Below w.heap.size w w' := by
  have hp := sz_pos n
  have hl := sz_le n h0
  have hq : Hid (a + sz n - 1 = lst a n) := rfl
  go_enter Try.func22, Try.ntmps22
  go_wp2_with (go_at_call 18; refine (rsize_any _ _ (by omega) (by omega)).mono ?_; rintro e w' ⟨rfl, rfl⟩)
  go_ret
  exact ⟨ret_int hq.out, (by repeat' (first | with_reducible assumption | with_reducible exact Below.refl _ _ | with_reducible apply Below.drew | with_reducible apply below_drewN | with_reducible apply Below.setCell | with_reducible apply Below.alloc | omega | (simp; done) | (simp; omega)))⟩

end Go.Proofs.Ytkbiophajjnaaaa
