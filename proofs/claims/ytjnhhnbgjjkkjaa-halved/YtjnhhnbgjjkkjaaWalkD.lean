/-
  What Parent, Buddy, Halves and Meet answer, whatever the block: the code's, by its packages blocks and acre.
-/
import Derived.Test.YtjnhhnbgjjkkjaaWalkB
import Derived.Test.YtjnhhnbgjjkkjaaWalkC
namespace Go.Proofs.Ytjnhhnbgjjkkjaa
open Go.ChangeShapes Go.WideShapes Go.ChangeAt Go.RowKit
set_option linter.unusedVariables false
set_option linter.unusedSimpArgs false
attribute [local go_sem ↓] Go.wp_at_zero Go.wp_at_succ

theorem bparent_any (a n : Int) (w : World) (ha : 0 ≤ a) (hb : a < 4294967296) :
    Calls Try.prog 16 #[.agg #[.int .u32 a, .int .i64 n]] w fun e w' => e = .returned (.tuple #[.agg #[.int .u32 (pB a n), .int .i64 (pN a n)], .int .i64 (pE a n)]) ∧ Below w.heap.size w w' := by
  rcases ho : pOk a n with _ | _
  · have h := bparent_no a n w ha hb (pOk_no ho)
    simpa [pB, pN, pE, ho] using h
  · obtain ⟨h1, h2⟩ := pOk_yes ho
    have h := bparent_yes a n w ha hb h1 h2
    simpa [pB, pN, pE, ho] using h

theorem bbuddy_any (a n : Int) (w : World) (ha : 0 ≤ a) (hb : a < 4294967296) :
    Calls Try.prog 19 #[.agg #[.int .u32 a, .int .i64 n]] w fun e w' => e = .returned (.tuple #[.agg #[.int .u32 (uB a n), .int .i64 (uN a n)], .int .i64 (pE a n)]) ∧ Below w.heap.size w w' := by
  rcases ho : pOk a n with _ | _
  · have h := bbuddy_no a n w ha hb (pOk_no ho)
    simpa [uB, uN, pE, ho] using h
  · obtain ⟨h1, h2⟩ := pOk_yes ho
    have h := bbuddy_yes a n w ha hb h1 h2
    simpa [uB, uN, pE, ho] using h

theorem bhalves_any (a n : Int) (w : World) (ha : 0 ≤ a) (hb : a < 4294967296) :
    Calls Try.prog 20 #[.agg #[.int .u32 a, .int .i64 n]] w fun e w' => e = .returned (.tuple #[.agg #[.int .u32 (hB a n), .int .i64 (hN a n)], .agg #[.int .u32 (hC a n), .int .i64 (hN a n)], .int .i64 (hE a n)]) ∧ Below w.heap.size w w' := by
  rcases ho : hOk a n with _ | _
  · have h := bhalves_no a n w ha hb (hOk_no ho)
    simpa [hB, hC, hN, hE, ho] using h
  · obtain ⟨h1, h2⟩ := hOk_yes ho
    have h := bhalves_yes a n w ha hb h1 h2
    simpa [hB, hC, hN, hE, ho] using h

set_option maxHeartbeats 400000 in
theorem aparent_any (a n : Int) (w : World) (ha : 0 ≤ a) (hb : a < 4294967296) :
    Calls Try.prog 5 #[.agg #[.int .u32 a, .int .i64 n]] w fun e w' => e = .returned (.tuple #[.agg #[.int .u32 (pB a n), .int .i64 (pN a n)], .int .i64 (pE a n)]) ∧ Below w.heap.size w w' := by
  go_enter Try.func5, Try.ntmps5
  go_wp2_with (go_at_call 16; refine (bparent_any _ _ _ ha hb).mono ?_; rintro e w1 ⟨rfl, hb1⟩; obtain ⟨hc, hf⟩ := bcell hb1; have hk0 : w1.cell? ⟨w.heap.size, 0, none⟩ = some (.int .u32 a) := (by simp [hc, go_sem]); have hk1 : w1.cell? ⟨w.heap.size, 1, none⟩ = some (.int .i64 n) := (by simp [hc, go_sem]); have hk1a : w1.cell? ⟨w.heap.size + 1, 0, none⟩ = some (.int .u32 0) := (by simp [hc, go_sem]); have hk1b : w1.cell? ⟨w.heap.size + 1, 1, none⟩ = some (.int .i64 0) := (by simp [hc, go_sem]); have hk1c : w1.frozen? ⟨w.heap.size + 1, 0, none⟩ = false := (by simp [hf, go_sem]); have hk1d : w1.frozen? ⟨w.heap.size + 1, 1, none⟩ = false := (by simp [hf, go_sem]); have hz1 : w.heap.size + 1 < w1.heap.size := (by have := hb1.size; (try simp at this); omega); have hz0 : w.heap.size < w1.heap.size := (by have := hb1.size; (try simp at this); omega); clear hc hf)
  exact bodyPost_ret (v := .tuple #[.agg #[.int .u32 (pB a n), .int .i64 (pN a n)], .int .i64 (pE a n)]) (by simp [results, Try.results5, go_sem, hk1a, hk1b, hk1c, hk1d, World.cell?_alloc_lt, hz1, Nat.lt_succ_of_lt hz1]) rfl ⟨rfl, (by have hq := hb1.mono (B' := w.heap.size) (by first | omega | (simp; done) | (simp; omega)); have hq2 := Below.trans (B := w.heap.size) (a := w) (by repeat' (first | with_reducible assumption | with_reducible exact Below.refl _ _ | with_reducible apply Below.drew | with_reducible apply below_drewN | with_reducible apply Below.setCell | with_reducible apply Below.alloc | omega | (simp; done) | (simp; omega))) hq; clear hq; repeat' (first | with_reducible assumption | with_reducible exact Below.refl _ _ | with_reducible apply Below.drew | with_reducible apply below_drewN | with_reducible apply Below.setCell | with_reducible apply Below.alloc | omega | (simp; done) | (simp; omega)))⟩

set_option maxHeartbeats 400000 in
theorem abuddy_any (a n : Int) (w : World) (ha : 0 ≤ a) (hb : a < 4294967296) :
    Calls Try.prog 8 #[.agg #[.int .u32 a, .int .i64 n]] w fun e w' => e = .returned (.tuple #[.agg #[.int .u32 (uB a n), .int .i64 (uN a n)], .int .i64 (pE a n)]) ∧ Below w.heap.size w w' := by
  go_enter Try.func8, Try.ntmps8
  go_wp2_with (go_at_call 19; refine (bbuddy_any _ _ _ ha hb).mono ?_; rintro e w1 ⟨rfl, hb1⟩; obtain ⟨hc, hf⟩ := bcell hb1; have hk0 : w1.cell? ⟨w.heap.size, 0, none⟩ = some (.int .u32 a) := (by simp [hc, go_sem]); have hk1 : w1.cell? ⟨w.heap.size, 1, none⟩ = some (.int .i64 n) := (by simp [hc, go_sem]); have hk1a : w1.cell? ⟨w.heap.size + 1, 0, none⟩ = some (.int .u32 0) := (by simp [hc, go_sem]); have hk1b : w1.cell? ⟨w.heap.size + 1, 1, none⟩ = some (.int .i64 0) := (by simp [hc, go_sem]); have hk1c : w1.frozen? ⟨w.heap.size + 1, 0, none⟩ = false := (by simp [hf, go_sem]); have hk1d : w1.frozen? ⟨w.heap.size + 1, 1, none⟩ = false := (by simp [hf, go_sem]); have hz1 : w.heap.size + 1 < w1.heap.size := (by have := hb1.size; (try simp at this); omega); have hz0 : w.heap.size < w1.heap.size := (by have := hb1.size; (try simp at this); omega); clear hc hf)
  exact bodyPost_ret (v := .tuple #[.agg #[.int .u32 (uB a n), .int .i64 (uN a n)], .int .i64 (pE a n)]) (by simp [results, Try.results8, go_sem, hk1a, hk1b, hk1c, hk1d, World.cell?_alloc_lt, hz1, Nat.lt_succ_of_lt hz1]) rfl ⟨rfl, (by have hq := hb1.mono (B' := w.heap.size) (by first | omega | (simp; done) | (simp; omega)); have hq2 := Below.trans (B := w.heap.size) (a := w) (by repeat' (first | with_reducible assumption | with_reducible exact Below.refl _ _ | with_reducible apply Below.drew | with_reducible apply below_drewN | with_reducible apply Below.setCell | with_reducible apply Below.alloc | omega | (simp; done) | (simp; omega))) hq; clear hq; repeat' (first | with_reducible assumption | with_reducible exact Below.refl _ _ | with_reducible apply Below.drew | with_reducible apply below_drewN | with_reducible apply Below.setCell | with_reducible apply Below.alloc | omega | (simp; done) | (simp; omega)))⟩

set_option maxHeartbeats 400000 in
theorem ahalves_any (a n : Int) (w : World) (ha : 0 ≤ a) (hb : a < 4294967296) :
    Calls Try.prog 10 #[.agg #[.int .u32 a, .int .i64 n]] w fun e w' => e = .returned (.tuple #[.agg #[.int .u32 (hB a n), .int .i64 (hN a n)], .agg #[.int .u32 (hC a n), .int .i64 (hN a n)], .int .i64 (hE a n)]) ∧ Below w.heap.size w w' := by
  go_enter Try.func10, Try.ntmps10
  go_wp2_with (go_at_call 20; refine (bhalves_any _ _ _ ha hb).mono ?_; rintro e w1 ⟨rfl, hb1⟩; obtain ⟨hc, hf⟩ := bcell hb1; have hk0 : w1.cell? ⟨w.heap.size, 0, none⟩ = some (.int .u32 a) := (by simp [hc, go_sem]); have hk1 : w1.cell? ⟨w.heap.size, 1, none⟩ = some (.int .i64 n) := (by simp [hc, go_sem]); have hk1a : w1.cell? ⟨w.heap.size + 1, 0, none⟩ = some (.int .u32 0) := (by simp [hc, go_sem]); have hk1b : w1.cell? ⟨w.heap.size + 1, 1, none⟩ = some (.int .i64 0) := (by simp [hc, go_sem]); have hk1c : w1.frozen? ⟨w.heap.size + 1, 0, none⟩ = false := (by simp [hf, go_sem]); have hk1d : w1.frozen? ⟨w.heap.size + 1, 1, none⟩ = false := (by simp [hf, go_sem]); have hk2a : w1.cell? ⟨w.heap.size + 1 + 1, 0, none⟩ = some (.int .u32 0) := (by simp [hc, go_sem]); have hk2b : w1.cell? ⟨w.heap.size + 1 + 1, 1, none⟩ = some (.int .i64 0) := (by simp [hc, go_sem]); have hk2c : w1.frozen? ⟨w.heap.size + 1 + 1, 0, none⟩ = false := (by simp [hf, go_sem]); have hk2d : w1.frozen? ⟨w.heap.size + 1 + 1, 1, none⟩ = false := (by simp [hf, go_sem]); have hz2 : w.heap.size + 1 + 1 < w1.heap.size := (by have := hb1.size; (try simp at this); omega); have hz1 : w.heap.size + 1 < w1.heap.size := (by have := hb1.size; (try simp at this); omega); have hz0 : w.heap.size < w1.heap.size := (by have := hb1.size; (try simp at this); omega); clear hc hf)
  exact bodyPost_ret (v := .tuple #[.agg #[.int .u32 (hB a n), .int .i64 (hN a n)], .agg #[.int .u32 (hC a n), .int .i64 (hN a n)], .int .i64 (hE a n)]) (by simp [results, Try.results10, go_sem, hk1a, hk1b, hk1c, hk1d, hk2a, hk2b, hk2c, hk2d, World.cell?_alloc_lt, hz1, hz2, Nat.lt_succ_of_lt hz1, Nat.lt_succ_of_lt hz2]) rfl ⟨rfl, (by have hq := hb1.mono (B' := w.heap.size) (by first | omega | (simp; done) | (simp; omega)); have hq2 := Below.trans (B := w.heap.size) (a := w) (by repeat' (first | with_reducible assumption | with_reducible exact Below.refl _ _ | with_reducible apply Below.drew | with_reducible apply below_drewN | with_reducible apply Below.setCell | with_reducible apply Below.alloc | omega | (simp; done) | (simp; omega))) hq; clear hq; repeat' (first | with_reducible assumption | with_reducible exact Below.refl _ _ | with_reducible apply Below.drew | with_reducible apply below_drewN | with_reducible apply Below.setCell | with_reducible apply Below.alloc | omega | (simp; done) | (simp; omega)))⟩

set_option maxHeartbeats 400000 in
theorem ameet_any (a m b n : Int) (w : World) (ha : 0 ≤ a) (hb : a < 4294967296) (ka : 0 ≤ b) (kb : b < 4294967296) :
    Calls Try.prog 12 #[.agg #[.int .u32 a, .int .i64 m], .agg #[.int .u32 b, .int .i64 n]] w fun e w' => e = .returned (.bool (mm a m b n)) ∧ Below w.heap.size w w' := by
  go_enter Try.func12, Try.ntmps12
  go_wp2_with (go_at_call 21; refine (bmeet_any _ _ _ _ _ ha hb ka kb).mono ?_; rintro e w1 ⟨rfl, hb1⟩)
  go_ret
  exact ⟨rfl, (by have hq := hb1.mono (B' := w.heap.size) (by first | omega | (simp; done) | (simp; omega)); have hq2 := Below.trans (B := w.heap.size) (a := w) (by repeat' (first | with_reducible assumption | with_reducible exact Below.refl _ _ | with_reducible apply Below.drew | with_reducible apply below_drewN | with_reducible apply Below.setCell | with_reducible apply Below.alloc | omega | (simp; done) | (simp; omega))) hq; clear hq; repeat' (first | with_reducible assumption | with_reducible exact Below.refl _ _ | with_reducible apply Below.drew | with_reducible apply below_drewN | with_reducible apply Below.setCell | with_reducible apply Below.alloc | omega | (simp; done) | (simp; omega)))⟩
end Go.Proofs.Ytjnhhnbgjjkkjaa
