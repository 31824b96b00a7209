/-
  The contracts of Meet: the code's (packages blocks and acre).
-/
import Derived.Test.YtkbiophajjnaaaaWalkA
import Derived.Test.YtkbiophajjnaaaaPlainB
namespace Go.Proofs.Ytkbiophajjnaaaa
open Go.ChangeShapes Go.WideShapes Go.ChangeAt Go.RowKit
set_option linter.unusedVariables false
set_option linter.unusedSimpArgs false
attribute [local go_sem ↓] Go.wp_at_zero Go.wp_at_succ

set_option maxHeartbeats 400000 in
theorem bmeet_any (a m b n : Int) (w : World) (ha : 0 ≤ a) (hb : a < 4294967296) (ka : 0 ≤ b) (kb : b < 4294967296) :
    Calls Try.prog 21 #[.agg #[.int .u32 a, .int .i64 m], .agg #[.int .u32 b, .int .i64 n]] w fun e w' => e = .returned (.bool (rt a m && rt b n && mt a m b n)) ∧ Below w.heap.size w w' := by
  by_cases ra : rt a m = false
  · go_enter Try.func21, Try.ntmps21
    go_wp2_with (go_at_call 24; refine (right_any _ _ _ ha hb).mono ?_; rintro e w1 ⟨rfl, hb1⟩; obtain ⟨hc, hf⟩ := bcell hb1; have hz : w.heap.size + 1 < w1.heap.size := (by have := hb1.size; simp at this; omega))
    go_ret
    exact ⟨ret_bool (by simp [ra]), (by have hq := hb1.mono (B' := w.heap.size) (by simp <;> omega); have hq2 := Below.trans (B := w.heap.size) (a := w) (by repeat' (first | with_reducible assumption | with_reducible exact Below.refl _ _ | with_reducible apply Below.drew | with_reducible apply below_drewN | with_reducible apply Below.setCell | with_reducible apply Below.alloc | omega | (simp; done) | (simp; omega))) hq; clear hq; repeat' (first | with_reducible assumption | with_reducible exact Below.refl _ _ | with_reducible apply Below.drew | with_reducible apply below_drewN | with_reducible apply Below.setCell | with_reducible apply Below.alloc | omega | (simp; done) | (simp; omega)))⟩
  · have ra' : rt a m = true := by simpa using ra
    by_cases rb : rt b n = false
    · go_enter Try.func21, Try.ntmps21
      go_wp2_with (first | (go_at_call_of 24 (Value.agg #[.int .u32 a, .int .i64 m]); refine (right_any a m _ ha hb).mono ?_; rintro e w1 ⟨rfl, hb1⟩; obtain ⟨hc, hf⟩ := bcell hb1; have hk0 : w1.cell? ⟨w.heap.size, 0, none⟩ = some (.int .u32 a) := (by simp [hc, go_sem]); have hk1 : w1.cell? ⟨w.heap.size, 1, none⟩ = some (.int .i64 m) := (by simp [hc, go_sem]); have hk2 : w1.cell? ⟨w.heap.size + 1, 0, none⟩ = some (.int .u32 b) := (by simp [hc, go_sem]); have hk3 : w1.cell? ⟨w.heap.size + 1, 1, none⟩ = some (.int .i64 n) := (by simp [hc, go_sem]); have hz : w.heap.size + 1 < w1.heap.size := (by have := hb1.size; simp at this; omega); clear hc hf) | (go_at_call_of 24 (Value.agg #[.int .u32 b, .int .i64 n]); refine (right_any b n _ ka kb).mono ?_; rintro e w2 ⟨rfl, hb2⟩; obtain ⟨hc2, hf2⟩ := bcell hb2; have hl0 : w2.cell? ⟨w.heap.size, 0, none⟩ = some (.int .u32 a) := (by rw [hc2 _ _ (by omega)]; exact hk0); have hl1 : w2.cell? ⟨w.heap.size, 1, none⟩ = some (.int .i64 m) := (by rw [hc2 _ _ (by omega)]; exact hk1); have hl2 : w2.cell? ⟨w.heap.size + 1, 0, none⟩ = some (.int .u32 b) := (by rw [hc2 _ _ (by omega)]; exact hk2); have hl3 : w2.cell? ⟨w.heap.size + 1, 1, none⟩ = some (.int .i64 n) := (by rw [hc2 _ _ (by omega)]; exact hk3); clear hc2 hf2))
      go_ret
      exact ⟨ret_bool (by simp [rb]), (by have hq := hb1.mono (B' := w.heap.size) (by simp <;> omega); have hq2 : Below w.heap.size w w1 := Below.trans (by repeat' (first | with_reducible assumption | with_reducible exact Below.refl _ _ | with_reducible apply Below.drew | with_reducible apply below_drewN | with_reducible apply Below.setCell | with_reducible apply Below.alloc | omega | (simp; done) | (simp; omega))) hq; have hq3 : Below w.heap.size w w2 := hq2.trans (hb2.mono (by omega)); clear hq hq2; repeat' (first | with_reducible assumption | with_reducible exact Below.refl _ _ | with_reducible apply Below.drew | with_reducible apply below_drewN | with_reducible apply Below.setCell | with_reducible apply Below.alloc | omega | (simp; done) | (simp; omega)))⟩
    · have rb' : rt b n = true := by simpa using rb
      obtain ⟨m0, m1, m2⟩ := rt_iff.1 ra'
      obtain ⟨n0, n1, n2⟩ := rt_iff.1 rb'
      have hq := meet_eq a m b n m0 m1 n0 n1 ha hb ka kb m2 n2
      clear m2 n2
      by_cases hlt : n < m
      · have he0 : (bits .and .u32 (bits .xor .u32 a b) (4294967296 - sz n) == 0) = mt a m b n := by simpa [hlt] using hq
        have he : Hid ((bits .and .u32 (bits .xor .u32 a b) (4294967296 - sz n) == 0) = mt a m b n) := he0
        clear he0
        clear hq
        go_enter Try.func21, Try.ntmps21
        go_wp2_with (first | (go_at_call_of 24 (Value.agg #[.int .u32 a, .int .i64 m]); refine (right_any a m _ ha hb).mono ?_; rintro e w1 ⟨rfl, hb1⟩; obtain ⟨hc, hf⟩ := bcell hb1; have hk0 : w1.cell? ⟨w.heap.size, 0, none⟩ = some (.int .u32 a) := (by simp [hc, go_sem]); have hk1 : w1.cell? ⟨w.heap.size, 1, none⟩ = some (.int .i64 m) := (by simp [hc, go_sem]); have hk2 : w1.cell? ⟨w.heap.size + 1, 0, none⟩ = some (.int .u32 b) := (by simp [hc, go_sem]); have hk3 : w1.cell? ⟨w.heap.size + 1, 1, none⟩ = some (.int .i64 n) := (by simp [hc, go_sem]); have hz : w.heap.size + 1 < w1.heap.size := (by have := hb1.size; simp at this; omega); clear hc hf) | (go_at_call_of 24 (Value.agg #[.int .u32 b, .int .i64 n]); refine (right_any b n _ ka kb).mono ?_; rintro e w2 ⟨rfl, hb2⟩; obtain ⟨hc2, hf2⟩ := bcell hb2; have hl0 : w2.cell? ⟨w.heap.size, 0, none⟩ = some (.int .u32 a) := (by rw [hc2 _ _ (by omega)]; exact hk0); have hl1 : w2.cell? ⟨w.heap.size, 1, none⟩ = some (.int .i64 m) := (by rw [hc2 _ _ (by omega)]; exact hk1); have hl2 : w2.cell? ⟨w.heap.size + 1, 0, none⟩ = some (.int .u32 b) := (by rw [hc2 _ _ (by omega)]; exact hk2); have hl3 : w2.cell? ⟨w.heap.size + 1, 1, none⟩ = some (.int .i64 n) := (by rw [hc2 _ _ (by omega)]; exact hk3); clear hc2 hf2))
        go_region_held3 (fun w' => w'.cell? ⟨w.heap.size, 0, none⟩ = some (.int .u32 a) ∧ w'.cell? ⟨w.heap.size, 1, none⟩ = some (.int .i64 m) ∧ w'.cell? ⟨w.heap.size + 1, 0, none⟩ = some (.int .u32 b) ∧ w'.cell? ⟨w.heap.size + 1, 1, none⟩ = some (.int .i64 n)) (go_keep) ((go_at_call 25; refine (mask_any n _ (by omega) (by omega)).mono ?_; rintro e w' ⟨rfl, rfl⟩))
        all_goals (go_wp2; go_ret; exact ⟨ret_bool (by simpa [ra', rb'] using he.out), (by have hq := hb1.mono (B' := w.heap.size) (by simp <;> omega); have hq2 : Below w.heap.size w w1 := Below.trans (by repeat' (first | with_reducible assumption | with_reducible exact Below.refl _ _ | with_reducible apply Below.drew | with_reducible apply below_drewN | with_reducible apply Below.setCell | with_reducible apply Below.alloc | omega | (simp; done) | (simp; omega))) hq; have hq3 : Below w.heap.size w w2 := hq2.trans (hb2.mono (by omega)); clear hq hq2; repeat' (first | with_reducible assumption | with_reducible exact Below.refl _ _ | with_reducible apply Below.drew | with_reducible apply below_drewN | with_reducible apply Below.setCell | with_reducible apply Below.alloc | omega | (simp; done) | (simp; omega)))⟩)
      · have he0 : (bits .and .u32 (bits .xor .u32 a b) (4294967296 - sz m) == 0) = mt a m b n := by simpa [hlt] using hq
        have he : Hid ((bits .and .u32 (bits .xor .u32 a b) (4294967296 - sz m) == 0) = mt a m b n) := he0
        clear he0
        clear hq
        go_enter Try.func21, Try.ntmps21
        go_wp2_with (first | (go_at_call_of 24 (Value.agg #[.int .u32 a, .int .i64 m]); refine (right_any a m _ ha hb).mono ?_; rintro e w1 ⟨rfl, hb1⟩; obtain ⟨hc, hf⟩ := bcell hb1; have hk0 : w1.cell? ⟨w.heap.size, 0, none⟩ = some (.int .u32 a) := (by simp [hc, go_sem]); have hk1 : w1.cell? ⟨w.heap.size, 1, none⟩ = some (.int .i64 m) := (by simp [hc, go_sem]); have hk2 : w1.cell? ⟨w.heap.size + 1, 0, none⟩ = some (.int .u32 b) := (by simp [hc, go_sem]); have hk3 : w1.cell? ⟨w.heap.size + 1, 1, none⟩ = some (.int .i64 n) := (by simp [hc, go_sem]); have hz : w.heap.size + 1 < w1.heap.size := (by have := hb1.size; simp at this; omega); clear hc hf) | (go_at_call_of 24 (Value.agg #[.int .u32 b, .int .i64 n]); refine (right_any b n _ ka kb).mono ?_; rintro e w2 ⟨rfl, hb2⟩; obtain ⟨hc2, hf2⟩ := bcell hb2; have hl0 : w2.cell? ⟨w.heap.size, 0, none⟩ = some (.int .u32 a) := (by rw [hc2 _ _ (by omega)]; exact hk0); have hl1 : w2.cell? ⟨w.heap.size, 1, none⟩ = some (.int .i64 m) := (by rw [hc2 _ _ (by omega)]; exact hk1); have hl2 : w2.cell? ⟨w.heap.size + 1, 0, none⟩ = some (.int .u32 b) := (by rw [hc2 _ _ (by omega)]; exact hk2); have hl3 : w2.cell? ⟨w.heap.size + 1, 1, none⟩ = some (.int .i64 n) := (by rw [hc2 _ _ (by omega)]; exact hk3); clear hc2 hf2))
        go_region_held3 (fun w' => w'.cell? ⟨w.heap.size, 0, none⟩ = some (.int .u32 a) ∧ w'.cell? ⟨w.heap.size, 1, none⟩ = some (.int .i64 m) ∧ w'.cell? ⟨w.heap.size + 1, 0, none⟩ = some (.int .u32 b) ∧ w'.cell? ⟨w.heap.size + 1, 1, none⟩ = some (.int .i64 n)) (go_keep) ((go_at_call 25; rw [show (if n < m then n else m) = m from if_neg (by omega)]; refine (mask_any m _ (by omega) (by omega)).mono ?_; rintro e w' ⟨rfl, rfl⟩))
        all_goals (go_wp2; go_ret; exact ⟨ret_bool (by simpa [ra', rb'] using he.out), (by have hq := hb1.mono (B' := w.heap.size) (by simp <;> omega); have hq2 : Below w.heap.size w w1 := Below.trans (by repeat' (first | with_reducible assumption | with_reducible exact Below.refl _ _ | with_reducible apply Below.drew | with_reducible apply below_drewN | with_reducible apply Below.setCell | with_reducible apply Below.alloc | omega | (simp; done) | (simp; omega))) hq; have hq3 : Below w.heap.size w w2 := hq2.trans (hb2.mono (by omega)); clear hq hq2; repeat' (first | with_reducible assumption | with_reducible exact Below.refl _ _ | with_reducible apply Below.drew | with_reducible apply below_drewN | with_reducible apply Below.setCell | with_reducible apply Below.alloc | omega | (simp; done) | (simp; omega)))⟩)

end Go.Proofs.Ytkbiophajjnaaaa
