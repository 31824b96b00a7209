/-
  Parent and Buddy of a block's halves.
-/
import Derived.Test.YtjnhhnbgjjkkjaaWalkD
import Derived.Test.YtjnhhnbgjjkkjaaWalkS
namespace Go.Proofs.Ytjnhhnbgjjkkjaa
open Go.ChangeShapes Go.WideShapes Go.ChangeAt Go.RowKit
set_option linter.unusedVariables false
set_option linter.unusedSimpArgs false
attribute [local go_sem ↓] Go.wp_at_zero Go.wp_at_succ

/-! ### Parent and Buddy of a right block's halves -/
theorem lo_parent (a n : Int) (w : World) (hr : rt a n = true) (h : n < 32) (ha : 0 ≤ a) (hb : a < 4294967296) :
    Calls Try.prog 5 #[.agg #[.int .u32 (a), .int .i64 (n + 1)]] w fun e w' => e = .returned (.tuple #[.agg #[.int .u32 (a), .int .i64 (n)], .int .i64 (0)]) ∧ Below w.heap.size w w' := by
  have hp := sz_pos (n + 1)
  obtain ⟨h0, _, h2⟩ := rt_iff.1 hr
  have he := end_lt a n h0 h ha hb h2
  have h' := aparent_any (a) (n + 1) w ha hb
  simpa [pB, pN, pE, lo_ok hr h, lo_par hr h] using h'

theorem hi_parent (a n : Int) (w : World) (hr : rt a n = true) (h : n < 32) (ha : 0 ≤ a) (hb : a < 4294967296) :
    Calls Try.prog 5 #[.agg #[.int .u32 (a + sz (n + 1)), .int .i64 (n + 1)]] w fun e w' => e = .returned (.tuple #[.agg #[.int .u32 (a), .int .i64 (n)], .int .i64 (0)]) ∧ Below w.heap.size w w' := by
  have hp := sz_pos (n + 1)
  obtain ⟨h0, _, h2⟩ := rt_iff.1 hr
  have he := end_lt a n h0 h ha hb h2
  have h' := aparent_any (a + sz (n + 1)) (n + 1) w (by omega) he
  simpa [pB, pN, pE, hi_ok hr h, hi_par hr h] using h'

theorem lo_buddy (a n : Int) (w : World) (hr : rt a n = true) (h : n < 32) (ha : 0 ≤ a) (hb : a < 4294967296) :
    Calls Try.prog 8 #[.agg #[.int .u32 (a), .int .i64 (n + 1)]] w fun e w' => e = .returned (.tuple #[.agg #[.int .u32 (a + sz (n + 1)), .int .i64 (n + 1)], .int .i64 (0)]) ∧ Below w.heap.size w w' := by
  have hp := sz_pos (n + 1)
  obtain ⟨h0, _, h2⟩ := rt_iff.1 hr
  have he := end_lt a n h0 h ha hb h2
  have h' := abuddy_any (a) (n + 1) w ha hb
  simpa [uB, uN, pE, lo_ok hr h, lo_bud hr h] using h'

theorem hi_buddy (a n : Int) (w : World) (hr : rt a n = true) (h : n < 32) (ha : 0 ≤ a) (hb : a < 4294967296) :
    Calls Try.prog 8 #[.agg #[.int .u32 (a + sz (n + 1)), .int .i64 (n + 1)]] w fun e w' => e = .returned (.tuple #[.agg #[.int .u32 (a), .int .i64 (n + 1)], .int .i64 (0)]) ∧ Below w.heap.size w w' := by
  have hp := sz_pos (n + 1)
  obtain ⟨h0, _, h2⟩ := rt_iff.1 hr
  have he := end_lt a n h0 h ha hb h2
  have h' := abuddy_any (a + sz (n + 1)) (n + 1) w (by omega) he
  simpa [uB, uN, pE, hi_ok hr h, hi_bud hr h] using h'

theorem both_halves (a n : Int) (w : World) (hr : rt a n = true) (h : n < 32) (ha : 0 ≤ a) (hb : a < 4294967296) :
    Calls Try.prog 10 #[.agg #[.int .u32 a, .int .i64 n]] w fun e w' => e = .returned (.tuple #[.agg #[.int .u32 a, .int .i64 (n + 1)], .agg #[.int .u32 (a + sz (n + 1)), .int .i64 (n + 1)], .int .i64 0]) ∧ Below w.heap.size w w' := by
  have h' := ahalves_any a n w ha hb
  simpa [hB, hC, hN, hE, halves_ok hr h] using h'
theorem no_halves (a n : Int) (w : World) (h : n = 32) (ha : 0 ≤ a) (hb : a < 4294967296) :
    Calls Try.prog 10 #[.agg #[.int .u32 a, .int .i64 n]] w fun e w' => e = .returned (.tuple #[.agg #[.int .u32 0, .int .i64 0], .agg #[.int .u32 0, .int .i64 0], .int .i64 2]) ∧ Below w.heap.size w w' := by
  have h' := ahalves_any a n w ha hb
  simpa [hB, hC, hN, hE, hOk, h] using h'
end Go.Proofs.Ytjnhhnbgjjkkjaa
