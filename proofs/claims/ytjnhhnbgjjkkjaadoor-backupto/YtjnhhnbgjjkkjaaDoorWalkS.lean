/-
  The contracts of acrekeep's pick, size and shaped.
-/
import Derived.Test.YtjnhhnbgjjkkjaaDoorWalkA
import Derived.Test.YtjnhhnbgjjkkjaaDoorPlainC
namespace Go.Proofs.YtjnhhnbgjjkkjaaDoor
open Go.ChangeShapes Go.WideShapes Go.ChangeAt Go.RowKit
set_option linter.unusedVariables false
set_option linter.unusedSimpArgs false
attribute [local go_sem ↓] Go.wp_at_zero Go.wp_at_succ

theorem pick_any (c n : Int) (w : World) (hc : -9223372036854775808 ≤ c ∧ c ≤ 9223372036854775807) (h0 : 0 < n) (h1 : n ≤ 1000000) :
    Calls Tryd.prog 15 #[.int .i64 c, .int .i64 n] w fun e w' => e = .returned (.int .i64 (pk c n)) ∧ w' = w := by
  obtain ⟨g0, g1⟩ := hc
  by_cases h : c < 0
  · have e : Hid (-(c + 1).tmod n = pk c n) := pk_neg c n h
    go_enter Tryd.func15, Tryd.ntmps15
    go_wp2
    go_ret
    exact ⟨ret_int e.out, rfl⟩
  · have e : Hid (pk c n = c % n) := (by unfold pk; rw [if_neg h] : pk c n = c % n)
    go_enter Tryd.func15, Tryd.ntmps15
    go_wp2
    go_ret
    exact ⟨ret_int e.out.symm, rfl⟩

theorem ksize_any (n : Int) (w : World) (h0 : 0 ≤ n) (h1 : n ≤ 32) :
    Calls Tryd.prog 40 #[.int .i64 n] w fun e w' => e = .returned (.int .i64 (sz n)) ∧ w' = w := by
  go_enter Tryd.func40, Tryd.ntmps40
  go_wp2
  go_ret
  exact ⟨ret_int (ksize_eq n h0 h1), rfl⟩

set_option maxHeartbeats 400000 in
theorem shaped_any (a c : Int) (w : World) (ha : 0 ≤ a) (hb : a < 4294967296) (hc : -9223372036854775808 ≤ c ∧ c ≤ 9223372036854775807) :
    Calls Tryd.prog 12 #[.agg #[.int .u32 a, .int .i64 c]] w fun e w' => e = .returned (.agg #[.int .u32 (shp a (pk c 33)), .int .i64 (pk c 33)]) ∧ Below w.heap.size w w' := by
  obtain ⟨p0, p1⟩ := pk_bd c 33 (by omega)
  have hp := sz_pos (pk c 33)
  have hl := sz_le (pk c 33) p0
  have e : Hid (a / sz (pk c 33) * sz (pk c 33) = shp a (pk c 33)) := rfl
  obtain ⟨e0, e1⟩ : 0 ≤ a / sz (pk c 33) * sz (pk c 33) ∧ a / sz (pk c 33) * sz (pk c 33) < 4294967296 := by rw [e.out]; exact shp_bd a _ ha hb
  have hwa := wrap_small a ha hb
  have hws : Hid (IntKind.u32.wrap (IntKind.i64.wrap (shp a (pk c 33))) = shp a (pk c 33)) := (by obtain ⟨q0, q1⟩ := shp_bd a (pk c 33) ha hb; rw [wrap_small _ q0 q1, wrap32_small _ q0 q1] : IntKind.u32.wrap (IntKind.i64.wrap (shp a (pk c 33))) = shp a (pk c 33))
  have d0 := Int.ediv_nonneg ha (Int.le_of_lt hp)
  have d1 := Int.ediv_le_self (sz (pk c 33)) ha
  go_enter Tryd.func12, Tryd.ntmps12
  go_wp2_with (go_at_call 15; refine (pick_any c 33 _ hc (by omega) (by omega)).mono ?_; rintro e w' ⟨rfl, rfl⟩)
  first | go_region_with (go_at_call 40; refine (ksize_any _ _ (by omega) (by omega)).mono ?_; rintro e w' ⟨rfl, rfl⟩) | fail
  all_goals (go_wp2; (try rw [e.out]); exact bodyPost_ret (v := .agg #[.int .u32 (shp a (pk c 33)), .int .i64 (pk c 33)]) (by simp [results, Tryd.results12, go_sem, e.out, hws.out]) rfl ⟨rfl, (by repeat' (first | with_reducible assumption | with_reducible exact Below.refl _ _ | with_reducible apply Below.drew | with_reducible apply below_drewN | with_reducible apply Below.setCell | with_reducible apply Below.alloc | omega | (simp; done) | (simp; omega)))⟩)

end Go.Proofs.YtjnhhnbgjjkkjaaDoor
