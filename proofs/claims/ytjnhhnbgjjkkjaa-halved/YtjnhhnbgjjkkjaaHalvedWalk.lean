/-
  The law Halved, walked.
-/
import Derived.Test.YtjnhhnbgjjkkjaaHalvedA
import Derived.Test.YtjnhhnbgjjkkjaaHalvedB
import Derived.Test.YtjnhhnbgjjkkjaaHalvedC
namespace Go.Proofs.Ytjnhhnbgjjkkjaa
open Go.ChangeShapes Go.WideShapes Go.ChangeAt Go.RowKit Go.Joins
set_option linter.unusedVariables false
set_option linter.unusedSimpArgs false

theorem halved_core (a0 c0 b0 d0 A N B M : Int) (w : World)
    (hs1 : Hid (∀ w, Calls Try.prog 14 #[.agg #[.int .u32 a0, .int .i64 c0]] w fun e w' => e = .returned (.agg #[.int .u32 A, .int .i64 N]) ∧ Below w.heap.size w w'))
    (hs2 : Hid (∀ w, Calls Try.prog 14 #[.agg #[.int .u32 b0, .int .i64 d0]] w fun e w' => e = .returned (.agg #[.int .u32 B, .int .i64 M]) ∧ Below w.heap.size w w'))
    (rA : rt A N = true) (rB : rt B M = true) (kA0 : 0 ≤ A) (kA1 : A < 4294967296) (kB0 : 0 ≤ B) (kB1 : B < 4294967296) :
    Calls Try.prog 4 #[.agg #[.int .u32 a0, .int .i64 c0], .agg #[.int .u32 b0, .int .i64 d0]] w fun e w' => e = .returned (.bool true) ∧ Below w.heap.size w w' := by
  obtain ⟨n0, n1, n2⟩ := rt_iff.1 rA
  have hm := mm_lohi A N B M rA rB
  by_cases h32 : N = 32
  · rcases hlo : decide (A < B + sz M) with _ | _
    · exact halved_32lo a0 c0 b0 d0 A N B M w hs1 hs2 rA rB kA0 kA1 kB0 kB1 hlo (by rw [hm, hlo]; rfl) h32
    · rcases hhi : decide (B < A + sz N) with _ | _
      · exact halved_32hi a0 c0 b0 d0 A N B M w hs1 hs2 rA rB kA0 kA1 kB0 kB1 hlo hhi (by rw [hm, hlo, hhi]; rfl) h32
      · exact halved_32in a0 c0 b0 d0 A N B M w hs1 hs2 rA rB kA0 kA1 kB0 kB1 hlo hhi (by rw [hm, hlo, hhi]; rfl) h32
  · have hlt : N < 32 := by omega
    have hp := mm_parts rA hlt B M rB
    rcases hlo : decide (A < B + sz M) with _ | _
    · have e : mm A N B M = false := by rw [hm, hlo]; rfl
      rw [e] at hp
      have hp' := Bool.or_eq_false_iff.1 hp.symm
      exact halved_lo a0 c0 b0 d0 A N B M w hs1 hs2 rA rB kA0 kA1 kB0 kB1 hlo e hlt hp'.1 hp'.2
    · rcases hhi : decide (B < A + sz N) with _ | _
      · have e : mm A N B M = false := by rw [hm, hlo, hhi]; rfl
        rw [e] at hp
        have hp' := Bool.or_eq_false_iff.1 hp.symm
        exact halved_hi a0 c0 b0 d0 A N B M w hs1 hs2 rA rB kA0 kA1 kB0 kB1 hlo hhi e hlt hp'.1 hp'.2
      · have e : mm A N B M = true := by rw [hm, hlo, hhi]; rfl
        rw [e] at hp
        rcases hs : mm A (N + 1) B M with _ | _
        · rw [hs, Bool.false_or] at hp
          exact halved_up a0 c0 b0 d0 A N B M w hs1 hs2 rA rB kA0 kA1 kB0 kB1 hlo hhi e hlt hs hp.symm
        · exact halved_in a0 c0 b0 d0 A N B M w hs1 hs2 rA rB kA0 kA1 kB0 kB1 hlo hhi e hlt hs

theorem halved_walk (a n b m : Int) (w : World) (ha : 0 ≤ a) (hb : a < 4294967296) (ka : 0 ≤ b) (kb : b < 4294967296) (hn : -9223372036854775808 ≤ n ∧ n ≤ 9223372036854775807) (hm : -9223372036854775808 ≤ m ∧ m ≤ 9223372036854775807) :
    Calls Try.prog 4 #[.agg #[.int .u32 a, .int .i64 n], .agg #[.int .u32 b, .int .i64 m]] w fun e w' => e = .returned (.bool true) ∧ Below w.heap.size w w' := by
  obtain ⟨p0, p1⟩ := pk_bd n 33 (by omega)
  obtain ⟨q0, q1⟩ := pk_bd m 33 (by omega)
  obtain ⟨s0, s1⟩ := shp_bd a (pk n 33) ha hb
  obtain ⟨t0, t1⟩ := shp_bd b (pk m 33) ka kb
  exact halved_core a n b m _ _ _ _ w (fun w => shaped_any a n w ha hb hn) (fun w => shaped_any b m w ka kb hm) (shp_rt a _ p0 (by omega)) (shp_rt b _ q0 (by omega)) s0 s1 t0 t1
end Go.Proofs.Ytjnhhnbgjjkkjaa
