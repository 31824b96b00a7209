/-
  The plain mathematics of a block's halves: no Go in sight.
-/
import Derived.Test.YtjnhhnbgjjkkjaaDoorPlainB
namespace Go.Proofs.YtjnhhnbgjjkkjaaDoor
open Go.RowKit
set_option linter.unusedVariables false

/-- which of n things the raw number c speaks of -/
def pk (c n : Int) : Int := (if c < 0 then -(c + 1) else c) % n
/-- the base of the right block of n bits in which an address is -/
def shp (a n : Int) : Int := a / sz n * sz n
theorem wrap_sum (a b : Int) (h0 : 0 ≤ a) (h1 : a < 4294967296) (h2 : 0 ≤ b) (h3 : b ≤ 4294967296) : IntKind.i64.wrap (a + b) = a + b := by
  simp [IntKind.wrap, IntKind.bits, IntKind.signed]; omega
theorem pk_neg (c n : Int) (h : c < 0) : -(c + 1).tmod n = pk c n := by
  unfold pk; rw [if_pos h, ← Int.neg_tmod, Int.tmod_eq_emod_of_nonneg (by omega)]
theorem pk_bd (c n : Int) (h : 0 < n) : 0 ≤ pk c n ∧ pk c n < n := by
  unfold pk; exact ⟨Int.emod_nonneg _ (by omega), Int.emod_lt_of_pos _ h⟩
theorem shp_bd (a n : Int) (h0 : 0 ≤ a) (hb : a < 4294967296) : 0 ≤ shp a n ∧ shp a n < 4294967296 := by
  have hp := sz_pos n
  have h1 : shp a n ≤ a := Int.ediv_mul_le _ (by omega)
  exact ⟨Int.mul_nonneg (Int.ediv_nonneg h0 (by omega)) (by omega), by omega⟩
theorem shp_rt (a n : Int) (h0 : 0 ≤ n) (h1 : n ≤ 32) : rt (shp a n) n = true := by
  rw [rt_iff]; unfold shp; exact ⟨h0, h1, Int.mul_emod_left _ _⟩
theorem ksize_fin : ∀ k : Fin 33, wrap64 ((2 : Int) ^ (k : Nat)) = 2 ^ (k : Nat) := by decide +kernel
theorem ksize_eq (n : Int) (h0 : 0 ≤ n) (h1 : n ≤ 32) : wrap64 ((2 : Int) ^ (32 - n).toNat) = sz n := ksize_fin ⟨(32 - n).toNat, by omega⟩
theorem lo_rt {a n : Int} (hr : rt a n = true) (h : n < 32) : rt a (n + 1) = true := by
  obtain ⟨h0, h1, h2⟩ := rt_iff.1 hr
  exact rt_iff.2 ⟨by omega, by omega, mod_down a n (n + 1) (by omega) (by omega) h2⟩
theorem hi_rt {a n : Int} (hr : rt a n = true) (h : n < 32) : rt (a + sz (n + 1)) (n + 1) = true := by
  obtain ⟨h0, h1, h2⟩ := rt_iff.1 hr
  refine rt_iff.2 ⟨by omega, by omega, ?_⟩
  rw [Int.add_emod, mod_down a n (n + 1) (by omega) (by omega) h2, Int.emod_self]; rfl
theorem lo_mod {a n : Int} (hr : rt a n = true) (h : n < 32) : a % (2 * sz (n + 1)) = 0 := by
  obtain ⟨h0, h1, h2⟩ := rt_iff.1 hr
  rw [← sz_succ n h]; exact h2
theorem hi_mod {a n : Int} (hr : rt a n = true) (h : n < 32) : (a + sz (n + 1)) % (2 * sz (n + 1)) = sz (n + 1) := by
  have hp := sz_pos (n + 1)
  rw [Int.add_emod, lo_mod hr h, Int.zero_add, Int.emod_emod_of_dvd _ (Int.dvd_refl _)]
  exact Int.emod_eq_of_lt (by omega) (by omega)
theorem lo_par {a n : Int} (hr : rt a n = true) (h : n < 32) : par a (n + 1) = a := by
  obtain ⟨_, _, h3⟩ := rt_iff.1 (lo_rt hr h)
  have hp := sz_pos (n + 1)
  have hm := lo_mod hr h
  rcases par_cases a (n + 1) (by omega) h3 with ⟨e, _⟩ | ⟨_, e⟩
  · exact e
  · omega
theorem hi_par {a n : Int} (hr : rt a n = true) (h : n < 32) : par (a + sz (n + 1)) (n + 1) = a := by
  obtain ⟨_, _, h3⟩ := rt_iff.1 (hi_rt hr h)
  have hp := sz_pos (n + 1)
  have hm := hi_mod hr h
  rcases par_cases (a + sz (n + 1)) (n + 1) (by omega) h3 with ⟨_, e⟩ | ⟨e, _⟩
  · omega
  · omega
theorem lo_ok {a n : Int} (hr : rt a n = true) (h : n < 32) : pOk a (n + 1) = true := by
  obtain ⟨h0, _, _⟩ := rt_iff.1 hr
  unfold pOk; rw [lo_rt hr h]; simp; omega
theorem hi_ok {a n : Int} (hr : rt a n = true) (h : n < 32) : pOk (a + sz (n + 1)) (n + 1) = true := by
  obtain ⟨h0, _, _⟩ := rt_iff.1 hr
  unfold pOk; rw [hi_rt hr h]; simp; omega
theorem lo_bud {a n : Int} (hr : rt a n = true) (h : n < 32) : bud a (n + 1) = a + sz (n + 1) := by unfold bud; rw [if_pos (lo_par hr h)]
theorem hi_bud {a n : Int} (hr : rt a n = true) (h : n < 32) : bud (a + sz (n + 1)) (n + 1) = a := by
  have hp := sz_pos (n + 1)
  unfold bud; rw [hi_par hr h, if_neg (by omega)]
theorem halves_ok {a n : Int} (hr : rt a n = true) (h : n < 32) : hOk a n = true := by unfold hOk; rw [hr]; simp; omega
/-- the halves do not meet -/
theorem mm_halves {a n : Int} (hr : rt a n = true) (h : n < 32) : mm a (n + 1) (a + sz (n + 1)) (n + 1) = false := by
  have hp := sz_pos (n + 1)
  unfold mm mt; simp; intro _ _ _; omega
/-- what meets the block meets a half, and the other way round -/
theorem mm_parts {a n : Int} (hr : rt a n = true) (h : n < 32) (b m : Int) (hc : rt b m = true) : mm a n b m = (mm a (n + 1) b m || mm (a + sz (n + 1)) (n + 1) b m) := by
  have hp := sz_pos (n + 1)
  have hs := sz_succ n h
  have hq := sz_pos m
  unfold mm mt
  rw [hr, lo_rt hr h, hi_rt hr h, hc, Bool.eq_iff_iff]
  simp only [Bool.true_and, Bool.or_eq_true, decide_eq_true_eq]
  omega
theorem mm_lohi (a n b m : Int) (hr : rt a n = true) (hc : rt b m = true) : mm a n b m = (decide (a < b + sz m) && decide (b < a + sz n)) := by
  unfold mm mt; rw [hr, hc, Bool.eq_iff_iff]; simp only [Bool.true_and, Bool.and_eq_true, decide_eq_true_eq]; omega
theorem mm_comm (a n b m : Int) : mm a n b m = mm b m a n := by
  unfold mm; rw [mt_comm, Bool.and_comm (rt a n)]
end Go.Proofs.YtjnhhnbgjjkkjaaDoor
