/-
  The plain mathematics of blocks: no Go in sight. 'sz n': how many addresses a block of n bits has; 'rt a n': is the block right?
-/
import Derived.Laws.BitsAllLaws
import Derived.Laws.ShiftsVarLaws
import Derived.RowKit
namespace Go.Proofs.YtjnhhnbgjjkkjaaDoor
set_option linter.unusedVariables false
open Go.RowKit

def sz (n : Int) : Int := 2 ^ (32 - n).toNat
def rt (a n : Int) : Bool := decide (0 ≤ n ∧ n ≤ 32 ∧ a % sz n = 0)

theorem sz_pos (n : Int) : 0 < sz n := by unfold sz; exact Int.pow_pos (by decide)
theorem sz_nat (n : Int) : sz n = ((2 ^ (32 - n).toNat : Nat) : Int) := by unfold sz; simp
theorem sz_le (n : Int) (h0 : 0 ≤ n) : sz n ≤ 4294967296 := by
  have h : 2 ^ (32 - n).toNat ≤ 2 ^ 32 := Nat.pow_le_pow_right (by decide) (by omega)
  rw [sz_nat]; omega
theorem sz_succ (n : Int) (h : n < 32) : sz n = 2 * sz (n + 1) := by
  have e : (32 - n).toNat = (32 - (n + 1)).toNat + 1 := by omega
  unfold sz; rw [e, Int.pow_succ]; omega
theorem sz_zero : sz 0 = 4294967296 := by decide
theorem sz_32 : sz 32 = 1 := by decide
/-- 2^32 is a multiple of every size. -/
theorem sz_whole (n : Int) (h0 : 0 ≤ n) (h1 : n ≤ 32) : ∃ m : Int, 4294967296 = sz n * m ∧ 0 < m := by
  refine ⟨2 ^ n.toNat, ?_, Int.pow_pos (by decide)⟩
  unfold sz
  rw [← Int.pow_add, show (32 - n).toNat + n.toNat = 32 by omega]
  decide
/-- a greater block's size is a multiple of a smaller one's. -/
theorem sz_dvd (m n : Int) (h : m ≤ n) (h1 : n ≤ 32) : ∃ q : Int, sz m = sz n * q ∧ 0 < q := by
  refine ⟨2 ^ (n - m).toNat, ?_, Int.pow_pos (by decide)⟩
  unfold sz
  rw [← Int.pow_add, show (32 - n).toNat + (n - m).toNat = (32 - m).toNat by omega]
theorem rt_iff {a n : Int} : rt a n = true ↔ 0 ≤ n ∧ n ≤ 32 ∧ a % sz n = 0 := by simp [rt]

/-! ### shifts and masks of uint32 -/
theorem mask_fin : ∀ k : Fin 33, ((4294967295 : Int) * 2 ^ (k : Nat)) % 4294967296 = 4294967296 - 2 ^ (k : Nat) := by decide +kernel
theorem bit_fin : ∀ k : Fin 32, ((1 : Int) * 2 ^ (k : Nat)) % 4294967296 = 2 ^ (k : Nat) := by decide +kernel
theorem mask_eq (n : Int) (h0 : 0 ≤ n) (h1 : n ≤ 32) : IntKind.u32.wrap (4294967295 * 2 ^ min (32 - n).toNat IntKind.u32.bits) = 4294967296 - sz n := by
  have e : min (32 - n).toNat IntKind.u32.bits = (32 - n).toNat := by simp [IntKind.bits]; omega
  rw [e, IntKind.wrap_u32']
  exact mask_fin ⟨(32 - n).toNat, by omega⟩
theorem bit_eq (n : Int) (h0 : 1 ≤ n) (h1 : n ≤ 32) : IntKind.u32.wrap (1 * 2 ^ min (32 - n).toNat IntKind.u32.bits) = sz n := by
  have e : min (32 - n).toNat IntKind.u32.bits = (32 - n).toNat := by simp [IntKind.bits]; omega
  rw [e, IntKind.wrap_u32']
  exact bit_fin ⟨(32 - n).toNat, by omega⟩
theorem mask_eq' (n : Int) (h0 : 0 ≤ n) (h1 : n ≤ 32) : (4294967295 : Int) * 2 ^ (32 - n).toNat % 4294967296 = 4294967296 - sz n := mask_fin ⟨(32 - n).toNat, by omega⟩
theorem bit_eq' (n : Int) (h0 : 1 ≤ n) (h1 : n ≤ 32) : (2 : Int) ^ (32 - n).toNat % 4294967296 = sz n := by
  have := bit_fin ⟨(32 - n).toNat, by omega⟩
  simpa [sz] using this
theorem ret_int {k : IntKind} {a b : Int} (h : a = b) : Ending.returned (.int k a) = .returned (.int k b) := by rw [h]
theorem ret_bool {a b : Bool} (h : a = b) : Ending.returned (.bool a) = .returned (.bool b) := by rw [h]
theorem rt_out {a n : Int} (h : n < 0 ∨ 32 < n) : rt a n = false := by simp [rt]; omega
theorem rt_in {a n : Int} (h0 : 0 ≤ n) (h1 : n ≤ 32) : rt a n = (a % sz n == 0) := by simp [rt, h0, h1]; rfl
theorem toNat_sz (n : Int) : (sz n).toNat = 2 ^ (32 - n).toNat := by rw [sz_nat]; exact Int.toNat_natCast _
theorem and_mask (a n : Int) (h0 : 0 ≤ n) (h1 : n ≤ 32) (ha : 0 ≤ a) (hb : a < 4294967296) : bits .and .u32 a (4294967296 - sz n) = a / sz n * sz n := by
  have hp := sz_pos n
  have hl := sz_le n h0
  rw [u32_and a _ ha hb (by omega) (by omega)]
  have e : (4294967296 - sz n).toNat = 2 ^ 32 - 2 ^ (32 - n).toNat := by have := toNat_sz n; omega
  rw [e, nat_midmask 32 (32 - n).toNat a.toNat (by omega), Nat.mod_eq_of_lt (by omega), sz_nat]
  have hc : a = (a.toNat : Int) := by omega
  rw [hc]; simp only [Int.toNat_natCast, ← Int.natCast_ediv, ← Int.natCast_mul]
theorem andNot_mask (a n : Int) (h0 : 0 ≤ n) (h1 : n ≤ 32) (ha : 0 ≤ a) (hb : a < 4294967296) : bits .andNot .u32 a (4294967296 - sz n) = a % sz n := by
  have hp := sz_pos n
  have hl := sz_le n h0
  rw [u32_andNot a _ ha hb (by omega) (by omega)]
  have e : 4294967295 - (4294967296 - sz n).toNat = 2 ^ (32 - n).toNat - 1 := by have := toNat_sz n; omega
  rw [e, Nat.and_two_pow_sub_one_eq_mod, sz_nat]
  have hc : a = (a.toNat : Int) := by omega
  rw [hc]; simp only [Int.toNat_natCast, ← Int.natCast_emod]
theorem pow_bd (k n : Int) (h0 : n ≤ k) (h1 : k ≤ 32) (h2 : 0 ≤ n) : (2 : Int) ^ (k - n).toNat ≤ 4294967296 := by
  have h : 2 ^ (k - n).toNat ≤ 2 ^ 32 := Nat.pow_le_pow_right (by decide) (by omega)
  have e : (2 : Int) ^ (k - n).toNat = ((2 ^ (k - n).toNat : Nat) : Int) := by simp
  rw [e]; omega
theorem pow_up (k n : Int) (h0 : n ≤ k) : (2 : Int) * 2 ^ (k - n).toNat = 2 ^ (k + 1 - n).toNat := by
  rw [show (k + 1 - n).toNat = (k - n).toNat + 1 by omega, Int.pow_succ, Int.mul_comm]
end Go.Proofs.YtjnhhnbgjjkkjaaDoor
