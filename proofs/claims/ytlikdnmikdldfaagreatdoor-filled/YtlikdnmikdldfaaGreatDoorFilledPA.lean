/-
  Plain, PlainB, TextPlain, PlainC, BkPlain, BkGood, Shelf, WalkA, TextRef, TextRefB, TextRefC
-/
import Derived.Laws.BitsAllLaws
import Derived.Laws.ShiftsVarLaws
import Derived.RowKit
import Derived.Lib.ItoaNum
import Derived.Lib.AtoiAll
import Derived.Lib.Split
import Derived.Lib.Join
import Derived.Lib.IndexMore
import Derived.Shelf.Strings.OnBuilder
import Derived.Shelf.Strconv.Itoa3
import Derived.Shelf.Strconv.AtoiAll
import Derived.Shelf.Strconv.ErrVarAll
import Derived.Shelf.Strings.Cut
import Derived.Shelf.Strings.Split
import Derived.Shelf.LaysM
import Derived.Shelf.LaysC
import Derived.Test.YtlikdnmikdldfaaGreatDoorProg
import Derived.Test.YtlikdnmikdldfaaGreatDoorRows
import Derived.WalkKit
import Derived.ProofKit
import Derived.OpenShut
import Derived.WalkLawsBesides
import Derived.WalkSpells
import Derived.Deep.QuietTactic
import Derived.BigQuiet
import Derived.Deep.RegionWith
import Derived.RegionTactic
import Derived.BigRegion
import Derived.Deep.RegionHeld3
import Derived.Deep.DrawnRows
import Derived.Outline
import Derived.PlainAid
import Derived.OwnWalk
import Derived.Laws.OwnMore
namespace Go.Proofs.YtlikdnmikdldfaaGreatDoor
set_option linter.unusedVariables false
open Go.RowKit

def sz (n : Int) : Int := 2 ^ (32 - n).toNat
def rt (a n : Int) : Bool := decide (0 ≤ n ∧ n ≤ 32 ∧ a % sz n = 0)

theorem sz_pos (n : Int) : 0 < sz n := by unfold sz; exact Int.pow_pos (by decide)
theorem sz_nat (n : Int) : sz n = ((2 ^ (32 - n).toNat : Nat) : Int) := by unfold sz; simp
theorem sz_le (n : Int) (h0 : 0 ≤ n) : sz n ≤ 4294967296 := by
  have h : 2 ^ (32 - n).toNat ≤ 2 ^ 32 := Nat.pow_le_pow_right (by decide) (by omega)
  rw [sz_nat]; omega
theorem sz_succ (n : Int) (h : n < 32) : sz n = 2 * sz (n + 1) := by
  have e : (32 - n).toNat = (32 - (n + 1)).toNat + 1 := by omega
  unfold sz; rw [e, Int.pow_succ]; omega
theorem sz_zero : sz 0 = 4294967296 := by decide
theorem sz_32 : sz 32 = 1 := by decide
/-- 2^32 is a multiple of every size. -/
theorem sz_whole (n : Int) (h0 : 0 ≤ n) (h1 : n ≤ 32) : ∃ m : Int, 4294967296 = sz n * m ∧ 0 < m := by
  refine ⟨2 ^ n.toNat, ?_, Int.pow_pos (by decide)⟩
  unfold sz
  rw [← Int.pow_add, show (32 - n).toNat + n.toNat = 32 by omega]
  decide
/-- a greater block's size is a multiple of a smaller one's. -/
theorem sz_dvd (m n : Int) (h : m ≤ n) (h1 : n ≤ 32) : ∃ q : Int, sz m = sz n * q ∧ 0 < q := by
  refine ⟨2 ^ (n - m).toNat, ?_, Int.pow_pos (by decide)⟩
  unfold sz
  rw [← Int.pow_add, show (32 - n).toNat + (n - m).toNat = (32 - m).toNat by omega]
theorem rt_iff {a n : Int} : rt a n = true ↔ 0 ≤ n ∧ n ≤ 32 ∧ a % sz n = 0 := by simp [rt]

/-! ### shifts and masks of uint32 -/
theorem mask_fin : ∀ k : Fin 33, ((4294967295 : Int) * 2 ^ (k : Nat)) % 4294967296 = 4294967296 - 2 ^ (k : Nat) := by decide +kernel
theorem bit_fin : ∀ k : Fin 32, ((1 : Int) * 2 ^ (k : Nat)) % 4294967296 = 2 ^ (k : Nat) := by decide +kernel
theorem mask_eq (n : Int) (h0 : 0 ≤ n) (h1 : n ≤ 32) : IntKind.u32.wrap (4294967295 * 2 ^ min (32 - n).toNat IntKind.u32.bits) = 4294967296 - sz n := by
  have e : min (32 - n).toNat IntKind.u32.bits = (32 - n).toNat := by simp [IntKind.bits]; omega
  rw [e, IntKind.wrap_u32']
  exact mask_fin ⟨(32 - n).toNat, by omega⟩
theorem bit_eq (n : Int) (h0 : 1 ≤ n) (h1 : n ≤ 32) : IntKind.u32.wrap (1 * 2 ^ min (32 - n).toNat IntKind.u32.bits) = sz n := by
  have e : min (32 - n).toNat IntKind.u32.bits = (32 - n).toNat := by simp [IntKind.bits]; omega
  rw [e, IntKind.wrap_u32']
  exact bit_fin ⟨(32 - n).toNat, by omega⟩
theorem mask_eq' (n : Int) (h0 : 0 ≤ n) (h1 : n ≤ 32) : (4294967295 : Int) * 2 ^ (32 - n).toNat % 4294967296 = 4294967296 - sz n := mask_fin ⟨(32 - n).toNat, by omega⟩
theorem bit_eq' (n : Int) (h0 : 1 ≤ n) (h1 : n ≤ 32) : (2 : Int) ^ (32 - n).toNat % 4294967296 = sz n := by
  have := bit_fin ⟨(32 - n).toNat, by omega⟩
  simpa [sz] using this
theorem ret_int {k : IntKind} {a b : Int} (h : a = b) : Ending.returned (.int k a) = .returned (.int k b) := by rw [h]
theorem ret_bool {a b : Bool} (h : a = b) : Ending.returned (.bool a) = .returned (.bool b) := by rw [h]
theorem rt_out {a n : Int} (h : n < 0 ∨ 32 < n) : rt a n = false := by simp [rt]; omega
theorem rt_in {a n : Int} (h0 : 0 ≤ n) (h1 : n ≤ 32) : rt a n = (a % sz n == 0) := by simp [rt, h0, h1]; rfl
theorem toNat_sz (n : Int) : (sz n).toNat = 2 ^ (32 - n).toNat := by rw [sz_nat]; exact Int.toNat_natCast _
theorem and_mask (a n : Int) (h0 : 0 ≤ n) (h1 : n ≤ 32) (ha : 0 ≤ a) (hb : a < 4294967296) : bits .and .u32 a (4294967296 - sz n) = a / sz n * sz n := by
  have hp := sz_pos n
  have hl := sz_le n h0
  rw [u32_and a _ ha hb (by omega) (by omega)]
  have e : (4294967296 - sz n).toNat = 2 ^ 32 - 2 ^ (32 - n).toNat := by have := toNat_sz n; omega
  rw [e, nat_midmask 32 (32 - n).toNat a.toNat (by omega), Nat.mod_eq_of_lt (by omega), sz_nat]
  have hc : a = (a.toNat : Int) := by omega
  rw [hc]; simp only [Int.toNat_natCast, ← Int.natCast_ediv, ← Int.natCast_mul]
theorem andNot_mask (a n : Int) (h0 : 0 ≤ n) (h1 : n ≤ 32) (ha : 0 ≤ a) (hb : a < 4294967296) : bits .andNot .u32 a (4294967296 - sz n) = a % sz n := by
  have hp := sz_pos n
  have hl := sz_le n h0
  rw [u32_andNot a _ ha hb (by omega) (by omega)]
  have e : 4294967295 - (4294967296 - sz n).toNat = 2 ^ (32 - n).toNat - 1 := by have := toNat_sz n; omega
  rw [e, Nat.and_two_pow_sub_one_eq_mod, sz_nat]
  have hc : a = (a.toNat : Int) := by omega
  rw [hc]; simp only [Int.toNat_natCast, ← Int.natCast_emod]
theorem pow_bd (k n : Int) (h0 : n ≤ k) (h1 : k ≤ 32) (h2 : 0 ≤ n) : (2 : Int) ^ (k - n).toNat ≤ 4294967296 := by
  have h : 2 ^ (k - n).toNat ≤ 2 ^ 32 := Nat.pow_le_pow_right (by decide) (by omega)
  have e : (2 : Int) ^ (k - n).toNat = ((2 ^ (k - n).toNat : Nat) : Int) := by simp
  rw [e]; omega
theorem pow_up (k n : Int) (h0 : n ≤ k) : (2 : Int) * 2 ^ (k - n).toNat = 2 ^ (k + 1 - n).toNat := by
  rw [show (k + 1 - n).toNat = (k - n).toNat + 1 by omega, Int.pow_succ, Int.mul_comm]
end Go.Proofs.YtlikdnmikdldfaaGreatDoor
namespace Go.Proofs.YtlikdnmikdldfaaGreatDoor
open Go.RowKit
set_option linter.unusedVariables false

/-- the base of the parent of a block of n bits -/
def par (a n : Int) : Int := a / sz (n - 1) * sz (n - 1)
/-- the base of the buddy -/
def bud (a n : Int) : Int := if par a n = a then a + sz n else par a n
/-- the last address of a right block -/
def lst (a n : Int) : Int := a + sz n - 1
/-- do two right blocks meet? -/
def mt (a m b n : Int) : Bool := decide (a ≤ b + sz n - 1 ∧ b ≤ a + sz m - 1)

theorem sz_pred (n : Int) (h : n ≤ 32) : sz (n - 1) = 2 * sz n := by
  have := sz_succ (n - 1) (by omega)
  rw [this, show n - 1 + 1 = n by omega]
/-- what is a multiple of the block's size: its parent's base is it, or it less the size -/
theorem par_cases (a n : Int) (h1 : n ≤ 32) (ha : a % sz n = 0) : (par a n = a ∧ a % (2 * sz n) = 0) ∨ (par a n = a - sz n ∧ a % (2 * sz n) = sz n) := by
  have hp := sz_pos n
  have hs := sz_pred n h1
  unfold par
  rw [hs]
  obtain ⟨q, rfl⟩ := Int.dvd_of_emod_eq_zero ha
  have e1 : sz n * q / (2 * sz n) = q / 2 := by
    rw [Int.mul_comm 2 (sz n)]; exact Int.mul_ediv_mul_of_pos _ _ hp
  have e2 : sz n * q % (2 * sz n) = sz n * (q % 2) := by
    rw [Int.mul_comm 2 (sz n)]; exact Int.mul_emod_mul_of_pos _ _ hp
  rw [e1, e2]
  rcases Int.emod_two_eq q with h | h
  · left
    refine ⟨?_, by rw [h]; omega⟩
    rw [← Int.mul_assoc, Int.mul_comm (q / 2) 2, Int.mul_comm, show 2 * (q / 2) = q by omega]
  · right
    refine ⟨?_, by rw [h]; omega⟩
    rw [← Int.mul_assoc, Int.mul_comm (q / 2) 2, Int.mul_comm, show 2 * (q / 2) = q - 1 by omega, Int.mul_sub]; omega
theorem par_bd (a n : Int) (h1 : n ≤ 32) (h0 : 0 ≤ a) (hb : a < 4294967296) : 0 ≤ par a n ∧ par a n ≤ a := by
  have hp := sz_pos (n - 1)
  unfold par
  exact ⟨Int.mul_nonneg (Int.ediv_nonneg h0 (by omega)) (by omega), Int.ediv_mul_le _ (by omega)⟩
theorem xor_one (m : Nat) : m ^^^ 1 = if m % 2 = 0 then m + 1 else m - 1 := by
  have h1 := Nat.xor_div_two (a := m) (b := 1)
  have h2 := Nat.xor_mod_two_eq_one (a := m) (b := 1)
  simp at h1
  split <;> omega
theorem xor_pow (q k : Nat) : 2 ^ k * q ^^^ 2 ^ k = 2 ^ k * (if q % 2 = 0 then q + 1 else q - 1) := by
  rw [← xor_one]
  have := Nat.shiftLeft_xor_distrib (a := q) (b := 1) (i := k)
  simp only [Nat.shiftLeft_eq, Nat.one_mul] at this
  rw [Nat.mul_comm _ q, Nat.mul_comm _ (q ^^^ 1), this]
theorem xor_eq (a n : Int) (h0 : 1 ≤ n) (h1 : n ≤ 32) (ha : 0 ≤ a) (hb : a < 4294967296) (hr : a % sz n = 0) : bits .xor .u32 a (sz n) = bud a n := by
  have hp := sz_pos n
  have hl := sz_le n (by omega)
  have hw := sz_succ (n - 1) (by omega)
  have hl1 := sz_le (n - 1) (by omega)
  rw [show n - 1 + 1 = n by omega] at hw
  rw [u32_xor a _ ha hb (by omega) (by omega), toNat_sz]
  obtain ⟨q, hq⟩ := Int.dvd_of_emod_eq_zero hr
  have hq0 : 0 ≤ q := by
    rcases Int.lt_or_le q 0 with h | h
    · have := Int.mul_neg_of_pos_of_neg hp h; omega
    · exact h
  obtain ⟨Q, rfl⟩ := Int.eq_ofNat_of_zero_le hq0
  have ea : a.toNat = 2 ^ (32 - n).toNat * Q := by
    rw [hq, sz_nat, ← Int.natCast_mul, Int.toNat_natCast]
  rw [ea, xor_pow]
  unfold bud
  rcases par_cases a n h1 hr with ⟨h2, h3⟩ | ⟨h2, h3⟩
  · rw [if_pos h2]
    have hm : Q % 2 = 0 := by
      rw [hq, Int.mul_comm 2 (sz n), Int.mul_emod_mul_of_pos _ _ hp] at h3
      rcases Int.mul_eq_zero.1 h3 with h | h <;> omega
    rw [if_pos hm, hq, sz_nat]
    simp only [Int.natCast_mul, Int.natCast_add, Int.mul_add]; omega
  · rw [if_neg (show ¬ par a n = a by omega), h2]
    have hm : Q % 2 = 1 := by
      rw [hq, Int.mul_comm 2 (sz n), Int.mul_emod_mul_of_pos _ _ hp] at h3
      rcases Nat.mod_two_eq_zero_or_one Q with h | h
      · have : ((Q : Int) % 2) = 0 := by omega
        rw [this] at h3; omega
      · exact h
    rw [if_neg (show ¬ Q % 2 = 0 by omega), hq, sz_nat, ← Int.natCast_mul]
    have e : 2 ^ (32 - n).toNat * (Q - 1) + 2 ^ (32 - n).toNat = 2 ^ (32 - n).toNat * Q := by
      rw [← Nat.mul_succ, show (Q - 1).succ = Q by omega]
    omega
theorem or_eq (a n : Int) (h0 : 0 ≤ n) (h1 : n < 32) (ha : 0 ≤ a) (hb : a < 4294967296) (hr : a % sz n = 0) : bits .or .u32 a (sz (n + 1)) = a + sz (n + 1) := by
  have hp := sz_pos (n + 1)
  have hl := sz_le (n + 1) (by omega)
  have hw := sz_succ n (by omega)
  rw [u32_or a _ ha hb (by omega) (by have := sz_le n h0; omega)]
  have e : a.toNat ||| (sz (n + 1)).toNat = a.toNat + (sz (n + 1)).toNat := by
    refine nat_join (32 - n).toNat _ _ ?_ ?_
    · have : (a.toNat : Int) % ((2 ^ (32 - n).toNat : Nat) : Int) = 0 := by rw [← sz_nat, Int.toNat_of_nonneg ha]; exact hr
      omega
    · have := toNat_sz n; omega
  rw [e]; omega
/-- the upper half's end lies in the world of addresses -/
theorem end_le (a n : Int) (h0 : 0 ≤ n) (h1 : n ≤ 32) (ha : 0 ≤ a) (hb : a < 4294967296) (hr : a % sz n = 0) : a + sz n ≤ 4294967296 := by
  obtain ⟨m, hm, _⟩ := sz_whole n h0 h1
  have hp := sz_pos n
  obtain ⟨q, rfl⟩ := Int.dvd_of_emod_eq_zero hr
  rw [hm] at hb
  have h := Int.lt_of_mul_lt_mul_left hb (by omega)
  have : sz n * (q + 1) ≤ sz n * m := Int.mul_le_mul_of_nonneg_left (by omega) (by omega)
  rw [Int.mul_add] at this; omega
theorem nat_xor_hi (x y k : Nat) : (x ^^^ y) / 2 ^ k = 0 ↔ x / 2 ^ k = y / 2 ^ k := by
  have := Nat.shiftRight_xor_distrib (a := x) (b := y) (i := k)
  simp only [Nat.shiftRight_eq_div_pow] at this
  rw [this]
  constructor
  · intro h
    have h2 : (x / 2 ^ k) ^^^ (x / 2 ^ k) ^^^ (y / 2 ^ k) = (x / 2 ^ k) ^^^ 0 := by rw [Nat.xor_assoc, h]
    rw [Nat.xor_self, Nat.zero_xor, Nat.xor_zero] at h2
    exact h2.symm
  · intro h; rw [h, Nat.xor_self]
theorem xor_bd (a b : Int) (ha : 0 ≤ a) (hb : a < 4294967296) (ka : 0 ≤ b) (kb : b < 4294967296) : 0 ≤ bits .xor .u32 a b ∧ bits .xor .u32 a b < 4294967296 := by
  rw [u32_xor a b ha hb ka kb]
  have : a.toNat ^^^ b.toNat < 2 ^ 32 := Nat.xor_lt_two_pow (by omega) (by omega)
  omega
theorem meet_bits (a b m : Int) (h0 : 0 ≤ m) (h1 : m ≤ 32) (ha : 0 ≤ a) (hb : a < 4294967296) (ka : 0 ≤ b) (kb : b < 4294967296) :
    (bits .and .u32 (bits .xor .u32 a b) (4294967296 - sz m) == 0) = decide (a / sz m = b / sz m) := by
  obtain ⟨x0, x1⟩ := xor_bd a b ha hb ka kb
  have hp := sz_pos m
  rw [and_mask _ m h0 h1 x0 x1, u32_xor a b ha hb ka kb, Bool.eq_iff_iff]
  simp only [beq_iff_eq, decide_eq_true_eq]
  have e1 : a = (a.toNat : Int) := by omega
  have e2 : b = (b.toNat : Int) := by omega
  rw [Int.mul_eq_zero, e1, e2]
  simp only [Int.toNat_natCast, sz_nat, ← Int.natCast_ediv]
  have := nat_xor_hi a.toNat b.toNat (32 - m).toNat
  have hq : 0 < 2 ^ (32 - m).toNat := Nat.pos_of_ne_zero (by simp)
  omega
theorem ediv_same (a b s : Int) (hs : 0 < s) (ha : a % s = 0) : a / s = b / s ↔ a ≤ b ∧ b < a + s := by
  have h1 := Int.mul_ediv_add_emod a s
  have h2 := Int.mul_ediv_add_emod b s
  have h3 := Int.emod_nonneg b (show s ≠ 0 by omega)
  have h4 := Int.emod_lt_of_pos b hs
  constructor
  · intro h; rw [h] at h1; omega
  · rintro ⟨h5, h6⟩
    have g1 : s * (a / s) < s * (b / s + 1) := by rw [Int.mul_add]; omega
    have g2 : s * (b / s) < s * (a / s + 1) := by rw [Int.mul_add]; omega
    have := Int.lt_of_mul_lt_mul_left g1 (by omega)
    have := Int.lt_of_mul_lt_mul_left g2 (by omega)
    omega
theorem step_le (a b s : Int) (hs : 0 < s) (ha : a % s = 0) (hb : b % s = 0) (h : a < b + s) : a ≤ b := by
  obtain ⟨x, rfl⟩ := Int.dvd_of_emod_eq_zero ha
  obtain ⟨y, rfl⟩ := Int.dvd_of_emod_eq_zero hb
  have g : s * x < s * (y + 1) := by rw [Int.mul_add]; omega
  have := Int.lt_of_mul_lt_mul_left g (by omega)
  exact Int.mul_le_mul_of_nonneg_left (by omega) (by omega)
/-- a multiple of a greater block's size is one of a smaller one's -/
theorem mod_down (a m n : Int) (h : m ≤ n) (h1 : n ≤ 32) (ha : a % sz m = 0) : a % sz n = 0 := by
  obtain ⟨q, hq, _⟩ := sz_dvd m n h h1
  obtain ⟨x, rfl⟩ := Int.dvd_of_emod_eq_zero ha
  rw [hq, Int.mul_assoc]; exact Int.mul_emod_right _ _
theorem meet_low (a m b n : Int) (h : m ≤ n) (h1 : n ≤ 32) (ha : a % sz m = 0) (hb : b % sz n = 0) : decide (a / sz m = b / sz m) = mt a m b n := by
  have hp := sz_pos m
  have hq := sz_pos n
  have hs := step_le a b (sz n) hq (mod_down a m n h h1 ha) hb
  unfold mt
  rw [Bool.eq_iff_iff]
  simp only [decide_eq_true_eq]
  rw [ediv_same a b (sz m) hp ha]
  omega
theorem mt_comm (a m b n : Int) : mt a m b n = mt b n a m := by
  unfold mt; rw [Bool.eq_iff_iff]; simp only [decide_eq_true_eq]; omega
/-- the code's own test of two right blocks -/
theorem meet_eq (a m b n : Int) (hm : 0 ≤ m) (hm1 : m ≤ 32) (hn : 0 ≤ n) (hn1 : n ≤ 32) (ha : 0 ≤ a) (hb : a < 4294967296) (ka : 0 ≤ b) (kb : b < 4294967296) (ra : a % sz m = 0) (rb : b % sz n = 0) :
    (bits .and .u32 (bits .xor .u32 a b) (4294967296 - sz (if n < m then n else m)) == 0) = mt a m b n := by
  split
  · rename_i h
    rw [meet_bits a b n hn hn1 ha hb ka kb, mt_comm, ← meet_low b n a m (by omega) hm1 rb ra]
    exact decide_eq_decide.2 eq_comm
  · rename_i h
    rw [meet_bits a b m hm hm1 ha hb ka kb, meet_low a m b n (by omega) hn1 ra rb]

/-! ### what Parent, Buddy and Halves answer, whatever the block -/
def pOk (a n : Int) : Bool := rt a n && (n != 0)
def hOk (a n : Int) : Bool := rt a n && (n != 32)
def pB (a n : Int) : Int := if pOk a n then par a n else 0
def pN (a n : Int) : Int := if pOk a n then n - 1 else 0
def pE (a n : Int) : Int := if pOk a n then 0 else 2
def uB (a n : Int) : Int := if pOk a n then bud a n else 0
def uN (a n : Int) : Int := if pOk a n then n else 0
def hB (a n : Int) : Int := if hOk a n then a else 0
def hC (a n : Int) : Int := if hOk a n then a + sz (n + 1) else 0
def hN (a n : Int) : Int := if hOk a n then n + 1 else 0
def hE (a n : Int) : Int := if hOk a n then 0 else 2
def mm (a m b n : Int) : Bool := rt a m && rt b n && mt a m b n
theorem wrap_small (a : Int) (h0 : 0 ≤ a) (h1 : a < 4294967296) : IntKind.i64.wrap a = a := by
  simp [IntKind.wrap, IntKind.bits, IntKind.signed]; omega
theorem wrap32_small (a : Int) (h0 : 0 ≤ a) (h1 : a < 4294967296) : IntKind.u32.wrap a = a := by
  rw [IntKind.wrap_u32']; omega
theorem mm_right {a m b n : Int} (ra : rt a m = true) (rb : rt b n = true) : mm a m b n = (decide (a ≤ lst b n) && decide (b ≤ lst a m)) := by
  unfold mm mt lst; rw [ra, rb, Bool.eq_iff_iff]; simp only [Bool.true_and, Bool.and_eq_true, decide_eq_true_eq]
theorem pOk_no {a n : Int} (h : pOk a n = false) : rt a n = false ∨ n = 0 := by
  unfold pOk at h; rcases hr : rt a n with _ | _
  · exact .inl rfl
  · rw [hr] at h; right; simpa using h
theorem pOk_yes {a n : Int} (h : pOk a n = true) : rt a n = true ∧ n ≠ 0 := by
  unfold pOk at h; simpa using h
theorem hOk_no {a n : Int} (h : hOk a n = false) : rt a n = false ∨ n = 32 := by
  unfold hOk at h; rcases hr : rt a n with _ | _
  · exact .inl rfl
  · rw [hr] at h; right; simpa using h
theorem hOk_yes {a n : Int} (h : hOk a n = true) : rt a n = true ∧ n ≠ 32 := by
  unfold hOk at h; simpa using h
theorem end_lt (a n : Int) (h0 : 0 ≤ n) (h1 : n < 32) (ha : 0 ≤ a) (hb : a < 4294967296) (hr : a % sz n = 0) : a + sz (n + 1) < 4294967296 := by
  have := end_le a n h0 (by omega) ha hb hr
  have := sz_succ n h1
  have := sz_pos (n + 1)
  omega
theorem par_lt (a n : Int) (h1 : n ≤ 32) (h0 : 0 ≤ a) (hb : a < 4294967296) : par a n < 4294967296 := by have := par_bd a n h1 h0 hb; omega
/-- a right block's parent is right -/
theorem par_rt (a n : Int) (h0 : 1 ≤ n) (h1 : n ≤ 32) : rt (par a n) (n - 1) = true := by
  rw [rt_iff]; unfold par; exact ⟨by omega, by omega, Int.mul_emod_left _ _⟩
end Go.Proofs.YtlikdnmikdldfaaGreatDoor
namespace Go.Proofs.YtlikdnmikdldfaaGreatDoor
open Go.RowKit
set_option linter.unusedVariables false

/-! ### numerals -/
def dec (n : Nat) : List UInt8 := Lib.decDigits n
/-- the number of a numeral, digit by digit -/
def val (l : List UInt8) : Nat := l.foldl (fun a c => 10 * a + (c.toNat - 48)) 0
theorem val_snoc (l : List UInt8) (c : UInt8) : val (l ++ [c]) = 10 * val l + (c.toNat - 48) := by simp [val]
theorem digit_val (d : Nat) (h : d < 10) : (UInt8.ofNat (48 + d)).toNat - 48 = d := by
  rw [UInt8.toNat_ofNat_of_lt' (by simp [UInt8.size]; omega)]; omega
theorem val_dec (n : Nat) : val (dec n) = n := by
  induction n using Nat.strongRecOn with
  | ind n ih =>
    unfold dec
    rw [Lib.decDigits]
    split
    · rename_i h
      have := digit_val n h
      simp [val]; omega
    · rename_i h
      have e := ih (n / 10) (by omega)
      unfold dec at e
      rw [val_snoc, e, digit_val _ (by omega)]; omega
theorem dec_inj {a b : Nat} (h : dec a = dec b) : a = b := by rw [← val_dec a, ← val_dec b, h]
def dec3 (n : Nat) : List UInt8 :=
  if n < 10 then [UInt8.ofNat (48 + n)] else if n < 100 then [UInt8.ofNat (48 + n / 10), UInt8.ofNat (48 + n % 10)]
  else [UInt8.ofNat (48 + n / 100), UInt8.ofNat (48 + n / 10 % 10), UInt8.ofNat (48 + n % 10)]
theorem dec_3 (n : Nat) (h : n < 1000) : dec n = dec3 n := by
  unfold dec dec3
  by_cases h1 : n < 10
  · rw [if_pos h1, Lib.decDigits_one h1]
  · rw [if_neg h1]
    by_cases h2 : n < 100
    · rw [if_pos h2, Lib.decDigits_two h1 h2]
    · rw [if_neg h2, Lib.decDigits, dif_neg h1, Lib.decDigits_two (by omega) (by omega)]
      simp [Nat.div_div_eq_div_mul]
theorem atoi_fin : ∀ n : Fin 256, Lib.atoiAll (dec3 n) = .ok ((n : Nat) : Int) := by decide +kernel
theorem atoi_dec (n : Nat) (h : n < 256) : Lib.atoiAll (dec n) = .ok (n : Int) := by rw [dec_3 n (by omega)]; exact atoi_fin ⟨n, h⟩
/-- the number up to most that is written so -/
def num (l : List UInt8) (most : Nat) : Option Nat := (List.range (most + 1)).find? fun n => dec n == l
theorem num_some {l : List UInt8} {most n : Nat} : num l most = some n ↔ n ≤ most ∧ dec n = l := by
  unfold num
  constructor
  · intro h
    have h1 := List.find?_some h
    have h2 := List.mem_of_find?_eq_some h
    simp at h1 h2
    exact ⟨by omega, h1⟩
  · rintro ⟨h1, rfl⟩
    rcases e : (List.range (most + 1)).find? (fun m => dec m == dec n) with _ | m
    · have := List.find?_eq_none.1 e n (by simp; omega)
      simp at this
    · have := List.find?_some e
      simp at this
      rw [dec_inj this]
theorem num_none {l : List UInt8} {most : Nat} : num l most = none ↔ ∀ n, n ≤ most → dec n ≠ l := by
  constructor
  · intro h n hn e
    rw [num_some.2 ⟨hn, e⟩] at h; cases h
  · intro h
    rcases e : num l most with _ | n
    · rfl
    · exact absurd (num_some.1 e).2 (h n (num_some.1 e).1)
/-- what Atoi, the bounds and Itoa tell together -/
theorem num_of_atoi {l : List UInt8} {most : Nat} (hm : most ≤ 255) {v : Int} (h : Lib.atoiAll l = .ok v) (h0 : 0 ≤ v) (h1 : v ≤ most) (e : Lib.itoa v = l) : num l most = some v.toNat := by
  refine num_some.2 ⟨by omega, ?_⟩
  unfold Lib.itoa at e
  rw [if_neg (by omega)] at e
  exact e
theorem num_off {l : List UInt8} {most : Nat} (hm : most ≤ 255) (h : ∀ n : Nat, n ≤ most → Lib.atoiAll l = .ok (n : Int) → Lib.itoa n ≠ l) : num l most = none := by
  refine num_none.2 fun n hn e => ?_
  have ha := atoi_dec n (by omega)
  rw [e] at ha
  refine h n hn ha ?_
  unfold Lib.itoa
  rw [if_neg (by omega)]
  simpa [dec] using e

/-! ### a text cut at each byte of a kind -/
def cutStep (c : UInt8) (s : List (List UInt8) × List UInt8) (x : UInt8) : List (List UInt8) × List UInt8 := if x = c then (s.1 ++ [s.2], []) else (s.1, s.2 ++ [x])
def cutAll (c : UInt8) (s : List (List UInt8) × List UInt8) (l : List UInt8) : List (List UInt8) × List UInt8 := l.foldl (cutStep c) s
def parts (c : UInt8) (l : List UInt8) : List (List UInt8) := (cutAll c ([], []) l).1 ++ [(cutAll c ([], []) l).2]
theorem cutAll_front (c : UInt8) (l : List UInt8) : ∀ (F : List (List UInt8)) (cur : List UInt8), (cutAll c (F, cur) l).1 = F ++ (cutAll c ([], cur) l).1 ∧ (cutAll c (F, cur) l).2 = (cutAll c ([], cur) l).2 := by
  induction l with
  | nil => intro F cur; simp [cutAll]
  | cons x r ih =>
    intro F cur
    simp only [cutAll, List.foldl_cons, cutStep]
    split
    · have h1 := ih (F ++ [cur]) []
      have h2 := ih ([] ++ [cur]) []
      simp only [cutAll] at h1 h2
      rw [h1.1, h1.2, h2.1, h2.2]; simp
    · exact ih F (cur ++ [x])
theorem cutAll_none (c : UInt8) (l : List UInt8) (h : c ∉ l) : ∀ (F : List (List UInt8)) (cur : List UInt8), cutAll c (F, cur) l = (F, cur ++ l) := by
  induction l with
  | nil => intro F cur; simp [cutAll]
  | cons x r ih =>
    intro F cur
    have hx : ¬ x = c := fun e => h (by simp [e])
    have hr : c ∉ r := fun e => h (by simp [e])
    have := ih hr F (cur ++ [x])
    simp only [cutAll, List.foldl_cons, cutStep, if_neg hx] at this ⊢
    rw [this]; simp
theorem parts_none (c : UInt8) (l : List UInt8) (h : c ∉ l) : parts c l = [l] := by
  unfold parts; rw [cutAll_none c l h]; simp
theorem parts_cons (c : UInt8) (a b : List UInt8) (h : c ∉ a) : parts c (a ++ c :: b) = a :: parts c b := by
  have e : cutAll c ([], []) (a ++ c :: b) = cutAll c ([a], []) b := by
    have := cutAll_none c a h [] []
    simp only [cutAll] at this ⊢
    rw [List.foldl_append, this, List.foldl_cons, cutStep, if_pos rfl]; simp
  have h1 := cutAll_front c b [a] []
  unfold parts
  rw [e, h1.1, h1.2]; simp
theorem parts_pos (c : UInt8) (l : List UInt8) : 1 ≤ (parts c l).length := by unfold parts; simp
/-- each text has a first piece: up to the first such byte -/
theorem first_cut (c : UInt8) (l : List UInt8) : c ∉ l ∨ ∃ a b, l = a ++ c :: b ∧ c ∉ a := by
  induction l with
  | nil => exact .inl (by simp)
  | cons x r ih =>
    by_cases hx : x = c
    · exact .inr ⟨[], r, by simp [hx], by simp⟩
    · rcases ih with h | ⟨a, b, e, h⟩
      · exact .inl (by simp; exact ⟨fun e => hx e.symm, h⟩)
      · exact .inr ⟨x :: a, b, by simp [e], by simp; exact ⟨fun e => hx e.symm, h⟩⟩
theorem dec_no (c : UInt8) (hc : c.toNat < 48 ∨ 57 < c.toNat) (n : Nat) : c ∉ dec n := by
  induction n using Nat.strongRecOn with
  | ind n ih =>
    have hd : ∀ d, d < 10 → c ≠ UInt8.ofNat (48 + d) := by
      intro d hd e
      have := congrArg UInt8.toNat e
      rw [UInt8.toNat_ofNat_of_lt' (by simp [UInt8.size]; omega)] at this
      omega
    unfold dec
    rw [Lib.decDigits]
    split
    · rename_i h; rw [List.mem_singleton]; exact hd n h
    · rename_i h
      have := ih (n / 10) (by omega)
      unfold dec at this
      rw [List.mem_append, List.mem_singleton]
      exact fun e => e.elim this (hd _ (by omega))
/-! ### addresses and blocks -/
def four (p0 p1 p2 p3 : List UInt8) : Option Nat :=
  match num p0 255, num p1 255, num p2 255, num p3 255 with
  | some a, some b, some c, some d => some (((a * 256 + b) * 256 + c) * 256 + d)
  | _, _, _, _ => none
def addr (l : List UInt8) : Option Nat :=
  match parts 46 l with
  | [p0, p1, p2, p3] => four p0 p1 p2 p3
  | _ => none
def rd (l : List UInt8) : Option (Int × Int) :=
  match parts 47 l with
  | [x, y] => match addr x, num y 32 with
    | some a, some n => if rt a n then some ((a : Int), (n : Int)) else none
    | _, _ => none
  | _ => none
def dot (a : Nat) : List UInt8 := dec (a / 16777216) ++ 46 :: (dec (a / 65536 % 256) ++ 46 :: (dec (a / 256 % 256) ++ 46 :: dec (a % 256)))
def wr (a n : Nat) : List UInt8 := dot a ++ 47 :: dec n
end Go.Proofs.YtlikdnmikdldfaaGreatDoor
namespace Go.Proofs.YtlikdnmikdldfaaGreatDoor
open Go.RowKit
set_option linter.unusedVariables false

/-- which of n things the raw number c speaks of -/
def pk (c n : Int) : Int := (if c < 0 then -(c + 1) else c) % n
/-- the base of the right block of n bits in which an address is -/
def shp (a n : Int) : Int := a / sz n * sz n
theorem wrap_sum (a b : Int) (h0 : 0 ≤ a) (h1 : a < 4294967296) (h2 : 0 ≤ b) (h3 : b ≤ 4294967296) : IntKind.i64.wrap (a + b) = a + b := by
  simp [IntKind.wrap, IntKind.bits, IntKind.signed]; omega
theorem pk_neg (c n : Int) (h : c < 0) : -(c + 1).tmod n = pk c n := by
  unfold pk; rw [if_pos h, ← Int.neg_tmod, Int.tmod_eq_emod_of_nonneg (by omega)]
theorem pk_bd (c n : Int) (h : 0 < n) : 0 ≤ pk c n ∧ pk c n < n := by
  unfold pk; exact ⟨Int.emod_nonneg _ (by omega), Int.emod_lt_of_pos _ h⟩
theorem shp_bd (a n : Int) (h0 : 0 ≤ a) (hb : a < 4294967296) : 0 ≤ shp a n ∧ shp a n < 4294967296 := by
  have hp := sz_pos n
  have h1 : shp a n ≤ a := Int.ediv_mul_le _ (by omega)
  exact ⟨Int.mul_nonneg (Int.ediv_nonneg h0 (by omega)) (by omega), by omega⟩
theorem shp_rt (a n : Int) (h0 : 0 ≤ n) (h1 : n ≤ 32) : rt (shp a n) n = true := by
  rw [rt_iff]; unfold shp; exact ⟨h0, h1, Int.mul_emod_left _ _⟩
theorem ksize_fin : ∀ k : Fin 33, wrap64 ((2 : Int) ^ (k : Nat)) = 2 ^ (k : Nat) := by decide +kernel
theorem ksize_eq (n : Int) (h0 : 0 ≤ n) (h1 : n ≤ 32) : wrap64 ((2 : Int) ^ (32 - n).toNat) = sz n := ksize_fin ⟨(32 - n).toNat, by omega⟩
theorem lo_rt {a n : Int} (hr : rt a n = true) (h : n < 32) : rt a (n + 1) = true := by
  obtain ⟨h0, h1, h2⟩ := rt_iff.1 hr
  exact rt_iff.2 ⟨by omega, by omega, mod_down a n (n + 1) (by omega) (by omega) h2⟩
theorem hi_rt {a n : Int} (hr : rt a n = true) (h : n < 32) : rt (a + sz (n + 1)) (n + 1) = true := by
  obtain ⟨h0, h1, h2⟩ := rt_iff.1 hr
  refine rt_iff.2 ⟨by omega, by omega, ?_⟩
  rw [Int.add_emod, mod_down a n (n + 1) (by omega) (by omega) h2, Int.emod_self]; rfl
theorem lo_mod {a n : Int} (hr : rt a n = true) (h : n < 32) : a % (2 * sz (n + 1)) = 0 := by
  obtain ⟨h0, h1, h2⟩ := rt_iff.1 hr
  rw [← sz_succ n h]; exact h2
theorem hi_mod {a n : Int} (hr : rt a n = true) (h : n < 32) : (a + sz (n + 1)) % (2 * sz (n + 1)) = sz (n + 1) := by
  have hp := sz_pos (n + 1)
  rw [Int.add_emod, lo_mod hr h, Int.zero_add, Int.emod_emod_of_dvd _ (Int.dvd_refl _)]
  exact Int.emod_eq_of_lt (by omega) (by omega)
theorem lo_par {a n : Int} (hr : rt a n = true) (h : n < 32) : par a (n + 1) = a := by
  obtain ⟨_, _, h3⟩ := rt_iff.1 (lo_rt hr h)
  have hp := sz_pos (n + 1)
  have hm := lo_mod hr h
  rcases par_cases a (n + 1) (by omega) h3 with ⟨e, _⟩ | ⟨_, e⟩
  · exact e
  · omega
theorem hi_par {a n : Int} (hr : rt a n = true) (h : n < 32) : par (a + sz (n + 1)) (n + 1) = a := by
  obtain ⟨_, _, h3⟩ := rt_iff.1 (hi_rt hr h)
  have hp := sz_pos (n + 1)
  have hm := hi_mod hr h
  rcases par_cases (a + sz (n + 1)) (n + 1) (by omega) h3 with ⟨_, e⟩ | ⟨e, _⟩
  · omega
  · omega
theorem lo_ok {a n : Int} (hr : rt a n = true) (h : n < 32) : pOk a (n + 1) = true := by
  obtain ⟨h0, _, _⟩ := rt_iff.1 hr
  unfold pOk; rw [lo_rt hr h]; simp; omega
theorem hi_ok {a n : Int} (hr : rt a n = true) (h : n < 32) : pOk (a + sz (n + 1)) (n + 1) = true := by
  obtain ⟨h0, _, _⟩ := rt_iff.1 hr
  unfold pOk; rw [hi_rt hr h]; simp; omega
theorem lo_bud {a n : Int} (hr : rt a n = true) (h : n < 32) : bud a (n + 1) = a + sz (n + 1) := by unfold bud; rw [if_pos (lo_par hr h)]
theorem hi_bud {a n : Int} (hr : rt a n = true) (h : n < 32) : bud (a + sz (n + 1)) (n + 1) = a := by
  have hp := sz_pos (n + 1)
  unfold bud; rw [hi_par hr h, if_neg (by omega)]
theorem halves_ok {a n : Int} (hr : rt a n = true) (h : n < 32) : hOk a n = true := by unfold hOk; rw [hr]; simp; omega
/-- the halves do not meet -/
theorem mm_halves {a n : Int} (hr : rt a n = true) (h : n < 32) : mm a (n + 1) (a + sz (n + 1)) (n + 1) = false := by
  have hp := sz_pos (n + 1)
  unfold mm mt; simp; intro _ _ _; omega
/-- what meets the block meets a half, and the other way round -/
theorem mm_parts {a n : Int} (hr : rt a n = true) (h : n < 32) (b m : Int) (hc : rt b m = true) : mm a n b m = (mm a (n + 1) b m || mm (a + sz (n + 1)) (n + 1) b m) := by
  have hp := sz_pos (n + 1)
  have hs := sz_succ n h
  have hq := sz_pos m
  unfold mm mt
  rw [hr, lo_rt hr h, hi_rt hr h, hc, Bool.eq_iff_iff]
  simp only [Bool.true_and, Bool.or_eq_true, decide_eq_true_eq]
  omega
theorem mm_lohi (a n b m : Int) (hr : rt a n = true) (hc : rt b m = true) : mm a n b m = (decide (a < b + sz m) && decide (b < a + sz n)) := by
  unfold mm mt; rw [hr, hc, Bool.eq_iff_iff]; simp only [Bool.true_and, Bool.and_eq_true, decide_eq_true_eq]; omega
theorem mm_comm (a n b m : Int) : mm a n b m = mm b m a n := by
  unfold mm; rw [mt_comm, Bool.and_comm (rt a n)]
end Go.Proofs.YtlikdnmikdldfaaGreatDoor
namespace Go.Proofs.YtlikdnmikdldfaaGreatDoor
open Go.RowKit
set_option linter.unusedVariables false

/-- a block and its owner -/
structure Hd where
  a : Int
  n : Int
  o : ByteArray
/-- an address and its owner -/
structure Ls where
  a : Int
  o : ByteArray
/-- a command and its answer -/
structure Tk where
  t : ByteArray
  l : ByteArray
  r : ByteArray
/-- a book -/
structure Bk where
  pools : List Hd
  nets : List Hd
  leases : List Ls
  toks : List Tk
/-- a line that was read -/
structure Ln where
  v : Nat
  t : ByteArray
  o : ByteArray
  a : Int
  n : Int
  d : Int
  g : Int
def hd0 : Hd := ⟨0, 0, ⟨#[]⟩⟩
def ls0 : Ls := ⟨0, ⟨#[]⟩⟩
def tk0 : Tk := ⟨⟨#[]⟩, ⟨#[]⟩, ⟨#[]⟩⟩
def ln0 (v : Nat) : Ln := ⟨v, ⟨#[]⟩, ⟨#[]⟩, 0, 0, 0, 0⟩
def bk0 : Bk := ⟨[], [], [], []⟩

/-- the first place at which p holds; -1: at none -/
def fi {α : Type} (p : α → Bool) : List α → Int
  | [] => -1
  | x :: r => if p x then 0 else if fi p r < 0 then -1 else fi p r + 1
theorem fi_miss {α : Type} (p : α → Bool) (l : List α) (h : ∀ x, x ∈ l → p x = false) : fi p l = -1 := by
  induction l with
  | nil => rfl
  | cons x r ih =>
    have e := ih (fun y hy => h y (List.mem_cons_of_mem _ hy))
    simp [fi, h x (List.mem_cons_self), e]
theorem fi_hit {α : Type} (p : α → Bool) (l : List α) (d : α) (k : Nat) (hk : k < l.length) (h : ∀ j, j < k → p (l.getD j d) = false) (hp : p (l.getD k d) = true) : fi p l = k := by
  induction l generalizing k with
  | nil => simp at hk
  | cons x r ih =>
    cases k with
    | zero => simp at hp; simp [fi, hp]
    | succ k =>
      have h0 : p x = false := by simpa using h 0 (by omega)
      have e := ih k (by simpa using hk) (fun j hj => by simpa using h (j + 1) (by omega)) (by simpa using hp)
      have h2 : ¬ ((k : Int) < 0) := by omega
      simp only [fi, h0, e, h2, if_false, Bool.false_eq_true]; omega
theorem fi_cases {α : Type} (p : α → Bool) (l : List α) (d : α) : (fi p l = -1 ∧ ∀ x, x ∈ l → p x = false) ∨ ∃ k : Nat, k < l.length ∧ fi p l = k ∧ p (l.getD k d) = true ∧ ∀ j, j < k → p (l.getD j d) = false := by
  induction l with
  | nil => exact .inl ⟨rfl, by simp⟩
  | cons x r ih =>
    rcases hx : p x with _ | _
    · rcases ih with ⟨e, h⟩ | ⟨k, hk, e, hp, h⟩
      · exact .inl ⟨by simp [fi, hx, e], by intro y hy; rcases List.mem_cons.1 hy with rfl | hy; exact hx; exact h y hy⟩
      · refine .inr ⟨k + 1, by simpa using hk, ?_, by simpa using hp, ?_⟩
        · have h2 : ¬ ((k : Int) < 0) := by omega
          simp only [fi, hx, e, h2, if_false, Bool.false_eq_true]; omega
        · intro j hj
          cases j with
          | zero => simpa using hx
          | succ j => simpa using h j (by omega)
    · exact .inr ⟨0, by simp, by simp [fi, hx], by simpa using hx, by omega⟩

/-! ### blocks and their holders -/
def isH (a n : Int) (h : Hd) : Bool := decide (h.a = a) && decide (h.n = n)
/-- is the block (a, n) in (b, m)? -/
def inn (a n b m : Int) : Bool := decide (m ≤ n) && mm a n b m
def meetsH (a n : Int) (h : Hd) : Bool := mm h.a h.n a n
def spansH (a n : Int) (h : Hd) : Bool := inn a n h.a h.n
def findH (l : List Hd) (a n : Int) : Int := fi (isH a n) l
def spanH (l : List Hd) (a n : Int) : Int := fi (spansH a n) l
def anyH (l : List Hd) (a n : Int) : Bool := l.any (meetsH a n)
/-- how many bases are below -/
def cntH (l : List Hd) (a : Int) : Nat := l.countP fun h => decide (h.a < a)
def insH (l : List Hd) (h : Hd) : List Hd := l.take (cntH l h.a) ++ h :: l.drop (cntH l h.a)
def delAt {α : Type} (l : List α) (k : Nat) : List α := l.take k ++ l.drop (k + 1)
def netsOf (nets : List Hd) (a n : Int) : List Hd := nets.filter fun h => inn h.a h.n a n
def leasesOf (ls : List Ls) (a n : Int) : List Ls := ls.filter fun l => inn l.a 32 a n
def cntL (l : List Ls) (a : Int) : Nat := l.countP fun x => decide (x.a < a)
def hasL (l : List Ls) (a : Int) : Bool := decide (cntL l a < l.length) && decide ((l.getD (cntL l a) ls0).a = a)
def insL (l : List Ls) (x : Ls) : List Ls := l.take (cntL l x.a) ++ x :: l.drop (cntL l x.a)

/-- the free blocks in a block, by rising bases -/
def frees : Nat → List Hd → Int → Int → List (Int × Int)
  | 0, _, _, _ => []
  | k + 1, l, a, n => if !anyH l a n then [(a, n)] else if 0 ≤ spanH l a n then [] else frees k l a (n + 1) ++ frees k l (a + sz (n + 1)) (n + 1)
/-- of those with so many Bits at most the one with the most, of these the first -/
def bestStep (bits : Int) (s : Option (Int × Int)) (b : Int × Int) : Option (Int × Int) :=
  if b.2 ≤ bits then (match s with | none => some b | some c => if c.2 < b.2 then some b else some c) else s
def best (l : List (Int × Int)) (bits : Int) : Option (Int × Int) := l.foldl (bestStep bits) none

/-- the first and the last usable address -/
def useA (a n : Int) : Int := if n ≤ 30 then a + 1 else a
def useZ (a n : Int) : Int := if n ≤ 30 then lst a n - 1 else lst a n
/-- the least usable address that is not leased, along the leases of the subnet -/
def leastGo (last : Int) : Int → List Ls → Option Int
  | x, [] => some x
  | x, l :: r => if l.a ≠ x then some x else if x = last then none else leastGo last (x + 1) r
def least (ls : List Ls) (a n : Int) : Option Int := leastGo (useZ a n) (useA a n) (leasesOf ls a n)

/-! ### answers: a refusal's number (0: none), and what is told -/
structure An where
  e : Nat
  s : List ByteArray
def ref (e : Nat) : An := ⟨e, []⟩
def okA : An := ⟨0, []⟩
def tell1 (s : ByteArray) : An := ⟨0, [s]⟩
def wordsT : List (List UInt8) := [[79, 75], [69, 82, 82], [76, 73, 78, 69], [84, 79, 75, 69, 78], [82, 65, 78, 71, 69], [79, 86, 69, 82, 76, 65, 80], [76, 73, 77, 73, 84], [80, 79, 79, 76], [79, 87, 78, 69, 82], [66, 85, 83, 89], [70, 85, 76, 76], [78, 69, 84], [65, 68, 68, 82], [84, 65, 75, 69, 78]]
def anText (x : An) : List UInt8 := if x.e = 0 then [79, 75] ++ x.s.flatMap (fun t => 32 :: t.data.toList) else [69, 82, 82, 32] ++ wordsT.getD x.e []

/-! ### texts of what is told -/
def bText (a n : Int) : List UInt8 := wr a.toNat n.toNat
def hText (h : Hd) : List UInt8 := bText h.a h.n ++ 61 :: h.o.data.toList
def lText (l : Ls) : List UInt8 := dot l.a.toNat ++ 61 :: l.o.data.toList

/-! ### the lines -/
def isName (l : List UInt8) : Bool := decide (0 < l.length) && decide (l.length ≤ 8) && l.all fun c => (decide (97 ≤ c.toNat) && decide (c.toNat ≤ 122)) || (decide (48 ≤ c.toNat) && decide (c.toNat ≤ 57))
/-- what the words behind a verb are: 1 token, 2 owner, 3 block, 4 address, 5 length -/
def form (v : Nat) : List Nat :=
  if v = 2 then [1, 2, 3, 5] else if v = 6 ∨ v = 7 then [1, 2, 4] else if v < 8 then [1, 2, 3] else if v = 8 then [] else [3]
def verbT : List (List UInt8) := [[80, 79, 79, 76], [68, 82, 79, 80], [78, 69, 84], [66, 76, 79, 67, 75], [70, 82, 69, 69], [76, 69, 65, 83, 69], [84, 65, 75, 69], [71, 73, 86, 69], [80, 79, 79, 76, 83], [78, 69, 84, 83], [85, 83, 69, 68]]
def rdPart (l : Ln) (p : Nat) (w : List UInt8) : Option Ln :=
  if p = 1 then (if isName w then some { l with t := ⟨w.toArray⟩ } else none)
  else if p = 2 then (if isName w then some { l with o := ⟨w.toArray⟩ } else none)
  else if p = 3 then (match rd w with | some b => some { l with a := b.1, n := b.2 } | none => none)
  else if p = 4 then (match addr w with | some d => some { l with d := d } | none => none)
  else if p = 5 then (match num w 32 with | some g => some { l with g := g } | none => none)
  else none
def rdParts : Ln → List Nat → List (List UInt8) → Option Ln
  | l, [], [] => some l
  | l, p :: ps, w :: ws => match rdPart l p w with | some l' => rdParts l' ps ws | none => none
  | _, _, _ => none
def rdLine (s : List UInt8) : Option Ln :=
  if s.length ≤ 100 then
    match parts 32 s with
    | w :: ws => if fi (fun v => v == w) verbT < 0 then none else rdParts (ln0 (fi (fun v => v == w) verbT).toNat) (form (fi (fun v => v == w) verbT).toNat) ws
    | [] => none
  else none

/-! ### what each does -/
def doPool (s : Bk) (l : Ln) : Bk × An :=
  if l.n < 8 ∨ 30 < l.n then (s, ref 4) else if anyH s.pools l.a l.n then (s, ref 5) else if 6 ≤ s.pools.length then (s, ref 6)
  else ({ s with pools := insH s.pools ⟨l.a, l.n, l.o⟩ }, okA)
def doDrop (s : Bk) (l : Ln) : Bk × An :=
  if findH s.pools l.a l.n < 0 then (s, ref 7) else if (s.pools.getD (findH s.pools l.a l.n).toNat hd0).o ≠ l.o then (s, ref 8)
  else if netsOf s.nets l.a l.n ≠ [] then (s, ref 9) else ({ s with pools := delAt s.pools (findH s.pools l.a l.n).toNat }, okA)
def doNet (s : Bk) (l : Ln) : Bk × An :=
  if findH s.pools l.a l.n < 0 then (s, ref 7) else if l.g < 22 ∨ l.g < l.n then (s, ref 4)
  else match best (frees 33 (netsOf s.nets l.a l.n) l.a l.n) l.g with
    | none => (s, ref 10)
    | some b => if 24 ≤ s.nets.length then (s, ref 6) else ({ s with nets := insH s.nets ⟨b.1, l.g, l.o⟩ }, tell1 ⟨(bText b.1 l.g).toArray⟩)
def doBlock (s : Bk) (l : Ln) : Bk × An :=
  if l.n < 22 then (s, ref 4) else if spanH s.pools l.a l.n < 0 then (s, ref 7) else if anyH s.nets l.a l.n then (s, ref 5)
  else if 24 ≤ s.nets.length then (s, ref 6) else ({ s with nets := insH s.nets ⟨l.a, l.n, l.o⟩ }, okA)
def doFree (s : Bk) (l : Ln) : Bk × An :=
  if findH s.nets l.a l.n < 0 then (s, ref 11) else if (s.nets.getD (findH s.nets l.a l.n).toNat hd0).o ≠ l.o then (s, ref 8)
  else if leasesOf s.leases l.a l.n ≠ [] then (s, ref 9) else ({ s with nets := delAt s.nets (findH s.nets l.a l.n).toNat }, okA)
def doLease (s : Bk) (l : Ln) : Bk × An :=
  if findH s.nets l.a l.n < 0 then (s, ref 11)
  else match least s.leases l.a l.n with
    | none => (s, ref 10)
    | some d => if 40 ≤ s.leases.length then (s, ref 6) else ({ s with leases := insL s.leases ⟨d, l.o⟩ }, tell1 ⟨(dot d.toNat).toArray⟩)
def doTake (s : Bk) (l : Ln) : Bk × An :=
  if spanH s.nets l.d 32 < 0 then (s, ref 11)
  else if l.d < useA (s.nets.getD (spanH s.nets l.d 32).toNat hd0).a (s.nets.getD (spanH s.nets l.d 32).toNat hd0).n ∨ useZ (s.nets.getD (spanH s.nets l.d 32).toNat hd0).a (s.nets.getD (spanH s.nets l.d 32).toNat hd0).n < l.d then (s, ref 12)
  else if hasL s.leases l.d then (s, ref 13) else if 40 ≤ s.leases.length then (s, ref 6) else ({ s with leases := insL s.leases ⟨l.d, l.o⟩ }, okA)
def doGive (s : Bk) (l : Ln) : Bk × An :=
  if hasL s.leases l.d then (if (s.leases.getD (cntL s.leases l.d) ls0).o ≠ l.o then (s, ref 8) else ({ s with leases := delAt s.leases (cntL s.leases l.d) }, okA)) else (s, ref 12)
def doNets (s : Bk) (l : Ln) : An := if findH s.pools l.a l.n < 0 then ref 7 else ⟨0, (netsOf s.nets l.a l.n).map fun h => ⟨(hText h).toArray⟩⟩
def doUsed (s : Bk) (l : Ln) : An := if findH s.nets l.a l.n < 0 then ref 11 else ⟨0, (leasesOf s.leases l.a l.n).map fun h => ⟨(lText h).toArray⟩⟩
def doLn (s : Bk) (l : Ln) : Bk × An :=
  match l.v with
  | 0 => doPool s l
  | 1 => doDrop s l
  | 2 => doNet s l
  | 3 => doBlock s l
  | 4 => doFree s l
  | 5 => doLease s l
  | 6 => doTake s l
  | 7 => doGive s l
  | 8 => (s, ⟨0, s.pools.map fun h => ⟨(hText h).toArray⟩⟩)
  | 9 => (s, doNets s l)
  | 10 => (s, doUsed s l)
  | _ => (s, ref 2)
/-- the table of tokens -/
def findT (l : List Tk) (t : ByteArray) : Option Tk := (l.filter fun x => decide (x.t = t)).getLast?
def addT (l : List Tk) (x : Tk) : List Tk := (if 8 ≤ l.length then l.drop 1 else l) ++ [x]
/-- a line is done -/
def doAll (s : Bk) (line : ByteArray) : Bk × ByteArray :=
  match rdLine line.data.toList with
  | none => (s, ⟨(anText (ref 2)).toArray⟩)
  | some l =>
    if l.v < 8 then
      match findT s.toks l.t with
      | some x => if x.l ≠ line then (s, ⟨(anText (ref 3)).toArray⟩) else (s, x.r)
      | none =>
        let y := doLn s l
        if y.2.e = 0 then ({ y.1 with toks := addT y.1.toks ⟨l.t, line, ⟨(anText y.2).toArray⟩⟩ }, ⟨(anText y.2).toArray⟩) else (y.1, ⟨(anText y.2).toArray⟩)
    else ((doLn s l).1, ⟨(anText (doLn s l).2).toArray⟩)
end Go.Proofs.YtlikdnmikdldfaaGreatDoor
namespace Go.Proofs.YtlikdnmikdldfaaGreatDoor
open Go.RowKit
set_option linter.unusedVariables false
set_option linter.unusedSimpArgs false

theorem cut_srt {α : Type} (f : α → Int) (a : Int) (l : List α) (h : l.Pairwise (fun x y => f x ≤ f y)) :
    (∀ y, y ∈ l.take (l.countP fun y => decide (f y < a)) → f y < a) ∧ (∀ y, y ∈ l.drop (l.countP fun y => decide (f y < a)) → a ≤ f y) := by
  induction l with
  | nil => simp
  | cons x r ih =>
    rw [List.pairwise_cons] at h
    by_cases hx : f x < a
    · have := ih h.2
      rw [List.countP_cons_of_pos (by simpa using hx)]
      simp only [List.take_succ_cons, List.drop_succ_cons, List.mem_cons]
      exact ⟨fun y hy => hy.elim (fun e => e ▸ hx) (this.1 y), this.2⟩
    · have h0 : r.countP (fun y => decide (f y < a)) = 0 := List.countP_eq_zero.2 (fun y hy => by have := h.1 y hy; simp; omega)
      rw [List.countP_cons_of_neg (by simpa using hx), h0]
      simp only [List.take_zero, List.drop_zero, List.mem_cons, List.not_mem_nil, false_imp_iff, implies_true, true_and]
      intro y hy
      rcases hy with rfl | hy
      · omega
      · have := h.1 y hy; omega
/-- laid in at its place, a list stays in order -/
theorem pair_ins {α : Type} (R : α → α → Prop) (f : α → Int) (x : α) (l : List α) (hs : l.Pairwise (fun a b => f a ≤ f b)) (h : l.Pairwise R) (h1 : ∀ y, y ∈ l → f y < f x → R y x) (h2 : ∀ y, y ∈ l → f x ≤ f y → R x y) :
    (l.take (l.countP fun y => decide (f y < f x)) ++ x :: l.drop (l.countP fun y => decide (f y < f x))).Pairwise R := by
  obtain ⟨c1, c2⟩ := cut_srt f (f x) l hs
  have h3 : (l.take (l.countP fun y => decide (f y < f x)) ++ l.drop (l.countP fun y => decide (f y < f x))).Pairwise R := by rw [List.take_append_drop]; exact h
  rw [List.pairwise_append] at h3 ⊢
  refine ⟨h3.1, List.pairwise_cons.2 ⟨fun y hy => h2 y (List.mem_of_mem_drop hy) (c2 y hy), h3.2.1⟩, fun y hy z hz => ?_⟩
  rcases List.mem_cons.1 hz with rfl | hz
  · exact h1 y (List.mem_of_mem_take hy) (c1 y hy)
  · exact h3.2.2 y hy z hz
theorem mem_insT {α : Type} {l : List α} {c : Nat} {x y : α} : y ∈ l.take c ++ x :: l.drop c ↔ y = x ∨ y ∈ l := by
  rw [List.mem_append, List.mem_cons]
  have e : y ∈ l ↔ y ∈ l.take c ∨ y ∈ l.drop c := by rw [← List.mem_append, List.take_append_drop]
  rw [e]
  constructor
  · rintro (h | h | h)
    · exact .inr (.inl h)
    · exact .inl h
    · exact .inr (.inr h)
  · rintro (h | h | h)
    · exact .inr (.inl h)
    · exact .inl h
    · exact .inr (.inr h)
theorem mem_insH {l : List Hd} {x y : Hd} : y ∈ insH l x ↔ y = x ∨ y ∈ l := mem_insT
theorem mem_insL {l : List Ls} {x y : Ls} : y ∈ insL l x ↔ y = x ∨ y ∈ l := mem_insT
theorem delAt_sub {α : Type} (l : List α) (k : Nat) : List.Sublist (delAt l k) l := by
  unfold delAt
  rw [show l.drop (k + 1) = (l.drop k).drop 1 by rw [List.drop_drop]]
  have := List.Sublist.append (List.Sublist.refl (l.take k)) (List.drop_sublist 1 (l.drop k))
  rwa [List.take_append_drop] at this
theorem mem_del {α : Type} {l : List α} {k : Nat} (d : α) {y : α} (h : y ∈ l) : y = l.getD k d ∨ y ∈ delAt l k := by
  unfold delAt
  obtain ⟨i, hi, rfl⟩ := List.mem_iff_getElem.1 h
  by_cases e : i = k
  · subst e; exact .inl (by simp [List.getD_eq_getElem?_getD, hi])
  · refine .inr (List.mem_append.2 ?_)
    by_cases hlt : i < k
    · exact .inl (List.mem_iff_getElem.2 ⟨i, by simp; omega, by simp⟩)
    · exact .inr (List.mem_iff_getElem.2 ⟨i - (k + 1), by simp; omega, by simp; congr 1; omega⟩)

/-! ### blocks -/
theorem sz_mono {m n : Int} (h : m ≤ n) (h1 : n ≤ 32) : sz n ≤ sz m := by
  obtain ⟨q, e, hq⟩ := sz_dvd m n h h1
  have := sz_pos n
  rw [e]
  have : sz n * 1 ≤ sz n * q := Int.mul_le_mul_of_nonneg_left (by omega) (by omega)
  omega
theorem sz_two {n : Int} (h : n < 32) : 2 ≤ sz n := by have := sz_succ n h; have := sz_pos (n + 1); omega
theorem mm_yes {a n b m : Int} (hr : rt a n = true) (hc : rt b m = true) : mm a n b m = true ↔ a < b + sz m ∧ b < a + sz n := by
  rw [mm_lohi a n b m hr hc]; simp
theorem mm_no {a n b m : Int} (hr : rt a n = true) (hc : rt b m = true) : mm a n b m = false ↔ b + sz m ≤ a ∨ a + sz n ≤ b := by
  rw [mm_lohi a n b m hr hc]; simp; omega
/-- a smaller block that meets a larger one is in it -/
theorem inn_in {a n b m : Int} (hr : rt a n = true) (hc : rt b m = true) : inn a n b m = true ↔ m ≤ n ∧ b ≤ a ∧ a + sz n ≤ b + sz m := by
  obtain ⟨n0, n1, an⟩ := rt_iff.1 hr
  obtain ⟨m0, m1, bm⟩ := rt_iff.1 hc
  unfold inn
  rw [Bool.and_eq_true, decide_eq_true_eq, mm_yes hr hc]
  have hp := sz_pos n
  have hpm := sz_pos m
  constructor
  · rintro ⟨h, h1, h2⟩
    have bn := mod_down b m n h n1 bm
    obtain ⟨q, e, _⟩ := sz_dvd m n h n1
    have bn2 : (b + sz m) % sz n = 0 := by rw [e, Int.add_mul_emod_self_left]; exact bn
    have h3 : b ≤ a := step_le b a (sz n) hp bn an h2
    have h4 : a + sz n ≤ b + sz m := by
      have an2 : (a + sz n) % sz n = 0 := by rw [Int.add_emod_right]; exact an
      exact step_le _ _ (sz n) hp an2 bn2 (by omega)
    exact ⟨h, h3, h4⟩
  · rintro ⟨h, h1, h2⟩
    exact ⟨h, by omega, by omega⟩
theorem rt_less {a n m : Int} (hr : rt a n = true) (h : n ≤ m) (h1 : m ≤ 32) : rt a m = true := by
  obtain ⟨n0, n1, an⟩ := rt_iff.1 hr
  exact rt_iff.2 ⟨by omega, h1, mod_down a n m h h1 an⟩
theorem rt_one {a : Int} : rt a 32 = true := rt_iff.2 ⟨by omega, by omega, by rw [sz_32]; omega⟩
/-- a free block is in its block, and meets nothing -/
theorem frees_in (l : List Hd) (hl : ∀ h, h ∈ l → rt h.a h.n = true) (k : Nat) : ∀ a n, rt a n = true → ∀ b, b ∈ frees k l a n → rt b.1 b.2 = true ∧ n ≤ b.2 ∧ a ≤ b.1 ∧ b.1 + sz b.2 ≤ a + sz n ∧ anyH l b.1 b.2 = false := by
  induction k with
  | zero => intro a n _ b hb; simp [frees] at hb
  | succ k ih =>
    intro a n hr b hb
    unfold frees at hb
    split at hb
    · rename_i h
      rw [List.mem_singleton] at hb
      subst hb
      exact ⟨hr, Int.le_refl _, Int.le_refl _, Int.le_refl _, by simpa using h⟩
    · rename_i h
      split at hb
      · simp at hb
      · rename_i hs
        obtain ⟨n0, n1, an⟩ := rt_iff.1 hr
        have hn : n < 32 := by
          rcases Int.lt_or_le n 32 with q | q
          · exact q
          · exfalso
            have hn32 : n = 32 := by omega
            simp only [Bool.not_eq_true', Bool.not_eq_false] at h
            unfold anyH at h
            obtain ⟨y, hy, hm⟩ := List.any_eq_true.1 h
            refine hs ?_
            unfold spanH
            rcases fi_cases (spansH a n) l hd0 with ⟨_, q⟩ | ⟨j, _, e, _⟩
            · have := q y hy
              unfold spansH at this
              unfold meetsH at hm
              have hyr := hl y hy
              obtain ⟨_, y1, _⟩ := rt_iff.1 hyr
              unfold inn at this
              rw [mm_comm] at hm
              rw [hm, Bool.and_true, decide_eq_false_iff_not] at this
              omega
            · rw [e]; omega
        have hsz := sz_succ n hn
        have hp := sz_pos (n + 1)
        rcases List.mem_append.1 hb with hb | hb
        · obtain ⟨h1, h2, h3, h4, h5⟩ := ih a (n + 1) (lo_rt hr hn) b hb
          exact ⟨h1, by omega, h3, by omega, h5⟩
        · obtain ⟨h1, h2, h3, h4, h5⟩ := ih _ (n + 1) (hi_rt hr hn) b hb
          exact ⟨h1, by omega, by omega, by omega, h5⟩
theorem best_in {bits : Int} (L : List (Int × Int)) : ∀ (s : Option (Int × Int)) (b : Int × Int), L.foldl (bestStep bits) s = some b → (b ∈ L ∧ b.2 ≤ bits) ∨ s = some b := by
  induction L with
  | nil => intro s b h; exact .inr h
  | cons c r ih =>
    intro s b h
    rw [List.foldl_cons] at h
    rcases ih _ b h with ⟨h1, h2⟩ | h1
    · exact .inl ⟨List.mem_cons_of_mem _ h1, h2⟩
    · unfold bestStep at h1
      split at h1
      · rename_i hc
        split at h1
        · simp at h1; subst h1; exact .inl ⟨List.mem_cons_self, hc⟩
        · split at h1
          · simp at h1; subst h1; exact .inl ⟨List.mem_cons_self, hc⟩
          · exact .inr h1
      · exact .inr h1

/-! ### a book in order -/
structure Good (s : Bk) : Prop where
  pr : ∀ h, h ∈ s.pools → 0 ≤ h.a ∧ h.a < 4294967296 ∧ rt h.a h.n = true
  nr : ∀ h, h ∈ s.nets → 0 ≤ h.a ∧ h.a < 4294967296 ∧ rt h.a h.n = true ∧ 22 ≤ h.n
  po : ∀ h, h ∈ s.pools → isName h.o.data.toList = true
  no : ∀ h, h ∈ s.nets → isName h.o.data.toList = true
  lo : ∀ h, h ∈ s.leases → isName h.o.data.toList = true
  pp : s.pools.Pairwise fun x y => x.a + sz x.n ≤ y.a
  np : s.nets.Pairwise fun x y => x.a + sz x.n ≤ y.a
  lp : s.leases.Pairwise fun x y => x.a < y.a
  ni : ∀ h, h ∈ s.nets → ∃ p, p ∈ s.pools ∧ inn h.a h.n p.a p.n = true
  li : ∀ l, l ∈ s.leases → ∃ h, h ∈ s.nets ∧ useA h.a h.n ≤ l.a ∧ l.a ≤ useZ h.a h.n
theorem bk0_good : Good bk0 := ⟨by simp [bk0], by simp [bk0], by simp [bk0], by simp [bk0], by simp [bk0], by simp [bk0], by simp [bk0], by simp [bk0], by simp [bk0], by simp [bk0]⟩
theorem srtH {l : List Hd} (h : l.Pairwise fun x y => x.a + sz x.n ≤ y.a) : l.Pairwise fun x y => x.a ≤ y.a := h.imp fun {x y} q => by have := sz_pos x.n; omega
theorem srtL {l : List Ls} (h : l.Pairwise fun x y => x.a < y.a) : l.Pairwise fun x y => x.a ≤ y.a := h.imp fun {x y} q => by omega
/-- a block that meets none is laid in -/
theorem ins_apart {l : List Hd} {x : Hd} (hl : ∀ h, h ∈ l → rt h.a h.n = true) (hx : rt x.a x.n = true) (hp : l.Pairwise fun x y => x.a + sz x.n ≤ y.a) (ha : anyH l x.a x.n = false) : (insH l x).Pairwise fun x y => x.a + sz x.n ≤ y.a := by
  have hz := fun y : Hd => sz_pos y.n
  have hm : ∀ y, y ∈ l → x.a + sz x.n ≤ y.a ∨ y.a + sz y.n ≤ x.a := fun y hy => by
    have h1 : meetsH x.a x.n y = false := by
      unfold anyH at ha
      simpa using List.any_eq_false.1 ha y hy
    exact (mm_no (hl y hy) hx).1 h1
  refine pair_ins _ Hd.a x l (srtH hp) hp (fun y hy hlt => ?_) (fun y hy hle => ?_)
  · rcases hm y hy with h | h
    · have := hz x; omega
    · exact h
  · rcases hm y hy with h | h
    · exact h
    · have := hz y; omega
theorem findH_at {l : List Hd} {a n : Int} (h : ¬ findH l a n < 0) : (l.getD (findH l a n).toNat hd0) ∈ l ∧ (l.getD (findH l a n).toNat hd0).a = a ∧ (l.getD (findH l a n).toNat hd0).n = n := by
  unfold findH at *
  rcases fi_cases (isH a n) l hd0 with ⟨e, _⟩ | ⟨k, hk, e, hp, _⟩
  · rw [e] at h; omega
  · rw [e, Int.toNat_natCast]
    unfold isH at hp
    simp only [Bool.and_eq_true, decide_eq_true_eq] at hp
    refine ⟨?_, hp.1, hp.2⟩
    rw [List.getD_eq_getElem?_getD, List.getElem?_eq_getElem hk]
    exact List.getElem_mem hk
theorem spanH_at {l : List Hd} {a n : Int} (h : ¬ spanH l a n < 0) : (l.getD (spanH l a n).toNat hd0) ∈ l ∧ inn a n (l.getD (spanH l a n).toNat hd0).a (l.getD (spanH l a n).toNat hd0).n = true := by
  unfold spanH at *
  rcases fi_cases (spansH a n) l hd0 with ⟨e, _⟩ | ⟨k, hk, e, hp, _⟩
  · rw [e] at h; omega
  · rw [e, Int.toNat_natCast]
    refine ⟨?_, hp⟩
    rw [List.getD_eq_getElem?_getD, List.getElem?_eq_getElem hk]
    exact List.getElem_mem hk
/-- where an address is leased -/
theorem hasL_iff {l : List Ls} (hp : l.Pairwise fun x y => x.a < y.a) (a : Int) : hasL l a = true ↔ ∃ x, x ∈ l ∧ x.a = a := by
  unfold hasL
  rw [Bool.and_eq_true, decide_eq_true_eq, decide_eq_true_eq]
  constructor
  · rintro ⟨h1, h2⟩
    refine ⟨_, ?_, h2⟩
    rw [List.getD_eq_getElem?_getD, List.getElem?_eq_getElem h1]
    exact List.getElem_mem h1
  · rintro ⟨x, hx, rfl⟩
    obtain ⟨c1, c2⟩ := cut_srt Ls.a x.a l (srtL hp)
    have hc : cntL l x.a = l.countP fun y => decide (y.a < x.a) := rfl
    rw [← hc] at c1 c2
    have hxd : x ∈ l.drop (cntL l x.a) := by
      have : x ∈ l.take (cntL l x.a) ++ l.drop (cntL l x.a) := by rw [List.take_append_drop]; exact hx
      rcases List.mem_append.1 this with q | q
      · have := c1 x q; omega
      · exact q
    have hlen : cntL l x.a < l.length := by
      rcases Nat.lt_or_ge (cntL l x.a) l.length with q | q
      · exact q
      · rw [List.drop_eq_nil_of_le q] at hxd; simp at hxd
    refine ⟨hlen, ?_⟩
    rw [List.drop_eq_getElem_cons hlen] at hxd
    have hpd : (l.drop (cntL l x.a)).Pairwise fun x y => x.a < y.a := List.Pairwise.sublist (List.drop_sublist _ _) hp
    rw [List.drop_eq_getElem_cons hlen, List.pairwise_cons] at hpd
    rw [List.getD_eq_getElem?_getD, List.getElem?_eq_getElem hlen, Option.getD_some]
    rcases List.mem_cons.1 hxd with q | q
    · rw [← q]
    · have h1 := hpd.1 x q
      have h2 := c2 _ (by rw [List.drop_eq_getElem_cons hlen]; exact List.mem_cons_self)
      omega
/-- the least one that is not leased is not leased -/
theorem leastGo_in (last : Int) : ∀ (L : List Ls) (x y : Int), x ≤ last → L.Pairwise (fun a b => a.a < b.a) → (∀ l, l ∈ L → x ≤ l.a) → leastGo last x L = some y → x ≤ y ∧ y ≤ last ∧ ∀ l, l ∈ L → l.a ≠ y := by
  intro L
  induction L with
  | nil => intro x y hx _ _ h; simp [leastGo] at h; subst h; exact ⟨Int.le_refl _, hx, by simp⟩
  | cons l r ih =>
    intro x y hx hp hlo h
    rw [List.pairwise_cons] at hp
    unfold leastGo at h
    split at h
    · rename_i hne
      simp at h; subst h
      refine ⟨Int.le_refl _, hx, fun z hz => ?_⟩
      rcases List.mem_cons.1 hz with rfl | hz
      · exact hne
      · have := hp.1 z hz; have := hlo l List.mem_cons_self; omega
    · rename_i he
      simp only [ne_eq, Decidable.not_not] at he
      split at h
      · cases h
      · obtain ⟨h1, h2, h3⟩ := ih (x + 1) y (by omega) hp.2 (fun z hz => by have := hp.1 z hz; omega) h
        refine ⟨by omega, h2, fun z hz => ?_⟩
        rcases List.mem_cons.1 hz with rfl | hz
        · omega
        · exact h3 z hz
theorem use_in {a n x : Int} (h : useA a n ≤ x) (h2 : x ≤ useZ a n) : a ≤ x ∧ x < a + sz n := by
  unfold useA useZ lst at *
  split at h <;> split at h2 <;> omega
theorem use_lez {a n : Int} (hr : rt a n = true) : useA a n ≤ useZ a n := by
  obtain ⟨n0, n1, _⟩ := rt_iff.1 hr
  unfold useA useZ lst
  split
  · have h1 := sz_succ n (by omega)
    have h2 := sz_two (n := n + 1) (by omega)
    omega
  · have := sz_pos n; omega
theorem inn_use {a n x : Int} (hr : rt a n = true) (h : a ≤ x) (h2 : x < a + sz n) : inn x 32 a n = true := by
  obtain ⟨n0, n1, _⟩ := rt_iff.1 hr
  exact (inn_in rt_one hr).2 ⟨n1, h, by rw [sz_32]; omega⟩

theorem good_pool {s : Bk} {l : Ln} (G : Good s) (ha : 0 ≤ l.a ∧ l.a < 4294967296) (hr : rt l.a l.n = true) (ho : isName l.o.data.toList = true) : Good (doPool s l).1 := by
  unfold doPool
  split
  · exact G
  split
  · exact G
  split
  · exact G
  rename_i h1 h2 h3
  exact ⟨fun h hh => by rcases mem_insH.1 hh with rfl | hh; exact ⟨ha.1, ha.2, hr⟩; exact G.pr h hh, G.nr, fun h hh => by rcases mem_insH.1 hh with rfl | hh; exact ho; exact G.po h hh, G.no, G.lo,
    ins_apart (fun h hh => (G.pr h hh).2.2) hr G.pp (by simpa using h2), G.np, G.lp, fun h hh => by obtain ⟨p, hp, q⟩ := G.ni h hh; exact ⟨p, mem_insH.2 (.inr hp), q⟩, G.li⟩
theorem good_drop {s : Bk} {l : Ln} (G : Good s) : Good (doDrop s l).1 := by
  unfold doDrop
  split
  · exact G
  split
  · exact G
  split
  · exact G
  rename_i h1 h2 h3
  obtain ⟨hm, hma, hmn⟩ := findH_at h1
  have hsub := delAt_sub s.pools (findH s.pools l.a l.n).toNat
  refine ⟨fun h hh => G.pr h (hsub.mem hh), G.nr, fun h hh => G.po h (hsub.mem hh), G.no, G.lo, G.pp.sublist hsub, G.np, G.lp, fun h hh => ?_, G.li⟩
  obtain ⟨p, hp, q⟩ := G.ni h hh
  rcases mem_del (k := (findH s.pools l.a l.n).toNat) hd0 hp with e | e
  · exfalso
    apply h3
    intro hn
    rw [e, hma, hmn] at q
    have : h ∈ netsOf s.nets l.a l.n := List.mem_filter.2 ⟨hh, q⟩
    rw [hn] at this; simp at this
  · exact ⟨p, e, q⟩
/-- the blocks of two pools, or of a pool and a subnet of another, are apart -/
theorem apart_of {l : List Hd} {x y : Hd} (hp : l.Pairwise fun x y => x.a + sz x.n ≤ y.a) (hx : x ∈ l) (hy : y ∈ l) : x = y ∨ x.a + sz x.n ≤ y.a ∨ y.a + sz y.n ≤ x.a := by
  obtain ⟨i, hi, rfl⟩ := List.mem_iff_getElem.1 hx
  obtain ⟨j, hj, rfl⟩ := List.mem_iff_getElem.1 hy
  rw [List.pairwise_iff_getElem] at hp
  rcases Nat.lt_trichotomy i j with h | h | h
  · exact .inr (.inl (hp i j hi hj h))
  · subst h; exact .inl rfl
  · exact .inr (.inr (hp j i hj hi h))
theorem netsOf_mem {s : Bk} {a n : Int} {h : Hd} : h ∈ netsOf s.nets a n ↔ h ∈ s.nets ∧ inn h.a h.n a n = true := by unfold netsOf; rw [List.mem_filter]
theorem good_nets {s : Bk} {x : Hd} (G : Good s) (ha : 0 ≤ x.a ∧ x.a < 4294967296) (hr : rt x.a x.n = true) (hn : 22 ≤ x.n) (ho : isName x.o.data.toList = true) (hany : anyH s.nets x.a x.n = false) (hi : ∃ p, p ∈ s.pools ∧ inn x.a x.n p.a p.n = true) : Good { s with nets := insH s.nets x } :=
  ⟨G.pr, fun h hh => by rcases mem_insH.1 hh with rfl | hh; exact ⟨ha.1, ha.2, hr, hn⟩; exact G.nr h hh, G.po, fun h hh => by rcases mem_insH.1 hh with rfl | hh; exact ho; exact G.no h hh, G.lo, G.pp,
    ins_apart (fun h hh => (G.nr h hh).2.2.1) hr G.np hany, G.lp, fun h hh => by rcases mem_insH.1 hh with rfl | hh; exact hi; exact G.ni h hh,
    fun h hh => by obtain ⟨p, hp, q⟩ := G.li h hh; exact ⟨p, mem_insH.2 (.inr hp), q⟩⟩
/-- what a NET carves out is apart from all subnets, and in the pool -/
theorem net_apart {s : Bk} {l : Ln} {b : Int × Int} (G : Good s) (hg : l.g ≤ 32) (h1 : ¬ findH s.pools l.a l.n < 0) (hb : best (frees 33 (netsOf s.nets l.a l.n) l.a l.n) l.g = some b) :
    rt b.1 l.g = true ∧ 0 ≤ b.1 ∧ b.1 < 4294967296 ∧ anyH s.nets b.1 l.g = false ∧ ∃ p, p ∈ s.pools ∧ inn b.1 l.g p.a p.n = true := by
  obtain ⟨hm, hma, hmn⟩ := findH_at h1
  obtain ⟨p, hpe⟩ : ∃ p, p = s.pools.getD (findH s.pools l.a l.n).toNat hd0 := ⟨_, rfl⟩
  rw [← hpe] at hm hma hmn
  obtain ⟨p0, p1, pr⟩ := G.pr p hm
  rw [hma, hmn] at pr
  rw [hma] at p0 p1
  obtain ⟨n0, n1, an⟩ := rt_iff.1 pr
  rcases best_in _ _ _ hb with ⟨q1, q2⟩ | q
  · obtain ⟨r1, r2, r3, r4, r5⟩ := frees_in _ (fun h hh => (G.nr h (netsOf_mem.1 hh).1).2.2.1) 33 l.a l.n pr b q1
    have rg : rt b.1 l.g = true := rt_less r1 q2 hg
    have hsz := sz_mono q2 hg
    have hend := end_le l.a l.n n0 n1 p0 p1 an
    have hpg := sz_pos l.g
    have hin : inn b.1 l.g l.a l.n = true := (inn_in rg pr).2 ⟨by omega, r3, by omega⟩
    refine ⟨rg, by omega, by omega, ?_, ⟨p, hm, by rw [hma, hmn]; exact hin⟩⟩
    unfold anyH
    refine List.any_eq_false.2 fun y hy => ?_
    obtain ⟨y0, y1, yr, y22⟩ := G.nr y hy
    have : meetsH b.1 l.g y = false := by
      unfold meetsH
      refine (mm_no yr rg).2 ?_
      by_cases hy2 : inn y.a y.n l.a l.n = true
      · have hn : meetsH b.1 b.2 y = false := by
          unfold anyH at r5
          simpa using List.any_eq_false.1 r5 y (netsOf_mem.2 ⟨hy, hy2⟩)
        rcases (mm_no yr r1).1 hn with q | q
        · exact .inl (by omega)
        · exact .inr q
      · obtain ⟨p', hp', hq'⟩ := G.ni y hy
        obtain ⟨z0, z1, zr⟩ := G.pr p' hp'
        obtain ⟨w1, w2, w3⟩ := (inn_in yr zr).1 hq'
        rcases apart_of G.pp hm hp' with e | e | e
        · rw [← e, hma, hmn] at hq'; exact absurd hq' hy2
        · rw [hma, hmn] at e; exact .inl (by omega)
        · rw [hma] at e; exact .inr (by omega)
    rw [this]; decide
  · cases q
theorem good_net {s : Bk} {l : Ln} (G : Good s) (hg : l.g ≤ 32) (ho : isName l.o.data.toList = true) : Good (doNet s l).1 := by
  unfold doNet
  split
  · exact G
  split
  · exact G
  rename_i h1 h2
  rcases hb : best (frees 33 (netsOf s.nets l.a l.n) l.a l.n) l.g with _ | b
  · exact G
  · simp only []
    split
    · exact G
    · obtain ⟨r1, r2, r3, r4, r5⟩ := net_apart G hg h1 hb
      exact good_nets (x := ⟨b.1, l.g, l.o⟩) G ⟨r2, r3⟩ r1 (by show 22 ≤ l.g; omega) ho r4 r5
theorem good_block {s : Bk} {l : Ln} (G : Good s) (ha : 0 ≤ l.a ∧ l.a < 4294967296) (hr : rt l.a l.n = true) (ho : isName l.o.data.toList = true) : Good (doBlock s l).1 := by
  unfold doBlock
  split
  · exact G
  split
  · exact G
  split
  · exact G
  split
  · exact G
  rename_i h1 h2 h3 h4
  obtain ⟨hm, hi⟩ := spanH_at h2
  exact good_nets (x := ⟨l.a, l.n, l.o⟩) G ha hr (by show 22 ≤ l.n; omega) ho (by simpa using h3) ⟨_, hm, hi⟩
theorem good_free {s : Bk} {l : Ln} (G : Good s) : Good (doFree s l).1 := by
  unfold doFree
  split
  · exact G
  split
  · exact G
  split
  · exact G
  rename_i h1 h2 h3
  obtain ⟨hm, hma, hmn⟩ := findH_at h1
  have hsub := delAt_sub s.nets (findH s.nets l.a l.n).toNat
  refine ⟨G.pr, fun h hh => G.nr h (hsub.mem hh), G.po, fun h hh => G.no h (hsub.mem hh), G.lo, G.pp, G.np.sublist hsub, G.lp, fun h hh => G.ni h (hsub.mem hh), fun x hx => ?_⟩
  obtain ⟨h, hh, q1, q2⟩ := G.li x hx
  rcases mem_del (k := (findH s.nets l.a l.n).toNat) hd0 hh with e | e
  · exfalso
    apply h3
    intro hn
    obtain ⟨_, _, hr, _⟩ := G.nr h hh
    obtain ⟨u1, u2⟩ := use_in q1 q2
    have hin := inn_use hr u1 u2
    rw [e, hma, hmn] at hin
    have : x ∈ leasesOf s.leases l.a l.n := List.mem_filter.2 ⟨hx, hin⟩
    rw [hn] at this; simp at this
  · exact ⟨h, e, q1, q2⟩
theorem good_leases {s : Bk} {x : Ls} (G : Good s) (ho : isName x.o.data.toList = true) (hno : ∀ y, y ∈ s.leases → y.a ≠ x.a) (hi : ∃ h, h ∈ s.nets ∧ useA h.a h.n ≤ x.a ∧ x.a ≤ useZ h.a h.n) : Good { s with leases := insL s.leases x } :=
  ⟨G.pr, G.nr, G.po, G.no, fun h hh => by rcases mem_insL.1 hh with rfl | hh; exact ho; exact G.lo h hh, G.pp, G.np,
    pair_ins _ Ls.a x s.leases (srtL G.lp) G.lp (fun y hy q => q) (fun y hy q => by have := hno y hy; omega), G.ni,
    fun h hh => by rcases mem_insL.1 hh with rfl | hh; exact hi; exact G.li h hh⟩
/-- a lease in a subnet's block is usable there -/
theorem use_of {s : Bk} {h : Hd} {y : Ls} (G : Good s) (hh : h ∈ s.nets) (hy : y ∈ s.leases) (hi : inn y.a 32 h.a h.n = true) : useA h.a h.n ≤ y.a ∧ y.a ≤ useZ h.a h.n := by
  obtain ⟨_, _, hr, _⟩ := G.nr h hh
  obtain ⟨_, i2, i3⟩ := (inn_in rt_one hr).1 hi
  rw [sz_32] at i3
  obtain ⟨h', hh', q1, q2⟩ := G.li y hy
  obtain ⟨u1, u2⟩ := use_in q1 q2
  rcases apart_of G.np hh hh' with e | e | e
  · rw [e]; exact ⟨q1, q2⟩
  · omega
  · omega
theorem least_free {s : Bk} {h : Hd} {d : Int} (G : Good s) (hh : h ∈ s.nets) (hl : least s.leases h.a h.n = some d) : useA h.a h.n ≤ d ∧ d ≤ useZ h.a h.n ∧ ∀ y, y ∈ s.leases → y.a ≠ d := by
  obtain ⟨_, _, hr, _⟩ := G.nr h hh
  unfold least at hl
  have hm : ∀ l, l ∈ leasesOf s.leases h.a h.n ↔ l ∈ s.leases ∧ inn l.a 32 h.a h.n = true := fun l => by unfold leasesOf; rw [List.mem_filter]
  obtain ⟨h1, h2, h3⟩ := leastGo_in (useZ h.a h.n) (leasesOf s.leases h.a h.n) (useA h.a h.n) d (use_lez hr) (G.lp.sublist List.filter_sublist) (fun l q => (use_of G hh ((hm l).1 q).1 ((hm l).1 q).2).1) hl
  refine ⟨h1, h2, fun y hy e => ?_⟩
  obtain ⟨u1, u2⟩ := use_in h1 h2
  rw [← e] at u1 u2
  exact h3 y ((hm y).2 ⟨hy, inn_use hr u1 u2⟩) e
theorem good_lease {s : Bk} {l : Ln} (G : Good s) (ho : isName l.o.data.toList = true) : Good (doLease s l).1 := by
  unfold doLease
  split
  · exact G
  rename_i h1
  obtain ⟨hm, hma, hmn⟩ := findH_at h1
  rcases hb : least s.leases l.a l.n with _ | d
  · exact G
  · simp only []
    split
    · exact G
    · obtain ⟨p, hpe⟩ : ∃ p, p = s.nets.getD (findH s.nets l.a l.n).toNat hd0 := ⟨_, rfl⟩
      rw [← hpe] at hm hma hmn
      rw [← hma, ← hmn] at hb
      obtain ⟨r1, r2, r3⟩ := least_free G hm hb
      exact good_leases (x := ⟨d, l.o⟩) G ho r3 ⟨p, hm, r1, r2⟩
theorem good_take {s : Bk} {l : Ln} (G : Good s) (ho : isName l.o.data.toList = true) : Good (doTake s l).1 := by
  unfold doTake
  split
  · exact G
  split
  · exact G
  split
  · exact G
  split
  · exact G
  rename_i h1 h2 h3 h4
  obtain ⟨hm, hi⟩ := spanH_at h1
  have h5 := Int.not_lt.1 (fun q => h2 (.inl q))
  have h6 := Int.not_lt.1 (fun q => h2 (.inr q))
  refine good_leases (x := ⟨l.d, l.o⟩) G ho (fun y hy e => ?_) ⟨_, hm, h5, h6⟩
  exact h3 ((hasL_iff G.lp l.d).2 ⟨y, hy, e⟩)
theorem good_give {s : Bk} {l : Ln} (G : Good s) : Good (doGive s l).1 := by
  unfold doGive
  split
  · split
    · exact G
    · have hsub := delAt_sub s.leases (cntL s.leases l.d)
      exact ⟨G.pr, G.nr, G.po, G.no, fun h hh => G.lo h (hsub.mem hh), G.pp, G.np, G.lp.sublist hsub, G.ni, fun h hh => G.li h (hsub.mem hh)⟩
  · exact G
/-- what holds of a line that is read -/
def LnGd (l : Ln) : Prop := 0 ≤ l.a ∧ l.a < 4294967296 ∧ rt l.a l.n = true ∧ l.g ≤ 32 ∧ (l.v < 8 → isName l.o.data.toList = true)
theorem good_ln {s : Bk} {l : Ln} (G : Good s) (h : LnGd l) : Good (doLn s l).1 := by
  obtain ⟨h1, h2, h3, h4, h5⟩ := h
  unfold doLn
  split
  · rename_i e; exact good_pool G ⟨h1, h2⟩ h3 (h5 (by omega))
  · exact good_drop G
  · rename_i e; exact good_net G h4 (h5 (by omega))
  · rename_i e; exact good_block G ⟨h1, h2⟩ h3 (h5 (by omega))
  · exact good_free G
  · rename_i e; exact good_lease G (h5 (by omega))
  · rename_i e; exact good_take G (h5 (by omega))
  · exact good_give G
  all_goals exact G
end Go.Proofs.YtlikdnmikdldfaaGreatDoor
namespace Go.Proofs
open Go.Shelf
def Tryz.lays169_ren : Go.Shelf.Ren := ⟨fun | 169 => 54 | n => n, fun | 70 => 124 | 9 => 9 | 0 => 0 | 72 => 126 | 37 => 97 | 127 => 155 | 3 => 3 | 5 => 5 | n => n, fun | n => n⟩
theorem Tryz.lays169 : Go.Proofs.Lays.n169 Tryz.prog Tryz.lays169_ren := {
  mixed := by kernel_rfl
  f169 := Tryz.func54.trans (congrArg some (by kernel_rfl))
  t0 := Tryz.underlying0
  a0 := Tryz.isAgg0
  z0 := Tryz.sizeOf0
  v0 := Tryz.zeroValue0
  t3 := Tryz.underlying3
  a3 := Tryz.isAgg3
  z3 := Tryz.sizeOf3
  v3 := Tryz.zeroValue3
  t9 := Tryz.underlying9
  a9 := Tryz.isAgg9
  z9 := Tryz.sizeOf9
  v9 := Tryz.zeroValue9
  t37 := Tryz.underlying97
  a37 := Tryz.isAgg97
  z37 := Tryz.sizeOf97
  v37 := Tryz.zeroValue97
  t70 := Tryz.underlying124
  a70 := Tryz.isAgg124
  z70 := Tryz.sizeOf124
  v70 := Tryz.zeroValue124
  t72 := Tryz.underlying126
  a72 := Tryz.isAgg126
  z72 := Tryz.sizeOf126
  v72 := Tryz.zeroValue126
  t127 := Tryz.underlying155
  a127 := Tryz.isAgg155
  z127 := Tryz.sizeOf155
  v127 := Tryz.zeroValue155 }
theorem Tryz.Builder_Extra_169 : Builder.Extra Tryz.prog Tryz.lays169_ren := {
  sizeBuilder := by kernel_rfl
  liesBuilder := by kernel_rfl
  t5 := Tryz.underlying5
  a5 := Tryz.isAgg5
  z5 := Tryz.sizeOf5
  v5 := Tryz.zeroValue5
  infoByte := by kernel_rfl
  cellsByte := by kernel_rfl
  sizeByte := by kernel_rfl
  neB5 := by decide }
open Go.RowKit in
theorem Tryz.Builder_String_empty (B b : Nat) (w : World) (h : Lib.IsBuilder 126 5 B b [] w) (hBw : B ≤ w.heap.size) :
    Calls Tryz.prog 54 #[.pointer (some ⟨b, 0, none⟩)] w fun e w' => e = .returned (.string ⟨#[]⟩) ∧ Below B w w' := Any.Builder_String_empty Tryz.lays169 Tryz.Builder_Extra_169 B b w h hBw
open Go.RowKit in
theorem Tryz.Builder_String_any (B b : Nat) (l : List UInt8) (w : World) (h : Lib.IsBuilder 126 5 B b (Lib.byteCells l) w) (hBw : B ≤ w.heap.size) :
    Calls Tryz.prog 54 #[.pointer (some ⟨b, 0, none⟩)] w fun e w' => e = .returned (.string ⟨l.toArray⟩) ∧ Below B w w' := Any.Builder_String_any Tryz.lays169 Tryz.Builder_Extra_169 B b l w h hBw
def Tryz.lays156_ren : Go.Shelf.Ren := ⟨fun | 156 => 139 | 165 => 179 | 166 => 53 | 169 => 54 | 240 => 77 | 241 => 208 | 276 => 118 | 277 => 224 | n => n, fun | 31 => 31 | 9 => 9 | 3 => 3 | 4 => 4 | 0 => 0 | 20 => 20 | 72 => 126 | 76 => 129 | 70 => 124 | 37 => 97 | 75 => 128 | 127 => 155 | 164 => 197 | 5 => 5 | 80 => 81 | n => n, fun | n => n⟩
theorem Tryz.lays156 : Go.Proofs.Lays.n156 Tryz.prog Tryz.lays156_ren := {
  mixed := by kernel_rfl
  f156 := Tryz.func139.trans (congrArg some (by kernel_rfl))
  f165 := Tryz.func179.trans (congrArg some (by kernel_rfl))
  f166 := Tryz.func53.trans (congrArg some (by kernel_rfl))
  f169 := Tryz.func54.trans (congrArg some (by kernel_rfl))
  f240 := Tryz.func77.trans (congrArg some (by kernel_rfl))
  f241 := Tryz.func208.trans (congrArg some (by kernel_rfl))
  f276 := Tryz.func118.trans (congrArg some (by kernel_rfl))
  f277 := Tryz.func224.trans (congrArg some (by kernel_rfl))
  t0 := Tryz.underlying0
  a0 := Tryz.isAgg0
  z0 := Tryz.sizeOf0
  v0 := Tryz.zeroValue0
  t3 := Tryz.underlying3
  a3 := Tryz.isAgg3
  z3 := Tryz.sizeOf3
  v3 := Tryz.zeroValue3
  t4 := Tryz.underlying4
  a4 := Tryz.isAgg4
  z4 := Tryz.sizeOf4
  v4 := Tryz.zeroValue4
  t9 := Tryz.underlying9
  a9 := Tryz.isAgg9
  z9 := Tryz.sizeOf9
  v9 := Tryz.zeroValue9
  t20 := Tryz.underlying20
  a20 := Tryz.isAgg20
  z20 := Tryz.sizeOf20
  v20 := Tryz.zeroValue20
  t31 := Tryz.underlying31
  a31 := Tryz.isAgg31
  z31 := Tryz.sizeOf31
  v31 := Tryz.zeroValue31
  t37 := Tryz.underlying97
  a37 := Tryz.isAgg97
  z37 := Tryz.sizeOf97
  v37 := Tryz.zeroValue97
  t70 := Tryz.underlying124
  a70 := Tryz.isAgg124
  z70 := Tryz.sizeOf124
  v70 := Tryz.zeroValue124
  t72 := Tryz.underlying126
  a72 := Tryz.isAgg126
  z72 := Tryz.sizeOf126
  v72 := Tryz.zeroValue126
  t75 := Tryz.underlying128
  a75 := Tryz.isAgg128
  z75 := Tryz.sizeOf128
  v75 := Tryz.zeroValue128
  t76 := Tryz.underlying129
  a76 := Tryz.isAgg129
  z76 := Tryz.sizeOf129
  v76 := Tryz.zeroValue129
  t127 := Tryz.underlying155
  a127 := Tryz.isAgg155
  z127 := Tryz.sizeOf155
  v127 := Tryz.zeroValue155
  t164 := Tryz.underlying197
  a164 := Tryz.isAgg197
  z164 := Tryz.sizeOf197
  v164 := Tryz.zeroValue197 }
theorem Tryz.Builder_Extra_156 : Builder.Extra Tryz.prog Tryz.lays156_ren := {
  sizeBuilder := by kernel_rfl
  liesBuilder := by kernel_rfl
  t5 := Tryz.underlying5
  a5 := Tryz.isAgg5
  z5 := Tryz.sizeOf5
  v5 := Tryz.zeroValue5
  infoByte := by kernel_rfl
  cellsByte := by kernel_rfl
  sizeByte := by kernel_rfl
  neB5 := by decide }
open Go.RowKit in
theorem Tryz.strings_Join (bk o c : Nat) (xs : List ByteArray) (sep : ByteArray) (w : World) (hcells : ∀ (j : Nat) x, xs[j]? = some x → w.cell? ⟨bk, o + j, none⟩ = some (.string x)) (hbk : bk < w.heap.size) (hN : xs.length ≤ 140737488355328) (hcap : xs.length ≤ c) (hlen : (Lib.join (xs.map (·.data.toList)) sep.data.toList).length ≤ 140737488355328) :
    Calls Tryz.prog 139 #[.slice (some ⟨bk, o, none⟩) xs.length c, .string sep] w fun e w' => e = .returned (.string ⟨(Lib.join (xs.map (·.data.toList)) sep.data.toList).toArray⟩) ∧ Below w.heap.size w w' := Any.strings_Join Tryz.lays156 Tryz.Builder_Extra_156 bk o c xs sep w hcells hbk hN hcap hlen
def Tryz.laysM171_ren : Go.Shelf.Ren := ⟨fun | 171 => 138 | 243 => 178 | 246 => 207 | 283 => 220 | 284 => 221 | 285 => 222 | 286 => 223 | 129 => 233 | 317 => 232 | 318 => 234 | 319 => 235 | 320 => 236 | 337 => 239 | 338 => 240 | n => n, fun | 3 => 3 | 9 => 9 | 2 => 2 | 4 => 4 | 171 => 268 | 0 => 0 | 53 => 269 | 37 => 97 | 5 => 5 | 173 => 272 | 212 => 285 | 51 => 46 | 20 => 20 | 213 => 286 | 46 => 237 | 232 => 299 | 233 => 300 | n => n, fun | 17 => 5 | 18 => 8 | 19 => 9 | n => n⟩
theorem Tryz.laysM171 : Go.Proofs.LaysM.n171 Tryz.prog Tryz.laysM171_ren := {
  mixed := by kernel_rfl
  f129 := Tryz.func233.trans (congrArg some (by kernel_rfl))
  f171 := Tryz.func138.trans (congrArg some (by kernel_rfl))
  f243 := Tryz.func178.trans (congrArg some (by kernel_rfl))
  f246 := Tryz.func207.trans (congrArg some (by kernel_rfl))
  f283 := Tryz.func220.trans (congrArg some (by kernel_rfl))
  f284 := Tryz.func221.trans (congrArg some (by kernel_rfl))
  f285 := Tryz.func222.trans (congrArg some (by kernel_rfl))
  f286 := Tryz.func223.trans (congrArg some (by kernel_rfl))
  f317 := Tryz.func232.trans (congrArg some (by kernel_rfl))
  f318 := Tryz.func234.trans (congrArg some (by kernel_rfl))
  f319 := Tryz.func235.trans (congrArg some (by kernel_rfl))
  f320 := Tryz.func236.trans (congrArg some (by kernel_rfl))
  f337 := Tryz.func239.trans (congrArg some (by kernel_rfl))
  f338 := Tryz.func240.trans (congrArg some (by kernel_rfl))
  t0 := Tryz.underlying0
  a0 := Tryz.isAgg0
  z0 := Tryz.sizeOf0
  v0 := Tryz.zeroValue0
  t2 := Tryz.underlying2
  a2 := Tryz.isAgg2
  z2 := Tryz.sizeOf2
  v2 := Tryz.zeroValue2
  t3 := Tryz.underlying3
  a3 := Tryz.isAgg3
  z3 := Tryz.sizeOf3
  v3 := Tryz.zeroValue3
  t4 := Tryz.underlying4
  a4 := Tryz.isAgg4
  z4 := Tryz.sizeOf4
  v4 := Tryz.zeroValue4
  t5 := Tryz.underlying5
  a5 := Tryz.isAgg5
  z5 := Tryz.sizeOf5
  v5 := Tryz.zeroValue5
  t9 := Tryz.underlying9
  a9 := Tryz.isAgg9
  z9 := Tryz.sizeOf9
  v9 := Tryz.zeroValue9
  t20 := Tryz.underlying20
  a20 := Tryz.isAgg20
  z20 := Tryz.sizeOf20
  v20 := Tryz.zeroValue20
  t37 := Tryz.underlying97
  a37 := Tryz.isAgg97
  z37 := Tryz.sizeOf97
  v37 := Tryz.zeroValue97
  t46 := Tryz.underlying237
  a46 := Tryz.isAgg237
  z46 := Tryz.sizeOf237
  v46 := Tryz.zeroValue237
  t51 := Tryz.underlying46
  a51 := Tryz.isAgg46
  z51 := Tryz.sizeOf46
  v51 := Tryz.zeroValue46
  t53 := Tryz.underlying269
  a53 := Tryz.isAgg269
  z53 := Tryz.sizeOf269
  v53 := Tryz.zeroValue269
  t171 := Tryz.underlying268
  a171 := Tryz.isAgg268
  z171 := Tryz.sizeOf268
  v171 := Tryz.zeroValue268
  t173 := Tryz.underlying272
  a173 := Tryz.isAgg272
  z173 := Tryz.sizeOf272
  v173 := Tryz.zeroValue272
  t212 := Tryz.underlying285
  a212 := Tryz.isAgg285
  z212 := Tryz.sizeOf285
  v212 := Tryz.zeroValue285
  t213 := Tryz.underlying286
  a213 := Tryz.isAgg286
  z213 := Tryz.sizeOf286
  t232 := Tryz.underlying299
  a232 := Tryz.isAgg299
  z232 := Tryz.sizeOf299
  v232 := Tryz.zeroValue299
  t233 := Tryz.underlying300
  a233 := Tryz.isAgg300
  z233 := Tryz.sizeOf300
  v233 := Tryz.zeroValue300
  g17 := by kernel_rfl
  g18 := by kernel_rfl
  g19 := by kernel_rfl
  i0 := by kernel_rfl
  i2 := by kernel_rfl
  i3 := by kernel_rfl
  i4 := by kernel_rfl
  i5 := by kernel_rfl
  i9 := by kernel_rfl
  i20 := by kernel_rfl
  i37 := by kernel_rfl
  i46 := by kernel_rfl
  i51 := by kernel_rfl
  i53 := by kernel_rfl
  i171 := by kernel_rfl
  i173 := by kernel_rfl
  i212 := by kernel_rfl
  i232 := by kernel_rfl
  i233 := by kernel_rfl
  m17 := by kernel_rfl
  m18 := by kernel_rfl
  m19 := by kernel_rfl }
open Go.RowKit Go.Sort Go.Lib in
theorem Tryz.strconv_Itoa (n : Int) (h0 : -9223372036854775808 ≤ n) (h1 : n ≤ 9223372036854775807) (w : World) (htab : Lib.TabIs Tryz.prog w "internal/strconv.uint64pow10" .u64 Lib.pow10Tab) :
    Calls Tryz.prog 138 #[.int .i64 n] w fun e w' => e = .returned (.string ⟨(Lib.itoa n).toArray⟩) ∧ ∃ k os, w' = grow (w.drewN k) os := Any.strconv_Itoa Tryz.laysM171 n h0 h1 w htab
def Tryz.laysM316_ren : Go.Shelf.Ren := ⟨fun | 316 => 119 | n => n, fun | 9 => 9 | 3 => 3 | 4 => 4 | 37 => 97 | 0 => 0 | 127 => 155 | 5 => 5 | n => n, fun | n => n⟩
theorem Tryz.laysM316 : Go.Proofs.LaysM.n316 Tryz.prog Tryz.laysM316_ren := {
  mixed := by kernel_rfl
  f316 := Tryz.func119.trans (congrArg some (by kernel_rfl))
  t0 := Tryz.underlying0
  a0 := Tryz.isAgg0
  z0 := Tryz.sizeOf0
  v0 := Tryz.zeroValue0
  t3 := Tryz.underlying3
  a3 := Tryz.isAgg3
  z3 := Tryz.sizeOf3
  v3 := Tryz.zeroValue3
  t4 := Tryz.underlying4
  a4 := Tryz.isAgg4
  z4 := Tryz.sizeOf4
  v4 := Tryz.zeroValue4
  t9 := Tryz.underlying9
  a9 := Tryz.isAgg9
  z9 := Tryz.sizeOf9
  v9 := Tryz.zeroValue9
  t37 := Tryz.underlying97
  a37 := Tryz.isAgg97
  z37 := Tryz.sizeOf97
  v37 := Tryz.zeroValue97
  t127 := Tryz.underlying155
  a127 := Tryz.isAgg155
  z127 := Tryz.sizeOf155
  v127 := Tryz.zeroValue155
  t5 := Tryz.underlying5
  a5 := Tryz.isAgg5
  z5 := Tryz.sizeOf5
  v5 := Tryz.zeroValue5
  i0 := by kernel_rfl
  i3 := by kernel_rfl
  i4 := by kernel_rfl
  i5 := by kernel_rfl
  i9 := by kernel_rfl
  i37 := by kernel_rfl
  i127 := by kernel_rfl }
open Go.RowKit in
theorem Tryz.stringslite_Clone (s : ByteArray) (w : World) (hlim : s.size ≤ 281474976710656) :
    Calls Tryz.prog 119 #[.string s] w fun e w' => e = .returned (.string s) ∧ Below w.heap.size w w' := Any.stringslite_Clone Tryz.laysM316 s w hlim
def Tryz.laysC172_ren : Go.Shelf.Ren := ⟨fun | 172 => 201 | 244 => 215 | 245 => 216 | 247 => 226 | 279 => 227 | 280 => 228 | 281 => 229 | 282 => 230 | 287 => 237 | 316 => 119 | 171 => 138 | 205 => 238 | 321 => 241 | 322 => 242 | 243 => 178 | 246 => 207 | 283 => 220 | 284 => 221 | 285 => 222 | 286 => 223 | 129 => 233 | 317 => 232 | 318 => 234 | 319 => 235 | 320 => 236 | 337 => 239 | 338 => 240 | n => n, fun | 9 => 9 | 3 => 3 | 75 => 128 | 76 => 129 | 4 => 4 | 5 => 5 | 167 => 277 | 37 => 97 | 0 => 0 | 85 => 278 | 2 => 2 | 168 => 280 | 53 => 269 | 175 => 289 | 46 => 237 | 210 => 292 | 127 => 155 | 145 => 298 | 143 => 296 | 21 => 21 | 171 => 268 | 173 => 272 | 212 => 285 | 51 => 46 | 20 => 20 | 213 => 286 | 232 => 299 | 233 => 300 | 80 => 81 | n => n, fun | 15 => 6 | 16 => 7 | 17 => 5 | 18 => 8 | 19 => 9 | n => n⟩
theorem Tryz.laysC172 : Go.Proofs.LaysC.n172 Tryz.prog Tryz.laysC172_ren := {
  mixed := by kernel_rfl
  f129 := Tryz.func233.trans (congrArg some (by kernel_rfl))
  f171 := Tryz.func138.trans (congrArg some (by kernel_rfl))
  f172 := Tryz.func201.trans (congrArg some (by kernel_rfl))
  f205 := Tryz.func238.trans (congrArg some (by kernel_rfl))
  f243 := Tryz.func178.trans (congrArg some (by kernel_rfl))
  f244 := Tryz.func215.trans (congrArg some (by kernel_rfl))
  f245 := Tryz.func216.trans (congrArg some (by kernel_rfl))
  f246 := Tryz.func207.trans (congrArg some (by kernel_rfl))
  f247 := Tryz.func226.trans (congrArg some (by kernel_rfl))
  f279 := Tryz.func227.trans (congrArg some (by kernel_rfl))
  f280 := Tryz.func228.trans (congrArg some (by kernel_rfl))
  f281 := Tryz.func229.trans (congrArg some (by kernel_rfl))
  f282 := Tryz.func230.trans (congrArg some (by kernel_rfl))
  f283 := Tryz.func220.trans (congrArg some (by kernel_rfl))
  f284 := Tryz.func221.trans (congrArg some (by kernel_rfl))
  f285 := Tryz.func222.trans (congrArg some (by kernel_rfl))
  f286 := Tryz.func223.trans (congrArg some (by kernel_rfl))
  f287 := Tryz.func237.trans (congrArg some (by kernel_rfl))
  f316 := Tryz.func119.trans (congrArg some (by kernel_rfl))
  f317 := Tryz.func232.trans (congrArg some (by kernel_rfl))
  f318 := Tryz.func234.trans (congrArg some (by kernel_rfl))
  f319 := Tryz.func235.trans (congrArg some (by kernel_rfl))
  f320 := Tryz.func236.trans (congrArg some (by kernel_rfl))
  f321 := Tryz.func241.trans (congrArg some (by kernel_rfl))
  f322 := Tryz.func242.trans (congrArg some (by kernel_rfl))
  f337 := Tryz.func239.trans (congrArg some (by kernel_rfl))
  f338 := Tryz.func240.trans (congrArg some (by kernel_rfl))
  t0 := Tryz.underlying0
  a0 := Tryz.isAgg0
  z0 := Tryz.sizeOf0
  v0 := Tryz.zeroValue0
  t2 := Tryz.underlying2
  a2 := Tryz.isAgg2
  z2 := Tryz.sizeOf2
  v2 := Tryz.zeroValue2
  t3 := Tryz.underlying3
  a3 := Tryz.isAgg3
  z3 := Tryz.sizeOf3
  v3 := Tryz.zeroValue3
  t4 := Tryz.underlying4
  a4 := Tryz.isAgg4
  z4 := Tryz.sizeOf4
  v4 := Tryz.zeroValue4
  t5 := Tryz.underlying5
  a5 := Tryz.isAgg5
  z5 := Tryz.sizeOf5
  v5 := Tryz.zeroValue5
  t9 := Tryz.underlying9
  a9 := Tryz.isAgg9
  z9 := Tryz.sizeOf9
  v9 := Tryz.zeroValue9
  t20 := Tryz.underlying20
  a20 := Tryz.isAgg20
  z20 := Tryz.sizeOf20
  v20 := Tryz.zeroValue20
  t21 := Tryz.underlying21
  a21 := Tryz.isAgg21
  z21 := Tryz.sizeOf21
  v21 := Tryz.zeroValue21
  t37 := Tryz.underlying97
  a37 := Tryz.isAgg97
  z37 := Tryz.sizeOf97
  v37 := Tryz.zeroValue97
  t46 := Tryz.underlying237
  a46 := Tryz.isAgg237
  z46 := Tryz.sizeOf237
  v46 := Tryz.zeroValue237
  t51 := Tryz.underlying46
  a51 := Tryz.isAgg46
  z51 := Tryz.sizeOf46
  v51 := Tryz.zeroValue46
  t53 := Tryz.underlying269
  a53 := Tryz.isAgg269
  z53 := Tryz.sizeOf269
  v53 := Tryz.zeroValue269
  t75 := Tryz.underlying128
  a75 := Tryz.isAgg128
  z75 := Tryz.sizeOf128
  v75 := Tryz.zeroValue128
  t76 := Tryz.underlying129
  a76 := Tryz.isAgg129
  z76 := Tryz.sizeOf129
  v76 := Tryz.zeroValue129
  t85 := Tryz.underlying278
  a85 := Tryz.isAgg278
  z85 := Tryz.sizeOf278
  v85 := Tryz.zeroValue278
  t127 := Tryz.underlying155
  a127 := Tryz.isAgg155
  z127 := Tryz.sizeOf155
  v127 := Tryz.zeroValue155
  t143 := Tryz.underlying296
  a143 := Tryz.isAgg296
  z143 := Tryz.sizeOf296
  v143 := Tryz.zeroValue296
  t145 := Tryz.underlying298
  a145 := Tryz.isAgg298
  z145 := Tryz.sizeOf298
  v145 := Tryz.zeroValue298
  t167 := Tryz.underlying277
  a167 := Tryz.isAgg277
  z167 := Tryz.sizeOf277
  v167 := Tryz.zeroValue277
  t168 := Tryz.underlying280
  a168 := Tryz.isAgg280
  z168 := Tryz.sizeOf280
  v168 := Tryz.zeroValue280
  t171 := Tryz.underlying268
  a171 := Tryz.isAgg268
  z171 := Tryz.sizeOf268
  v171 := Tryz.zeroValue268
  t173 := Tryz.underlying272
  a173 := Tryz.isAgg272
  z173 := Tryz.sizeOf272
  v173 := Tryz.zeroValue272
  t175 := Tryz.underlying289
  a175 := Tryz.isAgg289
  z175 := Tryz.sizeOf289
  v175 := Tryz.zeroValue289
  t210 := Tryz.underlying292
  a210 := Tryz.isAgg292
  z210 := Tryz.sizeOf292
  v210 := Tryz.zeroValue292
  t212 := Tryz.underlying285
  a212 := Tryz.isAgg285
  z212 := Tryz.sizeOf285
  v212 := Tryz.zeroValue285
  t213 := Tryz.underlying286
  a213 := Tryz.isAgg286
  z213 := Tryz.sizeOf286
  t232 := Tryz.underlying299
  a232 := Tryz.isAgg299
  z232 := Tryz.sizeOf299
  v232 := Tryz.zeroValue299
  t233 := Tryz.underlying300
  a233 := Tryz.isAgg300
  z233 := Tryz.sizeOf300
  v233 := Tryz.zeroValue300
  g15 := by kernel_rfl
  g16 := by kernel_rfl
  g17 := by kernel_rfl
  g18 := by kernel_rfl
  g19 := by kernel_rfl
  t80 := Tryz.underlying81
  a80 := Tryz.isAgg81
  z80 := Tryz.sizeOf81
  v80 := Tryz.zeroValue81
  i0 := by kernel_rfl
  i2 := by kernel_rfl
  i3 := by kernel_rfl
  i4 := by kernel_rfl
  i5 := by kernel_rfl
  i9 := by kernel_rfl
  i20 := by kernel_rfl
  i21 := by kernel_rfl
  i37 := by kernel_rfl
  i46 := by kernel_rfl
  i51 := by kernel_rfl
  i53 := by kernel_rfl
  i75 := by kernel_rfl
  i76 := by kernel_rfl
  i80 := by kernel_rfl
  i85 := by kernel_rfl
  i127 := by kernel_rfl
  i143 := by kernel_rfl
  i145 := by kernel_rfl
  i167 := by kernel_rfl
  i168 := by kernel_rfl
  i171 := by kernel_rfl
  i173 := by kernel_rfl
  i175 := by kernel_rfl
  i210 := by kernel_rfl
  i212 := by kernel_rfl
  i232 := by kernel_rfl
  i233 := by kernel_rfl
  m15 := by kernel_rfl
  m16 := by kernel_rfl
  m17 := by kernel_rfl
  m18 := by kernel_rfl
  m19 := by kernel_rfl
  c0 := by kernel_rfl
  c2 := by kernel_rfl
  c3 := by kernel_rfl
  c4 := by kernel_rfl
  c5 := by kernel_rfl
  c9 := by kernel_rfl
  c20 := by kernel_rfl
  c21 := by kernel_rfl
  c37 := by kernel_rfl
  c46 := by kernel_rfl
  c51 := by kernel_rfl
  c53 := by kernel_rfl
  c75 := by kernel_rfl
  c76 := by kernel_rfl
  c80 := by kernel_rfl
  c85 := by kernel_rfl
  c127 := by kernel_rfl
  c143 := by kernel_rfl
  c145 := by kernel_rfl
  c167 := by kernel_rfl
  c168 := by kernel_rfl
  c171 := by kernel_rfl
  c173 := by kernel_rfl
  c175 := by kernel_rfl
  c210 := by kernel_rfl
  c212 := by kernel_rfl
  c213 := by kernel_rfl
  c232 := by kernel_rfl
  c233 := by kernel_rfl }
open Go.RowKit in
theorem Tryz.strconv_Atoi_ok (s : ByteArray) (hmax : s.size ≤ 9223372036854775806) (v : Int) (h : Lib.atoiAll s.data.toList = .ok v) (w : World) :
    Calls Tryz.prog 201 #[.string s] w fun e w' => e = .returned (.tuple #[.int .i64 v, .nilIface]) ∧ (w' = w ∨ ∃ t, w' = Lib.bytesWorld w 5 t) := Any.strconv_Atoi_ok Tryz.laysC172 s hmax v h w
def Tryz.lays145_ren : Go.Shelf.Ren := ⟨fun | 145 => 164 | 220 => 200 | 219 => 163 | 217 => 196 | 225 => 197 | 224 => 198 | 267 => 199 | 266 => 213 | 314 => 214 | n => n, fun | 9 => 9 | 4 => 4 | 59 => 233 | 3 => 3 | 5 => 5 | 46 => 237 | 146 => 174 | 51 => 46 | n => n, fun | 1 => 2 | n => n⟩
theorem Tryz.lays145 : Go.Proofs.Lays.n145 Tryz.prog Tryz.lays145_ren := {
  mixed := by kernel_rfl
  f145 := Tryz.func164.trans (congrArg some (by kernel_rfl))
  f217 := Tryz.func196.trans (congrArg some (by kernel_rfl))
  f219 := Tryz.func163.trans (congrArg some (by kernel_rfl))
  f220 := Tryz.func200.trans (congrArg some (by kernel_rfl))
  f224 := Tryz.func198.trans (congrArg some (by kernel_rfl))
  f225 := Tryz.func197.trans (congrArg some (by kernel_rfl))
  f266 := Tryz.func213.trans (congrArg some (by kernel_rfl))
  f267 := Tryz.func199.trans (congrArg some (by kernel_rfl))
  f314 := Tryz.func214.trans (congrArg some (by kernel_rfl))
  t3 := Tryz.underlying3
  a3 := Tryz.isAgg3
  z3 := Tryz.sizeOf3
  v3 := Tryz.zeroValue3
  t4 := Tryz.underlying4
  a4 := Tryz.isAgg4
  z4 := Tryz.sizeOf4
  v4 := Tryz.zeroValue4
  t5 := Tryz.underlying5
  a5 := Tryz.isAgg5
  z5 := Tryz.sizeOf5
  v5 := Tryz.zeroValue5
  t9 := Tryz.underlying9
  a9 := Tryz.isAgg9
  z9 := Tryz.sizeOf9
  v9 := Tryz.zeroValue9
  t46 := Tryz.underlying237
  a46 := Tryz.isAgg237
  z46 := Tryz.sizeOf237
  v46 := Tryz.zeroValue237
  t51 := Tryz.underlying46
  a51 := Tryz.isAgg46
  z51 := Tryz.sizeOf46
  v51 := Tryz.zeroValue46
  t59 := Tryz.underlying233
  a59 := Tryz.isAgg233
  z59 := Tryz.sizeOf233
  v59 := Tryz.zeroValue233
  t146 := Tryz.underlying174
  a146 := Tryz.isAgg174
  z146 := Tryz.sizeOf174
  v146 := Tryz.zeroValue174
  g1 := by kernel_rfl }
open Go.RowKit Go.Lib in
theorem Tryz.strings_Cut (s sep : ByteArray) (m : Int) (w : World) (hs : s.size < 4294967281) (hm : w.cell? ⟨2, 0, none⟩ = some (.int .i64 m)) :
    Calls Tryz.prog 164 #[.string s, .string sep] w fun e w' => e = .returned (.tuple #[.string ⟨(Lib.cut s.data.toList sep.data.toList).1.toArray⟩, .string ⟨(Lib.cut s.data.toList sep.data.toList).2.1.toArray⟩, .bool (Lib.cut s.data.toList sep.data.toList).2.2]) ∧ ∃ n, w' = w.drewN n := Any.strings_Cut Tryz.lays145 s sep m w hs hm
def Tryz.lays146_ren : Go.Shelf.Ren := ⟨fun | 146 => 49 | 221 => 75 | 268 => 111 | 138 => 112 | 143 => 113 | 195 => 160 | 197 => 161 | 218 => 162 | 219 => 163 | 260 => 195 | 217 => 196 | 225 => 197 | 224 => 198 | 267 => 199 | 266 => 213 | 314 => 214 | n => n, fun | 9 => 9 | 31 => 31 | 3 => 3 | 4 => 4 | 0 => 0 | 105 => 230 | 21 => 21 | 5 => 5 | 46 => 237 | 119 => 260 | 139 => 263 | 138 => 262 | 146 => 174 | 51 => 46 | n => n, fun | 1 => 2 | 3 => 3 | 4 => 4 | n => n⟩
theorem Tryz.lays146 : Go.Proofs.Lays.n146 Tryz.prog Tryz.lays146_ren := {
  mixed := by kernel_rfl
  f138 := Tryz.func112.trans (congrArg some (by kernel_rfl))
  f143 := Tryz.func113.trans (congrArg some (by kernel_rfl))
  f146 := Tryz.func49.trans (congrArg some (by kernel_rfl))
  f195 := Tryz.func160.trans (congrArg some (by kernel_rfl))
  f197 := Tryz.func161.trans (congrArg some (by kernel_rfl))
  f217 := Tryz.func196.trans (congrArg some (by kernel_rfl))
  f218 := Tryz.func162.trans (congrArg some (by kernel_rfl))
  f219 := Tryz.func163.trans (congrArg some (by kernel_rfl))
  f221 := Tryz.func75.trans (congrArg some (by kernel_rfl))
  f224 := Tryz.func198.trans (congrArg some (by kernel_rfl))
  f225 := Tryz.func197.trans (congrArg some (by kernel_rfl))
  f260 := Tryz.func195.trans (congrArg some (by kernel_rfl))
  f266 := Tryz.func213.trans (congrArg some (by kernel_rfl))
  f267 := Tryz.func199.trans (congrArg some (by kernel_rfl))
  f268 := Tryz.func111.trans (congrArg some (by kernel_rfl))
  f314 := Tryz.func214.trans (congrArg some (by kernel_rfl))
  t0 := Tryz.underlying0
  a0 := Tryz.isAgg0
  z0 := Tryz.sizeOf0
  v0 := Tryz.zeroValue0
  t3 := Tryz.underlying3
  a3 := Tryz.isAgg3
  z3 := Tryz.sizeOf3
  v3 := Tryz.zeroValue3
  t4 := Tryz.underlying4
  a4 := Tryz.isAgg4
  z4 := Tryz.sizeOf4
  v4 := Tryz.zeroValue4
  t5 := Tryz.underlying5
  a5 := Tryz.isAgg5
  z5 := Tryz.sizeOf5
  v5 := Tryz.zeroValue5
  t9 := Tryz.underlying9
  a9 := Tryz.isAgg9
  z9 := Tryz.sizeOf9
  v9 := Tryz.zeroValue9
  t21 := Tryz.underlying21
  a21 := Tryz.isAgg21
  z21 := Tryz.sizeOf21
  v21 := Tryz.zeroValue21
  t31 := Tryz.underlying31
  a31 := Tryz.isAgg31
  z31 := Tryz.sizeOf31
  v31 := Tryz.zeroValue31
  t46 := Tryz.underlying237
  a46 := Tryz.isAgg237
  z46 := Tryz.sizeOf237
  v46 := Tryz.zeroValue237
  t51 := Tryz.underlying46
  a51 := Tryz.isAgg46
  z51 := Tryz.sizeOf46
  v51 := Tryz.zeroValue46
  t105 := Tryz.underlying230
  a105 := Tryz.isAgg230
  z105 := Tryz.sizeOf230
  v105 := Tryz.zeroValue230
  t119 := Tryz.underlying260
  a119 := Tryz.isAgg260
  z119 := Tryz.sizeOf260
  t138 := Tryz.underlying262
  a138 := Tryz.isAgg262
  z138 := Tryz.sizeOf262
  v138 := Tryz.zeroValue262
  t139 := Tryz.underlying263
  a139 := Tryz.isAgg263
  z139 := Tryz.sizeOf263
  v139 := Tryz.zeroValue263
  t146 := Tryz.underlying174
  a146 := Tryz.isAgg174
  z146 := Tryz.sizeOf174
  v146 := Tryz.zeroValue174
  g1 := by kernel_rfl
  g3 := by kernel_rfl
  g4 := by kernel_rfl }
open Go.RowKit Go.Lib in
theorem Tryz.strings_Split (s sep : ByteArray) (m : Int) (w : World) (hs : s.size < 4294967281) (hm : w.cell? ⟨2, 0, none⟩ = some (.int .i64 m)) (h1 : 1 ≤ sep.size) :
    Calls Tryz.prog 49 #[.string s, .string sep] w fun e w' =>
      e = .returned (.slice (some ⟨w.heap.size, 0, none⟩) (Lib.countB s sep + 1) (Lib.countB s sep + 1)) ∧ w' = w.alloc (.cells ((Lib.splitB sep 0 (Lib.countB s sep) s).map Value.string).toArray 9) := Any.strings_Split Tryz.lays146 (by kernel_rfl) s sep m w hs hm h1
def Tryz.lays147_ren : Go.Shelf.Ren := ⟨fun | 147 => 166 | 221 => 75 | 268 => 111 | 138 => 112 | 143 => 113 | 195 => 160 | 197 => 161 | 218 => 162 | 219 => 163 | 260 => 195 | 217 => 196 | 225 => 197 | 224 => 198 | 267 => 199 | 266 => 213 | 314 => 214 | n => n, fun | 9 => 9 | 3 => 3 | 31 => 31 | 4 => 4 | 0 => 0 | 105 => 230 | 21 => 21 | 5 => 5 | 46 => 237 | 119 => 260 | 139 => 263 | 138 => 262 | 146 => 174 | 51 => 46 | n => n, fun | 1 => 2 | 3 => 3 | 4 => 4 | n => n⟩
theorem Tryz.lays147 : Go.Proofs.Lays.n147 Tryz.prog Tryz.lays147_ren := {
  mixed := by kernel_rfl
  f138 := Tryz.func112.trans (congrArg some (by kernel_rfl))
  f143 := Tryz.func113.trans (congrArg some (by kernel_rfl))
  f147 := Tryz.func166.trans (congrArg some (by kernel_rfl))
  f195 := Tryz.func160.trans (congrArg some (by kernel_rfl))
  f197 := Tryz.func161.trans (congrArg some (by kernel_rfl))
  f217 := Tryz.func196.trans (congrArg some (by kernel_rfl))
  f218 := Tryz.func162.trans (congrArg some (by kernel_rfl))
  f219 := Tryz.func163.trans (congrArg some (by kernel_rfl))
  f221 := Tryz.func75.trans (congrArg some (by kernel_rfl))
  f224 := Tryz.func198.trans (congrArg some (by kernel_rfl))
  f225 := Tryz.func197.trans (congrArg some (by kernel_rfl))
  f260 := Tryz.func195.trans (congrArg some (by kernel_rfl))
  f266 := Tryz.func213.trans (congrArg some (by kernel_rfl))
  f267 := Tryz.func199.trans (congrArg some (by kernel_rfl))
  f268 := Tryz.func111.trans (congrArg some (by kernel_rfl))
  f314 := Tryz.func214.trans (congrArg some (by kernel_rfl))
  t0 := Tryz.underlying0
  a0 := Tryz.isAgg0
  z0 := Tryz.sizeOf0
  v0 := Tryz.zeroValue0
  t3 := Tryz.underlying3
  a3 := Tryz.isAgg3
  z3 := Tryz.sizeOf3
  v3 := Tryz.zeroValue3
  t4 := Tryz.underlying4
  a4 := Tryz.isAgg4
  z4 := Tryz.sizeOf4
  v4 := Tryz.zeroValue4
  t5 := Tryz.underlying5
  a5 := Tryz.isAgg5
  z5 := Tryz.sizeOf5
  v5 := Tryz.zeroValue5
  t9 := Tryz.underlying9
  a9 := Tryz.isAgg9
  z9 := Tryz.sizeOf9
  v9 := Tryz.zeroValue9
  t21 := Tryz.underlying21
  a21 := Tryz.isAgg21
  z21 := Tryz.sizeOf21
  v21 := Tryz.zeroValue21
  t31 := Tryz.underlying31
  a31 := Tryz.isAgg31
  z31 := Tryz.sizeOf31
  v31 := Tryz.zeroValue31
  t46 := Tryz.underlying237
  a46 := Tryz.isAgg237
  z46 := Tryz.sizeOf237
  v46 := Tryz.zeroValue237
  t51 := Tryz.underlying46
  a51 := Tryz.isAgg46
  z51 := Tryz.sizeOf46
  v51 := Tryz.zeroValue46
  t105 := Tryz.underlying230
  a105 := Tryz.isAgg230
  z105 := Tryz.sizeOf230
  v105 := Tryz.zeroValue230
  t119 := Tryz.underlying260
  a119 := Tryz.isAgg260
  z119 := Tryz.sizeOf260
  t138 := Tryz.underlying262
  a138 := Tryz.isAgg262
  z138 := Tryz.sizeOf262
  v138 := Tryz.zeroValue262
  t139 := Tryz.underlying263
  a139 := Tryz.isAgg263
  z139 := Tryz.sizeOf263
  v139 := Tryz.zeroValue263
  t146 := Tryz.underlying174
  a146 := Tryz.isAgg174
  z146 := Tryz.sizeOf174
  v146 := Tryz.zeroValue174
  g1 := by kernel_rfl
  g3 := by kernel_rfl
  g4 := by kernel_rfl }
open Go.RowKit Go.Lib in
theorem Tryz.strings_SplitN (s sep : ByteArray) (n : Nat) (m : Int) (w : World) (hs : s.size < 4294967281) (hm : w.cell? ⟨2, 0, none⟩ = some (.int .i64 m)) (h1 : 1 ≤ sep.size) (hn : 1 ≤ n) (hn63 : n ≤ 9223372036854775807) :
    Calls Tryz.prog 166 #[.string s, .string sep, .int .i64 n] w fun e w' =>
      e = .returned (.slice (some ⟨w.heap.size, 0, none⟩) (Lib.splitB sep 0 (min n (s.size + 1) - 1) s).length (min n (s.size + 1))) ∧ w' = w.alloc (.cells (Lib.cellsOf (Lib.splitB sep 0 (min n (s.size + 1) - 1) s) (min n (s.size + 1))) 9) := Any.strings_SplitN Tryz.lays147 (by kernel_rfl) s sep n m w hs hm h1 hn hn63
def Tryz.laysM147_ren : Go.Shelf.Ren := ⟨fun | 147 => 166 | 221 => 75 | 268 => 111 | 138 => 112 | 143 => 113 | 195 => 160 | 197 => 161 | 218 => 162 | 219 => 163 | 260 => 195 | 217 => 196 | 225 => 197 | 224 => 198 | 267 => 199 | 266 => 213 | 314 => 214 | n => n, fun | 9 => 9 | 3 => 3 | 31 => 31 | 4 => 4 | 0 => 0 | 105 => 230 | 21 => 21 | 5 => 5 | 46 => 237 | 119 => 260 | 139 => 263 | 138 => 262 | 146 => 174 | 51 => 46 | n => n, fun | 1 => 2 | 3 => 3 | 4 => 4 | n => n⟩
theorem Tryz.laysM147 : Go.Proofs.LaysM.n147 Tryz.prog Tryz.laysM147_ren := {
  mixed := by kernel_rfl
  f138 := Tryz.func112.trans (congrArg some (by kernel_rfl))
  f143 := Tryz.func113.trans (congrArg some (by kernel_rfl))
  f147 := Tryz.func166.trans (congrArg some (by kernel_rfl))
  f195 := Tryz.func160.trans (congrArg some (by kernel_rfl))
  f197 := Tryz.func161.trans (congrArg some (by kernel_rfl))
  f217 := Tryz.func196.trans (congrArg some (by kernel_rfl))
  f218 := Tryz.func162.trans (congrArg some (by kernel_rfl))
  f219 := Tryz.func163.trans (congrArg some (by kernel_rfl))
  f221 := Tryz.func75.trans (congrArg some (by kernel_rfl))
  f224 := Tryz.func198.trans (congrArg some (by kernel_rfl))
  f225 := Tryz.func197.trans (congrArg some (by kernel_rfl))
  f260 := Tryz.func195.trans (congrArg some (by kernel_rfl))
  f266 := Tryz.func213.trans (congrArg some (by kernel_rfl))
  f267 := Tryz.func199.trans (congrArg some (by kernel_rfl))
  f268 := Tryz.func111.trans (congrArg some (by kernel_rfl))
  f314 := Tryz.func214.trans (congrArg some (by kernel_rfl))
  t0 := Tryz.underlying0
  a0 := Tryz.isAgg0
  z0 := Tryz.sizeOf0
  v0 := Tryz.zeroValue0
  t3 := Tryz.underlying3
  a3 := Tryz.isAgg3
  z3 := Tryz.sizeOf3
  v3 := Tryz.zeroValue3
  t4 := Tryz.underlying4
  a4 := Tryz.isAgg4
  z4 := Tryz.sizeOf4
  v4 := Tryz.zeroValue4
  t5 := Tryz.underlying5
  a5 := Tryz.isAgg5
  z5 := Tryz.sizeOf5
  v5 := Tryz.zeroValue5
  t9 := Tryz.underlying9
  a9 := Tryz.isAgg9
  z9 := Tryz.sizeOf9
  v9 := Tryz.zeroValue9
  t21 := Tryz.underlying21
  a21 := Tryz.isAgg21
  z21 := Tryz.sizeOf21
  v21 := Tryz.zeroValue21
  t31 := Tryz.underlying31
  a31 := Tryz.isAgg31
  z31 := Tryz.sizeOf31
  v31 := Tryz.zeroValue31
  t46 := Tryz.underlying237
  a46 := Tryz.isAgg237
  z46 := Tryz.sizeOf237
  v46 := Tryz.zeroValue237
  t51 := Tryz.underlying46
  a51 := Tryz.isAgg46
  z51 := Tryz.sizeOf46
  v51 := Tryz.zeroValue46
  t105 := Tryz.underlying230
  a105 := Tryz.isAgg230
  z105 := Tryz.sizeOf230
  v105 := Tryz.zeroValue230
  t119 := Tryz.underlying260
  a119 := Tryz.isAgg260
  z119 := Tryz.sizeOf260
  t138 := Tryz.underlying262
  a138 := Tryz.isAgg262
  z138 := Tryz.sizeOf262
  v138 := Tryz.zeroValue262
  t139 := Tryz.underlying263
  a139 := Tryz.isAgg263
  z139 := Tryz.sizeOf263
  v139 := Tryz.zeroValue263
  t146 := Tryz.underlying174
  a146 := Tryz.isAgg174
  z146 := Tryz.sizeOf174
  v146 := Tryz.zeroValue174
  g1 := by kernel_rfl
  g3 := by kernel_rfl
  g4 := by kernel_rfl
  i0 := by kernel_rfl
  i3 := by kernel_rfl
  i4 := by kernel_rfl
  i5 := by kernel_rfl
  i9 := by kernel_rfl
  i21 := by kernel_rfl
  i31 := by kernel_rfl
  i46 := by kernel_rfl
  i51 := by kernel_rfl
  i105 := by kernel_rfl
  i138 := by kernel_rfl
  i139 := by kernel_rfl
  i146 := by kernel_rfl
  m1 := by kernel_rfl
  s1_3 := fun w h => Go.Proofs.cell_of_shapedOpen_int (zero := #[.int .i64 0]) (t := 3) h (of_decide_eq_true (by kernel_rfl)) (by kernel_rfl) rfl (by kernel_rfl) (by kernel_rfl) Tryz.underlying3
  m3 := by kernel_rfl
  m4 := by kernel_rfl }
end Go.Proofs
namespace Go.Proofs.YtlikdnmikdldfaaGreatDoor
open Go.ChangeShapes Go.WideShapes Go.ChangeAt Go.RowKit
set_option linter.unusedVariables false

theorem mask_any (n : Int) (w : World) (h0 : 0 ≤ n) (h1 : n ≤ 32) :
    Calls Tryz.prog 180 #[.int .i64 n] w fun e w' => e = .returned (.int .u32 (4294967296 - sz n)) ∧ w' = w := by
  go_enter Tryz.func180, Tryz.ntmps180
  go_wp2
  go_ret
  exact ⟨ret_int (mask_eq' n h0 h1), rfl⟩

theorem bcell {W w1 : World} (hb : Below W.heap.size W w1) : (∀ b o, b < W.heap.size → w1.cell? ⟨b, o, none⟩ = W.cell? ⟨b, o, none⟩) ∧ (∀ b o, b < W.heap.size → w1.frozen? ⟨b, o, none⟩ = W.frozen? ⟨b, o, none⟩) :=
  ⟨fun b o h => hb.cell (p := ⟨b, o, none⟩) h, fun b o h => hb.frozen (p := ⟨b, o, none⟩) h⟩

set_option maxHeartbeats 400000 in
theorem right_any (a n : Int) (w : World) (ha : 0 ≤ a) (hb : a < 4294967296) :
    Calls Tryz.prog 165 #[.agg #[.int .u32 a, .int .i64 n]] w fun e w' => e = .returned (.bool (rt a n)) ∧ Below w.heap.size w w' := by
  by_cases h0 : 0 ≤ n
  · by_cases h1 : n ≤ 32
    · have e := andNot_mask a n h0 h1 ha hb
      have hr : Hid (rt a n = (a % sz n == 0)) := rt_in h0 h1
      go_enter Tryz.func165, Tryz.ntmps165
      go_wp2
      go_quiet ((go_at_call 180; exact Calls.quiet_of_same (mask_any _ _ h0 h1)))
      go_wp2
      go_ret
      exact ⟨ret_bool hr.out.symm, (by repeat' (first | with_reducible assumption | with_reducible exact Below.refl _ _ | with_reducible apply Below.drew | with_reducible apply below_drewN | with_reducible apply Below.setCell | with_reducible apply Below.alloc | omega | (simp; done) | (simp; omega)))⟩
    · have hr : Hid (rt a n = false) := rt_out (by omega)
      have hd : decide (n ≤ 32) = false := by simpa using h1
      go_enter Tryz.func165, Tryz.ntmps165
      go_wp2
      go_quiet (fail)
      go_wp2
      go_ret
      exact ⟨ret_bool hr.out.symm, (by repeat' (first | with_reducible assumption | with_reducible exact Below.refl _ _ | with_reducible apply Below.drew | with_reducible apply below_drewN | with_reducible apply Below.setCell | with_reducible apply Below.alloc | omega | (simp; done) | (simp; omega)))⟩
  · have hr : Hid (rt a n = false) := rt_out (by omega)
    have hd : decide (0 ≤ n) = false := by simpa using h0
    go_enter Tryz.func165, Tryz.ntmps165
    go_wp2
    go_quiet (fail)
    go_wp2
    go_ret
    exact ⟨ret_bool hr.out.symm, (by repeat' (first | with_reducible assumption | with_reducible exact Below.refl _ _ | with_reducible apply Below.drew | with_reducible apply below_drewN | with_reducible apply Below.setCell | with_reducible apply Below.alloc | omega | (simp; done) | (simp; omega)))⟩

set_option maxHeartbeats 400000 in
theorem rsize_any (n : Int) (w : World) (h0 : 0 ≤ n) (h1 : n ≤ 32) :
    Calls Tryz.prog 209 #[.int .i64 n] w fun e w' => e = .returned (.int .i64 (sz n)) ∧ w' = w := by
  go_enter Tryz.func209, Tryz.ntmps209
  go_wp2
  go_loop [3, 4] (fun t i => ∃ k : Int, n ≤ k ∧ k ≤ 32 ∧ i = .int .i64 k ∧ t = .int .i64 (2 ^ (k - n).toNat)) (fun _ i => (32 - intOf i).toNat)
  case atStart => exact ⟨n, by omega, by omega, rfl, by simp⟩
  case round =>
    obtain ⟨k, hk0, hk1, rfl, rfl⟩ := hrel
    have hp : (0 : Int) < 2 ^ (k - n).toNat := Int.pow_pos (by decide)
    have hq : (2 : Int) ^ (k - n).toNat ≤ 4294967296 := pow_bd k n hk0 hk1 h0
    by_cases hlt : k < 32
    · go_wp2
      go_round
      case rel => exact ⟨k + 1, by omega, by omega, rfl, by rw [pow_up k n hk0]⟩
      case measure => simp [intOf]; omega
    · go_wp2
      go_ret
      exact ⟨ret_int (by unfold sz; rw [show k = 32 by omega]), rfl⟩

set_option maxHeartbeats 400000 in
theorem rright_any (a n : Int) (w : World) (ha : 0 ≤ a) (hb : a < 4294967296) :
    Calls Tryz.prog 184 #[.agg #[.int .u32 a, .int .i64 n]] w fun e w' => e = .returned (.bool (rt a n)) ∧ Below w.heap.size w w' := by
  by_cases h0 : n < 0
  · have hr : Hid (rt a n = false) := rt_out (by omega)
    go_enter Tryz.func184, Tryz.ntmps184
    go_wp2
    go_ret
    exact ⟨ret_bool hr.out.symm, (by repeat' (first | with_reducible assumption | with_reducible exact Below.refl _ _ | with_reducible apply Below.drew | with_reducible apply below_drewN | with_reducible apply Below.setCell | with_reducible apply Below.alloc | omega | (simp; done) | (simp; omega)))⟩
  · by_cases h1 : 32 < n
    · have hr : Hid (rt a n = false) := rt_out (by omega)
      go_enter Tryz.func184, Tryz.ntmps184
      go_wp2
      go_ret
      exact ⟨ret_bool hr.out.symm, (by repeat' (first | with_reducible assumption | with_reducible exact Below.refl _ _ | with_reducible apply Below.drew | with_reducible apply below_drewN | with_reducible apply Below.setCell | with_reducible apply Below.alloc | omega | (simp; done) | (simp; omega)))⟩
    · have hr : Hid (rt a n = (a % sz n == 0)) := rt_in (by omega) (by omega)
      have hp := sz_pos n
      have hl := sz_le n (by omega)
      go_enter Tryz.func184, Tryz.ntmps184
      go_wp2_with (go_at_call 209; refine (rsize_any _ _ (by omega) (by omega)).mono ?_; rintro e w' ⟨rfl, rfl⟩)
      go_ret
      exact ⟨ret_bool hr.out.symm, (by repeat' (first | with_reducible assumption | with_reducible exact Below.refl _ _ | with_reducible apply Below.drew | with_reducible apply below_drewN | with_reducible apply Below.setCell | with_reducible apply Below.alloc | omega | (simp; done) | (simp; omega)))⟩
end Go.Proofs.YtlikdnmikdldfaaGreatDoor
namespace Go.Proofs.YtlikdnmikdldfaaGreatDoor
open Go.ChangeShapes Go.WideShapes Go.ChangeAt Go.RowKit
set_option linter.unusedVariables false
set_option linter.unusedSimpArgs false

/-- a text as the model holds it -/
def bs (l : List UInt8) : ByteArray := ⟨l.toArray⟩

def one (b : Int) : ByteArray := ByteArray.empty.push (UInt8.ofNat b.toNat)
theorem one_bs (b : Int) : one b = bs [UInt8.ofNat b.toNat] := rfl
/-- 'string([]byte{b})' -/
theorem conv_one (b : Int) (w : World) :
    (convert 97 9 (.slice (some ⟨w.heap.size, 0, none⟩) 1 1)).run Tryz.prog (w.alloc (.cells #[.int .u8 b] 5)) = .ok (.string (one b)) (w.alloc (.cells #[.int .u8 b] 5)) := by
  rw [run_convert_bytes_string _ _ _ 5 _ _ _ Tryz.underlying97 Tryz.underlying5 Tryz.underlying9]
  have hl := run_loadCells_list (P := Tryz.prog) (w.alloc (.cells #[.int .u8 b] 5)) ⟨w.heap.size, 0, none⟩ [.int .u8 b] (fun j v hj => by
    match j, hj with
    | 0, hj => simp at hj; subst hj; simp [Addr.add]
    | j + 1, hj => simp at hj)
  exact run_bytesToString _ _ 1 1 [b] (by simpa using hl)

theorem ret_str {a b : ByteArray} (h : a = b) : Ending.returned (.string a) = .returned (.string b) := by rw [h]
theorem bs_size (l : List UInt8) : (bs l).size = l.length := by simp [bs, ByteArray.size]
theorem one_size (b : Int) : (one b).size = 1 := by rw [one_bs, bs_size]; rfl
theorem cat_ok (a b : ByteArray) (h : a.size + b.size ≤ 9223372036854775807) : ¬ 9223372036854775807 < a.size + b.size := by omega
theorem dec_len (n : Nat) : (dec n).length ≤ n + 1 := by
  induction n using Nat.strongRecOn with
  | ind n ih =>
    unfold dec
    rw [Lib.decDigits]
    split
    · simp
    · have := ih (n / 10) (by omega)
      unfold dec at this
      simp; omega
theorem bs_append (a b : List UInt8) : bs a ++ bs b = bs (a ++ b) := by
  apply ByteArray.ext; simp [bs]
theorem bs_data (l : List UInt8) : (bs l).data.toList = l := by simp [bs]
theorem bs_of (s : ByteArray) : bs s.data.toList = s := by cases s; simp [bs]
theorem bs_inj {a b : List UInt8} (h : bs a = bs b) : a = b := by rw [← bs_data a, ← bs_data b, h]
theorem dec_small (x : Int) (h0 : 0 ≤ x) (h1 : x < 10) : one (48 + x % 10) = bs (dec x.toNat) := by
  rw [one_bs, dec, Lib.decDigits_one (by omega), show (48 + x % 10).toNat = 48 + x.toNat by omega]
theorem dec_big (x : Int) (h0 : 0 ≤ x) (h1 : ¬ x < 10) : bs (dec (x / 10).toNat) ++ one (48 + x % 10) = bs (dec x.toNat) := by
  rw [one_bs, bs_append]
  congr 1
  unfold dec
  have e : Lib.decDigits x.toNat = Lib.decDigits (x.toNat / 10) ++ [UInt8.ofNat (48 + x.toNat % 10)] := by rw [Lib.decDigits, dif_neg (by omega)]
  rw [e, show (x / 10).toNat = x.toNat / 10 by omega, show (48 + x % 10).toNat = 48 + x.toNat % 10 by omega]

set_option maxHeartbeats 400000 in
theorem rdigits_ind (k : Nat) : ∀ (x : Int) (w : World), 0 ≤ x → x < k → x ≤ 4294967296 →
    Calls Tryz.prog 185 #[.int .i64 x] w fun e w' => e = .returned (.string (bs (dec x.toNat))) ∧ Below w.heap.size w w' := by
  induction k with
  | zero => intro x w h0 h; omega
  | succ k ih =>
    intro x w h0 h hk
    obtain ⟨IH, H⟩ : Hid (∀ (x : Int) (w : World), 0 ≤ x → x < k → x ≤ 4294967296 →
    Calls Tryz.prog 185 #[.int .i64 x] w fun e w' => e = .returned (.string (bs (dec x.toNat))) ∧ Below w.heap.size w w') ∧ Hid (x < (k + 1 : Nat)) := ⟨ih, h⟩
    clear h ih
    have hcv := conv_one (48 + x % 10)
    by_cases h1 : x < 10
    · go_enter Tryz.func185, Tryz.ntmps185
      go_wp2
      go_ret
      exact ⟨ret_str (dec_small x h0 h1), (by repeat' (first | with_reducible assumption | with_reducible exact Below.refl _ _ | with_reducible apply Below.drew | with_reducible apply below_drewN | with_reducible apply Below.setCell | with_reducible apply Below.alloc | omega | (simp; done) | (simp; omega)))⟩
    · have hsz := cat_ok (bs (dec (x / 10).toNat)) (one (48 + x % 10)) (by rw [bs_size, one_size]; have := dec_len (x / 10).toNat; omega)
      go_enter Tryz.func185, Tryz.ntmps185
      go_wp2_with (go_at_call 185; refine (IH.out _ _ (by omega) (by have := H.out; omega) (by omega)).mono ?_; rintro e w1 ⟨rfl, hb1⟩)
      go_ret
      exact ⟨ret_str (dec_big x h0 (by omega)), (by have hq := hb1.mono (B' := w.heap.size) (by first | omega | (simp; done) | (simp; omega)); have hq2 := Below.trans (B := w.heap.size) (a := w) (by repeat' (first | with_reducible assumption | with_reducible exact Below.refl _ _ | with_reducible apply Below.drew | with_reducible apply below_drewN | with_reducible apply Below.setCell | with_reducible apply Below.alloc | omega | (simp; done) | (simp; omega))) hq; clear hq; repeat' (first | with_reducible assumption | with_reducible exact Below.refl _ _ | with_reducible apply Below.drew | with_reducible apply below_drewN | with_reducible apply Below.setCell | with_reducible apply Below.alloc | omega | (simp; done) | (simp; omega)))⟩
theorem rdigits_any (x : Int) (w : World) (h0 : 0 ≤ x) (h1 : x ≤ 4294967296) :
    Calls Tryz.prog 185 #[.int .i64 x] w fun e w' => e = .returned (.string (bs (dec x.toNat))) ∧ Below w.heap.size w w' :=
  rdigits_ind (x.toNat + 1) x w h0 (by omega) h1

/-- Number: the number up to most that is written so; -1: none is -/
def numI (l : List UInt8) (most : Nat) : Int := match num l most with | some n => (n : Int) | none => -1
theorem bs_toList (l : List UInt8) : (bs l).toList = l := by rw [Lib.toList_data, bs_data]
theorem hit {k m : Int} {s : ByteArray} (hk0 : 0 ≤ k) (hk1 : k ≤ m) (h : ((bs (dec k.toNat)).toList == s.toList) = true) : k = numI s.data.toList m.toNat := by
  rw [bs_toList, Lib.toList_data, beq_iff_eq] at h
  unfold numI
  rw [num_some.2 ⟨show k.toNat ≤ m.toNat by omega, h⟩]
  show k = (k.toNat : Int)
  omega
theorem miss {k : Int} {s : ByteArray} (hk0 : 0 ≤ k) (hall : ∀ n : Nat, (n : Int) < k → dec n ≠ s.data.toList) (h : ((bs (dec k.toNat)).toList == s.toList) = false) : ∀ n : Nat, (n : Int) < k + 1 → dec n ≠ s.data.toList := by
  rw [bs_toList, Lib.toList_data, beq_eq_false_iff_ne] at h
  intro n hn
  by_cases e : (n : Int) < k
  · exact hall n e
  · have : n = k.toNat := by omega
    rw [this]; exact h
theorem ended {k m : Int} {s : ByteArray} (hm : 0 ≤ m) (hk : m < k) (hall : ∀ n : Nat, (n : Int) < k → dec n ≠ s.data.toList) : (-1 : Int) = numI s.data.toList m.toNat := by
  unfold numI
  rw [num_none.2 fun n hn => hall n (by omega)]
set_option maxHeartbeats 400000 in
theorem rnumber_any (s : ByteArray) (m : Int) (w : World) (h0 : 0 ≤ m) (h1 : m ≤ 255) :
    Calls Tryz.prog 150 #[.string s, .int .i64 m] w fun e w' => e = .returned (.int .i64 (numI s.data.toList m.toNat)) ∧ Below w.heap.size w w' := by
  go_enter Tryz.func150, Tryz.ntmps150
  go_wp2
  go_loopw [5] (fun i wr => ∃ k : Int, 0 ≤ k ∧ k ≤ m + 1 ∧ i = .int .i64 k ∧ Below w.heap.size w wr ∧ Hid (∀ n : Nat, (n : Int) < k → dec n ≠ s.data.toList)) (fun i _ => (m + 1 - intOf i).toNat)
  case atStart => exact ⟨0, by omega, by omega, rfl, Below.refl _ _, fun n hn => by omega⟩
  case round =>
    obtain ⟨k, hk0, hk1, rfl, hb, hall⟩ := hrel
    by_cases hlt : k ≤ m
    · go_wp2_with (go_at_call 185; refine (rdigits_any _ _ hk0 (by omega)).mono ?_; rintro e w1 ⟨rfl, hb1⟩)
      · go_ret
        exact ⟨ret_int (hit hk0 hlt ‹_›), hb.trans (hb1.mono hb.size)⟩
      · go_roundw
        case rel => exact ⟨k + 1, by omega, by omega, rfl, hb.trans (hb1.mono hb.size), miss hk0 hall.out ‹_›⟩
        case measure => simp [intOf]; omega
    · go_wp2
      go_ret
      exact ⟨ret_int (ended h0 (by omega) hall.out), hb⟩
end Go.Proofs.YtlikdnmikdldfaaGreatDoor
namespace Go.Proofs.YtlikdnmikdldfaaGreatDoor
open Go.ChangeShapes Go.WideShapes Go.ChangeAt Go.RowKit
set_option linter.unusedVariables false
set_option linter.unusedSimpArgs false

theorem infoStr : (Tryz.prog.info? 9).map (fun i => (i.zero, i.size, i.bytes)) = some (some (.string ByteArray.empty), 1, 16) := by kernel_rfl
/-- texts as cells -/
def strs (ls : List (List UInt8)) : List Value := ls.map fun l => Value.string (bs l)
theorem strs_length (ls : List (List UInt8)) : (strs ls).length = ls.length := by simp [strs]
theorem strs_snoc (ls : List (List UInt8)) (l : List UInt8) : strs ls ++ [.string (bs l)] = strs (ls ++ [l]) := by simp [strs]
theorem take_snoc (s : ByteArray) (k : Nat) (h : k < s.size) : s.data.toList.take (k + 1) = s.data.toList.take k ++ [s[k]] := by
  rw [List.take_succ_eq_append_getElem (by simpa using h)]; rfl
theorem cut_snoc (c : UInt8) (l : List UInt8) (x : UInt8) : cutAll c ([], []) (l ++ [x]) = cutStep c (cutAll c ([], []) l) x := by simp [cutAll]
/-- cut_len: no more pieces than bytes -/
theorem cut_len (c : UInt8) (l : List UInt8) : ∀ s, (cutAll c s l).1.length ≤ s.1.length + l.length := by
  induction l with
  | nil => intro s; simp [cutAll]
  | cons x r ih =>
    intro s
    have := ih (cutStep c s x)
    have h2 : (cutStep c s x).1.length ≤ s.1.length + 1 := by unfold cutStep; split <;> simp
    simp only [cutAll, List.foldl_cons, List.length_cons] at this ⊢
    omega
theorem ext_bs (s : ByteArray) (a b : Nat) : s.extract a b = bs ((s.data.toList.take b).drop a) := by
  apply ByteArray.ext
  apply Array.ext'
  rw [bs_data, Lib.extract_data, List.drop_take]

theorem parts_hit (s : ByteArray) (c : Int) (cb : UInt8) (k g : Nat) (F : List (List UInt8)) (hlt : k < s.size) (hg : g ≤ k) (hc : c = cb.toNat) (hx : (((s[k].toNat : Nat) : Int) == c) = true)
    (h : cutAll cb ([], []) (s.data.toList.take k) = (F, (s.data.toList.take k).drop g)) : cutAll cb ([], []) (s.data.toList.take (k + 1)) = (F ++ [(s.data.toList.take k).drop g], (s.data.toList.take (k + 1)).drop (k + 1)) := by
  have e : s[k] = cb := by
    rw [beq_iff_eq, hc] at hx
    exact UInt8.toNat_inj.1 (by omega)
  rw [take_snoc s k hlt, cut_snoc, h, cutStep, if_pos e, ← take_snoc s k hlt]
  congr 1
  rw [List.drop_of_length_le (by simp; omega)]
theorem parts_miss (s : ByteArray) (c : Int) (cb : UInt8) (k g : Nat) (F : List (List UInt8)) (hlt : k < s.size) (hg : g ≤ k) (hc : c = cb.toNat) (hx : (((s[k].toNat : Nat) : Int) == c) = false)
    (h : cutAll cb ([], []) (s.data.toList.take k) = (F, (s.data.toList.take k).drop g)) : cutAll cb ([], []) (s.data.toList.take (k + 1)) = (F, (s.data.toList.take (k + 1)).drop g) := by
  have e : ¬ s[k] = cb := by
    rw [beq_eq_false_iff_ne, hc] at hx
    intro e; rw [e] at hx; exact hx rfl
  have hl : g ≤ (s.data.toList.take k).length := by
    have := Lib.size_eq s
    simp; omega
  rw [take_snoc s k hlt, cut_snoc, h, cutStep, if_neg e, List.drop_append_of_le_length hl]
theorem parts_end (s : ByteArray) (cb : UInt8) (k g : Nat) (F : List (List UInt8)) (hk : k = s.size)
    (h : cutAll cb ([], []) (s.data.toList.take k) = (F, (s.data.toList.take k).drop g)) : parts cb s.data.toList = F ++ [(s.data.toList.take k).drop g] := by
  have e : s.data.toList.take k = s.data.toList := List.take_of_length_le (by have := Lib.size_eq s; omega)
  rw [e] at h ⊢
  unfold parts; rw [h]

set_option maxRecDepth 1000000 in
set_option maxHeartbeats 1000000 in
theorem rparts_any (s : ByteArray) (c : Int) (cb : UInt8) (w : World) (hc : c = cb.toNat) (hs : s.size ≤ 2097152) :
    Calls Tryz.prog 105 #[.string s, .int .u8 c] w fun e w' => ∃ v, e = .returned v ∧ w'.ownsRow w.heap.size 9 1 v (parts cb s.data.toList).length (strs (parts cb s.data.toList)) ∧ Below w.heap.size w w' := by
  obtain ⟨i0, hi, hz0, hz1, hz2⟩ := info_parts infoStr
  have HC : Hid (c = cb.toNat) := hc
  clear hc
  go_enter Tryz.func105, Tryz.ntmps105
  go_wp2
  go_loopw [5, 6, 7] (fun v f i wr => ∃ (k g : Nat) (F : List (List UInt8)), k ≤ s.size ∧ g ≤ k ∧ i = .int .i64 k ∧ f = .int .i64 g ∧ wr.ownsRow w.heap.size 9 1 v F.length (strs F) ∧ Below w.heap.size w wr ∧ Hid (cutAll cb ([], []) (s.data.toList.take k) = (F, (s.data.toList.take k).drop g)))
    (fun _ _ i _ => s.size - (intOf i).toNat)
  case atStart => exact ⟨0, 0, [], Nat.zero_le _, Nat.le_refl _, rfl, rfl, World.ownsRow_nil _ _ _ _, Below.refl _ _, rfl⟩
  case round =>
    obtain ⟨k, g, F, hk, hg, rfl, rfl, hown, hb, hcut⟩ := hrel
    have hF : F.length ≤ k := by
      have := cut_len cb (s.data.toList.take k) ([], [])
      rw [hcut.out] at this
      simp at this
      omega
    by_cases hlt : k < s.size
    · go_wp2_with (first
        | (at_builtin; refine wpList_append_own _ rfl _ _ 31 rfl w.heap.size 9 i0 (.string ByteArray.empty) 1 16 Tryz.underlying31 hi hz0 hz1 hz2 rfl (by decide) _ _ _ rfl (hown.alloc _) ⟨wr.heap.size, 0, none⟩ 1 1 [.string (s.extract g k)] rfl rfl ?c1 ?c2 ?c3 ?c4 ?c5 ?_)
        | go_in)
      case c1 =>
        intro j u hj
        match j, hj with
        | 0, hj => simp at hj; subst hj; simp [Addr.add]
      case c2 => intro u hu; simp at hu; subst hu; rfl
      case c3 => unfold maxLen; omega
      case c4 => omega
      case c5 => have := hb.size; simp; omega
      · intro v' w1 hown' hgrow _
        have hx := ‹(↑s[k].toNat == c) = true›
        have R := parts_hit s c cb k g F hlt hg HC.out hx hcut.out
        rw [ext_bs] at hown'
        have hown2 : w1.ownsRow w.heap.size 9 1 v' (F ++ [(s.data.toList.take k).drop g]).length (strs (F ++ [(s.data.toList.take k).drop g])) := by
          rw [strs_snoc] at hown'; simpa using hown'
        have hb2 : Below w.heap.size w w1 := (hb.alloc hb.size _).grown hgrow (by have := hb.size; simp; omega) (fun r hr => (hown.lt r hr).1)
        clear hown' hgrow hown hx
        go_wp2
        go_roundw
        case rel => exact ⟨k + 1, k + 1, _, by omega, by omega, by go_num, by go_num, hown2, hb2, R⟩
        case measure => simp [intOf]; omega
      · have hx := ‹(↑s[k].toNat == c) = false›
        have R := parts_miss s c cb k g F hlt hg HC.out hx hcut.out
        clear hx
        go_roundw
        case rel => exact ⟨k + 1, g, F, by omega, by omega, by go_num, rfl, hown, hb, R⟩
        case measure => simp [intOf]; omega
    · have hk' : k = s.size := by omega
      have R := parts_end s cb k g F hk' hcut.out
      have HK : Hid (k = s.size) := hk'
      clear hk'
      go_wp2_with (first
        | (at_builtin; refine wpList_append_own _ rfl _ _ 31 rfl w.heap.size 9 i0 (.string ByteArray.empty) 1 16 Tryz.underlying31 hi hz0 hz1 hz2 rfl (by decide) _ _ _ rfl (hown.alloc _) ⟨wr.heap.size, 0, none⟩ 1 1 [.string (s.extract g s.size)] rfl rfl ?c1 ?c2 ?c3 ?c4 ?c5 ?_)
        | go_in)
      case c1 =>
        intro j u hj
        match j, hj with
        | 0, hj => simp at hj; subst hj; simp [Addr.add]
      case c2 => intro u hu; simp at hu; subst hu; rfl
      case c3 => unfold maxLen; omega
      case c4 => omega
      case c5 => have := hb.size; simp; omega
      intro v' w1 hown' hgrow _
      rw [ext_bs, strs_snoc] at hown'
      have hown2 : w1.ownsRow w.heap.size 9 1 v' (parts cb s.data.toList).length (strs (parts cb s.data.toList)) := by
        rw [R]; rw [HK.out]; simpa using hown'
      have hb2 : Below w.heap.size w w1 := (hb.alloc hb.size _).grown hgrow (by have := hb.size; simp; omega) (fun r hr => (hown.lt r hr).1)
      clear hown' hgrow hown R
      go_wp2
      go_ret
      exact ⟨_, rfl, hown2, hb2⟩
end Go.Proofs.YtlikdnmikdldfaaGreatDoor
namespace Go.Proofs.YtlikdnmikdldfaaGreatDoor
open Go.ChangeShapes Go.WideShapes Go.ChangeAt Go.RowKit
set_option linter.unusedVariables false
set_option linter.unusedSimpArgs false

def addrI (l : List UInt8) : Int := match addr l with | some a => (a : Int) | none => -1
/-- what has been read of an address behind k of its numbers -/
def acc (X : Nat → Int) : Nat → Int
  | 0 => 0
  | k + 1 => 256 * acc X k + X k
theorem acc_bd (X : Nat → Int) (k : Nat) (hk : k ≤ 4) (h : ∀ j, j < k → 0 ≤ X j ∧ X j ≤ 255) : 0 ≤ acc X k ∧ acc X k ≤ 256 ^ k - 1 := by
  induction k with
  | zero => simp [acc]
  | succ k ih =>
    have := ih (by omega) (fun j hj => h j (by omega))
    have hx := h k (by omega)
    rw [acc, Int.pow_succ]; omega
theorem numI_cases (l : List UInt8) (m : Nat) : (numI l m = -1 ∧ num l m = none) ∨ (∃ n : Nat, numI l m = n ∧ n ≤ m ∧ num l m = some n) := by
  unfold numI
  rcases h : num l m with _ | n
  · exact .inl ⟨rfl, rfl⟩
  · exact .inr ⟨n, rfl, (num_some.1 h).1, rfl⟩
/-- the slice that holds so many texts, written out -/
theorem owns_form {w : World} {base : Nat} {v : Value} {ls : List (List UInt8)} (h : w.ownsRow base 9 1 v ls.length (strs ls)) (hl : 1 ≤ ls.length) :
    ∃ g cap, v = .slice (some ⟨g, 0, none⟩) ls.length cap ∧ base ≤ g ∧ g < w.heap.size ∧ ls.length ≤ cap ∧ cap ≤ maxLen ∧ ∀ j, j < ls.length → w.cell? ⟨g, j, none⟩ = some (.string (bs (ls.getD j []))) := by
  have h0 := h
  obtain ⟨_, ⟨_, hn⟩ | ⟨g, cap, cur, rfl, hg, hblk, hc, hm, hsz, htk⟩⟩ := h
  · omega
  · have hlt : g < w.heap.size := by
      rcases Nat.lt_or_ge g w.heap.size with h | h
      · exact h
      · rw [Array.getElem?_eq_none h] at hblk; cases hblk
    refine ⟨g, cap, rfl, hg, hlt, hc, hm, fun j hj => ?_⟩
    rw [h0.cellAt j (by omega)]
    unfold strs
    rw [List.getElem?_map, List.getElem?_eq_getElem hj]
    simp [List.getD, List.getElem?_eq_getElem hj]
theorem len_four {ls : List (List UInt8)} (h : ls.length = 4) : ls = [ls.getD 0 [], ls.getD 1 [], ls.getD 2 [], ls.getD 3 []] := by
  match ls, h with
  | [a, b, c, d], _ => rfl
theorem addr_off {l : List UInt8} (h : (parts 46 l).length ≠ 4) : addrI l = -1 := by
  unfold addrI addr
  split
  · rename_i a ha
    split at ha
    · rename_i p0 p1 p2 p3 e
      rw [e] at h; simp at h
    · cases ha
  · rfl
theorem addr_bad {l : List UInt8} {k : Nat} (h : (parts 46 l).length = 4) (hk : k < 4) (hb : num ((parts 46 l).getD k []) 255 = none) : addrI l = -1 := by
  unfold addrI addr
  rw [len_four h]
  simp only []
  unfold four
  have : k = 0 ∨ k = 1 ∨ k = 2 ∨ k = 3 := by omega
  rcases this with rfl | rfl | rfl | rfl <;> rw [hb] <;> (split <;> first | rfl | (rename_i e; split at e <;> simp_all))
theorem addr_good {l : List UInt8} (h : (parts 46 l).length = 4) (hg : ∀ j, j < 4 → num ((parts 46 l).getD j []) 255 ≠ none) :
    acc (fun j => numI ((parts 46 l).getD j []) 255) 4 = addrI l := by
  unfold addrI addr
  rw [len_four h]
  simp only []
  have n0 := hg 0 (by omega)
  have n1 := hg 1 (by omega)
  have n2 := hg 2 (by omega)
  have n3 := hg 3 (by omega)
  rcases e0 : num ((parts 46 l).getD 0 []) 255 with _ | a0
  · exact absurd e0 n0
  rcases e1 : num ((parts 46 l).getD 1 []) 255 with _ | a1
  · exact absurd e1 n1
  rcases e2 : num ((parts 46 l).getD 2 []) 255 with _ | a2
  · exact absurd e2 n2
  rcases e3 : num ((parts 46 l).getD 3 []) 255 with _ | a3
  · exact absurd e3 n3
  simp only [List.getD_cons_zero, List.getD_cons_succ, acc, numI, four, e0, e1, e2, e3]
  omega
theorem bcell' {B : Nat} {W w1 : World} (hb : Below B W w1) {g j : Nat} {v : Value} (hg : g < B) (h : W.cell? ⟨g, j, none⟩ = some v) : w1.cell? ⟨g, j, none⟩ = some v :=
  (hb.cell (p := ⟨g, j, none⟩) hg).trans h

set_option maxRecDepth 1000000 in
set_option maxHeartbeats 1000000 in
theorem raddress_any (s : ByteArray) (w : World) (hs : s.size ≤ 2097152) :
    Calls Tryz.prog 149 #[.string s] w fun e w' => e = .returned (.int .i64 (addrI s.data.toList)) ∧ Below w.heap.size w w' := by
  have hp := parts_pos 46 s.data.toList
  obtain ⟨ls, HL⟩ : ∃ ls, ls = parts 46 s.data.toList := ⟨_, rfl⟩
  rw [← HL] at hp
  have HP : Hid (ls = parts 46 s.data.toList) := HL
  have hc : Hid (∀ w, Calls Tryz.prog 105 #[.string s, .int .u8 46] w fun e w' => ∃ v, e = .returned v ∧ w'.ownsRow w.heap.size 9 1 v ls.length (strs ls) ∧ Below w.heap.size w w') := by
    subst HL; exact fun w => rparts_any s 46 46 w rfl hs
  clear HL
  by_cases h4 : ls.length = 4
  · have hl4 : ((ls.length : Int) == 4) = true := by simp; omega
    go_enter Tryz.func149, Tryz.ntmps149
    go_wp2_with (go_at_call 105; refine (hc.out _).mono ?_; rintro e w1 ⟨v, rfl, hown, hb1⟩; obtain ⟨g, cap, hv, hg1, hg2, hg3, hg4, hcell⟩ := owns_form hown hp; rw [hv]; clear hv hown)
    have HX : Hid (∀ j, j < 4 → w1.cell? ⟨g, j, none⟩ = some (.string (bs (ls.getD j [])))) := fun j hj => hcell j (by omega)
    clear hcell
    go_loopw [4, 5] (fun a i wr => ∃ k : Nat, k ≤ 4 ∧ i = .int .i64 k ∧ a = .int .i64 (acc (fun j => numI (ls.getD j []) 255) k) ∧ Below w1.heap.size w1 wr ∧ Hid (∀ j, j < k → num (ls.getD j []) 255 ≠ none)) (fun _ i _ => 4 - (intOf i).toNat)
    case atStart => exact ⟨0, by omega, rfl, rfl, Below.refl _ _, fun j hj => by omega⟩
    case round =>
      obtain ⟨k, hk, rfl, rfl, hb, hgood⟩ := hrel
      have hbd := acc_bd (fun j => numI (ls.getD j []) 255) k hk (fun j hj => by
        rcases numI_cases (ls.getD j []) 255 with ⟨_, e⟩ | ⟨n, e, h, _⟩
        · exact absurd e (hgood.out j hj)
        · simp only [e]; omega)
      have hpw : (256 : Int) ^ k ≤ 4294967296 := by
        have : k = 0 ∨ k = 1 ∨ k = 2 ∨ k = 3 ∨ k = 4 := by omega
        rcases this with rfl | rfl | rfl | rfl | rfl <;> decide
      obtain ⟨a, ha⟩ : ∃ a, a = acc (fun j => numI (ls.getD j []) 255) k := ⟨_, rfl⟩
      rw [← ha] at hbd
      have b0 : 0 ≤ a := hbd.1
      have b1 : a ≤ 4294967295 := by omega
      have HA : Hid (a = acc (fun j => numI (ls.getD j []) 255) k) := ha
      rw [← ha]
      clear ha hbd hpw
      by_cases hlt : k < 4
      · have hce : wr.cell? ⟨g, k, none⟩ = some (.string (bs (ls.getD k []))) := bcell' hb hg2 (HX.out k hlt)
        obtain ⟨x, hx⟩ : ∃ x, x = numI (ls.getD k []) 255 := ⟨_, rfl⟩
        have hn : Hid (∀ w, Calls Tryz.prog 150 #[.string (bs (ls.getD k [])), .int .i64 255] w fun e w' => e = .returned (.int .i64 x) ∧ Below w.heap.size w w') := by
          rw [hx]; intro w; have := rnumber_any (bs (ls.getD k [])) 255 w (by omega) (by omega); rw [bs_data] at this; exact this
        have HN : Hid (x = numI (ls.getD k []) 255) := hx
        clear hx
        generalize hst : bs (ls.getD k []) = st at hce hn
        clear hst
        by_cases hneg : x < 0
        · go_wp2_with (go_at_call 150; refine (hn.out _).mono ?_; rintro e w2 ⟨rfl, hb2⟩)
          go_ret
          refine ⟨ret_int ?_, ?_⟩
          · have := addr_bad (l := s.data.toList) (k := k) (by rw [← HP.out]; exact h4) hlt (by
              rw [← HP.out]
              rcases numI_cases (ls.getD k []) 255 with ⟨_, e⟩ | ⟨n, e, h, _⟩
              · exact e
              · have := HN.out; omega)
            exact this.symm
          · exact (hb1.trans (hb.mono hb1.size)).trans (hb2.mono (Nat.le_trans hb1.size hb.size))
        · have hxb : x ≤ 255 := by
            rcases numI_cases (ls.getD k []) 255 with ⟨e, _⟩ | ⟨n, e, h, _⟩
            · have := HN.out; omega
            · have := HN.out; omega
          have hgood2 : Hid (∀ j, j < k + 1 → num (ls.getD j []) 255 ≠ none) := fun j hj => by
            by_cases e : j < k
            · exact hgood.out j e
            · obtain rfl : j = k := by omega
              rcases numI_cases (ls.getD j []) 255 with ⟨e, _⟩ | ⟨n, _, _, e⟩
              · have := HN.out; omega
              · rw [e]; simp
          clear hgood
          go_wp2_with (go_at_call 150; refine (hn.out _).mono ?_; rintro e w2 ⟨rfl, hb2⟩)
          go_roundw
          case rel => exact ⟨k + 1, by omega, by go_num, by rw [acc, ← HA.out, ← HN.out], hb.trans (hb2.mono hb.size), hgood2⟩
          case measure => simp [intOf]; omega
      · obtain rfl : k = 4 := by omega
        go_wp2
        go_ret
        refine ⟨ret_int ?_, hb1.trans (hb.mono hb1.size)⟩
        have h := addr_good (l := s.data.toList) (by rw [← HP.out]; exact h4) (by rw [← HP.out]; exact hgood.out)
        rw [← HP.out] at h
        rw [HA.out]; exact h
  · have hl4 : ((ls.length : Int) == 4) = false := by simp; omega
    go_enter Tryz.func149, Tryz.ntmps149
    go_wp2_with (go_at_call 105; refine (hc.out _).mono ?_; rintro e w1 ⟨v, rfl, hown, hb1⟩; obtain ⟨g, cap, hv, hg1, hg2, hg3, hg4, hcell⟩ := owns_form hown hp; rw [hv]; clear hv hown hcell)
    go_ret
    exact ⟨ret_int (addr_off (by rw [← HP.out]; exact h4)).symm, hb1⟩
end Go.Proofs.YtlikdnmikdldfaaGreatDoor
