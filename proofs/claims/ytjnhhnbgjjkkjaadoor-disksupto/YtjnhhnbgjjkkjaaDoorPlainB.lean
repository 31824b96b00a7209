/-
  The plain mathematics of parents, buddies, halves and of blocks that meet: no Go in sight.
-/
import Derived.Test.YtjnhhnbgjjkkjaaDoorPlain
namespace Go.Proofs.YtjnhhnbgjjkkjaaDoor
open Go.RowKit
set_option linter.unusedVariables false

/-- the base of the parent of a block of n bits -/
def par (a n : Int) : Int := a / sz (n - 1) * sz (n - 1)
/-- the base of the buddy -/
def bud (a n : Int) : Int := if par a n = a then a + sz n else par a n
/-- the last address of a right block -/
def lst (a n : Int) : Int := a + sz n - 1
/-- do two right blocks meet? -/
def mt (a m b n : Int) : Bool := decide (a ≤ b + sz n - 1 ∧ b ≤ a + sz m - 1)

theorem sz_pred (n : Int) (h : n ≤ 32) : sz (n - 1) = 2 * sz n := by
  have := sz_succ (n - 1) (by omega)
  rw [this, show n - 1 + 1 = n by omega]
/-- what is a multiple of the block's size: its parent's base is it, or it less the size -/
theorem par_cases (a n : Int) (h1 : n ≤ 32) (ha : a % sz n = 0) : (par a n = a ∧ a % (2 * sz n) = 0) ∨ (par a n = a - sz n ∧ a % (2 * sz n) = sz n) := by
  have hp := sz_pos n
  have hs := sz_pred n h1
  unfold par
  rw [hs]
  obtain ⟨q, rfl⟩ := Int.dvd_of_emod_eq_zero ha
  have e1 : sz n * q / (2 * sz n) = q / 2 := by
    rw [Int.mul_comm 2 (sz n)]; exact Int.mul_ediv_mul_of_pos _ _ hp
  have e2 : sz n * q % (2 * sz n) = sz n * (q % 2) := by
    rw [Int.mul_comm 2 (sz n)]; exact Int.mul_emod_mul_of_pos _ _ hp
  rw [e1, e2]
  rcases Int.emod_two_eq q with h | h
  · left
    refine ⟨?_, by rw [h]; omega⟩
    rw [← Int.mul_assoc, Int.mul_comm (q / 2) 2, Int.mul_comm, show 2 * (q / 2) = q by omega]
  · right
    refine ⟨?_, by rw [h]; omega⟩
    rw [← Int.mul_assoc, Int.mul_comm (q / 2) 2, Int.mul_comm, show 2 * (q / 2) = q - 1 by omega, Int.mul_sub]; omega
theorem par_bd (a n : Int) (h1 : n ≤ 32) (h0 : 0 ≤ a) (hb : a < 4294967296) : 0 ≤ par a n ∧ par a n ≤ a := by
  have hp := sz_pos (n - 1)
  unfold par
  exact ⟨Int.mul_nonneg (Int.ediv_nonneg h0 (by omega)) (by omega), Int.ediv_mul_le _ (by omega)⟩
theorem xor_one (m : Nat) : m ^^^ 1 = if m % 2 = 0 then m + 1 else m - 1 := by
  have h1 := Nat.xor_div_two (a := m) (b := 1)
  have h2 := Nat.xor_mod_two_eq_one (a := m) (b := 1)
  simp at h1
  split <;> omega
theorem xor_pow (q k : Nat) : 2 ^ k * q ^^^ 2 ^ k = 2 ^ k * (if q % 2 = 0 then q + 1 else q - 1) := by
  rw [← xor_one]
  have := Nat.shiftLeft_xor_distrib (a := q) (b := 1) (i := k)
  simp only [Nat.shiftLeft_eq, Nat.one_mul] at this
  rw [Nat.mul_comm _ q, Nat.mul_comm _ (q ^^^ 1), this]
theorem xor_eq (a n : Int) (h0 : 1 ≤ n) (h1 : n ≤ 32) (ha : 0 ≤ a) (hb : a < 4294967296) (hr : a % sz n = 0) : bits .xor .u32 a (sz n) = bud a n := by
  have hp := sz_pos n
  have hl := sz_le n (by omega)
  have hw := sz_succ (n - 1) (by omega)
  have hl1 := sz_le (n - 1) (by omega)
  rw [show n - 1 + 1 = n by omega] at hw
  rw [u32_xor a _ ha hb (by omega) (by omega), toNat_sz]
  obtain ⟨q, hq⟩ := Int.dvd_of_emod_eq_zero hr
  have hq0 : 0 ≤ q := by
    rcases Int.lt_or_le q 0 with h | h
    · have := Int.mul_neg_of_pos_of_neg hp h; omega
    · exact h
  obtain ⟨Q, rfl⟩ := Int.eq_ofNat_of_zero_le hq0
  have ea : a.toNat = 2 ^ (32 - n).toNat * Q := by
    rw [hq, sz_nat, ← Int.natCast_mul, Int.toNat_natCast]
  rw [ea, xor_pow]
  unfold bud
  rcases par_cases a n h1 hr with ⟨h2, h3⟩ | ⟨h2, h3⟩
  · rw [if_pos h2]
    have hm : Q % 2 = 0 := by
      rw [hq, Int.mul_comm 2 (sz n), Int.mul_emod_mul_of_pos _ _ hp] at h3
      rcases Int.mul_eq_zero.1 h3 with h | h <;> omega
    rw [if_pos hm, hq, sz_nat]
    simp only [Int.natCast_mul, Int.natCast_add, Int.mul_add]; omega
  · rw [if_neg (show ¬ par a n = a by omega), h2]
    have hm : Q % 2 = 1 := by
      rw [hq, Int.mul_comm 2 (sz n), Int.mul_emod_mul_of_pos _ _ hp] at h3
      rcases Nat.mod_two_eq_zero_or_one Q with h | h
      · have : ((Q : Int) % 2) = 0 := by omega
        rw [this] at h3; omega
      · exact h
    rw [if_neg (show ¬ Q % 2 = 0 by omega), hq, sz_nat, ← Int.natCast_mul]
    have e : 2 ^ (32 - n).toNat * (Q - 1) + 2 ^ (32 - n).toNat = 2 ^ (32 - n).toNat * Q := by
      rw [← Nat.mul_succ, show (Q - 1).succ = Q by omega]
    omega
theorem or_eq (a n : Int) (h0 : 0 ≤ n) (h1 : n < 32) (ha : 0 ≤ a) (hb : a < 4294967296) (hr : a % sz n = 0) : bits .or .u32 a (sz (n + 1)) = a + sz (n + 1) := by
  have hp := sz_pos (n + 1)
  have hl := sz_le (n + 1) (by omega)
  have hw := sz_succ n (by omega)
  rw [u32_or a _ ha hb (by omega) (by have := sz_le n h0; omega)]
  have e : a.toNat ||| (sz (n + 1)).toNat = a.toNat + (sz (n + 1)).toNat := by
    refine nat_join (32 - n).toNat _ _ ?_ ?_
    · have : (a.toNat : Int) % ((2 ^ (32 - n).toNat : Nat) : Int) = 0 := by rw [← sz_nat, Int.toNat_of_nonneg ha]; exact hr
      omega
    · have := toNat_sz n; omega
  rw [e]; omega
/-- the upper half's end lies in the world of addresses -/
theorem end_le (a n : Int) (h0 : 0 ≤ n) (h1 : n ≤ 32) (ha : 0 ≤ a) (hb : a < 4294967296) (hr : a % sz n = 0) : a + sz n ≤ 4294967296 := by
  obtain ⟨m, hm, _⟩ := sz_whole n h0 h1
  have hp := sz_pos n
  obtain ⟨q, rfl⟩ := Int.dvd_of_emod_eq_zero hr
  rw [hm] at hb
  have h := Int.lt_of_mul_lt_mul_left hb (by omega)
  have : sz n * (q + 1) ≤ sz n * m := Int.mul_le_mul_of_nonneg_left (by omega) (by omega)
  rw [Int.mul_add] at this; omega
theorem nat_xor_hi (x y k : Nat) : (x ^^^ y) / 2 ^ k = 0 ↔ x / 2 ^ k = y / 2 ^ k := by
  have := Nat.shiftRight_xor_distrib (a := x) (b := y) (i := k)
  simp only [Nat.shiftRight_eq_div_pow] at this
  rw [this]
  constructor
  · intro h
    have h2 : (x / 2 ^ k) ^^^ (x / 2 ^ k) ^^^ (y / 2 ^ k) = (x / 2 ^ k) ^^^ 0 := by rw [Nat.xor_assoc, h]
    rw [Nat.xor_self, Nat.zero_xor, Nat.xor_zero] at h2
    exact h2.symm
  · intro h; rw [h, Nat.xor_self]
theorem xor_bd (a b : Int) (ha : 0 ≤ a) (hb : a < 4294967296) (ka : 0 ≤ b) (kb : b < 4294967296) : 0 ≤ bits .xor .u32 a b ∧ bits .xor .u32 a b < 4294967296 := by
  rw [u32_xor a b ha hb ka kb]
  have : a.toNat ^^^ b.toNat < 2 ^ 32 := Nat.xor_lt_two_pow (by omega) (by omega)
  omega
theorem meet_bits (a b m : Int) (h0 : 0 ≤ m) (h1 : m ≤ 32) (ha : 0 ≤ a) (hb : a < 4294967296) (ka : 0 ≤ b) (kb : b < 4294967296) :
    (bits .and .u32 (bits .xor .u32 a b) (4294967296 - sz m) == 0) = decide (a / sz m = b / sz m) := by
  obtain ⟨x0, x1⟩ := xor_bd a b ha hb ka kb
  have hp := sz_pos m
  rw [and_mask _ m h0 h1 x0 x1, u32_xor a b ha hb ka kb, Bool.eq_iff_iff]
  simp only [beq_iff_eq, decide_eq_true_eq]
  have e1 : a = (a.toNat : Int) := by omega
  have e2 : b = (b.toNat : Int) := by omega
  rw [Int.mul_eq_zero, e1, e2]
  simp only [Int.toNat_natCast, sz_nat, ← Int.natCast_ediv]
  have := nat_xor_hi a.toNat b.toNat (32 - m).toNat
  have hq : 0 < 2 ^ (32 - m).toNat := Nat.pos_of_ne_zero (by simp)
  omega
theorem ediv_same (a b s : Int) (hs : 0 < s) (ha : a % s = 0) : a / s = b / s ↔ a ≤ b ∧ b < a + s := by
  have h1 := Int.mul_ediv_add_emod a s
  have h2 := Int.mul_ediv_add_emod b s
  have h3 := Int.emod_nonneg b (show s ≠ 0 by omega)
  have h4 := Int.emod_lt_of_pos b hs
  constructor
  · intro h; rw [h] at h1; omega
  · rintro ⟨h5, h6⟩
    have g1 : s * (a / s) < s * (b / s + 1) := by rw [Int.mul_add]; omega
    have g2 : s * (b / s) < s * (a / s + 1) := by rw [Int.mul_add]; omega
    have := Int.lt_of_mul_lt_mul_left g1 (by omega)
    have := Int.lt_of_mul_lt_mul_left g2 (by omega)
    omega
theorem step_le (a b s : Int) (hs : 0 < s) (ha : a % s = 0) (hb : b % s = 0) (h : a < b + s) : a ≤ b := by
  obtain ⟨x, rfl⟩ := Int.dvd_of_emod_eq_zero ha
  obtain ⟨y, rfl⟩ := Int.dvd_of_emod_eq_zero hb
  have g : s * x < s * (y + 1) := by rw [Int.mul_add]; omega
  have := Int.lt_of_mul_lt_mul_left g (by omega)
  exact Int.mul_le_mul_of_nonneg_left (by omega) (by omega)
/-- a multiple of a greater block's size is one of a smaller one's -/
theorem mod_down (a m n : Int) (h : m ≤ n) (h1 : n ≤ 32) (ha : a % sz m = 0) : a % sz n = 0 := by
  obtain ⟨q, hq, _⟩ := sz_dvd m n h h1
  obtain ⟨x, rfl⟩ := Int.dvd_of_emod_eq_zero ha
  rw [hq, Int.mul_assoc]; exact Int.mul_emod_right _ _
theorem meet_low (a m b n : Int) (h : m ≤ n) (h1 : n ≤ 32) (ha : a % sz m = 0) (hb : b % sz n = 0) : decide (a / sz m = b / sz m) = mt a m b n := by
  have hp := sz_pos m
  have hq := sz_pos n
  have hs := step_le a b (sz n) hq (mod_down a m n h h1 ha) hb
  unfold mt
  rw [Bool.eq_iff_iff]
  simp only [decide_eq_true_eq]
  rw [ediv_same a b (sz m) hp ha]
  omega
theorem mt_comm (a m b n : Int) : mt a m b n = mt b n a m := by
  unfold mt; rw [Bool.eq_iff_iff]; simp only [decide_eq_true_eq]; omega
/-- the code's own test of two right blocks -/
theorem meet_eq (a m b n : Int) (hm : 0 ≤ m) (hm1 : m ≤ 32) (hn : 0 ≤ n) (hn1 : n ≤ 32) (ha : 0 ≤ a) (hb : a < 4294967296) (ka : 0 ≤ b) (kb : b < 4294967296) (ra : a % sz m = 0) (rb : b % sz n = 0) :
    (bits .and .u32 (bits .xor .u32 a b) (4294967296 - sz (if n < m then n else m)) == 0) = mt a m b n := by
  split
  · rename_i h
    rw [meet_bits a b n hn hn1 ha hb ka kb, mt_comm, ← meet_low b n a m (by omega) hm1 rb ra]
    exact decide_eq_decide.2 eq_comm
  · rename_i h
    rw [meet_bits a b m hm hm1 ha hb ka kb, meet_low a m b n (by omega) hn1 ra rb]

/-! ### what Parent, Buddy and Halves answer, whatever the block -/
def pOk (a n : Int) : Bool := rt a n && (n != 0)
def hOk (a n : Int) : Bool := rt a n && (n != 32)
def pB (a n : Int) : Int := if pOk a n then par a n else 0
def pN (a n : Int) : Int := if pOk a n then n - 1 else 0
def pE (a n : Int) : Int := if pOk a n then 0 else 2
def uB (a n : Int) : Int := if pOk a n then bud a n else 0
def uN (a n : Int) : Int := if pOk a n then n else 0
def hB (a n : Int) : Int := if hOk a n then a else 0
def hC (a n : Int) : Int := if hOk a n then a + sz (n + 1) else 0
def hN (a n : Int) : Int := if hOk a n then n + 1 else 0
def hE (a n : Int) : Int := if hOk a n then 0 else 2
def mm (a m b n : Int) : Bool := rt a m && rt b n && mt a m b n
theorem wrap_small (a : Int) (h0 : 0 ≤ a) (h1 : a < 4294967296) : IntKind.i64.wrap a = a := by
  simp [IntKind.wrap, IntKind.bits, IntKind.signed]; omega
theorem wrap32_small (a : Int) (h0 : 0 ≤ a) (h1 : a < 4294967296) : IntKind.u32.wrap a = a := by
  rw [IntKind.wrap_u32']; omega
theorem mm_right {a m b n : Int} (ra : rt a m = true) (rb : rt b n = true) : mm a m b n = (decide (a ≤ lst b n) && decide (b ≤ lst a m)) := by
  unfold mm mt lst; rw [ra, rb, Bool.eq_iff_iff]; simp only [Bool.true_and, Bool.and_eq_true, decide_eq_true_eq]
theorem pOk_no {a n : Int} (h : pOk a n = false) : rt a n = false ∨ n = 0 := by
  unfold pOk at h; rcases hr : rt a n with _ | _
  · exact .inl rfl
  · rw [hr] at h; right; simpa using h
theorem pOk_yes {a n : Int} (h : pOk a n = true) : rt a n = true ∧ n ≠ 0 := by
  unfold pOk at h; simpa using h
theorem hOk_no {a n : Int} (h : hOk a n = false) : rt a n = false ∨ n = 32 := by
  unfold hOk at h; rcases hr : rt a n with _ | _
  · exact .inl rfl
  · rw [hr] at h; right; simpa using h
theorem hOk_yes {a n : Int} (h : hOk a n = true) : rt a n = true ∧ n ≠ 32 := by
  unfold hOk at h; simpa using h
theorem end_lt (a n : Int) (h0 : 0 ≤ n) (h1 : n < 32) (ha : 0 ≤ a) (hb : a < 4294967296) (hr : a % sz n = 0) : a + sz (n + 1) < 4294967296 := by
  have := end_le a n h0 (by omega) ha hb hr
  have := sz_succ n h1
  have := sz_pos (n + 1)
  omega
theorem par_lt (a n : Int) (h1 : n ≤ 32) (h0 : 0 ≤ a) (hb : a < 4294967296) : par a n < 4294967296 := by have := par_bd a n h1 h0 hb; omega
/-- a right block's parent is right -/
theorem par_rt (a n : Int) (h0 : 1 ≤ n) (h1 : n ≤ 32) : rt (par a n) (n - 1) = true := by
  rw [rt_iff]; unfold par; exact ⟨by omega, by omega, Int.mul_emod_left _ _⟩
end Go.Proofs.YtjnhhnbgjjkkjaaDoor
