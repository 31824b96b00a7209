/-
  What is read is what is written, and the other way round: no Go in sight.
-/
import Derived.Test.YtjnhhnbgjjkkjaaDoorTextCodeC
import Derived.Test.YtjnhhnbgjjkkjaaDoorTextRefE
import Derived.Test.YtjnhhnbgjjkkjaaDoorPlainC
namespace Go.Proofs.YtjnhhnbgjjkkjaaDoor
open Go.RowKit
set_option linter.unusedVariables false

/-- pieces, with the byte between them -/
def glue (c : UInt8) : List (List UInt8) → List UInt8
  | [] => []
  | [p] => p
  | p :: r => p ++ c :: glue c r
theorem glue_parts (c : UInt8) (n : Nat) : ∀ l : List UInt8, l.length ≤ n → glue c (parts c l) = l := by
  induction n with
  | zero =>
    intro l hl
    obtain rfl : l = [] := List.eq_nil_of_length_eq_zero (by omega)
    rfl
  | succ n ih =>
    intro l hl
    rcases first_cut c l with h | ⟨a, b, rfl, h⟩
    · rw [parts_none c l h]; rfl
    · rw [parts_cons c a b h]
      have hb := ih b (by simp at hl; omega)
      have hp := parts_pos c b
      rcases e : parts c b with _ | ⟨q, r⟩
      · rw [e] at hp; simp at hp
      · rw [e] at hb
        show a ++ c :: glue c (q :: r) = _
        rw [hb]
theorem four_text {p0 p1 p2 p3 : List UInt8} {a : Nat} (h : four p0 p1 p2 p3 = some a) : glue 46 [p0, p1, p2, p3] = dot a := by
  unfold four at h
  split at h
  · rename_i a0 a1 a2 a3 e0 e1 e2 e3
    obtain ⟨h0, rfl⟩ := num_some.1 e0
    obtain ⟨h1, rfl⟩ := num_some.1 e1
    obtain ⟨h2, rfl⟩ := num_some.1 e2
    obtain ⟨h3, rfl⟩ := num_some.1 e3
    simp at h
    subst h
    unfold dot
    rw [show (((a0 * 256 + a1) * 256 + a2) * 256 + a3) / 16777216 = a0 by omega, show (((a0 * 256 + a1) * 256 + a2) * 256 + a3) / 65536 % 256 = a1 by omega, show (((a0 * 256 + a1) * 256 + a2) * 256 + a3) / 256 % 256 = a2 by omega, show (((a0 * 256 + a1) * 256 + a2) * 256 + a3) % 256 = a3 by omega]
    rfl
  · cases h
theorem addr_text {l : List UInt8} {a : Nat} (h : addr l = some a) : l = dot a := by
  have hg := glue_parts 46 l.length l (Nat.le_refl _)
  unfold addr at h
  split at h
  · rename_i p0 p1 p2 p3 e
    rw [e] at hg
    rw [← hg]; exact four_text h
  · cases h
/-- a text that is a block at all is the text of it -/
theorem rd_text {l : List UInt8} {a n : Int} (h : rd l = some (a, n)) : l = wr a.toNat n.toNat ∧ rt a n = true ∧ 0 ≤ a ∧ a < 4294967296 ∧ 0 ≤ n ∧ n ≤ 32 := by
  have hg := glue_parts 47 l.length l (Nat.le_refl _)
  unfold rd at h
  split at h
  · rename_i x y e
    split at h
    · rename_i A N ea en
      split at h
      · rename_i hr
        simp at h
        obtain ⟨rfl, rfl⟩ := h
        have h1 := addr_text ea
        have h2 := addr_lt ea
        obtain ⟨h3, h4⟩ := num_some.1 en
        rw [e] at hg
        refine ⟨?_, hr, by omega, by omega, by omega, by omega⟩
        rw [← hg]
        show x ++ 47 :: y = _
        rw [h1, ← h4]
        simp [wr]
      · cases h
    · cases h
  · cases h
theorem dot_no (c : UInt8) (hc : c.toNat < 46 ∨ c.toNat = 47 ∨ 57 < c.toNat) (a : Nat) : c ∉ dot a := by
  have h := fun n => dec_no c (by omega) n
  have h46 : c ≠ 46 := fun e => by rw [e] at hc; revert hc; decide
  unfold dot
  simp only [List.mem_append, List.mem_cons]
  intro e
  rcases e with e | e | e | e | e | e | e
  · exact h _ e
  · exact h46 e
  · exact h _ e
  · exact h46 e
  · exact h _ e
  · exact h46 e
  · exact h _ e
theorem num_dec (n m : Nat) (h : n ≤ m) : num (dec n) m = some n := num_some.2 ⟨h, rfl⟩
theorem addr_dot (a : Nat) (h : a < 4294967296) : addr (dot a) = some a := by
  have hd := fun n => dec_no 46 (by decide) n
  have hp : parts 46 (dot a) = [dec (a / 16777216), dec (a / 65536 % 256), dec (a / 256 % 256), dec (a % 256)] := by
    unfold dot
    rw [parts_cons 46 _ _ (hd _), parts_cons 46 _ _ (hd _), parts_cons 46 _ _ (hd _), parts_none 46 _ (hd _)]
  unfold addr
  rw [hp]
  simp only [four]
  rw [num_dec _ _ (by omega), num_dec _ _ (by omega), num_dec _ _ (by omega), num_dec _ _ (by omega)]
  simp only [Option.some.injEq]
  omega
/-- a right block comes back out of its text -/
theorem rd_wr {a n : Int} (h0 : 0 ≤ a) (h1 : a < 4294967296) (hr : rt a n = true) : rd (wr a.toNat n.toNat) = some (a, n) := by
  obtain ⟨n0, n1, _⟩ := rt_iff.1 hr
  have hc := rd_cut (b := dec n.toNat) (dot_no 47 (by decide) a.toNat)
  unfold wr
  rw [hc, addr_dot _ (by omega), num_dec _ _ (by omega)]
  simp only []
  rw [show ((a.toNat : Nat) : Int) = a by omega, show ((n.toNat : Nat) : Int) = n by omega, if_pos hr]
/-- with something behind it, it is none or another -/
theorem rd_more {a n : Int} {m : List UInt8} (h0 : 0 ≤ a) (h1 : a < 4294967296) (hr : rt a n = true) (h : rd (wr a.toNat n.toNat ++ m) = some (a, n)) : m = [] := by
  obtain ⟨e, _⟩ := rd_text h
  have := congrArg List.length e
  rw [List.length_append] at this
  exact List.eq_nil_of_length_eq_zero (by omega)
/-- one more: not right any more, but at 32 bits -/
theorem rt_next {a n : Int} (h0 : 0 ≤ a) (h1 : a < 4294967296) (hr : rt a n = true) (hn : n < 32) : rt (a + 1) n = false ∧ a + 1 < 4294967296 := by
  obtain ⟨n0, n1, n2⟩ := rt_iff.1 hr
  have he := end_le a n n0 n1 h0 h1 n2
  have hs := sz_succ n hn
  have hp := sz_pos (n + 1)
  have hz : (2 : Int) ≤ sz n := by omega
  refine ⟨?_, by omega⟩
  rw [rt_in n0 n1, Int.add_emod, n2, Int.zero_add, Int.emod_emod_of_dvd _ (Int.dvd_refl _), Int.emod_eq_of_lt (by omega) (by omega)]
  rfl
end Go.Proofs.YtjnhhnbgjjkkjaaDoor
