/-
  TextCut
-/
import Derived.Lib.IndexBytes
import Derived.Test.YtlikdnmikdldfaaGreatDoorOrderedPAU
namespace Go.Proofs.YtlikdnmikdldfaaGreatDoor
open Go.RowKit
set_option linter.unusedVariables false

theorem index_no (c : UInt8) (l : List UInt8) (h : c ∉ l) : Lib.index l [c] = -1 := by
  rw [Lib.index_one]
  induction l with
  | nil => rfl
  | cons x r ih =>
    have hx : (x == c) = false := by simpa using fun e : x = c => h (by simp [e])
    have hr : c ∉ r := fun e => h (by simp [e])
    unfold Lib.indexByte
    rw [hx, ih hr]; rfl
theorem index_at (c : UInt8) (a b : List UInt8) (h : c ∉ a) : Lib.index (a ++ c :: b) [c] = a.length := by
  rw [Lib.index_one]
  induction a with
  | nil => simp [Lib.indexByte]
  | cons x r ih =>
    have hx : (x == c) = false := by simpa using fun e : x = c => h (by simp [e])
    have hr : c ∉ r := fun e => h (by simp [e])
    rw [List.cons_append]
    unfold Lib.indexByte
    rw [hx, ih hr]
    have : ¬ (((r.length : Nat) : Int) == -1) = true := by simp
    rw [if_neg (by simp), if_neg this]
    simp
theorem cut_no (c : UInt8) (l : List UInt8) (h : c ∉ l) : Lib.cut l [c] = (l, [], false) := by
  unfold Lib.cut; rw [index_no c l h]; rfl
theorem cut_at (c : UInt8) (a b : List UInt8) (h : c ∉ a) : Lib.cut (a ++ c :: b) [c] = (a, b, true) := by
  unfold Lib.cut
  rw [index_at c a b h, if_pos (by omega)]
  simp
theorem split_at (c : UInt8) (k : Nat) (a b : List UInt8) (h : c ∉ a) : Lib.splitK [c] 0 (k + 1) (a ++ c :: b) = a :: Lib.splitK [c] 0 k b := by
  have e : Lib.splitK [c] 0 (k + 1) (a ++ c :: b) = if Lib.index (a ++ c :: b) [c] == -1 then [a ++ c :: b] else (a ++ c :: b).take ((Lib.index (a ++ c :: b) [c]).toNat + 0) :: Lib.splitK [c] 0 k ((a ++ c :: b).drop ((Lib.index (a ++ c :: b) [c]).toNat + [c].length)) := rfl
  have : ¬ (((a.length : Nat) : Int) == -1) = true := by simp
  rw [e, index_at c a b h, if_neg this]
  simp
theorem split_no (c : UInt8) (k : Nat) (l : List UInt8) (h : c ∉ l) : Lib.splitK [c] 0 k l = [l] := by
  cases k with
  | zero => rfl
  | succ k => unfold Lib.splitK; rw [index_no c l h]; rfl
theorem split_parts (c : UInt8) (k : Nat) : ∀ l : List UInt8, ((parts c l).length ≤ k + 1 → Lib.splitK [c] 0 k l = parts c l) ∧ (k + 1 < (parts c l).length → (Lib.splitK [c] 0 k l).length = k + 1) := by
  induction k with
  | zero =>
    intro l
    rcases first_cut c l with h | ⟨a, b, rfl, h⟩
    · rw [parts_none c l h]; exact ⟨fun _ => rfl, fun e => by simp at e⟩
    · rw [parts_cons c a b h]
      have := parts_pos c b
      exact ⟨fun e => by rw [List.length_cons] at e; omega, fun _ => rfl⟩
  | succ k ih =>
    intro l
    rcases first_cut c l with h | ⟨a, b, rfl, h⟩
    · rw [parts_none c l h, split_no c _ l h]; exact ⟨fun _ => rfl, fun e => by simp at e⟩
    · rw [parts_cons c a b h, split_at c k a b h]
      obtain ⟨h1, h2⟩ := ih b
      exact ⟨fun e => by rw [h1 (by rw [List.length_cons] at e; omega)], fun e => by rw [List.length_cons] at e ⊢; rw [h2 (by omega)]⟩
theorem parts_le (c : UInt8) (l : List UInt8) : (parts c l).length ≤ l.length + 1 := by
  have := cut_len c l ([], [])
  unfold parts
  simp at this ⊢; exact this
/-- cut into at most five: four pieces are all of them -/
theorem split_five (l : List UInt8) : ((Lib.splitK [46] 0 (min 5 (l.length + 1) - 1) l).length = 4 ↔ (parts 46 l).length = 4) ∧ ((parts 46 l).length = 4 → Lib.splitK [46] 0 (min 5 (l.length + 1) - 1) l = parts 46 l) := by
  obtain ⟨h1, h2⟩ := split_parts 46 (min 5 (l.length + 1) - 1) l
  have h3 := parts_le 46 l
  by_cases h : (parts 46 l).length ≤ min 5 (l.length + 1) - 1 + 1
  · rw [h1 h]; exact ⟨Iff.rfl, fun _ => rfl⟩
  · have := h2 (by omega)
    exact ⟨⟨fun e => by omega, fun e => by omega⟩, fun e => by omega⟩
end Go.Proofs.YtlikdnmikdldfaaGreatDoor
