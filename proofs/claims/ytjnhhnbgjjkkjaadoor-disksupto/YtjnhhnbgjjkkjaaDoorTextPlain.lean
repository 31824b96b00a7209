/-
  The plain mathematics of texts: numerals, texts cut at a byte, addresses and blocks as they are written: no Go in sight.
-/
import Derived.Test.YtjnhhnbgjjkkjaaDoorPlainB
import Derived.Lib.ItoaNum
import Derived.Lib.AtoiAll
import Derived.Lib.Split
import Derived.Lib.Join
import Derived.Lib.IndexMore
namespace Go.Proofs.YtjnhhnbgjjkkjaaDoor
open Go.RowKit
set_option linter.unusedVariables false

/-! ### numerals -/
def dec (n : Nat) : List UInt8 := Lib.decDigits n
/-- the number of a numeral, digit by digit -/
def val (l : List UInt8) : Nat := l.foldl (fun a c => 10 * a + (c.toNat - 48)) 0
theorem val_snoc (l : List UInt8) (c : UInt8) : val (l ++ [c]) = 10 * val l + (c.toNat - 48) := by simp [val]
theorem digit_val (d : Nat) (h : d < 10) : (UInt8.ofNat (48 + d)).toNat - 48 = d := by
  rw [UInt8.toNat_ofNat_of_lt' (by simp [UInt8.size]; omega)]; omega
theorem val_dec (n : Nat) : val (dec n) = n := by
  induction n using Nat.strongRecOn with
  | ind n ih =>
    unfold dec
    rw [Lib.decDigits]
    split
    · rename_i h
      have := digit_val n h
      simp [val]; omega
    · rename_i h
      have e := ih (n / 10) (by omega)
      unfold dec at e
      rw [val_snoc, e, digit_val _ (by omega)]; omega
theorem dec_inj {a b : Nat} (h : dec a = dec b) : a = b := by rw [← val_dec a, ← val_dec b, h]
def dec3 (n : Nat) : List UInt8 :=
  if n < 10 then [UInt8.ofNat (48 + n)] else if n < 100 then [UInt8.ofNat (48 + n / 10), UInt8.ofNat (48 + n % 10)]
  else [UInt8.ofNat (48 + n / 100), UInt8.ofNat (48 + n / 10 % 10), UInt8.ofNat (48 + n % 10)]
theorem dec_3 (n : Nat) (h : n < 1000) : dec n = dec3 n := by
  unfold dec dec3
  by_cases h1 : n < 10
  · rw [if_pos h1, Lib.decDigits_one h1]
  · rw [if_neg h1]
    by_cases h2 : n < 100
    · rw [if_pos h2, Lib.decDigits_two h1 h2]
    · rw [if_neg h2, Lib.decDigits, dif_neg h1, Lib.decDigits_two (by omega) (by omega)]
      simp [Nat.div_div_eq_div_mul]
theorem atoi_fin : ∀ n : Fin 256, Lib.atoiAll (dec3 n) = .ok ((n : Nat) : Int) := by decide +kernel
theorem atoi_dec (n : Nat) (h : n < 256) : Lib.atoiAll (dec n) = .ok (n : Int) := by rw [dec_3 n (by omega)]; exact atoi_fin ⟨n, h⟩
/-- the number up to most that is written so -/
def num (l : List UInt8) (most : Nat) : Option Nat := (List.range (most + 1)).find? fun n => dec n == l
theorem num_some {l : List UInt8} {most n : Nat} : num l most = some n ↔ n ≤ most ∧ dec n = l := by
  unfold num
  constructor
  · intro h
    have h1 := List.find?_some h
    have h2 := List.mem_of_find?_eq_some h
    simp at h1 h2
    exact ⟨by omega, h1⟩
  · rintro ⟨h1, rfl⟩
    rcases e : (List.range (most + 1)).find? (fun m => dec m == dec n) with _ | m
    · have := List.find?_eq_none.1 e n (by simp; omega)
      simp at this
    · have := List.find?_some e
      simp at this
      rw [dec_inj this]
theorem num_none {l : List UInt8} {most : Nat} : num l most = none ↔ ∀ n, n ≤ most → dec n ≠ l := by
  constructor
  · intro h n hn e
    rw [num_some.2 ⟨hn, e⟩] at h; cases h
  · intro h
    rcases e : num l most with _ | n
    · rfl
    · exact absurd (num_some.1 e).2 (h n (num_some.1 e).1)
/-- what Atoi, the bounds and Itoa tell together -/
theorem num_of_atoi {l : List UInt8} {most : Nat} (hm : most ≤ 255) {v : Int} (h : Lib.atoiAll l = .ok v) (h0 : 0 ≤ v) (h1 : v ≤ most) (e : Lib.itoa v = l) : num l most = some v.toNat := by
  refine num_some.2 ⟨by omega, ?_⟩
  unfold Lib.itoa at e
  rw [if_neg (by omega)] at e
  exact e
theorem num_off {l : List UInt8} {most : Nat} (hm : most ≤ 255) (h : ∀ n : Nat, n ≤ most → Lib.atoiAll l = .ok (n : Int) → Lib.itoa n ≠ l) : num l most = none := by
  refine num_none.2 fun n hn e => ?_
  have ha := atoi_dec n (by omega)
  rw [e] at ha
  refine h n hn ha ?_
  unfold Lib.itoa
  rw [if_neg (by omega)]
  simpa [dec] using e

/-! ### a text cut at each byte of a kind -/
def cutStep (c : UInt8) (s : List (List UInt8) × List UInt8) (x : UInt8) : List (List UInt8) × List UInt8 := if x = c then (s.1 ++ [s.2], []) else (s.1, s.2 ++ [x])
def cutAll (c : UInt8) (s : List (List UInt8) × List UInt8) (l : List UInt8) : List (List UInt8) × List UInt8 := l.foldl (cutStep c) s
def parts (c : UInt8) (l : List UInt8) : List (List UInt8) := (cutAll c ([], []) l).1 ++ [(cutAll c ([], []) l).2]
theorem cutAll_front (c : UInt8) (l : List UInt8) : ∀ (F : List (List UInt8)) (cur : List UInt8), (cutAll c (F, cur) l).1 = F ++ (cutAll c ([], cur) l).1 ∧ (cutAll c (F, cur) l).2 = (cutAll c ([], cur) l).2 := by
  induction l with
  | nil => intro F cur; simp [cutAll]
  | cons x r ih =>
    intro F cur
    simp only [cutAll, List.foldl_cons, cutStep]
    split
    · have h1 := ih (F ++ [cur]) []
      have h2 := ih ([] ++ [cur]) []
      simp only [cutAll] at h1 h2
      rw [h1.1, h1.2, h2.1, h2.2]; simp
    · exact ih F (cur ++ [x])
theorem cutAll_none (c : UInt8) (l : List UInt8) (h : c ∉ l) : ∀ (F : List (List UInt8)) (cur : List UInt8), cutAll c (F, cur) l = (F, cur ++ l) := by
  induction l with
  | nil => intro F cur; simp [cutAll]
  | cons x r ih =>
    intro F cur
    have hx : ¬ x = c := fun e => h (by simp [e])
    have hr : c ∉ r := fun e => h (by simp [e])
    have := ih hr F (cur ++ [x])
    simp only [cutAll, List.foldl_cons, cutStep, if_neg hx] at this ⊢
    rw [this]; simp
theorem parts_none (c : UInt8) (l : List UInt8) (h : c ∉ l) : parts c l = [l] := by
  unfold parts; rw [cutAll_none c l h]; simp
theorem parts_cons (c : UInt8) (a b : List UInt8) (h : c ∉ a) : parts c (a ++ c :: b) = a :: parts c b := by
  have e : cutAll c ([], []) (a ++ c :: b) = cutAll c ([a], []) b := by
    have := cutAll_none c a h [] []
    simp only [cutAll] at this ⊢
    rw [List.foldl_append, this, List.foldl_cons, cutStep, if_pos rfl]; simp
  have h1 := cutAll_front c b [a] []
  unfold parts
  rw [e, h1.1, h1.2]; simp
theorem parts_pos (c : UInt8) (l : List UInt8) : 1 ≤ (parts c l).length := by unfold parts; simp
/-- each text has a first piece: up to the first such byte -/
theorem first_cut (c : UInt8) (l : List UInt8) : c ∉ l ∨ ∃ a b, l = a ++ c :: b ∧ c ∉ a := by
  induction l with
  | nil => exact .inl (by simp)
  | cons x r ih =>
    by_cases hx : x = c
    · exact .inr ⟨[], r, by simp [hx], by simp⟩
    · rcases ih with h | ⟨a, b, e, h⟩
      · exact .inl (by simp; exact ⟨fun e => hx e.symm, h⟩)
      · exact .inr ⟨x :: a, b, by simp [e], by simp; exact ⟨fun e => hx e.symm, h⟩⟩
theorem dec_no (c : UInt8) (hc : c.toNat < 48 ∨ 57 < c.toNat) (n : Nat) : c ∉ dec n := by
  induction n using Nat.strongRecOn with
  | ind n ih =>
    have hd : ∀ d, d < 10 → c ≠ UInt8.ofNat (48 + d) := by
      intro d hd e
      have := congrArg UInt8.toNat e
      rw [UInt8.toNat_ofNat_of_lt' (by simp [UInt8.size]; omega)] at this
      omega
    unfold dec
    rw [Lib.decDigits]
    split
    · rename_i h; rw [List.mem_singleton]; exact hd n h
    · rename_i h
      have := ih (n / 10) (by omega)
      unfold dec at this
      rw [List.mem_append, List.mem_singleton]
      exact fun e => e.elim this (hd _ (by omega))
/-! ### addresses and blocks -/
def four (p0 p1 p2 p3 : List UInt8) : Option Nat :=
  match num p0 255, num p1 255, num p2 255, num p3 255 with
  | some a, some b, some c, some d => some (((a * 256 + b) * 256 + c) * 256 + d)
  | _, _, _, _ => none
def addr (l : List UInt8) : Option Nat :=
  match parts 46 l with
  | [p0, p1, p2, p3] => four p0 p1 p2 p3
  | _ => none
def rd (l : List UInt8) : Option (Int × Int) :=
  match parts 47 l with
  | [x, y] => match addr x, num y 32 with
    | some a, some n => if rt a n then some ((a : Int), (n : Int)) else none
    | _, _ => none
  | _ => none
def dot (a : Nat) : List UInt8 := dec (a / 16777216) ++ 46 :: (dec (a / 65536 % 256) ++ 46 :: (dec (a / 256 % 256) ++ 46 :: dec (a % 256)))
def wr (a n : Nat) : List UInt8 := dot a ++ 47 :: dec n
end Go.Proofs.YtjnhhnbgjjkkjaaDoor
