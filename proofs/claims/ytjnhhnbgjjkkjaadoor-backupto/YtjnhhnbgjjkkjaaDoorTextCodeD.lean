/-
  What the code's Write answers (packages blocks and acre), at every block.
-/
import Derived.Test.YtjnhhnbgjjkkjaaDoorTextCode
namespace Go.Proofs.YtjnhhnbgjjkkjaaDoor
open Go.ChangeShapes Go.WideShapes Go.ChangeAt Go.RowKit
set_option linter.unusedVariables false
set_option linter.unusedSimpArgs false

/-- what the array of an address's numbers holds behind k rounds -/
def Sx (a : Int) (k j : Nat) : ByteArray := if 4 - k ≤ j then bs (Lib.itoa (a / 256 ^ (3 - j) % 256)) else ⟨#[]⟩
theorem mask255 (x : Int) (h0 : 0 ≤ x) (h1 : x < 4294967296) : bits .and .u32 x 255 = x % 256 := by
  rw [u32_and x 255 h0 h1 (by omega) (by omega), show (255 : Int).toNat = 255 from rfl, nat_mask8]; omega

theorem sx_step {a : Int} {H : Nat} {wr w2 : World} {st : ByteArray} (k : Nat) (hsz : H < wr.heap.size) (hb2 : Below wr.heap.size wr w2) (HX : ∀ j, j < 4 → wr.cell? ⟨H, j, none⟩ = some (.string (Sx a k j)) ∧ wr.frozen? ⟨H, j, none⟩ = false) (hk : k < 4) (hst : st = bs (Lib.itoa (a / 256 ^ k % 256))) :
    ∀ j, j < 4 → (w2.setCell ⟨H, 3 - k, none⟩ (.string st)).cell? ⟨H, j, none⟩ = some (.string (Sx a (k + 1) j)) ∧ (w2.setCell ⟨H, 3 - k, none⟩ (.string st)).frozen? ⟨H, j, none⟩ = false := by
  intro j hj
  obtain ⟨hc, hf⟩ := HX j hj
  refine ⟨?_, ?_⟩
  · by_cases e : j = 3 - k
    · subst e
      rw [World.cell?_setCell_same w2 ⟨H, 3 - k, none⟩ (.string st) (u := .string (Sx a k (3 - k))) (bcell' hb2 hsz hc), hst]
      unfold Sx
      rw [if_pos (by omega), show 3 - (3 - k) = k by omega]
    · rw [World.cell?_setCell_other w2 ⟨H, 3 - k, none⟩ ⟨H, j, none⟩ (.string st) (by intro h; injection h with _ h2 _; omega), bcell' hb2 hsz hc]
      unfold Sx
      by_cases h : 4 - k ≤ j
      · rw [if_pos h, if_pos (by omega)]
      · rw [if_neg h, if_neg (by omega)]
  · rw [World.frozen?_setCell]
    exact (hb2.frozen (p := ⟨H, j, none⟩) hsz).trans hf
theorem itoa_dec (x : Int) (h : 0 ≤ x) : Lib.itoa x = dec x.toNat := by unfold Lib.itoa dec; rw [if_neg (by omega)]
theorem sx_dot (a : Int) (h0 : 0 ≤ a) (h1 : a < 4294967296) : Lib.join ([Sx a 4 0, Sx a 4 1, Sx a 4 2, Sx a 4 3].map (·.data.toList)) (⟨#[46]⟩ : ByteArray).data.toList = dot a.toNat := by
  have e : ∀ j, Sx a 4 j = bs (Lib.itoa (a / 256 ^ (3 - j) % 256)) := fun j => by unfold Sx; rw [if_pos (by omega)]
  simp only [List.map_cons, List.map_nil, e, bs_data]
  have e0 : a / 256 ^ (3 - 0) % 256 = a / 16777216 := by rw [show (256 : Int) ^ (3 - 0) = 16777216 from by decide]; omega
  have e1 : a / 256 ^ (3 - 1) % 256 = a / 65536 % 256 := by rw [show (256 : Int) ^ (3 - 1) = 65536 from by decide]
  have e2 : a / 256 ^ (3 - 2) % 256 = a / 256 % 256 := by rw [show (256 : Int) ^ (3 - 2) = 256 from by decide]
  have e3 : a / 256 ^ (3 - 3) % 256 = a % 256 := by rw [show (256 : Int) ^ (3 - 3) = 1 from by decide, Int.ediv_one]
  rw [e0, e1, e2, e3, itoa_dec (a / 16777216) (by omega), itoa_dec (a / 65536 % 256) (by omega), itoa_dec (a / 256 % 256) (by omega), itoa_dec (a % 256) (by omega)]
  rw [show (a / 16777216).toNat = a.toNat / 16777216 by omega, show (a / 65536 % 256).toNat = a.toNat / 65536 % 256 by omega, show (a / 256 % 256).toNat = a.toNat / 256 % 256 by omega, show (a % 256).toNat = a.toNat % 256 by omega]
  simp [Lib.join, List.intercalate, dot]
theorem dot_len (a : Nat) (h : a < 4294967296) : (dot a).length ≤ 15 := by
  rw [← tl_dot a h]; exact tl_len a 3

set_option maxRecDepth 1000000 in
set_option maxHeartbeats 1000000 in
theorem wa_any (a : Int) (w : World) (E0 : Env w) (h0 : 0 ≤ a) (h1 : a < 4294967296) :
    Calls Tryd.prog 52 #[.int .u32 a] w fun e w' => e = .returned (.string (bs (dot a.toNat))) ∧ Below w.heap.size w w' := by
  have E : Hid (Env w) := E0
  clear E0
  go_enter Tryd.func52, Tryd.ntmps52
  go_wp2
  go_loopw [5] (fun i wr => ∃ k : Nat, k ≤ 4 ∧ i = .int .i64 k ∧ w.heap.size < wr.heap.size ∧ Below w.heap.size w wr ∧ Hid (∀ j, j < 4 → wr.cell? ⟨w.heap.size, j, none⟩ = some (.string (Sx a k j)) ∧ wr.frozen? ⟨w.heap.size, j, none⟩ = false)) (fun i _ => 4 - (intOf i).toNat)
  case atStart =>
    refine ⟨0, by omega, rfl, by simp, (by repeat' (first | with_reducible assumption | with_reducible exact Below.refl _ _ | with_reducible apply Below.drew | with_reducible apply below_drewN | with_reducible apply Below.setCell | with_reducible apply Below.alloc | omega | (simp; done) | (simp; omega))), fun j hj => ?_⟩
    have : j = 0 ∨ j = 1 ∨ j = 2 ∨ j = 3 := by omega
    rcases this with rfl | rfl | rfl | rfl <;> simp [go_sem, Sx] <;> rfl
  case round =>
    obtain ⟨k, hk, rfl, hsz, hb, HX⟩ := hrel
    by_cases hlt : k < 4
    · have E1 : Hid (Env wr) := E.out.mono hb
      have hk4 : k = 0 ∨ k = 1 ∨ k = 2 ∨ k = 3 := by omega
      have hm0 := mask255 a h0 h1
      have hm1 := mask255 (a / 256) (by omega) (by omega)
      have hm2 := mask255 (a / 65536) (by omega) (by omega)
      have hm3 := mask255 (a / 16777216) (by omega) (by omega)
      rcases hk4 with rfl | rfl | rfl | rfl
      · obtain ⟨hc, hf⟩ := HX.out 3 (by omega)
        go_wp2_with (go_at_call 53; refine (itoa_any _ _ E1.out (by omega) (by omega)).mono ?_; rintro e w2 ⟨rfl, hb2⟩; have hc2 := bcell' hb2 hsz hc; have hf2 := (hb2.frozen (p := ⟨w.heap.size, 3, none⟩) hsz).trans hf)
        go_roundw
        case rel => exact ⟨1, by omega, rfl, by have := hb2.size; simp; omega, (hb.trans (hb2.mono hb.size)).setCell (by simp) _, sx_step 0 hsz hb2 HX.out (by omega) (by simp)⟩
        case measure => simp [intOf]
      · obtain ⟨hc, hf⟩ := HX.out 2 (by omega)
        go_wp2_with (go_at_call 53; refine (itoa_any _ _ E1.out (by omega) (by omega)).mono ?_; rintro e w2 ⟨rfl, hb2⟩; have hc2 := bcell' hb2 hsz hc; have hf2 := (hb2.frozen (p := ⟨w.heap.size, 2, none⟩) hsz).trans hf)
        go_roundw
        case rel => exact ⟨2, by omega, rfl, by have := hb2.size; simp; omega, (hb.trans (hb2.mono hb.size)).setCell (by simp) _, sx_step 1 hsz hb2 HX.out (by omega) (by simp)⟩
        case measure => simp [intOf]
      · obtain ⟨hc, hf⟩ := HX.out 1 (by omega)
        go_wp2_with (go_at_call 53; refine (itoa_any _ _ E1.out (by omega) (by omega)).mono ?_; rintro e w2 ⟨rfl, hb2⟩; have hc2 := bcell' hb2 hsz hc; have hf2 := (hb2.frozen (p := ⟨w.heap.size, 1, none⟩) hsz).trans hf)
        go_roundw
        case rel => exact ⟨3, by omega, rfl, by have := hb2.size; simp; omega, (hb.trans (hb2.mono hb.size)).setCell (by simp) _, sx_step 2 hsz hb2 HX.out (by omega) (by simp)⟩
        case measure => simp [intOf]
      · obtain ⟨hc, hf⟩ := HX.out 0 (by omega)
        go_wp2_with (go_at_call 53; refine (itoa_any _ _ E1.out (by omega) (by omega)).mono ?_; rintro e w2 ⟨rfl, hb2⟩; have hc2 := bcell' hb2 hsz hc; have hf2 := (hb2.frozen (p := ⟨w.heap.size, 0, none⟩) hsz).trans hf)
        go_roundw
        case rel => exact ⟨4, by omega, rfl, by have := hb2.size; simp; omega, (hb.trans (hb2.mono hb.size)).setCell (by simp) _, sx_step 3 hsz hb2 HX.out (by omega) (by simp)⟩
        case measure => simp [intOf]
    · obtain rfl : k = 4 := by omega
      have c0 := (HX.out 0 (by omega)).1
      have c1 := (HX.out 1 (by omega)).1
      have c2 := (HX.out 2 (by omega)).1
      have c3 := (HX.out 3 (by omega)).1
      have hj : Hid (Calls Tryd.prog 59 #[.slice (some ⟨w.heap.size, 0, none⟩) 4 4, .string ⟨#[46]⟩] wr fun e w' => e = .returned (.string (bs (dot a.toNat))) ∧ Below wr.heap.size wr w') := by
        have hd := sx_dot a h0 h1
        have h := Tryd.strings_Join w.heap.size 0 4 [Sx a 4 0, Sx a 4 1, Sx a 4 2, Sx a 4 3] ⟨#[46]⟩ wr (fun j x hj => by
          match j, hj with
          | 0, hj => cases hj; simpa using c0
          | 1, hj => cases hj; simpa using c1
          | 2, hj => cases hj; simpa using c2
          | 3, hj => cases hj; simpa using c3
          | j + 4, hj => simp at hj) hsz (by simp) (by simp) (by rw [hd]; have := dot_len a.toNat (by omega); omega)
        rw [hd] at h
        exact h
      clear c0 c1 c2 c3
      go_wp2_with (go_at_call 59; refine hj.out.mono ?_; rintro e w2 ⟨rfl, hb2⟩)
      go_ret
      exact ⟨rfl, hb.trans (hb2.mono hb.size)⟩
end Go.Proofs.YtjnhhnbgjjkkjaaDoor
