/-
  BkAw
-/
import Derived.Test.YtlikdnmikdldfaaGreatDoorOrderedPBN
namespace Go.Proofs.YtlikdnmikdldfaaGreatDoor
open Go.Conc Go.ChangeShapes Go.WideShapes Go.ChangeAt Go.RowKit
set_option linter.unusedVariables false
set_option linter.unusedSimpArgs false

def awL : Nat → ByteArray
  | 0 => ⟨#[80, 79, 79, 76, 32, 97, 32, 97, 110, 110, 32, 49, 48, 46, 48, 46, 48, 46, 48, 47, 50, 52]⟩
  | 1 => ⟨#[78, 69, 84, 32, 98, 32, 98, 111, 98, 32, 49, 48, 46, 48, 46, 48, 46, 48, 47, 50, 52, 32, 50, 56]⟩
  | 2 => ⟨#[76, 69, 65, 83, 69, 32, 99, 32, 99, 121, 32, 49, 48, 46, 48, 46, 48, 46, 48, 47, 50, 56]⟩
  | 3 => ⟨#[80, 79, 79, 76, 83]⟩
  | 4 => ⟨#[78, 69, 84, 83, 32, 49, 48, 46, 48, 46, 48, 46, 48, 47, 50, 52]⟩
  | _ => ⟨#[85, 83, 69, 68, 32, 49, 48, 46, 48, 46, 48, 46, 48, 47, 50, 56]⟩
def awS : Nat → Bk
  | 0 => bk0
  | k + 1 => (doAll (awS k) (awL k)).1
theorem awS_inv : ∀ k, Inv (awS k)
  | 0 => bk0_ok.1
  | k + 1 => inv_all (awS_inv k) _
theorem aw_0 : (doAll (awS 0) (awL 0)).2 = ⟨#[79, 75]⟩ := by decide +kernel
theorem awd_0 : doAll (awS 0) (awL 0) = (awS 1, ⟨#[79, 75]⟩) := (Prod.eta _).symm.trans (congrArg (Prod.mk (awS 1)) aw_0)
theorem aw_1 : (doAll (awS 1) (awL 1)).2 = ⟨#[79, 75, 32, 49, 48, 46, 48, 46, 48, 46, 48, 47, 50, 56]⟩ := by decide +kernel
theorem awd_1 : doAll (awS 1) (awL 1) = (awS 2, ⟨#[79, 75, 32, 49, 48, 46, 48, 46, 48, 46, 48, 47, 50, 56]⟩) := (Prod.eta _).symm.trans (congrArg (Prod.mk (awS 2)) aw_1)
theorem aw_2 : (doAll (awS 2) (awL 2)).2 = ⟨#[79, 75, 32, 49, 48, 46, 48, 46, 48, 46, 49]⟩ := by decide +kernel
theorem awd_2 : doAll (awS 2) (awL 2) = (awS 3, ⟨#[79, 75, 32, 49, 48, 46, 48, 46, 48, 46, 49]⟩) := (Prod.eta _).symm.trans (congrArg (Prod.mk (awS 3)) aw_2)
theorem aw_3 : (doAll (awS 3) (awL 3)).2 = ⟨#[79, 75, 32, 49, 48, 46, 48, 46, 48, 46, 48, 47, 50, 52, 61, 97, 110, 110]⟩ := by decide +kernel
theorem awd_3 : doAll (awS 3) (awL 3) = (awS 4, ⟨#[79, 75, 32, 49, 48, 46, 48, 46, 48, 46, 48, 47, 50, 52, 61, 97, 110, 110]⟩) := (Prod.eta _).symm.trans (congrArg (Prod.mk (awS 4)) aw_3)
theorem aw_4 : (doAll (awS 4) (awL 4)).2 = ⟨#[79, 75, 32, 49, 48, 46, 48, 46, 48, 46, 48, 47, 50, 56, 61, 98, 111, 98]⟩ := by decide +kernel
theorem awd_4 : doAll (awS 4) (awL 4) = (awS 5, ⟨#[79, 75, 32, 49, 48, 46, 48, 46, 48, 46, 48, 47, 50, 56, 61, 98, 111, 98]⟩) := (Prod.eta _).symm.trans (congrArg (Prod.mk (awS 5)) aw_4)
theorem aw_5 : (doAll (awS 5) (awL 5)).2 = ⟨#[79, 75, 32, 49, 48, 46, 48, 46, 48, 46, 49, 61, 99, 121]⟩ := by decide +kernel
theorem awd_5 : doAll (awS 5) (awL 5) = (awS 6, ⟨#[79, 75, 32, 49, 48, 46, 48, 46, 48, 46, 49, 61, 99, 121]⟩) := (Prod.eta _).symm.trans (congrArg (Prod.mk (awS 6)) aw_5)
set_option maxRecDepth 100000 in
set_option maxHeartbeats 1000000 in
theorem awake_any (w : World) (E : EnvT w) (hZ : 10 ≤ w.heap.size) :
    Calls Tryz.prog 10 #[] w fun e w' => e = .returned (.bool true) ∧ Below w.heap.size w w' := by
  have HO : Hid (∀ (_ : Unit), Calls Tryz.prog 9 #[] w fun e w' => ∃ x d, e = .returned (.tuple #[.pointer (some ⟨x, 0, none⟩), .pointer (some ⟨d, 0, none⟩)]) ∧ HB w (fun _ => False) x (awS 0) w') := fun _ => (opened_any w w (Below.refl _ _)).mono fun e w' ⟨x, d, h1, h2, _⟩ => ⟨x, d, h1, h2⟩
  have H0 : Hid (∀ x W, HB w (fun _ => False) x (awS 0) W → Calls Tryz.prog 14 #[.pointer (some ⟨x, 0, none⟩), .string ⟨#[80, 79, 79, 76, 32, 97, 32, 97, 110, 110, 32, 49, 48, 46, 48, 46, 48, 46, 48, 47, 50, 52]⟩] W fun e w' => e = .returned (.string ⟨#[79, 75]⟩) ∧ HB w (fun _ => False) x (awS 1) w') := fun x W h => hb_known w E hZ x (awS 0) (awS 1) ⟨#[80, 79, 79, 76, 32, 97, 32, 97, 110, 110, 32, 49, 48, 46, 48, 46, 48, 46, 48, 47, 50, 52]⟩ (awL 0) _ rfl awd_0 (awS_inv 0) W h
  have H1 : Hid (∀ x W, HB w (fun _ => False) x (awS 1) W → Calls Tryz.prog 14 #[.pointer (some ⟨x, 0, none⟩), .string ⟨#[78, 69, 84, 32, 98, 32, 98, 111, 98, 32, 49, 48, 46, 48, 46, 48, 46, 48, 47, 50, 52, 32, 50, 56]⟩] W fun e w' => e = .returned (.string ⟨#[79, 75, 32, 49, 48, 46, 48, 46, 48, 46, 48, 47, 50, 56]⟩) ∧ HB w (fun _ => False) x (awS 2) w') := fun x W h => hb_known w E hZ x (awS 1) (awS 2) ⟨#[78, 69, 84, 32, 98, 32, 98, 111, 98, 32, 49, 48, 46, 48, 46, 48, 46, 48, 47, 50, 52, 32, 50, 56]⟩ (awL 1) _ rfl awd_1 (awS_inv 1) W h
  have H2 : Hid (∀ x W, HB w (fun _ => False) x (awS 2) W → Calls Tryz.prog 14 #[.pointer (some ⟨x, 0, none⟩), .string ⟨#[76, 69, 65, 83, 69, 32, 99, 32, 99, 121, 32, 49, 48, 46, 48, 46, 48, 46, 48, 47, 50, 56]⟩] W fun e w' => e = .returned (.string ⟨#[79, 75, 32, 49, 48, 46, 48, 46, 48, 46, 49]⟩) ∧ HB w (fun _ => False) x (awS 3) w') := fun x W h => hb_known w E hZ x (awS 2) (awS 3) ⟨#[76, 69, 65, 83, 69, 32, 99, 32, 99, 121, 32, 49, 48, 46, 48, 46, 48, 46, 48, 47, 50, 56]⟩ (awL 2) _ rfl awd_2 (awS_inv 2) W h
  have H3 : Hid (∀ x W, HB w (fun _ => False) x (awS 3) W → Calls Tryz.prog 14 #[.pointer (some ⟨x, 0, none⟩), .string ⟨#[80, 79, 79, 76, 83]⟩] W fun e w' => e = .returned (.string ⟨#[79, 75, 32, 49, 48, 46, 48, 46, 48, 46, 48, 47, 50, 52, 61, 97, 110, 110]⟩) ∧ HB w (fun _ => False) x (awS 4) w') := fun x W h => hb_known w E hZ x (awS 3) (awS 4) ⟨#[80, 79, 79, 76, 83]⟩ (awL 3) _ rfl awd_3 (awS_inv 3) W h
  have H4 : Hid (∀ x W, HB w (fun _ => False) x (awS 4) W → Calls Tryz.prog 14 #[.pointer (some ⟨x, 0, none⟩), .string ⟨#[78, 69, 84, 83, 32, 49, 48, 46, 48, 46, 48, 46, 48, 47, 50, 52]⟩] W fun e w' => e = .returned (.string ⟨#[79, 75, 32, 49, 48, 46, 48, 46, 48, 46, 48, 47, 50, 56, 61, 98, 111, 98]⟩) ∧ HB w (fun _ => False) x (awS 5) w') := fun x W h => hb_known w E hZ x (awS 4) (awS 5) ⟨#[78, 69, 84, 83, 32, 49, 48, 46, 48, 46, 48, 46, 48, 47, 50, 52]⟩ (awL 4) _ rfl awd_4 (awS_inv 4) W h
  have H5 : Hid (∀ x W, HB w (fun _ => False) x (awS 5) W → Calls Tryz.prog 14 #[.pointer (some ⟨x, 0, none⟩), .string ⟨#[85, 83, 69, 68, 32, 49, 48, 46, 48, 46, 48, 46, 48, 47, 50, 56]⟩] W fun e w' => e = .returned (.string ⟨#[79, 75, 32, 49, 48, 46, 48, 46, 48, 46, 49, 61, 99, 121]⟩) ∧ HB w (fun _ => False) x (awS 6) w') := fun x W h => hb_known w E hZ x (awS 5) (awS 6) ⟨#[85, 83, 69, 68, 32, 49, 48, 46, 48, 46, 48, 46, 48, 47, 50, 56]⟩ (awL 5) _ rfl awd_5 (awS_inv 5) W h
  clear E hZ
  go_enter Tryz.func10, Tryz.ntmps10
  go_wp2_with (first | (go_at_call 9; refine (HO.out ()).mono ?_; rintro e v0 ⟨x, d, rfl, hb0⟩; replace hb0 : Hid (HB w (fun _ => False) x (awS 0) v0) := hb0) | (go_at_call 14; refine (H0.out _ _ hb0.out).mono ?_; rintro e v1 ⟨rfl, hb1⟩; replace hb1 : Hid (HB w (fun _ => False) x (awS 1) v1) := hb1; clear hb0) | (go_at_call 14; refine (H1.out _ _ hb1.out).mono ?_; rintro e v2 ⟨rfl, hb2⟩; replace hb2 : Hid (HB w (fun _ => False) x (awS 2) v2) := hb2; clear hb1) | (go_at_call 14; refine (H2.out _ _ hb2.out).mono ?_; rintro e v3 ⟨rfl, hb3⟩; replace hb3 : Hid (HB w (fun _ => False) x (awS 3) v3) := hb3; clear hb2) | (go_at_call 14; refine (H3.out _ _ hb3.out).mono ?_; rintro e v4 ⟨rfl, hb4⟩; replace hb4 : Hid (HB w (fun _ => False) x (awS 4) v4) := hb4; clear hb3) | (go_at_call 14; refine (H4.out _ _ hb4.out).mono ?_; rintro e v5 ⟨rfl, hb5⟩; replace hb5 : Hid (HB w (fun _ => False) x (awS 5) v5) := hb5; clear hb4) | (go_at_call 14; refine (H5.out _ _ hb5.out).mono ?_; rintro e v6 ⟨rfl, hb6⟩; replace hb6 : Hid (HB w (fun _ => False) x (awS 6) v6) := hb6; clear hb5))
  go_ret
  exact ⟨rfl, hb6.out.low⟩
end Go.Proofs.YtlikdnmikdldfaaGreatDoor
