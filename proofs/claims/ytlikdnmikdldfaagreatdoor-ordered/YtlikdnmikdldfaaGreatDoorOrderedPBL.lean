/-
  BkLn
-/
import Derived.Test.YtlikdnmikdldfaaGreatDoorOrderedPBI
import Derived.Test.YtlikdnmikdldfaaGreatDoorOrderedPBC
namespace Go.Proofs.YtlikdnmikdldfaaGreatDoor
set_option linter.unusedVariables false
set_option linter.unusedSimpArgs false
theorem isName_size {w : List UInt8} (h : isName w = true) : (⟨w.toArray⟩ : ByteArray).size ≤ 8 := by
  unfold isName at h
  simp only [Bool.and_eq_true, decide_eq_true_eq] at h
  have h2 := h.1.2
  show w.toArray.size ≤ 8
  simpa using h2
theorem rdPart_ok {l l' : Ln} {p : Nat} {w : List UInt8} (hL : LnOk l) (h : rdPart l p w = some l') : LnOk l' ∧ l'.v = l.v := by
  unfold rdPart at h
  split at h
  · split at h
    · cases h; exact ⟨⟨hL.a, hL.d, hL.r, hL.g0, hL.g1, hL.o⟩, rfl⟩
    · cases h
  · split at h
    · split at h
      · rename_i hn
        cases h; exact ⟨⟨hL.a, hL.d, hL.r, hL.g0, hL.g1, isName_size hn⟩, rfl⟩
      · cases h
    · split at h
      · split at h
        · rename_i b e
          cases h
          have hb := rd_text (a := b.1) (n := b.2) e
          exact ⟨⟨⟨hb.2.2.1, hb.2.2.2.1⟩, hL.d, hb.2.1, hL.g0, hL.g1, hL.o⟩, rfl⟩
        · cases h
      · split at h
        · split at h
          · rename_i d e
            cases h
            have hb := addr_lt e
            exact ⟨⟨hL.a, ⟨by dsimp only; omega, by dsimp only; omega⟩, hL.r, hL.g0, hL.g1, hL.o⟩, rfl⟩
          · cases h
        · split at h
          · split at h
            · rename_i g e
              cases h
              have hb := (num_some.1 e).1
              exact ⟨⟨hL.a, hL.d, hL.r, by dsimp only; omega, by dsimp only; omega, hL.o⟩, rfl⟩
            · cases h
          · cases h
theorem rdParts_ok : ∀ (ps : List Nat) (ws : List (List UInt8)) (l l' : Ln), LnOk l → rdParts l ps ws = some l' → LnOk l' ∧ l'.v = l.v
  | [], [], l, l', hL, h => by simp [rdParts] at h; subst h; exact ⟨hL, rfl⟩
  | [], _ :: _, l, l', hL, h => by simp [rdParts] at h
  | _ :: _, [], l, l', hL, h => by simp [rdParts] at h
  | p :: ps, w :: ws, l, l', hL, h => by
    rw [rdParts] at h
    split at h
    · rename_i l2 e
      have h1 := rdPart_ok hL e
      have h2 := rdParts_ok ps ws l2 l' h1.1 h
      exact ⟨h2.1, h2.2.trans h1.2⟩
    · cases h
theorem ln0_ok (v : Nat) : LnOk (ln0 v) := ⟨by unfold ln0 ad; dsimp only; omega, by unfold ln0 ad; dsimp only; omega, rt_iff.2 ⟨by simp [ln0], by simp [ln0], by simp [ln0]⟩, by simp [ln0], by simp [ln0], Nat.zero_le 8⟩
theorem rdLine_ok {s : List UInt8} {l : Ln} (h : rdLine s = some l) : LnOk l ∧ l.v < 11 := by
  unfold rdLine at h
  split at h
  · split at h
    · rename_i w ws e
      split at h
      · cases h
      · rename_i hv
        have h1 := rdParts_ok _ _ _ _ (ln0_ok _) h
        refine ⟨h1.1, ?_⟩
        rw [h1.2]
        show (fi (fun v => v == w) verbT).toNat < 11
        rcases fi_cases (fun v => v == w) verbT [] with ⟨q, _⟩ | ⟨k, hk, q, _, _⟩
        · rw [q]; decide
        · rw [q]; exact hk
    · cases h
  · cases h
end Go.Proofs.YtlikdnmikdldfaaGreatDoor
