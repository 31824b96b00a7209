/-
  WalkC, WalkD, BkA, BkB, BkC, BkH, BkI, BkK, Lone
-/
import Derived.Deep.AppendLies
import Derived.Deep.LoopGhost
import Derived.Handy
import Derived.Shelf.Abstract
import Derived.Laws.IdiomCopy
import Derived.Lib.SliceRun
import Derived.ArgAppend
import Derived.Shelf.Spec.SlicesInsertGrow
import Derived.Conc.LoneSelect
import Derived.Conc.LoneSelectN
import Derived.Test.YtlikdnmikdldfaaGreatDoorFilledPB
namespace Go.Proofs.YtlikdnmikdldfaaGreatDoor
open Go.ChangeShapes Go.WideShapes Go.ChangeAt Go.RowKit
set_option linter.unusedVariables false
set_option linter.unusedSimpArgs false
attribute [local go_sem ↓] Go.wp_at_zero Go.wp_at_succ

set_option maxHeartbeats 400000 in
theorem bmeet_any (a m b n : Int) (w : World) (ha : 0 ≤ a) (hb : a < 4294967296) (ka : 0 ≤ b) (kb : b < 4294967296) :
    Calls Tryz.prog 203 #[.agg #[.int .u32 a, .int .i64 m], .agg #[.int .u32 b, .int .i64 n]] w fun e w' => e = .returned (.bool (rt a m && rt b n && mt a m b n)) ∧ Below w.heap.size w w' := by
  by_cases ra : rt a m = false
  · go_enter Tryz.func203, Tryz.ntmps203
    go_wp2_with (go_at_call 165; refine (right_any _ _ _ ha hb).mono ?_; rintro e w1 ⟨rfl, hb1⟩; obtain ⟨hc, hf⟩ := bcell hb1; have hz : w.heap.size + 1 < w1.heap.size := (by have := hb1.size; simp at this; omega))
    go_ret
    exact ⟨ret_bool (by simp [ra]), (by have hq := hb1.mono (B' := w.heap.size) (by first | omega | (simp; done) | (simp; omega)); have hq2 := Below.trans (B := w.heap.size) (a := w) (by repeat' (first | with_reducible assumption | with_reducible exact Below.refl _ _ | with_reducible apply Below.drew | with_reducible apply below_drewN | with_reducible apply Below.setCell | with_reducible apply Below.alloc | omega | (simp; done) | (simp; omega))) hq; clear hq; repeat' (first | with_reducible assumption | with_reducible exact Below.refl _ _ | with_reducible apply Below.drew | with_reducible apply below_drewN | with_reducible apply Below.setCell | with_reducible apply Below.alloc | omega | (simp; done) | (simp; omega)))⟩
  · have ra' : rt a m = true := by simpa using ra
    by_cases rb : rt b n = false
    · go_enter Tryz.func203, Tryz.ntmps203
      go_wp2_with (first | (go_at_call_of 165 (Value.agg #[.int .u32 a, .int .i64 m]); refine (right_any a m _ ha hb).mono ?_; rintro e w1 ⟨rfl, hb1⟩; obtain ⟨hc, hf⟩ := bcell hb1; have hk0 : w1.cell? ⟨w.heap.size, 0, none⟩ = some (.int .u32 a) := (by simp [hc, go_sem]); have hk1 : w1.cell? ⟨w.heap.size, 1, none⟩ = some (.int .i64 m) := (by simp [hc, go_sem]); have hk2 : w1.cell? ⟨w.heap.size + 1, 0, none⟩ = some (.int .u32 b) := (by simp [hc, go_sem]); have hk3 : w1.cell? ⟨w.heap.size + 1, 1, none⟩ = some (.int .i64 n) := (by simp [hc, go_sem]); have hz : w.heap.size + 1 < w1.heap.size := (by have := hb1.size; (try simp at this); omega); clear hc hf) | (go_at_call_of 165 (Value.agg #[.int .u32 b, .int .i64 n]); refine (right_any b n _ ka kb).mono ?_; rintro e w2 ⟨rfl, hb2⟩; obtain ⟨hc2, hf2⟩ := bcell hb2; have hl0 : w2.cell? ⟨w.heap.size, 0, none⟩ = some (.int .u32 a) := (by rw [hc2 _ _ (by omega)]; exact hk0); have hl1 : w2.cell? ⟨w.heap.size, 1, none⟩ = some (.int .i64 m) := (by rw [hc2 _ _ (by omega)]; exact hk1); have hl2 : w2.cell? ⟨w.heap.size + 1, 0, none⟩ = some (.int .u32 b) := (by rw [hc2 _ _ (by omega)]; exact hk2); have hl3 : w2.cell? ⟨w.heap.size + 1, 1, none⟩ = some (.int .i64 n) := (by rw [hc2 _ _ (by omega)]; exact hk3); clear hc2 hf2))
      go_ret
      exact ⟨ret_bool (by simp [rb]), (by have hq := hb1.mono (B' := w.heap.size) (by first | omega | (simp; done) | (simp; omega)); have hq2 : Below w.heap.size w w1 := Below.trans (by repeat' (first | with_reducible assumption | with_reducible exact Below.refl _ _ | with_reducible apply Below.drew | with_reducible apply below_drewN | with_reducible apply Below.setCell | with_reducible apply Below.alloc | omega | (simp; done) | (simp; omega))) hq; have hq3 : Below w.heap.size w w2 := hq2.trans (hb2.mono (by omega)); clear hq hq2; repeat' (first | with_reducible assumption | with_reducible exact Below.refl _ _ | with_reducible apply Below.drew | with_reducible apply below_drewN | with_reducible apply Below.setCell | with_reducible apply Below.alloc | omega | (simp; done) | (simp; omega)))⟩
    · have rb' : rt b n = true := by simpa using rb
      obtain ⟨m0, m1, m2⟩ := rt_iff.1 ra'
      obtain ⟨n0, n1, n2⟩ := rt_iff.1 rb'
      have hq := meet_eq a m b n m0 m1 n0 n1 ha hb ka kb m2 n2
      clear m2 n2
      by_cases hlt : n < m
      · have he0 : (bits .and .u32 (bits .xor .u32 a b) (4294967296 - sz n) == 0) = mt a m b n := by simpa [hlt] using hq
        have he : Hid ((bits .and .u32 (bits .xor .u32 a b) (4294967296 - sz n) == 0) = mt a m b n) := he0
        clear he0
        clear hq
        go_enter Tryz.func203, Tryz.ntmps203
        go_wp2_with (first | (go_at_call_of 165 (Value.agg #[.int .u32 a, .int .i64 m]); refine (right_any a m _ ha hb).mono ?_; rintro e w1 ⟨rfl, hb1⟩; obtain ⟨hc, hf⟩ := bcell hb1; have hk0 : w1.cell? ⟨w.heap.size, 0, none⟩ = some (.int .u32 a) := (by simp [hc, go_sem]); have hk1 : w1.cell? ⟨w.heap.size, 1, none⟩ = some (.int .i64 m) := (by simp [hc, go_sem]); have hk2 : w1.cell? ⟨w.heap.size + 1, 0, none⟩ = some (.int .u32 b) := (by simp [hc, go_sem]); have hk3 : w1.cell? ⟨w.heap.size + 1, 1, none⟩ = some (.int .i64 n) := (by simp [hc, go_sem]); have hz : w.heap.size + 1 < w1.heap.size := (by have := hb1.size; (try simp at this); omega); clear hc hf) | (go_at_call_of 165 (Value.agg #[.int .u32 b, .int .i64 n]); refine (right_any b n _ ka kb).mono ?_; rintro e w2 ⟨rfl, hb2⟩; obtain ⟨hc2, hf2⟩ := bcell hb2; have hl0 : w2.cell? ⟨w.heap.size, 0, none⟩ = some (.int .u32 a) := (by rw [hc2 _ _ (by omega)]; exact hk0); have hl1 : w2.cell? ⟨w.heap.size, 1, none⟩ = some (.int .i64 m) := (by rw [hc2 _ _ (by omega)]; exact hk1); have hl2 : w2.cell? ⟨w.heap.size + 1, 0, none⟩ = some (.int .u32 b) := (by rw [hc2 _ _ (by omega)]; exact hk2); have hl3 : w2.cell? ⟨w.heap.size + 1, 1, none⟩ = some (.int .i64 n) := (by rw [hc2 _ _ (by omega)]; exact hk3); clear hc2 hf2))
        go_region_held3 (fun w' => w'.cell? ⟨w.heap.size, 0, none⟩ = some (.int .u32 a) ∧ w'.cell? ⟨w.heap.size, 1, none⟩ = some (.int .i64 m) ∧ w'.cell? ⟨w.heap.size + 1, 0, none⟩ = some (.int .u32 b) ∧ w'.cell? ⟨w.heap.size + 1, 1, none⟩ = some (.int .i64 n)) (go_keep) ((go_at_call 180; refine (mask_any n _ (by omega) (by omega)).mono ?_; rintro e w' ⟨rfl, rfl⟩))
        all_goals (go_wp2; go_ret; exact ⟨ret_bool (by simpa [ra', rb'] using he.out), (by have hq := hb1.mono (B' := w.heap.size) (by first | omega | (simp; done) | (simp; omega)); have hq2 : Below w.heap.size w w1 := Below.trans (by repeat' (first | with_reducible assumption | with_reducible exact Below.refl _ _ | with_reducible apply Below.drew | with_reducible apply below_drewN | with_reducible apply Below.setCell | with_reducible apply Below.alloc | omega | (simp; done) | (simp; omega))) hq; have hq3 : Below w.heap.size w w2 := hq2.trans (hb2.mono (by omega)); clear hq hq2; repeat' (first | with_reducible assumption | with_reducible exact Below.refl _ _ | with_reducible apply Below.drew | with_reducible apply below_drewN | with_reducible apply Below.setCell | with_reducible apply Below.alloc | omega | (simp; done) | (simp; omega)))⟩)
      · have he0 : (bits .and .u32 (bits .xor .u32 a b) (4294967296 - sz m) == 0) = mt a m b n := by simpa [hlt] using hq
        have he : Hid ((bits .and .u32 (bits .xor .u32 a b) (4294967296 - sz m) == 0) = mt a m b n) := he0
        clear he0
        clear hq
        go_enter Tryz.func203, Tryz.ntmps203
        go_wp2_with (first | (go_at_call_of 165 (Value.agg #[.int .u32 a, .int .i64 m]); refine (right_any a m _ ha hb).mono ?_; rintro e w1 ⟨rfl, hb1⟩; obtain ⟨hc, hf⟩ := bcell hb1; have hk0 : w1.cell? ⟨w.heap.size, 0, none⟩ = some (.int .u32 a) := (by simp [hc, go_sem]); have hk1 : w1.cell? ⟨w.heap.size, 1, none⟩ = some (.int .i64 m) := (by simp [hc, go_sem]); have hk2 : w1.cell? ⟨w.heap.size + 1, 0, none⟩ = some (.int .u32 b) := (by simp [hc, go_sem]); have hk3 : w1.cell? ⟨w.heap.size + 1, 1, none⟩ = some (.int .i64 n) := (by simp [hc, go_sem]); have hz : w.heap.size + 1 < w1.heap.size := (by have := hb1.size; (try simp at this); omega); clear hc hf) | (go_at_call_of 165 (Value.agg #[.int .u32 b, .int .i64 n]); refine (right_any b n _ ka kb).mono ?_; rintro e w2 ⟨rfl, hb2⟩; obtain ⟨hc2, hf2⟩ := bcell hb2; have hl0 : w2.cell? ⟨w.heap.size, 0, none⟩ = some (.int .u32 a) := (by rw [hc2 _ _ (by omega)]; exact hk0); have hl1 : w2.cell? ⟨w.heap.size, 1, none⟩ = some (.int .i64 m) := (by rw [hc2 _ _ (by omega)]; exact hk1); have hl2 : w2.cell? ⟨w.heap.size + 1, 0, none⟩ = some (.int .u32 b) := (by rw [hc2 _ _ (by omega)]; exact hk2); have hl3 : w2.cell? ⟨w.heap.size + 1, 1, none⟩ = some (.int .i64 n) := (by rw [hc2 _ _ (by omega)]; exact hk3); clear hc2 hf2))
        go_region_held3 (fun w' => w'.cell? ⟨w.heap.size, 0, none⟩ = some (.int .u32 a) ∧ w'.cell? ⟨w.heap.size, 1, none⟩ = some (.int .i64 m) ∧ w'.cell? ⟨w.heap.size + 1, 0, none⟩ = some (.int .u32 b) ∧ w'.cell? ⟨w.heap.size + 1, 1, none⟩ = some (.int .i64 n)) (go_keep) ((go_at_call 180; rw [show (if n < m then n else m) = m from if_neg (by omega)]; refine (mask_any m _ (by omega) (by omega)).mono ?_; rintro e w' ⟨rfl, rfl⟩))
        all_goals (go_wp2; go_ret; exact ⟨ret_bool (by simpa [ra', rb'] using he.out), (by have hq := hb1.mono (B' := w.heap.size) (by first | omega | (simp; done) | (simp; omega)); have hq2 : Below w.heap.size w w1 := Below.trans (by repeat' (first | with_reducible assumption | with_reducible exact Below.refl _ _ | with_reducible apply Below.drew | with_reducible apply below_drewN | with_reducible apply Below.setCell | with_reducible apply Below.alloc | omega | (simp; done) | (simp; omega))) hq; have hq3 : Below w.heap.size w w2 := hq2.trans (hb2.mono (by omega)); clear hq hq2; repeat' (first | with_reducible assumption | with_reducible exact Below.refl _ _ | with_reducible apply Below.drew | with_reducible apply below_drewN | with_reducible apply Below.setCell | with_reducible apply Below.alloc | omega | (simp; done) | (simp; omega)))⟩)

end Go.Proofs.YtlikdnmikdldfaaGreatDoor
namespace Go.Proofs.YtlikdnmikdldfaaGreatDoor
open Go.ChangeShapes Go.WideShapes Go.ChangeAt Go.RowKit
set_option linter.unusedVariables false
set_option linter.unusedSimpArgs false
attribute [local go_sem ↓] Go.wp_at_zero Go.wp_at_succ

theorem bhalves_any (a n : Int) (w : World) (ha : 0 ≤ a) (hb : a < 4294967296) :
    Calls Tryz.prog 129 #[.agg #[.int .u32 a, .int .i64 n]] w fun e w' => e = .returned (.tuple #[.agg #[.int .u32 (hB a n), .int .i64 (hN a n)], .agg #[.int .u32 (hC a n), .int .i64 (hN a n)], .int .i64 (hE a n)]) ∧ Below w.heap.size w w' := by
  rcases ho : hOk a n with _ | _
  · have h := bhalves_no a n w ha hb (hOk_no ho)
    simpa [hB, hC, hN, hE, ho] using h
  · obtain ⟨h1, h2⟩ := hOk_yes ho
    have h := bhalves_yes a n w ha hb h1 h2
    simpa [hB, hC, hN, hE, ho] using h

end Go.Proofs.YtlikdnmikdldfaaGreatDoor
namespace Go.Proofs.YtlikdnmikdldfaaGreatDoor
open Go.ChangeShapes Go.WideShapes Go.ChangeAt Go.RowKit
set_option linter.unusedVariables false
set_option linter.unusedSimpArgs false

theorem bup {w W w1 : World} (h : Below w.heap.size w W) (k : Below W.heap.size W w1) : Below w.heap.size w w1 := h.trans (k.mono h.size)
/-- a holder's value -/
def vH (h : Hd) : Value := .agg #[.int .u32 h.a, .int .i64 h.n, .string h.o]
def vB (a n : Int) : Value := .agg #[.int .u32 a, .int .i64 n]
/-- an address that is one -/
def ad (a : Int) : Prop := 0 ≤ a ∧ a < 4294967296

set_option maxHeartbeats 400000 in
theorem hbase_any (h : Hd) (w : World) : Calls Tryz.prog 141 #[vH h] w fun e w' => e = .returned (.int .u32 h.a) ∧ Below w.heap.size w w' := by
  obtain ⟨a, n, o⟩ := h
  unfold vH
  go_enter Tryz.func141, Tryz.ntmps141
  go_wp2
  go_ret
  exact ⟨rfl, (by repeat' (first | with_reducible assumption | with_reducible exact Below.refl _ _ | with_reducible apply Below.drew | with_reducible apply below_drewN | with_reducible apply Below.setCell | with_reducible apply Below.alloc | omega | (simp; done) | (simp; omega)))⟩
set_option maxHeartbeats 400000 in
theorem hmeets_any (h : Hd) (b m : Int) (w : World) (ha : ad h.a) (hb : ad b) :
    Calls Tryz.prog 260 #[vH h, vB b m] w fun e w' => e = .returned (.bool (meetsH b m h)) ∧ Below w.heap.size w w' := by
  obtain ⟨a, n, o⟩ := h
  have hc : Hid (∀ w, Calls Tryz.prog 203 #[vB a n, vB b m] w fun e w' => e = .returned (.bool (mm a n b m)) ∧ Below w.heap.size w w') := fun w => bmeet_any a n b m w ha.1 ha.2 hb.1 hb.2
  unfold meetsH
  unfold vB at hc
  unfold vH vB
  dsimp only
  generalize mm a n b m = r at hc ⊢
  go_enter Tryz.func260, Tryz.ntmps260
  go_wp2_with (go_at_call 203; refine (hc.out _).mono ?_; rintro e w1 ⟨rfl, hb1⟩)
  go_ret
  exact ⟨rfl, bup (by repeat' (first | with_reducible assumption | with_reducible exact Below.refl _ _ | with_reducible apply Below.drew | with_reducible apply below_drewN | with_reducible apply Below.setCell | with_reducible apply Below.alloc | omega | (simp; done) | (simp; omega))) hb1⟩
set_option maxHeartbeats 400000 in
theorem bin_no (a n b m : Int) (w : World) (h : n < m) :
    Calls Tryz.prog 171 #[vB a n, vB b m] w fun e w' => e = .returned (.bool false) ∧ Below w.heap.size w w' := by
  unfold vB
  go_enter Tryz.func171, Tryz.ntmps171
  go_wp2
  go_ret
  exact ⟨rfl, (by repeat' (first | with_reducible assumption | with_reducible exact Below.refl _ _ | with_reducible apply Below.drew | with_reducible apply below_drewN | with_reducible apply Below.setCell | with_reducible apply Below.alloc | omega | (simp; done) | (simp; omega)))⟩
set_option maxHeartbeats 400000 in
theorem bin_yes (a n b m : Int) (w : World) (h : ¬ n < m) (ha : ad a) (hb : ad b) :
    Calls Tryz.prog 171 #[vB a n, vB b m] w fun e w' => e = .returned (.bool (mm a n b m)) ∧ Below w.heap.size w w' := by
  have hc : Hid (∀ w, Calls Tryz.prog 203 #[vB a n, vB b m] w fun e w' => e = .returned (.bool (mm a n b m)) ∧ Below w.heap.size w w') := fun w => bmeet_any a n b m w ha.1 ha.2 hb.1 hb.2
  unfold vB at hc ⊢
  generalize mm a n b m = r at hc ⊢
  go_enter Tryz.func171, Tryz.ntmps171
  go_wp2_with (go_at_call 203; refine (hc.out _).mono ?_; rintro e w1 ⟨rfl, hb1⟩)
  go_ret
  exact ⟨rfl, bup (by repeat' (first | with_reducible assumption | with_reducible exact Below.refl _ _ | with_reducible apply Below.drew | with_reducible apply below_drewN | with_reducible apply Below.setCell | with_reducible apply Below.alloc | omega | (simp; done) | (simp; omega))) hb1⟩
theorem bin_any (a n b m : Int) (w : World) (ha : ad a) (hb : ad b) :
    Calls Tryz.prog 171 #[vB a n, vB b m] w fun e w' => e = .returned (.bool (inn a n b m)) ∧ Below w.heap.size w w' := by
  by_cases h : n < m
  · have e : inn a n b m = false := by unfold inn; rw [decide_eq_false (by omega)]; rfl
    rw [e]; exact bin_no a n b m w h
  · have e : inn a n b m = mm a n b m := by unfold inn; rw [decide_eq_true (by omega)]; rfl
    rw [e]; exact bin_yes a n b m w h ha hb
set_option maxHeartbeats 400000 in
theorem hspans_any (h : Hd) (b m : Int) (w : World) (ha : ad h.a) (hb : ad b) :
    Calls Tryz.prog 128 #[vH h, vB b m] w fun e w' => e = .returned (.bool (spansH b m h)) ∧ Below w.heap.size w w' := by
  obtain ⟨a, n, o⟩ := h
  have hc : Hid (∀ w, Calls Tryz.prog 171 #[vB b m, vB a n] w fun e w' => e = .returned (.bool (inn b m a n)) ∧ Below w.heap.size w w') := fun w => bin_any b m a n w hb ha
  unfold spansH
  unfold vB at hc
  unfold vH vB
  dsimp only
  generalize inn b m a n = r at hc ⊢
  go_enter Tryz.func128, Tryz.ntmps128
  go_wp2_with (go_at_call 171; refine (hc.out _).mono ?_; rintro e w1 ⟨rfl, hb1⟩)
  go_ret
  exact ⟨rfl, bup (by repeat' (first | with_reducible assumption | with_reducible exact Below.refl _ _ | with_reducible apply Below.drew | with_reducible apply below_drewN | with_reducible apply Below.setCell | with_reducible apply Below.alloc | omega | (simp; done) | (simp; omega))) hb1⟩
set_option maxHeartbeats 400000 in
theorem his_any (h : Hd) (b m : Int) (w : World) :
    Calls Tryz.prog 259 #[vH h, vB b m] w fun e w' => e = .returned (.bool (isH b m h)) ∧ Below w.heap.size w w' := by
  obtain ⟨a, n, o⟩ := h
  unfold isH vH vB
  dsimp only
  by_cases e1 : a = b
  · subst e1
    by_cases e2 : n = m
    · subst e2
      go_enter Tryz.func259, Tryz.ntmps259
      go_wp2
      go_ret
      exact ⟨ret_bool (by simp), (by repeat' (first | with_reducible assumption | with_reducible exact Below.refl _ _ | with_reducible apply Below.drew | with_reducible apply below_drewN | with_reducible apply Below.setCell | with_reducible apply Below.alloc | omega | (simp; done) | (simp; omega)))⟩
    · go_enter Tryz.func259, Tryz.ntmps259
      go_wp2
      go_ret
      exact ⟨ret_bool (by simp [e2]), (by repeat' (first | with_reducible assumption | with_reducible exact Below.refl _ _ | with_reducible apply Below.drew | with_reducible apply below_drewN | with_reducible apply Below.setCell | with_reducible apply Below.alloc | omega | (simp; done) | (simp; omega)))⟩
  · go_enter Tryz.func259, Tryz.ntmps259
    go_wp2
    go_ret
    exact ⟨ret_bool (by simp [e1]), (by repeat' (first | with_reducible assumption | with_reducible exact Below.refl _ _ | with_reducible apply Below.drew | with_reducible apply below_drewN | with_reducible apply Below.setCell | with_reducible apply Below.alloc | omega | (simp; done) | (simp; omega)))⟩
set_option maxHeartbeats 400000 in
theorem howned_any (h : Hd) (s : ByteArray) (w : World) :
    Calls Tryz.prog 83 #[vH h, .string s] w fun e w' => e = .returned (.bool (h.o.toList == s.toList)) ∧ Below w.heap.size w w' := by
  obtain ⟨a, n, o⟩ := h
  unfold vH
  dsimp only
  go_enter Tryz.func83, Tryz.ntmps83
  go_wp2
  go_ret
  exact ⟨rfl, (by repeat' (first | with_reducible assumption | with_reducible exact Below.refl _ _ | with_reducible apply Below.drew | with_reducible apply below_drewN | with_reducible apply Below.setCell | with_reducible apply Below.alloc | omega | (simp; done) | (simp; omega)))⟩
set_option maxHeartbeats 400000 in
theorem cmeetP (h : Hd) (b m : Int) (w : World) (c : Nat) (ha : ad h.a) (hb : ad b) (c0 : w.cell? ⟨c, 0, none⟩ = some (.int .u32 b)) (c1 : w.cell? ⟨c, 1, none⟩ = some (.int .i64 m)) (hc : c < w.heap.size) :
    Calls Tryz.prog 121 #[vH h, .pointer (some ⟨c, 0, none⟩)] w fun e w' => e = .returned (.bool (meetsH b m h)) ∧ Below w.heap.size w w' := by
  have hq : Hid (∀ w, Calls Tryz.prog 260 #[vH h, vB b m] w fun e w' => e = .returned (.bool (meetsH b m h)) ∧ Below w.heap.size w w') := fun w => hmeets_any h b m w ha hb
  generalize meetsH b m h = r at hq ⊢
  obtain ⟨a, n, o⟩ := h
  unfold vH vB at hq
  unfold vH
  dsimp only at *
  go_enter Tryz.func121, Tryz.ntmps121
  go_wp2_with (go_at_call 260; refine (hq.out _).mono ?_; rintro e w1 ⟨rfl, hb1⟩)
  go_ret
  exact ⟨rfl, bup (by repeat' (first | with_reducible assumption | with_reducible exact Below.refl _ _ | with_reducible apply Below.drew | with_reducible apply below_drewN | with_reducible apply Below.setCell | with_reducible apply Below.alloc | omega | (simp; done) | (simp; omega))) hb1⟩
set_option maxHeartbeats 400000 in
theorem cisP (h : Hd) (b m : Int) (w : World) (c : Nat) (ha : ad h.a) (hb : ad b) (c0 : w.cell? ⟨c, 0, none⟩ = some (.int .u32 b)) (c1 : w.cell? ⟨c, 1, none⟩ = some (.int .i64 m)) (hc : c < w.heap.size) :
    Calls Tryz.prog 127 #[vH h, .pointer (some ⟨c, 0, none⟩)] w fun e w' => e = .returned (.bool (isH b m h)) ∧ Below w.heap.size w w' := by
  have hq : Hid (∀ w, Calls Tryz.prog 259 #[vH h, vB b m] w fun e w' => e = .returned (.bool (isH b m h)) ∧ Below w.heap.size w w') := fun w => his_any h b m w
  generalize isH b m h = r at hq ⊢
  obtain ⟨a, n, o⟩ := h
  unfold vH vB at hq
  unfold vH
  dsimp only at *
  go_enter Tryz.func127, Tryz.ntmps127
  go_wp2_with (go_at_call 259; refine (hq.out _).mono ?_; rintro e w1 ⟨rfl, hb1⟩)
  go_ret
  exact ⟨rfl, bup (by repeat' (first | with_reducible assumption | with_reducible exact Below.refl _ _ | with_reducible apply Below.drew | with_reducible apply below_drewN | with_reducible apply Below.setCell | with_reducible apply Below.alloc | omega | (simp; done) | (simp; omega))) hb1⟩
set_option maxHeartbeats 400000 in
theorem cspanP (h : Hd) (b m : Int) (w : World) (c : Nat) (ha : ad h.a) (hb : ad b) (c0 : w.cell? ⟨c, 0, none⟩ = some (.int .u32 b)) (c1 : w.cell? ⟨c, 1, none⟩ = some (.int .i64 m)) (hc : c < w.heap.size) :
    Calls Tryz.prog 132 #[vH h, .pointer (some ⟨c, 0, none⟩)] w fun e w' => e = .returned (.bool (spansH b m h)) ∧ Below w.heap.size w w' := by
  have hq : Hid (∀ w, Calls Tryz.prog 128 #[vH h, vB b m] w fun e w' => e = .returned (.bool (spansH b m h)) ∧ Below w.heap.size w w') := fun w => hspans_any h b m w ha hb
  generalize spansH b m h = r at hq ⊢
  obtain ⟨a, n, o⟩ := h
  unfold vH vB at hq
  unfold vH
  dsimp only at *
  go_enter Tryz.func132, Tryz.ntmps132
  go_wp2_with (go_at_call 128; refine (hq.out _).mono ?_; rintro e w1 ⟨rfl, hb1⟩)
  go_ret
  exact ⟨rfl, bup (by repeat' (first | with_reducible assumption | with_reducible exact Below.refl _ _ | with_reducible apply Below.drew | with_reducible apply below_drewN | with_reducible apply Below.setCell | with_reducible apply Below.alloc | omega | (simp; done) | (simp; omega))) hb1⟩
set_option maxHeartbeats 400000 in
theorem cmeetS (h : Hd) (b m : Int) (w : World) (c : Nat) (ha : ad h.a) (hb : ad b) (c0 : w.cell? ⟨c, 0, none⟩ = some (.int .u32 b)) (c1 : w.cell? ⟨c, 1, none⟩ = some (.int .i64 m)) (hc : c < w.heap.size) :
    Calls Tryz.prog 134 #[vH h, .pointer (some ⟨c, 0, none⟩)] w fun e w' => e = .returned (.bool (meetsH b m h)) ∧ Below w.heap.size w w' := by
  have hq : Hid (∀ w, Calls Tryz.prog 260 #[vH h, vB b m] w fun e w' => e = .returned (.bool (meetsH b m h)) ∧ Below w.heap.size w w') := fun w => hmeets_any h b m w ha hb
  generalize meetsH b m h = r at hq ⊢
  obtain ⟨a, n, o⟩ := h
  unfold vH vB at hq
  unfold vH
  dsimp only at *
  go_enter Tryz.func134, Tryz.ntmps134
  go_wp2_with (go_at_call 260; refine (hq.out _).mono ?_; rintro e w1 ⟨rfl, hb1⟩)
  go_ret
  exact ⟨rfl, bup (by repeat' (first | with_reducible assumption | with_reducible exact Below.refl _ _ | with_reducible apply Below.drew | with_reducible apply below_drewN | with_reducible apply Below.setCell | with_reducible apply Below.alloc | omega | (simp; done) | (simp; omega))) hb1⟩
set_option maxHeartbeats 400000 in
theorem cisS (h : Hd) (b m : Int) (w : World) (c : Nat) (ha : ad h.a) (hb : ad b) (c0 : w.cell? ⟨c, 0, none⟩ = some (.int .u32 b)) (c1 : w.cell? ⟨c, 1, none⟩ = some (.int .i64 m)) (hc : c < w.heap.size) :
    Calls Tryz.prog 136 #[vH h, .pointer (some ⟨c, 0, none⟩)] w fun e w' => e = .returned (.bool (isH b m h)) ∧ Below w.heap.size w w' := by
  have hq : Hid (∀ w, Calls Tryz.prog 259 #[vH h, vB b m] w fun e w' => e = .returned (.bool (isH b m h)) ∧ Below w.heap.size w w') := fun w => his_any h b m w
  generalize isH b m h = r at hq ⊢
  obtain ⟨a, n, o⟩ := h
  unfold vH vB at hq
  unfold vH
  dsimp only at *
  go_enter Tryz.func136, Tryz.ntmps136
  go_wp2_with (go_at_call 259; refine (hq.out _).mono ?_; rintro e w1 ⟨rfl, hb1⟩)
  go_ret
  exact ⟨rfl, bup (by repeat' (first | with_reducible assumption | with_reducible exact Below.refl _ _ | with_reducible apply Below.drew | with_reducible apply below_drewN | with_reducible apply Below.setCell | with_reducible apply Below.alloc | omega | (simp; done) | (simp; omega))) hb1⟩
set_option maxHeartbeats 400000 in
theorem cspanS (h : Hd) (b m : Int) (w : World) (c : Nat) (ha : ad h.a) (hb : ad b) (c0 : w.cell? ⟨c, 0, none⟩ = some (.int .u32 b)) (c1 : w.cell? ⟨c, 1, none⟩ = some (.int .i64 m)) (hc : c < w.heap.size) :
    Calls Tryz.prog 140 #[vH h, .pointer (some ⟨c, 0, none⟩)] w fun e w' => e = .returned (.bool (spansH b m h)) ∧ Below w.heap.size w w' := by
  have hq : Hid (∀ w, Calls Tryz.prog 128 #[vH h, vB b m] w fun e w' => e = .returned (.bool (spansH b m h)) ∧ Below w.heap.size w w') := fun w => hspans_any h b m w ha hb
  generalize spansH b m h = r at hq ⊢
  obtain ⟨a, n, o⟩ := h
  unfold vH vB at hq
  unfold vH
  dsimp only at *
  go_enter Tryz.func140, Tryz.ntmps140
  go_wp2_with (go_at_call 128; refine (hq.out _).mono ?_; rintro e w1 ⟨rfl, hb1⟩)
  go_ret
  exact ⟨rfl, bup (by repeat' (first | with_reducible assumption | with_reducible exact Below.refl _ _ | with_reducible apply Below.drew | with_reducible apply below_drewN | with_reducible apply Below.setCell | with_reducible apply Below.alloc | omega | (simp; done) | (simp; omega))) hb1⟩
end Go.Proofs.YtlikdnmikdldfaaGreatDoor
namespace Go.Proofs.YtlikdnmikdldfaaGreatDoor
open Go.ChangeShapes Go.WideShapes Go.ChangeAt Go.RowKit
set_option linter.unusedVariables false
set_option linter.unusedSimpArgs false

def encH (h : Hd) : List Value := [.int .u32 h.a, .int .i64 h.n, .string h.o]
def encL (l : Ls) : List Value := [.int .u32 l.a, .string l.o]
def vL (l : Ls) : Value := .agg #[.int .u32 l.a, .string l.o]
/-- a list that can be read -/
def Rd {α : Type} (k : Nat) (enc : α → List Value) (d : α) (w : World) (v : Value) (l : List α) : Prop :=
  ∃ b cap, v = .slice b l.length cap ∧ l.length ≤ cap ∧ cap ≤ maxLen ∧ (l ≠ [] → ∃ g, b = some ⟨g, 0, none⟩ ∧ g < w.heap.size ∧ ∀ j, j < l.length → ∀ i u, (enc (l.getD j d))[i]? = some u → w.cell? ⟨g, j * k + i, none⟩ = some u)
theorem Rd.below {α : Type} {k : Nat} {enc : α → List Value} {d : α} {w w' : World} {v : Value} {l : List α} (h : Rd k enc d w v l) (hb : Below w.heap.size w w') : Rd k enc d w' v l := by
  obtain ⟨b, cap, rfl, h1, h2, h3⟩ := h
  refine ⟨b, cap, rfl, h1, h2, fun hl => ?_⟩
  obtain ⟨g, rfl, hg, hc⟩ := h3 hl
  exact ⟨g, rfl, Nat.lt_of_lt_of_le hg hb.size, fun j hj i u hu => (hb.cell (p := ⟨g, j * k + i, none⟩) hg).trans (hc j hj i u hu)⟩
theorem flat_at {α : Type} {k : Nat} {enc : α → List Value} (hk : ∀ x, (enc x).length = k) (l : List α) (d : α) (j : Nat) (hj : j < l.length) (i : Nat) (hi : i < k) : (l.flatMap enc)[j * k + i]? = (enc (l.getD j d))[i]? := by
  induction l generalizing j with
  | nil => simp at hj
  | cons x r ih =>
    rw [List.flatMap_cons]
    cases j with
    | zero => rw [Nat.zero_mul, Nat.zero_add, List.getElem?_append_left (by rw [hk]; exact hi)]; rfl
    | succ j =>
      rw [List.getElem?_append_right (by rw [hk, Nat.succ_mul]; omega), hk, show (j + 1) * k + i - k = j * k + i by rw [Nat.succ_mul]; omega, ih j (by simpa using hj)]
      rfl
theorem flat_len {α : Type} {k : Nat} {enc : α → List Value} (hk : ∀ x, (enc x).length = k) (l : List α) : (l.flatMap enc).length = l.length * k := by
  induction l with
  | nil => simp
  | cons x r ih => rw [List.flatMap_cons, List.length_append, hk, ih, List.length_cons, Nat.succ_mul]; omega
theorem Rd.of_owns {α : Type} {k : Nat} {enc : α → List Value} (hk : ∀ x, (enc x).length = k) (d : α) {w : World} {B : Nat} {t : TypeId} {v : Value} {l : List α} (h : w.ownsRow B t k v l.length (l.flatMap enc)) : Rd k enc d w v l := by
  rcases h.2 with ⟨rfl, e⟩ | ⟨g, cap, cur, rfl, hb, hg, h1, h2, h3, h4⟩
  · obtain rfl : l = [] := List.length_eq_zero_iff.1 e
    exact ⟨none, 0, rfl, Nat.le_refl _, by unfold maxLen; omega, fun h => absurd rfl h⟩
  · refine ⟨_, cap, rfl, h1, h2, fun hl => ⟨g, rfl, (Array.getElem?_eq_some_iff.1 hg).1, fun j hj i u hu => ?_⟩⟩
    have hi : i < k := by rw [← hk (l.getD j d)]; exact (List.getElem?_eq_some_iff.1 hu).1
    have e := flat_at hk l d j hj i hi
    rw [← h4, hu, List.getElem?_take] at e
    rw [cell_of_row w g _ cur t (0, 0) hg]
    split at e
    · rw [← e]; simp
    · cases e
/-- what a predicate's closure answers over a list -/
def PredB (f : Nat) (lb : Array Value) (p : Hd → Bool) (l : List Hd) (w : World) : Prop :=
  ∀ W, Below w.heap.size w W → ∀ h, h ∈ l → Calls Tryz.prog f (#[vH h] ++ lb) W fun e w' => e = .returned (.bool (p h)) ∧ Below W.heap.size W w'
theorem getD_mem {α : Type} (l : List α) (d : α) (j : Nat) (hj : j < l.length) : l.getD j d ∈ l := by
  rw [List.getD_eq_getElem?_getD, List.getElem?_eq_getElem hj]; exact List.getElem_mem hj

set_option maxHeartbeats 2000000 in
theorem idxP (l : List Hd) (p : Hd → Bool) (f c : Nat) (v : Value) (w : World) (eg : ∀ args w, (callFunc f args).run Tryz.prog w = .ok (.enter f args) w) (hr : Rd 3 encH hd0 w v l) (hp : PredB f #[.pointer (some ⟨c, 0, none⟩)] p l w) :
    Calls Tryz.prog 126 #[v, .func (.func f) #[] #[.pointer (some ⟨c, 0, none⟩)]] w fun e w' => e = .returned (.int .i64 (fi p l)) ∧ Below w.heap.size w w' := by
  obtain ⟨b, cap, rfl, h1, h2, h3⟩ := hr
  have hn : l.length ≤ 9223372036854775807 := by unfold maxLen at h2; omega
  have hrow : Hid (∀ W, Below w.heap.size w W → ∀ j, j < l.length → ∃ g, b = some ⟨g, 0, none⟩ ∧ W.cell? ⟨g, j * 3, none⟩ = some (.int .u32 (l.getD j hd0).a) ∧ W.cell? ⟨g, j * 3 + 1, none⟩ = some (.int .i64 (l.getD j hd0).n) ∧ W.cell? ⟨g, j * 3 + 2, none⟩ = some (.string (l.getD j hd0).o)) := fun W hW j hj => by
    obtain ⟨g, hg, hlt, hc⟩ := h3 (by intro e; rw [e] at hj; simp at hj)
    have hc := hc j hj
    exact ⟨g, hg, (hW.cell (p := ⟨g, j * 3, none⟩) hlt).trans (hc 0 _ rfl), (hW.cell (p := ⟨g, j * 3 + 1, none⟩) hlt).trans (hc 1 _ rfl), (hW.cell (p := ⟨g, j * 3 + 2, none⟩) hlt).trans (hc 2 _ rfl)⟩
  have HP : Hid (PredB f #[.pointer (some ⟨c, 0, none⟩)] p l w) := hp
  clear h1 h2 h3 hp
  go_enter Tryz.func126, Tryz.ntmps126
  go_wp2
  go_loopg [5, 8] l.length (fun gg _ s8 wr => ∃ kk : Nat, kk ≤ l.length ∧ l.length - kk ≤ gg ∧ s8 = .int .i64 kk ∧ Hid (Below w.heap.size w wr) ∧ Hid (∀ j, j < kk → p (l.getD j hd0) = false))
  case atStart => exact ⟨0, Nat.zero_le _, by omega, rfl, Below.refl _ w, fun j hj => absurd hj (Nat.not_lt_zero _)⟩
  case round =>
    obtain ⟨kk, hkk, hg, rfl, BW, HA⟩ := hrel
    by_cases hlt : kk < l.length
    · have hltz : (kk : Int) < (l.length : Int) := by omega
      obtain ⟨g, rfl, k0, k1, k2⟩ := hrow.out wr BW.out kk hlt
      have hcall : Hid (Calls Tryz.prog f (#[vH (l.getD kk hd0)] ++ #[.pointer (some ⟨c, 0, none⟩)]) wr fun e w' => e = .returned (.bool (p (l.getD kk hd0))) ∧ Below wr.heap.size wr w') := HP.out wr BW.out _ (getD_mem l hd0 kk hlt)
      have hB : Hid (p (l.getD kk hd0) = p (l.getD kk hd0)) := rfl
      generalize hy : l.getD kk hd0 = y at k0 k1 k2 hcall
      have HY : Hid (l.getD kk hd0 = y) := hy
      clear hy hrow HP hB
      unfold vH at hcall
      cases hq : p y with
      | true =>
        rw [hq] at hcall
        have HQ : Hid (p y = true) := hq
        clear hq
        go_wp2_with (go_at_fn f; refine hcall.out.mono ?_; rintro e w' ⟨rfl, hb'⟩)
        go_ret
        refine ⟨?_, bup BW.out hb'⟩
        rw [fi_hit p l hd0 kk hlt HA.out (by rw [HY.out]; exact HQ.out)]
        rfl
      | false =>
        rw [hq] at hcall
        have HQ : Hid (p y = false) := hq
        clear hq
        go_wp2_with (go_at_fn f; refine hcall.out.mono ?_; rintro e w' ⟨rfl, hb'⟩)
        go_roundg (l.length - (kk + 1))
        case measure => omega
        case rel =>
          refine ⟨kk + 1, by omega, by omega, by go_num, bup BW.out hb', (show Hid _ from fun j hj => ?_)⟩
          by_cases e : j = kk
          · subst e
            rw [HY.out]; exact HQ.out
          · exact HA.out j (by omega)
    · have hltz : ¬ (kk : Int) < (l.length : Int) := by omega
      have hkl : kk = l.length := by omega
      subst hkl
      clear hrow HP
      go_wp2
      go_ret
      refine ⟨?_, BW.out⟩
      rw [fi_miss p l (fun x hx => by
        obtain ⟨j, hj, rfl⟩ := List.getElem_of_mem hx
        have := HA.out j hj
        rw [List.getD_eq_getElem?_getD, List.getElem?_eq_getElem hj] at this
        exact this)]
      rfl

set_option maxHeartbeats 2000000 in
theorem idxS (l : List Hd) (p : Hd → Bool) (f c : Nat) (v : Value) (w : World) (eg : ∀ args w, (callFunc f args).run Tryz.prog w = .ok (.enter f args) w) (hr : Rd 3 encH hd0 w v l) (hp : PredB f #[.pointer (some ⟨c, 0, none⟩)] p l w) :
    Calls Tryz.prog 135 #[v, .func (.func f) #[] #[.pointer (some ⟨c, 0, none⟩)]] w fun e w' => e = .returned (.int .i64 (fi p l)) ∧ Below w.heap.size w w' := by
  obtain ⟨b, cap, rfl, h1, h2, h3⟩ := hr
  have hn : l.length ≤ 9223372036854775807 := by unfold maxLen at h2; omega
  have hrow : Hid (∀ W, Below w.heap.size w W → ∀ j, j < l.length → ∃ g, b = some ⟨g, 0, none⟩ ∧ W.cell? ⟨g, j * 3, none⟩ = some (.int .u32 (l.getD j hd0).a) ∧ W.cell? ⟨g, j * 3 + 1, none⟩ = some (.int .i64 (l.getD j hd0).n) ∧ W.cell? ⟨g, j * 3 + 2, none⟩ = some (.string (l.getD j hd0).o)) := fun W hW j hj => by
    obtain ⟨g, hg, hlt, hc⟩ := h3 (by intro e; rw [e] at hj; simp at hj)
    have hc := hc j hj
    exact ⟨g, hg, (hW.cell (p := ⟨g, j * 3, none⟩) hlt).trans (hc 0 _ rfl), (hW.cell (p := ⟨g, j * 3 + 1, none⟩) hlt).trans (hc 1 _ rfl), (hW.cell (p := ⟨g, j * 3 + 2, none⟩) hlt).trans (hc 2 _ rfl)⟩
  have HP : Hid (PredB f #[.pointer (some ⟨c, 0, none⟩)] p l w) := hp
  clear h1 h2 h3 hp
  go_enter Tryz.func135, Tryz.ntmps135
  go_wp2
  go_loopg [5, 8] l.length (fun gg _ s8 wr => ∃ kk : Nat, kk ≤ l.length ∧ l.length - kk ≤ gg ∧ s8 = .int .i64 kk ∧ Hid (Below w.heap.size w wr) ∧ Hid (∀ j, j < kk → p (l.getD j hd0) = false))
  case atStart => exact ⟨0, Nat.zero_le _, by omega, rfl, Below.refl _ w, fun j hj => absurd hj (Nat.not_lt_zero _)⟩
  case round =>
    obtain ⟨kk, hkk, hg, rfl, BW, HA⟩ := hrel
    by_cases hlt : kk < l.length
    · have hltz : (kk : Int) < (l.length : Int) := by omega
      obtain ⟨g, rfl, k0, k1, k2⟩ := hrow.out wr BW.out kk hlt
      have hcall : Hid (Calls Tryz.prog f (#[vH (l.getD kk hd0)] ++ #[.pointer (some ⟨c, 0, none⟩)]) wr fun e w' => e = .returned (.bool (p (l.getD kk hd0))) ∧ Below wr.heap.size wr w') := HP.out wr BW.out _ (getD_mem l hd0 kk hlt)
      have hB : Hid (p (l.getD kk hd0) = p (l.getD kk hd0)) := rfl
      generalize hy : l.getD kk hd0 = y at k0 k1 k2 hcall
      have HY : Hid (l.getD kk hd0 = y) := hy
      clear hy hrow HP hB
      unfold vH at hcall
      cases hq : p y with
      | true =>
        rw [hq] at hcall
        have HQ : Hid (p y = true) := hq
        clear hq
        go_wp2_with (go_at_fn f; refine hcall.out.mono ?_; rintro e w' ⟨rfl, hb'⟩)
        go_ret
        refine ⟨?_, bup BW.out hb'⟩
        rw [fi_hit p l hd0 kk hlt HA.out (by rw [HY.out]; exact HQ.out)]
        rfl
      | false =>
        rw [hq] at hcall
        have HQ : Hid (p y = false) := hq
        clear hq
        go_wp2_with (go_at_fn f; refine hcall.out.mono ?_; rintro e w' ⟨rfl, hb'⟩)
        go_roundg (l.length - (kk + 1))
        case measure => omega
        case rel =>
          refine ⟨kk + 1, by omega, by omega, by go_num, bup BW.out hb', (show Hid _ from fun j hj => ?_)⟩
          by_cases e : j = kk
          · subst e
            rw [HY.out]; exact HQ.out
          · exact HA.out j (by omega)
    · have hltz : ¬ (kk : Int) < (l.length : Int) := by omega
      have hkl : kk = l.length := by omega
      subst hkl
      clear hrow HP
      go_wp2
      go_ret
      refine ⟨?_, BW.out⟩
      rw [fi_miss p l (fun x hx => by
        obtain ⟨j, hj, rfl⟩ := List.getElem_of_mem hx
        have := HA.out j hj
        rw [List.getD_eq_getElem?_getD, List.getElem?_eq_getElem hj] at this
        exact this)]
      rfl

theorem fi_any {α : Type} (p : α → Bool) (l : List α) : decide (0 ≤ fi p l) = l.any p := by
  induction l with
  | nil => rfl
  | cons x r ih =>
    rw [List.any_cons, ← ih]
    rcases hx : p x with _ | _
    · simp only [fi, hx, Bool.false_or, Bool.false_eq_true, if_false]
      split <;> rw [Bool.eq_iff_iff] <;> simp <;> omega
    · simp [fi, hx]

set_option maxHeartbeats 400000 in
theorem cofP (l : List Hd) (p : Hd → Bool) (f c : Nat) (v : Value) (w : World) (eg : ∀ args w, (callFunc f args).run Tryz.prog w = .ok (.enter f args) w) (hr : Rd 3 encH hd0 w v l) (hp : PredB f #[.pointer (some ⟨c, 0, none⟩)] p l w) :
    Calls Tryz.prog 120 #[v, .func (.func f) #[] #[.pointer (some ⟨c, 0, none⟩)]] w fun e w' => e = .returned (.bool (l.any p)) ∧ Below w.heap.size w w' := by
  have hi : Hid (Calls Tryz.prog 126 #[v, .func (.func f) #[] #[.pointer (some ⟨c, 0, none⟩)]] w fun e w' => e = .returned (.int .i64 (fi p l)) ∧ Below w.heap.size w w') := idxP l p f c v w eg hr hp
  rw [← fi_any]
  obtain ⟨b, cap, rfl, h1, h2, h3⟩ := hr
  clear hp h1 h2 h3 eg
  generalize fi p l = r at hi ⊢
  go_enter Tryz.func120, Tryz.ntmps120
  go_wp2_with (go_at_call 126; refine hi.out.mono ?_; rintro e w1 ⟨rfl, hb1⟩)
  go_ret
  exact ⟨rfl, hb1⟩

set_option maxHeartbeats 400000 in
theorem cofS (l : List Hd) (p : Hd → Bool) (f c : Nat) (v : Value) (w : World) (eg : ∀ args w, (callFunc f args).run Tryz.prog w = .ok (.enter f args) w) (hr : Rd 3 encH hd0 w v l) (hp : PredB f #[.pointer (some ⟨c, 0, none⟩)] p l w) :
    Calls Tryz.prog 133 #[v, .func (.func f) #[] #[.pointer (some ⟨c, 0, none⟩)]] w fun e w' => e = .returned (.bool (l.any p)) ∧ Below w.heap.size w w' := by
  have hi : Hid (Calls Tryz.prog 135 #[v, .func (.func f) #[] #[.pointer (some ⟨c, 0, none⟩)]] w fun e w' => e = .returned (.int .i64 (fi p l)) ∧ Below w.heap.size w w') := idxS l p f c v w eg hr hp
  rw [← fi_any]
  obtain ⟨b, cap, rfl, h1, h2, h3⟩ := hr
  clear hp h1 h2 h3 eg
  generalize fi p l = r at hi ⊢
  go_enter Tryz.func133, Tryz.ntmps133
  go_wp2_with (go_at_call 135; refine hi.out.mono ?_; rintro e w1 ⟨rfl, hb1⟩)
  go_ret
  exact ⟨rfl, hb1⟩

set_option maxHeartbeats 400000 in
theorem findP (l : List Hd) (b m : Int) (v : Value) (w : World) (hl : ∀ h, h ∈ l → ad h.a) (hb : ad b) (hr : Rd 3 encH hd0 w v l) :
    Calls Tryz.prog 82 #[v, vB b m] w fun e w' => e = .returned (.int .i64 (findH l b m)) ∧ Below w.heap.size w w' := by
  have hi : Hid (∀ W c, Below w.heap.size w W → c < W.heap.size → W.cell? ⟨c, 0, none⟩ = some (.int .u32 b) → W.cell? ⟨c, 1, none⟩ = some (.int .i64 m) → Calls Tryz.prog 126 #[v, .func (.func 127) #[] #[.pointer (some ⟨c, 0, none⟩)]] W fun e w' => e = .returned (.int .i64 (findH l b m)) ∧ Below W.heap.size W w') := fun W c hW hc c0 c1 =>
    idxP l (isH b m) _ c v W (enters_of Tryz.func127 (by kernel_rfl) rfl) (hr.below hW) fun V hV h hh => cisP h b m V c (hl h hh) hb ((hV.cell (p := ⟨c, 0, none⟩) hc).trans c0) ((hV.cell (p := ⟨c, 1, none⟩) hc).trans c1) (Nat.lt_of_lt_of_le hc hV.size)
  obtain ⟨bb, cap, rfl, h1, h2, h3⟩ := hr
  clear h1 h2 h3 hl
  unfold findH at hi ⊢
  unfold vB
  generalize fi (isH b m) l = r at hi ⊢
  go_enter Tryz.func82, Tryz.ntmps82
  go_wp2_with (go_at_call 126; refine (hi.out _ _ (by repeat' (first | with_reducible assumption | with_reducible exact Below.refl _ _ | with_reducible apply Below.drew | with_reducible apply below_drewN | with_reducible apply Below.setCell | with_reducible apply Below.alloc | omega | (simp; done) | (simp; omega))) (by simp) (by simp [go_sem]) (by simp [go_sem])).mono ?_; rintro e w1 ⟨rfl, hb1⟩)
  go_ret
  exact ⟨rfl, bup (by repeat' (first | with_reducible assumption | with_reducible exact Below.refl _ _ | with_reducible apply Below.drew | with_reducible apply below_drewN | with_reducible apply Below.setCell | with_reducible apply Below.alloc | omega | (simp; done) | (simp; omega))) hb1⟩

set_option maxHeartbeats 400000 in
theorem fspanP (l : List Hd) (b m : Int) (v : Value) (w : World) (hl : ∀ h, h ∈ l → ad h.a) (hb : ad b) (hr : Rd 3 encH hd0 w v l) :
    Calls Tryz.prog 90 #[v, vB b m] w fun e w' => e = .returned (.int .i64 (spanH l b m)) ∧ Below w.heap.size w w' := by
  have hi : Hid (∀ W c, Below w.heap.size w W → c < W.heap.size → W.cell? ⟨c, 0, none⟩ = some (.int .u32 b) → W.cell? ⟨c, 1, none⟩ = some (.int .i64 m) → Calls Tryz.prog 126 #[v, .func (.func 132) #[] #[.pointer (some ⟨c, 0, none⟩)]] W fun e w' => e = .returned (.int .i64 (spanH l b m)) ∧ Below W.heap.size W w') := fun W c hW hc c0 c1 =>
    idxP l (spansH b m) _ c v W (enters_of Tryz.func132 (by kernel_rfl) rfl) (hr.below hW) fun V hV h hh => cspanP h b m V c (hl h hh) hb ((hV.cell (p := ⟨c, 0, none⟩) hc).trans c0) ((hV.cell (p := ⟨c, 1, none⟩) hc).trans c1) (Nat.lt_of_lt_of_le hc hV.size)
  obtain ⟨bb, cap, rfl, h1, h2, h3⟩ := hr
  clear h1 h2 h3 hl
  unfold spanH at hi ⊢
  unfold vB
  generalize fi (spansH b m) l = r at hi ⊢
  go_enter Tryz.func90, Tryz.ntmps90
  go_wp2_with (go_at_call 126; refine (hi.out _ _ (by repeat' (first | with_reducible assumption | with_reducible exact Below.refl _ _ | with_reducible apply Below.drew | with_reducible apply below_drewN | with_reducible apply Below.setCell | with_reducible apply Below.alloc | omega | (simp; done) | (simp; omega))) (by simp) (by simp [go_sem]) (by simp [go_sem])).mono ?_; rintro e w1 ⟨rfl, hb1⟩)
  go_ret
  exact ⟨rfl, bup (by repeat' (first | with_reducible assumption | with_reducible exact Below.refl _ _ | with_reducible apply Below.drew | with_reducible apply below_drewN | with_reducible apply Below.setCell | with_reducible apply Below.alloc | omega | (simp; done) | (simp; omega))) hb1⟩

set_option maxHeartbeats 400000 in
theorem anymP (l : List Hd) (b m : Int) (v : Value) (w : World) (hl : ∀ h, h ∈ l → ad h.a) (hb : ad b) (hr : Rd 3 encH hd0 w v l) :
    Calls Tryz.prog 79 #[v, vB b m] w fun e w' => e = .returned (.bool (anyH l b m)) ∧ Below w.heap.size w w' := by
  have hi : Hid (∀ W c, Below w.heap.size w W → c < W.heap.size → W.cell? ⟨c, 0, none⟩ = some (.int .u32 b) → W.cell? ⟨c, 1, none⟩ = some (.int .i64 m) → Calls Tryz.prog 120 #[v, .func (.func 121) #[] #[.pointer (some ⟨c, 0, none⟩)]] W fun e w' => e = .returned (.bool (anyH l b m)) ∧ Below W.heap.size W w') := fun W c hW hc c0 c1 =>
    cofP l (meetsH b m) _ c v W (enters_of Tryz.func121 (by kernel_rfl) rfl) (hr.below hW) fun V hV h hh => cmeetP h b m V c (hl h hh) hb ((hV.cell (p := ⟨c, 0, none⟩) hc).trans c0) ((hV.cell (p := ⟨c, 1, none⟩) hc).trans c1) (Nat.lt_of_lt_of_le hc hV.size)
  obtain ⟨bb, cap, rfl, h1, h2, h3⟩ := hr
  clear h1 h2 h3 hl
  unfold anyH at hi ⊢
  unfold vB
  generalize l.any (meetsH b m) = r at hi ⊢
  go_enter Tryz.func79, Tryz.ntmps79
  go_wp2_with (go_at_call 120; refine (hi.out _ _ (by repeat' (first | with_reducible assumption | with_reducible exact Below.refl _ _ | with_reducible apply Below.drew | with_reducible apply below_drewN | with_reducible apply Below.setCell | with_reducible apply Below.alloc | omega | (simp; done) | (simp; omega))) (by simp) (by simp [go_sem]) (by simp [go_sem])).mono ?_; rintro e w1 ⟨rfl, hb1⟩)
  go_ret
  exact ⟨rfl, bup (by repeat' (first | with_reducible assumption | with_reducible exact Below.refl _ _ | with_reducible apply Below.drew | with_reducible apply below_drewN | with_reducible apply Below.setCell | with_reducible apply Below.alloc | omega | (simp; done) | (simp; omega))) hb1⟩

set_option maxHeartbeats 400000 in
theorem findS (l : List Hd) (b m : Int) (v : Value) (w : World) (hl : ∀ h, h ∈ l → ad h.a) (hb : ad b) (hr : Rd 3 encH hd0 w v l) :
    Calls Tryz.prog 92 #[v, vB b m] w fun e w' => e = .returned (.int .i64 (findH l b m)) ∧ Below w.heap.size w w' := by
  have hi : Hid (∀ W c, Below w.heap.size w W → c < W.heap.size → W.cell? ⟨c, 0, none⟩ = some (.int .u32 b) → W.cell? ⟨c, 1, none⟩ = some (.int .i64 m) → Calls Tryz.prog 135 #[v, .func (.func 136) #[] #[.pointer (some ⟨c, 0, none⟩)]] W fun e w' => e = .returned (.int .i64 (findH l b m)) ∧ Below W.heap.size W w') := fun W c hW hc c0 c1 =>
    idxS l (isH b m) _ c v W (enters_of Tryz.func136 (by kernel_rfl) rfl) (hr.below hW) fun V hV h hh => cisS h b m V c (hl h hh) hb ((hV.cell (p := ⟨c, 0, none⟩) hc).trans c0) ((hV.cell (p := ⟨c, 1, none⟩) hc).trans c1) (Nat.lt_of_lt_of_le hc hV.size)
  obtain ⟨bb, cap, rfl, h1, h2, h3⟩ := hr
  clear h1 h2 h3 hl
  unfold findH at hi ⊢
  unfold vB
  generalize fi (isH b m) l = r at hi ⊢
  go_enter Tryz.func92, Tryz.ntmps92
  go_wp2_with (go_at_call 135; refine (hi.out _ _ (by repeat' (first | with_reducible assumption | with_reducible exact Below.refl _ _ | with_reducible apply Below.drew | with_reducible apply below_drewN | with_reducible apply Below.setCell | with_reducible apply Below.alloc | omega | (simp; done) | (simp; omega))) (by simp) (by simp [go_sem]) (by simp [go_sem])).mono ?_; rintro e w1 ⟨rfl, hb1⟩)
  go_ret
  exact ⟨rfl, bup (by repeat' (first | with_reducible assumption | with_reducible exact Below.refl _ _ | with_reducible apply Below.drew | with_reducible apply below_drewN | with_reducible apply Below.setCell | with_reducible apply Below.alloc | omega | (simp; done) | (simp; omega))) hb1⟩

set_option maxHeartbeats 400000 in
theorem fspanS (l : List Hd) (b m : Int) (v : Value) (w : World) (hl : ∀ h, h ∈ l → ad h.a) (hb : ad b) (hr : Rd 3 encH hd0 w v l) :
    Calls Tryz.prog 98 #[v, vB b m] w fun e w' => e = .returned (.int .i64 (spanH l b m)) ∧ Below w.heap.size w w' := by
  have hi : Hid (∀ W c, Below w.heap.size w W → c < W.heap.size → W.cell? ⟨c, 0, none⟩ = some (.int .u32 b) → W.cell? ⟨c, 1, none⟩ = some (.int .i64 m) → Calls Tryz.prog 135 #[v, .func (.func 140) #[] #[.pointer (some ⟨c, 0, none⟩)]] W fun e w' => e = .returned (.int .i64 (spanH l b m)) ∧ Below W.heap.size W w') := fun W c hW hc c0 c1 =>
    idxS l (spansH b m) _ c v W (enters_of Tryz.func140 (by kernel_rfl) rfl) (hr.below hW) fun V hV h hh => cspanS h b m V c (hl h hh) hb ((hV.cell (p := ⟨c, 0, none⟩) hc).trans c0) ((hV.cell (p := ⟨c, 1, none⟩) hc).trans c1) (Nat.lt_of_lt_of_le hc hV.size)
  obtain ⟨bb, cap, rfl, h1, h2, h3⟩ := hr
  clear h1 h2 h3 hl
  unfold spanH at hi ⊢
  unfold vB
  generalize fi (spansH b m) l = r at hi ⊢
  go_enter Tryz.func98, Tryz.ntmps98
  go_wp2_with (go_at_call 135; refine (hi.out _ _ (by repeat' (first | with_reducible assumption | with_reducible exact Below.refl _ _ | with_reducible apply Below.drew | with_reducible apply below_drewN | with_reducible apply Below.setCell | with_reducible apply Below.alloc | omega | (simp; done) | (simp; omega))) (by simp) (by simp [go_sem]) (by simp [go_sem])).mono ?_; rintro e w1 ⟨rfl, hb1⟩)
  go_ret
  exact ⟨rfl, bup (by repeat' (first | with_reducible assumption | with_reducible exact Below.refl _ _ | with_reducible apply Below.drew | with_reducible apply below_drewN | with_reducible apply Below.setCell | with_reducible apply Below.alloc | omega | (simp; done) | (simp; omega))) hb1⟩

set_option maxHeartbeats 400000 in
theorem anymS (l : List Hd) (b m : Int) (v : Value) (w : World) (hl : ∀ h, h ∈ l → ad h.a) (hb : ad b) (hr : Rd 3 encH hd0 w v l) :
    Calls Tryz.prog 91 #[v, vB b m] w fun e w' => e = .returned (.bool (anyH l b m)) ∧ Below w.heap.size w w' := by
  have hi : Hid (∀ W c, Below w.heap.size w W → c < W.heap.size → W.cell? ⟨c, 0, none⟩ = some (.int .u32 b) → W.cell? ⟨c, 1, none⟩ = some (.int .i64 m) → Calls Tryz.prog 133 #[v, .func (.func 134) #[] #[.pointer (some ⟨c, 0, none⟩)]] W fun e w' => e = .returned (.bool (anyH l b m)) ∧ Below W.heap.size W w') := fun W c hW hc c0 c1 =>
    cofS l (meetsH b m) _ c v W (enters_of Tryz.func134 (by kernel_rfl) rfl) (hr.below hW) fun V hV h hh => cmeetS h b m V c (hl h hh) hb ((hV.cell (p := ⟨c, 0, none⟩) hc).trans c0) ((hV.cell (p := ⟨c, 1, none⟩) hc).trans c1) (Nat.lt_of_lt_of_le hc hV.size)
  obtain ⟨bb, cap, rfl, h1, h2, h3⟩ := hr
  clear h1 h2 h3 hl
  unfold anyH at hi ⊢
  unfold vB
  generalize l.any (meetsH b m) = r at hi ⊢
  go_enter Tryz.func91, Tryz.ntmps91
  go_wp2_with (go_at_call 133; refine (hi.out _ _ (by repeat' (first | with_reducible assumption | with_reducible exact Below.refl _ _ | with_reducible apply Below.drew | with_reducible apply below_drewN | with_reducible apply Below.setCell | with_reducible apply Below.alloc | omega | (simp; done) | (simp; omega))) (by simp) (by simp [go_sem]) (by simp [go_sem])).mono ?_; rintro e w1 ⟨rfl, hb1⟩)
  go_ret
  exact ⟨rfl, bup (by repeat' (first | with_reducible assumption | with_reducible exact Below.refl _ _ | with_reducible apply Below.drew | with_reducible apply below_drewN | with_reducible apply Below.setCell | with_reducible apply Below.alloc | omega | (simp; done) | (simp; omega))) hb1⟩
end Go.Proofs.YtlikdnmikdldfaaGreatDoor
namespace Go.Proofs.YtlikdnmikdldfaaGreatDoor
open Go.ChangeShapes Go.WideShapes Go.ChangeAt Go.RowKit
set_option linter.unusedVariables false
set_option linter.unusedSimpArgs false

def cmpI (a b : Int) : Int := if a < b then -1 else if b < a then 1 else 0
theorem cmpI_lt (a b : Int) : cmpI a b < 0 ↔ a < b := by unfold cmpI; split <;> (try split) <;> omega
theorem cmpI_eq (a b : Int) : cmpI a b = 0 ↔ a = b := by unfold cmpI; split <;> (try split) <;> omega
set_option maxHeartbeats 400000 in
theorem nan_no (a : Int) (w : World) : Calls Tryz.prog 168 #[.int .u32 a] w fun e w' => e = .returned (.bool false) ∧ w' = w := by
  go_enter Tryz.func168, Tryz.ntmps168
  go_wp2
  go_ret
  exact ⟨ret_bool (by simp), rfl⟩
set_option maxHeartbeats 400000 in
theorem cmp_any (a b : Int) (w : World) : Calls Tryz.prog 124 #[.int .u32 a, .int .u32 b] w fun e w' => e = .returned (.int .i64 (cmpI a b)) ∧ w' = w := by
  have hn : Hid (∀ (a : Int) (w : World), Calls Tryz.prog 168 #[.int .u32 a] w fun e w' => e = .returned (.bool false) ∧ w' = w) := nan_no
  unfold cmpI
  by_cases h1 : a < b
  · rw [if_pos h1]
    go_enter Tryz.func124, Tryz.ntmps124
    go_wp2_with (go_at_call 168; refine (hn.out _ _).mono ?_; rintro e w1 ⟨rfl, rfl⟩)
    go_ret
    exact ⟨rfl, rfl⟩
  · rw [if_neg h1]
    by_cases h2 : b < a
    · rw [if_pos h2]
      go_enter Tryz.func124, Tryz.ntmps124
      go_wp2_with (go_at_call 168; refine (hn.out _ _).mono ?_; rintro e w1 ⟨rfl, rfl⟩)
      go_ret
      exact ⟨rfl, rfl⟩
    · rw [if_neg h2]
      go_enter Tryz.func124, Tryz.ntmps124
      go_wp2_with (go_at_call 168; refine (hn.out _ _).mono ?_; rintro e w1 ⟨rfl, rfl⟩)
      go_ret
      exact ⟨rfl, rfl⟩

set_option maxHeartbeats 400000 in
theorem ccmpP (h : Hd) (b : Int) (w : World) : Calls Tryz.prog 123 #[vH h, .int .u32 b] w fun e w' => e = .returned (.int .i64 (cmpI h.a b)) ∧ Below w.heap.size w w' := by
  have hq : Hid (∀ w, Calls Tryz.prog 141 #[vH h] w fun e w' => e = .returned (.int .u32 h.a) ∧ Below w.heap.size w w') := fun w => hbase_any h w
  have hm : Hid (∀ w, Calls Tryz.prog 124 #[.int .u32 h.a, .int .u32 b] w fun e w' => e = .returned (.int .i64 (cmpI h.a b)) ∧ w' = w) := fun w => cmp_any h.a b w
  generalize cmpI h.a b = r at hm ⊢
  obtain ⟨a, n, o⟩ := h
  unfold vH at hq ⊢
  dsimp only at *
  go_enter Tryz.func123, Tryz.ntmps123
  go_wp2_with (first | (go_at_call 141; refine (hq.out _).mono ?_; rintro e w1 ⟨rfl, hb1⟩) | (go_at_call 124; refine (hm.out _).mono ?_; rintro e w2 ⟨rfl, rfl⟩))
  go_ret
  exact ⟨rfl, bup (by repeat' (first | with_reducible assumption | with_reducible exact Below.refl _ _ | with_reducible apply Below.drew | with_reducible apply below_drewN | with_reducible apply Below.setCell | with_reducible apply Below.alloc | omega | (simp; done) | (simp; omega))) hb1⟩

set_option maxHeartbeats 400000 in
theorem ccmpS (h : Hd) (b : Int) (w : World) : Calls Tryz.prog 174 #[vH h, .int .u32 b] w fun e w' => e = .returned (.int .i64 (cmpI h.a b)) ∧ Below w.heap.size w w' := by
  have hq : Hid (∀ w, Calls Tryz.prog 141 #[vH h] w fun e w' => e = .returned (.int .u32 h.a) ∧ Below w.heap.size w w') := fun w => hbase_any h w
  have hm : Hid (∀ w, Calls Tryz.prog 124 #[.int .u32 h.a, .int .u32 b] w fun e w' => e = .returned (.int .i64 (cmpI h.a b)) ∧ w' = w) := fun w => cmp_any h.a b w
  generalize cmpI h.a b = r at hm ⊢
  obtain ⟨a, n, o⟩ := h
  unfold vH at hq ⊢
  dsimp only at *
  go_enter Tryz.func174, Tryz.ntmps174
  go_wp2_with (first | (go_at_call 141; refine (hq.out _).mono ?_; rintro e w1 ⟨rfl, hb1⟩) | (go_at_call 124; refine (hm.out _).mono ?_; rintro e w2 ⟨rfl, rfl⟩))
  go_ret
  exact ⟨rfl, bup (by repeat' (first | with_reducible assumption | with_reducible exact Below.refl _ _ | with_reducible apply Below.drew | with_reducible apply below_drewN | with_reducible apply Below.setCell | with_reducible apply Below.alloc | omega | (simp; done) | (simp; omega))) hb1⟩

set_option maxHeartbeats 400000 in
theorem ccmpL (h : Ls) (b : Int) (w : World) : Calls Tryz.prog 144 #[vL h, .int .u32 b] w fun e w' => e = .returned (.int .i64 (cmpI h.a b)) ∧ Below w.heap.size w w' := by
  have hm : Hid (∀ w, Calls Tryz.prog 124 #[.int .u32 h.a, .int .u32 b] w fun e w' => e = .returned (.int .i64 (cmpI h.a b)) ∧ w' = w) := fun w => cmp_any h.a b w
  generalize cmpI h.a b = r at hm ⊢
  obtain ⟨a, o⟩ := h
  unfold vL
  dsimp only at *
  go_enter Tryz.func144, Tryz.ntmps144
  go_wp2_with (go_at_call 124; refine (hm.out _).mono ?_; rintro e w2 ⟨rfl, rfl⟩)
  go_ret
  exact ⟨rfl, (by repeat' (first | with_reducible assumption | with_reducible exact Below.refl _ _ | with_reducible apply Below.drew | with_reducible apply below_drewN | with_reducible apply Below.setCell | with_reducible apply Below.alloc | omega | (simp; done) | (simp; omega)))⟩

theorem countP_at {α : Type} (p : α → Bool) (d : α) (l : List α) (i : Nat) (hi : i ≤ l.length) (h1 : ∀ t, t < i → p (l.getD t d) = true) (h2 : ∀ t, i ≤ t → t < l.length → p (l.getD t d) = false) : l.countP p = i := by
  induction l generalizing i with
  | nil => simp at hi; simp [hi]
  | cons x r ih =>
    cases i with
    | zero =>
      rw [List.countP_eq_zero]
      intro y hy
      obtain ⟨t, ht, rfl⟩ := List.getElem_of_mem hy
      have := h2 t (Nat.zero_le _) ht
      rw [List.getD_eq_getElem?_getD, List.getElem?_eq_getElem ht] at this
      simpa using this
    | succ i =>
      have hx : p x = true := by simpa using h1 0 (by omega)
      rw [List.countP_cons_of_pos hx, ih i (by simpa using hi) (fun t ht => by simpa using h1 (t + 1) (by omega)) (fun t h3 h4 => by simpa using h2 (t + 1) (by omega) (by simpa using h4))]
/-- what lies below an address stands ahead of what does not -/
def Up {α : Type} (f : α → Int) (d : α) (l : List α) : Prop := ∀ i j, i ≤ j → j < l.length → f (l.getD i d) ≤ f (l.getD j d)

set_option maxHeartbeats 4000000 in
theorem bsP (l : List Hd) (a : Int) (v : Value) (w : World) (hr : Rd 3 encH hd0 w v l) (hs : Up Hd.a hd0 l) (hn : l.length ≤ 1000) :
    Calls Tryz.prog 122 #[v, .int .u32 a, .func (.func 123) #[] #[]] w fun e w' =>
      e = .returned (.tuple #[.int .i64 ((l.countP fun h => decide (h.a < a) : Nat)), .bool (decide ((l.countP fun h => decide (h.a < a)) < l.length) && decide ((l.getD (l.countP fun h => decide (h.a < a)) hd0).a = a))]) ∧ Below w.heap.size w w' := by
  obtain ⟨b, cap, rfl, h1, h2, h3⟩ := hr
  have eg : ∀ args w, (callFunc 123 args).run Tryz.prog w = .ok (.enter 123 args) w := enters_of Tryz.func123 (by kernel_rfl) rfl
  have hrow : Hid (∀ W, Below w.heap.size w W → ∀ j, j < l.length → ∃ g, b = some ⟨g, 0, none⟩ ∧ W.cell? ⟨g, j * 3, none⟩ = some (.int .u32 (l.getD j hd0).a) ∧ W.cell? ⟨g, j * 3 + 1, none⟩ = some (.int .i64 (l.getD j hd0).n) ∧ W.cell? ⟨g, j * 3 + 2, none⟩ = some (.string (l.getD j hd0).o)) := fun W hW j hj => by
    obtain ⟨g, hg, hlt, hc⟩ := h3 (by intro e; rw [e] at hj; simp at hj)
    have hc := hc j hj
    exact ⟨g, hg, (hW.cell (p := ⟨g, j * 3, none⟩) hlt).trans (hc 0 _ rfl), (hW.cell (p := ⟨g, j * 3 + 1, none⟩) hlt).trans (hc 1 _ rfl), (hW.cell (p := ⟨g, j * 3 + 2, none⟩) hlt).trans (hc 2 _ rfl)⟩
  have HS : Hid (Up Hd.a hd0 l) := hs
  have HC : Hid (∀ (h : Hd) (w : World), Calls Tryz.prog 123 #[vH h, .int .u32 a] w fun e w' => e = .returned (.int .i64 (cmpI h.a a)) ∧ Below w.heap.size w w') := fun h w => ccmpP h a w
  clear h1 h2 h3 hs
  generalize hcnt : (l.countP fun h => decide (h.a < a)) = cnt
  have CN : Hid ((l.countP fun h => decide (h.a < a)) = cnt) := hcnt
  clear hcnt
  generalize hfin : (decide (cnt < l.length) && decide ((l.getD cnt hd0).a = a)) = fin
  have FIN : Hid ((decide (cnt < l.length) && decide ((l.getD cnt hd0).a = a)) = fin) := hfin
  clear hfin
  go_enter Tryz.func122, Tryz.ntmps122
  go_wp2
  go_loopg [9, 10] l.length (fun kx s9 s10 wr => ∃ lo hi : Nat, s9 = .int .i64 lo ∧ s10 = .int .i64 hi ∧ lo ≤ hi ∧ hi ≤ l.length ∧ hi - lo ≤ kx ∧ Hid (Below w.heap.size w wr) ∧
    Hid ((∀ t, t < lo → (l.getD t hd0).a < a) ∧ (∀ t, hi ≤ t → t < l.length → a ≤ (l.getD t hd0).a)))
  case atStart => exact ⟨0, l.length, rfl, rfl, Nat.zero_le _, Nat.le_refl _, by omega, Below.refl _ w, (⟨fun t ht => absurd ht (Nat.not_lt_zero _), fun t h1 h2 => by omega⟩ : (∀ t, t < 0 → (l.getD t hd0).a < a) ∧ (∀ t, l.length ≤ t → t < l.length → a ≤ (l.getD t hd0).a))⟩
  case round =>
    obtain ⟨lo, hi, rfl, rfl, hlh, hin, hg, BW, I⟩ := hrel
    by_cases hlt : lo < hi
    · obtain ⟨g, rfl, k0, k1, k2⟩ := hrow.out wr BW.out ((lo + hi) / 2) (by omega)
      generalize hy : l.getD ((lo + hi) / 2) hd0 = y at k0 k1 k2
      have Y : Hid (l.getD ((lo + hi) / 2) hd0 = y) := hy
      clear hy hrow
      have hc : Hid (Calls Tryz.prog 123 #[vH y, .int .u32 a] wr fun e w' => e = .returned (.int .i64 (cmpI y.a a)) ∧ Below wr.heap.size wr w') := HC.out y wr
      unfold vH at hc
      clear HC
      by_cases hyx : cmpI y.a a < 0
      · have H2 : Hid (cmpI y.a a < 0) := hyx
        go_wp2_with (go_at_fn 123; refine hc.out.mono ?_; rintro e w' ⟨rfl, hb'⟩)
        go_roundg (hi - ((lo + hi) / 2 + 1))
        case measure => omega
        case rel =>
          have I2 : Hid ((∀ t, t < (lo + hi) / 2 + 1 → (l.getD t hd0).a < a) ∧ (∀ t, hi ≤ t → t < l.length → a ≤ (l.getD t hd0).a)) := ⟨fun t ht => by have q := HS.out t ((lo + hi) / 2) (by omega) (by omega); rw [Y.out] at q; have := (cmpI_lt _ _).1 H2.out; omega, I.out.2⟩
          exact ⟨(lo + hi) / 2 + 1, hi, by rw [show ((lo : Int) + (hi : Int)) / 2 + 1 = (((lo + hi) / 2 + 1 : Nat) : Int) by omega], rfl, by omega, hin, Nat.le_refl _, bup BW.out hb', I2⟩
      · have H2 : Hid (a ≤ y.a) := by have := cmpI_lt y.a a; show a ≤ y.a; omega
        go_wp2_with (go_at_fn 123; refine hc.out.mono ?_; rintro e w' ⟨rfl, hb'⟩)
        go_roundg ((lo + hi) / 2 - lo)
        case measure => omega
        case rel =>
          have I2 : Hid ((∀ t, t < lo → (l.getD t hd0).a < a) ∧ (∀ t, (lo + hi) / 2 ≤ t → t < l.length → a ≤ (l.getD t hd0).a)) := ⟨I.out.1, fun t ht htn => by have q := HS.out ((lo + hi) / 2) t ht htn; rw [Y.out] at q; have := H2.out; omega⟩
          exact ⟨lo, (lo + hi) / 2, rfl, by rw [show ((lo : Int) + (hi : Int)) / 2 = (((lo + hi) / 2 : Nat) : Int) by omega], by omega, by omega, Nat.le_refl _, bup BW.out hb', I2⟩
    · obtain rfl : hi = lo := by omega
      have ecnt : cnt = hi := by
        rw [← CN.out]
        exact countP_at _ hd0 l hi hin (fun t ht => decide_eq_true (I.out.1 t ht)) (fun t h3 h4 => decide_eq_false (by have := I.out.2 t h3 h4; omega))
      subst ecnt
      by_cases hn : cnt < l.length
      · obtain ⟨g, rfl, k0, k1, k2⟩ := hrow.out wr BW.out cnt hn
        generalize hy : l.getD cnt hd0 = y at k0 k1 k2
        have Y : Hid (l.getD cnt hd0 = y) := hy
        clear hy hrow
        have hc : Hid (Calls Tryz.prog 123 #[vH y, .int .u32 a] wr fun e w' => e = .returned (.int .i64 (cmpI y.a a)) ∧ Below wr.heap.size wr w') := HC.out y wr
        unfold vH at hc
        clear HC
        by_cases hyx : cmpI y.a a = 0
        · have H2 : Hid (cmpI y.a a = 0) := hyx
          go_wp2_with (go_at_fn 123; refine hc.out.mono ?_; rintro e w' ⟨rfl, hb'⟩)
          go_ret2
          exact ⟨by rw [← FIN.out, Y.out]; simp [hn, (cmpI_eq _ _).1 H2.out], bup BW.out hb'⟩
        · have H2 : Hid (y.a ≠ a) := fun e => hyx ((cmpI_eq y.a a).2 e)
          go_wp2_with (go_at_fn 123; refine hc.out.mono ?_; rintro e w' ⟨rfl, hb'⟩)
          go_ret2
          exact ⟨by rw [← FIN.out, Y.out]; have q := H2.out; have q2 := (not_congr (cmpI_eq y.a a)).2 q; simp [hn, q, q2], bup BW.out hb'⟩
      · clear hrow HC
        go_wp2
        go_ret2
        exact ⟨by rw [← FIN.out]; simp [hn], BW.out⟩

set_option maxHeartbeats 4000000 in
theorem bsS (l : List Hd) (a : Int) (v : Value) (w : World) (hr : Rd 3 encH hd0 w v l) (hs : Up Hd.a hd0 l) (hn : l.length ≤ 1000) :
    Calls Tryz.prog 173 #[v, .int .u32 a, .func (.func 174) #[] #[]] w fun e w' =>
      e = .returned (.tuple #[.int .i64 ((l.countP fun h => decide (h.a < a) : Nat)), .bool (decide ((l.countP fun h => decide (h.a < a)) < l.length) && decide ((l.getD (l.countP fun h => decide (h.a < a)) hd0).a = a))]) ∧ Below w.heap.size w w' := by
  obtain ⟨b, cap, rfl, h1, h2, h3⟩ := hr
  have eg : ∀ args w, (callFunc 174 args).run Tryz.prog w = .ok (.enter 174 args) w := enters_of Tryz.func174 (by kernel_rfl) rfl
  have hrow : Hid (∀ W, Below w.heap.size w W → ∀ j, j < l.length → ∃ g, b = some ⟨g, 0, none⟩ ∧ W.cell? ⟨g, j * 3, none⟩ = some (.int .u32 (l.getD j hd0).a) ∧ W.cell? ⟨g, j * 3 + 1, none⟩ = some (.int .i64 (l.getD j hd0).n) ∧ W.cell? ⟨g, j * 3 + 2, none⟩ = some (.string (l.getD j hd0).o)) := fun W hW j hj => by
    obtain ⟨g, hg, hlt, hc⟩ := h3 (by intro e; rw [e] at hj; simp at hj)
    have hc := hc j hj
    exact ⟨g, hg, (hW.cell (p := ⟨g, j * 3, none⟩) hlt).trans (hc 0 _ rfl), (hW.cell (p := ⟨g, j * 3 + 1, none⟩) hlt).trans (hc 1 _ rfl), (hW.cell (p := ⟨g, j * 3 + 2, none⟩) hlt).trans (hc 2 _ rfl)⟩
  have HS : Hid (Up Hd.a hd0 l) := hs
  have HC : Hid (∀ (h : Hd) (w : World), Calls Tryz.prog 174 #[vH h, .int .u32 a] w fun e w' => e = .returned (.int .i64 (cmpI h.a a)) ∧ Below w.heap.size w w') := fun h w => ccmpS h a w
  clear h1 h2 h3 hs
  generalize hcnt : (l.countP fun h => decide (h.a < a)) = cnt
  have CN : Hid ((l.countP fun h => decide (h.a < a)) = cnt) := hcnt
  clear hcnt
  generalize hfin : (decide (cnt < l.length) && decide ((l.getD cnt hd0).a = a)) = fin
  have FIN : Hid ((decide (cnt < l.length) && decide ((l.getD cnt hd0).a = a)) = fin) := hfin
  clear hfin
  go_enter Tryz.func173, Tryz.ntmps173
  go_wp2
  go_loopg [9, 10] l.length (fun kx s9 s10 wr => ∃ lo hi : Nat, s9 = .int .i64 lo ∧ s10 = .int .i64 hi ∧ lo ≤ hi ∧ hi ≤ l.length ∧ hi - lo ≤ kx ∧ Hid (Below w.heap.size w wr) ∧
    Hid ((∀ t, t < lo → (l.getD t hd0).a < a) ∧ (∀ t, hi ≤ t → t < l.length → a ≤ (l.getD t hd0).a)))
  case atStart => exact ⟨0, l.length, rfl, rfl, Nat.zero_le _, Nat.le_refl _, by omega, Below.refl _ w, (⟨fun t ht => absurd ht (Nat.not_lt_zero _), fun t h1 h2 => by omega⟩ : (∀ t, t < 0 → (l.getD t hd0).a < a) ∧ (∀ t, l.length ≤ t → t < l.length → a ≤ (l.getD t hd0).a))⟩
  case round =>
    obtain ⟨lo, hi, rfl, rfl, hlh, hin, hg, BW, I⟩ := hrel
    by_cases hlt : lo < hi
    · obtain ⟨g, rfl, k0, k1, k2⟩ := hrow.out wr BW.out ((lo + hi) / 2) (by omega)
      generalize hy : l.getD ((lo + hi) / 2) hd0 = y at k0 k1 k2
      have Y : Hid (l.getD ((lo + hi) / 2) hd0 = y) := hy
      clear hy hrow
      have hc : Hid (Calls Tryz.prog 174 #[vH y, .int .u32 a] wr fun e w' => e = .returned (.int .i64 (cmpI y.a a)) ∧ Below wr.heap.size wr w') := HC.out y wr
      unfold vH at hc
      clear HC
      by_cases hyx : cmpI y.a a < 0
      · have H2 : Hid (cmpI y.a a < 0) := hyx
        go_wp2_with (go_at_fn 174; refine hc.out.mono ?_; rintro e w' ⟨rfl, hb'⟩)
        go_roundg (hi - ((lo + hi) / 2 + 1))
        case measure => omega
        case rel =>
          have I2 : Hid ((∀ t, t < (lo + hi) / 2 + 1 → (l.getD t hd0).a < a) ∧ (∀ t, hi ≤ t → t < l.length → a ≤ (l.getD t hd0).a)) := ⟨fun t ht => by have q := HS.out t ((lo + hi) / 2) (by omega) (by omega); rw [Y.out] at q; have := (cmpI_lt _ _).1 H2.out; omega, I.out.2⟩
          exact ⟨(lo + hi) / 2 + 1, hi, by rw [show ((lo : Int) + (hi : Int)) / 2 + 1 = (((lo + hi) / 2 + 1 : Nat) : Int) by omega], rfl, by omega, hin, Nat.le_refl _, bup BW.out hb', I2⟩
      · have H2 : Hid (a ≤ y.a) := by have := cmpI_lt y.a a; show a ≤ y.a; omega
        go_wp2_with (go_at_fn 174; refine hc.out.mono ?_; rintro e w' ⟨rfl, hb'⟩)
        go_roundg ((lo + hi) / 2 - lo)
        case measure => omega
        case rel =>
          have I2 : Hid ((∀ t, t < lo → (l.getD t hd0).a < a) ∧ (∀ t, (lo + hi) / 2 ≤ t → t < l.length → a ≤ (l.getD t hd0).a)) := ⟨I.out.1, fun t ht htn => by have q := HS.out ((lo + hi) / 2) t ht htn; rw [Y.out] at q; have := H2.out; omega⟩
          exact ⟨lo, (lo + hi) / 2, rfl, by rw [show ((lo : Int) + (hi : Int)) / 2 = (((lo + hi) / 2 : Nat) : Int) by omega], by omega, by omega, Nat.le_refl _, bup BW.out hb', I2⟩
    · obtain rfl : hi = lo := by omega
      have ecnt : cnt = hi := by
        rw [← CN.out]
        exact countP_at _ hd0 l hi hin (fun t ht => decide_eq_true (I.out.1 t ht)) (fun t h3 h4 => decide_eq_false (by have := I.out.2 t h3 h4; omega))
      subst ecnt
      by_cases hn : cnt < l.length
      · obtain ⟨g, rfl, k0, k1, k2⟩ := hrow.out wr BW.out cnt hn
        generalize hy : l.getD cnt hd0 = y at k0 k1 k2
        have Y : Hid (l.getD cnt hd0 = y) := hy
        clear hy hrow
        have hc : Hid (Calls Tryz.prog 174 #[vH y, .int .u32 a] wr fun e w' => e = .returned (.int .i64 (cmpI y.a a)) ∧ Below wr.heap.size wr w') := HC.out y wr
        unfold vH at hc
        clear HC
        by_cases hyx : cmpI y.a a = 0
        · have H2 : Hid (cmpI y.a a = 0) := hyx
          go_wp2_with (go_at_fn 174; refine hc.out.mono ?_; rintro e w' ⟨rfl, hb'⟩)
          go_ret2
          exact ⟨by rw [← FIN.out, Y.out]; simp [hn, (cmpI_eq _ _).1 H2.out], bup BW.out hb'⟩
        · have H2 : Hid (y.a ≠ a) := fun e => hyx ((cmpI_eq y.a a).2 e)
          go_wp2_with (go_at_fn 174; refine hc.out.mono ?_; rintro e w' ⟨rfl, hb'⟩)
          go_ret2
          exact ⟨by rw [← FIN.out, Y.out]; have q := H2.out; have q2 := (not_congr (cmpI_eq y.a a)).2 q; simp [hn, q, q2], bup BW.out hb'⟩
      · clear hrow HC
        go_wp2
        go_ret2
        exact ⟨by rw [← FIN.out]; simp [hn], BW.out⟩

set_option maxHeartbeats 4000000 in
theorem bsL (l : List Ls) (a : Int) (v : Value) (w : World) (hr : Rd 2 encL ls0 w v l) (hs : Up Ls.a ls0 l) (hn : l.length ≤ 1000) :
    Calls Tryz.prog 143 #[v, .int .u32 a, .func (.func 144) #[] #[]] w fun e w' =>
      e = .returned (.tuple #[.int .i64 ((l.countP fun h => decide (h.a < a) : Nat)), .bool (decide ((l.countP fun h => decide (h.a < a)) < l.length) && decide ((l.getD (l.countP fun h => decide (h.a < a)) ls0).a = a))]) ∧ Below w.heap.size w w' := by
  obtain ⟨b, cap, rfl, h1, h2, h3⟩ := hr
  have eg : ∀ args w, (callFunc 144 args).run Tryz.prog w = .ok (.enter 144 args) w := enters_of Tryz.func144 (by kernel_rfl) rfl
  have hrow : Hid (∀ W, Below w.heap.size w W → ∀ j, j < l.length → ∃ g, b = some ⟨g, 0, none⟩ ∧ W.cell? ⟨g, j * 2, none⟩ = some (.int .u32 (l.getD j ls0).a) ∧ W.cell? ⟨g, j * 2 + 1, none⟩ = some (.string (l.getD j ls0).o)) := fun W hW j hj => by
    obtain ⟨g, hg, hlt, hc⟩ := h3 (by intro e; rw [e] at hj; simp at hj)
    have hc := hc j hj
    exact ⟨g, hg, (hW.cell (p := ⟨g, j * 2, none⟩) hlt).trans (hc 0 _ rfl), (hW.cell (p := ⟨g, j * 2 + 1, none⟩) hlt).trans (hc 1 _ rfl)⟩
  have HS : Hid (Up Ls.a ls0 l) := hs
  have HC : Hid (∀ (h : Ls) (w : World), Calls Tryz.prog 144 #[vL h, .int .u32 a] w fun e w' => e = .returned (.int .i64 (cmpI h.a a)) ∧ Below w.heap.size w w') := fun h w => ccmpL h a w
  clear h1 h2 h3 hs
  generalize hcnt : (l.countP fun h => decide (h.a < a)) = cnt
  have CN : Hid ((l.countP fun h => decide (h.a < a)) = cnt) := hcnt
  clear hcnt
  generalize hfin : (decide (cnt < l.length) && decide ((l.getD cnt ls0).a = a)) = fin
  have FIN : Hid ((decide (cnt < l.length) && decide ((l.getD cnt ls0).a = a)) = fin) := hfin
  clear hfin
  go_enter Tryz.func143, Tryz.ntmps143
  go_wp2
  go_loopg [9, 10] l.length (fun kx s9 s10 wr => ∃ lo hi : Nat, s9 = .int .i64 lo ∧ s10 = .int .i64 hi ∧ lo ≤ hi ∧ hi ≤ l.length ∧ hi - lo ≤ kx ∧ Hid (Below w.heap.size w wr) ∧
    Hid ((∀ t, t < lo → (l.getD t ls0).a < a) ∧ (∀ t, hi ≤ t → t < l.length → a ≤ (l.getD t ls0).a)))
  case atStart => exact ⟨0, l.length, rfl, rfl, Nat.zero_le _, Nat.le_refl _, by omega, Below.refl _ w, (⟨fun t ht => absurd ht (Nat.not_lt_zero _), fun t h1 h2 => by omega⟩ : (∀ t, t < 0 → (l.getD t ls0).a < a) ∧ (∀ t, l.length ≤ t → t < l.length → a ≤ (l.getD t ls0).a))⟩
  case round =>
    obtain ⟨lo, hi, rfl, rfl, hlh, hin, hg, BW, I⟩ := hrel
    by_cases hlt : lo < hi
    · obtain ⟨g, rfl, k0, k1⟩ := hrow.out wr BW.out ((lo + hi) / 2) (by omega)
      generalize hy : l.getD ((lo + hi) / 2) ls0 = y at k0 k1
      have Y : Hid (l.getD ((lo + hi) / 2) ls0 = y) := hy
      clear hy hrow
      have hc : Hid (Calls Tryz.prog 144 #[vL y, .int .u32 a] wr fun e w' => e = .returned (.int .i64 (cmpI y.a a)) ∧ Below wr.heap.size wr w') := HC.out y wr
      unfold vL at hc
      clear HC
      by_cases hyx : cmpI y.a a < 0
      · have H2 : Hid (cmpI y.a a < 0) := hyx
        go_wp2_with (go_at_fn 144; refine hc.out.mono ?_; rintro e w' ⟨rfl, hb'⟩)
        go_roundg (hi - ((lo + hi) / 2 + 1))
        case measure => omega
        case rel =>
          have I2 : Hid ((∀ t, t < (lo + hi) / 2 + 1 → (l.getD t ls0).a < a) ∧ (∀ t, hi ≤ t → t < l.length → a ≤ (l.getD t ls0).a)) := ⟨fun t ht => by have q := HS.out t ((lo + hi) / 2) (by omega) (by omega); rw [Y.out] at q; have := (cmpI_lt _ _).1 H2.out; omega, I.out.2⟩
          exact ⟨(lo + hi) / 2 + 1, hi, by rw [show ((lo : Int) + (hi : Int)) / 2 + 1 = (((lo + hi) / 2 + 1 : Nat) : Int) by omega], rfl, by omega, hin, Nat.le_refl _, bup BW.out hb', I2⟩
      · have H2 : Hid (a ≤ y.a) := by have := cmpI_lt y.a a; show a ≤ y.a; omega
        go_wp2_with (go_at_fn 144; refine hc.out.mono ?_; rintro e w' ⟨rfl, hb'⟩)
        go_roundg ((lo + hi) / 2 - lo)
        case measure => omega
        case rel =>
          have I2 : Hid ((∀ t, t < lo → (l.getD t ls0).a < a) ∧ (∀ t, (lo + hi) / 2 ≤ t → t < l.length → a ≤ (l.getD t ls0).a)) := ⟨I.out.1, fun t ht htn => by have q := HS.out ((lo + hi) / 2) t ht htn; rw [Y.out] at q; have := H2.out; omega⟩
          exact ⟨lo, (lo + hi) / 2, rfl, by rw [show ((lo : Int) + (hi : Int)) / 2 = (((lo + hi) / 2 : Nat) : Int) by omega], by omega, by omega, Nat.le_refl _, bup BW.out hb', I2⟩
    · obtain rfl : hi = lo := by omega
      have ecnt : cnt = hi := by
        rw [← CN.out]
        exact countP_at _ ls0 l hi hin (fun t ht => decide_eq_true (I.out.1 t ht)) (fun t h3 h4 => decide_eq_false (by have := I.out.2 t h3 h4; omega))
      subst ecnt
      by_cases hn : cnt < l.length
      · obtain ⟨g, rfl, k0, k1⟩ := hrow.out wr BW.out cnt hn
        generalize hy : l.getD cnt ls0 = y at k0 k1
        have Y : Hid (l.getD cnt ls0 = y) := hy
        clear hy hrow
        have hc : Hid (Calls Tryz.prog 144 #[vL y, .int .u32 a] wr fun e w' => e = .returned (.int .i64 (cmpI y.a a)) ∧ Below wr.heap.size wr w') := HC.out y wr
        unfold vL at hc
        clear HC
        by_cases hyx : cmpI y.a a = 0
        · have H2 : Hid (cmpI y.a a = 0) := hyx
          go_wp2_with (go_at_fn 144; refine hc.out.mono ?_; rintro e w' ⟨rfl, hb'⟩)
          go_ret2
          exact ⟨by rw [← FIN.out, Y.out]; simp [hn, (cmpI_eq _ _).1 H2.out], bup BW.out hb'⟩
        · have H2 : Hid (y.a ≠ a) := fun e => hyx ((cmpI_eq y.a a).2 e)
          go_wp2_with (go_at_fn 144; refine hc.out.mono ?_; rintro e w' ⟨rfl, hb'⟩)
          go_ret2
          exact ⟨by rw [← FIN.out, Y.out]; have q := H2.out; have q2 := (not_congr (cmpI_eq y.a a)).2 q; simp [hn, q, q2], bup BW.out hb'⟩
      · clear hrow HC
        go_wp2
        go_ret2
        exact ⟨by rw [← FIN.out]; simp [hn], BW.out⟩
end Go.Proofs.YtlikdnmikdldfaaGreatDoor
namespace Go.Proofs.YtlikdnmikdldfaaGreatDoor
open Go.ChangeShapes Go.WideShapes Go.ChangeAt Go.RowKit
set_option linter.unusedVariables false
set_option linter.unusedSimpArgs false

/-- a block that is known whole -/
def Blk (w : World) (g : Nat) (cs : Array Value) (t : TypeId) : Prop := w.heap[g]? = some (.cells cs t (0, 0))
theorem Blk.lt {w : World} {g : Nat} {cs : Array Value} {t : TypeId} (h : Blk w g cs t) : g < w.heap.size := (Array.getElem?_eq_some_iff.1 h).1
theorem Blk.cell {w : World} {g : Nat} {cs : Array Value} {t : TypeId} (h : Blk w g cs t) (i : Nat) : w.cell? ⟨g, i, none⟩ = cs[i]? := cell_of_row w g i cs t (0, 0) h
theorem Blk.frozen {w : World} {g : Nat} {cs : Array Value} {t : TypeId} (h : Blk w g cs t) (i : Nat) : w.frozen? ⟨g, i, none⟩ = false := by
  unfold Blk at h; simp [World.frozen?, h]
theorem Blk.new (w : World) (cs : Array Value) (t : TypeId) : Blk (w.alloc (.cells cs t)) w.heap.size cs t := heap_alloc_new w _
theorem Blk.set {w : World} {g : Nat} {cs : Array Value} {t : TypeId} (h : Blk w g cs t) (i : Nat) (v : Value) : Blk (w.setCell ⟨g, i, none⟩ v) g (cs.setIfInBounds i v) t := by
  unfold Blk at h ⊢
  simp [World.setCell, Array.getElem?_modify, h]
theorem Blk.below {w w' : World} {g : Nat} {cs : Array Value} {t : TypeId} (h : Blk w g cs t) (hb : Below w.heap.size w w') : Blk w' g cs t := (hb.block g h.lt).trans h

/-- a row with a part of it written -/
def putL (l : List Value) (o : Nat) (cs : List Value) : List Value := l.take o ++ cs ++ l.drop (o + cs.length)
theorem putL_len (l : List Value) (o : Nat) (cs : List Value) (h : o + cs.length ≤ l.length) : (putL l o cs).length = l.length := by
  unfold putL; simp; omega
theorem putL_cons (l : List Value) (o : Nat) (v : Value) (r : List Value) (h : o + (r.length + 1) ≤ l.length) : putL (l.set o v) (o + 1) r = putL l o (v :: r) := by
  unfold putL
  rw [List.drop_set_of_lt (by omega), List.take_set, List.length_cons, show o + 1 + r.length = o + (r.length + 1) by omega]
  congr 1
  rw [List.take_succ_eq_append_getElem (show o < l.length by omega), List.set_append_right _ _ (by simp; omega)]
  simp [Nat.min_eq_left (show o ≤ l.length by omega)]
theorem Blk.sets {g : Nat} {t : TypeId} (cs : List Value) : ∀ {w : World} {cur : Array Value} (o : Nat), Blk w g cur t → o + cs.length ≤ cur.size → Blk (w.setCells g o cs) g (putL cur.toList o cs).toArray t := by
  induction cs with
  | nil => intro w cur o h _; simpa [World.setCells, putL] using h
  | cons v r ih =>
    intro w cur o h hl
    rw [List.length_cons] at hl
    have := ih (o + 1) (h.set o v) (by simp; omega)
    rw [Array.toList_setIfInBounds, putL_cons _ _ _ _ (by simpa using hl)] at this
    exact this
theorem sets_other (b : Nat) (cs : List Value) : ∀ (o : Nat) (w : World), (w.setCells b o cs).os = w.os ∧ (w.setCells b o cs).tape = w.tape ∧ (w.setCells b o cs).output = w.output ∧ (w.setCells b o cs).heap.size = w.heap.size ∧ ∀ k, k ≠ b → (w.setCells b o cs).heap[k]? = w.heap[k]? := by
  induction cs with
  | nil => intro o w; exact ⟨rfl, rfl, rfl, rfl, fun _ _ => rfl⟩
  | cons v r ih =>
    intro o w
    obtain ⟨h1, h2, h3, h4, h5⟩ := ih (o + 1) (w.setCell ⟨b, o, none⟩ v)
    refine ⟨h1, h2, h3, by rw [World.setCells, h4]; simp [World.setCell], fun k hk => ?_⟩
    rw [World.setCells, h5 k hk]
    exact Below.heap_setCell _ _ _ _ hk
theorem grown_sets {w w' : World} {row : Option Nat} (h : w.grownBy w' row) (b o : Nat) (cs : List Value) (hb : row = some b ∨ w.heap.size ≤ b) : w.grownBy (w'.setCells b o cs) row := by
  obtain ⟨h1, h2, h3, h4, h5⟩ := sets_other b cs o w'
  refine ⟨h1.trans h.os, h2.trans h.tape, h3.trans h.output, by rw [h4]; exact h.size, fun k hk hr => ?_⟩
  have : k ≠ b := by rintro rfl; rcases hb with e | e; exact hr e.symm; omega
  exact (h5 k this).trans (h.block k hk hr)
theorem grown_refl (w : World) (row : Option Nat) : w.grownBy w row := ⟨rfl, rfl, rfl, Nat.le_refl _, fun _ _ _ => rfl⟩
theorem grown_drew {w w' : World} {row : Option Nat} (h : w.grownBy w' row) : w.grownBy w'.drew row := ⟨h.os, h.tape, h.output, h.size, h.block⟩
theorem insRow (A B R vs : List Value) (k : Nat) (hk : vs.length = k) (hR : k ≤ R.length) : putL (putL (A ++ B ++ R) (A.length + k) B) A.length vs = A ++ vs ++ B ++ R.drop k := by
  have e1 : putL (A ++ B ++ R) (A.length + k) B = A ++ ((B ++ R).take k ++ (B ++ R.drop k)) := by
    unfold putL
    rw [List.append_assoc A B R, List.take_append, List.drop_append]
    simp only [Nat.add_sub_cancel_left, List.take_of_length_le (show A.length ≤ A.length + k by omega), List.drop_eq_nil_of_le (show A.length ≤ A.length + k + B.length by omega), List.nil_append, show A.length + k + B.length - A.length = B.length + k by omega, List.drop_append, List.drop_eq_nil_of_le (show B.length ≤ B.length + k by omega), List.append_assoc]
  rw [e1]
  have hl : ((B ++ R).take k).length = k := by simp; omega
  unfold putL
  rw [List.take_left, hk, List.drop_append]
  simp only [Nat.add_sub_cancel_left, List.drop_eq_nil_of_le (show A.length ≤ A.length + k by omega), List.nil_append]
  rw [List.drop_left' hl]; simp
theorem growRow (A B Z vs : List Value) (k : Nat) (hk : vs.length = k) (hZ : k + B.length ≤ Z.length) : putL (putL (A ++ Z) A.length vs) (A.length + k) B = A ++ vs ++ B ++ Z.drop (k + B.length) := by
  have e1 : putL (A ++ Z) A.length vs = (A ++ vs) ++ Z.drop k := by
    unfold putL
    rw [List.take_left, hk, List.drop_append]
    simp only [Nat.add_sub_cancel_left, List.drop_eq_nil_of_le (show A.length ≤ A.length + k by omega), List.nil_append]
  rw [e1]
  have hl : (A ++ vs).length = A.length + k := by simp [hk]
  unfold putL
  rw [List.take_left' hl, List.drop_append, hl]
  simp only [Nat.add_sub_cancel_left, List.drop_eq_nil_of_le (show (A ++ vs).length ≤ A.length + k + B.length by rw [hl]; omega), List.nil_append, List.drop_drop]
theorem delRow (A M B R Z : List Value) (k : Nat) (hM : M.length = k) (hZ : Z.length = k) : putL (putL (A ++ M ++ B ++ R) A.length B) (A.length + B.length) Z = A ++ B ++ Z ++ R := by
  have e1 : putL (A ++ M ++ B ++ R) A.length B = (A ++ B) ++ ((M ++ B).drop B.length ++ R) := by
    unfold putL
    rw [List.append_assoc A M B, List.append_assoc A (M ++ B) R, List.take_left, List.drop_append]
    simp only [Nat.add_sub_cancel_left, List.drop_eq_nil_of_le (show A.length ≤ A.length + B.length by omega), List.nil_append]
    rw [List.drop_append_of_le_length (by simp)]
  rw [e1]
  have hl : (A ++ B).length = A.length + B.length := by simp
  have hq : ((M ++ B).drop B.length).length = k := by simp; omega
  unfold putL
  rw [List.take_left' hl, List.drop_append, hl, hZ]
  simp only [Nat.add_sub_cancel_left, List.drop_eq_nil_of_le (show (A ++ B).length ≤ A.length + B.length + k by rw [hl]; omega), List.nil_append]
  rw [List.drop_left' hq]

section
variable {P : Program}
theorem run_copy_k (w : World) (dT sT ty elem : TypeId) (k : Nat) (b o dLen dCap : Nat) (a : Addr) (sLen sCap : Nat) (cs : List Value)
    (hu : P.underlying dT = some (.slice elem)) (hs : (P.info? elem).map (·.size) = some k) (m : Nat) (hm : Nat.min sLen dLen = m) (hn : cs.length = m * k)
    (hsrc : ∀ j v, cs[j]? = some v → w.cell? (a.add j) = some v) (hc : ∀ j, j < cs.length → (w.cell? ⟨b, o + j, none⟩).isSome = true) (hf : ∀ j, j < cs.length → w.frozen? ⟨b, o + j, none⟩ = false) (h1 : ∀ v ∈ cs, v.oneCell' = true) :
    (Builtin.copy_ #[dT, sT] ty #[.slice (some ⟨b, o, none⟩) dLen dCap, .slice (some a) sLen sCap]).run P w = .ok (goInt m) (w.setCells b o cs) := by
  have hl := run_loadCells_list (P := P) w a cs hsrc
  have hst := run_storeCells_cells (P := P) b o cs 0 w (by simpa using hc) (by simpa using hf) h1
  cases hq : P.info? elem with
  | none => simp [hq] at hs
  | some i =>
    have hi : i.size = k := by simpa [hq] using hs
    subst hm
    simp [Builtin.copy_, run_underlying hu, Builtin.lenOf, Builtin.firstCells, sizeOf, typeInfo, hq, hi, ← hn, hl, hst]
theorem run_clear_one (w : World) (t e ty : TypeId) (z : Value) (ht : P.underlying t = some (.slice e)) (hv : ∀ w, (zeroValue e).run P w = .ok z w) (b o c : Nat)
    (hc : ∀ j, j < z.cells.size → (w.cell? ⟨b, o + j, none⟩).isSome = true) (hf : ∀ j, j < z.cells.size → w.frozen? ⟨b, o + j, none⟩ = false) (h1 : ∀ u ∈ z.cells.toList, u.oneCell' = true) :
    (Builtin.clear_ #[t] ty #[.slice (some ⟨b, o, none⟩) 1 c]).run P w = .ok (.tuple #[]) (w.setCells b o z.cells.toList) := by
  have hzc : (Builtin.zeroCells z.cells 1).toList = z.cells.toList := by
    simp only [Builtin.zeroCells]
    apply List.ext_getElem
    · simp
    · intro i h1 h2
      simp at h1 h2
      simp [Nat.mod_eq_of_lt h2, getElem!_pos z.cells i h2]
  have hst := run_storeCells_cells (P := P) b o z.cells.toList 0 w (by simpa using hc) (by simpa using hf) h1
  simp only [Nat.add_zero] at hst
  simp [Builtin.clear_, run_underlying ht, hv, hzc, hst]
end
end Go.Proofs.YtlikdnmikdldfaaGreatDoor
namespace Go.Proofs.YtlikdnmikdldfaaGreatDoor
open Go.ChangeShapes Go.WideShapes Go.ChangeAt Go.RowKit
set_option linter.unusedVariables false
set_option linter.unusedSimpArgs false

theorem or_le {a : Prop} {g n : Nat} (h : a ∨ g = n) : a ∨ n ≤ g := by rcases h with h | h; exact .inl h; exact .inr (by omega)

theorem infoP : (Tryz.prog.info? 142).map (fun i => (i.zero, i.size, i.bytes)) = some (some (.agg #[.int .u32 0, .int .i64 0, .string ByteArray.empty]), 3, 32) := by kernel_rfl
theorem sizeP : (Tryz.prog.info? 142).map (·.size) = some 3 := by kernel_rfl
set_option maxRecDepth 100000 in
set_option maxHeartbeats 1000000 in
theorem insEndP (cs vs : List Value) (n : Nat) (v : Value) (vb : Nat) (w : World) (hown : w.ownsRow 0 142 3 v n cs) (hn : n ≤ 1000) (hvl : vs.length = 3) (hv : Blk w vb vs.toArray 142) (h1v : ∀ u ∈ vs, u.oneCell' = true) :
    Calls Tryz.prog 125 #[v, .int .i64 n, .slice (some ⟨vb, 0, none⟩) 1 1] w fun e w' => ∃ g cap, e = .returned (.slice (some ⟨g, 0, none⟩) (n + 1) cap) ∧ w'.ownsRow 0 142 3 (.slice (some ⟨g, 0, none⟩) (n + 1) cap) (n + 1) (cs ++ vs) ∧ w.grownBy w' v.ownBlock ∧ (v.ownBlock = some g ∨ w.heap.size ≤ g) ∧ g < w'.heap.size := by
  have hsl : ∃ b cap, v = .slice b n cap ∧ n ≤ cap ∧ cap ≤ maxLen := by
    rcases hown.2 with ⟨rfl, e⟩ | ⟨g, cap, cur, rfl, _, _, h1, h2, _⟩
    · exact ⟨none, 0, by rw [e], by omega, by unfold maxLen; omega⟩
    · exact ⟨_, cap, rfl, h1, h2⟩
  have HO : Hid (w.ownsRow 0 142 3 v n cs) := hown
  have hcell : Hid (∀ j u, vs[j]? = some u → w.cell? (Addr.add ⟨vb, 0, none⟩ j) = some u) := fun j u hj => by
    rw [Addr.add_lit, hv.cell]; simpa using hj
  have H1 : Hid (∀ u ∈ vs, u.oneCell' = true) := h1v
  obtain ⟨b, cap, rfl, hc1, hc2⟩ := hsl
  unfold maxLen at hc2
  obtain ⟨i0, hi, hz0, hz1, hz2⟩ := info_parts infoP
  clear hown hv h1v
  generalize hob : (Value.slice b n cap).ownBlock = ob
  have OB : Hid ((Value.slice b n cap).ownBlock = ob) := hob
  clear hob
  go_enter Tryz.func125, Tryz.ntmps125
  go_wp2_with (at_builtin; refine wpList_append_lies _ rfl _ _ 83 rfl 0 142 i0 _ 3 32 Tryz.underlying83 hi hz0 hz1 hz2 rfl (by decide) (.slice b n cap) n cs rfl HO.out ⟨vb, 0, none⟩ 1 1 vs rfl (by omega) hcell.out H1.out (by omega) (by unfold maxLen; omega) (by omega) (by omega) _ rfl ?_; intro g3 cap3 w3 hown3 hgrow3 hat3 hlt3; rw [OB.out] at hgrow3 hat3)
  all_goals (
    go_ret
    exact ⟨g3, cap3, rfl, hown3, hgrow3, or_le hat3, hlt3⟩)

set_option maxRecDepth 100000 in
set_option maxHeartbeats 4000000 in
theorem insInP (cs vs : List Value) (n i : Nat) (g cap : Nat) (cur : Array Value) (vb : Nat) (w : World) (hi : i < n) (hn : n ≤ 1000) (hg : Blk w g cur 142) (hcur : cur.size = cap * 3) (hcs : cur.toList.take (n * 3) = cs) (hroom : n + 1 ≤ cap) (hcm : cap ≤ 9223372036854775807)
    (hvl : vs.length = 3) (hv : Blk w vb vs.toArray 142) (hvb : vb ≠ g) (h1v : ∀ u ∈ vs, u.oneCell' = true) (h1c : ∀ u ∈ cs, u.oneCell' = true) :
    Calls Tryz.prog 125 #[.slice (some ⟨g, 0, none⟩) n cap, .int .i64 i, .slice (some ⟨vb, 0, none⟩) 1 1] w fun e w' => e = .returned (.slice (some ⟨g, 0, none⟩) (n + 1) cap) ∧ w' = (w.drew.setCells g ((i + 1) * 3) (cs.drop (i * 3))).setCells g (i * 3) vs := by
  have hcl : cs.length = n * 3 := by rw [← hcs]; simp [hcur]; omega
  have hz2 : ¬ ((i : Int) = (n : Int)) := by omega
  have hov : ∀ lb cb, (callFunc 169 #[.slice (some ⟨vb, 0, none⟩) 1 1, .slice (some ⟨g, (i + 1) * 3, none⟩) lb cb]).run Tryz.prog w = .ok (.value (.bool false)) w := fun lb cb => by
    rw [run_callFunc_extern Tryz.func169 (by kernel_rfl) (by kernel_rfl) (by kernel_rfl) (e := Extern.SlicesOverlaps.overlaps #[83, 83] #[4]) (by kernel_rfl),
      Lib.run_overlaps_apart w 83 4 142 Tryz.underlying83 3 Tryz.sizeOf142 ⟨vb, 0, none⟩ ⟨g, (i + 1) * 3, none⟩ 1 1 lb cb hvb 142 142 vs.length cur.size (by unfold Blk at hv; simp [World.shape?, hv]) (by unfold Blk at hg; simp [World.shape?, hg]) (by omega) (hv.frozen 0) (hv.frozen _)]
    rfl
  have hdl : (cs.drop (i * 3)).length = (n - i) * 3 := by rw [List.length_drop, hcl]; omega
  have hcell : ∀ j u, cs[j]? = some u → w.cell? ⟨g, j, none⟩ = some u := fun j u hj => by
    rw [hg.cell, ← Array.getElem?_toList, ← hj, ← hcs, List.getElem?_take]
    rw [← hcs, List.getElem?_take] at hj
    split at hj
    · rename_i h; rw [if_pos h]
    · cases hj
  have hsp : ∀ j, j < (n + 1) * 3 → (w.cell? ⟨g, j, none⟩).isSome = true := fun j hj => by rw [hg.cell, Array.getElem?_eq_getElem (by omega)]; rfl
  have hcp1 : ∀ ty dc sc, (Builtin.copy_ #[83, 83] ty #[.slice (some ⟨g, (i + 1) * 3, none⟩) (n - i) dc, .slice (some ⟨g, i * 3, none⟩) (n + 1 - i) sc]).run Tryz.prog w.drew = .ok (goInt (n - i : Nat)) (w.drew.setCells g ((i + 1) * 3) (cs.drop (i * 3))) := fun ty dc sc =>
    run_copy_k w.drew _ _ ty 142 3 g ((i + 1) * 3) (n - i) dc ⟨g, i * 3, none⟩ (n + 1 - i) sc (cs.drop (i * 3)) Tryz.underlying83 sizeP (n - i) (by simp only [Nat.min_def]; split <;> omega) hdl
      (fun j u hj => by rw [Addr.add_lit]; exact hcell _ u (by rwa [List.getElem?_drop] at hj))
      (fun j hj => hsp _ (by omega)) (fun j hj => hg.frozen _) (fun u hu => h1c u (List.mem_of_mem_drop hu))
  obtain ⟨W1, hW1⟩ : ∃ W1, W1 = w.drew.setCells g ((i + 1) * 3) (cs.drop (i * 3)) := ⟨_, rfl⟩
  have hg1 : Blk W1 g (putL cur.toList ((i + 1) * 3) (cs.drop (i * 3))).toArray 142 := by rw [hW1]; exact Blk.sets (w := w.drew) _ _ hg (by rw [hdl]; omega)
  have hs1 : (putL cur.toList ((i + 1) * 3) (cs.drop (i * 3))).length = cap * 3 := by rw [putL_len _ _ _ (by rw [hdl]; simp; omega)]; simpa using hcur
  have hv1 : Blk W1 vb vs.toArray 142 := by rw [hW1]; exact ((sets_other g _ _ w.drew).2.2.2.2 vb hvb).trans hv
  have hcp2 : ∀ (W : World), W.heap = W1.heap → ∀ ty dc, (Builtin.copy_ #[83, 83] ty #[.slice (some ⟨g, i * 3, none⟩) (n + 1 - i) dc, .slice (some ⟨vb, 0, none⟩) 1 1]).run Tryz.prog W = .ok (goInt (1 : Nat)) (W.setCells g (i * 3) vs) := fun W hW ty dc => by
    have hgW : Blk W g (putL cur.toList ((i + 1) * 3) (cs.drop (i * 3))).toArray 142 := by unfold Blk; rw [hW]; exact hg1
    have hvW : Blk W vb vs.toArray 142 := by unfold Blk; rw [hW]; exact hv1
    exact run_copy_k W _ _ ty 142 3 g (i * 3) (n + 1 - i) dc ⟨vb, 0, none⟩ 1 1 vs Tryz.underlying83 sizeP 1 (by simp only [Nat.min_def]; split <;> omega) (by omega)
      (fun j u hj => by rw [Addr.add_lit, hvW.cell]; simpa using hj)
      (fun j hj => by rw [hgW.cell, Array.getElem?_eq_getElem (by simp [hs1]; omega)]; rfl) (fun j hj => hgW.frozen _) h1v
  rw [← hW1] at hcp1 ⊢
  have hcpB := hcp2 W1 rfl
  have HW : Hid (W1 = w.drew.setCells g ((i + 1) * 3) (cs.drop (i * 3))) := hW1
  clear hW1
  have hw1 : IntKind.i64.wrap ((i : Int) + 1) = (i : Int) + 1 := by rw [IntKind.wrap_i64]; omega
  have hb1 : (0 : Int) ≤ (i : Int) + 1 := by omega
  have htn : ((i : Int) + 1).toNat = i + 1 := by omega
  have hb2 : ¬ (cap = i + 1) := by omega
  have hb3 : (i : Int) ≤ (n : Int) + 1 := by omega
  have hb4 : ¬ (cap = i) := by omega
  have hin : i ≤ n := by omega
  clear hcp2 hg hg1 hv hv1 hcell hsp hdl hcl hcs hcur hs1 h1v h1c
  go_enter Tryz.func125, Tryz.ntmps125
  go_wp2_with (simp only [hov])
  go_region
  go_wp2
  go_ret
  exact ⟨rfl, rfl⟩

set_option maxRecDepth 100000 in
set_option maxHeartbeats 4000000 in
theorem insGrowP (cs vs : List Value) (n i : Nat) (g cap : Nat) (cur : Array Value) (vb : Nat) (w : World) (hi : i < n) (hn : n ≤ 1000) (hg : Blk w g cur 142) (hcur : cur.size = cap * 3) (hcs : cur.toList.take (n * 3) = cs) (hnc : n ≤ cap) (hroom : cap < n + 1)
    (hvl : vs.length = 3) (hv : Blk w vb vs.toArray 142) (h1v : ∀ u ∈ vs, u.oneCell' = true) (h1c : ∀ u ∈ cs, u.oneCell' = true) :
    Calls Tryz.prog 125 #[.slice (some ⟨g, 0, none⟩) n cap, .int .i64 i, .slice (some ⟨vb, 0, none⟩) 1 1] w fun e w' => ∃ c', e = .returned (.slice (some ⟨w.heap.size, 0, none⟩) (n + 1) c') ∧ w'.ownsRow 0 142 3 (.slice (some ⟨w.heap.size, 0, none⟩) (n + 1) c') (n + 1) (cs.take (i * 3) ++ vs ++ cs.drop (i * 3)) ∧ w.grownBy w' none ∧ w.heap.size < w'.heap.size := by
  have hcl : cs.length = n * 3 := by rw [← hcs]; simp [hcur]; omega
  obtain ⟨i0, hi0, hz0, hzs, hzb⟩ := info_parts infoP
  have hcell : ∀ j u, cs[j]? = some u → w.cell? ⟨g, j, none⟩ = some u := fun j u hj => by
    rw [hg.cell, ← Array.getElem?_toList, ← hj, ← hcs, List.getElem?_take]
    rw [← hcs, List.getElem?_take] at hj
    split at hj
    · rename_i h; rw [if_pos h]
    · cases hj
  have hdl : (cs.drop (i * 3)).length = (n - i) * 3 := by rw [List.length_drop, hcl]; omega
  have htl : (cs.take (i * 3)).length = i * 3 := by rw [List.length_take, hcl]; omega
  have hold : (Builtin.firstCells i0.size i (.slice (some ⟨g, 0, none⟩) i cap)).run Tryz.prog w.drew = .ok (cs.take (i * 3)).toArray w.drew := by
    rw [hzs]
    exact run_firstCells_some w.drew 3 i ⟨g, 0, none⟩ i cap (cs.take (i * 3)) htl (fun j v hj => by
      rw [Addr.add_lit, Nat.zero_add]
      rw [List.getElem?_take] at hj
      split at hj
      · exact hcell j v hj
      · cases hj)
  obtain ⟨G, hG⟩ : ∃ G, G = grownCap w (n + 1) cap 142 := ⟨_, rfl⟩
  have hGn : n + 1 ≤ G := by rw [hG]; exact grownCap_ge w _ _ _
  have hGm : G ≤ maxLen := by rw [hG]; exact grownCap_le_maxLen w (n + 1) cap _ (by unfold maxLen; omega)
  obtain ⟨Z, hZ⟩ : ∃ Z : Array Value, Z = Builtin.zeroCells (.agg #[.int .u32 0, .int .i64 0, .string ByteArray.empty] : Value).cells (n + 1 - i) ++ Builtin.zeroCells (.agg #[.int .u32 0, .int .i64 0, .string ByteArray.empty] : Value).cells (G - (n + 1)) := ⟨_, rfl⟩
  have hZs : Z.size = (G - i) * 3 := by rw [hZ]; simp [Builtin.zeroCells, Value.cells]; omega
  obtain ⟨W1, hW1⟩ : ∃ W1, W1 = w.drew.alloc (.cells ((cs.take (i * 3)).toArray ++ Z) 142) := ⟨_, rfl⟩
  have hrz : ∀ ty, (Builtin.append_ #[83, 3] ty #[.slice (some ⟨g, 0, none⟩) i cap, .int .i64 ((n : Int) + 1 - (i : Int))]).run Tryz.prog w = .ok (.slice (some ⟨w.heap.size, 0, none⟩) (n + 1) G) W1 := fun ty => by
    have h := Lib.run_append_grow_zeros w 83 3 ty 142 i0 _ .i64 .i64 Tryz.underlying83 Tryz.underlying3 hi0 hz0 (some ⟨g, 0, none⟩) i cap (cs.take (i * 3)) hold (n + 1 - i) (by omega) (by omega) (by omega) (by omega) (by rw [hzb]; omega) (by rw [hzb, show i + (n + 1 - i) = n + 1 by omega]; exact growslice_fits hroom (by omega))
    rw [show i + (n + 1 - i) = n + 1 by omega, ← hG] at h
    rw [show (n : Int) + 1 - (i : Int) = ((n + 1 - i : Nat) : Int) by omega, h, hW1, hZ, Array.append_assoc]
  have b1 : Blk W1 w.heap.size ((cs.take (i * 3)).toArray ++ Z) 142 := by rw [hW1]; exact Blk.new w.drew _ _
  have z1 : ((cs.take (i * 3)).toArray ++ Z).size = G * 3 := by rw [Array.size_append, hZs]; simp only [List.size_toArray, htl]; omega
  have hb1 : Below w.heap.size w W1 := by rw [hW1]; exact ((Below.refl _ w).drew).alloc (Nat.le_refl _) _
  have v1 : Blk W1 vb vs.toArray 142 := hv.below hb1
  have g1 : Blk W1 g cur 142 := hg.below hb1
  have hgw := hg.lt
  have hvw := hv.lt
  obtain ⟨W2, hW2⟩ : ∃ W2, W2 = W1.setCells w.heap.size (i * 3) vs := ⟨_, rfl⟩
  have hcp1 : ∀ ty dc, (Builtin.copy_ #[83, 83] ty #[.slice (some ⟨w.heap.size, i * 3, none⟩) (n + 1 - i) dc, .slice (some ⟨vb, 0, none⟩) 1 1]).run Tryz.prog W1 = .ok (goInt (1 : Nat)) W2 := fun ty dc => by
    rw [hW2]
    exact run_copy_k W1 _ _ ty 142 3 w.heap.size (i * 3) (n + 1 - i) dc ⟨vb, 0, none⟩ 1 1 vs Tryz.underlying83 sizeP 1 (by simp only [Nat.min_def]; split <;> omega) (by omega)
      (fun j u hj => by rw [Addr.add_lit, v1.cell]; simpa using hj)
      (fun j hj => by rw [b1.cell, Array.getElem?_eq_getElem (by rw [z1]; omega)]; rfl) (fun j hj => b1.frozen _) h1v
  have b2 := Blk.sets vs (i * 3) b1 (by rw [z1]; omega)
  rw [← hW2] at b2
  have z2 : (putL ((cs.take (i * 3)).toArray ++ Z).toList (i * 3) vs).length = G * 3 := by
    have hx : ((cs.take (i * 3)).toArray ++ Z).toList.length = G * 3 := by rw [Array.length_toList, z1]
    rw [putL_len _ _ _ (by rw [hx]; omega), hx]
  have g2 : Blk W2 g cur 142 := by rw [hW2]; exact ((sets_other w.heap.size _ _ W1).2.2.2.2 g (by omega)).trans g1
  obtain ⟨W3, hW3⟩ : ∃ W3, W3 = W2.drew.setCells w.heap.size ((i + 1) * 3) (cs.drop (i * 3)) := ⟨_, rfl⟩
  have hcp2 : ∀ ty dc sc, (Builtin.copy_ #[83, 83] ty #[.slice (some ⟨w.heap.size, (i + 1) * 3, none⟩) (n - i) dc, .slice (some ⟨g, i * 3, none⟩) (n - i) sc]).run Tryz.prog W2.drew = .ok (goInt (n - i : Nat)) W3 := fun ty dc sc => by
    rw [hW3]
    exact run_copy_k W2.drew _ _ ty 142 3 w.heap.size ((i + 1) * 3) (n - i) dc ⟨g, i * 3, none⟩ (n - i) sc (cs.drop (i * 3)) Tryz.underlying83 sizeP (n - i) (by simp) hdl
      (fun j u hj => by
        rw [Addr.add_lit]
        have h1 := hcell (i * 3 + j) u (by rwa [List.getElem?_drop] at hj)
        rw [hg.cell] at h1
        exact (Blk.cell (w := W2.drew) g2 _).trans h1)
      (fun j hj => by rw [Blk.cell (w := W2.drew) b2, Array.getElem?_eq_getElem (by rw [List.size_toArray, z2]; omega)]; rfl) (fun j hj => Blk.frozen (w := W2.drew) b2 _) (fun u hu => h1c u (List.mem_of_mem_drop hu))
  have b3 := Blk.sets (w := W2.drew) (cs.drop (i * 3)) ((i + 1) * 3) b2 (by rw [List.size_toArray, z2]; omega)
  rw [← hW3] at b3
  have hrow : putL (putL ((cs.take (i * 3)).toArray ++ Z).toList (i * 3) vs) ((i + 1) * 3) (cs.drop (i * 3)) = cs.take (i * 3) ++ vs ++ cs.drop (i * 3) ++ Z.toList.drop (3 + (cs.drop (i * 3)).length) := by
    have := growRow (cs.take (i * 3)) (cs.drop (i * 3)) Z.toList vs 3 hvl (by rw [hdl, Array.length_toList, hZs]; omega)
    rw [htl] at this
    rw [Array.toList_append, show (i + 1) * 3 = i * 3 + 3 by omega]
    exact this
  have hend : Hid (W3.ownsRow 0 142 3 (.slice (some ⟨w.heap.size, 0, none⟩) (n + 1) G) (n + 1) (cs.take (i * 3) ++ vs ++ cs.drop (i * 3)) ∧ w.grownBy W3 none ∧ w.heap.size < W3.heap.size) := by
    refine ⟨⟨by simp [htl, hvl, hdl]; omega, .inr ⟨_, G, _, rfl, Nat.zero_le _, b3, hGn, hGm, ?_, ?_⟩⟩, ?_, b3.lt⟩
    · rw [List.size_toArray, hrow]; simp [htl, hvl, hdl, hZs]; omega
    · rw [List.toList_toArray, hrow]; exact List.take_left' (by simp [htl, hvl, hdl]; omega)
    · rw [hW3]
      refine grown_sets (grown_drew ?_) _ _ _ (.inr (Nat.le_refl _))
      rw [hW2]
      refine grown_sets ?_ _ _ _ (.inr (Nat.le_refl _))
      rw [hW1]
      exact ⟨rfl, rfl, rfl, by simp, fun k hk _ => Below.heap_alloc w.drew _ k hk⟩
  have hG63 : G ≤ 9223372036854775807 := by unfold maxLen at hGm; omega
  have hz2 : ¬ ((i : Int) = (n : Int)) := by omega
  have hz3 : (cap : Int) < (n : Int) + 1 := by omega
  have hw1 : IntKind.i64.wrap ((i : Int) + 1) = (i : Int) + 1 := by rw [IntKind.wrap_i64]; omega
  have hp1 : (0 : Int) ≤ (i : Int) + 1 := by omega
  have htn : ((i : Int) + 1).toNat = i + 1 := by omega
  have hb2 : ¬ (G = i + 1) := by omega
  have hb4 : ¬ (G = i) := by omega
  have hb5 : ¬ (cap = i) := by omega
  have hin : i ≤ n := by omega
  clear hG hGn hGm hZ hZs hW1 hW2 hW3 hold b1 b2 b3 z1 z2 g1 g2 v1 hrow hb1 hg hv hcell hdl htl hcl hcs hcur h1v h1c hzs hzb hz0 hi0
  go_enter Tryz.func125, Tryz.ntmps125
  go_wp2_with (at_builtin; refine Lib.wpList_append_run _ rfl _ _ _ _ rfl _ _ rfl rfl _ _ (hrz _) ?_)
  go_region
  go_wp2
  go_ret
  exact ⟨G, rfl, hend.out⟩

set_option maxRecDepth 100000 in
set_option maxHeartbeats 4000000 in
theorem delP (cs : List Value) (m i : Nat) (g cap : Nat) (cur : Array Value) (w : World) (hi : i < m + 1) (hn : m ≤ 1000) (hg : Blk w g cur 142) (hcur : cur.size = cap * 3) (hcs : cur.toList.take ((m + 1) * 3) = cs) (hnc : m + 1 ≤ cap) (hcm : cap ≤ maxLen) (h1c : ∀ u ∈ cs, u.oneCell' = true) :
    Calls Tryz.prog 85 #[.slice (some ⟨g, 0, none⟩) (m + 1) cap, .int .i64 i, .int .i64 ((i : Int) + 1)] w fun e w' => e = .returned (.slice (some ⟨g, 0, none⟩) m cap) ∧ w'.ownsRow 0 142 3 (.slice (some ⟨g, 0, none⟩) m cap) m (cs.take (i * 3) ++ cs.drop ((i + 1) * 3)) ∧ w.grownBy w' (some g) := by
  have hcl : cs.length = (m + 1) * 3 := by rw [← hcs]; simp [hcur]; omega
  obtain ⟨i0, hi0, hz0, hzs, hzb⟩ := info_parts infoP
  have hcell : ∀ j u, cs[j]? = some u → w.cell? ⟨g, j, none⟩ = some u := fun j u hj => by
    rw [hg.cell, ← Array.getElem?_toList, ← hj, ← hcs, List.getElem?_take]
    rw [← hcs, List.getElem?_take] at hj
    split at hj
    · rename_i h; rw [if_pos h]
    · cases hj
  have hdl : (cs.drop ((i + 1) * 3)).length = (m - i) * 3 := by rw [List.length_drop, hcl]; omega
  have htl : (cs.take (i * 3)).length = i * 3 := by rw [List.length_take, hcl]; omega
  obtain ⟨W1, hW1⟩ : ∃ W1, W1 = w.drew.setCells g (i * 3) (cs.drop ((i + 1) * 3)) := ⟨_, rfl⟩
  obtain ⟨A, hA, hsrc⟩ : ∃ A : Addr, (if cap = i + 1 then some (⟨g, 0, none⟩ : Addr) else some ⟨g, (i + 1) * 3, none⟩) = some A ∧ Hid (∀ t u, (cs.drop ((i + 1) * 3))[t]? = some u → w.drew.cell? (A.add t) = some u) := by
    by_cases h : cap = i + 1
    · refine ⟨_, if_pos h, fun t u hu => ?_⟩
      have h0 : (cs.drop ((i + 1) * 3)).length = 0 := by rw [hdl]; omega
      rw [List.length_eq_zero_iff.1 h0] at hu
      simp at hu
    · refine ⟨_, if_neg h, fun t u hu => ?_⟩
      rw [Addr.add_lit]
      exact hcell _ u (by rwa [List.getElem?_drop] at hu)
  have s1 : Hid ((cs.drop ((i + 1) * 3)).length = (m - i) * 3) := hdl
  have s2 : Hid (∀ u ∈ cs.drop ((i + 1) * 3), u.oneCell' = true) := fun u hu => h1c u (List.mem_of_mem_drop hu)
  have s3 : Hid (∀ t, t < (cs.drop ((i + 1) * 3)).length → (w.drew.cell? ⟨g, 0 + i * 3 + t, none⟩).isSome = true ∧ w.drew.frozen? ⟨g, 0 + i * 3 + t, none⟩ = false) := fun t ht => by
    rw [hdl] at ht
    exact ⟨by rw [Blk.cell (w := w.drew) hg, Array.getElem?_eq_getElem (by omega)]; rfl, Blk.frozen (w := w.drew) hg _⟩
  have HW : Hid (W1 = w.drew.setCells g (0 + i * 3) (cs.drop ((i + 1) * 3))) := by rw [Nat.zero_add]; exact hW1
  have b1 : Blk W1 g (putL cur.toList (i * 3) (cs.drop ((i + 1) * 3))).toArray 142 := by rw [hW1]; exact Blk.sets (w := w.drew) _ _ hg (by rw [hdl]; omega)
  have z1 : (putL cur.toList (i * 3) (cs.drop ((i + 1) * 3))).length = cap * 3 := by rw [putL_len _ _ _ (by rw [hdl]; simp; omega)]; simpa using hcur
  obtain ⟨W2, hW2⟩ : ∃ W2, W2 = W1.setCells g (m * 3) (.agg #[.int .u32 0, .int .i64 0, .string ByteArray.empty] : Value).cells.toList := ⟨_, rfl⟩
  have hcr : ∀ ty c, (Builtin.clear_ #[83] ty #[.slice (some ⟨g, m * 3, none⟩) 1 c]).run Tryz.prog W1 = .ok (.tuple #[]) W2 := fun ty c => by
    rw [hW2]
    exact run_clear_one W1 83 142 ty (.agg #[.int .u32 0, .int .i64 0, .string ByteArray.empty]) Tryz.underlying83 (fun w => by rw [Tryz.zeroValue142]; rfl) g (m * 3) c
      (fun j hj => by simp [Value.cells] at hj; rw [b1.cell, Array.getElem?_eq_getElem (by rw [List.size_toArray, z1]; omega)]; rfl) (fun j hj => b1.frozen _) (by intro u hu; simp [Value.cells] at hu; rcases hu with rfl | rfl | rfl <;> rfl)
  have b2 := Blk.sets (.agg #[.int .u32 0, .int .i64 0, .string ByteArray.empty] : Value).cells.toList (m * 3) b1 (by rw [List.size_toArray, z1]; simp [Value.cells]; omega)
  rw [← hW2] at b2
  have hrow : putL (putL cur.toList (i * 3) (cs.drop ((i + 1) * 3))) (m * 3) (.agg #[.int .u32 0, .int .i64 0, .string ByteArray.empty] : Value).cells.toList = cs.take (i * 3) ++ cs.drop ((i + 1) * 3) ++ (.agg #[.int .u32 0, .int .i64 0, .string ByteArray.empty] : Value).cells.toList ++ cur.toList.drop ((m + 1) * 3) := by
    have hM : ((cs.drop (i * 3)).take 3).length = 3 := by simp [hcl]; omega
    have := delRow (cs.take (i * 3)) ((cs.drop (i * 3)).take 3) (cs.drop ((i + 1) * 3)) (cur.toList.drop ((m + 1) * 3)) (.agg #[.int .u32 0, .int .i64 0, .string ByteArray.empty] : Value).cells.toList 3 hM (by simp [Value.cells])
    have e : cs.take (i * 3) ++ (cs.drop (i * 3)).take 3 ++ cs.drop ((i + 1) * 3) ++ cur.toList.drop ((m + 1) * 3) = cur.toList := by
      rw [show cs.drop ((i + 1) * 3) = (cs.drop (i * 3)).drop 3 by rw [List.drop_drop]; congr 1; omega, List.append_assoc (cs.take (i * 3)), List.take_append_drop, List.take_append_drop, ← hcs, List.take_append_drop]
    rw [e, htl, hdl, show i * 3 + (m - i) * 3 = m * 3 by omega] at this
    exact this
  have hend : Hid (W2.ownsRow 0 142 3 (.slice (some ⟨g, 0, none⟩) m cap) m (cs.take (i * 3) ++ cs.drop ((i + 1) * 3)) ∧ w.grownBy W2 (some g)) := by
    refine ⟨⟨by simp [htl, hdl]; omega, .inr ⟨g, cap, _, rfl, Nat.zero_le _, b2, by omega, hcm, ?_, ?_⟩⟩, ?_⟩
    · rw [List.size_toArray, putL_len _ _ _ (by rw [z1]; simp [Value.cells]; omega), z1]
    · rw [List.toList_toArray, hrow, List.append_assoc]; exact List.take_left' (by simp [htl, hdl]; omega)
    · rw [hW2]
      refine grown_sets ?_ _ _ _ (.inl rfl)
      rw [hW1]
      exact grown_sets (grown_drew (grown_refl _ _)) _ _ _ (.inl rfl)
  have hw1 : IntKind.i64.wrap ((i : Int) + 1) = (i : Int) + 1 := by rw [IntKind.wrap_i64]; omega
  have hp1 : (0 : Int) ≤ (i : Int) + 1 := by omega
  have htn : ((i : Int) + 1).toNat = i + 1 := by omega
  have hb1 : ¬ (cap = m) := by omega
  have hb3 : (i : Int) ≤ (i : Int) + 1 := by omega
  have hb4 : (i : Int) + 1 ≤ (m : Int) + 1 := by omega
  have hb6 : i + 1 ≤ m + 1 := by omega
  have hb7 : m ≤ cap := by omega
  have hb8 : i ≤ cap := by omega
  have hc63 : cap ≤ 9223372036854775807 := by unfold maxLen at hcm; omega
  have hmi : i + (m - i) = m := by omega
  clear hW1 hW2 b1 b2 z1 hrow hg hcell hdl htl hcl hcs hcur h1c hzb hz0
  go_enter Tryz.func85, Tryz.ntmps85
  go_wp2
  go_region_law (refine step_append_room rfl (.tmp 22) (.tmp 25) 83 rfl 142 i0 3 Tryz.underlying83 hi0 hzs g 0 i cap (by simp [Act.eval, Act.put]) A (m - i) (cap - (i + 1)) (cs.drop ((i + 1) * 3)) (by simp [Act.eval, Act.put]) s1.out hsrc.out s2.out (by omega) s3.out ?_; rw [← HW.out, hmi])
  go_wp2
  go_ret
  exact ⟨rfl, hend.out⟩

theorem insrP (cs vs : List Value) (n i : Nat) (v : Value) (vb : Nat) (w : World) (hown : w.ownsRow 0 142 3 v n cs) (hi : i ≤ n) (hn : n ≤ 1000) (hvl : vs.length = 3) (hv : Blk w vb vs.toArray 142) (hvb : v.ownBlock ≠ some vb) (h1v : ∀ u ∈ vs, u.oneCell' = true) (h1c : ∀ u ∈ cs, u.oneCell' = true) :
    Calls Tryz.prog 125 #[v, .int .i64 i, .slice (some ⟨vb, 0, none⟩) 1 1] w fun e w' => ∃ g cap, e = .returned (.slice (some ⟨g, 0, none⟩) (n + 1) cap) ∧ w'.ownsRow 0 142 3 (.slice (some ⟨g, 0, none⟩) (n + 1) cap) (n + 1) (cs.take (i * 3) ++ vs ++ cs.drop (i * 3)) ∧ w.grownBy w' v.ownBlock ∧ (v.ownBlock = some g ∨ w.heap.size ≤ g) ∧ g < w'.heap.size := by
  by_cases he : i = n
  · subst he
    have e : cs.take (i * 3) ++ vs ++ cs.drop (i * 3) = cs ++ vs := by rw [List.take_of_length_le (by rw [hown.1]; omega), List.drop_eq_nil_of_le (by rw [hown.1]; omega), List.append_nil]
    rw [e]
    exact insEndP cs vs i v vb w hown hn hvl hv h1v
  · have hlt : i < n := by omega
    have h0 := hown.1
    rcases hown.2 with ⟨rfl, e⟩ | ⟨g, cap, cur, rfl, _, hg, h1, h2, h3, h4⟩
    · omega
    · by_cases hroom : n + 1 ≤ cap
      · have hne : vb ≠ g := fun e => hvb (by rw [e]; rfl)
        refine (insInP cs vs n i g cap cur vb w hlt hn hg h3 h4 hroom (by unfold maxLen at h2; omega) hvl hv hne h1v h1c).mono ?_
        rintro e w' ⟨rfl, rfl⟩
        have hdl : (cs.drop (i * 3)).length = (n - i) * 3 := by rw [List.length_drop, h0]; omega
        have htl : (cs.take (i * 3)).length = i * 3 := by rw [List.length_take, h0]; omega
        have hx : cur.toList.length = cap * 3 := by rw [Array.length_toList, h3]
        have b1 := Blk.sets (w := w.drew) (cs.drop (i * 3)) ((i + 1) * 3) hg (by rw [h3, hdl]; omega)
        have z1 : (putL cur.toList ((i + 1) * 3) (cs.drop (i * 3))).length = cap * 3 := by rw [putL_len _ _ _ (by rw [hdl, hx]; omega), hx]
        have b2 := Blk.sets vs (i * 3) b1 (by rw [List.size_toArray, z1]; omega)
        have hrow : putL (putL cur.toList ((i + 1) * 3) (cs.drop (i * 3))) (i * 3) vs = cs.take (i * 3) ++ vs ++ cs.drop (i * 3) ++ (cur.toList.drop (n * 3)).drop 3 := by
          have := insRow (cs.take (i * 3)) (cs.drop (i * 3)) (cur.toList.drop (n * 3)) vs 3 hvl (by rw [List.length_drop, hx]; omega)
          rw [List.take_append_drop, ← h4, List.take_append_drop, h4, htl, show i * 3 + 3 = (i + 1) * 3 by omega] at this
          exact this
        refine ⟨g, cap, rfl, ⟨by simp [htl, hvl, hdl]; omega, .inr ⟨g, cap, _, rfl, Nat.zero_le _, b2, hroom, h2, ?_, ?_⟩⟩, grown_sets (grown_sets (grown_drew (grown_refl _ _)) _ _ _ (.inl rfl)) _ _ _ (.inl rfl), .inl rfl, b2.lt⟩
        · rw [List.size_toArray, putL_len _ _ _ (by rw [z1]; omega), z1]
        · rw [List.toList_toArray, hrow]; exact List.take_left' (by simp [htl, hvl, hdl]; omega)
      · refine (insGrowP cs vs n i g cap cur vb w hlt hn hg h3 h4 h1 (by omega) hvl hv h1v h1c).mono ?_
        rintro e w' ⟨c', rfl, o1, o2, o3⟩
        exact ⟨_, c', rfl, o1, ⟨o2.os, o2.tape, o2.output, o2.size, fun k hk _ => o2.block k hk (by simp)⟩, .inr (Nat.le_refl _), o3⟩
end Go.Proofs.YtlikdnmikdldfaaGreatDoor
namespace Go.Proofs.YtlikdnmikdldfaaGreatDoor
open Go.ChangeShapes Go.WideShapes Go.ChangeAt Go.RowKit
set_option linter.unusedVariables false
set_option linter.unusedSimpArgs false


theorem infoL : (Tryz.prog.info? 179).map (fun i => (i.zero, i.size, i.bytes)) = some (some (.agg #[.int .u32 0, .string ByteArray.empty]), 2, 24) := by kernel_rfl
theorem sizeL : (Tryz.prog.info? 179).map (·.size) = some 2 := by kernel_rfl
set_option maxRecDepth 100000 in
set_option maxHeartbeats 1000000 in
theorem insEndL (cs vs : List Value) (n : Nat) (v : Value) (vb : Nat) (w : World) (hown : w.ownsRow 0 179 2 v n cs) (hn : n ≤ 1000) (hvl : vs.length = 2) (hv : Blk w vb vs.toArray 179) (h1v : ∀ u ∈ vs, u.oneCell' = true) :
    Calls Tryz.prog 137 #[v, .int .i64 n, .slice (some ⟨vb, 0, none⟩) 1 1] w fun e w' => ∃ g cap, e = .returned (.slice (some ⟨g, 0, none⟩) (n + 1) cap) ∧ w'.ownsRow 0 179 2 (.slice (some ⟨g, 0, none⟩) (n + 1) cap) (n + 1) (cs ++ vs) ∧ w.grownBy w' v.ownBlock ∧ (v.ownBlock = some g ∨ w.heap.size ≤ g) ∧ g < w'.heap.size := by
  have hsl : ∃ b cap, v = .slice b n cap ∧ n ≤ cap ∧ cap ≤ maxLen := by
    rcases hown.2 with ⟨rfl, e⟩ | ⟨g, cap, cur, rfl, _, _, h1, h2, _⟩
    · exact ⟨none, 0, by rw [e], by omega, by unfold maxLen; omega⟩
    · exact ⟨_, cap, rfl, h1, h2⟩
  have HO : Hid (w.ownsRow 0 179 2 v n cs) := hown
  have hcell : Hid (∀ j u, vs[j]? = some u → w.cell? (Addr.add ⟨vb, 0, none⟩ j) = some u) := fun j u hj => by
    rw [Addr.add_lit, hv.cell]; simpa using hj
  have H1 : Hid (∀ u ∈ vs, u.oneCell' = true) := h1v
  obtain ⟨b, cap, rfl, hc1, hc2⟩ := hsl
  unfold maxLen at hc2
  obtain ⟨i0, hi, hz0, hz1, hz2⟩ := info_parts infoL
  clear hown hv h1v
  generalize hob : (Value.slice b n cap).ownBlock = ob
  have OB : Hid ((Value.slice b n cap).ownBlock = ob) := hob
  clear hob
  go_enter Tryz.func137, Tryz.ntmps137
  go_wp2_with (at_builtin; refine wpList_append_lies _ rfl _ _ 85 rfl 0 179 i0 _ 2 24 Tryz.underlying85 hi hz0 hz1 hz2 rfl (by decide) (.slice b n cap) n cs rfl HO.out ⟨vb, 0, none⟩ 1 1 vs rfl (by omega) hcell.out H1.out (by omega) (by unfold maxLen; omega) (by omega) (by omega) _ rfl ?_; intro g3 cap3 w3 hown3 hgrow3 hat3 hlt3; rw [OB.out] at hgrow3 hat3)
  all_goals (
    go_ret
    exact ⟨g3, cap3, rfl, hown3, hgrow3, or_le hat3, hlt3⟩)

set_option maxRecDepth 100000 in
set_option maxHeartbeats 4000000 in
theorem insInL (cs vs : List Value) (n i : Nat) (g cap : Nat) (cur : Array Value) (vb : Nat) (w : World) (hi : i < n) (hn : n ≤ 1000) (hg : Blk w g cur 179) (hcur : cur.size = cap * 2) (hcs : cur.toList.take (n * 2) = cs) (hroom : n + 1 ≤ cap) (hcm : cap ≤ 9223372036854775807)
    (hvl : vs.length = 2) (hv : Blk w vb vs.toArray 179) (hvb : vb ≠ g) (h1v : ∀ u ∈ vs, u.oneCell' = true) (h1c : ∀ u ∈ cs, u.oneCell' = true) :
    Calls Tryz.prog 137 #[.slice (some ⟨g, 0, none⟩) n cap, .int .i64 i, .slice (some ⟨vb, 0, none⟩) 1 1] w fun e w' => e = .returned (.slice (some ⟨g, 0, none⟩) (n + 1) cap) ∧ w' = (w.drew.setCells g ((i + 1) * 2) (cs.drop (i * 2))).setCells g (i * 2) vs := by
  have hcl : cs.length = n * 2 := by rw [← hcs]; simp [hcur]; omega
  have hz2 : ¬ ((i : Int) = (n : Int)) := by omega
  have hov : ∀ lb cb, (callFunc 176 #[.slice (some ⟨vb, 0, none⟩) 1 1, .slice (some ⟨g, (i + 1) * 2, none⟩) lb cb]).run Tryz.prog w = .ok (.value (.bool false)) w := fun lb cb => by
    rw [run_callFunc_extern Tryz.func176 (by kernel_rfl) (by kernel_rfl) (by kernel_rfl) (e := Extern.SlicesOverlaps.overlaps #[85, 85] #[4]) (by kernel_rfl),
      Lib.run_overlaps_apart w 85 4 179 Tryz.underlying85 2 Tryz.sizeOf179 ⟨vb, 0, none⟩ ⟨g, (i + 1) * 2, none⟩ 1 1 lb cb hvb 179 179 vs.length cur.size (by unfold Blk at hv; simp [World.shape?, hv]) (by unfold Blk at hg; simp [World.shape?, hg]) (by omega) (hv.frozen 0) (hv.frozen _)]
    rfl
  have hdl : (cs.drop (i * 2)).length = (n - i) * 2 := by rw [List.length_drop, hcl]; omega
  have hcell : ∀ j u, cs[j]? = some u → w.cell? ⟨g, j, none⟩ = some u := fun j u hj => by
    rw [hg.cell, ← Array.getElem?_toList, ← hj, ← hcs, List.getElem?_take]
    rw [← hcs, List.getElem?_take] at hj
    split at hj
    · rename_i h; rw [if_pos h]
    · cases hj
  have hsp : ∀ j, j < (n + 1) * 2 → (w.cell? ⟨g, j, none⟩).isSome = true := fun j hj => by rw [hg.cell, Array.getElem?_eq_getElem (by omega)]; rfl
  have hcp1 : ∀ ty dc sc, (Builtin.copy_ #[85, 85] ty #[.slice (some ⟨g, (i + 1) * 2, none⟩) (n - i) dc, .slice (some ⟨g, i * 2, none⟩) (n + 1 - i) sc]).run Tryz.prog w.drew = .ok (goInt (n - i : Nat)) (w.drew.setCells g ((i + 1) * 2) (cs.drop (i * 2))) := fun ty dc sc =>
    run_copy_k w.drew _ _ ty 179 2 g ((i + 1) * 2) (n - i) dc ⟨g, i * 2, none⟩ (n + 1 - i) sc (cs.drop (i * 2)) Tryz.underlying85 sizeL (n - i) (by simp only [Nat.min_def]; split <;> omega) hdl
      (fun j u hj => by rw [Addr.add_lit]; exact hcell _ u (by rwa [List.getElem?_drop] at hj))
      (fun j hj => hsp _ (by omega)) (fun j hj => hg.frozen _) (fun u hu => h1c u (List.mem_of_mem_drop hu))
  obtain ⟨W1, hW1⟩ : ∃ W1, W1 = w.drew.setCells g ((i + 1) * 2) (cs.drop (i * 2)) := ⟨_, rfl⟩
  have hg1 : Blk W1 g (putL cur.toList ((i + 1) * 2) (cs.drop (i * 2))).toArray 179 := by rw [hW1]; exact Blk.sets (w := w.drew) _ _ hg (by rw [hdl]; omega)
  have hs1 : (putL cur.toList ((i + 1) * 2) (cs.drop (i * 2))).length = cap * 2 := by rw [putL_len _ _ _ (by rw [hdl]; simp; omega)]; simpa using hcur
  have hv1 : Blk W1 vb vs.toArray 179 := by rw [hW1]; exact ((sets_other g _ _ w.drew).2.2.2.2 vb hvb).trans hv
  have hcp2 : ∀ (W : World), W.heap = W1.heap → ∀ ty dc, (Builtin.copy_ #[85, 85] ty #[.slice (some ⟨g, i * 2, none⟩) (n + 1 - i) dc, .slice (some ⟨vb, 0, none⟩) 1 1]).run Tryz.prog W = .ok (goInt (1 : Nat)) (W.setCells g (i * 2) vs) := fun W hW ty dc => by
    have hgW : Blk W g (putL cur.toList ((i + 1) * 2) (cs.drop (i * 2))).toArray 179 := by unfold Blk; rw [hW]; exact hg1
    have hvW : Blk W vb vs.toArray 179 := by unfold Blk; rw [hW]; exact hv1
    exact run_copy_k W _ _ ty 179 2 g (i * 2) (n + 1 - i) dc ⟨vb, 0, none⟩ 1 1 vs Tryz.underlying85 sizeL 1 (by simp only [Nat.min_def]; split <;> omega) (by omega)
      (fun j u hj => by rw [Addr.add_lit, hvW.cell]; simpa using hj)
      (fun j hj => by rw [hgW.cell, Array.getElem?_eq_getElem (by simp [hs1]; omega)]; rfl) (fun j hj => hgW.frozen _) h1v
  rw [← hW1] at hcp1 ⊢
  have hcpB := hcp2 W1 rfl
  have HW : Hid (W1 = w.drew.setCells g ((i + 1) * 2) (cs.drop (i * 2))) := hW1
  clear hW1
  have hw1 : IntKind.i64.wrap ((i : Int) + 1) = (i : Int) + 1 := by rw [IntKind.wrap_i64]; omega
  have hb1 : (0 : Int) ≤ (i : Int) + 1 := by omega
  have htn : ((i : Int) + 1).toNat = i + 1 := by omega
  have hb2 : ¬ (cap = i + 1) := by omega
  have hb3 : (i : Int) ≤ (n : Int) + 1 := by omega
  have hb4 : ¬ (cap = i) := by omega
  have hin : i ≤ n := by omega
  clear hcp2 hg hg1 hv hv1 hcell hsp hdl hcl hcs hcur hs1 h1v h1c
  go_enter Tryz.func137, Tryz.ntmps137
  go_wp2_with (simp only [hov])
  go_region
  go_wp2
  go_ret
  exact ⟨rfl, rfl⟩

set_option maxRecDepth 100000 in
set_option maxHeartbeats 4000000 in
theorem insGrowL (cs vs : List Value) (n i : Nat) (g cap : Nat) (cur : Array Value) (vb : Nat) (w : World) (hi : i < n) (hn : n ≤ 1000) (hg : Blk w g cur 179) (hcur : cur.size = cap * 2) (hcs : cur.toList.take (n * 2) = cs) (hnc : n ≤ cap) (hroom : cap < n + 1)
    (hvl : vs.length = 2) (hv : Blk w vb vs.toArray 179) (h1v : ∀ u ∈ vs, u.oneCell' = true) (h1c : ∀ u ∈ cs, u.oneCell' = true) :
    Calls Tryz.prog 137 #[.slice (some ⟨g, 0, none⟩) n cap, .int .i64 i, .slice (some ⟨vb, 0, none⟩) 1 1] w fun e w' => ∃ c', e = .returned (.slice (some ⟨w.heap.size, 0, none⟩) (n + 1) c') ∧ w'.ownsRow 0 179 2 (.slice (some ⟨w.heap.size, 0, none⟩) (n + 1) c') (n + 1) (cs.take (i * 2) ++ vs ++ cs.drop (i * 2)) ∧ w.grownBy w' none ∧ w.heap.size < w'.heap.size := by
  have hcl : cs.length = n * 2 := by rw [← hcs]; simp [hcur]; omega
  obtain ⟨i0, hi0, hz0, hzs, hzb⟩ := info_parts infoL
  have hcell : ∀ j u, cs[j]? = some u → w.cell? ⟨g, j, none⟩ = some u := fun j u hj => by
    rw [hg.cell, ← Array.getElem?_toList, ← hj, ← hcs, List.getElem?_take]
    rw [← hcs, List.getElem?_take] at hj
    split at hj
    · rename_i h; rw [if_pos h]
    · cases hj
  have hdl : (cs.drop (i * 2)).length = (n - i) * 2 := by rw [List.length_drop, hcl]; omega
  have htl : (cs.take (i * 2)).length = i * 2 := by rw [List.length_take, hcl]; omega
  have hold : (Builtin.firstCells i0.size i (.slice (some ⟨g, 0, none⟩) i cap)).run Tryz.prog w.drew = .ok (cs.take (i * 2)).toArray w.drew := by
    rw [hzs]
    exact run_firstCells_some w.drew 2 i ⟨g, 0, none⟩ i cap (cs.take (i * 2)) htl (fun j v hj => by
      rw [Addr.add_lit, Nat.zero_add]
      rw [List.getElem?_take] at hj
      split at hj
      · exact hcell j v hj
      · cases hj)
  obtain ⟨G, hG⟩ : ∃ G, G = grownCap w (n + 1) cap 179 := ⟨_, rfl⟩
  have hGn : n + 1 ≤ G := by rw [hG]; exact grownCap_ge w _ _ _
  have hGm : G ≤ maxLen := by rw [hG]; exact grownCap_le_maxLen w (n + 1) cap _ (by unfold maxLen; omega)
  obtain ⟨Z, hZ⟩ : ∃ Z : Array Value, Z = Builtin.zeroCells (.agg #[.int .u32 0, .string ByteArray.empty] : Value).cells (n + 1 - i) ++ Builtin.zeroCells (.agg #[.int .u32 0, .string ByteArray.empty] : Value).cells (G - (n + 1)) := ⟨_, rfl⟩
  have hZs : Z.size = (G - i) * 2 := by rw [hZ]; simp [Builtin.zeroCells, Value.cells]; omega
  obtain ⟨W1, hW1⟩ : ∃ W1, W1 = w.drew.alloc (.cells ((cs.take (i * 2)).toArray ++ Z) 179) := ⟨_, rfl⟩
  have hrz : ∀ ty, (Builtin.append_ #[85, 3] ty #[.slice (some ⟨g, 0, none⟩) i cap, .int .i64 ((n : Int) + 1 - (i : Int))]).run Tryz.prog w = .ok (.slice (some ⟨w.heap.size, 0, none⟩) (n + 1) G) W1 := fun ty => by
    have h := Lib.run_append_grow_zeros w 85 3 ty 179 i0 _ .i64 .i64 Tryz.underlying85 Tryz.underlying3 hi0 hz0 (some ⟨g, 0, none⟩) i cap (cs.take (i * 2)) hold (n + 1 - i) (by omega) (by omega) (by omega) (by omega) (by rw [hzb]; omega) (by rw [hzb, show i + (n + 1 - i) = n + 1 by omega]; exact growslice_fits hroom (by omega))
    rw [show i + (n + 1 - i) = n + 1 by omega, ← hG] at h
    rw [show (n : Int) + 1 - (i : Int) = ((n + 1 - i : Nat) : Int) by omega, h, hW1, hZ, Array.append_assoc]
  have b1 : Blk W1 w.heap.size ((cs.take (i * 2)).toArray ++ Z) 179 := by rw [hW1]; exact Blk.new w.drew _ _
  have z1 : ((cs.take (i * 2)).toArray ++ Z).size = G * 2 := by rw [Array.size_append, hZs]; simp only [List.size_toArray, htl]; omega
  have hb1 : Below w.heap.size w W1 := by rw [hW1]; exact ((Below.refl _ w).drew).alloc (Nat.le_refl _) _
  have v1 : Blk W1 vb vs.toArray 179 := hv.below hb1
  have g1 : Blk W1 g cur 179 := hg.below hb1
  have hgw := hg.lt
  have hvw := hv.lt
  obtain ⟨W2, hW2⟩ : ∃ W2, W2 = W1.setCells w.heap.size (i * 2) vs := ⟨_, rfl⟩
  have hcp1 : ∀ ty dc, (Builtin.copy_ #[85, 85] ty #[.slice (some ⟨w.heap.size, i * 2, none⟩) (n + 1 - i) dc, .slice (some ⟨vb, 0, none⟩) 1 1]).run Tryz.prog W1 = .ok (goInt (1 : Nat)) W2 := fun ty dc => by
    rw [hW2]
    exact run_copy_k W1 _ _ ty 179 2 w.heap.size (i * 2) (n + 1 - i) dc ⟨vb, 0, none⟩ 1 1 vs Tryz.underlying85 sizeL 1 (by simp only [Nat.min_def]; split <;> omega) (by omega)
      (fun j u hj => by rw [Addr.add_lit, v1.cell]; simpa using hj)
      (fun j hj => by rw [b1.cell, Array.getElem?_eq_getElem (by rw [z1]; omega)]; rfl) (fun j hj => b1.frozen _) h1v
  have b2 := Blk.sets vs (i * 2) b1 (by rw [z1]; omega)
  rw [← hW2] at b2
  have z2 : (putL ((cs.take (i * 2)).toArray ++ Z).toList (i * 2) vs).length = G * 2 := by
    have hx : ((cs.take (i * 2)).toArray ++ Z).toList.length = G * 2 := by rw [Array.length_toList, z1]
    rw [putL_len _ _ _ (by rw [hx]; omega), hx]
  have g2 : Blk W2 g cur 179 := by rw [hW2]; exact ((sets_other w.heap.size _ _ W1).2.2.2.2 g (by omega)).trans g1
  obtain ⟨W3, hW3⟩ : ∃ W3, W3 = W2.drew.setCells w.heap.size ((i + 1) * 2) (cs.drop (i * 2)) := ⟨_, rfl⟩
  have hcp2 : ∀ ty dc sc, (Builtin.copy_ #[85, 85] ty #[.slice (some ⟨w.heap.size, (i + 1) * 2, none⟩) (n - i) dc, .slice (some ⟨g, i * 2, none⟩) (n - i) sc]).run Tryz.prog W2.drew = .ok (goInt (n - i : Nat)) W3 := fun ty dc sc => by
    rw [hW3]
    exact run_copy_k W2.drew _ _ ty 179 2 w.heap.size ((i + 1) * 2) (n - i) dc ⟨g, i * 2, none⟩ (n - i) sc (cs.drop (i * 2)) Tryz.underlying85 sizeL (n - i) (by simp) hdl
      (fun j u hj => by
        rw [Addr.add_lit]
        have h1 := hcell (i * 2 + j) u (by rwa [List.getElem?_drop] at hj)
        rw [hg.cell] at h1
        exact (Blk.cell (w := W2.drew) g2 _).trans h1)
      (fun j hj => by rw [Blk.cell (w := W2.drew) b2, Array.getElem?_eq_getElem (by rw [List.size_toArray, z2]; omega)]; rfl) (fun j hj => Blk.frozen (w := W2.drew) b2 _) (fun u hu => h1c u (List.mem_of_mem_drop hu))
  have b3 := Blk.sets (w := W2.drew) (cs.drop (i * 2)) ((i + 1) * 2) b2 (by rw [List.size_toArray, z2]; omega)
  rw [← hW3] at b3
  have hrow : putL (putL ((cs.take (i * 2)).toArray ++ Z).toList (i * 2) vs) ((i + 1) * 2) (cs.drop (i * 2)) = cs.take (i * 2) ++ vs ++ cs.drop (i * 2) ++ Z.toList.drop (2 + (cs.drop (i * 2)).length) := by
    have := growRow (cs.take (i * 2)) (cs.drop (i * 2)) Z.toList vs 2 hvl (by rw [hdl, Array.length_toList, hZs]; omega)
    rw [htl] at this
    rw [Array.toList_append, show (i + 1) * 2 = i * 2 + 2 by omega]
    exact this
  have hend : Hid (W3.ownsRow 0 179 2 (.slice (some ⟨w.heap.size, 0, none⟩) (n + 1) G) (n + 1) (cs.take (i * 2) ++ vs ++ cs.drop (i * 2)) ∧ w.grownBy W3 none ∧ w.heap.size < W3.heap.size) := by
    refine ⟨⟨by simp [htl, hvl, hdl]; omega, .inr ⟨_, G, _, rfl, Nat.zero_le _, b3, hGn, hGm, ?_, ?_⟩⟩, ?_, b3.lt⟩
    · rw [List.size_toArray, hrow]; simp [htl, hvl, hdl, hZs]; omega
    · rw [List.toList_toArray, hrow]; exact List.take_left' (by simp [htl, hvl, hdl]; omega)
    · rw [hW3]
      refine grown_sets (grown_drew ?_) _ _ _ (.inr (Nat.le_refl _))
      rw [hW2]
      refine grown_sets ?_ _ _ _ (.inr (Nat.le_refl _))
      rw [hW1]
      exact ⟨rfl, rfl, rfl, by simp, fun k hk _ => Below.heap_alloc w.drew _ k hk⟩
  have hG63 : G ≤ 9223372036854775807 := by unfold maxLen at hGm; omega
  have hz2 : ¬ ((i : Int) = (n : Int)) := by omega
  have hz3 : (cap : Int) < (n : Int) + 1 := by omega
  have hw1 : IntKind.i64.wrap ((i : Int) + 1) = (i : Int) + 1 := by rw [IntKind.wrap_i64]; omega
  have hp1 : (0 : Int) ≤ (i : Int) + 1 := by omega
  have htn : ((i : Int) + 1).toNat = i + 1 := by omega
  have hb2 : ¬ (G = i + 1) := by omega
  have hb4 : ¬ (G = i) := by omega
  have hb5 : ¬ (cap = i) := by omega
  have hin : i ≤ n := by omega
  clear hG hGn hGm hZ hZs hW1 hW2 hW3 hold b1 b2 b3 z1 z2 g1 g2 v1 hrow hb1 hg hv hcell hdl htl hcl hcs hcur h1v h1c hzs hzb hz0 hi0
  go_enter Tryz.func137, Tryz.ntmps137
  go_wp2_with (at_builtin; refine Lib.wpList_append_run _ rfl _ _ _ _ rfl _ _ rfl rfl _ _ (hrz _) ?_)
  go_region
  go_wp2
  go_ret
  exact ⟨G, rfl, hend.out⟩

set_option maxRecDepth 100000 in
set_option maxHeartbeats 4000000 in
theorem delL (cs : List Value) (m i : Nat) (g cap : Nat) (cur : Array Value) (w : World) (hi : i < m + 1) (hn : m ≤ 1000) (hg : Blk w g cur 179) (hcur : cur.size = cap * 2) (hcs : cur.toList.take ((m + 1) * 2) = cs) (hnc : m + 1 ≤ cap) (hcm : cap ≤ maxLen) (h1c : ∀ u ∈ cs, u.oneCell' = true) :
    Calls Tryz.prog 102 #[.slice (some ⟨g, 0, none⟩) (m + 1) cap, .int .i64 i, .int .i64 ((i : Int) + 1)] w fun e w' => e = .returned (.slice (some ⟨g, 0, none⟩) m cap) ∧ w'.ownsRow 0 179 2 (.slice (some ⟨g, 0, none⟩) m cap) m (cs.take (i * 2) ++ cs.drop ((i + 1) * 2)) ∧ w.grownBy w' (some g) := by
  have hcl : cs.length = (m + 1) * 2 := by rw [← hcs]; simp [hcur]; omega
  obtain ⟨i0, hi0, hz0, hzs, hzb⟩ := info_parts infoL
  have hcell : ∀ j u, cs[j]? = some u → w.cell? ⟨g, j, none⟩ = some u := fun j u hj => by
    rw [hg.cell, ← Array.getElem?_toList, ← hj, ← hcs, List.getElem?_take]
    rw [← hcs, List.getElem?_take] at hj
    split at hj
    · rename_i h; rw [if_pos h]
    · cases hj
  have hdl : (cs.drop ((i + 1) * 2)).length = (m - i) * 2 := by rw [List.length_drop, hcl]; omega
  have htl : (cs.take (i * 2)).length = i * 2 := by rw [List.length_take, hcl]; omega
  obtain ⟨W1, hW1⟩ : ∃ W1, W1 = w.drew.setCells g (i * 2) (cs.drop ((i + 1) * 2)) := ⟨_, rfl⟩
  obtain ⟨A, hA, hsrc⟩ : ∃ A : Addr, (if cap = i + 1 then some (⟨g, 0, none⟩ : Addr) else some ⟨g, (i + 1) * 2, none⟩) = some A ∧ Hid (∀ t u, (cs.drop ((i + 1) * 2))[t]? = some u → w.drew.cell? (A.add t) = some u) := by
    by_cases h : cap = i + 1
    · refine ⟨_, if_pos h, fun t u hu => ?_⟩
      have h0 : (cs.drop ((i + 1) * 2)).length = 0 := by rw [hdl]; omega
      rw [List.length_eq_zero_iff.1 h0] at hu
      simp at hu
    · refine ⟨_, if_neg h, fun t u hu => ?_⟩
      rw [Addr.add_lit]
      exact hcell _ u (by rwa [List.getElem?_drop] at hu)
  have s1 : Hid ((cs.drop ((i + 1) * 2)).length = (m - i) * 2) := hdl
  have s2 : Hid (∀ u ∈ cs.drop ((i + 1) * 2), u.oneCell' = true) := fun u hu => h1c u (List.mem_of_mem_drop hu)
  have s3 : Hid (∀ t, t < (cs.drop ((i + 1) * 2)).length → (w.drew.cell? ⟨g, 0 + i * 2 + t, none⟩).isSome = true ∧ w.drew.frozen? ⟨g, 0 + i * 2 + t, none⟩ = false) := fun t ht => by
    rw [hdl] at ht
    exact ⟨by rw [Blk.cell (w := w.drew) hg, Array.getElem?_eq_getElem (by omega)]; rfl, Blk.frozen (w := w.drew) hg _⟩
  have HW : Hid (W1 = w.drew.setCells g (0 + i * 2) (cs.drop ((i + 1) * 2))) := by rw [Nat.zero_add]; exact hW1
  have b1 : Blk W1 g (putL cur.toList (i * 2) (cs.drop ((i + 1) * 2))).toArray 179 := by rw [hW1]; exact Blk.sets (w := w.drew) _ _ hg (by rw [hdl]; omega)
  have z1 : (putL cur.toList (i * 2) (cs.drop ((i + 1) * 2))).length = cap * 2 := by rw [putL_len _ _ _ (by rw [hdl]; simp; omega)]; simpa using hcur
  obtain ⟨W2, hW2⟩ : ∃ W2, W2 = W1.setCells g (m * 2) (.agg #[.int .u32 0, .string ByteArray.empty] : Value).cells.toList := ⟨_, rfl⟩
  have hcr : ∀ ty c, (Builtin.clear_ #[85] ty #[.slice (some ⟨g, m * 2, none⟩) 1 c]).run Tryz.prog W1 = .ok (.tuple #[]) W2 := fun ty c => by
    rw [hW2]
    exact run_clear_one W1 85 179 ty (.agg #[.int .u32 0, .string ByteArray.empty]) Tryz.underlying85 (fun w => by rw [Tryz.zeroValue179]; rfl) g (m * 2) c
      (fun j hj => by simp [Value.cells] at hj; rw [b1.cell, Array.getElem?_eq_getElem (by rw [List.size_toArray, z1]; omega)]; rfl) (fun j hj => b1.frozen _) (by intro u hu; simp [Value.cells] at hu; rcases hu with rfl | rfl <;> rfl)
  have b2 := Blk.sets (.agg #[.int .u32 0, .string ByteArray.empty] : Value).cells.toList (m * 2) b1 (by rw [List.size_toArray, z1]; simp [Value.cells]; omega)
  rw [← hW2] at b2
  have hrow : putL (putL cur.toList (i * 2) (cs.drop ((i + 1) * 2))) (m * 2) (.agg #[.int .u32 0, .string ByteArray.empty] : Value).cells.toList = cs.take (i * 2) ++ cs.drop ((i + 1) * 2) ++ (.agg #[.int .u32 0, .string ByteArray.empty] : Value).cells.toList ++ cur.toList.drop ((m + 1) * 2) := by
    have hM : ((cs.drop (i * 2)).take 2).length = 2 := by simp [hcl]; omega
    have := delRow (cs.take (i * 2)) ((cs.drop (i * 2)).take 2) (cs.drop ((i + 1) * 2)) (cur.toList.drop ((m + 1) * 2)) (.agg #[.int .u32 0, .string ByteArray.empty] : Value).cells.toList 2 hM (by simp [Value.cells])
    have e : cs.take (i * 2) ++ (cs.drop (i * 2)).take 2 ++ cs.drop ((i + 1) * 2) ++ cur.toList.drop ((m + 1) * 2) = cur.toList := by
      rw [show cs.drop ((i + 1) * 2) = (cs.drop (i * 2)).drop 2 by rw [List.drop_drop]; congr 1; omega, List.append_assoc (cs.take (i * 2)), List.take_append_drop, List.take_append_drop, ← hcs, List.take_append_drop]
    rw [e, htl, hdl, show i * 2 + (m - i) * 2 = m * 2 by omega] at this
    exact this
  have hend : Hid (W2.ownsRow 0 179 2 (.slice (some ⟨g, 0, none⟩) m cap) m (cs.take (i * 2) ++ cs.drop ((i + 1) * 2)) ∧ w.grownBy W2 (some g)) := by
    refine ⟨⟨by simp [htl, hdl]; omega, .inr ⟨g, cap, _, rfl, Nat.zero_le _, b2, by omega, hcm, ?_, ?_⟩⟩, ?_⟩
    · rw [List.size_toArray, putL_len _ _ _ (by rw [z1]; simp [Value.cells]; omega), z1]
    · rw [List.toList_toArray, hrow, List.append_assoc]; exact List.take_left' (by simp [htl, hdl]; omega)
    · rw [hW2]
      refine grown_sets ?_ _ _ _ (.inl rfl)
      rw [hW1]
      exact grown_sets (grown_drew (grown_refl _ _)) _ _ _ (.inl rfl)
  have hw1 : IntKind.i64.wrap ((i : Int) + 1) = (i : Int) + 1 := by rw [IntKind.wrap_i64]; omega
  have hp1 : (0 : Int) ≤ (i : Int) + 1 := by omega
  have htn : ((i : Int) + 1).toNat = i + 1 := by omega
  have hb1 : ¬ (cap = m) := by omega
  have hb3 : (i : Int) ≤ (i : Int) + 1 := by omega
  have hb4 : (i : Int) + 1 ≤ (m : Int) + 1 := by omega
  have hb6 : i + 1 ≤ m + 1 := by omega
  have hb7 : m ≤ cap := by omega
  have hb8 : i ≤ cap := by omega
  have hc63 : cap ≤ 9223372036854775807 := by unfold maxLen at hcm; omega
  have hmi : i + (m - i) = m := by omega
  clear hW1 hW2 b1 b2 z1 hrow hg hcell hdl htl hcl hcs hcur h1c hzb hz0
  go_enter Tryz.func102, Tryz.ntmps102
  go_wp2
  go_region_law (refine step_append_room rfl (.tmp 22) (.tmp 25) 85 rfl 179 i0 2 Tryz.underlying85 hi0 hzs g 0 i cap (by simp [Act.eval, Act.put]) A (m - i) (cap - (i + 1)) (cs.drop ((i + 1) * 2)) (by simp [Act.eval, Act.put]) s1.out hsrc.out s2.out (by omega) s3.out ?_; rw [← HW.out, hmi])
  go_wp2
  go_ret
  exact ⟨rfl, hend.out⟩

theorem insrL (cs vs : List Value) (n i : Nat) (v : Value) (vb : Nat) (w : World) (hown : w.ownsRow 0 179 2 v n cs) (hi : i ≤ n) (hn : n ≤ 1000) (hvl : vs.length = 2) (hv : Blk w vb vs.toArray 179) (hvb : v.ownBlock ≠ some vb) (h1v : ∀ u ∈ vs, u.oneCell' = true) (h1c : ∀ u ∈ cs, u.oneCell' = true) :
    Calls Tryz.prog 137 #[v, .int .i64 i, .slice (some ⟨vb, 0, none⟩) 1 1] w fun e w' => ∃ g cap, e = .returned (.slice (some ⟨g, 0, none⟩) (n + 1) cap) ∧ w'.ownsRow 0 179 2 (.slice (some ⟨g, 0, none⟩) (n + 1) cap) (n + 1) (cs.take (i * 2) ++ vs ++ cs.drop (i * 2)) ∧ w.grownBy w' v.ownBlock ∧ (v.ownBlock = some g ∨ w.heap.size ≤ g) ∧ g < w'.heap.size := by
  by_cases he : i = n
  · subst he
    have e : cs.take (i * 2) ++ vs ++ cs.drop (i * 2) = cs ++ vs := by rw [List.take_of_length_le (by rw [hown.1]; omega), List.drop_eq_nil_of_le (by rw [hown.1]; omega), List.append_nil]
    rw [e]
    exact insEndL cs vs i v vb w hown hn hvl hv h1v
  · have hlt : i < n := by omega
    have h0 := hown.1
    rcases hown.2 with ⟨rfl, e⟩ | ⟨g, cap, cur, rfl, _, hg, h1, h2, h3, h4⟩
    · omega
    · by_cases hroom : n + 1 ≤ cap
      · have hne : vb ≠ g := fun e => hvb (by rw [e]; rfl)
        refine (insInL cs vs n i g cap cur vb w hlt hn hg h3 h4 hroom (by unfold maxLen at h2; omega) hvl hv hne h1v h1c).mono ?_
        rintro e w' ⟨rfl, rfl⟩
        have hdl : (cs.drop (i * 2)).length = (n - i) * 2 := by rw [List.length_drop, h0]; omega
        have htl : (cs.take (i * 2)).length = i * 2 := by rw [List.length_take, h0]; omega
        have hx : cur.toList.length = cap * 2 := by rw [Array.length_toList, h3]
        have b1 := Blk.sets (w := w.drew) (cs.drop (i * 2)) ((i + 1) * 2) hg (by rw [h3, hdl]; omega)
        have z1 : (putL cur.toList ((i + 1) * 2) (cs.drop (i * 2))).length = cap * 2 := by rw [putL_len _ _ _ (by rw [hdl, hx]; omega), hx]
        have b2 := Blk.sets vs (i * 2) b1 (by rw [List.size_toArray, z1]; omega)
        have hrow : putL (putL cur.toList ((i + 1) * 2) (cs.drop (i * 2))) (i * 2) vs = cs.take (i * 2) ++ vs ++ cs.drop (i * 2) ++ (cur.toList.drop (n * 2)).drop 2 := by
          have := insRow (cs.take (i * 2)) (cs.drop (i * 2)) (cur.toList.drop (n * 2)) vs 2 hvl (by rw [List.length_drop, hx]; omega)
          rw [List.take_append_drop, ← h4, List.take_append_drop, h4, htl, show i * 2 + 2 = (i + 1) * 2 by omega] at this
          exact this
        refine ⟨g, cap, rfl, ⟨by simp [htl, hvl, hdl]; omega, .inr ⟨g, cap, _, rfl, Nat.zero_le _, b2, hroom, h2, ?_, ?_⟩⟩, grown_sets (grown_sets (grown_drew (grown_refl _ _)) _ _ _ (.inl rfl)) _ _ _ (.inl rfl), .inl rfl, b2.lt⟩
        · rw [List.size_toArray, putL_len _ _ _ (by rw [z1]; omega), z1]
        · rw [List.toList_toArray, hrow]; exact List.take_left' (by simp [htl, hvl, hdl]; omega)
      · refine (insGrowL cs vs n i g cap cur vb w hlt hn hg h3 h4 h1 (by omega) hvl hv h1v h1c).mono ?_
        rintro e w' ⟨c', rfl, o1, o2, o3⟩
        exact ⟨_, c', rfl, o1, ⟨o2.os, o2.tape, o2.output, o2.size, fun k hk _ => o2.block k hk (by simp)⟩, .inr (Nat.le_refl _), o3⟩
end Go.Proofs.YtlikdnmikdldfaaGreatDoor
namespace Go.Proofs.YtlikdnmikdldfaaGreatDoor
open Go.Conc Go.RowKit
set_option linter.unusedVariables false

/-- as the walk's word, for ordinary frames alone -/
def wpN (P : Program) (c : Code) (Q : Exit → Act → World → Prop) (a : Act) (w : World) : Prop :=
  ∀ (b : Frame) (k : List Item) (cs : List Frame), b.kind ≠ .early → ∃ e a' w', Q e a' w' ∧ Arrives P (lone (b.at a (.code c :: k)) cs w) b k cs e a' w'
/-- .. and for what is left of a region -/
def rgN (P : Program) (ops : Array Oper) (Q : Exit → Act → World → Prop) (l : List Nat) (a : Act) (w : World) : Prop :=
  ∀ (b : Frame) (k : List Item) (cs : List Frame), b.kind ≠ .early → ∃ e a' w', Q e a' w' ∧ Arrives P (lone (b.at a (.inRegion ops l :: k)) cs w) b k cs e a' w'

section
variable {P : Program} {Q : Exit → Act → World → Prop} {a : Act} {w : World}
theorem wpN_of {c : Code} (h : c.wp P Q a w) : wpN P c Q a w := fun b k cs _ => h b k cs
theorem wpN_mono {c : Code} {Q' : Exit → Act → World → Prop} (h : wpN P c Q a w) (hq : ∀ e a w, Q e a w → Q' e a w) : wpN P c Q' a w :=
  fun b k cs hb => let ⟨e, a', w', q, r⟩ := h b k cs hb; ⟨e, a', w', hq _ _ _ q, r⟩
theorem wpN_seq {x y : Code} (h : wpN P x (Exit.then (wpN P y Q) Q) a w) : wpN P (.seq x y) Q a w := by
  intro b k cs hb
  obtain ⟨e, a₁, w₁, hq, harr⟩ := h b (.code y :: k) cs hb
  cases e with
  | normal =>
    obtain ⟨e₂, a₂, w₂, hq₂, harr₂⟩ := hq b k cs hb
    exact ⟨e₂, a₂, w₂, hq₂, .of_steps (.head step_seq harr) harr₂⟩
  | _ => exact ⟨_, a₁, w₁, hq, .of_steps (.one step_seq) (.pass (x := .code y) rfl (fun _ _ => .inl (by simp)) harr)⟩
/-- a plain piece, then the rest -/
theorem wpN_piece {x y : Code} (h : ∀ K : Act → World → Prop, (∀ a w, wpN P y Q a w → K a w) → x.wp P (Exit.then K Q) a w) : wpN P (.seq x y) Q a w :=
  wpN_seq (wpN_of (h _ fun _ _ h => h))
theorem wpN_cond {c : Operand} {x y : Code} {t : Bool} (hc : a.eval c = .bool t) (h : wpN P (if t then x else y) Q a w) : wpN P (.cond c x y) Q a w :=
  fun b k cs hb => let ⟨e, a', w', q, r⟩ := h b k cs hb; ⟨e, a', w', q, .of_steps (.one (step_cond hc)) r⟩
theorem wpN_block {id : Nat} {c : Code} (h : wpN P c (Exit.inBlock id Q) a w) : wpN P (.block id c) Q a w := by
  intro b k cs hb
  obtain ⟨e, a₁, w₁, hq, harr⟩ := h b (.inBlock id :: k) cs hb
  cases e with
  | normal => exact ⟨.normal, a₁, w₁, hq, .head step_block (Steps.trans harr (.one step_inBlock))⟩
  | exit id' =>
    by_cases hid : id' = id
    · simp only [Exit.inBlock, hid, if_true] at hq
      exact ⟨.normal, a₁, w₁, hq, .head step_block (harr k (by simp [exitTo, hid]))⟩
    · simp only [Exit.inBlock, hid, if_false] at hq
      refine ⟨.exit id', a₁, w₁, hq, fun k' hk => .head step_block (harr k' ?_)⟩
      have : (id == id') = false := by simp; exact fun h => hid h.symm
      simp [exitTo, this, hk]
  | goto l => exact ⟨_, a₁, w₁, hq, fun k' hk => .head step_block (harr k' (by simp [gotoIn, hk]))⟩
  | ret => exact ⟨_, a₁, w₁, hq, .of_steps (.one step_block) harr⟩
  | panic ch => exact ⟨_, a₁, w₁, hq, .of_steps (.one step_block) harr⟩
  | outgrown => exact ⟨_, a₁, w₁, hq, .of_steps (b := b) (k := k) (cs := cs) (e := .outgrown) (.one step_block) harr⟩
theorem wpN_loop {c : Code} (I : Act → World → Prop) (μ : Act → World → Nat) (h₀ : I a w)
    (round : ∀ a w, I a w → wpN P c (Exit.then (fun a' w' => I a' w' ∧ μ a' w' < μ a w) Q) a w) : wpN P (.loop c) Q a w := by
  intro b k cs hb
  have key : ∀ n a w, μ a w = n → I a w → ∃ e a' w', Q e a' w' ∧ Arrives P (lone (b.at a (.code c :: .inLoop c :: k)) cs w) b k cs e a' w' := by
    intro n
    induction n using Nat.strongRecOn with
    | _ n ih =>
      intro a w hn hI
      obtain ⟨e, a₁, w₁, hq, harr⟩ := round a w hI b (.inLoop c :: k) cs hb
      cases e with
      | normal =>
        obtain ⟨hI₁, hlt⟩ := hq
        obtain ⟨e₂, a₂, w₂, hq₂, harr₂⟩ := ih (μ a₁ w₁) (hn ▸ hlt) a₁ w₁ rfl hI₁
        exact ⟨e₂, a₂, w₂, hq₂, .of_steps (Steps.trans harr (.one step_inLoop)) harr₂⟩
      | _ => exact ⟨_, a₁, w₁, hq, .pass (x := .inLoop c) rfl (fun _ _ => .inl (by simp)) harr⟩
  obtain ⟨e, a', w', hq, harr⟩ := key _ a w rfl h₀
  exact ⟨e, a', w', hq, .of_steps (.one step_loop) harr⟩
theorem calls_of_wpN {f : FuncId} {fn : Func} {c : Code} {args : Array Value} {R : Ending → World → Prop} (hf : P.funcs[f]? = some fn) (hb : fn.body = some c)
    (h : wpN P c (bodyPost P fn R) { tmps := args ++ Array.replicate (fn.ntmps - args.size) undef, defers := [] } w) : Calls P f args w R := by
  intro cs
  let b : Frame := { (default : Frame) with fn := f, kind := .normal }
  have henter : Frame.enter P f args .normal = b.at { tmps := args ++ Array.replicate (fn.ntmps - args.size) undef, defers := [] } [.code c] := by
    simp [Frame.enter, Frame.at, hf, hb, b]
  obtain ⟨e, a', w', hq, harr⟩ := h b [] cs (by simp [b])
  rw [← henter] at harr
  cases e with
  | normal =>
    obtain ⟨hd, v, hr, hR⟩ := hq
    exact ⟨.returned v, w', _, hR, Steps.trans harr (.one step_end), rfl, rfl, hd, rfl, fn, hf, hr⟩
  | ret =>
    obtain ⟨hd, v, hr, hR⟩ := hq
    obtain ⟨todo, hs⟩ := harr
    exact ⟨.returned v, w', _, hR, hs, rfl, rfl, hd, rfl, fn, hf, hr⟩
  | panic chain =>
    obtain ⟨hd, hR⟩ := hq
    obtain ⟨todo, hs⟩ := harr
    exact ⟨.panicked chain, w', _, hR, hs, rfl, rfl, hd, fn, hf⟩
  | exit id => exact hq.elim
  | goto l => exact hq.elim
  | outgrown => exact ⟨.outgrown, w', b, hq, harr.resolve_left (by simp [b]), rfl, trivial⟩

/-! ### regions -/
variable {ops : Array Oper} {i : Nat} {rest : List Nat} {o : Oper}
theorem wpN_region {id : Nat} (h : rgN P ops Q (List.range ops.size) a w) : wpN P (.region id ops false) Q a w :=
  fun b k cs hb => let ⟨e, a', w', q, r⟩ := h b k cs hb; ⟨e, a', w', q, .of_steps (.one step_region) r⟩
theorem wpN_region_draw {id : Nat} (h : ∀ t, rgN P ops Q (Region.schedule (P.follows .mixedOrders) ops t) a { w with drawn := w.drawn + 1 }) : wpN P (.region id ops true) Q a w :=
  fun b k cs hb => let ⟨e, a', w', q, r⟩ := h _ b k cs hb; ⟨e, a', w', q, .of_steps (.one step_region_draw) r⟩
theorem rgN_nil (h : Q .normal a w) : rgN P ops Q [] a w := fun b k cs _ => ⟨.normal, a, w, h, .one step_region_end⟩
theorem fin_at {b : Frame} {k : List Item} (ho : ops[i]? = some o) (v : Value) : (b.at a (.inRegion ops (i :: rest) :: k)).finish v = b.at (a.put o.dst v) (.inRegion ops rest :: k) := by
  rw [Frame.finish_at, ho]; rfl
/-- an operation that yields a value -/
theorem rgN_value {v : Value} {w' : World} (ho : ops[i]? = some o) (hw : Region.wanted o (yielded ops a.tmps) = true) (hr : (execOp a.eval o).run P w = .ok (.value v) w') (h : rgN P ops Q rest (a.put o.dst v) w') : rgN P ops Q (i :: rest) a w := by
  intro b k cs hb
  obtain ⟨e, a', w'', hq, harr⟩ := h b k cs hb
  refine ⟨e, a', w'', hq, .of_steps (.one (step_lone_go ?_)) harr⟩
  rw [stepG_op (P := P) (b := b) (k := k) (cs := cs) (w := w) (rest := rest) ho hw, ← fin_at ho]; simp [stepG.apply, hr]
/-- .. or nothing -/
theorem rgN_skip {w' : World} (ho : ops[i]? = some o) (hw : Region.wanted o (yielded ops a.tmps) = true) (hr : (execOp a.eval o).run P w = .ok .skip w') (h : rgN P ops Q rest (a.put o.dst undef) w') : rgN P ops Q (i :: rest) a w := by
  intro b k cs hb
  obtain ⟨e, a', w'', hq, harr⟩ := h b k cs hb
  refine ⟨e, a', w'', hq, .of_steps (.one (step_lone_go ?_)) harr⟩
  rw [stepG_op (P := P) (b := b) (k := k) (cs := cs) (w := w) (rest := rest) ho hw, ← fin_at ho]; simp [stepG.apply, hr]
variable {c cap s r : Nat} {buf : Array Value} {z z' v : Value} {tm closed : Bool} {w₁ : World}
/-- a receive of what the buffer holds -/
theorem rgN_recv (ho : ops[i]? = some o) (hw : Region.wanted o (yielded ops a.tmps) = true) (hr : (execOp a.eval o).run P w = .ok (.comm #[rcase c z] true (.recv false)) w₁)
    (hc : w₁.heap[c]? = some (.chan cap buf closed s r tm)) (hsome : 0 < buf.size)
    (h : rgN P ops Q rest (a.put o.dst (buf.getD 0 undef)) (w₁.setChan c cap (buf.extract 1 buf.size) closed s (r + 1) tm)) : rgN P ops Q (i :: rest) a w := by
  intro b k cs hb
  obtain ⟨e, a', w'', hq, harr⟩ := h b k cs hb
  refine ⟨e, a', w'', hq, .of_steps (.one ?_) harr⟩
  rw [lone_eq_solo, step_lone_recv_buf false (stepG_comm ho hw hb hr) hc hsome, fin_at ho, lone_eq_solo]; rfl
/-- a send where there is room -/
theorem rgN_send (ho : ops[i]? = some o) (hw : Region.wanted o (yielded ops a.tmps) = true) (hr : (execOp a.eval o).run P w = .ok (.comm #[scase c v z'] true .send) w₁)
    (hc : w₁.heap[c]? = some (.chan cap buf false s r tm)) (hroom : buf.size < cap)
    (h : rgN P ops Q rest (a.put o.dst undef) (w₁.setChan c cap (buf.push v) false (s + 1) r tm)) : rgN P ops Q (i :: rest) a w := by
  intro b k cs hb
  obtain ⟨e, a', w'', hq, harr⟩ := h b k cs hb
  refine ⟨e, a', w'', hq, .of_steps (.one ?_) harr⟩
  rw [lone_eq_solo, step_lone_send_room (stepG_comm ho hw hb hr) hc hroom, fin_at ho, lone_eq_solo]
/-- a select of one send, with a default: there is room -/
theorem rgN_sel_room (ho : ops[i]? = some o) (hw : Region.wanted o (yielded ops a.tmps) = true) (hr : (execOp a.eval o).run P w = .ok (.comm #[scase c v z'] false .select) w₁)
    (hc : w₁.heap[c]? = some (.chan cap buf false s r tm)) (hroom : buf.size < cap)
    (h : rgN P ops Q rest (a.put o.dst (.tuple #[goInt 0, .bool false])) (w₁.setChan c cap (buf.push v) false (s + 1) r tm)) : rgN P ops Q (i :: rest) a w := by
  intro b k cs hb
  obtain ⟨e, a', w'', hq, harr⟩ := h b k cs hb
  refine ⟨e, a', w'', hq, .of_steps (.one ?_) harr⟩
  rw [lone_eq_solo, step_lone_select_send_room (stepG_comm ho hw hb hr) hc hroom, fin_at ho, lone_eq_solo]
/-- .. there is none -/
theorem rgN_sel_full (ho : ops[i]? = some o) (hw : Region.wanted o (yielded ops a.tmps) = true) (hr : (execOp a.eval o).run P w = .ok (.comm #[scase c v z'] false .select) w₁)
    (hc : w₁.heap[c]? = some (.chan cap buf false s r tm)) (hfull : cap ≤ buf.size)
    (h : rgN P ops Q rest (a.put o.dst (.tuple #[goInt (-1), .bool false])) w₁) : rgN P ops Q (i :: rest) a w := by
  intro b k cs hb
  obtain ⟨e, a', w'', hq, harr⟩ := h b k cs hb
  refine ⟨e, a', w'', hq, .of_steps (.one ?_) harr⟩
  rw [lone_eq_solo, step_lone_select_send_full (stepG_comm ho hw hb hr) hc hfull, fin_at ho, lone_eq_solo]
end
end Go.Proofs.YtlikdnmikdldfaaGreatDoor
