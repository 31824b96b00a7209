/-
  BkA
-/
import Derived.Deep.AppendLies
import Derived.Deep.LoopGhost
import Derived.Handy
import Derived.Test.YtlikdnmikdldfaaGreatDoorOrderedPAB
import Derived.Test.YtlikdnmikdldfaaGreatDoorOrderedPAC
namespace Go.Proofs.YtlikdnmikdldfaaGreatDoor
open Go.ChangeShapes Go.WideShapes Go.ChangeAt Go.RowKit
set_option linter.unusedVariables false
set_option linter.unusedSimpArgs false

theorem bup {w W w1 : World} (h : Below w.heap.size w W) (k : Below W.heap.size W w1) : Below w.heap.size w w1 := h.trans (k.mono h.size)
/-- a holder's value -/
def vH (h : Hd) : Value := .agg #[.int .u32 h.a, .int .i64 h.n, .string h.o]
def vB (a n : Int) : Value := .agg #[.int .u32 a, .int .i64 n]
/-- an address that is one -/
def ad (a : Int) : Prop := 0 ≤ a ∧ a < 4294967296

set_option maxHeartbeats 400000 in
theorem hbase_any (h : Hd) (w : World) : Calls Tryz.prog 141 #[vH h] w fun e w' => e = .returned (.int .u32 h.a) ∧ Below w.heap.size w w' := by
  obtain ⟨a, n, o⟩ := h
  unfold vH
  go_enter Tryz.func141, Tryz.ntmps141
  go_wp2
  go_ret
  exact ⟨rfl, (by repeat' (first | with_reducible assumption | with_reducible exact Below.refl _ _ | with_reducible apply Below.drew | with_reducible apply below_drewN | with_reducible apply Below.setCell | with_reducible apply Below.alloc | omega | (simp; done) | (simp; omega)))⟩
set_option maxHeartbeats 400000 in
theorem hmeets_any (h : Hd) (b m : Int) (w : World) (ha : ad h.a) (hb : ad b) :
    Calls Tryz.prog 260 #[vH h, vB b m] w fun e w' => e = .returned (.bool (meetsH b m h)) ∧ Below w.heap.size w w' := by
  obtain ⟨a, n, o⟩ := h
  have hc : Hid (∀ w, Calls Tryz.prog 203 #[vB a n, vB b m] w fun e w' => e = .returned (.bool (mm a n b m)) ∧ Below w.heap.size w w') := fun w => bmeet_any a n b m w ha.1 ha.2 hb.1 hb.2
  unfold meetsH
  unfold vB at hc
  unfold vH vB
  dsimp only
  generalize mm a n b m = r at hc ⊢
  go_enter Tryz.func260, Tryz.ntmps260
  go_wp2_with (go_at_call 203; refine (hc.out _).mono ?_; rintro e w1 ⟨rfl, hb1⟩)
  go_ret
  exact ⟨rfl, bup (by repeat' (first | with_reducible assumption | with_reducible exact Below.refl _ _ | with_reducible apply Below.drew | with_reducible apply below_drewN | with_reducible apply Below.setCell | with_reducible apply Below.alloc | omega | (simp; done) | (simp; omega))) hb1⟩
set_option maxHeartbeats 400000 in
theorem bin_no (a n b m : Int) (w : World) (h : n < m) :
    Calls Tryz.prog 171 #[vB a n, vB b m] w fun e w' => e = .returned (.bool false) ∧ Below w.heap.size w w' := by
  unfold vB
  go_enter Tryz.func171, Tryz.ntmps171
  go_wp2
  go_ret
  exact ⟨rfl, (by repeat' (first | with_reducible assumption | with_reducible exact Below.refl _ _ | with_reducible apply Below.drew | with_reducible apply below_drewN | with_reducible apply Below.setCell | with_reducible apply Below.alloc | omega | (simp; done) | (simp; omega)))⟩
set_option maxHeartbeats 400000 in
theorem bin_yes (a n b m : Int) (w : World) (h : ¬ n < m) (ha : ad a) (hb : ad b) :
    Calls Tryz.prog 171 #[vB a n, vB b m] w fun e w' => e = .returned (.bool (mm a n b m)) ∧ Below w.heap.size w w' := by
  have hc : Hid (∀ w, Calls Tryz.prog 203 #[vB a n, vB b m] w fun e w' => e = .returned (.bool (mm a n b m)) ∧ Below w.heap.size w w') := fun w => bmeet_any a n b m w ha.1 ha.2 hb.1 hb.2
  unfold vB at hc ⊢
  generalize mm a n b m = r at hc ⊢
  go_enter Tryz.func171, Tryz.ntmps171
  go_wp2_with (go_at_call 203; refine (hc.out _).mono ?_; rintro e w1 ⟨rfl, hb1⟩)
  go_ret
  exact ⟨rfl, bup (by repeat' (first | with_reducible assumption | with_reducible exact Below.refl _ _ | with_reducible apply Below.drew | with_reducible apply below_drewN | with_reducible apply Below.setCell | with_reducible apply Below.alloc | omega | (simp; done) | (simp; omega))) hb1⟩
theorem bin_any (a n b m : Int) (w : World) (ha : ad a) (hb : ad b) :
    Calls Tryz.prog 171 #[vB a n, vB b m] w fun e w' => e = .returned (.bool (inn a n b m)) ∧ Below w.heap.size w w' := by
  by_cases h : n < m
  · have e : inn a n b m = false := by unfold inn; rw [decide_eq_false (by omega)]; rfl
    rw [e]; exact bin_no a n b m w h
  · have e : inn a n b m = mm a n b m := by unfold inn; rw [decide_eq_true (by omega)]; rfl
    rw [e]; exact bin_yes a n b m w h ha hb
set_option maxHeartbeats 400000 in
theorem hspans_any (h : Hd) (b m : Int) (w : World) (ha : ad h.a) (hb : ad b) :
    Calls Tryz.prog 128 #[vH h, vB b m] w fun e w' => e = .returned (.bool (spansH b m h)) ∧ Below w.heap.size w w' := by
  obtain ⟨a, n, o⟩ := h
  have hc : Hid (∀ w, Calls Tryz.prog 171 #[vB b m, vB a n] w fun e w' => e = .returned (.bool (inn b m a n)) ∧ Below w.heap.size w w') := fun w => bin_any b m a n w hb ha
  unfold spansH
  unfold vB at hc
  unfold vH vB
  dsimp only
  generalize inn b m a n = r at hc ⊢
  go_enter Tryz.func128, Tryz.ntmps128
  go_wp2_with (go_at_call 171; refine (hc.out _).mono ?_; rintro e w1 ⟨rfl, hb1⟩)
  go_ret
  exact ⟨rfl, bup (by repeat' (first | with_reducible assumption | with_reducible exact Below.refl _ _ | with_reducible apply Below.drew | with_reducible apply below_drewN | with_reducible apply Below.setCell | with_reducible apply Below.alloc | omega | (simp; done) | (simp; omega))) hb1⟩
set_option maxHeartbeats 400000 in
theorem his_any (h : Hd) (b m : Int) (w : World) :
    Calls Tryz.prog 259 #[vH h, vB b m] w fun e w' => e = .returned (.bool (isH b m h)) ∧ Below w.heap.size w w' := by
  obtain ⟨a, n, o⟩ := h
  unfold isH vH vB
  dsimp only
  by_cases e1 : a = b
  · subst e1
    by_cases e2 : n = m
    · subst e2
      go_enter Tryz.func259, Tryz.ntmps259
      go_wp2
      go_ret
      exact ⟨ret_bool (by simp), (by repeat' (first | with_reducible assumption | with_reducible exact Below.refl _ _ | with_reducible apply Below.drew | with_reducible apply below_drewN | with_reducible apply Below.setCell | with_reducible apply Below.alloc | omega | (simp; done) | (simp; omega)))⟩
    · go_enter Tryz.func259, Tryz.ntmps259
      go_wp2
      go_ret
      exact ⟨ret_bool (by simp [e2]), (by repeat' (first | with_reducible assumption | with_reducible exact Below.refl _ _ | with_reducible apply Below.drew | with_reducible apply below_drewN | with_reducible apply Below.setCell | with_reducible apply Below.alloc | omega | (simp; done) | (simp; omega)))⟩
  · go_enter Tryz.func259, Tryz.ntmps259
    go_wp2
    go_ret
    exact ⟨ret_bool (by simp [e1]), (by repeat' (first | with_reducible assumption | with_reducible exact Below.refl _ _ | with_reducible apply Below.drew | with_reducible apply below_drewN | with_reducible apply Below.setCell | with_reducible apply Below.alloc | omega | (simp; done) | (simp; omega)))⟩
set_option maxHeartbeats 400000 in
theorem howned_any (h : Hd) (s : ByteArray) (w : World) :
    Calls Tryz.prog 83 #[vH h, .string s] w fun e w' => e = .returned (.bool (h.o.toList == s.toList)) ∧ Below w.heap.size w w' := by
  obtain ⟨a, n, o⟩ := h
  unfold vH
  dsimp only
  go_enter Tryz.func83, Tryz.ntmps83
  go_wp2
  go_ret
  exact ⟨rfl, (by repeat' (first | with_reducible assumption | with_reducible exact Below.refl _ _ | with_reducible apply Below.drew | with_reducible apply below_drewN | with_reducible apply Below.setCell | with_reducible apply Below.alloc | omega | (simp; done) | (simp; omega)))⟩
set_option maxHeartbeats 400000 in
theorem cmeetP (h : Hd) (b m : Int) (w : World) (c : Nat) (ha : ad h.a) (hb : ad b) (c0 : w.cell? ⟨c, 0, none⟩ = some (.int .u32 b)) (c1 : w.cell? ⟨c, 1, none⟩ = some (.int .i64 m)) (hc : c < w.heap.size) :
    Calls Tryz.prog 121 #[vH h, .pointer (some ⟨c, 0, none⟩)] w fun e w' => e = .returned (.bool (meetsH b m h)) ∧ Below w.heap.size w w' := by
  have hq : Hid (∀ w, Calls Tryz.prog 260 #[vH h, vB b m] w fun e w' => e = .returned (.bool (meetsH b m h)) ∧ Below w.heap.size w w') := fun w => hmeets_any h b m w ha hb
  generalize meetsH b m h = r at hq ⊢
  obtain ⟨a, n, o⟩ := h
  unfold vH vB at hq
  unfold vH
  dsimp only at *
  go_enter Tryz.func121, Tryz.ntmps121
  go_wp2_with (go_at_call 260; refine (hq.out _).mono ?_; rintro e w1 ⟨rfl, hb1⟩)
  go_ret
  exact ⟨rfl, bup (by repeat' (first | with_reducible assumption | with_reducible exact Below.refl _ _ | with_reducible apply Below.drew | with_reducible apply below_drewN | with_reducible apply Below.setCell | with_reducible apply Below.alloc | omega | (simp; done) | (simp; omega))) hb1⟩
set_option maxHeartbeats 400000 in
theorem cisP (h : Hd) (b m : Int) (w : World) (c : Nat) (ha : ad h.a) (hb : ad b) (c0 : w.cell? ⟨c, 0, none⟩ = some (.int .u32 b)) (c1 : w.cell? ⟨c, 1, none⟩ = some (.int .i64 m)) (hc : c < w.heap.size) :
    Calls Tryz.prog 127 #[vH h, .pointer (some ⟨c, 0, none⟩)] w fun e w' => e = .returned (.bool (isH b m h)) ∧ Below w.heap.size w w' := by
  have hq : Hid (∀ w, Calls Tryz.prog 259 #[vH h, vB b m] w fun e w' => e = .returned (.bool (isH b m h)) ∧ Below w.heap.size w w') := fun w => his_any h b m w
  generalize isH b m h = r at hq ⊢
  obtain ⟨a, n, o⟩ := h
  unfold vH vB at hq
  unfold vH
  dsimp only at *
  go_enter Tryz.func127, Tryz.ntmps127
  go_wp2_with (go_at_call 259; refine (hq.out _).mono ?_; rintro e w1 ⟨rfl, hb1⟩)
  go_ret
  exact ⟨rfl, bup (by repeat' (first | with_reducible assumption | with_reducible exact Below.refl _ _ | with_reducible apply Below.drew | with_reducible apply below_drewN | with_reducible apply Below.setCell | with_reducible apply Below.alloc | omega | (simp; done) | (simp; omega))) hb1⟩
set_option maxHeartbeats 400000 in
theorem cspanP (h : Hd) (b m : Int) (w : World) (c : Nat) (ha : ad h.a) (hb : ad b) (c0 : w.cell? ⟨c, 0, none⟩ = some (.int .u32 b)) (c1 : w.cell? ⟨c, 1, none⟩ = some (.int .i64 m)) (hc : c < w.heap.size) :
    Calls Tryz.prog 132 #[vH h, .pointer (some ⟨c, 0, none⟩)] w fun e w' => e = .returned (.bool (spansH b m h)) ∧ Below w.heap.size w w' := by
  have hq : Hid (∀ w, Calls Tryz.prog 128 #[vH h, vB b m] w fun e w' => e = .returned (.bool (spansH b m h)) ∧ Below w.heap.size w w') := fun w => hspans_any h b m w ha hb
  generalize spansH b m h = r at hq ⊢
  obtain ⟨a, n, o⟩ := h
  unfold vH vB at hq
  unfold vH
  dsimp only at *
  go_enter Tryz.func132, Tryz.ntmps132
  go_wp2_with (go_at_call 128; refine (hq.out _).mono ?_; rintro e w1 ⟨rfl, hb1⟩)
  go_ret
  exact ⟨rfl, bup (by repeat' (first | with_reducible assumption | with_reducible exact Below.refl _ _ | with_reducible apply Below.drew | with_reducible apply below_drewN | with_reducible apply Below.setCell | with_reducible apply Below.alloc | omega | (simp; done) | (simp; omega))) hb1⟩
set_option maxHeartbeats 400000 in
theorem cmeetS (h : Hd) (b m : Int) (w : World) (c : Nat) (ha : ad h.a) (hb : ad b) (c0 : w.cell? ⟨c, 0, none⟩ = some (.int .u32 b)) (c1 : w.cell? ⟨c, 1, none⟩ = some (.int .i64 m)) (hc : c < w.heap.size) :
    Calls Tryz.prog 134 #[vH h, .pointer (some ⟨c, 0, none⟩)] w fun e w' => e = .returned (.bool (meetsH b m h)) ∧ Below w.heap.size w w' := by
  have hq : Hid (∀ w, Calls Tryz.prog 260 #[vH h, vB b m] w fun e w' => e = .returned (.bool (meetsH b m h)) ∧ Below w.heap.size w w') := fun w => hmeets_any h b m w ha hb
  generalize meetsH b m h = r at hq ⊢
  obtain ⟨a, n, o⟩ := h
  unfold vH vB at hq
  unfold vH
  dsimp only at *
  go_enter Tryz.func134, Tryz.ntmps134
  go_wp2_with (go_at_call 260; refine (hq.out _).mono ?_; rintro e w1 ⟨rfl, hb1⟩)
  go_ret
  exact ⟨rfl, bup (by repeat' (first | with_reducible assumption | with_reducible exact Below.refl _ _ | with_reducible apply Below.drew | with_reducible apply below_drewN | with_reducible apply Below.setCell | with_reducible apply Below.alloc | omega | (simp; done) | (simp; omega))) hb1⟩
set_option maxHeartbeats 400000 in
theorem cisS (h : Hd) (b m : Int) (w : World) (c : Nat) (ha : ad h.a) (hb : ad b) (c0 : w.cell? ⟨c, 0, none⟩ = some (.int .u32 b)) (c1 : w.cell? ⟨c, 1, none⟩ = some (.int .i64 m)) (hc : c < w.heap.size) :
    Calls Tryz.prog 136 #[vH h, .pointer (some ⟨c, 0, none⟩)] w fun e w' => e = .returned (.bool (isH b m h)) ∧ Below w.heap.size w w' := by
  have hq : Hid (∀ w, Calls Tryz.prog 259 #[vH h, vB b m] w fun e w' => e = .returned (.bool (isH b m h)) ∧ Below w.heap.size w w') := fun w => his_any h b m w
  generalize isH b m h = r at hq ⊢
  obtain ⟨a, n, o⟩ := h
  unfold vH vB at hq
  unfold vH
  dsimp only at *
  go_enter Tryz.func136, Tryz.ntmps136
  go_wp2_with (go_at_call 259; refine (hq.out _).mono ?_; rintro e w1 ⟨rfl, hb1⟩)
  go_ret
  exact ⟨rfl, bup (by repeat' (first | with_reducible assumption | with_reducible exact Below.refl _ _ | with_reducible apply Below.drew | with_reducible apply below_drewN | with_reducible apply Below.setCell | with_reducible apply Below.alloc | omega | (simp; done) | (simp; omega))) hb1⟩
set_option maxHeartbeats 400000 in
theorem cspanS (h : Hd) (b m : Int) (w : World) (c : Nat) (ha : ad h.a) (hb : ad b) (c0 : w.cell? ⟨c, 0, none⟩ = some (.int .u32 b)) (c1 : w.cell? ⟨c, 1, none⟩ = some (.int .i64 m)) (hc : c < w.heap.size) :
    Calls Tryz.prog 140 #[vH h, .pointer (some ⟨c, 0, none⟩)] w fun e w' => e = .returned (.bool (spansH b m h)) ∧ Below w.heap.size w w' := by
  have hq : Hid (∀ w, Calls Tryz.prog 128 #[vH h, vB b m] w fun e w' => e = .returned (.bool (spansH b m h)) ∧ Below w.heap.size w w') := fun w => hspans_any h b m w ha hb
  generalize spansH b m h = r at hq ⊢
  obtain ⟨a, n, o⟩ := h
  unfold vH vB at hq
  unfold vH
  dsimp only at *
  go_enter Tryz.func140, Tryz.ntmps140
  go_wp2_with (go_at_call 128; refine (hq.out _).mono ?_; rintro e w1 ⟨rfl, hb1⟩)
  go_ret
  exact ⟨rfl, bup (by repeat' (first | with_reducible assumption | with_reducible exact Below.refl _ _ | with_reducible apply Below.drew | with_reducible apply below_drewN | with_reducible apply Below.setCell | with_reducible apply Below.alloc | omega | (simp; done) | (simp; omega))) hb1⟩
end Go.Proofs.YtlikdnmikdldfaaGreatDoor
