/-
  Disks: what lies in memory and whose it is; step, Stopped, Stop of both packages.
-/
import Derived.Test.YtjnhhnbgjjkkjaaDoorDiskB
import Derived.Deep.AppendLies
namespace Go.Proofs.YtjnhhnbgjjkkjaaDoor
open Go.ChangeShapes Go.WideShapes Go.ChangeAt Go.RowKit
set_option linter.unusedVariables false
set_option linter.unusedSimpArgs false

/-- a block that is known whole -/
def Blk (w : World) (g : Nat) (cs : Array Value) (t : TypeId) : Prop := w.heap[g]? = some (.cells cs t (0, 0))
theorem Blk.lt {w : World} {g : Nat} {cs : Array Value} {t : TypeId} (h : Blk w g cs t) : g < w.heap.size := (Array.getElem?_eq_some_iff.1 h).1
theorem Blk.cell {w : World} {g : Nat} {cs : Array Value} {t : TypeId} (h : Blk w g cs t) (i : Nat) : w.cell? ⟨g, i, none⟩ = cs[i]? := cell_of_row w g i cs t (0, 0) h
theorem Blk.frozen {w : World} {g : Nat} {cs : Array Value} {t : TypeId} (h : Blk w g cs t) (i : Nat) : w.frozen? ⟨g, i, none⟩ = false := by
  unfold Blk at h; simp [World.frozen?, h]
theorem Blk.alloc {w : World} {g : Nat} {cs : Array Value} {t : TypeId} (h : Blk w g cs t) (o : Obj) : Blk (w.alloc o) g cs t := (Below.heap_alloc w o g h.lt).trans h
theorem Blk.drew {w : World} {g : Nat} {cs : Array Value} {t : TypeId} (h : Blk w g cs t) : Blk w.drew g cs t := h
theorem Blk.new (w : World) (cs : Array Value) (t : TypeId) : Blk (w.alloc (.cells cs t)) w.heap.size cs t := heap_alloc_new w _
theorem Blk.set {w : World} {g : Nat} {cs : Array Value} {t : TypeId} (h : Blk w g cs t) (i : Nat) (v : Value) : Blk (w.setCell ⟨g, i, none⟩ v) g (cs.setIfInBounds i v) t := by
  unfold Blk at h ⊢
  simp [World.setCell, Array.getElem?_modify, h]

/-- one block is written, all else is as it was -/
structure Upd (w w' : World) (g : Nat) (cs : Array Value) (t : TypeId) : Prop where
  os : w'.os = w.os
  tape : w'.tape = w.tape
  output : w'.output = w.output
  size : w'.heap.size = w.heap.size
  other : ∀ b, b ≠ g → w'.heap[b]? = w.heap[b]?
  blk : Blk w' g cs t
theorem Upd.refl {w : World} {g : Nat} {cs : Array Value} {t : TypeId} (h : Blk w g cs t) : Upd w w g cs t := ⟨rfl, rfl, rfl, rfl, fun _ _ => rfl, h⟩
theorem Upd.set {w w' : World} {g : Nat} {cs cs' : Array Value} {t : TypeId} (h : Upd w w' g cs t) (i : Nat) (v : Value) (hc : cs.setIfInBounds i v = cs') : Upd w (w'.setCell ⟨g, i, none⟩ v) g cs' t := by
  subst hc
  exact ⟨h.os, h.tape, h.output, by simp [World.setCell, h.size], fun b hb => (Below.heap_setCell _ _ _ _ hb).trans (h.other b hb), h.blk.set i v⟩
theorem Upd.drew {w w' : World} {g : Nat} {cs : Array Value} {t : TypeId} (h : Upd w w' g cs t) : Upd w w'.drew g cs t := ⟨h.os, h.tape, h.output, h.size, h.other, h.blk⟩
theorem Upd.trans {w w' w'' : World} {g : Nat} {cs cs' : Array Value} {t t' : TypeId} (h : Upd w w' g cs t) (k : Upd w' w'' g cs' t') : Upd w w'' g cs' t' :=
  ⟨k.os.trans h.os, k.tape.trans h.tape, k.output.trans h.output, k.size.trans h.size, fun b hb => (k.other b hb).trans (h.other b hb), k.blk⟩

/-- may a step be done? and what is left behind it -/
def okS (left : Int) (st : Bool) : Bool := !(st || left == 0)
def leftS (left : Int) (st : Bool) : Int := if okS left st && decide (0 < left) then left - 1 else left
def stS (left : Int) (st : Bool) : Bool := st || left == 0
/-- what is left behind Stop(n) -/
def leftP (left : Int) (st : Bool) (n : Int) : Int := if stS left st then left else if n < 0 then -1 else n

def dB (vs vn vl : Value) (left : Int) (st : Bool) : Array Value := #[vs, vn, vl, .int .i64 left, .bool st]
def rB (vp : Value) (safe left : Int) (st : Bool) : Array Value := #[vp, .int .i64 safe, .int .i64 left, .bool st]


set_option maxHeartbeats 400000 in
theorem stopped_d (w : World) (g : Nat) (vs vn vl : Value) (left : Int) (st : Bool) (hB : Blk w g (dB vs vn vl left st) 80) :
    Calls Tryd.prog 28 #[.pointer (some ⟨g, 0, none⟩)] w fun e w' => e = .returned (.bool (stS left st)) ∧ w' = w := by
  have c3 : w.cell? ⟨g, 3, none⟩ = some (.int .i64 left) := hB.cell 3
  have c4 : w.cell? ⟨g, 4, none⟩ = some (.bool st) := hB.cell 4
  clear hB
  cases st
  · go_enter Tryd.func28, Tryd.ntmps28
    go_wp2
    go_ret
    exact ⟨ret_bool (by simp [stS]), rfl⟩
  · go_enter Tryd.func28, Tryd.ntmps28
    go_wp2
    go_ret
    exact ⟨ret_bool (by simp [stS]), rfl⟩
set_option maxHeartbeats 400000 in
theorem stopped_r (w : World) (g : Nat) (vp : Value) (safe left : Int) (st : Bool) (hB : Blk w g (rB vp safe left st) 83) :
    Calls Tryd.prog 29 #[.pointer (some ⟨g, 0, none⟩)] w fun e w' => e = .returned (.bool (stS left st)) ∧ w' = w := by
  have c3 : w.cell? ⟨g, 2, none⟩ = some (.int .i64 left) := hB.cell 2
  have c4 : w.cell? ⟨g, 3, none⟩ = some (.bool st) := hB.cell 3
  clear hB
  cases st
  · go_enter Tryd.func29, Tryd.ntmps29
    go_wp2
    go_ret
    exact ⟨ret_bool (by simp [stS]), rfl⟩
  · go_enter Tryd.func29, Tryd.ntmps29
    go_wp2
    go_ret
    exact ⟨ret_bool (by simp [stS]), rfl⟩

set_option maxHeartbeats 400000 in
theorem step_d (w : World) (g : Nat) (vs vn vl : Value) (left : Int) (st : Bool) (h1 : left < 9223372036854775808) (hB : Blk w g (dB vs vn vl left st) 80) :
    Calls Tryd.prog 45 #[.pointer (some ⟨g, 0, none⟩)] w fun e w' => e = .returned (.bool (okS left st)) ∧ Upd w w' g (dB vs vn vl (leftS left st) (stS left st)) 80 := by
  have c3 : w.cell? ⟨g, 3, none⟩ = some (.int .i64 left) := hB.cell 3
  have c4 : w.cell? ⟨g, 4, none⟩ = some (.bool st) := hB.cell 4
  have f3 : w.frozen? ⟨g, 3, none⟩ = false := hB.frozen 3
  have f4 : w.frozen? ⟨g, 4, none⟩ = false := hB.frozen 4
  have U := Upd.refl hB
  have HU : Hid (Upd w w g (dB vs vn vl left st) 80) := U
  clear hB U
  by_cases h0 : left = 0
  · subst h0
    cases st
    · go_enter Tryd.func45, Tryd.ntmps45
      go_wp2
      go_ret
      exact ⟨rfl, HU.out.set 4 _ rfl⟩
    · go_enter Tryd.func45, Tryd.ntmps45
      go_wp2
      go_ret
      exact ⟨rfl, HU.out.set 4 _ rfl⟩
  · have h0' : (left == 0) = false := by simpa using h0
    cases st
    · by_cases hp : 0 < left
      · have e : leftS left false = left - 1 := by simp [leftS, okS, h0', hp]
        have e2 : okS left false = true := by simp [okS, h0']
        have e3 : stS left false = false := by simp [stS, h0']
        rw [e, e2, e3]
        go_enter Tryd.func45, Tryd.ntmps45
        go_wp2
        go_ret
        exact ⟨rfl, HU.out.set 3 _ rfl⟩
      · have e : leftS left false = left := by simp [leftS, okS, h0', hp]
        have e2 : okS left false = true := by simp [okS, h0']
        have e3 : stS left false = false := by simp [stS, h0']
        rw [e, e2, e3]
        go_enter Tryd.func45, Tryd.ntmps45
        go_wp2
        go_ret
        exact ⟨rfl, HU.out⟩
    · have e : leftS left true = left := by simp [leftS, okS]
      have e2 : okS left true = false := by simp [okS]
      have e3 : stS left true = true := by simp [stS]
      rw [e, e2, e3]
      go_enter Tryd.func45, Tryd.ntmps45
      go_wp2
      go_ret
      exact ⟨rfl, HU.out.set 4 _ rfl⟩

set_option maxHeartbeats 400000 in
theorem step_r (w : World) (g : Nat) (vp : Value) (safe left : Int) (st : Bool) (h1 : left < 9223372036854775808) (hB : Blk w g (rB vp safe left st) 83) :
    Calls Tryd.prog 47 #[.pointer (some ⟨g, 0, none⟩)] w fun e w' => e = .returned (.bool (okS left st)) ∧ Upd w w' g (rB vp safe (leftS left st) (stS left st)) 83 := by
  have c3 : w.cell? ⟨g, 2, none⟩ = some (.int .i64 left) := hB.cell 2
  have c4 : w.cell? ⟨g, 3, none⟩ = some (.bool st) := hB.cell 3
  have f3 : w.frozen? ⟨g, 2, none⟩ = false := hB.frozen 2
  have f4 : w.frozen? ⟨g, 3, none⟩ = false := hB.frozen 3
  have HU : Hid (Upd w w g (rB vp safe left st) 83) := Upd.refl hB
  have hs : Hid (Calls Tryd.prog 29 #[.pointer (some ⟨g, 0, none⟩)] w fun e w' => e = .returned (.bool (stS left st)) ∧ w' = w) := stopped_r w g vp safe left st hB
  clear hB
  rcases e3 : stS left st with _ | _
  · have e2 : okS left st = true := by simpa [okS, stS] using e3
    have hst : st = false := by simp [stS] at e3; exact e3.1
    subst hst
    rw [e3] at hs
    rw [e2]
    by_cases hp : 0 < left
    · have e : leftS left false = left - 1 := by simp [leftS, e2, hp]
      rw [e]
      clear e e2 e3
      go_enter Tryd.func47, Tryd.ntmps47
      go_wp2_with (go_at_call 29; refine hs.out.mono ?_; rintro e w1 ⟨rfl, rfl⟩)
      go_ret
      exact ⟨rfl, HU.out.set 2 _ rfl⟩
    · have e : leftS left false = left := by simp [leftS, e2, hp]
      rw [e]
      clear e e2 e3
      go_enter Tryd.func47, Tryd.ntmps47
      go_wp2_with (go_at_call 29; refine hs.out.mono ?_; rintro e w1 ⟨rfl, rfl⟩)
      go_ret
      exact ⟨rfl, HU.out⟩
  · have e2 : okS left st = false := by unfold stS at e3; unfold okS; rw [e3]; rfl
    have e : leftS left st = left := by simp [leftS, e2]
    rw [e3] at hs
    rw [e2, e]
    clear e e2 e3
    go_enter Tryd.func47, Tryd.ntmps47
    go_wp2_with (go_at_call 29; refine hs.out.mono ?_; rintro e w1 ⟨rfl, rfl⟩)
    go_ret
    exact ⟨rfl, HU.out.set 3 _ rfl⟩

set_option maxHeartbeats 400000 in
theorem stop_d (w : World) (g : Nat) (vs vn vl : Value) (left n : Int) (st : Bool) (n0 : -9223372036854775808 ≤ n) (n1 : n < 9223372036854775808) (hB : Blk w g (dB vs vn vl left st) 80) :
    Calls Tryd.prog 26 #[.pointer (some ⟨g, 0, none⟩), .int .i64 n] w fun e w' => e = .returned (.tuple #[]) ∧ Upd w w' g (dB vs vn vl (leftP left st n) st) 80 := by
  have c3 : w.cell? ⟨g, 3, none⟩ = some (.int .i64 left) := hB.cell 3
  have f3 : w.frozen? ⟨g, 3, none⟩ = false := hB.frozen 3
  have HU : Hid (Upd w w g (dB vs vn vl left st) 80) := Upd.refl hB
  have hs : Hid (Calls Tryd.prog 28 #[.pointer (some ⟨g, 0, none⟩)] w fun e w' => e = .returned (.bool (stS left st)) ∧ w' = w) := stopped_d w g vs vn vl left st hB
  clear hB
  rcases e3 : stS left st with _ | _
  · rw [e3] at hs
    by_cases hn : n < 0
    · have e : leftP left st n = -1 := by simp [leftP, e3, hn]
      rw [e]
      clear e
      go_enter Tryd.func26, Tryd.ntmps26
      go_wp2_with (go_at_call 28; refine hs.out.mono ?_; rintro e w1 ⟨rfl, rfl⟩)
      all_goals (first | go_end0 | refine bodyPost_ret (results_none rfl _ _ _) rfl ?_)
      all_goals exact ⟨rfl, by first | exact HU.out | exact HU.out.set 3 _ rfl | (obtain rfl : n = -1 := (by omega); exact HU.out.set 3 _ rfl)⟩
    · have e : leftP left st n = n := by simp [leftP, e3, hn]
      rw [e]
      clear e
      go_enter Tryd.func26, Tryd.ntmps26
      go_wp2_with (go_at_call 28; refine hs.out.mono ?_; rintro e w1 ⟨rfl, rfl⟩)
      all_goals (first | go_end0 | refine bodyPost_ret (results_none rfl _ _ _) rfl ?_)
      all_goals exact ⟨rfl, by first | exact HU.out | exact HU.out.set 3 _ rfl | (obtain rfl : n = -1 := (by omega); exact HU.out.set 3 _ rfl)⟩
  · rw [e3] at hs
    have e : leftP left st n = left := by simp [leftP, e3]
    rw [e]
    clear e
    go_enter Tryd.func26, Tryd.ntmps26
    go_wp2_with (go_at_call 28; refine hs.out.mono ?_; rintro e w1 ⟨rfl, rfl⟩)
    all_goals (first | go_end0 | refine bodyPost_ret (results_none rfl _ _ _) rfl ?_)
    all_goals exact ⟨rfl, by first | exact HU.out | exact HU.out.set 3 _ rfl | (obtain rfl : n = -1 := (by omega); exact HU.out.set 3 _ rfl)⟩
set_option maxHeartbeats 400000 in
theorem stop_r (w : World) (g : Nat) (vp : Value) (safe left n : Int) (st : Bool) (n0 : -9223372036854775808 ≤ n) (n1 : n < 9223372036854775808) (hB : Blk w g (rB vp safe left st) 83) :
    Calls Tryd.prog 27 #[.pointer (some ⟨g, 0, none⟩), .int .i64 n] w fun e w' => e = .returned (.tuple #[]) ∧ Upd w w' g (rB vp safe (leftP left st n) st) 83 := by
  have c3 : w.cell? ⟨g, 2, none⟩ = some (.int .i64 left) := hB.cell 2
  have f3 : w.frozen? ⟨g, 2, none⟩ = false := hB.frozen 2
  have HU : Hid (Upd w w g (rB vp safe left st) 83) := Upd.refl hB
  have hs : Hid (Calls Tryd.prog 29 #[.pointer (some ⟨g, 0, none⟩)] w fun e w' => e = .returned (.bool (stS left st)) ∧ w' = w) := stopped_r w g vp safe left st hB
  clear hB
  rcases e3 : stS left st with _ | _
  · rw [e3] at hs
    by_cases hn : n < 0
    · have e : leftP left st n = -1 := by simp [leftP, e3, hn]
      rw [e]
      clear e
      go_enter Tryd.func27, Tryd.ntmps27
      go_wp2_with (go_at_call 29; refine hs.out.mono ?_; rintro e w1 ⟨rfl, rfl⟩)
      all_goals (first | go_end0 | refine bodyPost_ret (results_none rfl _ _ _) rfl ?_)
      all_goals exact ⟨rfl, by first | exact HU.out | exact HU.out.set 2 _ rfl | exact (HU.out.set 2 _ rfl).set 2 _ rfl⟩
    · have e : leftP left st n = n := by simp [leftP, e3, hn]
      rw [e]
      clear e
      go_enter Tryd.func27, Tryd.ntmps27
      go_wp2_with (go_at_call 29; refine hs.out.mono ?_; rintro e w1 ⟨rfl, rfl⟩)
      all_goals (first | go_end0 | refine bodyPost_ret (results_none rfl _ _ _) rfl ?_)
      all_goals exact ⟨rfl, by first | exact HU.out | exact HU.out.set 2 _ rfl | exact (HU.out.set 2 _ rfl).set 2 _ rfl⟩
  · rw [e3] at hs
    have e : leftP left st n = left := by simp [leftP, e3]
    rw [e]
    clear e
    go_enter Tryd.func27, Tryd.ntmps27
    go_wp2_with (go_at_call 29; refine hs.out.mono ?_; rintro e w1 ⟨rfl, rfl⟩)
    all_goals (first | go_end0 | refine bodyPost_ret (results_none rfl _ _ _) rfl ?_)
    all_goals exact ⟨rfl, by first | exact HU.out | exact HU.out.set 2 _ rfl | exact (HU.out.set 2 _ rfl).set 2 _ rfl⟩
end Go.Proofs.YtjnhhnbgjjkkjaaDoor
