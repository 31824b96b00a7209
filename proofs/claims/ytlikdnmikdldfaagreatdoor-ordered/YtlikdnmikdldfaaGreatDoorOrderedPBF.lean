/-
  BkRl, BkRe
-/
import Derived.Test.YtlikdnmikdldfaaGreatDoorOrderedPBE
import Derived.Test.YtlikdnmikdldfaaGreatDoorOrderedPBC
namespace Go.Proofs.YtlikdnmikdldfaaGreatDoor
open Go.ChangeShapes Go.WideShapes Go.ChangeAt Go.RowKit
set_option linter.unusedVariables false
set_option linter.unusedSimpArgs false

theorem seven_set {w : World} {g : Nat} {t : TypeId} {u0 u1 u2 u3 u4 u5 u6 : Value} (h : Blk w g #[u0, u1, u2, u3, u4, u5, u6] t) (a0 a1 a2 a3 a4 a5 a6 : Value) :
    Blk (((((((w.setCell ⟨g, 0, none⟩ a0).setCell ⟨g, 1, none⟩ a1).setCell ⟨g, 2, none⟩ a2).setCell ⟨g, 3, none⟩ a3).setCell ⟨g, 4, none⟩ a4).setCell ⟨g, 5, none⟩ a5).setCell ⟨g, 6, none⟩ a6) g #[a0, a1, a2, a3, a4, a5, a6] t := by
  have h0 : Blk (w.setCell ⟨g, 0, none⟩ a0) g #[a0, u1, u2, u3, u4, u5, u6] t := (by simpa using h.set 0 a0)
  have h1 : Blk ((w.setCell ⟨g, 0, none⟩ a0).setCell ⟨g, 1, none⟩ a1) g #[a0, a1, u2, u3, u4, u5, u6] t := (by simpa using h0.set 1 a1)
  have h2 : Blk (((w.setCell ⟨g, 0, none⟩ a0).setCell ⟨g, 1, none⟩ a1).setCell ⟨g, 2, none⟩ a2) g #[a0, a1, a2, u3, u4, u5, u6] t := (by simpa using h1.set 2 a2)
  have h3 : Blk ((((w.setCell ⟨g, 0, none⟩ a0).setCell ⟨g, 1, none⟩ a1).setCell ⟨g, 2, none⟩ a2).setCell ⟨g, 3, none⟩ a3) g #[a0, a1, a2, a3, u4, u5, u6] t := (by simpa using h2.set 3 a3)
  have h4 : Blk (((((w.setCell ⟨g, 0, none⟩ a0).setCell ⟨g, 1, none⟩ a1).setCell ⟨g, 2, none⟩ a2).setCell ⟨g, 3, none⟩ a3).setCell ⟨g, 4, none⟩ a4) g #[a0, a1, a2, a3, a4, u5, u6] t := (by simpa using h3.set 4 a4)
  have h5 : Blk ((((((w.setCell ⟨g, 0, none⟩ a0).setCell ⟨g, 1, none⟩ a1).setCell ⟨g, 2, none⟩ a2).setCell ⟨g, 3, none⟩ a3).setCell ⟨g, 4, none⟩ a4).setCell ⟨g, 5, none⟩ a5) g #[a0, a1, a2, a3, a4, a5, u6] t := (by simpa using h4.set 5 a5)
  have h6 : Blk (((((((w.setCell ⟨g, 0, none⟩ a0).setCell ⟨g, 1, none⟩ a1).setCell ⟨g, 2, none⟩ a2).setCell ⟨g, 3, none⟩ a3).setCell ⟨g, 4, none⟩ a4).setCell ⟨g, 5, none⟩ a5).setCell ⟨g, 6, none⟩ a6) g #[a0, a1, a2, a3, a4, a5, a6] t := (by simpa using h5.set 6 a6)
  exact h6
set_option maxRecDepth 100000 in
set_option maxHeartbeats 2000000 in
theorem read_long (s : ByteArray) (w : World) (hs : 100 < s.size) :
    Calls Tryz.prog 30 #[.string s] w fun e w' => e = .returned (.tuple #[.agg #[.int .i64 0, .string ⟨#[]⟩, .string ⟨#[]⟩, .int .u32 0, .int .i64 0, .int .u32 0, .int .i64 0], .bool false]) ∧ Below w.heap.size w w' := by
  have h1 : (100 : Int) < (s.size : Int) := by omega
  go_enter Tryz.func30, Tryz.ntmps30
  go_wp2
  go_returns
  exact ⟨rfl, (by repeat' (first | with_reducible assumption | with_reducible exact Below.refl _ _ | with_reducible apply Below.drew | with_reducible apply below_drewN | with_reducible apply Below.setCell | with_reducible apply Below.alloc | omega | (simp; done) | (simp; omega)))⟩
set_option maxRecDepth 100000 in
set_option maxHeartbeats 2000000 in
theorem read_unknown (s : ByteArray) (w : World) (n : Nat) (hn : 1 ≤ n) (s0 : ByteArray) (hs : s.size ≤ 100) (ROW : World → Prop) (hF : 0 < w.heap.size) (HS : Hid (Calls Tryz.prog 49 #[.string s, .string ⟨#[32]⟩] (w.alloc (.cells #[.int .i64 0, .string ⟨#[]⟩, .string ⟨#[]⟩, .int .u32 0, .int .i64 0, .int .u32 0, .int .i64 0] 74)) fun e w1 => e = .returned (.slice (some ⟨w.heap.size + 1, 0, none⟩) n n) ∧ w1.cell? ⟨w.heap.size + 1, 0, none⟩ = some (.string s0) ∧ w.heap.size + 1 < w1.heap.size ∧ Blk w1 w.heap.size #[.int .i64 0, .string ⟨#[]⟩, .string ⟨#[]⟩, .int .u32 0, .int .i64 0, .int .u32 0, .int .i64 0] 74 ∧ Below w.heap.size w w1 ∧ ROW w1))
    (HV : Hid (∀ W, Below w.heap.size w W → Calls Tryz.prog 50 #[.string s0] W fun e w' => e = .returned (.tuple #[.int .i64 0, .bool false]) ∧ Below W.heap.size W w')) :
    Calls Tryz.prog 30 #[.string s] w fun e w' => e = .returned (.tuple #[.agg #[.int .i64 0, .string ⟨#[]⟩, .string ⟨#[]⟩, .int .u32 0, .int .i64 0, .int .u32 0, .int .i64 0], .bool false]) ∧ Below w.heap.size w w' := by
  have h1 : ¬ (100 : Int) < (s.size : Int) := by omega
  have h2 : (0 : Int) < (n : Int) := by omega
  have h4 : (1 : Int) ≤ (n : Int) := by omega
  go_enter Tryz.func30, Tryz.ntmps30
  go_wp2_with (first | (go_at_call 49; refine HS.out.mono ?_; rintro e w1 ⟨rfl, k10, z1, rB, hb1, hrow⟩; replace rB : Hid (Blk w1 w.heap.size #[.int .i64 0, .string ⟨#[]⟩, .string ⟨#[]⟩, .int .u32 0, .int .i64 0, .int .u32 0, .int .i64 0] 74) := rB; replace hb1 : Hid (Below w.heap.size w w1) := hb1; replace hrow : Hid (ROW w1) := hrow; have r0 : w1.cell? ⟨w.heap.size, 0, none⟩ = some (.int .i64 0) := rB.out.cell 0; have rf0 := rB.out.frozen 0; have r1 : w1.cell? ⟨w.heap.size, 1, none⟩ = some (.string ⟨#[]⟩) := rB.out.cell 1; have rf1 := rB.out.frozen 1; have r2 : w1.cell? ⟨w.heap.size, 2, none⟩ = some (.string ⟨#[]⟩) := rB.out.cell 2; have rf2 := rB.out.frozen 2; have r3 : w1.cell? ⟨w.heap.size, 3, none⟩ = some (.int .u32 0) := rB.out.cell 3; have rf3 := rB.out.frozen 3; have r4 : w1.cell? ⟨w.heap.size, 4, none⟩ = some (.int .i64 0) := rB.out.cell 4; have rf4 := rB.out.frozen 4; have r5 : w1.cell? ⟨w.heap.size, 5, none⟩ = some (.int .u32 0) := rB.out.cell 5; have rf5 := rB.out.frozen 5; have r6 : w1.cell? ⟨w.heap.size, 6, none⟩ = some (.int .i64 0) := rB.out.cell 6; have rf6 := rB.out.frozen 6; have rz := rB.out.lt) | (go_at_call 50; refine (HV.out _ hb1.out).mono ?_; rintro e w2 ⟨rfl, hq2⟩; have hb2 : Hid (Below w1.heap.size w1 w2) := hq2; clear hq2; have qB : Hid (Blk w2 w.heap.size #[.int .i64 0, .string ⟨#[]⟩, .string ⟨#[]⟩, .int .u32 0, .int .i64 0, .int .u32 0, .int .i64 0] 74) := rB.out.below hb2.out; have q0 : w2.cell? ⟨w.heap.size, 0, none⟩ = some (.int .i64 0) := qB.out.cell 0; have qf0 := qB.out.frozen 0; have q1 : w2.cell? ⟨w.heap.size, 1, none⟩ = some (.string ⟨#[]⟩) := qB.out.cell 1; have qf1 := qB.out.frozen 1; have q2 : w2.cell? ⟨w.heap.size, 2, none⟩ = some (.string ⟨#[]⟩) := qB.out.cell 2; have qf2 := qB.out.frozen 2; have q3 : w2.cell? ⟨w.heap.size, 3, none⟩ = some (.int .u32 0) := qB.out.cell 3; have qf3 := qB.out.frozen 3; have q4 : w2.cell? ⟨w.heap.size, 4, none⟩ = some (.int .i64 0) := qB.out.cell 4; have qf4 := qB.out.frozen 4; have q5 : w2.cell? ⟨w.heap.size, 5, none⟩ = some (.int .u32 0) := qB.out.cell 5; have qf5 := qB.out.frozen 5; have q6 : w2.cell? ⟨w.heap.size, 6, none⟩ = some (.int .i64 0) := qB.out.cell 6; have qf6 := qB.out.frozen 6; have qz := qB.out.lt; clear r0 rf0 r1 rf1 r2 rf2 r3 rf3 r4 rf4 r5 rf5 r6 rf6; have zg : 0 < w2.heap.size := Nat.lt_of_lt_of_le hF (Nat.le_trans hb1.out.size hb2.out.size)))
  have kk := seven_set qB.out (.int .i64 0) (.string ⟨#[]⟩) (.string ⟨#[]⟩) (.int .u32 0) (.int .i64 0) (.int .u32 0) (.int .i64 0)
  have kk0 := kk.cell 0
  have kk1 := kk.cell 1
  have kk2 := kk.cell 2
  have kk3 := kk.cell 3
  have kk4 := kk.cell 4
  have kk5 := kk.cell 5
  have kk6 := kk.cell 6
  clear kk
  have hq := hb1.out.trans (hb2.out.mono hb1.out.size)
  have hz := hq.size
  exact bodyPost_ret (v := .tuple #[.agg #[.int .i64 0, .string ⟨#[]⟩, .string ⟨#[]⟩, .int .u32 0, .int .i64 0, .int .u32 0, .int .i64 0], .bool false]) (by simp [results, Tryz.results30, go_sem, kk0, kk1, kk2, kk3, kk4, kk5, kk6]) rfl ⟨rfl, (by repeat' (first | with_reducible assumption | with_reducible exact Below.refl _ _ | with_reducible apply Below.drew | with_reducible apply below_drewN | with_reducible apply Below.setCell | with_reducible apply Below.alloc | omega | (simp; done) | (simp; omega)))⟩
theorem rd_keep {w2 w3 : World} {g : Nat} {cs ds : Array Value} {t t2 : TypeId} (h : Blk w2 g cs t) (hc : Chg (fun b => b = w2.heap.size) (w2.alloc (.cells ds t2)) w3) : Blk w3 g cs t := by
  have hl := h.lt
  have h2 : Blk (w2.alloc (.cells ds t2)) g cs t := h.below (by repeat' (first | with_reducible assumption | with_reducible exact Below.refl _ _ | with_reducible apply Below.drew | with_reducible apply below_drewN | with_reducible apply Below.setCell | with_reducible apply Below.alloc | omega | (simp; done) | (simp; omega)))
  exact (hc.block g h2.lt (by omega)).trans h2
theorem rd_cell {w2 w3 : World} {g o : Nat} {ds : Array Value} {t2 : TypeId} {v : Value} (hg : g < w2.heap.size) (h : w2.cell? ⟨g, o, none⟩ = some v) (hc : Chg (fun b => b = w2.heap.size) (w2.alloc (.cells ds t2)) w3) : w3.cell? ⟨g, o, none⟩ = some v := by
  have hb : Below w2.heap.size w2 (w2.alloc (.cells ds t2)) := (by repeat' (first | with_reducible assumption | with_reducible exact Below.refl _ _ | with_reducible apply Below.drew | with_reducible apply below_drewN | with_reducible apply Below.setCell | with_reducible apply Below.alloc | omega | (simp; done) | (simp; omega)))
  exact (World.cell?_of_block (a := ⟨g, o, none⟩) (hc.block g (Nat.lt_of_lt_of_le hg hb.size) (by omega))).trans ((hb.cell (p := ⟨g, o, none⟩) hg).trans h)
theorem rd_below {w w1 w2 w3 : World} {ds : Array Value} {t2 : TypeId} (h1 : Below w.heap.size w w1) (h2 : Below w1.heap.size w1 w2) (hc : Chg (fun b => b = w2.heap.size) (w2.alloc (.cells ds t2)) w3) : Below w.heap.size w w3 := by
  have hq := h1.trans (h2.mono h1.size)
  have hz := hq.size
  have hq2 : Below w.heap.size w (w2.alloc (.cells ds t2)) := (by repeat' (first | with_reducible assumption | with_reducible exact Below.refl _ _ | with_reducible apply Below.drew | with_reducible apply below_drewN | with_reducible apply Below.setCell | with_reducible apply Below.alloc | omega | (simp; done) | (simp; omega)))
  refine ⟨hc.os.trans hq2.os, hc.tape.trans hq2.tape, hc.output.trans hq2.output, Nat.le_trans hq2.size hc.size, fun b hb => ?_⟩
  exact (hc.block b (Nat.lt_of_lt_of_le hb (Nat.le_trans hq.size (by simp))) (by have := hq.size; omega)).trans (hq2.block b hb)
set_option maxRecDepth 100000 in
set_option maxHeartbeats 400000 in
theorem read_bad1 (s : ByteArray) (w : World)  (s0 : ByteArray) (hs : s.size ≤ 100) (ROW : World → Prop) (v p0 p1 p2 p3 : Nat) (hv : v < 11) (hF : 0 < w.heap.size) (HF : Hid (w.cell? ⟨0, v * 5 + 1, none⟩ = some (.int .i64 p0) ∧ w.cell? ⟨0, v * 5 + 2, none⟩ = some (.int .i64 p1) ∧ w.cell? ⟨0, v * 5 + 3, none⟩ = some (.int .i64 p2) ∧ w.cell? ⟨0, v * 5 + 4, none⟩ = some (.int .i64 p3))) (HS : Hid (Calls Tryz.prog 49 #[.string s, .string ⟨#[32]⟩] (w.alloc (.cells #[.int .i64 0, .string ⟨#[]⟩, .string ⟨#[]⟩, .int .u32 0, .int .i64 0, .int .u32 0, .int .i64 0] 74)) fun e w1 => e = .returned (.slice (some ⟨w.heap.size + 1, 0, none⟩) 1 1) ∧ w1.cell? ⟨w.heap.size + 1, 0, none⟩ = some (.string s0) ∧ w.heap.size + 1 < w1.heap.size ∧ Blk w1 w.heap.size #[.int .i64 0, .string ⟨#[]⟩, .string ⟨#[]⟩, .int .u32 0, .int .i64 0, .int .u32 0, .int .i64 0] 74 ∧ Below w.heap.size w w1 ∧ ROW w1))
    (HV : Hid (∀ W, Below w.heap.size w W → Calls Tryz.prog 50 #[.string s0] W fun e w' => e = .returned (.tuple #[.int .i64 v, .bool true]) ∧ Below W.heap.size W w'))
    (HP : Hid (∀ w1 w2, ROW w1 → w.heap.size + 1 < w1.heap.size → Below w.heap.size w w1 → Below w1.heap.size w1 w2 → Calls Tryz.prog 51 #[.pointer (some ⟨w2.heap.size, 0, none⟩), .agg #[.int .i64 p0, .int .i64 p1, .int .i64 p2, .int .i64 p3], .slice (some ⟨w.heap.size + 1, 0, none⟩) 0 0] (w2.alloc (.cells #[.int .i64 v, .string ⟨#[]⟩, .string ⟨#[]⟩, .int .u32 0, .int .i64 0, .int .u32 0, .int .i64 0] 74)).drew fun e w' => e = .returned (.bool false) ∧ Chg (fun b => b = w2.heap.size) (w2.alloc (.cells #[.int .i64 v, .string ⟨#[]⟩, .string ⟨#[]⟩, .int .u32 0, .int .i64 0, .int .u32 0, .int .i64 0] 74)) w')) :
    Calls Tryz.prog 30 #[.string s] w fun e w' => e = .returned (.tuple #[.agg #[.int .i64 0, .string ⟨#[]⟩, .string ⟨#[]⟩, .int .u32 0, .int .i64 0, .int .u32 0, .int .i64 0], .bool false]) ∧ Below w.heap.size w w' := by
  have h1 : ¬ (100 : Int) < (s.size : Int) := by omega
  have h3 : (v : Int) < 11 := by omega
  have h5 : (0 : Int) ≤ (v : Int) := by omega
  go_enter Tryz.func30, Tryz.ntmps30
  go_wp2_with (first | (go_at_call 49; refine HS.out.mono ?_; rintro e w1 ⟨rfl, k10, z1, rB, hb1, hrow⟩; replace rB : Hid (Blk w1 w.heap.size #[.int .i64 0, .string ⟨#[]⟩, .string ⟨#[]⟩, .int .u32 0, .int .i64 0, .int .u32 0, .int .i64 0] 74) := rB; replace hb1 : Hid (Below w.heap.size w w1) := hb1; replace hrow : Hid (ROW w1) := hrow; have r0 : w1.cell? ⟨w.heap.size, 0, none⟩ = some (.int .i64 0) := rB.out.cell 0; have rf0 := rB.out.frozen 0; have r1 : w1.cell? ⟨w.heap.size, 1, none⟩ = some (.string ⟨#[]⟩) := rB.out.cell 1; have rf1 := rB.out.frozen 1; have r2 : w1.cell? ⟨w.heap.size, 2, none⟩ = some (.string ⟨#[]⟩) := rB.out.cell 2; have rf2 := rB.out.frozen 2; have r3 : w1.cell? ⟨w.heap.size, 3, none⟩ = some (.int .u32 0) := rB.out.cell 3; have rf3 := rB.out.frozen 3; have r4 : w1.cell? ⟨w.heap.size, 4, none⟩ = some (.int .i64 0) := rB.out.cell 4; have rf4 := rB.out.frozen 4; have r5 : w1.cell? ⟨w.heap.size, 5, none⟩ = some (.int .u32 0) := rB.out.cell 5; have rf5 := rB.out.frozen 5; have r6 : w1.cell? ⟨w.heap.size, 6, none⟩ = some (.int .i64 0) := rB.out.cell 6; have rf6 := rB.out.frozen 6; have rz := rB.out.lt) | (go_at_call 50; refine (HV.out _ hb1.out).mono ?_; rintro e w2 ⟨rfl, hq2⟩; have hb2 : Hid (Below w1.heap.size w1 w2) := hq2; clear hq2; have qB : Hid (Blk w2 w.heap.size #[.int .i64 0, .string ⟨#[]⟩, .string ⟨#[]⟩, .int .u32 0, .int .i64 0, .int .u32 0, .int .i64 0] 74) := rB.out.below hb2.out; have q0 : w2.cell? ⟨w.heap.size, 0, none⟩ = some (.int .i64 0) := qB.out.cell 0; have qf0 := qB.out.frozen 0; have q1 : w2.cell? ⟨w.heap.size, 1, none⟩ = some (.string ⟨#[]⟩) := qB.out.cell 1; have qf1 := qB.out.frozen 1; have q2 : w2.cell? ⟨w.heap.size, 2, none⟩ = some (.string ⟨#[]⟩) := qB.out.cell 2; have qf2 := qB.out.frozen 2; have q3 : w2.cell? ⟨w.heap.size, 3, none⟩ = some (.int .u32 0) := qB.out.cell 3; have qf3 := qB.out.frozen 3; have q4 : w2.cell? ⟨w.heap.size, 4, none⟩ = some (.int .i64 0) := qB.out.cell 4; have qf4 := qB.out.frozen 4; have q5 : w2.cell? ⟨w.heap.size, 5, none⟩ = some (.int .u32 0) := qB.out.cell 5; have qf5 := qB.out.frozen 5; have q6 : w2.cell? ⟨w.heap.size, 6, none⟩ = some (.int .i64 0) := qB.out.cell 6; have qf6 := qB.out.frozen 6; have qz := qB.out.lt; clear r0 rf0 r1 rf1 r2 rf2 r3 rf3 r4 rf4 r5 rf5 r6 rf6; have zg : 0 < w2.heap.size := Nat.lt_of_lt_of_le hF (Nat.le_trans hb1.out.size hb2.out.size); have fm0 : w2.cell? ⟨0, v * 5 + 1, none⟩ = some (.int .i64 p0) := ((hb1.out.trans (hb2.out.mono hb1.out.size)).cell (p := ⟨0, v * 5 + 1, none⟩) hF).trans (HF.out.1); have fm1 : w2.cell? ⟨0, v * 5 + 2, none⟩ = some (.int .i64 p1) := ((hb1.out.trans (hb2.out.mono hb1.out.size)).cell (p := ⟨0, v * 5 + 2, none⟩) hF).trans (HF.out.2.1); have fm2 : w2.cell? ⟨0, v * 5 + 3, none⟩ = some (.int .i64 p2) := ((hb1.out.trans (hb2.out.mono hb1.out.size)).cell (p := ⟨0, v * 5 + 3, none⟩) hF).trans (HF.out.2.2.1); have fm3 : w2.cell? ⟨0, v * 5 + 4, none⟩ = some (.int .i64 p3) := ((hb1.out.trans (hb2.out.mono hb1.out.size)).cell (p := ⟨0, v * 5 + 4, none⟩) hF).trans (HF.out.2.2.2)))
  go_region_held3 (fun w' => w'.cell? ⟨0, v * 5 + 1, none⟩ = some (.int .i64 p0) ∧ w'.cell? ⟨0, v * 5 + 2, none⟩ = some (.int .i64 p1) ∧ w'.cell? ⟨0, v * 5 + 3, none⟩ = some (.int .i64 p2) ∧ w'.cell? ⟨0, v * 5 + 4, none⟩ = some (.int .i64 p3)) (go_keep) (first | (go_at_call 51; refine (HP.out w1 w2 hrow.out z1 hb1.out hb2.out).mono ?_; rintro e w3 ⟨rfl, hc3⟩; replace hc3 : Hid (Chg (fun b => b = w2.heap.size) (w2.alloc (.cells #[.int .i64 v, .string ⟨#[]⟩, .string ⟨#[]⟩, .int .u32 0, .int .i64 0, .int .u32 0, .int .i64 0] 74)) w3) := hc3; have sB : Hid (Blk w3 w.heap.size #[.int .i64 0, .string ⟨#[]⟩, .string ⟨#[]⟩, .int .u32 0, .int .i64 0, .int .u32 0, .int .i64 0] 74) := rd_keep qB.out hc3.out; have s0 : w3.cell? ⟨w.heap.size, 0, none⟩ = some (.int .i64 0) := sB.out.cell 0; have sf0 := sB.out.frozen 0; have s1 : w3.cell? ⟨w.heap.size, 1, none⟩ = some (.string ⟨#[]⟩) := sB.out.cell 1; have sf1 := sB.out.frozen 1; have s2 : w3.cell? ⟨w.heap.size, 2, none⟩ = some (.string ⟨#[]⟩) := sB.out.cell 2; have sf2 := sB.out.frozen 2; have s3 : w3.cell? ⟨w.heap.size, 3, none⟩ = some (.int .u32 0) := sB.out.cell 3; have sf3 := sB.out.frozen 3; have s4 : w3.cell? ⟨w.heap.size, 4, none⟩ = some (.int .i64 0) := sB.out.cell 4; have sf4 := sB.out.frozen 4; have s5 : w3.cell? ⟨w.heap.size, 5, none⟩ = some (.int .u32 0) := sB.out.cell 5; have sf5 := sB.out.frozen 5; have s6 : w3.cell? ⟨w.heap.size, 6, none⟩ = some (.int .i64 0) := sB.out.cell 6; have sf6 := sB.out.frozen 6; have sz3 := sB.out.lt; have gm0 := rd_cell zg fm0 hc3.out; have gm1 := rd_cell zg fm1 hc3.out; have gm2 := rd_cell zg fm2 hc3.out; have gm3 := rd_cell zg fm3 hc3.out))
  all_goals (
    go_wp2
    have kk := seven_set sB.out (.int .i64 0) (.string ⟨#[]⟩) (.string ⟨#[]⟩) (.int .u32 0) (.int .i64 0) (.int .u32 0) (.int .i64 0)
    have kk0 := kk.cell 0
    have kk1 := kk.cell 1
    have kk2 := kk.cell 2
    have kk3 := kk.cell 3
    have kk4 := kk.cell 4
    have kk5 := kk.cell 5
    have kk6 := kk.cell 6
    clear kk
    have hq := rd_below hb1.out hb2.out hc3.out
    have hz := hq.size
    exact bodyPost_ret (v := .tuple #[.agg #[.int .i64 0, .string ⟨#[]⟩, .string ⟨#[]⟩, .int .u32 0, .int .i64 0, .int .u32 0, .int .i64 0], .bool false]) (by simp [results, Tryz.results30, go_sem, kk0, kk1, kk2, kk3, kk4, kk5, kk6]) rfl ⟨rfl, (by repeat' (first | with_reducible assumption | with_reducible exact Below.refl _ _ | with_reducible apply Below.drew | with_reducible apply below_drewN | with_reducible apply Below.setCell | with_reducible apply Below.alloc | omega | (simp; done) | (simp; omega)))⟩)
set_option maxRecDepth 100000 in
set_option maxHeartbeats 400000 in
theorem read_good1 (s : ByteArray) (w : World)  (s0 : ByteArray) (hs : s.size ≤ 100) (ROW : World → Prop) (v p0 p1 p2 p3 : Nat) (hv : v < 11) (hF : 0 < w.heap.size) (HF : Hid (w.cell? ⟨0, v * 5 + 1, none⟩ = some (.int .i64 p0) ∧ w.cell? ⟨0, v * 5 + 2, none⟩ = some (.int .i64 p1) ∧ w.cell? ⟨0, v * 5 + 3, none⟩ = some (.int .i64 p2) ∧ w.cell? ⟨0, v * 5 + 4, none⟩ = some (.int .i64 p3))) (HS : Hid (Calls Tryz.prog 49 #[.string s, .string ⟨#[32]⟩] (w.alloc (.cells #[.int .i64 0, .string ⟨#[]⟩, .string ⟨#[]⟩, .int .u32 0, .int .i64 0, .int .u32 0, .int .i64 0] 74)) fun e w1 => e = .returned (.slice (some ⟨w.heap.size + 1, 0, none⟩) 1 1) ∧ w1.cell? ⟨w.heap.size + 1, 0, none⟩ = some (.string s0) ∧ w.heap.size + 1 < w1.heap.size ∧ Blk w1 w.heap.size #[.int .i64 0, .string ⟨#[]⟩, .string ⟨#[]⟩, .int .u32 0, .int .i64 0, .int .u32 0, .int .i64 0] 74 ∧ Below w.heap.size w w1 ∧ ROW w1))
    (HV : Hid (∀ W, Below w.heap.size w W → Calls Tryz.prog 50 #[.string s0] W fun e w' => e = .returned (.tuple #[.int .i64 v, .bool true]) ∧ Below W.heap.size W w')) (l' : Ln)
    (HP : Hid (∀ w1 w2, ROW w1 → w.heap.size + 1 < w1.heap.size → Below w.heap.size w w1 → Below w1.heap.size w1 w2 → Calls Tryz.prog 51 #[.pointer (some ⟨w2.heap.size, 0, none⟩), .agg #[.int .i64 p0, .int .i64 p1, .int .i64 p2, .int .i64 p3], .slice (some ⟨w.heap.size + 1, 0, none⟩) 0 0] (w2.alloc (.cells #[.int .i64 v, .string ⟨#[]⟩, .string ⟨#[]⟩, .int .u32 0, .int .i64 0, .int .u32 0, .int .i64 0] 74)).drew fun e w' => e = .returned (.bool true) ∧ Blk w' w2.heap.size (lnC l') 74 ∧ Chg (fun b => b = w2.heap.size) (w2.alloc (.cells #[.int .i64 v, .string ⟨#[]⟩, .string ⟨#[]⟩, .int .u32 0, .int .i64 0, .int .u32 0, .int .i64 0] 74)) w')) :
    Calls Tryz.prog 30 #[.string s] w fun e w' => e = .returned (.tuple #[.agg (lnC l'), .bool true]) ∧ Below w.heap.size w w' := by
  have h1 : ¬ (100 : Int) < (s.size : Int) := by omega
  have h3 : (v : Int) < 11 := by omega
  have h5 : (0 : Int) ≤ (v : Int) := by omega
  go_enter Tryz.func30, Tryz.ntmps30
  go_wp2_with (first | (go_at_call 49; refine HS.out.mono ?_; rintro e w1 ⟨rfl, k10, z1, rB, hb1, hrow⟩; replace rB : Hid (Blk w1 w.heap.size #[.int .i64 0, .string ⟨#[]⟩, .string ⟨#[]⟩, .int .u32 0, .int .i64 0, .int .u32 0, .int .i64 0] 74) := rB; replace hb1 : Hid (Below w.heap.size w w1) := hb1; replace hrow : Hid (ROW w1) := hrow; have r0 : w1.cell? ⟨w.heap.size, 0, none⟩ = some (.int .i64 0) := rB.out.cell 0; have rf0 := rB.out.frozen 0; have r1 : w1.cell? ⟨w.heap.size, 1, none⟩ = some (.string ⟨#[]⟩) := rB.out.cell 1; have rf1 := rB.out.frozen 1; have r2 : w1.cell? ⟨w.heap.size, 2, none⟩ = some (.string ⟨#[]⟩) := rB.out.cell 2; have rf2 := rB.out.frozen 2; have r3 : w1.cell? ⟨w.heap.size, 3, none⟩ = some (.int .u32 0) := rB.out.cell 3; have rf3 := rB.out.frozen 3; have r4 : w1.cell? ⟨w.heap.size, 4, none⟩ = some (.int .i64 0) := rB.out.cell 4; have rf4 := rB.out.frozen 4; have r5 : w1.cell? ⟨w.heap.size, 5, none⟩ = some (.int .u32 0) := rB.out.cell 5; have rf5 := rB.out.frozen 5; have r6 : w1.cell? ⟨w.heap.size, 6, none⟩ = some (.int .i64 0) := rB.out.cell 6; have rf6 := rB.out.frozen 6; have rz := rB.out.lt) | (go_at_call 50; refine (HV.out _ hb1.out).mono ?_; rintro e w2 ⟨rfl, hq2⟩; have hb2 : Hid (Below w1.heap.size w1 w2) := hq2; clear hq2; have qB : Hid (Blk w2 w.heap.size #[.int .i64 0, .string ⟨#[]⟩, .string ⟨#[]⟩, .int .u32 0, .int .i64 0, .int .u32 0, .int .i64 0] 74) := rB.out.below hb2.out; have q0 : w2.cell? ⟨w.heap.size, 0, none⟩ = some (.int .i64 0) := qB.out.cell 0; have qf0 := qB.out.frozen 0; have q1 : w2.cell? ⟨w.heap.size, 1, none⟩ = some (.string ⟨#[]⟩) := qB.out.cell 1; have qf1 := qB.out.frozen 1; have q2 : w2.cell? ⟨w.heap.size, 2, none⟩ = some (.string ⟨#[]⟩) := qB.out.cell 2; have qf2 := qB.out.frozen 2; have q3 : w2.cell? ⟨w.heap.size, 3, none⟩ = some (.int .u32 0) := qB.out.cell 3; have qf3 := qB.out.frozen 3; have q4 : w2.cell? ⟨w.heap.size, 4, none⟩ = some (.int .i64 0) := qB.out.cell 4; have qf4 := qB.out.frozen 4; have q5 : w2.cell? ⟨w.heap.size, 5, none⟩ = some (.int .u32 0) := qB.out.cell 5; have qf5 := qB.out.frozen 5; have q6 : w2.cell? ⟨w.heap.size, 6, none⟩ = some (.int .i64 0) := qB.out.cell 6; have qf6 := qB.out.frozen 6; have qz := qB.out.lt; clear r0 rf0 r1 rf1 r2 rf2 r3 rf3 r4 rf4 r5 rf5 r6 rf6; have zg : 0 < w2.heap.size := Nat.lt_of_lt_of_le hF (Nat.le_trans hb1.out.size hb2.out.size); have fm0 : w2.cell? ⟨0, v * 5 + 1, none⟩ = some (.int .i64 p0) := ((hb1.out.trans (hb2.out.mono hb1.out.size)).cell (p := ⟨0, v * 5 + 1, none⟩) hF).trans (HF.out.1); have fm1 : w2.cell? ⟨0, v * 5 + 2, none⟩ = some (.int .i64 p1) := ((hb1.out.trans (hb2.out.mono hb1.out.size)).cell (p := ⟨0, v * 5 + 2, none⟩) hF).trans (HF.out.2.1); have fm2 : w2.cell? ⟨0, v * 5 + 3, none⟩ = some (.int .i64 p2) := ((hb1.out.trans (hb2.out.mono hb1.out.size)).cell (p := ⟨0, v * 5 + 3, none⟩) hF).trans (HF.out.2.2.1); have fm3 : w2.cell? ⟨0, v * 5 + 4, none⟩ = some (.int .i64 p3) := ((hb1.out.trans (hb2.out.mono hb1.out.size)).cell (p := ⟨0, v * 5 + 4, none⟩) hF).trans (HF.out.2.2.2)))
  go_region_held3 (fun w' => w'.cell? ⟨0, v * 5 + 1, none⟩ = some (.int .i64 p0) ∧ w'.cell? ⟨0, v * 5 + 2, none⟩ = some (.int .i64 p1) ∧ w'.cell? ⟨0, v * 5 + 3, none⟩ = some (.int .i64 p2) ∧ w'.cell? ⟨0, v * 5 + 4, none⟩ = some (.int .i64 p3)) (go_keep) (first | (go_at_call 51; refine (HP.out w1 w2 hrow.out z1 hb1.out hb2.out).mono ?_; rintro e w3 ⟨rfl, lB, hc3⟩; replace lB : Hid (Blk w3 w2.heap.size (lnC l') 74) := lB; replace hc3 : Hid (Chg (fun b => b = w2.heap.size) (w2.alloc (.cells #[.int .i64 v, .string ⟨#[]⟩, .string ⟨#[]⟩, .int .u32 0, .int .i64 0, .int .u32 0, .int .i64 0] 74)) w3) := hc3; have sB : Hid (Blk w3 w.heap.size #[.int .i64 0, .string ⟨#[]⟩, .string ⟨#[]⟩, .int .u32 0, .int .i64 0, .int .u32 0, .int .i64 0] 74) := rd_keep qB.out hc3.out; have s0 : w3.cell? ⟨w.heap.size, 0, none⟩ = some (.int .i64 0) := sB.out.cell 0; have sf0 := sB.out.frozen 0; have s1 : w3.cell? ⟨w.heap.size, 1, none⟩ = some (.string ⟨#[]⟩) := sB.out.cell 1; have sf1 := sB.out.frozen 1; have s2 : w3.cell? ⟨w.heap.size, 2, none⟩ = some (.string ⟨#[]⟩) := sB.out.cell 2; have sf2 := sB.out.frozen 2; have s3 : w3.cell? ⟨w.heap.size, 3, none⟩ = some (.int .u32 0) := sB.out.cell 3; have sf3 := sB.out.frozen 3; have s4 : w3.cell? ⟨w.heap.size, 4, none⟩ = some (.int .i64 0) := sB.out.cell 4; have sf4 := sB.out.frozen 4; have s5 : w3.cell? ⟨w.heap.size, 5, none⟩ = some (.int .u32 0) := sB.out.cell 5; have sf5 := sB.out.frozen 5; have s6 : w3.cell? ⟨w.heap.size, 6, none⟩ = some (.int .i64 0) := sB.out.cell 6; have sf6 := sB.out.frozen 6; have t0 : w3.cell? ⟨w2.heap.size, 0, none⟩ = some (.int .i64 l'.v) := lB.out.cell 0; have t1 : w3.cell? ⟨w2.heap.size, 1, none⟩ = some (.string l'.t) := lB.out.cell 1; have t2 : w3.cell? ⟨w2.heap.size, 2, none⟩ = some (.string l'.o) := lB.out.cell 2; have t3 : w3.cell? ⟨w2.heap.size, 3, none⟩ = some (.int .u32 l'.a) := lB.out.cell 3; have t4 : w3.cell? ⟨w2.heap.size, 4, none⟩ = some (.int .i64 l'.n) := lB.out.cell 4; have t5 : w3.cell? ⟨w2.heap.size, 5, none⟩ = some (.int .u32 l'.d) := lB.out.cell 5; have t6 : w3.cell? ⟨w2.heap.size, 6, none⟩ = some (.int .i64 l'.g) := lB.out.cell 6; have tz := lB.out.lt; have sz3 := sB.out.lt; have gm0 := rd_cell zg fm0 hc3.out; have gm1 := rd_cell zg fm1 hc3.out; have gm2 := rd_cell zg fm2 hc3.out; have gm3 := rd_cell zg fm3 hc3.out))
  all_goals (
    go_wp2
    have kk := seven_set sB.out (.int .i64 l'.v) (.string l'.t) (.string l'.o) (.int .u32 l'.a) (.int .i64 l'.n) (.int .u32 l'.d) (.int .i64 l'.g)
    have kk0 := kk.cell 0
    have kk1 := kk.cell 1
    have kk2 := kk.cell 2
    have kk3 := kk.cell 3
    have kk4 := kk.cell 4
    have kk5 := kk.cell 5
    have kk6 := kk.cell 6
    clear kk
    have hq := rd_below hb1.out hb2.out hc3.out
    have hz := hq.size
    exact bodyPost_ret (v := (.tuple #[.agg (lnC l'), .bool true])) (by simp [results, Tryz.results30, go_sem, kk0, kk1, kk2, kk3, kk4, kk5, kk6, lnC]) rfl ⟨rfl, (by repeat' (first | with_reducible assumption | with_reducible exact Below.refl _ _ | with_reducible apply Below.drew | with_reducible apply below_drewN | with_reducible apply Below.setCell | with_reducible apply Below.alloc | omega | (simp; done) | (simp; omega)))⟩)
set_option maxRecDepth 100000 in
set_option maxHeartbeats 400000 in
theorem read_bad (s : ByteArray) (w : World) (n : Nat) (hn : 1 ≤ n) (hn1 : ¬ n = 1) (s0 : ByteArray) (hs : s.size ≤ 100) (ROW : World → Prop) (v p0 p1 p2 p3 : Nat) (hv : v < 11) (hF : 0 < w.heap.size) (HF : Hid (w.cell? ⟨0, v * 5 + 1, none⟩ = some (.int .i64 p0) ∧ w.cell? ⟨0, v * 5 + 2, none⟩ = some (.int .i64 p1) ∧ w.cell? ⟨0, v * 5 + 3, none⟩ = some (.int .i64 p2) ∧ w.cell? ⟨0, v * 5 + 4, none⟩ = some (.int .i64 p3))) (HS : Hid (Calls Tryz.prog 49 #[.string s, .string ⟨#[32]⟩] (w.alloc (.cells #[.int .i64 0, .string ⟨#[]⟩, .string ⟨#[]⟩, .int .u32 0, .int .i64 0, .int .u32 0, .int .i64 0] 74)) fun e w1 => e = .returned (.slice (some ⟨w.heap.size + 1, 0, none⟩) n n) ∧ w1.cell? ⟨w.heap.size + 1, 0, none⟩ = some (.string s0) ∧ w.heap.size + 1 < w1.heap.size ∧ Blk w1 w.heap.size #[.int .i64 0, .string ⟨#[]⟩, .string ⟨#[]⟩, .int .u32 0, .int .i64 0, .int .u32 0, .int .i64 0] 74 ∧ Below w.heap.size w w1 ∧ ROW w1))
    (HV : Hid (∀ W, Below w.heap.size w W → Calls Tryz.prog 50 #[.string s0] W fun e w' => e = .returned (.tuple #[.int .i64 v, .bool true]) ∧ Below W.heap.size W w'))
    (HP : Hid (∀ w1 w2, ROW w1 → w.heap.size + 1 < w1.heap.size → Below w.heap.size w w1 → Below w1.heap.size w1 w2 → Calls Tryz.prog 51 #[.pointer (some ⟨w2.heap.size, 0, none⟩), .agg #[.int .i64 p0, .int .i64 p1, .int .i64 p2, .int .i64 p3], .slice (some ⟨w.heap.size + 1, 1, none⟩) (n - 1) (n - 1)] (w2.alloc (.cells #[.int .i64 v, .string ⟨#[]⟩, .string ⟨#[]⟩, .int .u32 0, .int .i64 0, .int .u32 0, .int .i64 0] 74)).drew fun e w' => e = .returned (.bool false) ∧ Chg (fun b => b = w2.heap.size) (w2.alloc (.cells #[.int .i64 v, .string ⟨#[]⟩, .string ⟨#[]⟩, .int .u32 0, .int .i64 0, .int .u32 0, .int .i64 0] 74)) w')) :
    Calls Tryz.prog 30 #[.string s] w fun e w' => e = .returned (.tuple #[.agg #[.int .i64 0, .string ⟨#[]⟩, .string ⟨#[]⟩, .int .u32 0, .int .i64 0, .int .u32 0, .int .i64 0], .bool false]) ∧ Below w.heap.size w w' := by
  have h1 : ¬ (100 : Int) < (s.size : Int) := by omega
  have h2 : (0 : Int) < (n : Int) := by omega
  have h4 : (1 : Int) ≤ (n : Int) := by omega
  have h3 : (v : Int) < 11 := by omega
  have h5 : (0 : Int) ≤ (v : Int) := by omega
  go_enter Tryz.func30, Tryz.ntmps30
  go_wp2_with (first | (go_at_call 49; refine HS.out.mono ?_; rintro e w1 ⟨rfl, k10, z1, rB, hb1, hrow⟩; replace rB : Hid (Blk w1 w.heap.size #[.int .i64 0, .string ⟨#[]⟩, .string ⟨#[]⟩, .int .u32 0, .int .i64 0, .int .u32 0, .int .i64 0] 74) := rB; replace hb1 : Hid (Below w.heap.size w w1) := hb1; replace hrow : Hid (ROW w1) := hrow; have r0 : w1.cell? ⟨w.heap.size, 0, none⟩ = some (.int .i64 0) := rB.out.cell 0; have rf0 := rB.out.frozen 0; have r1 : w1.cell? ⟨w.heap.size, 1, none⟩ = some (.string ⟨#[]⟩) := rB.out.cell 1; have rf1 := rB.out.frozen 1; have r2 : w1.cell? ⟨w.heap.size, 2, none⟩ = some (.string ⟨#[]⟩) := rB.out.cell 2; have rf2 := rB.out.frozen 2; have r3 : w1.cell? ⟨w.heap.size, 3, none⟩ = some (.int .u32 0) := rB.out.cell 3; have rf3 := rB.out.frozen 3; have r4 : w1.cell? ⟨w.heap.size, 4, none⟩ = some (.int .i64 0) := rB.out.cell 4; have rf4 := rB.out.frozen 4; have r5 : w1.cell? ⟨w.heap.size, 5, none⟩ = some (.int .u32 0) := rB.out.cell 5; have rf5 := rB.out.frozen 5; have r6 : w1.cell? ⟨w.heap.size, 6, none⟩ = some (.int .i64 0) := rB.out.cell 6; have rf6 := rB.out.frozen 6; have rz := rB.out.lt) | (go_at_call 50; refine (HV.out _ hb1.out).mono ?_; rintro e w2 ⟨rfl, hq2⟩; have hb2 : Hid (Below w1.heap.size w1 w2) := hq2; clear hq2; have qB : Hid (Blk w2 w.heap.size #[.int .i64 0, .string ⟨#[]⟩, .string ⟨#[]⟩, .int .u32 0, .int .i64 0, .int .u32 0, .int .i64 0] 74) := rB.out.below hb2.out; have q0 : w2.cell? ⟨w.heap.size, 0, none⟩ = some (.int .i64 0) := qB.out.cell 0; have qf0 := qB.out.frozen 0; have q1 : w2.cell? ⟨w.heap.size, 1, none⟩ = some (.string ⟨#[]⟩) := qB.out.cell 1; have qf1 := qB.out.frozen 1; have q2 : w2.cell? ⟨w.heap.size, 2, none⟩ = some (.string ⟨#[]⟩) := qB.out.cell 2; have qf2 := qB.out.frozen 2; have q3 : w2.cell? ⟨w.heap.size, 3, none⟩ = some (.int .u32 0) := qB.out.cell 3; have qf3 := qB.out.frozen 3; have q4 : w2.cell? ⟨w.heap.size, 4, none⟩ = some (.int .i64 0) := qB.out.cell 4; have qf4 := qB.out.frozen 4; have q5 : w2.cell? ⟨w.heap.size, 5, none⟩ = some (.int .u32 0) := qB.out.cell 5; have qf5 := qB.out.frozen 5; have q6 : w2.cell? ⟨w.heap.size, 6, none⟩ = some (.int .i64 0) := qB.out.cell 6; have qf6 := qB.out.frozen 6; have qz := qB.out.lt; clear r0 rf0 r1 rf1 r2 rf2 r3 rf3 r4 rf4 r5 rf5 r6 rf6; have zg : 0 < w2.heap.size := Nat.lt_of_lt_of_le hF (Nat.le_trans hb1.out.size hb2.out.size); have fm0 : w2.cell? ⟨0, v * 5 + 1, none⟩ = some (.int .i64 p0) := ((hb1.out.trans (hb2.out.mono hb1.out.size)).cell (p := ⟨0, v * 5 + 1, none⟩) hF).trans (HF.out.1); have fm1 : w2.cell? ⟨0, v * 5 + 2, none⟩ = some (.int .i64 p1) := ((hb1.out.trans (hb2.out.mono hb1.out.size)).cell (p := ⟨0, v * 5 + 2, none⟩) hF).trans (HF.out.2.1); have fm2 : w2.cell? ⟨0, v * 5 + 3, none⟩ = some (.int .i64 p2) := ((hb1.out.trans (hb2.out.mono hb1.out.size)).cell (p := ⟨0, v * 5 + 3, none⟩) hF).trans (HF.out.2.2.1); have fm3 : w2.cell? ⟨0, v * 5 + 4, none⟩ = some (.int .i64 p3) := ((hb1.out.trans (hb2.out.mono hb1.out.size)).cell (p := ⟨0, v * 5 + 4, none⟩) hF).trans (HF.out.2.2.2)))
  go_region_held3 (fun w' => w'.cell? ⟨0, v * 5 + 1, none⟩ = some (.int .i64 p0) ∧ w'.cell? ⟨0, v * 5 + 2, none⟩ = some (.int .i64 p1) ∧ w'.cell? ⟨0, v * 5 + 3, none⟩ = some (.int .i64 p2) ∧ w'.cell? ⟨0, v * 5 + 4, none⟩ = some (.int .i64 p3)) (go_keep) (first | (go_at_call 51; refine (HP.out w1 w2 hrow.out z1 hb1.out hb2.out).mono ?_; rintro e w3 ⟨rfl, hc3⟩; replace hc3 : Hid (Chg (fun b => b = w2.heap.size) (w2.alloc (.cells #[.int .i64 v, .string ⟨#[]⟩, .string ⟨#[]⟩, .int .u32 0, .int .i64 0, .int .u32 0, .int .i64 0] 74)) w3) := hc3; have sB : Hid (Blk w3 w.heap.size #[.int .i64 0, .string ⟨#[]⟩, .string ⟨#[]⟩, .int .u32 0, .int .i64 0, .int .u32 0, .int .i64 0] 74) := rd_keep qB.out hc3.out; have s0 : w3.cell? ⟨w.heap.size, 0, none⟩ = some (.int .i64 0) := sB.out.cell 0; have sf0 := sB.out.frozen 0; have s1 : w3.cell? ⟨w.heap.size, 1, none⟩ = some (.string ⟨#[]⟩) := sB.out.cell 1; have sf1 := sB.out.frozen 1; have s2 : w3.cell? ⟨w.heap.size, 2, none⟩ = some (.string ⟨#[]⟩) := sB.out.cell 2; have sf2 := sB.out.frozen 2; have s3 : w3.cell? ⟨w.heap.size, 3, none⟩ = some (.int .u32 0) := sB.out.cell 3; have sf3 := sB.out.frozen 3; have s4 : w3.cell? ⟨w.heap.size, 4, none⟩ = some (.int .i64 0) := sB.out.cell 4; have sf4 := sB.out.frozen 4; have s5 : w3.cell? ⟨w.heap.size, 5, none⟩ = some (.int .u32 0) := sB.out.cell 5; have sf5 := sB.out.frozen 5; have s6 : w3.cell? ⟨w.heap.size, 6, none⟩ = some (.int .i64 0) := sB.out.cell 6; have sf6 := sB.out.frozen 6; have sz3 := sB.out.lt; have gm0 := rd_cell zg fm0 hc3.out; have gm1 := rd_cell zg fm1 hc3.out; have gm2 := rd_cell zg fm2 hc3.out; have gm3 := rd_cell zg fm3 hc3.out))
  all_goals (
    go_wp2
    have kk := seven_set sB.out (.int .i64 0) (.string ⟨#[]⟩) (.string ⟨#[]⟩) (.int .u32 0) (.int .i64 0) (.int .u32 0) (.int .i64 0)
    have kk0 := kk.cell 0
    have kk1 := kk.cell 1
    have kk2 := kk.cell 2
    have kk3 := kk.cell 3
    have kk4 := kk.cell 4
    have kk5 := kk.cell 5
    have kk6 := kk.cell 6
    clear kk
    have hq := rd_below hb1.out hb2.out hc3.out
    have hz := hq.size
    exact bodyPost_ret (v := .tuple #[.agg #[.int .i64 0, .string ⟨#[]⟩, .string ⟨#[]⟩, .int .u32 0, .int .i64 0, .int .u32 0, .int .i64 0], .bool false]) (by simp [results, Tryz.results30, go_sem, kk0, kk1, kk2, kk3, kk4, kk5, kk6]) rfl ⟨rfl, (by repeat' (first | with_reducible assumption | with_reducible exact Below.refl _ _ | with_reducible apply Below.drew | with_reducible apply below_drewN | with_reducible apply Below.setCell | with_reducible apply Below.alloc | omega | (simp; done) | (simp; omega)))⟩)
set_option maxRecDepth 100000 in
set_option maxHeartbeats 400000 in
theorem read_good (s : ByteArray) (w : World) (n : Nat) (hn : 1 ≤ n) (hn1 : ¬ n = 1) (s0 : ByteArray) (hs : s.size ≤ 100) (ROW : World → Prop) (v p0 p1 p2 p3 : Nat) (hv : v < 11) (hF : 0 < w.heap.size) (HF : Hid (w.cell? ⟨0, v * 5 + 1, none⟩ = some (.int .i64 p0) ∧ w.cell? ⟨0, v * 5 + 2, none⟩ = some (.int .i64 p1) ∧ w.cell? ⟨0, v * 5 + 3, none⟩ = some (.int .i64 p2) ∧ w.cell? ⟨0, v * 5 + 4, none⟩ = some (.int .i64 p3))) (HS : Hid (Calls Tryz.prog 49 #[.string s, .string ⟨#[32]⟩] (w.alloc (.cells #[.int .i64 0, .string ⟨#[]⟩, .string ⟨#[]⟩, .int .u32 0, .int .i64 0, .int .u32 0, .int .i64 0] 74)) fun e w1 => e = .returned (.slice (some ⟨w.heap.size + 1, 0, none⟩) n n) ∧ w1.cell? ⟨w.heap.size + 1, 0, none⟩ = some (.string s0) ∧ w.heap.size + 1 < w1.heap.size ∧ Blk w1 w.heap.size #[.int .i64 0, .string ⟨#[]⟩, .string ⟨#[]⟩, .int .u32 0, .int .i64 0, .int .u32 0, .int .i64 0] 74 ∧ Below w.heap.size w w1 ∧ ROW w1))
    (HV : Hid (∀ W, Below w.heap.size w W → Calls Tryz.prog 50 #[.string s0] W fun e w' => e = .returned (.tuple #[.int .i64 v, .bool true]) ∧ Below W.heap.size W w')) (l' : Ln)
    (HP : Hid (∀ w1 w2, ROW w1 → w.heap.size + 1 < w1.heap.size → Below w.heap.size w w1 → Below w1.heap.size w1 w2 → Calls Tryz.prog 51 #[.pointer (some ⟨w2.heap.size, 0, none⟩), .agg #[.int .i64 p0, .int .i64 p1, .int .i64 p2, .int .i64 p3], .slice (some ⟨w.heap.size + 1, 1, none⟩) (n - 1) (n - 1)] (w2.alloc (.cells #[.int .i64 v, .string ⟨#[]⟩, .string ⟨#[]⟩, .int .u32 0, .int .i64 0, .int .u32 0, .int .i64 0] 74)).drew fun e w' => e = .returned (.bool true) ∧ Blk w' w2.heap.size (lnC l') 74 ∧ Chg (fun b => b = w2.heap.size) (w2.alloc (.cells #[.int .i64 v, .string ⟨#[]⟩, .string ⟨#[]⟩, .int .u32 0, .int .i64 0, .int .u32 0, .int .i64 0] 74)) w')) :
    Calls Tryz.prog 30 #[.string s] w fun e w' => e = .returned (.tuple #[.agg (lnC l'), .bool true]) ∧ Below w.heap.size w w' := by
  have h1 : ¬ (100 : Int) < (s.size : Int) := by omega
  have h2 : (0 : Int) < (n : Int) := by omega
  have h4 : (1 : Int) ≤ (n : Int) := by omega
  have h3 : (v : Int) < 11 := by omega
  have h5 : (0 : Int) ≤ (v : Int) := by omega
  go_enter Tryz.func30, Tryz.ntmps30
  go_wp2_with (first | (go_at_call 49; refine HS.out.mono ?_; rintro e w1 ⟨rfl, k10, z1, rB, hb1, hrow⟩; replace rB : Hid (Blk w1 w.heap.size #[.int .i64 0, .string ⟨#[]⟩, .string ⟨#[]⟩, .int .u32 0, .int .i64 0, .int .u32 0, .int .i64 0] 74) := rB; replace hb1 : Hid (Below w.heap.size w w1) := hb1; replace hrow : Hid (ROW w1) := hrow; have r0 : w1.cell? ⟨w.heap.size, 0, none⟩ = some (.int .i64 0) := rB.out.cell 0; have rf0 := rB.out.frozen 0; have r1 : w1.cell? ⟨w.heap.size, 1, none⟩ = some (.string ⟨#[]⟩) := rB.out.cell 1; have rf1 := rB.out.frozen 1; have r2 : w1.cell? ⟨w.heap.size, 2, none⟩ = some (.string ⟨#[]⟩) := rB.out.cell 2; have rf2 := rB.out.frozen 2; have r3 : w1.cell? ⟨w.heap.size, 3, none⟩ = some (.int .u32 0) := rB.out.cell 3; have rf3 := rB.out.frozen 3; have r4 : w1.cell? ⟨w.heap.size, 4, none⟩ = some (.int .i64 0) := rB.out.cell 4; have rf4 := rB.out.frozen 4; have r5 : w1.cell? ⟨w.heap.size, 5, none⟩ = some (.int .u32 0) := rB.out.cell 5; have rf5 := rB.out.frozen 5; have r6 : w1.cell? ⟨w.heap.size, 6, none⟩ = some (.int .i64 0) := rB.out.cell 6; have rf6 := rB.out.frozen 6; have rz := rB.out.lt) | (go_at_call 50; refine (HV.out _ hb1.out).mono ?_; rintro e w2 ⟨rfl, hq2⟩; have hb2 : Hid (Below w1.heap.size w1 w2) := hq2; clear hq2; have qB : Hid (Blk w2 w.heap.size #[.int .i64 0, .string ⟨#[]⟩, .string ⟨#[]⟩, .int .u32 0, .int .i64 0, .int .u32 0, .int .i64 0] 74) := rB.out.below hb2.out; have q0 : w2.cell? ⟨w.heap.size, 0, none⟩ = some (.int .i64 0) := qB.out.cell 0; have qf0 := qB.out.frozen 0; have q1 : w2.cell? ⟨w.heap.size, 1, none⟩ = some (.string ⟨#[]⟩) := qB.out.cell 1; have qf1 := qB.out.frozen 1; have q2 : w2.cell? ⟨w.heap.size, 2, none⟩ = some (.string ⟨#[]⟩) := qB.out.cell 2; have qf2 := qB.out.frozen 2; have q3 : w2.cell? ⟨w.heap.size, 3, none⟩ = some (.int .u32 0) := qB.out.cell 3; have qf3 := qB.out.frozen 3; have q4 : w2.cell? ⟨w.heap.size, 4, none⟩ = some (.int .i64 0) := qB.out.cell 4; have qf4 := qB.out.frozen 4; have q5 : w2.cell? ⟨w.heap.size, 5, none⟩ = some (.int .u32 0) := qB.out.cell 5; have qf5 := qB.out.frozen 5; have q6 : w2.cell? ⟨w.heap.size, 6, none⟩ = some (.int .i64 0) := qB.out.cell 6; have qf6 := qB.out.frozen 6; have qz := qB.out.lt; clear r0 rf0 r1 rf1 r2 rf2 r3 rf3 r4 rf4 r5 rf5 r6 rf6; have zg : 0 < w2.heap.size := Nat.lt_of_lt_of_le hF (Nat.le_trans hb1.out.size hb2.out.size); have fm0 : w2.cell? ⟨0, v * 5 + 1, none⟩ = some (.int .i64 p0) := ((hb1.out.trans (hb2.out.mono hb1.out.size)).cell (p := ⟨0, v * 5 + 1, none⟩) hF).trans (HF.out.1); have fm1 : w2.cell? ⟨0, v * 5 + 2, none⟩ = some (.int .i64 p1) := ((hb1.out.trans (hb2.out.mono hb1.out.size)).cell (p := ⟨0, v * 5 + 2, none⟩) hF).trans (HF.out.2.1); have fm2 : w2.cell? ⟨0, v * 5 + 3, none⟩ = some (.int .i64 p2) := ((hb1.out.trans (hb2.out.mono hb1.out.size)).cell (p := ⟨0, v * 5 + 3, none⟩) hF).trans (HF.out.2.2.1); have fm3 : w2.cell? ⟨0, v * 5 + 4, none⟩ = some (.int .i64 p3) := ((hb1.out.trans (hb2.out.mono hb1.out.size)).cell (p := ⟨0, v * 5 + 4, none⟩) hF).trans (HF.out.2.2.2)))
  go_region_held3 (fun w' => w'.cell? ⟨0, v * 5 + 1, none⟩ = some (.int .i64 p0) ∧ w'.cell? ⟨0, v * 5 + 2, none⟩ = some (.int .i64 p1) ∧ w'.cell? ⟨0, v * 5 + 3, none⟩ = some (.int .i64 p2) ∧ w'.cell? ⟨0, v * 5 + 4, none⟩ = some (.int .i64 p3)) (go_keep) (first | (go_at_call 51; refine (HP.out w1 w2 hrow.out z1 hb1.out hb2.out).mono ?_; rintro e w3 ⟨rfl, lB, hc3⟩; replace lB : Hid (Blk w3 w2.heap.size (lnC l') 74) := lB; replace hc3 : Hid (Chg (fun b => b = w2.heap.size) (w2.alloc (.cells #[.int .i64 v, .string ⟨#[]⟩, .string ⟨#[]⟩, .int .u32 0, .int .i64 0, .int .u32 0, .int .i64 0] 74)) w3) := hc3; have sB : Hid (Blk w3 w.heap.size #[.int .i64 0, .string ⟨#[]⟩, .string ⟨#[]⟩, .int .u32 0, .int .i64 0, .int .u32 0, .int .i64 0] 74) := rd_keep qB.out hc3.out; have s0 : w3.cell? ⟨w.heap.size, 0, none⟩ = some (.int .i64 0) := sB.out.cell 0; have sf0 := sB.out.frozen 0; have s1 : w3.cell? ⟨w.heap.size, 1, none⟩ = some (.string ⟨#[]⟩) := sB.out.cell 1; have sf1 := sB.out.frozen 1; have s2 : w3.cell? ⟨w.heap.size, 2, none⟩ = some (.string ⟨#[]⟩) := sB.out.cell 2; have sf2 := sB.out.frozen 2; have s3 : w3.cell? ⟨w.heap.size, 3, none⟩ = some (.int .u32 0) := sB.out.cell 3; have sf3 := sB.out.frozen 3; have s4 : w3.cell? ⟨w.heap.size, 4, none⟩ = some (.int .i64 0) := sB.out.cell 4; have sf4 := sB.out.frozen 4; have s5 : w3.cell? ⟨w.heap.size, 5, none⟩ = some (.int .u32 0) := sB.out.cell 5; have sf5 := sB.out.frozen 5; have s6 : w3.cell? ⟨w.heap.size, 6, none⟩ = some (.int .i64 0) := sB.out.cell 6; have sf6 := sB.out.frozen 6; have t0 : w3.cell? ⟨w2.heap.size, 0, none⟩ = some (.int .i64 l'.v) := lB.out.cell 0; have t1 : w3.cell? ⟨w2.heap.size, 1, none⟩ = some (.string l'.t) := lB.out.cell 1; have t2 : w3.cell? ⟨w2.heap.size, 2, none⟩ = some (.string l'.o) := lB.out.cell 2; have t3 : w3.cell? ⟨w2.heap.size, 3, none⟩ = some (.int .u32 l'.a) := lB.out.cell 3; have t4 : w3.cell? ⟨w2.heap.size, 4, none⟩ = some (.int .i64 l'.n) := lB.out.cell 4; have t5 : w3.cell? ⟨w2.heap.size, 5, none⟩ = some (.int .u32 l'.d) := lB.out.cell 5; have t6 : w3.cell? ⟨w2.heap.size, 6, none⟩ = some (.int .i64 l'.g) := lB.out.cell 6; have tz := lB.out.lt; have sz3 := sB.out.lt; have gm0 := rd_cell zg fm0 hc3.out; have gm1 := rd_cell zg fm1 hc3.out; have gm2 := rd_cell zg fm2 hc3.out; have gm3 := rd_cell zg fm3 hc3.out))
  all_goals (
    go_wp2
    have kk := seven_set sB.out (.int .i64 l'.v) (.string l'.t) (.string l'.o) (.int .u32 l'.a) (.int .i64 l'.n) (.int .u32 l'.d) (.int .i64 l'.g)
    have kk0 := kk.cell 0
    have kk1 := kk.cell 1
    have kk2 := kk.cell 2
    have kk3 := kk.cell 3
    have kk4 := kk.cell 4
    have kk5 := kk.cell 5
    have kk6 := kk.cell 6
    clear kk
    have hq := rd_below hb1.out hb2.out hc3.out
    have hz := hq.size
    exact bodyPost_ret (v := (.tuple #[.agg (lnC l'), .bool true])) (by simp [results, Tryz.results30, go_sem, kk0, kk1, kk2, kk3, kk4, kk5, kk6, lnC]) rfl ⟨rfl, (by repeat' (first | with_reducible assumption | with_reducible exact Below.refl _ _ | with_reducible apply Below.drew | with_reducible apply below_drewN | with_reducible apply Below.setCell | with_reducible apply Below.alloc | omega | (simp; done) | (simp; omega)))⟩)
end Go.Proofs.YtlikdnmikdldfaaGreatDoor
namespace Go.Proofs.YtlikdnmikdldfaaGreatDoor
open Go.ChangeShapes Go.WideShapes Go.ChangeAt Go.RowKit
set_option linter.unusedVariables false
set_option linter.unusedSimpArgs false

theorem cps_nil (l : Ln) (k : Nat) : cps l (List.replicate k 0) [] = some l := by
  cases k <;> simp [cps, List.replicate_succ]
theorem cps_eq (k : Nat) : ∀ (ps : List Nat) (ws : List (List UInt8)) (l : Ln), (∀ p, p ∈ ps → p ≠ 0) → ws.length ≤ ps.length + k → cps l (ps ++ List.replicate k 0) ws = rdParts l ps ws
  | [], [], l, _, _ => by rw [List.nil_append, cps_nil]; rfl
  | [], w :: ws, l, _, h => by
    obtain ⟨k, rfl⟩ : ∃ q, k = q + 1 := ⟨k - 1, by simp at h; omega⟩
    rw [List.nil_append, List.replicate_succ]
    rfl
  | p :: ps, [], l, hp, _ => by
    have := hp p (by simp)
    simp [cps, rdParts, this]
  | p :: ps, w :: ws, l, hp, h => by
    rw [List.cons_append]
    simp only [cps, rdParts]
    rcases rdPart l p w with _ | l'
    · rfl
    · exact cps_eq k ps ws l' (fun q hq => hp q (by simp [hq])) (by simp at h; omega)
theorem rdParts_len : ∀ (ps : List Nat) (ws : List (List UInt8)) (l l' : Ln), rdParts l ps ws = some l' → ws.length = ps.length
  | [], [], _, _, _ => rfl
  | [], _ :: _, l, l', h => by simp [rdParts] at h
  | _ :: _, [], l, l', h => by simp [rdParts] at h
  | p :: ps, w :: ws, l, l', h => by
    rw [rdParts] at h
    split at h
    · have := rdParts_len ps ws _ l' h
      simp [this]
    · cases h
def fmP (v j : Nat) : Nat := (form v).getD j 0
theorem form_pad (v : Nat) (h : v < 11) : [fmP v 0, fmP v 1, fmP v 2, fmP v 3] = form v ++ List.replicate (4 - (form v).length) 0 ∧ (∀ p, p ∈ form v → p ≠ 0) ∧ (form v).length ≤ 4 ∧ fmP v 0 ≤ 5 ∧ fmP v 1 ≤ 5 ∧ fmP v 2 ≤ 5 ∧ fmP v 3 ≤ 5 := by
  have : ∀ v : Fin 11, [fmP v 0, fmP v 1, fmP v 2, fmP v 3] = form v ++ List.replicate (4 - (form v).length) 0 ∧ (∀ p, p ∈ form v → p ≠ 0) ∧ (form v).length ≤ 4 ∧ fmP v 0 ≤ 5 ∧ fmP v 1 ≤ 5 ∧ fmP v 2 ≤ 5 ∧ fmP v 3 ≤ 5 := by decide +kernel
  exact this ⟨v, h⟩
theorem form_cells (v : Nat) (h : v < 11) : formsC[v * 5 + 1]? = some (.int .i64 (fmP v 0)) ∧ formsC[v * 5 + 2]? = some (.int .i64 (fmP v 1)) ∧ formsC[v * 5 + 3]? = some (.int .i64 (fmP v 2)) ∧ formsC[v * 5 + 4]? = some (.int .i64 (fmP v 3)) := by
  have hc : v = 0 ∨ v = 1 ∨ v = 2 ∨ v = 3 ∨ v = 4 ∨ v = 5 ∨ v = 6 ∨ v = 7 ∨ v = 8 ∨ v = 9 ∨ v = 10 := by omega
  rcases hc with rfl | rfl | rfl | rfl | rfl | rfl | rfl | rfl | rfl | rfl | rfl <;> exact ⟨rfl, rfl, rfl, rfl⟩
/-- what a verb's words are read as -/
theorem cps_form (v : Nat) (h : v < 11) (ws : List (List UInt8)) (hw : ws.length ≤ 4) (l : Ln) : cps l [fmP v 0, fmP v 1, fmP v 2, fmP v 3] ws = rdParts l (form v) ws := by
  obtain ⟨h1, h2, h3, _⟩ := form_pad v h
  rw [h1]
  exact cps_eq _ _ _ _ h2 (by omega)
def rlC (s : ByteArray) : Ln := (rdLine s.data.toList).getD (ln0 0)
def rlOk (s : ByteArray) : Bool := (rdLine s.data.toList).isSome
theorem lread_any (s : ByteArray) (w : World) (E : EnvT w) (hZ : 10 ≤ w.heap.size) :
    Calls Tryz.prog 30 #[.string s] w fun e w' => e = .returned (.tuple #[.agg (lnC (rlC s)), .bool (rlOk s)]) ∧ Below w.heap.size w w' := by
  have hl := Lib.size_eq s
  by_cases hs : s.size ≤ 100
  · obtain ⟨LL, hLL⟩ : ∃ L : List ByteArray, L.map (fun x => x.data.toList) = parts 32 s.data.toList ∧ ∀ W, Env W → Calls Tryz.prog 49 #[.string s, .string ⟨#[32]⟩] W fun e w' => e = .returned (.slice (some ⟨W.heap.size, 0, none⟩) L.length L.length) ∧ w' = W.alloc (.cells (L.map Value.string).toArray 9) := by
      refine ⟨(parts 32 s.data.toList).map bs, by rw [List.map_map]; exact (List.map_congr_left fun x _ => bs_data x).trans (List.map_id _), fun W EW => ?_⟩
      refine (split_any s W EW (by omega)).mono ?_
      rintro e w' ⟨L, h1, rfl, rfl⟩
      have h2 : L = (parts 32 s.data.toList).map bs := by
        rw [← h1, List.map_map]
        exact ((List.map_congr_left fun x _ => (bs_of x)).trans (List.map_id _)).symm
      rw [← h2]
      exact ⟨rfl, rfl⟩
    obtain ⟨hmap, hsp⟩ := hLL
    obtain ⟨s0, Lr, rfl⟩ : ∃ s0 Lr, LL = s0 :: Lr := by
      rcases LL with _ | ⟨a, b⟩
      · have := parts_pos 32 s.data.toList
        rw [← hmap] at this; simp at this
      · exact ⟨a, b, rfl⟩
    have hpt : parts 32 s.data.toList = s0.data.toList :: Lr.map (fun x => x.data.toList) := by rw [← hmap]; rfl
    have hrl : rdLine s.data.toList = if fi (fun v => v == s0.data.toList) verbT < 0 then none else rdParts (ln0 (fi (fun v => v == s0.data.toList) verbT).toNat) (form (fi (fun v => v == s0.data.toList) verbT).toNat) (Lr.map (fun x => x.data.toList)) := by
      unfold rdLine
      rw [if_pos (by omega), hpt]
    have hsz : ∀ k, (Lr.getD k ⟨#[]⟩).size ≤ 2097152 := fun k => by
      have h1 := part_len 32 s.data.toList (k + 1)
      rw [hpt] at h1
      have h2 : ((s0.data.toList :: Lr.map (fun x => x.data.toList)).getD (k + 1) []) = (Lr.getD k ⟨#[]⟩).data.toList := by
        simp only [List.getD_cons_succ]
        rw [List.getD_eq_getElem?_getD, List.getD_eq_getElem?_getD, List.getElem?_map]
        rcases Lr[k]? with _ | x <;> rfl
      rw [h2] at h1
      have h3 := Lib.size_eq (Lr.getD k ⟨#[]⟩)
      omega
    have ROWd : ∃ ROW : World → Prop, ROW = fun w1 => ∀ k, k < Lr.length → w1.cell? ⟨w.heap.size + 1, k + 1, none⟩ = some (.string (Lr.getD k ⟨#[]⟩)) := ⟨_, rfl⟩
    obtain ⟨ROW, hROW⟩ := ROWd
    have hb0 : Below w.heap.size w (w.alloc (.cells #[.int .i64 0, .string ⟨#[]⟩, .string ⟨#[]⟩, .int .u32 0, .int .i64 0, .int .u32 0, .int .i64 0] 74)) := (by repeat' (first | with_reducible assumption | with_reducible exact Below.refl _ _ | with_reducible apply Below.drew | with_reducible apply below_drewN | with_reducible apply Below.setCell | with_reducible apply Below.alloc | omega | (simp; done) | (simp; omega)))
    have HS : Hid (Calls Tryz.prog 49 #[.string s, .string ⟨#[32]⟩] (w.alloc (.cells #[.int .i64 0, .string ⟨#[]⟩, .string ⟨#[]⟩, .int .u32 0, .int .i64 0, .int .u32 0, .int .i64 0] 74)) fun e w1 => e = .returned (.slice (some ⟨w.heap.size + 1, 0, none⟩) (Lr.length + 1) (Lr.length + 1)) ∧ w1.cell? ⟨w.heap.size + 1, 0, none⟩ = some (.string s0) ∧ w.heap.size + 1 < w1.heap.size ∧ Blk w1 w.heap.size #[.int .i64 0, .string ⟨#[]⟩, .string ⟨#[]⟩, .int .u32 0, .int .i64 0, .int .u32 0, .int .i64 0] 74 ∧ Below w.heap.size w w1 ∧ ROW w1) := by
      refine (hsp _ (E.env.mono hb0)).mono ?_
      rintro e w1 ⟨rfl, rfl⟩
      have hz : (w.alloc (.cells #[.int .i64 0, .string ⟨#[]⟩, .string ⟨#[]⟩, .int .u32 0, .int .i64 0, .int .u32 0, .int .i64 0] 74)).heap.size = w.heap.size + 1 := by simp
      have B := Blk.new (w.alloc (.cells #[.int .i64 0, .string ⟨#[]⟩, .string ⟨#[]⟩, .int .u32 0, .int .i64 0, .int .u32 0, .int .i64 0] 74)) ((s0 :: Lr).map Value.string).toArray 9
      rw [hz] at B
      refine ⟨by rw [hz]; rfl, B.cell 0, by simp, (Blk.new w _ _).below (by repeat' (first | with_reducible assumption | with_reducible exact Below.refl _ _ | with_reducible apply Below.drew | with_reducible apply below_drewN | with_reducible apply Below.setCell | with_reducible apply Below.alloc | omega | (simp; done) | (simp; omega))), (by repeat' (first | with_reducible assumption | with_reducible exact Below.refl _ _ | with_reducible apply Below.drew | with_reducible apply below_drewN | with_reducible apply Below.setCell | with_reducible apply Below.alloc | omega | (simp; done) | (simp; omega))), ?_⟩
      rw [hROW]
      intro k hk
      rw [B.cell (k + 1)]
      simp [List.getD_eq_getElem?_getD, List.getElem?_eq_getElem hk]
    have hW0 : ∀ W, Below w.heap.size w W → EnvT W := fun W hW => E.mono hW
    have hvb : ∀ W, Below w.heap.size w W → _ := fun W hW => readVerb_any s0 W (E.mono hW)
    by_cases hneg : fi (fun v => v == s0.data.toList) verbT < 0
    · rw [if_pos hneg] at hrl
      have e1 : rlC s = ln0 0 := by unfold rlC; rw [hrl]; rfl
      have e2 : rlOk s = false := by unfold rlOk; rw [hrl]; rfl
      rw [e1, e2]
      refine read_unknown s w (Lr.length + 1) (by omega) s0 hs ROW E.lf HS fun W hW => ?_
      have := hvb W hW
      rw [if_pos hneg, decide_eq_true hneg] at this
      exact this
    · rw [if_neg hneg] at hrl
      obtain ⟨v, hv11, hv⟩ : ∃ v : Nat, v < 11 ∧ fi (fun v => v == s0.data.toList) verbT = (v : Int) := by
        rcases fi_cases (fun v => v == s0.data.toList) verbT [] with ⟨q, _⟩ | ⟨k, hk, q, _, _⟩
        · rw [q] at hneg; omega
        · exact ⟨k, hk, q⟩
      rw [hv, Int.toNat_natCast] at hrl
      have HV : Hid (∀ W, Below w.heap.size w W → Calls Tryz.prog 50 #[.string s0] W fun e w' => e = .returned (.tuple #[.int .i64 v, .bool true]) ∧ Below W.heap.size W w') := fun W hW => by
        have := hvb W hW
        rw [if_neg hneg, decide_eq_false hneg, hv] at this
        exact this
      obtain ⟨c0, c1, c2, c3⟩ := form_cells v hv11
      have HF : Hid (w.cell? ⟨0, v * 5 + 1, none⟩ = some (.int .i64 (fmP v 0)) ∧ w.cell? ⟨0, v * 5 + 2, none⟩ = some (.int .i64 (fmP v 1)) ∧ w.cell? ⟨0, v * 5 + 3, none⟩ = some (.int .i64 (fmP v 2)) ∧ w.cell? ⟨0, v * 5 + 4, none⟩ = some (.int .i64 (fmP v 3))) :=
        ⟨E.fm _ _ c0, E.fm _ _ c1, E.fm _ _ c2, E.fm _ _ c3⟩
      obtain ⟨_, _, hf4, hpp⟩ := form_pad v hv11
      obtain ⟨ln, hln⟩ : ∃ ln, ln = ln0 v := ⟨_, rfl⟩
      have hP : ∀ (ba : Option Addr) (hbb : 0 < Lr.length → ba = some ⟨w.heap.size + 1, 1, none⟩) (w1 w2 : World), ROW w1 → w.heap.size + 1 < w1.heap.size → Below w.heap.size w w1 → Below w1.heap.size w1 w2 →
          Calls Tryz.prog 51 #[.pointer (some ⟨w2.heap.size, 0, none⟩), .agg #[.int .i64 (fmP v 0), .int .i64 (fmP v 1), .int .i64 (fmP v 2), .int .i64 (fmP v 3)], .slice ba Lr.length Lr.length] (w2.alloc (.cells #[.int .i64 v, .string ⟨#[]⟩, .string ⟨#[]⟩, .int .u32 0, .int .i64 0, .int .u32 0, .int .i64 0] 74)).drew fun e w' =>
            e = .returned (.bool (rlOk s)) ∧ (∀ l', rdLine s.data.toList = some l' → Blk w' w2.heap.size (lnC l') 74) ∧ Chg (fun b => b = w2.heap.size) (w2.alloc (.cells #[.int .i64 v, .string ⟨#[]⟩, .string ⟨#[]⟩, .int .u32 0, .int .i64 0, .int .u32 0, .int .i64 0] 74)) w' := by
        intro ba hbb w1 w2 hr hz1 hb1 hb2
        have hq := hb1.trans (hb2.mono hb1.size)
        have hzq := hq.size
        have hz2 := hb2.size
        have hWb : Below w2.heap.size w2 (w2.alloc (.cells #[.int .i64 v, .string ⟨#[]⟩, .string ⟨#[]⟩, .int .u32 0, .int .i64 0, .int .u32 0, .int .i64 0] 74)).drew := (by repeat' (first | with_reducible assumption | with_reducible exact Below.refl _ _ | with_reducible apply Below.drew | with_reducible apply below_drewN | with_reducible apply Below.setCell | with_reducible apply Below.alloc | omega | (simp; done) | (simp; omega)))
        have hWd : Below (w2.alloc (.cells #[.int .i64 v, .string ⟨#[]⟩, .string ⟨#[]⟩, .int .u32 0, .int .i64 0, .int .u32 0, .int .i64 0] 74)).heap.size (w2.alloc (.cells #[.int .i64 v, .string ⟨#[]⟩, .string ⟨#[]⟩, .int .u32 0, .int .i64 0, .int .u32 0, .int .i64 0] 74)) (w2.alloc (.cells #[.int .i64 v, .string ⟨#[]⟩, .string ⟨#[]⟩, .int .u32 0, .int .i64 0, .int .u32 0, .int .i64 0] 74)).drew := (by repeat' (first | with_reducible assumption | with_reducible exact Below.refl _ _ | with_reducible apply Below.drew | with_reducible apply below_drewN | with_reducible apply Below.setCell | with_reducible apply Below.alloc | omega | (simp; done) | (simp; omega)))
        by_cases h4 : Lr.length ≤ 4
        · refine (readParts_go w2.heap.size (w.heap.size + 1) Lr.length Lr.length ba hbb Lr rfl h4 (fmP v 0) (fmP v 1) (fmP v 2) (fmP v 3) hpp (ln0 v) _ ((E.env.mono hq).mono hWb) (fun b e => by omega) ?_ (by have := hWb.size; omega) (by omega) (fun k hk => ?_) hsz).mono ?_
          · exact (Blk.new w2 _ _).below hWd
          · rw [hROW] at hr
            have hrk := hr k hk
            exact (hWb.cell (p := ⟨w.heap.size + 1, k + 1, none⟩) (by show w.heap.size + 1 < _; omega)).trans ((hb2.cell (p := ⟨w.heap.size + 1, k + 1, none⟩) (by show w.heap.size + 1 < _; omega)).trans hrk)
          · rintro e w' ⟨rfl, h1, h2⟩
            rw [cps_form v hv11 _ (by rw [List.length_map]; exact h4), ← hrl] at h1 ⊢
            exact ⟨rfl, h1, (Chg.below hWd).trans h2 (fun b e => .inl e)⟩
        · refine (readParts_many w2.heap.size 0 Lr.length Lr.length h4 (fmP v 0) (fmP v 1) (fmP v 2) (fmP v 3) ba _).mono ?_
          rintro e w' ⟨rfl, hb⟩
          have hno : rdLine s.data.toList = none := by
            rcases e : rdLine s.data.toList with _ | l'
            · rfl
            · rw [hrl] at e
              have := rdParts_len _ _ _ _ e
              rw [List.length_map] at this
              omega
          refine ⟨by unfold rlOk; rw [hno]; rfl, fun l' e => (by rw [hno] at e; cases e), ?_⟩
          exact (Chg.below hWd).trans (Chg.below (S := fun b => b = w2.heap.size) hb) (fun b e => .inl e)
      rcases hres : rdLine s.data.toList with _ | l'
      · have e1 : rlC s = ln0 0 := by unfold rlC; rw [hres]; rfl
        have e2 : rlOk s = false := by unfold rlOk; rw [hres]; rfl
        rw [e1, e2]
        rw [e2] at hP
        by_cases h1 : Lr = []
        · subst h1
          exact read_bad1 s w s0 hs ROW v _ _ _ _ hv11 E.lf HF HS HV fun w1 w2 a b c d => (hP _ (fun q => absurd q (by simp)) w1 w2 a b c d).mono fun e w' q => ⟨q.1, q.2.2⟩
        · have hpos : 0 < Lr.length := List.length_pos_iff.2 h1
          exact read_bad s w (Lr.length + 1) (by omega) (by omega) s0 hs ROW v _ _ _ _ hv11 E.lf HF HS HV fun w1 w2 a b c d => (hP _ (fun _ => rfl) w1 w2 a b c d).mono fun e w' q => ⟨q.1, q.2.2⟩
      · have e1 : rlC s = l' := by unfold rlC; rw [hres]; rfl
        have e2 : rlOk s = true := by unfold rlOk; rw [hres]; rfl
        rw [e1, e2]
        rw [e2] at hP
        by_cases h1 : Lr = []
        · subst h1
          exact read_good1 s w s0 hs ROW v _ _ _ _ hv11 E.lf HF HS HV l' fun w1 w2 a b c d => (hP _ (fun q => absurd q (by simp)) w1 w2 a b c d).mono fun e w' q => ⟨q.1, q.2.1 l' hres, q.2.2⟩
        · have hpos : 0 < Lr.length := List.length_pos_iff.2 h1
          exact read_good s w (Lr.length + 1) (by omega) (by omega) s0 hs ROW v _ _ _ _ hv11 E.lf HF HS HV l' fun w1 w2 a b c d => (hP _ (fun _ => rfl) w1 w2 a b c d).mono fun e w' q => ⟨q.1, q.2.1 l' hres, q.2.2⟩
  · have hno : rdLine s.data.toList = none := by unfold rdLine; rw [if_neg (by omega)]
    have e1 : rlC s = ln0 0 := by unfold rlC; rw [hno]; rfl
    have e2 : rlOk s = false := by unfold rlOk; rw [hno]; rfl
    rw [e1, e2]
    exact read_long s w (by omega)
end Go.Proofs.YtlikdnmikdldfaaGreatDoor
