/-
  BkDd, BkDe, BkHb, BkTl, BkTw, BkTa, BkOw, BkKt, BkKn
-/
import Derived.Test.YtlikdnmikdldfaaGreatDoorOrderedPBM
import Derived.Test.YtlikdnmikdldfaaGreatDoorOrderedPBD
import Derived.Test.YtlikdnmikdldfaaGreatDoorOrderedPAW
import Derived.Test.YtlikdnmikdldfaaGreatDoorOrderedPAT
namespace Go.Proofs.YtlikdnmikdldfaaGreatDoor
open Go.Conc Go.ChangeShapes Go.WideShapes Go.ChangeAt Go.RowKit
set_option linter.unusedVariables false
set_option linter.unusedSimpArgs false

set_option maxRecDepth 100000 in
set_option maxHeartbeats 1000000 in
theorem ado_none (w : World) (x : Nat) (line text : ByteArray) (HR : Hid (∀ W, Below w.heap.size w W → Calls Tryz.prog 30 #[.string line] W fun e w' => e = .returned (.tuple #[.agg #[.int .i64 0, .string ⟨#[]⟩, .string ⟨#[]⟩, .int .u32 0, .int .i64 0, .int .u32 0, .int .i64 0], .bool false]) ∧ Below W.heap.size W w'))
    (HF : Hid (∀ W, Calls Tryz.prog 31 #[.int .i64 2] W fun e w' => e = .returned (.agg #[.int .i64 2, .slice none 0 0]) ∧ Below W.heap.size W w'))
    (HT : Hid (∀ W, Below w.heap.size w W → Calls Tryz.prog 32 #[.agg #[.int .i64 2, .slice none 0 0]] W fun e w' => e = .returned (.string text) ∧ Below W.heap.size W w')) :
    Calls Tryz.prog 14 #[.pointer (some ⟨x, 0, none⟩), .string line] w fun e w' => e = .returned (.string text) ∧ Below w.heap.size w w' := by
  go_enter Tryz.func14, Tryz.ntmps14
  go_wp2_with (first | (go_at_call 30; refine (HR.out _ (by repeat' (first | with_reducible assumption | with_reducible exact Below.refl _ _ | with_reducible apply Below.drew | with_reducible apply below_drewN | with_reducible apply Below.setCell | with_reducible apply Below.alloc | omega | (simp; done) | (simp; omega)))).mono ?_; rintro e w1 ⟨rfl, hq1⟩; have hb1 : Hid (Below w.heap.size w w1) := Below.trans (B := w.heap.size) (a := w) (by repeat' (first | with_reducible assumption | with_reducible exact Below.refl _ _ | with_reducible apply Below.drew | with_reducible apply below_drewN | with_reducible apply Below.setCell | with_reducible apply Below.alloc | omega | (simp; done) | (simp; omega))) (hq1.mono (by first | omega | (simp; done) | (simp; omega))); clear hq1) | (go_at_call 31; refine (HF.out _).mono ?_; rintro e w2 ⟨rfl, hq2⟩; have hb2 : Hid (Below w.heap.size w w2) := Below.trans (B := w.heap.size) (a := w) (by have hh := hb1.out; have hz := hb1.out.size; repeat' (first | with_reducible assumption | with_reducible exact Below.refl _ _ | with_reducible apply Below.drew | with_reducible apply below_drewN | with_reducible apply Below.setCell | with_reducible apply Below.alloc | omega | (simp; done) | (simp; omega))) (hq2.mono (by have hz := hb1.out.size; first | omega | (simp; omega))); clear hq2) | (go_at_call 32; refine (HT.out _ hb2.out).mono ?_; rintro e w3 ⟨rfl, hq3⟩; have hb3 : Hid (Below w.heap.size w w3) := hb2.out.trans (hq3.mono hb2.out.size); clear hq3))
  go_ret
  exact ⟨rfl, hb3.out⟩
set_option maxRecDepth 100000 in
set_option maxHeartbeats 1000000 in
theorem ado_cmd (w : World) (x : Nat) (S : Nat → Prop) (l : Ln) (line : ByteArray) (r : Bk × ByteArray) (HR : Hid (∀ W, Below w.heap.size w W → Calls Tryz.prog 30 #[.string line] W fun e w' => e = .returned (.tuple #[.agg #[.int .i64 l.v, .string l.t, .string l.o, .int .u32 l.a, .int .i64 l.n, .int .u32 l.d, .int .i64 l.g], .bool true]) ∧ Below W.heap.size W w'))
    (HI : Hid (∀ W, Calls Tryz.prog 33 #[.int .i64 l.v] W fun e w' => e = .returned (.bool true) ∧ Below W.heap.size W w'))
    (HC : Hid (∀ W, Below w.heap.size w W → Calls Tryz.prog 34 #[.pointer (some ⟨x, 0, none⟩), .agg #[.int .i64 l.v, .string l.t, .string l.o, .int .u32 l.a, .int .i64 l.n, .int .u32 l.d, .int .i64 l.g], .string line] W (DoR W x S r))) :
    Calls Tryz.prog 14 #[.pointer (some ⟨x, 0, none⟩), .string line] w (DoR w x S r) := by
  go_enter Tryz.func14, Tryz.ntmps14
  go_wp2_with (first | (go_at_call 30; refine (HR.out _ (by repeat' (first | with_reducible assumption | with_reducible exact Below.refl _ _ | with_reducible apply Below.drew | with_reducible apply below_drewN | with_reducible apply Below.setCell | with_reducible apply Below.alloc | omega | (simp; done) | (simp; omega)))).mono ?_; rintro e w1 ⟨rfl, hq1⟩; have hb1 : Hid (Below w.heap.size w w1) := Below.trans (B := w.heap.size) (a := w) (by repeat' (first | with_reducible assumption | with_reducible exact Below.refl _ _ | with_reducible apply Below.drew | with_reducible apply below_drewN | with_reducible apply Below.setCell | with_reducible apply Below.alloc | omega | (simp; done) | (simp; omega))) (hq1.mono (by first | omega | (simp; done) | (simp; omega))); clear hq1) | (go_at_call 33; refine (HI.out _).mono ?_; rintro e w2 ⟨rfl, hq2⟩; have hb2 : Hid (Below w.heap.size w w2) := Below.trans (B := w.heap.size) (a := w) (by have hh := hb1.out; have hz := hb1.out.size; repeat' (first | with_reducible assumption | with_reducible exact Below.refl _ _ | with_reducible apply Below.drew | with_reducible apply below_drewN | with_reducible apply Below.setCell | with_reducible apply Below.alloc | omega | (simp; done) | (simp; omega))) (hq2.mono (by have hz := hb1.out.size; first | omega | (simp; omega))); have L2 : Hid (Blk w2 w1.heap.size #[.int .i64 l.v, .string l.t, .string l.o, .int .u32 l.a, .int .i64 l.n, .int .u32 l.d, .int .i64 l.g] 74) := (Blk.new w1 #[.int .i64 l.v, .string l.t, .string l.o, .int .u32 l.a, .int .i64 l.n, .int .u32 l.d, .int .i64 l.g] 74).below hq2; clear hq2; have m0 : w2.cell? ⟨w1.heap.size, 0, none⟩ = some (.int .i64 l.v) := L2.out.cell 0; have m1 : w2.cell? ⟨w1.heap.size, 1, none⟩ = some (.string l.t) := L2.out.cell 1; have m2 : w2.cell? ⟨w1.heap.size, 2, none⟩ = some (.string l.o) := L2.out.cell 2; have m3 : w2.cell? ⟨w1.heap.size, 3, none⟩ = some (.int .u32 l.a) := L2.out.cell 3; have m4 : w2.cell? ⟨w1.heap.size, 4, none⟩ = some (.int .i64 l.n) := L2.out.cell 4; have m5 : w2.cell? ⟨w1.heap.size, 5, none⟩ = some (.int .u32 l.d) := L2.out.cell 5; have m6 : w2.cell? ⟨w1.heap.size, 6, none⟩ = some (.int .i64 l.g) := L2.out.cell 6; have mz := L2.out.lt) | (go_at_call 34; refine (HC.out _ hb2.out).mono ?_; rintro e w3 ⟨S', rfl, h1, h2, h3⟩; replace h1 : Hid (BkAt w3 x S' r.1) := h1; replace h2 : Hid (∀ b, S' b → S b ∨ w2.heap.size ≤ b) := h2; replace h3 : Hid (Chg S w2 w3) := h3))
  go_ret
  have hz := hb2.out.size
  exact ⟨S', rfl, h1.out, fun b q => (h2.out b q).imp id (fun k => by omega), (Chg.below (S := S) hb2.out).trans h3.out (fun b q => .inl q)⟩
set_option maxRecDepth 100000 in
set_option maxHeartbeats 1000000 in
theorem ado_ask (w : World) (x : Nat) (l : Ln) (line text : ByteArray) (k : Nat) (L : List ByteArray) (HR : Hid (∀ W, Below w.heap.size w W → Calls Tryz.prog 30 #[.string line] W fun e w' => e = .returned (.tuple #[.agg #[.int .i64 l.v, .string l.t, .string l.o, .int .u32 l.a, .int .i64 l.n, .int .u32 l.d, .int .i64 l.g], .bool true]) ∧ Below W.heap.size W w'))
    (HI : Hid (∀ W, Calls Tryz.prog 33 #[.int .i64 l.v] W fun e w' => e = .returned (.bool false) ∧ Below W.heap.size W w'))
    (HD : Hid (∀ W, Below w.heap.size w W → Calls Tryz.prog 35 #[.pointer (some ⟨x, 0, none⟩), .agg #[.int .i64 l.v, .string l.t, .string l.o, .int .u32 l.a, .int .i64 l.n, .int .u32 l.d, .int .i64 l.g]] W fun e w3 => ∃ bt nt ct, e = .returned (.agg #[.int .i64 k, .slice bt nt ct]) ∧ Rd 1 encS ⟨#[]⟩ w3 (.slice bt nt ct) L ∧ Below W.heap.size W w3))
    (HT : Hid (∀ W bt nt ct, Below w.heap.size w W → Rd 1 encS ⟨#[]⟩ W (.slice bt nt ct) L → Calls Tryz.prog 32 #[.agg #[.int .i64 k, .slice bt nt ct]] W fun e w' => e = .returned (.string text) ∧ Below W.heap.size W w')) :
    Calls Tryz.prog 14 #[.pointer (some ⟨x, 0, none⟩), .string line] w fun e w' => e = .returned (.string text) ∧ Below w.heap.size w w' := by
  go_enter Tryz.func14, Tryz.ntmps14
  go_wp2_with (first | (go_at_call 30; refine (HR.out _ (by repeat' (first | with_reducible assumption | with_reducible exact Below.refl _ _ | with_reducible apply Below.drew | with_reducible apply below_drewN | with_reducible apply Below.setCell | with_reducible apply Below.alloc | omega | (simp; done) | (simp; omega)))).mono ?_; rintro e w1 ⟨rfl, hq1⟩; have hb1 : Hid (Below w.heap.size w w1) := Below.trans (B := w.heap.size) (a := w) (by repeat' (first | with_reducible assumption | with_reducible exact Below.refl _ _ | with_reducible apply Below.drew | with_reducible apply below_drewN | with_reducible apply Below.setCell | with_reducible apply Below.alloc | omega | (simp; done) | (simp; omega))) (hq1.mono (by first | omega | (simp; done) | (simp; omega))); clear hq1) | (go_at_call 33; refine (HI.out _).mono ?_; rintro e w2 ⟨rfl, hq2⟩; have hb2 : Hid (Below w.heap.size w w2) := Below.trans (B := w.heap.size) (a := w) (by have hh := hb1.out; have hz := hb1.out.size; repeat' (first | with_reducible assumption | with_reducible exact Below.refl _ _ | with_reducible apply Below.drew | with_reducible apply below_drewN | with_reducible apply Below.setCell | with_reducible apply Below.alloc | omega | (simp; done) | (simp; omega))) (hq2.mono (by have hz := hb1.out.size; first | omega | (simp; omega))); have L2 : Hid (Blk w2 w1.heap.size #[.int .i64 l.v, .string l.t, .string l.o, .int .u32 l.a, .int .i64 l.n, .int .u32 l.d, .int .i64 l.g] 74) := (Blk.new w1 #[.int .i64 l.v, .string l.t, .string l.o, .int .u32 l.a, .int .i64 l.n, .int .u32 l.d, .int .i64 l.g] 74).below hq2; clear hq2; have m0 : w2.cell? ⟨w1.heap.size, 0, none⟩ = some (.int .i64 l.v) := L2.out.cell 0; have m1 : w2.cell? ⟨w1.heap.size, 1, none⟩ = some (.string l.t) := L2.out.cell 1; have m2 : w2.cell? ⟨w1.heap.size, 2, none⟩ = some (.string l.o) := L2.out.cell 2; have m3 : w2.cell? ⟨w1.heap.size, 3, none⟩ = some (.int .u32 l.a) := L2.out.cell 3; have m4 : w2.cell? ⟨w1.heap.size, 4, none⟩ = some (.int .i64 l.n) := L2.out.cell 4; have m5 : w2.cell? ⟨w1.heap.size, 5, none⟩ = some (.int .u32 l.d) := L2.out.cell 5; have m6 : w2.cell? ⟨w1.heap.size, 6, none⟩ = some (.int .i64 l.g) := L2.out.cell 6; have mz := L2.out.lt))
  go_region_held3 (fun w' => w'.cell? ⟨w1.heap.size, 0, none⟩ = some (.int .i64 l.v) ∧ w'.cell? ⟨w1.heap.size, 1, none⟩ = some (.string l.t) ∧ w'.cell? ⟨w1.heap.size, 2, none⟩ = some (.string l.o) ∧ w'.cell? ⟨w1.heap.size, 3, none⟩ = some (.int .u32 l.a) ∧ w'.cell? ⟨w1.heap.size, 4, none⟩ = some (.int .i64 l.n) ∧ w'.cell? ⟨w1.heap.size, 5, none⟩ = some (.int .u32 l.d) ∧ w'.cell? ⟨w1.heap.size, 6, none⟩ = some (.int .i64 l.g)) (go_keep) (first | (go_at_call 35; refine (HD.out _ (by have hh := hb2.out; have hz := hb2.out.size; repeat' (first | with_reducible assumption | with_reducible exact Below.refl _ _ | with_reducible apply Below.drew | with_reducible apply below_drewN | with_reducible apply Below.setCell | with_reducible apply Below.alloc | omega | (simp; done) | (simp; omega)))).mono ?_; rintro e w3 ⟨bt, nt, ct, rfl, hr3, hq3⟩; have hb3 : Hid (Below w.heap.size w w3) := Below.trans (B := w.heap.size) (a := w) (by have hh := hb2.out; have hz := hb2.out.size; repeat' (first | with_reducible assumption | with_reducible exact Below.refl _ _ | with_reducible apply Below.drew | with_reducible apply below_drewN | with_reducible apply Below.setCell | with_reducible apply Below.alloc | omega | (simp; done) | (simp; omega))) (hq3.mono (by have hz := hb2.out.size; first | omega | (simp; omega))); have L3 : Hid (Blk w3 w1.heap.size #[.int .i64 l.v, .string l.t, .string l.o, .int .u32 l.a, .int .i64 l.n, .int .u32 l.d, .int .i64 l.g] 74) := (hq3.block w1.heap.size (by first | exact L2.out.lt | (simp; exact L2.out.lt))).trans L2.out; clear hq3; replace hr3 : Hid (Rd 1 encS ⟨#[]⟩ w3 (.slice bt nt ct) L) := hr3; have n0 : w3.cell? ⟨w1.heap.size, 0, none⟩ = some (.int .i64 l.v) := L3.out.cell 0; have n1 : w3.cell? ⟨w1.heap.size, 1, none⟩ = some (.string l.t) := L3.out.cell 1; have n2 : w3.cell? ⟨w1.heap.size, 2, none⟩ = some (.string l.o) := L3.out.cell 2; have n3 : w3.cell? ⟨w1.heap.size, 3, none⟩ = some (.int .u32 l.a) := L3.out.cell 3; have n4 : w3.cell? ⟨w1.heap.size, 4, none⟩ = some (.int .i64 l.n) := L3.out.cell 4; have n5 : w3.cell? ⟨w1.heap.size, 5, none⟩ = some (.int .u32 l.d) := L3.out.cell 5; have n6 : w3.cell? ⟨w1.heap.size, 6, none⟩ = some (.int .i64 l.g) := L3.out.cell 6) | (go_at_call 32; refine (HT.out _ bt nt ct hb3.out hr3.out).mono ?_; rintro e w4 ⟨rfl, hq4⟩; have hb4 : Hid (Below w.heap.size w w4) := hb3.out.trans (hq4.mono hb3.out.size); have L4 : Hid (Blk w4 w1.heap.size #[.int .i64 l.v, .string l.t, .string l.o, .int .u32 l.a, .int .i64 l.n, .int .u32 l.d, .int .i64 l.g] 74) := L3.out.below hq4; clear hq4; have o0 : w4.cell? ⟨w1.heap.size, 0, none⟩ = some (.int .i64 l.v) := L4.out.cell 0; have o1 : w4.cell? ⟨w1.heap.size, 1, none⟩ = some (.string l.t) := L4.out.cell 1; have o2 : w4.cell? ⟨w1.heap.size, 2, none⟩ = some (.string l.o) := L4.out.cell 2; have o3 : w4.cell? ⟨w1.heap.size, 3, none⟩ = some (.int .u32 l.a) := L4.out.cell 3; have o4 : w4.cell? ⟨w1.heap.size, 4, none⟩ = some (.int .i64 l.n) := L4.out.cell 4; have o5 : w4.cell? ⟨w1.heap.size, 5, none⟩ = some (.int .u32 l.d) := L4.out.cell 5; have o6 : w4.cell? ⟨w1.heap.size, 6, none⟩ = some (.int .i64 l.g) := L4.out.cell 6))
  all_goals (
    go_wp2
    go_ret
    exact ⟨rfl, hb4.out⟩)
end Go.Proofs.YtlikdnmikdldfaaGreatDoor
namespace Go.Proofs.YtlikdnmikdldfaaGreatDoor
open Go.Conc Go.ChangeShapes Go.WideShapes Go.ChangeAt Go.RowKit
set_option linter.unusedVariables false
set_option linter.unusedSimpArgs false

theorem addT_len {l : List Tk} (x : Tk) (h : l.length ≤ 8) : (addT l x).length ≤ 8 := by
  unfold addT
  split <;> simp <;> omega
theorem inv_toks {s : Bk} (h : Inv s) {T : List Tk} (hT : T.length ≤ 8) : Inv { s with toks := T } := ⟨h.p, h.n, h.l, hT, h.pa, h.na, h.la, h.pu, h.nu, h.lu⟩
theorem inv_all {s : Bk} (hI : Inv s) (line : ByteArray) : Inv (doAll s line).1 := by
  unfold doAll
  rcases e : rdLine line.data.toList with _ | l
  · exact hI
  · have hn := inv_ln hI (rdLine_ok e).1
    dsimp only
    split
    · split
      · split <;> exact hI
      · split
        · exact inv_toks hn (addT_len _ hn.t)
        · exact hn
    · exact hn
/-- what holds of every book that is met -/
def Ok (s : Bk) : Prop := Inv s ∧ Good s
theorem bk0_ok : Ok bk0 := ⟨⟨by simp [bk0], by simp [bk0], by simp [bk0], by simp [bk0], by simp [bk0], by simp [bk0], by simp [bk0], fun j k h1 h2 => by simp [bk0] at h2, fun j k h1 h2 => by simp [bk0] at h2, fun j k h1 h2 => by simp [bk0] at h2⟩, bk0_good⟩
theorem ok_all {s : Bk} (h : Ok s) (line : ByteArray) : Ok (doAll s line).1 := ⟨inv_all h.1 line, good_all h.2 line⟩
theorem doAll_cmd {s : Bk} {line : ByteArray} {l : Ln} (e : rdLine line.data.toList = some l) (hv : l.v < 8) : doAll s line = doCmd s l line := by
  unfold doAll doCmd
  rw [e]
  dsimp only
  rw [if_pos hv]
  rfl
theorem doAll_ask {s : Bk} {line : ByteArray} {l : Ln} (e : rdLine line.data.toList = some l) (hv : ¬ l.v < 8) : doAll s line = ((doLn s l).1, ⟨(anText (doLn s l).2).toArray⟩) := by
  unfold doAll
  rw [e]
  dsimp only
  rw [if_neg hv]
theorem doAll_none {s : Bk} {line : ByteArray} (e : rdLine line.data.toList = none) : doAll s line = (s, ⟨(anText (ref 2)).toArray⟩) := by
  unfold doAll
  rw [e]
theorem ask_same {s : Bk} {l : Ln} (h8 : ¬ l.v < 8) (hv : l.v < 11) : (doLn s l).1 = s := by
  have hc : l.v = 8 ∨ l.v = 9 ∨ l.v = 10 := by omega
  unfold doLn
  rcases hc with e | e | e <;> rw [e] <;> rfl
theorem hread {line : ByteArray} (w : World) (E : EnvT w) (hZ : 10 ≤ w.heap.size) : ∀ W, Below w.heap.size w W → Calls Tryz.prog 30 #[.string line] W fun e w' => e = .returned (.tuple #[.agg (lnC (rlC line)), .bool (rlOk line)]) ∧ Below W.heap.size W w' := fun W hW => lread_any line W (E.mono hW) (Nat.le_trans hZ hW.size)
/-- a line that is none, and a question: nothing is written -/
theorem ado_still (w : World) (x : Nat) (S : Nat → Prop) (s : Bk) (line : ByteArray) (E : EnvT w) (hI : Inv s) (h : BkAt w x S s) (hG : ∀ b, S b → 10 ≤ b) (hZ : 10 ≤ w.heap.size) (hq : ∀ l, rdLine line.data.toList = some l → ¬ l.v < 8) :
    Calls Tryz.prog 14 #[.pointer (some ⟨x, 0, none⟩), .string line] w fun e w' => e = .returned (.string (doAll s line).2) ∧ (doAll s line).1 = s ∧ Below w.heap.size w w' := by
  have HR := hread (line := line) w E hZ
  rcases e : rdLine line.data.toList with _ | l
  · rw [doAll_none e]
    have e1 : rlC line = ln0 0 := by unfold rlC; rw [e]; rfl
    have e2 : rlOk line = false := by unfold rlOk; rw [e]; rfl
    rw [e1, e2] at HR
    refine (ado_none w x line _ HR (fun W => refuse_any 2 W) (fun W hW => reftext_any 2 (by omega) W (E.mono hW))).mono ?_
    rintro e w' ⟨rfl, hb⟩
    exact ⟨rfl, rfl, hb⟩
  · have hv := hq l e
    obtain ⟨hL, h11⟩ := rdLine_ok e
    rw [doAll_ask e hv]
    have e1 : rlC line = l := by unfold rlC; rw [e]; rfl
    have e2 : rlOk line = true := by unfold rlOk; rw [e]; rfl
    rw [e1, e2] at HR
    obtain ⟨o1, o2, o3⟩ := ans_ok hI hL
    refine (ado_ask w x l line ⟨(anText (doLn s l).2).toArray⟩ (doLn s l).2.e (doLn s l).2.s HR (fun W => ?_) (fun W hW => ?_) (fun W bt nt ct hW hr => atext_any (doLn s l).2 o1 o2 o3 _ W (E.mono hW) hr)).mono ?_
    · have h := isCmd_any l.v W
      rw [decide_eq_false (by omega)] at h
      exact h
    · refine (bookAsk_any W x S s l (E.env.mono hW) hI hL (h.below hW) hG (Nat.le_trans hZ hW.size) (by omega) h11).mono ?_
      rintro e w3 ⟨⟨v, S', rfl, hrd, _⟩, hb⟩
      obtain ⟨bt, ct, rfl, k⟩ := hrd
      exact ⟨bt, _, ct, rfl, ⟨bt, ct, rfl, k⟩, hb⟩
    · rintro e w' ⟨rfl, hb⟩
      exact ⟨rfl, ask_same hv h11, hb⟩
/-- whatever the line is -/
theorem ado_any (w : World) (x : Nat) (S : Nat → Prop) (s : Bk) (line : ByteArray) (E : EnvT w) (hI : Inv s) (h : BkAt w x S s) (hG : ∀ b, S b → 10 ≤ b) (hZ : 10 ≤ w.heap.size) :
    Calls Tryz.prog 14 #[.pointer (some ⟨x, 0, none⟩), .string line] w (DoR w x S (doAll s line)) := by
  by_cases hq : ∀ l, rdLine line.data.toList = some l → ¬ l.v < 8
  · refine (ado_still w x S s line E hI h hG hZ hq).mono ?_
    rintro e w' ⟨rfl, hs, hb⟩
    exact ⟨S, rfl, by rw [hs]; exact h.below hb, fun b q => .inl q, Chg.below hb⟩
  · obtain ⟨l, e, hv⟩ : ∃ l, rdLine line.data.toList = some l ∧ l.v < 8 := by
      rcases e : rdLine line.data.toList with _ | l
      · exact absurd (fun l hl => by rw [e] at hl; cases hl) hq
      · by_cases hv : l.v < 8
        · exact ⟨l, rfl, hv⟩
        · exact absurd (fun l' hl => by rw [e] at hl; cases hl; exact hv) hq
    obtain ⟨hL, h11⟩ := rdLine_ok e
    rw [doAll_cmd e hv]
    have HR := hread (line := line) w E hZ
    have e1 : rlC line = l := by unfold rlC; rw [e]; rfl
    have e2 : rlOk line = true := by unfold rlOk; rw [e]; rfl
    rw [e1, e2] at HR
    have hs : line.size ≤ 100 := by
      have := Lib.size_eq line
      unfold rdLine at e
      split at e
      · omega
      · cases e
    refine ado_cmd w x S l line _ HR (fun W => ?_) (fun W hW => command_any W x S s l line (E.mono hW) hI hL h11 (h.below hW) hG (Nat.le_trans hZ hW.size) (by omega))
    have h := isCmd_any l.v W
    rw [decide_eq_true (by omega)] at h
    exact h
end Go.Proofs.YtlikdnmikdldfaaGreatDoor
namespace Go.Proofs.YtlikdnmikdldfaaGreatDoor
open Go.Conc Go.ChangeShapes Go.WideShapes Go.ChangeAt Go.RowKit
set_option linter.unusedVariables false
set_option linter.unusedSimpArgs false

/-- the book x is s; its blocks, and all that changed since w0, were made since w0; K: blocks of others that stay -/
def HB (w0 : World) (K : Nat → Prop) (x : Nat) (s : Bk) (W : World) : Prop := ∃ S, BkAt W x S s ∧ (∀ b, S b → w0.heap.size ≤ b ∧ ¬ K b) ∧ Below w0.heap.size w0 W
theorem HB.low {w0 W : World} {K : Nat → Prop} {x : Nat} {s : Bk} (h : HB w0 K x s W) : Below w0.heap.size w0 W := by obtain ⟨S, _, _, h⟩ := h; exact h
theorem HB.below {w0 W W' : World} {K : Nat → Prop} {x : Nat} {s : Bk} (h : HB w0 K x s W) (hb : Below W.heap.size W W') : HB w0 K x s W' := by
  obtain ⟨S, h1, h2, h3⟩ := h
  exact ⟨S, h1.below hb, h2, h3.trans (hb.mono h3.size)⟩
/-- other blocks may be kept, if they were made by now -/
theorem HB.keep {w0 W W' : World} {K : Nat → Prop} {x : Nat} {s : Bk} (K' : Nat → Prop) (h : HB w0 K x s W) (hb : Below W.heap.size W W') (hK : ∀ b, K' b → K b ∨ W.heap.size ≤ b) : HB w0 K' x s W' := by
  obtain ⟨S, h1, h2, h3⟩ := h
  refine ⟨S, h1.below hb, fun b q => ⟨(h2 b q).1, fun k => ?_⟩, h3.trans (hb.mono h3.size)⟩
  rcases hK b k with e | e
  · exact (h2 b q).2 e
  · have := h1.lt b q; omega
theorem HB.drew {w0 W : World} {K : Nat → Prop} {x : Nat} {s : Bk} (h : HB w0 K x s W) : HB w0 K x s W.drew := h.below (Below.drew (Below.refl _ _))
theorem HB.alloc {w0 W : World} {K : Nat → Prop} {x : Nat} {s : Bk} {o : Obj} (h : HB w0 K x s W) : HB w0 K x s (W.alloc o) := h.below (Below.alloc (Below.refl _ _) (Nat.le_refl _) _)
theorem hb_do (w0 : World) (K : Nat → Prop) (x : Nat) (s : Bk) (line : ByteArray) (E : EnvT w0) (hZ : 10 ≤ w0.heap.size) (hI : Inv s) (W : World) (h : HB w0 K x s W) (hK : ∀ b, K b → b < W.heap.size) :
    Calls Tryz.prog 14 #[.pointer (some ⟨x, 0, none⟩), .string line] W fun e W' => e = .returned (.string (doAll s line).2) ∧ HB w0 K x (doAll s line).1 W' ∧ (∀ b, K b → W'.heap[b]? = W.heap[b]?) ∧ W.heap.size ≤ W'.heap.size := by
  obtain ⟨S, h1, h2, h3⟩ := h
  refine (ado_any W x S s line (E.mono h3) hI h1 (fun b q => Nat.le_trans hZ (h2 b q).1) (Nat.le_trans hZ h3.size)).mono ?_
  rintro e W' ⟨S', rfl, b1, b2, b3⟩
  refine ⟨rfl, ⟨S', b1, fun b q => ?_, ?_⟩, fun b k => b3.block b (hK b k) (fun q => (h2 b q).2 k), b3.size⟩
  · rcases b2 b q with e | e
    · exact h2 b e
    · have := h3.size
      exact ⟨by omega, fun k => by have := hK b k; omega⟩
  · exact h3.trans ⟨b3.os, b3.tape, b3.output, b3.size, fun b hb => b3.block b (Nat.lt_of_lt_of_le hb h3.size) (fun q => by have := (h2 b q).1; omega)⟩
/-- a question, or no line -/
theorem hb_ask (w0 : World) (K : Nat → Prop) (x : Nat) (s : Bk) (line : ByteArray) (E : EnvT w0) (hZ : 10 ≤ w0.heap.size) (hI : Inv s) (hq : ∀ l, rdLine line.data.toList = some l → ¬ l.v < 8) (W : World) (h : HB w0 K x s W) :
    Calls Tryz.prog 14 #[.pointer (some ⟨x, 0, none⟩), .string line] W fun e W' => e = .returned (.string (doAll s line).2) ∧ Below W.heap.size W W' := by
  obtain ⟨S, h1, h2, h3⟩ := h
  refine (ado_still W x S s line (E.mono h3) hI h1 (fun b q => Nat.le_trans hZ (h2 b q).1) (Nat.le_trans hZ h3.size) hq).mono ?_
  rintro e W' ⟨rfl, _, hb⟩
  exact ⟨rfl, hb⟩
set_option maxRecDepth 100000 in
set_option maxHeartbeats 400000 in
theorem dnew_any (w : World) : Calls Tryz.prog 25 #[] w fun e w' => ∃ d, e = .returned (.pointer (some ⟨d, 0, none⟩)) ∧ Below w.heap.size w w' := by
  go_enter Tryz.func25, Tryz.ntmps25
  go_wp2
  go_returns
  exact ⟨_, rfl, (by repeat' (first | with_reducible assumption | with_reducible exact Below.refl _ _ | with_reducible apply Below.drew | with_reducible apply below_drewN | with_reducible apply Below.setCell | with_reducible apply Below.alloc | omega | (simp; done) | (simp; omega)))⟩
set_option maxRecDepth 100000 in
set_option maxHeartbeats 400000 in
/-- a book of a new disk -/
theorem opened_any (w0 w : World) (h : Below w0.heap.size w0 w) : Calls Tryz.prog 9 #[] w fun e w' => ∃ x d, e = .returned (.tuple #[.pointer (some ⟨x, 0, none⟩), .pointer (some ⟨d, 0, none⟩)]) ∧ HB w0 (fun _ => False) x bk0 w' ∧ Below w.heap.size w w' := by
  have HN : Hid (∀ W, Calls Tryz.prog 25 #[] W fun e w' => ∃ d, e = .returned (.pointer (some ⟨d, 0, none⟩)) ∧ Below W.heap.size W w') := fun W => dnew_any W
  have HO : Hid (∀ d W, Calls Tryz.prog 26 #[d] W fun e w' => ∃ x S, e = .returned (.tuple #[.pointer (some ⟨x, 0, none⟩), .int .i64 0]) ∧ BkAt w' x S bk0 ∧ (∀ b, S b → W.heap.size ≤ b) ∧ Below W.heap.size W w') := fun d W => open_any d W
  have H0 : Hid (Below w0.heap.size w0 w) := h
  clear h
  go_enter Tryz.func9, Tryz.ntmps9
  go_wp2_with (first | (go_at_call 25; refine (HN.out _).mono ?_; rintro e w1 ⟨d, rfl, hq1⟩; replace hq1 : Hid (Below w.heap.size w w1) := hq1) | (go_at_call 26; refine (HO.out _ _).mono ?_; rintro e w2 ⟨x, S, rfl, hbk, hS, hq2⟩; replace hbk : Hid (BkAt w2 x S bk0) := hbk; replace hS : Hid (∀ b, S b → w1.heap.size ≤ b) := hS; replace hq2 : Hid (Below w1.heap.size w1 w2) := hq2))
  have hb2 := hq1.out.trans (hq2.out.mono hq1.out.size)
  have hz := H0.out.size
  have hz1 := hq1.out.size
  have hfin : ∃ x' d', Ending.returned (Value.tuple #[.pointer (some ⟨x, 0, none⟩), .pointer (some ⟨d, 0, none⟩)]) = Ending.returned (.tuple #[.pointer (some ⟨x', 0, none⟩), .pointer (some ⟨d', 0, none⟩)]) ∧ HB w0 (fun _ => False) x' bk0 w2 ∧ Below w.heap.size w w2 :=
    ⟨x, d, rfl, ⟨S, hbk.out, fun b q => ⟨by have := hS.out b q; omega, fun k => k⟩, H0.out.trans (hb2.mono hz)⟩, hb2⟩
  exact bodyPost_ret (v := .tuple #[.pointer (some ⟨x, 0, none⟩), .pointer (some ⟨d, 0, none⟩)]) (by simp [results, Tryz.results9]) rfl hfin
end Go.Proofs.YtlikdnmikdldfaaGreatDoor
namespace Go.Proofs.YtlikdnmikdldfaaGreatDoor
open Go.Conc Go.ChangeShapes Go.WideShapes Go.ChangeAt Go.RowKit
set_option linter.unusedVariables false
set_option linter.unusedSimpArgs false

theorem eq_cut {a b : List UInt8} (h : (61 : UInt8) ∉ a) : eqA (a ++ 61 :: b) = a ∧ eqB (a ++ 61 :: b) = b ∧ hasEq (a ++ 61 :: b) = true := by
  have e : eqA (a ++ 61 :: b) = a := by
    unfold eqA
    rw [List.takeWhile_append_of_pos (by intro c hc; simp; intro q; exact h (q ▸ hc)), List.takeWhile_cons_of_neg (by simp)]
    simp
  refine ⟨e, ?_, ?_⟩
  · unfold eqB; rw [e]; simp
  · unfold hasEq; rw [e]; simp
theorem ent_h (l : List Hd) (ho : ∀ h, h ∈ l → isName h.o.data.toList = true) : entL (ansT (l.map hText)) = some (l.map fun h => (bText h.a h.n, h.o.data.toList)) := by
  have hc : ∀ h : Hd, eqA (hText h) = bText h.a h.n ∧ eqB (hText h) = h.o.data.toList ∧ hasEq (hText h) = true := fun h => eq_cut (wr_no 61 (by decide) _ _)
  unfold entL
  rw [parts_ans _ (hTs_no ho)]
  simp only [if_true]
  rw [if_pos (List.all_eq_true.2 fun y hy => by obtain ⟨h, _, rfl⟩ := List.mem_map.1 hy; exact (hc h).2.2)]
  unfold entsOf
  rw [List.map_map]
  congr 1
  exact List.map_congr_left fun h _ => by simp [(hc h).1, (hc h).2.1]
theorem ent_l (l : List Ls) (ho : ∀ h, h ∈ l → isName h.o.data.toList = true) : entL (ansT (l.map lText)) = some (l.map fun h => (dot h.a.toNat, h.o.data.toList)) := by
  have hc : ∀ h : Ls, eqA (lText h) = dot h.a.toNat ∧ eqB (lText h) = h.o.data.toList ∧ hasEq (lText h) = true := fun h => eq_cut (dot_no 61 (by decide) _)
  unfold entL
  rw [parts_ans _ (lTs_no ho)]
  simp only [if_true]
  rw [if_pos (List.all_eq_true.2 fun y hy => by obtain ⟨h, _, rfl⟩ := List.mem_map.1 hy; exact (hc h).2.2)]
  unfold entsOf
  rw [List.map_map]
  congr 1
  exact List.map_congr_left fun h _ => by simp [(hc h).1, (hc h).2.1]
/-- the questions -/
theorem ask_pools (s : Bk) : doAll s (bs (verb 8)) = (s, bs (poolsT s)) := by
  have e := read_pools
  rw [doAll_ask (l := ln0 8) (by rw [bs_data]; exact e) (by show ¬ 8 < 8; omega)]
  show (s, (⟨(anText ⟨0, s.pools.map fun h => ⟨(hText h).toArray⟩⟩).toArray⟩ : ByteArray)) = _
  rw [anText_ok hText]; rfl
theorem find_in {l : List Hd} {h : Hd} (hh : h ∈ l) : ¬ findH l h.a h.n < 0 := by
  unfold findH
  rcases fi_cases (isH h.a h.n) l hd0 with ⟨_, q⟩ | ⟨k, _, e, _⟩
  · have := q h hh; simp [isH] at this
  · rw [e]; omega
theorem ask_nets {s : Bk} (G : Good s) {p : Hd} (hp : p ∈ s.pools) : doAll s (bs (verb 9 ++ 32 :: bText p.a p.n)) = (s, bs (netsT s p)) := by
  obtain ⟨h0, h1, hr⟩ := G.pr p hp
  have e := read_ask (k := 9) (a := p.a) (n := p.n) (by omega) h0 h1 hr
  rw [doAll_ask (l := lnB 9 [] [] p.a p.n) (by rw [bs_data]; exact e) (by show ¬ 9 < 8; omega)]
  show (s, (⟨(anText (doNets s (lnB 9 [] [] p.a p.n))).toArray⟩ : ByteArray)) = _
  have e2 : doNets s (lnB 9 [] [] p.a p.n) = ⟨0, (netsOf s.nets p.a p.n).map fun h => ⟨(hText h).toArray⟩⟩ := if_neg (find_in hp)
  rw [e2, anText_ok hText]; rfl
theorem ask_used {s : Bk} (G : Good s) {p : Hd} (hp : p ∈ s.nets) : doAll s (bs (verb 10 ++ 32 :: bText p.a p.n)) = (s, bs (usedT s p)) := by
  obtain ⟨h0, h1, hr, _⟩ := G.nr p hp
  have e := read_ask (k := 10) (a := p.a) (n := p.n) (by omega) h0 h1 hr
  rw [doAll_ask (l := lnB 10 [] [] p.a p.n) (by rw [bs_data]; exact e) (by show ¬ 10 < 8; omega)]
  show (s, (⟨(anText (doUsed s (lnB 10 [] [] p.a p.n))).toArray⟩ : ByteArray)) = _
  have e2 : doUsed s (lnB 10 [] [] p.a p.n) = ⟨0, (leasesOf s.leases p.a p.n).map fun h => ⟨(lText h).toArray⟩⟩ := if_neg (find_in hp)
  rw [e2, anText_ok lText]; rfl
end Go.Proofs.YtlikdnmikdldfaaGreatDoor
namespace Go.Proofs.YtlikdnmikdldfaaGreatDoor
open Go.Conc Go.ChangeShapes Go.WideShapes Go.ChangeAt Go.RowKit
set_option linter.unusedVariables false
set_option linter.unusedSimpArgs false

theorem owns_other {W W' : World} {B B' : Nat} {t t' : TypeId} {k k' : Nat} {v v' : Value} {n n' : Nat} {xs xs' : List Value} (h : W.ownsRow B t k v n xs) (h' : W.ownsRow B' t' k' v' n' xs') (ht : t ≠ t') (g : W.grownBy W' v'.ownBlock) : W'.ownsRow B t k v n xs :=
  owns_same h fun b e => by
    obtain ⟨b1, c1, e1⟩ := owns_lt h b e
    refine g.block b b1 fun q => ?_
    obtain ⟨_, c2, e2⟩ := owns_lt h' b q.symm
    rw [e1] at e2
    injection e2 with e2
    injection e2 with _ e3 _
    exact ht e3
theorem owns_ent {W : World} {B : Nat} {t : TypeId} {v : Value} {l : List (List UInt8 × List UInt8)} (h : W.ownsRow B t 2 v l.length (l.flatMap encE)) (k : Nat) (hk : k < l.length) : ∃ g cap, v = .slice (some ⟨g, 0, none⟩) l.length cap ∧ W.cell? ⟨g, k * 2, none⟩ = some (.string (bs (l.getD k ([], [])).1)) := by
  obtain ⟨b, cap, rfl, _, _, h3⟩ := Rd.of_owns (k := 2) (enc := encE) (fun _ => rfl) ([], []) h
  obtain ⟨g, rfl, _, h4⟩ := h3 (by intro q; rw [q] at hk; simp at hk)
  have := h4 k hk 0 _ rfl
  exact ⟨g, cap, rfl, this⟩
def strV (F : List ByteArray) : List Value := F.map Value.string
theorem strV_snoc (F : List ByteArray) (s : ByteArray) : strV (F ++ [s]) = strV F ++ [.string s] := by unfold strV; simp
def tolG (N : Nat → ByteArray) (n : Nat → Nat) (U : Nat → Nat → ByteArray) (i : Nat) : List ByteArray := N i :: (List.range (n i)).map (U i)
def tolF (P0 : ByteArray) (N : Nat → ByteArray) (n : Nat → Nat) (U : Nat → Nat → ByteArray) (k : Nat) : List ByteArray := P0 :: (List.range k).flatMap (tolG N n U)
theorem tolF_len (P0 : ByteArray) (N : Nat → ByteArray) (n : Nat → Nat) (U : Nat → Nat → ByteArray) (h : ∀ i, n i ≤ 10000) (k : Nat) : (tolF P0 N n U k).length ≤ 1 + k * 10001 := by
  induction k with
  | zero => simp [tolF]
  | succ k ih =>
    unfold tolF tolG at *
    rw [List.range_succ, List.flatMap_append]
    have := h k
    simp at ih ⊢
    omega
theorem tolF_next (P0 : ByteArray) (N : Nat → ByteArray) (n : Nat → Nat) (U : Nat → Nat → ByteArray) (k : Nat) : tolF P0 N n U (k + 1) = tolF P0 N n U k ++ [N k] ++ (List.range (n k)).map (U k) := by
  unfold tolF tolG
  rw [List.range_succ, List.flatMap_append]
  simp
set_option maxRecDepth 100000 in
set_option maxHeartbeats 1000000 in
theorem told_go (x : Nat) (I : World → Prop) (hI : Hid (∀ W W', I W → Below W.heap.size W W' → I W')) (w : World) (h : Hid (I w)) (P0 : ByteArray) (p : List (List UInt8 × List UInt8)) (N : Nat → ByteArray) (n : Nat → List (List UInt8 × List UInt8)) (U : Nat → Nat → ByteArray) (lp : Nat) (hp : Hid (lp = p.length)) (hp6 : lp ≤ 10000) (hn6 : Hid (∀ i, (n i).length ≤ 10000)) (hs6 : Hid (∀ i, ((p.getD i ([], [])).1).length ≤ 1000)) (ht6 : Hid (∀ i j, (((n i).getD j ([], [])).1).length ≤ 1000))
    (HA : Hid (∀ W, I W → Calls Tryz.prog 14 #[.pointer (some ⟨x, 0, none⟩), .string ⟨#[80, 79, 79, 76, 83]⟩] W fun e w' => e = .returned (.string P0) ∧ Below W.heap.size W w'))
    (HN : Hid (∀ i, i < lp → ∀ W, I W → Calls Tryz.prog 14 #[.pointer (some ⟨x, 0, none⟩), .string (⟨#[78, 69, 84, 83, 32]⟩ ++ bs (p.getD i ([], [])).1)] W fun e w' => e = .returned (.string (N i)) ∧ Below W.heap.size W w'))
    (HU : Hid (∀ i, i < lp → ∀ j, j < (n i).length → ∀ W, I W → Calls Tryz.prog 14 #[.pointer (some ⟨x, 0, none⟩), .string (⟨#[85, 83, 69, 68, 32]⟩ ++ bs ((n i).getD j ([], [])).1)] W fun e w' => e = .returned (.string (U i j)) ∧ Below W.heap.size W w'))
    (HE0 : Hid (∀ W, Calls Tryz.prog 27 #[.string P0] W fun e w' => ∃ b c, e = .returned (.tuple #[.slice b lp c, .bool true]) ∧ w'.ownsRow W.heap.size 67 2 (.slice b lp c) p.length (p.flatMap encE) ∧ Below W.heap.size W w'))
    (HE1 : Hid (∀ i, i < lp → ∀ W, Calls Tryz.prog 27 #[.string (N i)] W fun e w' => ∃ b c, e = .returned (.tuple #[.slice b (n i).length c, .bool true]) ∧ w'.ownsRow W.heap.size 67 2 (.slice b (n i).length c) (n i).length ((n i).flatMap encE) ∧ Below W.heap.size W w'))
    (HE2 : Hid (∀ i, i < lp → ∀ j, j < (n i).length → ∀ W, Calls Tryz.prog 27 #[.string (U i j)] W fun e w' => ∃ v, e = .returned (.tuple #[v, .bool true]) ∧ Below W.heap.size W w')) :
    Calls Tryz.prog 11 #[.pointer (some ⟨x, 0, none⟩)] w fun e w' => ∃ v, e = .returned (.tuple #[v, .bool true]) ∧ w'.ownsRow w.heap.size 9 1 v (tolF P0 N (fun i => (n i).length) U lp).length (strV (tolF P0 N (fun i => (n i).length) U lp)) ∧ Below w.heap.size w w' := by
  obtain ⟨i0, hi, hz0, hz1, hz2⟩ := info_parts infoStr
  obtain ⟨F, hF⟩ : ∃ F, F = tolF P0 N (fun i => (n i).length) U := ⟨_, rfl⟩
  have hFl : Hid (∀ k, k ≤ lp → (F k).length ≤ 200000000) := fun k hk => by
    have := tolF_len P0 N (fun i => (n i).length) U hn6.out k
    rw [hF]; omega
  have hFn : Hid (∀ k, F (k + 1) = F k ++ [N k] ++ (List.range (n k).length).map (U k)) := fun k => by rw [hF]; exact tolF_next _ _ _ _ _
  have hF0 : Hid (F 0 = [P0]) := by rw [hF]; rfl
  rw [← hF]
  clear hF
  go_enter Tryz.func11, Tryz.ntmps11
  go_wp2_with (first | (go_at_call 14; refine (HA.out _ h.out).mono ?_; rintro e w1 ⟨rfl, hq1⟩; replace hq1 : Hid (Below w.heap.size w w1) := hq1) | (go_at_call 27; refine (HE0.out _).mono ?_; rintro e w2 ⟨b, c, rfl, hr2, hq2⟩; replace hr2 : Hid _ := hr2; replace hq2 : Hid _ := hq2))
  have hz : w.heap.size ≤ w1.heap.size := hq1.out.size
  have ho1 : (w1.alloc (.cells #[.string P0] 9)).ownsRow w.heap.size 9 1 (.slice (some ⟨w1.heap.size, 0, none⟩) 1 1) (F 0).length (strV (F 0)) := by
    rw [hF0.out]
    exact ⟨rfl, .inr ⟨w1.heap.size, 1, #[.string P0], rfl, hz, heap_alloc_new w1 _, Nat.le_refl _, by decide, rfl, rfl⟩⟩
  have hb1 : Below w.heap.size w (w1.alloc (.cells #[.string P0] 9)) := hq1.out.alloc hz _
  have HS : Hid (w2.ownsRow w.heap.size 9 1 (.slice (some ⟨w1.heap.size, 0, none⟩) 1 1) (F 0).length (strV (F 0)) ∧ w2.ownsRow w.heap.size 67 2 (.slice b lp c) p.length (p.flatMap encE) ∧ Below w.heap.size w w2 ∧ I w2) :=
    ⟨owns_below ho1 hq2.out, owns_mono hr2.out hb1.size, hb1.trans (hq2.out.mono hb1.size), hI.out _ _ h.out (hb1.trans (hq2.out.mono hb1.size))⟩
  clear ho1 hb1 hq2 hr2 hq1
  go_loopw [5, 7, 8] (fun v ok i wr => ∃ (k : Nat), k ≤ lp ∧ ok = .bool true ∧ i = .int .i64 k ∧ Hid (wr.ownsRow w.heap.size 9 1 v (F k).length (strV (F k)) ∧ wr.ownsRow w.heap.size 67 2 (.slice b lp c) p.length (p.flatMap encE) ∧ Below w.heap.size w wr ∧ I wr))
    (fun _ _ i _ => lp - (intOf i).toNat)
  case atStart => exact ⟨0, Nat.zero_le _, rfl, rfl, HS⟩
  case round =>
    clear HS hz
    obtain ⟨k, hk, rfl, rfl, H⟩ := hrel
    by_cases hlt : k < lp
    · obtain ⟨g, cap, hv, hc⟩ := owns_ent H.out.2.1 k (hp.out ▸ hlt)
      replace hv := (Value.slice.inj hv).1
      subst hv
      have hlt2 : (k : Int) < (lp : Int) := by omega
      have hk0 : (0 : Int) ≤ (k : Int) := by omega
      obtain ⟨A, hA⟩ : ∃ A, A = bs (p.getD k ([], [])).1 := ⟨_, rfl⟩
      rw [← hA] at hc
      have HN' := HN.out k hlt
      rw [← hA] at HN'
      replace HN' : Hid _ := HN'
      have HL := hFl.out k hk
      have hbz := H.out.2.2.1.size
      have hAz : A.size ≤ 1000 := by rw [hA, bs_size]; exact hs6.out k
      clear hA
      go_wp2_with (first
        | (go_at_call 14; refine (HN'.out _ H.out.2.2.2).mono ?_; rintro e w3 ⟨rfl, hq3⟩; have hz3 := hq3.size; have ho3 := owns_below H.out.1 hq3; replace hq3 : Hid (Below wr.heap.size wr w3) := hq3)
        | (at_builtin; refine wpList_append_own _ rfl _ _ 31 rfl w.heap.size 9 i0 (.string ByteArray.empty) 1 16 Tryz.underlying31 hi hz0 hz1 hz2 rfl (by decide) _ _ _ rfl (ho3.alloc _) ⟨w3.heap.size, 0, none⟩ 1 1 [.string (N k)] rfl rfl ?c1 ?c2 ?c3 ?c4 ?c5 ?_)
        | go_in)
      case c1 =>
        intro j u hj
        match j, hj with
        | 0, hj => simp at hj; subst hj; simp [Addr.add]
      case c2 => intro u hu; simp at hu; subst hu; rfl
      case c3 => unfold maxLen; omega
      case c4 => omega
      case c5 => simp; omega
      intro v4 w4 ho4 hg4 _
      have hent : w4.ownsRow w.heap.size 67 2 (.slice (some ⟨g, 0, none⟩) lp c) p.length (p.flatMap encE) := owns_other ((owns_below H.out.2.1 hq3.out).alloc _) (ho3.alloc _) (by decide) hg4
      have hlow : Below w.heap.size w w4 := (((H.out.2.2.1.trans (hq3.out.mono hbz)).alloc (by omega) _)).grown hg4 (by simp; omega) (fun r hr => (ho3.lt r hr).1)
      have ho5 : w4.ownsRow w.heap.size 9 1 v4 (F k ++ [N k]).length (strV (F k ++ [N k])) := by rw [strV_snoc]; simpa using ho4
      have HI4 : Hid (I w4) := hI.out _ _ h.out hlow
      replace ho5 : Hid _ := ho5
      replace hent : Hid _ := hent
      replace hlow : Hid _ := hlow
      have hz4 := hg4.size
      clear ho4 hg4 ho3 hc
      go_wp2_with (first
        | (go_at_call 27; refine (HE1.out k hlt _).mono ?_; rintro e w5 ⟨b5, c5, rfl, hr5, hq5⟩; replace hr5 : Hid _ := hr5; replace hq5 : Hid _ := hq5)
        | go_in)
      obtain ⟨G, hG⟩ : ∃ G : Nat → List ByteArray, G = fun m => F k ++ [N k] ++ (List.range m).map (U k) := ⟨_, rfl⟩
      obtain ⟨ln, hln⟩ : ∃ ln, ln = (n k).length := ⟨_, rfl⟩
      have hln6 : ln ≤ 10000 := hln ▸ hn6.out k
      have HL2 : Hid (∀ m, m ≤ ln → (G m).length ≤ 300000000) := fun m hm => by rw [hG]; simp; omega
      have HG0 : Hid (G 0 = F k ++ [N k]) := show G 0 = F k ++ [N k] by rw [hG]; simp
      have HGn : Hid (∀ m, G (m + 1) = G m ++ [U k m]) := fun m => by rw [hG]; simp [List.range_succ]
      have HGe : Hid (G ln = F (k + 1)) := show G ln = F (k + 1) by rw [hG, hFn.out k, hln]
      have HU' := HU.out k hlt
      have HE2' := HE2.out k hlt
      rw [← hln] at HU' HE2'
      replace HU' : Hid _ := HU'
      replace HE2' : Hid _ := HE2'
      have ht6' : Hid (∀ j, (((n k).getD j ([], [])).1).length ≤ 1000) := ht6.out k
      have HS5 : Hid (w5.ownsRow w.heap.size 9 1 v4 (G 0).length (strV (G 0)) ∧ w5.ownsRow w.heap.size 67 2 (.slice (some ⟨g, 0, none⟩) lp c) p.length (p.flatMap encE) ∧ w5.ownsRow w.heap.size 67 2 (.slice b5 (n k).length c5) (n k).length ((n k).flatMap encE) ∧ Below w.heap.size w w5 ∧ I w5) := by
        have hb5 := hlow.out.trans (hq5.out.mono hlow.out.size)
        refine ⟨?_, owns_below hent.out hq5.out, owns_mono hr5.out hlow.out.size, hb5, hI.out _ _ h.out hb5⟩
        rw [HG0.out]; exact owns_below ho5.out hq5.out
      rw [← hln] at HS5 ⊢
      have HLN : Hid (ln = (n k).length) := hln
      clear hG hln ho5 hent hlow hq5 hr5 hq3 HI4 hz3 hz4 HL HN' hAz hbz H hlt2
      go_loopw [5, 7, 12] (fun v ok i wr => ∃ (m : Nat), m ≤ ln ∧ ok = .bool true ∧ i = .int .i64 m ∧ Hid (wr.ownsRow w.heap.size 9 1 v (G m).length (strV (G m)) ∧ wr.ownsRow w.heap.size 67 2 (.slice (some ⟨g, 0, none⟩) lp c) p.length (p.flatMap encE) ∧ wr.ownsRow w.heap.size 67 2 (.slice b5 ln c5) ln ((n k).flatMap encE) ∧ Below w.heap.size w wr ∧ I wr))
        (fun _ _ i _ => ln - (intOf i).toNat)
      case atStart => exact ⟨0, Nat.zero_le _, rfl, rfl, HS5⟩
      case round =>
        clear HS5
        obtain ⟨m, hm, rfl, rfl, H⟩ := hrel
        by_cases hmt : m < ln
        · obtain ⟨g2, cap2, hv2, hc2⟩ : ∃ g2 cap2, Value.slice b5 ln c5 = .slice (some ⟨g2, 0, none⟩) (n k).length cap2 ∧ wr.cell? ⟨g2, m * 2, none⟩ = some (.string (bs ((n k).getD m ([], [])).1)) := by
            have h7 := H.out.2.2.1
            have h8 := hmt
            have h9 := HLN.out
            rw [h9] at h7 h8 ⊢
            exact owns_ent h7 m h8
          replace hv2 := (Value.slice.inj hv2).1
          subst hv2
          have hmt2 : (m : Int) < (ln : Int) := by omega
          have hm0 : (0 : Int) ≤ (m : Int) := by omega
          obtain ⟨A, hA⟩ : ∃ A, A = bs ((n k).getD m ([], [])).1 := ⟨_, rfl⟩
          rw [← hA] at hc2
          have HU2 := HU'.out m hmt
          rw [← hA] at HU2
          replace HU2 : Hid _ := HU2
          have HL := HL2.out m hm
          have hbz := H.out.2.2.2.1.size
          have hAz : A.size ≤ 1000 := by rw [hA, bs_size]; exact ht6'.out m
          clear hA
          go_wp2_with (first
            | (go_at_call 14; refine (HU2.out _ H.out.2.2.2.2).mono ?_; rintro e w6 ⟨rfl, hq6⟩; have hz6 := hq6.size; have ho6 := owns_below H.out.1 hq6; replace hq6 : Hid (Below wr.heap.size wr w6) := hq6)
            | (at_builtin; refine wpList_append_own _ rfl _ _ 31 rfl w.heap.size 9 i0 (.string ByteArray.empty) 1 16 Tryz.underlying31 hi hz0 hz1 hz2 rfl (by decide) _ _ _ rfl (ho6.alloc _) ⟨w6.heap.size, 0, none⟩ 1 1 [.string (U k m)] rfl rfl ?c1 ?c2 ?c3 ?c4 ?c5 ?_)
            | go_in)
          case c1 =>
            intro j u hj
            match j, hj with
            | 0, hj => simp at hj; subst hj; simp [Addr.add]
          case c2 => intro u hu; simp at hu; subst hu; rfl
          case c3 => unfold maxLen; omega
          case c4 => omega
          case c5 => simp; omega
          intro v7 w7 ho7 hg7 _
          have hent : w7.ownsRow w.heap.size 67 2 (.slice (some ⟨g, 0, none⟩) lp c) p.length (p.flatMap encE) := owns_other ((owns_below H.out.2.1 hq6.out).alloc _) (ho6.alloc _) (by decide) hg7
          have hent2 : w7.ownsRow w.heap.size 67 2 (.slice (some ⟨g2, 0, none⟩) ln c5) ln ((n k).flatMap encE) := owns_other ((owns_below H.out.2.2.1 hq6.out).alloc _) (ho6.alloc _) (by decide) hg7
          have hlow : Below w.heap.size w w7 := (((H.out.2.2.2.1.trans (hq6.out.mono hbz)).alloc (by omega) _)).grown hg7 (by simp; omega) (fun r hr => (ho6.lt r hr).1)
          have ho8 : w7.ownsRow w.heap.size 9 1 v7 (G (m + 1)).length (strV (G (m + 1))) := by rw [HGn.out m, strV_snoc]; simpa using ho7
          have HS8 : Hid (w7.ownsRow w.heap.size 9 1 v7 (G (m + 1)).length (strV (G (m + 1))) ∧ w7.ownsRow w.heap.size 67 2 (.slice (some ⟨g, 0, none⟩) lp c) p.length (p.flatMap encE) ∧ w7.ownsRow w.heap.size 67 2 (.slice (some ⟨g2, 0, none⟩) ln c5) ln ((n k).flatMap encE) ∧ Below w.heap.size w w7) := ⟨ho8, hent, hent2, hlow⟩
          have hz7 := hg7.size
          clear ho7 hg7 ho6 hc2 hent hent2 hlow ho8
          go_wp2_with (first
            | (go_at_call 27; refine (HE2'.out m hmt _).mono ?_; rintro e w8 ⟨v8, rfl, hq8⟩; replace hq8 : Hid (Below w7.heap.size w7 w8) := hq8)
            | go_in)
          go_roundw
          case rel =>
            obtain ⟨y1, y2, y3, y4⟩ := HS8.out
            have hb8 := y4.trans (hq8.out.mono y4.size)
            exact ⟨m + 1, by omega, rfl, by go_num, owns_below y1 hq8.out, owns_below y2 hq8.out, owns_below y3 hq8.out, hb8, hI.out _ _ h.out hb8⟩
          case measure => simp [intOf]; omega
        · obtain rfl : m = ln := by omega
          have hmt2 : ¬ (m : Int) < (m : Int) := by omega
          go_wp2
          go_roundw
          case rel => exact ⟨k + 1, by omega, rfl, by go_num, HGe.out ▸ H.out.1, H.out.2.1, H.out.2.2.2⟩
          case measure => simp [intOf]; omega
    · obtain rfl : k = lp := by omega
      have hlt2 : ¬ (k : Int) < (k : Int) := by omega
      go_wp2
      go_ret2
      exact ⟨_, rfl, H.out.1, H.out.2.2.1⟩
end Go.Proofs.YtlikdnmikdldfaaGreatDoor
namespace Go.Proofs.YtlikdnmikdldfaaGreatDoor
open Go.Conc Go.ChangeShapes Go.WideShapes Go.ChangeAt Go.RowKit
set_option linter.unusedVariables false
set_option linter.unusedSimpArgs false

def toldB (s : Bk) : List ByteArray := (toldS s).map bs
def entH (h : Hd) : List UInt8 × List UInt8 := (bText h.a h.n, h.o.data.toList)
def entS (h : Ls) : List UInt8 × List UInt8 := (dot h.a.toNat, h.o.data.toList)
theorem ansT_len (L : List (List UInt8)) (m : Nat) (h : ∀ t, t ∈ L → t.length ≤ m) : (ansT L).length ≤ 2 + L.length * (m + 1) := by
  unfold ansT
  rw [List.length_append]
  have : (L.flatMap fun t => 32 :: t).length ≤ L.length * (m + 1) := by
    induction L with
    | nil => simp
    | cons x r ih =>
      have h1 := h x (by simp)
      have h2 := ih fun t ht => h t (by simp [ht])
      rw [List.flatMap_cons, List.length_append, List.length_cons, List.length_cons, Nat.succ_mul]
      omega
  simp only [List.length_cons, List.length_nil]; omega
theorem arr_size (l : List UInt8) : (⟨l.toArray⟩ : ByteArray).size = l.length := by simp [ByteArray.size]
theorem hT_len {s : Bk} (hI : Inv s) {h : Hd} (hh : h ∈ s.pools ∨ h ∈ s.nets) : (hText h).length ≤ 100 := by
  rw [← arr_size]
  rcases hh with hh | hh
  · obtain ⟨a1, a2, _, _, a5⟩ := hI.pa h hh; exact hText_len a1 a2 a5
  · obtain ⟨a1, a2, _, a5⟩ := hI.na h hh; exact hText_len a1 a2 a5
theorem lT_len {s : Bk} (hI : Inv s) {h : Ls} (hh : h ∈ s.leases) : (lText h).length ≤ 100 := by
  rw [← arr_size]
  obtain ⟨a1, a5⟩ := hI.la h hh; exact lText_len a1 a5
theorem poolsT_len {s : Bk} (hI : Inv s) : (poolsT s).length ≤ 5000 := by
  have := ansT_len (s.pools.map hText) 100 (fun t ht => by obtain ⟨h, hh, rfl⟩ := List.mem_map.1 ht; exact hT_len hI (.inl hh))
  have := hI.p
  unfold poolsT; rw [List.length_map] at *; omega
theorem netsOf_len (l : List Hd) (a n : Int) : (netsOf l a n).length ≤ l.length := List.length_filter_le _ _
theorem leasesOf_len (l : List Ls) (a n : Int) : (leasesOf l a n).length ≤ l.length := List.length_filter_le _ _
theorem netsT_len {s : Bk} (hI : Inv s) (p : Hd) : (netsT s p).length ≤ 5000 := by
  have := ansT_len ((netsOf s.nets p.a p.n).map hText) 100 (fun t ht => by obtain ⟨h, hh, rfl⟩ := List.mem_map.1 ht; exact hT_len hI (.inr (netsOf_sub hh)))
  have := hI.n
  have := netsOf_len s.nets p.a p.n
  unfold netsT; rw [List.length_map] at *; omega
theorem usedT_len {s : Bk} (hI : Inv s) (p : Hd) : (usedT s p).length ≤ 5000 := by
  have := ansT_len ((leasesOf s.leases p.a p.n).map lText) 100 (fun t ht => by obtain ⟨h, hh, rfl⟩ := List.mem_map.1 ht; exact lT_len hI (leasesOf_sub hh))
  have := hI.l
  have := leasesOf_len s.leases p.a p.n
  unfold usedT; rw [List.length_map] at *; omega
theorem getD_map {α β : Type} (f : α → β) (l : List α) (d : α) (e : β) (i : Nat) (h : i < l.length) : (l.map f).getD i e = f (l.getD i d) := by
  simp [List.getD_eq_getElem?_getD, List.getElem?_eq_getElem h]
theorem range_map {α β : Type} (f : α → β) (l : List α) (d : α) : (List.range l.length).map (fun i => f (l.getD i d)) = l.map f := by
  apply List.ext_getElem?
  intro i
  by_cases h : i < l.length
  · rw [List.getElem?_map, List.getElem?_map, List.getElem?_range h]
    simp [List.getD_eq_getElem?_getD, List.getElem?_eq_getElem h]
  · rw [List.getElem?_eq_none (by simp; omega), List.getElem?_eq_none (by simp; omega)]
theorem range_flat {α β : Type} (f : α → List β) (l : List α) (d : α) : (List.range l.length).flatMap (fun i => f (l.getD i d)) = l.flatMap f := by
  rw [List.flatMap_def, List.flatMap_def, range_map (fun x => f x)]
/-- the entries of an answer -/
theorem ent_of (s : ByteArray) (q : List (List UInt8 × List UInt8)) (hs : s.size ≤ 900000) (h : entL s.data.toList = some q) (W : World) : Calls Tryz.prog 27 #[.string s] W fun e w' => ∃ b c, e = .returned (.tuple #[.slice b q.length c, .bool true]) ∧ w'.ownsRow W.heap.size 67 2 (.slice b q.length c) q.length (q.flatMap encE) ∧ Below W.heap.size W w' := by
  refine (entries_any s W hs).mono ?_
  rintro e w' ⟨v, rfl, ho, hb⟩
  rw [h] at ho ⊢
  obtain ⟨b, c, rfl, _, _⟩ := owns_slice ho
  exact ⟨b, c, rfl, ho, hb⟩
theorem ask_cat (k : Nat) (t : List UInt8) (v : List UInt8) (h : verb k ++ [32] = v) : (⟨v.toArray⟩ : ByteArray) ++ bs t = bs (verb k ++ 32 :: t) := by
  have e : (⟨v.toArray⟩ : ByteArray) = bs v := rfl
  rw [e, bs_append, ← h]
  simp
set_option maxHeartbeats 1000000 in
theorem ktold_any (w0 : World) (K : Nat → Prop) (x : Nat) (s : Bk) (E : EnvT w0) (hZ : 10 ≤ w0.heap.size) (hI : Inv s) (G : Good s) (W : World) (h : HB w0 K x s W) :
    Calls Tryz.prog 11 #[.pointer (some ⟨x, 0, none⟩)] W fun e w' => ∃ v, e = .returned (.tuple #[v, .bool true]) ∧ w'.ownsRow W.heap.size 9 1 v (toldB s).length (strV (toldB s)) ∧ Below W.heap.size W w' := by
  have hN : ∀ i, netsOf s.nets (s.pools.getD i hd0).a (s.pools.getD i hd0).n = netsOf s.nets (s.pools.getD i hd0).a (s.pools.getD i hd0).n := fun _ => rfl
  obtain ⟨nn, hnn⟩ : ∃ nn : Nat → List Hd, nn = fun i => netsOf s.nets (s.pools.getD i hd0).a (s.pools.getD i hd0).n := ⟨_, rfl⟩
  have hin : ∀ i, i < s.pools.length → s.pools.getD i hd0 ∈ s.pools := fun i hi => by
    rw [List.getD_eq_getElem?_getD, List.getElem?_eq_getElem hi]; exact List.getElem_mem hi
  have hjn : ∀ i j, j < (nn i).length → (nn i).getD j hd0 ∈ s.nets := fun i j hj => by
    have hm : (nn i).getD j hd0 ∈ nn i := by rw [List.getD_eq_getElem?_getD, List.getElem?_eq_getElem hj]; exact List.getElem_mem hj
    have hm2 : ∀ y, y ∈ nn i → y ∈ s.nets := by intro y hy; rw [hnn] at hy; exact netsOf_sub hy
    exact hm2 _ hm
  have hnl : ∀ i, (nn i).length ≤ 24 := fun i => by
    have := netsOf_len s.nets (s.pools.getD i hd0).a (s.pools.getD i hd0).n
    have := hI.n
    rw [hnn]; show (netsOf s.nets _ _).length ≤ 24; omega
  have hpl := hI.p
  refine (told_go x (HB w0 K x s) (fun W W' a b => a.below b) W h (bs (poolsT s)) (s.pools.map entH) (fun i => bs (netsT s (s.pools.getD i hd0))) (fun i => (nn i).map entH) (fun i j => bs (usedT s ((nn i).getD j hd0))) s.pools.length (by exact (List.length_map _).symm) (by omega) (fun i => by have := hnl i; simp; omega) ?a1 ?a2 ?a3 ?a4 ?a5 ?a6 ?a7 ?a8).mono ?_
  case a1 =>
    intro i
    by_cases hi : i < s.pools.length
    · rw [getD_map entH s.pools hd0 _ i hi]
      obtain ⟨a1, a2, _⟩ := hI.pa _ (hin i hi)
      exact bText_len _ _ a1 a2
    · rw [List.getD_eq_getElem?_getD, List.getElem?_eq_none (by simp; omega)]; simp
  case a2 =>
    intro i j
    by_cases hj : j < (nn i).length
    · show (((nn i).map entH).getD j ([], [])).1.length ≤ 1000
      rw [getD_map entH (nn i) hd0 _ j hj]
      obtain ⟨a1, a2, _⟩ := hI.na _ (hjn i j hj)
      exact bText_len _ _ a1 a2
    · show (((nn i).map entH).getD j ([], [])).1.length ≤ 1000
      rw [List.getD_eq_getElem?_getD, List.getElem?_eq_none (by simp; omega)]; simp
  case a3 =>
    intro W hW
    have h1 := hb_ask w0 K x s (bs (verb 8)) E hZ hI (fun l hl => by rw [bs_data, read_pools] at hl; injection hl with hl; rw [← hl]; show ¬ 8 < 8; omega) W hW
    rw [ask_pools] at h1
    exact h1
  case a4 =>
    intro i hi W hW
    obtain ⟨h0, h1, hr⟩ := G.pr _ (hin i hi)
    have e := read_ask (k := 9) (by omega) h0 h1 hr
    have h1 := hb_ask w0 K x s (bs (verb 9 ++ 32 :: bText (s.pools.getD i hd0).a (s.pools.getD i hd0).n)) E hZ hI (fun l hl => by rw [bs_data] at hl; replace hl := e.symm.trans hl; injection hl with hl; rw [← hl]; show ¬ 9 < 8; omega) W hW
    rw [ask_nets G (hin i hi)] at h1
    rw [getD_map entH s.pools hd0 _ i hi]
    have e3 := ask_cat 9 (entH (s.pools.getD i hd0)).1 [78, 69, 84, 83, 32] rfl
    rw [show (⟨#[78, 69, 84, 83, 32]⟩ : ByteArray) ++ bs (entH (s.pools.getD i hd0)).1 = _ from e3]
    exact h1
  case a5 =>
    intro i hi j hj W hW
    replace hj : j < (nn i).length := by simpa using hj
    obtain ⟨h0, h1, hr, _⟩ := G.nr _ (hjn i j hj)
    have e := read_ask (k := 10) (by omega) h0 h1 hr
    have h1 := hb_ask w0 K x s (bs (verb 10 ++ 32 :: bText ((nn i).getD j hd0).a ((nn i).getD j hd0).n)) E hZ hI (fun l hl => by rw [bs_data] at hl; replace hl := e.symm.trans hl; injection hl with hl; rw [← hl]; show ¬ 10 < 8; omega) W hW
    rw [ask_used G (hjn i j hj)] at h1
    rw [getD_map entH (nn i) hd0 _ j hj]
    have e3 := ask_cat 10 (entH ((nn i).getD j hd0)).1 [85, 83, 69, 68, 32] rfl
    rw [show (⟨#[85, 83, 69, 68, 32]⟩ : ByteArray) ++ bs (entH ((nn i).getD j hd0)).1 = _ from e3]
    exact h1
  case a6 =>
    intro W
    have := poolsT_len hI
    have h1 := ent_of (bs (poolsT s)) (s.pools.map entH) (by rw [bs_size]; omega) (by rw [bs_data]; exact ent_h _ G.po) W
    rw [List.length_map] at h1 ⊢
    exact h1
  case a7 =>
    intro i hi W
    have := netsT_len hI (s.pools.getD i hd0)
    exact ent_of (bs (netsT s (s.pools.getD i hd0))) ((nn i).map entH) (by rw [bs_size]; omega) (by rw [bs_data, hnn]; exact ent_h _ fun h hh => G.no h (netsOf_sub hh)) W
  case a8 =>
    intro i hi j hj W
    have := usedT_len hI ((nn i).getD j hd0)
    refine (ent_of (bs (usedT s ((nn i).getD j hd0))) _ (by rw [bs_size]; omega) (by rw [bs_data]; exact ent_l _ fun h hh => G.lo h (leasesOf_sub hh)) W).mono ?_
    rintro e w' ⟨b, c, rfl, _, hb⟩
    exact ⟨_, rfl, hb⟩
  · rintro e w' ⟨v, rfl, ho, hb⟩
    refine ⟨v, rfl, ?_, hb⟩
    have e : tolF (bs (poolsT s)) (fun i => bs (netsT s (s.pools.getD i hd0))) (fun i => ((nn i).map entH).length) (fun i j => bs (usedT s ((nn i).getD j hd0))) s.pools.length = toldB s := by
      unfold tolF toldB toldS
      rw [List.map_cons, List.map_flatMap]
      congr 1
      rw [← range_flat _ s.pools hd0]
      congr 1
      funext i
      unfold tolG toldP
      rw [List.map_cons]
      congr 1
      show (List.range ((nn i).map entH).length).map (fun j => bs (usedT s ((nn i).getD j hd0))) = _
      rw [List.length_map, range_map (fun h => bs (usedT s h)), hnn, List.map_map]
      rfl
    rw [e] at ho
    exact ho
end Go.Proofs.YtlikdnmikdldfaaGreatDoor
namespace Go.Proofs.YtlikdnmikdldfaaGreatDoor
open Go.Conc Go.ChangeShapes Go.WideShapes Go.ChangeAt Go.RowKit
set_option linter.unusedVariables false
set_option linter.unusedSimpArgs false

set_option maxRecDepth 100000 in
set_option maxHeartbeats 400000 in
theorem owner_at (r : Int) (q : Nat) (t : ByteArray) (w : World) (hq : pk r 3 = q) (hc : -9223372036854775808 ≤ r ∧ r ≤ 9223372036854775807) (ht : (q = 0 ∧ t = ⟨#[97, 110, 110]⟩) ∨ (q = 1 ∧ t = ⟨#[98, 111, 98]⟩) ∨ (q = 2 ∧ t = ⟨#[99, 121]⟩)) :
    Calls Tryz.prog 22 #[.int .i64 r] w fun e w' => e = .returned (.string t) ∧ Below w.heap.size w w' := by
  have HP : Hid (∀ W, Calls Tryz.prog 18 #[.int .i64 r, .int .i64 3] W fun e w' => e = .returned (.int .i64 q) ∧ w' = W) := fun W => by rw [← hq]; exact pick_any r 3 W hc (by omega) (by omega)
  rcases ht with ⟨rfl, rfl⟩ | ⟨rfl, rfl⟩ | ⟨rfl, rfl⟩
  all_goals (
    clear hq hc
    go_enter Tryz.func22, Tryz.ntmps22
    go_wp2_with (go_at_call 18; refine (HP.out _).mono ?_; rintro e w1 ⟨rfl, rfl⟩)
    go_ret
    exact ⟨rfl, (by repeat' (first | with_reducible assumption | with_reducible exact Below.refl _ _ | with_reducible apply Below.drew | with_reducible apply below_drewN | with_reducible apply Below.setCell | with_reducible apply Below.alloc | omega | (simp; done) | (simp; omega)))⟩)
theorem owner_any (r : Int) (w : World) (hc : -9223372036854775808 ≤ r ∧ r ≤ 9223372036854775807) :
    Calls Tryz.prog 22 #[.int .i64 r] w fun e w' => e = .returned (.string (bs (own3 (pk r 3).toNat))) ∧ Below w.heap.size w w' := by
  have h := pk_bd r 3 (by omega)
  refine owner_at r (pk r 3).toNat _ w (by omega) hc ?_
  have hh : (pk r 3).toNat = 0 ∨ (pk r 3).toNat = 1 ∨ (pk r 3).toNat = 2 := by omega
  rcases hh with e | e | e <;> rw [e]
  · exact .inl ⟨rfl, rfl⟩
  · exact .inr (.inl ⟨rfl, rfl⟩)
  · exact .inr (.inr ⟨rfl, rfl⟩)
end Go.Proofs.YtlikdnmikdldfaaGreatDoor
namespace Go.Proofs.YtlikdnmikdldfaaGreatDoor
open Go.Conc Go.ChangeShapes Go.WideShapes Go.ChangeAt Go.RowKit
set_option linter.unusedVariables false
set_option linter.unusedSimpArgs false

/-- what a walk has of a block that it made, whatever was called since -/
theorem blk_live {w wk : World} {cs : Array Value} {t : TypeId} (h : Below (w.heap.size + 1) (w.alloc (.cells cs t)) wk) : Blk wk w.heap.size cs t ∧ w.heap.size < wk.heap.size := by
  have hz := h.size
  rw [World.size_alloc] at hz
  exact ⟨(h.block w.heap.size (by omega)).trans (heap_alloc_new w _), by omega⟩
set_option maxRecDepth 100000 in
set_option maxHeartbeats 400000 in
theorem ktext_at (a n : Int) (T1 T2 : ByteArray) (w : World) (hT1 : T1.size ≤ 15) (hT2 : T2.size ≤ 12)
    (HA : Hid (∀ W, Calls Tryz.prog 20 #[.int .u32 a] W fun e w' => e = .returned (.string T1) ∧ Below W.heap.size W w'))
    (HD : Hid (∀ W, Calls Tryz.prog 19 #[.int .i64 n] W fun e w' => e = .returned (.string T2) ∧ Below W.heap.size W w')) :
    Calls Tryz.prog 29 #[.agg #[.int .u32 a, .int .i64 n]] w fun e w' => e = .returned (.string (T1 ++ ⟨#[47]⟩ ++ T2)) ∧ Below w.heap.size w w' := by
  have LIVE : Hid (∀ wk, Below (w.heap.size + 1) (w.alloc (.cells #[.int .u32 a, .int .i64 n] 69)) wk → wk.cell? ⟨w.heap.size, 0, none⟩ = some (.int .u32 a) ∧ wk.cell? ⟨w.heap.size, 1, none⟩ = some (.int .i64 n) ∧ w.heap.size < wk.heap.size) := fun wk h => ⟨(blk_live h).1.cell 0, (blk_live h).1.cell 1, (blk_live h).2⟩
  have hc1 : ¬ 9223372036854775807 < T1.size + 1 := by omega
  have hc2 : ¬ 9223372036854775807 < T1.size + 1 + T2.size := by omega
  have hc3 : ¬ 9223372036854775807 < T1.size + (⟨#[47]⟩ : ByteArray).size := by rw [show (⟨#[47]⟩ : ByteArray).size = 1 from rfl]; omega
  have hc4 : ¬ 9223372036854775807 < (T1 ++ (⟨#[47]⟩ : ByteArray)).size + T2.size := by rw [ByteArray.size_append, show (⟨#[47]⟩ : ByteArray).size = 1 from rfl]; omega
  go_enter Tryz.func29, Tryz.ntmps29
  go_wp2
  go_region_held3 (fun w' => w'.cell? ⟨w.heap.size, 0, none⟩ = some (.int .u32 a) ∧ w'.cell? ⟨w.heap.size, 1, none⟩ = some (.int .i64 n)) (go_keep) (first
    | (go_at_call 20; refine (HA.out _).mono ?_; rintro e w1 ⟨rfl, HQ⟩; have HB1 : Hid (Below (w.heap.size + 1) (w.alloc (.cells #[.int .u32 a, .int .i64 n] 69)) w1) := bstep (by repeat' (first | with_reducible assumption | with_reducible exact Below.refl _ _ | with_reducible apply Below.drew | with_reducible apply below_drewN | with_reducible apply Below.setCell | with_reducible apply Below.alloc | omega | (simp; done) | (simp; omega))) (by simp) HQ; clear HQ; obtain ⟨c1_0, c1_1, c1_z⟩ := LIVE.out _ HB1.out)
    | (go_at_call 19; refine (HD.out _).mono ?_; rintro e w2 ⟨rfl, HQ⟩; have HB2 : Hid (Below (w.heap.size + 1) (w.alloc (.cells #[.int .u32 a, .int .i64 n] 69)) w2) := bstep (by have hp := HB1.out; repeat' (first | with_reducible assumption | with_reducible exact Below.refl _ _ | with_reducible apply Below.drew | with_reducible apply below_drewN | with_reducible apply Below.setCell | with_reducible apply Below.alloc | omega | (simp; done) | (simp; omega))) (by simp) HQ; clear HQ; obtain ⟨c2_0, c2_1, c2_z⟩ := LIVE.out _ HB2.out))
  all_goals (
    go_wp2
    go_ret
    exact ⟨rfl, (Below.alloc (Below.refl _ _) (Nat.le_refl _) _).trans (HB2.out.mono (by omega))⟩)
theorem ktext_any (a n : Int) (w : World) (h0 : 0 ≤ a) (h1 : a < 4294967296) (hn0 : 0 ≤ n) (hn1 : n ≤ 32) :
    Calls Tryz.prog 29 #[.agg #[.int .u32 a, .int .i64 n]] w fun e w' => e = .returned (.string (bs (bText a n))) ∧ Below w.heap.size w w' := by
  have h := ktext_at a n _ _ w (by rw [bs_size]; exact dot_len _ (by omega)) (by rw [bs_size]; have := dec_len2 (n := n.toNat) (by omega); omega) (fun W => kaddr_any a W h0 h1) (fun W => kdigits_any n W hn0 (by omega))
  have e : bs (dot a.toNat) ++ ⟨#[47]⟩ ++ bs (dec n.toNat) = bs (bText a n) := by
    have e1 : (⟨#[47]⟩ : ByteArray) = bs [47] := rfl
    rw [e1, bs_append, bs_append]
    show _ = bs (wr a.toNat n.toNat)
    unfold wr
    simp
  rw [e] at h
  exact h
/-- the blocks of which pools are made -/
def poolA (q : Nat) : Int := if q = 0 then 167772160 else if q = 1 then 167773184 else if q = 2 then 167773184 else if q = 3 then 3232235520 else if q = 4 then 3232235584 else 4294966272
def poolN (q : Nat) : Int := if q = 0 then 22 else if q = 1 then 24 else if q = 2 then 22 else if q = 3 then 26 else if q = 4 then 30 else 22
set_option maxRecDepth 100000 in
set_option maxHeartbeats 400000 in
theorem kpools_at (r : Int) (q : Nat) (a n : Int) (w : World) (hq : pk r 6 = q) (hc : -9223372036854775808 ≤ r ∧ r ≤ 9223372036854775807)
    (ht : (q = 0 ∧ a = 167772160 ∧ n = 22) ∨ (q = 1 ∧ a = 167773184 ∧ n = 24) ∨ (q = 2 ∧ a = 167773184 ∧ n = 22) ∨ (q = 3 ∧ a = 3232235520 ∧ n = 26) ∨ (q = 4 ∧ a = 3232235584 ∧ n = 30) ∨ (q = 5 ∧ a = 4294966272 ∧ n = 22)) :
    Calls Tryz.prog 28 #[.int .i64 r] w fun e w' => e = .returned (.agg #[.int .u32 a, .int .i64 n]) ∧ Below w.heap.size w w' := by
  have HP : Hid (∀ W, Calls Tryz.prog 18 #[.int .i64 r, .int .i64 6] W fun e w' => e = .returned (.int .i64 q) ∧ w' = W) := fun W => by rw [← hq]; exact pick_any r 6 W hc (by omega) (by omega)
  clear hc
  rcases ht with ⟨rfl, rfl, rfl⟩ | ⟨rfl, rfl, rfl⟩ | ⟨rfl, rfl, rfl⟩ | ⟨rfl, rfl, rfl⟩ | ⟨rfl, rfl, rfl⟩ | ⟨rfl, rfl, rfl⟩
  · clear hq
    go_enter Tryz.func28, Tryz.ntmps28
    go_wp2_with (go_at_call 18; refine (HP.out _).mono ?_; rintro e w1 ⟨rfl, rfl⟩)
    exact bodyPost_ret (v := .agg #[.int .u32 167772160, .int .i64 22]) (by simp [results, Tryz.results28, go_sem]) rfl ⟨rfl, (by repeat' (first | with_reducible assumption | with_reducible exact Below.refl _ _ | with_reducible apply Below.drew | with_reducible apply below_drewN | with_reducible apply Below.setCell | with_reducible apply Below.alloc | omega | (simp; done) | (simp; omega)))⟩
  · clear hq
    go_enter Tryz.func28, Tryz.ntmps28
    go_wp2_with (go_at_call 18; refine (HP.out _).mono ?_; rintro e w1 ⟨rfl, rfl⟩)
    exact bodyPost_ret (v := .agg #[.int .u32 167773184, .int .i64 24]) (by simp [results, Tryz.results28, go_sem]) rfl ⟨rfl, (by repeat' (first | with_reducible assumption | with_reducible exact Below.refl _ _ | with_reducible apply Below.drew | with_reducible apply below_drewN | with_reducible apply Below.setCell | with_reducible apply Below.alloc | omega | (simp; done) | (simp; omega)))⟩
  · clear hq
    go_enter Tryz.func28, Tryz.ntmps28
    go_wp2_with (go_at_call 18; refine (HP.out _).mono ?_; rintro e w1 ⟨rfl, rfl⟩)
    exact bodyPost_ret (v := .agg #[.int .u32 167773184, .int .i64 22]) (by simp [results, Tryz.results28, go_sem]) rfl ⟨rfl, (by repeat' (first | with_reducible assumption | with_reducible exact Below.refl _ _ | with_reducible apply Below.drew | with_reducible apply below_drewN | with_reducible apply Below.setCell | with_reducible apply Below.alloc | omega | (simp; done) | (simp; omega)))⟩
  · clear hq
    go_enter Tryz.func28, Tryz.ntmps28
    go_wp2_with (go_at_call 18; refine (HP.out _).mono ?_; rintro e w1 ⟨rfl, rfl⟩)
    exact bodyPost_ret (v := .agg #[.int .u32 3232235520, .int .i64 26]) (by simp [results, Tryz.results28, go_sem]) rfl ⟨rfl, (by repeat' (first | with_reducible assumption | with_reducible exact Below.refl _ _ | with_reducible apply Below.drew | with_reducible apply below_drewN | with_reducible apply Below.setCell | with_reducible apply Below.alloc | omega | (simp; done) | (simp; omega)))⟩
  · clear hq
    go_enter Tryz.func28, Tryz.ntmps28
    go_wp2_with (go_at_call 18; refine (HP.out _).mono ?_; rintro e w1 ⟨rfl, rfl⟩)
    exact bodyPost_ret (v := .agg #[.int .u32 3232235584, .int .i64 30]) (by simp [results, Tryz.results28, go_sem]) rfl ⟨rfl, (by repeat' (first | with_reducible assumption | with_reducible exact Below.refl _ _ | with_reducible apply Below.drew | with_reducible apply below_drewN | with_reducible apply Below.setCell | with_reducible apply Below.alloc | omega | (simp; done) | (simp; omega)))⟩
  · clear hq
    go_enter Tryz.func28, Tryz.ntmps28
    go_wp2_with (go_at_call 18; refine (HP.out _).mono ?_; rintro e w1 ⟨rfl, rfl⟩)
    exact bodyPost_ret (v := .agg #[.int .u32 4294966272, .int .i64 22]) (by simp [results, Tryz.results28, go_sem]) rfl ⟨rfl, (by repeat' (first | with_reducible assumption | with_reducible exact Below.refl _ _ | with_reducible apply Below.drew | with_reducible apply below_drewN | with_reducible apply Below.setCell | with_reducible apply Below.alloc | omega | (simp; done) | (simp; omega)))⟩
theorem kpools_any (r : Int) (w : World) (hc : -9223372036854775808 ≤ r ∧ r ≤ 9223372036854775807) :
    Calls Tryz.prog 28 #[.int .i64 r] w fun e w' => e = .returned (.agg #[.int .u32 (poolA (pk r 6).toNat), .int .i64 (poolN (pk r 6).toNat)]) ∧ Below w.heap.size w w' := by
  have h := pk_bd r 6 (by omega)
  refine kpools_at r (pk r 6).toNat _ _ w (by omega) hc ?_
  have hh : (pk r 6).toNat = 0 ∨ (pk r 6).toNat = 1 ∨ (pk r 6).toNat = 2 ∨ (pk r 6).toNat = 3 ∨ (pk r 6).toNat = 4 ∨ (pk r 6).toNat = 5 := by omega
  rcases hh with e | e | e | e | e | e <;> rw [e] <;> decide
end Go.Proofs.YtlikdnmikdldfaaGreatDoor
namespace Go.Proofs.YtlikdnmikdldfaaGreatDoor
open Go.Conc Go.ChangeShapes Go.WideShapes Go.ChangeAt Go.RowKit
set_option linter.unusedVariables false
set_option linter.unusedSimpArgs false

/-- a line whose answer is known -/
theorem hb_known (w : World) (E : EnvT w) (hZ : 10 ≤ w.heap.size) (x : Nat) (s s' : Bk) (line line' ans : ByteArray) (hl : line = line') (he : doAll s line' = (s', ans)) (hI : Inv s) (W : World) (hW : HB w (fun _ => False) x s W) :
    Calls Tryz.prog 14 #[.pointer (some ⟨x, 0, none⟩), .string line] W fun e w' => e = .returned (.string ans) ∧ HB w (fun _ => False) x s' w' := by
  subst hl
  refine (hb_do w (fun _ => False) x s line E hZ hI W hW (fun b k => k.elim)).mono ?_
  rintro e w' ⟨rfl, h1, _⟩
  rw [he] at h1 ⊢
  exact ⟨rfl, h1⟩
end Go.Proofs.YtlikdnmikdldfaaGreatDoor
