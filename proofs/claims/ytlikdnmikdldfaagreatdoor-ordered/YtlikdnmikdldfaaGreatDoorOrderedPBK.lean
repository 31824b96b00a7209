/-
  BkS
-/
import Derived.Test.YtlikdnmikdldfaaGreatDoorOrderedPBJ
import Derived.Test.YtlikdnmikdldfaaGreatDoorOrderedPAM
import Derived.Test.YtlikdnmikdldfaaGreatDoorOrderedPAP
import Derived.Test.YtlikdnmikdldfaaGreatDoorOrderedPAQ
import Derived.Test.YtlikdnmikdldfaaGreatDoorOrderedPAN
import Derived.Test.YtlikdnmikdldfaaGreatDoorOrderedPAO
import Derived.Test.YtlikdnmikdldfaaGreatDoorOrderedPBI
namespace Go.Proofs.YtlikdnmikdldfaaGreatDoor
open Go.ChangeShapes Go.WideShapes Go.ChangeAt Go.RowKit
set_option linter.unusedVariables false
set_option linter.unusedSimpArgs false

theorem res_pass {w w1 : World} {cs : Array Value} {x : Nat} {S : Nat → Prop} {s : Bk} {r : Bk × An} {e : Ending} (h : BkAt w x S s) (R : Res ((w.alloc (.cells cs 74)).alloc (.cells #[.int .i64 0, .slice none 0 0] 79)) x S r e w1) :
    ∃ b n c, e = .returned (.agg #[.int .i64 r.2.e, .slice b n c]) ∧ Blk w1 (w.heap.size + 1) #[.int .i64 0, .slice none 0 0] 79 ∧ Res w x S r (.returned (.agg #[.int .i64 r.2.e, .slice b n c])) ((w1.setCell ⟨w.heap.size + 1, 0, none⟩ (.int .i64 r.2.e)).setCell ⟨w.heap.size + 1, 1, none⟩ (.slice b n c)) := by
  obtain ⟨va, S', rfl, hrd, hb, hS, hc⟩ := R
  have hs : ∀ b, S b → b < w.heap.size := by obtain ⟨_, _, _, _, B⟩ := h; exact B.sz
  have hz := hc.size
  have hc2 : Chg S w w1 := (Chg.below (S := S) (w := w) (w' := ((w.alloc (.cells cs 74)).alloc (.cells #[.int .i64 0, .slice none 0 0] 79))) (by repeat' (first | with_reducible assumption | with_reducible exact Below.refl _ _ | with_reducible apply Below.drew | with_reducible apply below_drewN | with_reducible apply Below.setCell | with_reducible apply Below.alloc | omega | (simp; done) | (simp; omega)))).trans hc (fun b q => .inl q)
  have hS2 : ∀ b, S' b → b ≠ w.heap.size + 1 ∧ (S b ∨ w.heap.size ≤ b) := fun b q => by
    rcases hS b q with k | k
    · exact ⟨by have := hs b k; omega, .inl k⟩
    · simp at k; exact ⟨by omega, .inr (by omega)⟩
  have q2 := Blk.new (w.alloc (.cells cs 74)) #[.int .i64 0, .slice none 0 0] 79
  rw [show (w.alloc (.cells cs 74)).heap.size = w.heap.size + 1 by simp] at q2
  have p2 : Blk w1 (w.heap.size + 1) #[.int .i64 0, .slice none 0 0] 79 := (hc.block _ (by simp) (fun q => by have := hs _ q; omega)).trans q2
  obtain ⟨bb, cap, rfl, h1, h2, h3⟩ := hrd
  refine ⟨bb, _, cap, rfl, p2, ?_⟩
  have s1 := sets_other (w.heap.size + 1) [.int .i64 r.2.e, .slice bb r.2.s.length cap] 0 w1
  refine ⟨_, S', rfl, ⟨bb, cap, rfl, h1, h2, fun hne => ?_⟩, ?_, fun b q => (hS2 b q).2, hc2.sets (w.heap.size + 1) 0 [.int .i64 r.2.e, .slice bb r.2.s.length cap] (.inr (by omega))⟩
  · obtain ⟨g, e2, hg, hcc⟩ := h3 hne
    have hgn : g ≠ w.heap.size + 1 := fun q => by
      have c0 := hcc 0 (List.length_pos_iff.2 hne) 0 _ rfl
      rw [q] at c0
      have c1 := p2.cell 0
      rw [show (⟨w.heap.size + 1, 0 * 1 + 0, none⟩ : Addr) = ⟨w.heap.size + 1, 0, none⟩ from rfl, c1] at c0
      cases c0
    exact ⟨g, e2, by rw [show ((w1.setCell ⟨w.heap.size + 1, 0, none⟩ (.int .i64 r.2.e)).setCell ⟨w.heap.size + 1, 1, none⟩ (.slice bb r.2.s.length cap)).heap.size = w1.heap.size from s1.2.2.2.1]; exact hg, fun j hj i u hu => (World.cell?_of_block (a := ⟨g, j * 1 + i, none⟩) (s1.2.2.2.2 g hgn)).trans (hcc j hj i u hu)⟩
  · obtain ⟨vp, vn, vl, c, B⟩ := hb
    exact ⟨vp, vn, vl, c, B.same (fun b q => s1.2.2.2.2 b (hS2 b q).1) (Nat.le_of_eq s1.2.2.2.1.symm)⟩

theorem res_passB {w w1 : World} {cs : Array Value} {x : Nat} {S : Nat → Prop} {s : Bk} {r : Bk × An} {e : Ending} (h : BkAt w x S s) (R : ResB ((w.alloc (.cells cs 74)).alloc (.cells #[.int .i64 0, .slice none 0 0] 79)) x S r e w1) :
    ∃ b n c, e = .returned (.agg #[.int .i64 r.2.e, .slice b n c]) ∧ Blk w1 (w.heap.size + 1) #[.int .i64 0, .slice none 0 0] 79 ∧ ResB w x S r (.returned (.agg #[.int .i64 r.2.e, .slice b n c])) ((w1.setCell ⟨w.heap.size + 1, 0, none⟩ (.int .i64 r.2.e)).setCell ⟨w.heap.size + 1, 1, none⟩ (.slice b n c)) := by
  obtain ⟨b, n, c, h1, h2, h3⟩ := res_pass h R.1
  have hq := R.2
  have hq2 : Below w.heap.size w w1 := Below.trans (B := w.heap.size) (a := w) (by repeat' (first | with_reducible assumption | with_reducible exact Below.refl _ _ | with_reducible apply Below.drew | with_reducible apply below_drewN | with_reducible apply Below.setCell | with_reducible apply Below.alloc | omega | (simp; done) | (simp; omega))) (hq.mono (by simp; omega))
  have hz := hq.size
  simp at hz
  clear hq
  exact ⟨b, n, c, h1, h2, h3, (by repeat' (first | with_reducible assumption | with_reducible exact Below.refl _ _ | with_reducible apply Below.drew | with_reducible apply below_drewN | with_reducible apply Below.setCell | with_reducible apply Below.alloc | omega | (simp; done) | (simp; omega)))⟩

set_option maxRecDepth 100000 in
set_option maxHeartbeats 2000000 in
theorem do_0 (w : World) (x : Nat) (S : Nat → Prop) (s : Bk) (l : Ln) (hE : Env w) (hI : Inv s) (hL : LnOk l) (h : BkAt w x S s) (hG : ∀ b, S b → 10 ≤ b) (hZ : 10 ≤ w.heap.size) (hv : l.v = 0) :
    Calls Tryz.prog 35 #[.pointer (some ⟨x, 0, none⟩), .agg (lnC l)] w (Res w x S (doPool s l)) := by
  have H : Hid (BkAt w x S s) := h
  obtain ⟨vp, vn, vl, c, B⟩ := h
  have hx := B.blk.lt
  have x0 : w.cell? ⟨x, 0, none⟩ = some vp := B.blk.cell 0
  have hl : lnC l = #[.int .i64 0, .string l.t, .string l.o, .int .u32 l.a, .int .i64 l.n, .int .u32 l.d, .int .i64 l.g] := by unfold lnC; rw [hv]; rfl
  obtain ⟨r, hr⟩ : ∃ r : Bk × An, r = doPool s l := ⟨_, rfl⟩
  have HC : Hid (∀ W, Below w.heap.size w W → Calls Tryz.prog 58 #[.pointer (some ⟨x, 0, none⟩), .agg #[.int .i64 0, .string l.t, .string l.o, .int .u32 l.a, .int .i64 l.n, .int .u32 l.d, .int .i64 l.g]] W (Res W x S r)) := fun W hW => by
    rw [hr, ← hl]
    exact makePool_any W x S s l hI hL (H.out.below hW)
  rw [← hr, hl]
  clear B hr hl hv
  go_enter Tryz.func35, Tryz.ntmps35
  go_wp2_with (go_at_call 58; refine (HC.out _ (by repeat' (first | with_reducible assumption | with_reducible exact Below.refl _ _ | with_reducible apply Below.drew | with_reducible apply below_drewN | with_reducible apply Below.setCell | with_reducible apply Below.alloc | omega | (simp; done) | (simp; omega)))).mono ?_; rintro e w1 R; obtain ⟨bt, nt, ct, rfl, hR, hfin⟩ := res_pass H.out R; replace hfin : Hid _ := hfin; clear R; have r0_1 : w1.cell? ⟨w.heap.size + 1, 0, none⟩ = some (.int .i64 0) := hR.cell 0; have r1_1 : w1.cell? ⟨w.heap.size + 1, 1, none⟩ = some (.slice none 0 0) := hR.cell 1; have g0_1 := hR.frozen 0; have g1_1 := hR.frozen 1; have z1_1 := hR.lt)
  obtain ⟨kk0, kk1⟩ := two_set hR (.int .i64 r.2.e) (.slice bt nt ct)
  exact bodyPost_ret (v := .agg #[.int .i64 r.2.e, .slice bt nt ct]) (by simp [results, Tryz.results35, go_sem, kk0, kk1]) rfl hfin.out

set_option maxRecDepth 100000 in
set_option maxHeartbeats 2000000 in
theorem do_1 (w : World) (x : Nat) (S : Nat → Prop) (s : Bk) (l : Ln) (hE : Env w) (hI : Inv s) (hL : LnOk l) (h : BkAt w x S s) (hG : ∀ b, S b → 10 ≤ b) (hZ : 10 ≤ w.heap.size) (hv : l.v = 1) :
    Calls Tryz.prog 35 #[.pointer (some ⟨x, 0, none⟩), .agg (lnC l)] w (Res w x S (doDrop s l)) := by
  have H : Hid (BkAt w x S s) := h
  obtain ⟨vp, vn, vl, c, B⟩ := h
  have hx := B.blk.lt
  have x0 : w.cell? ⟨x, 0, none⟩ = some vp := B.blk.cell 0
  have hl : lnC l = #[.int .i64 1, .string l.t, .string l.o, .int .u32 l.a, .int .i64 l.n, .int .u32 l.d, .int .i64 l.g] := by unfold lnC; rw [hv]; rfl
  obtain ⟨r, hr⟩ : ∃ r : Bk × An, r = doDrop s l := ⟨_, rfl⟩
  have HC : Hid (∀ W, Below w.heap.size w W → Calls Tryz.prog 59 #[.pointer (some ⟨x, 0, none⟩), .agg #[.int .i64 1, .string l.t, .string l.o, .int .u32 l.a, .int .i64 l.n, .int .u32 l.d, .int .i64 l.g]] W (Res W x S r)) := fun W hW => by
    rw [hr, ← hl]
    exact dropPool_any W x S s l hI hL (H.out.below hW)
  rw [← hr, hl]
  clear B hr hl hv
  go_enter Tryz.func35, Tryz.ntmps35
  go_wp2_with (go_at_call 59; refine (HC.out _ (by repeat' (first | with_reducible assumption | with_reducible exact Below.refl _ _ | with_reducible apply Below.drew | with_reducible apply below_drewN | with_reducible apply Below.setCell | with_reducible apply Below.alloc | omega | (simp; done) | (simp; omega)))).mono ?_; rintro e w1 R; obtain ⟨bt, nt, ct, rfl, hR, hfin⟩ := res_pass H.out R; replace hfin : Hid _ := hfin; clear R; have r0_1 : w1.cell? ⟨w.heap.size + 1, 0, none⟩ = some (.int .i64 0) := hR.cell 0; have r1_1 : w1.cell? ⟨w.heap.size + 1, 1, none⟩ = some (.slice none 0 0) := hR.cell 1; have g0_1 := hR.frozen 0; have g1_1 := hR.frozen 1; have z1_1 := hR.lt)
  obtain ⟨kk0, kk1⟩ := two_set hR (.int .i64 r.2.e) (.slice bt nt ct)
  exact bodyPost_ret (v := .agg #[.int .i64 r.2.e, .slice bt nt ct]) (by simp [results, Tryz.results35, go_sem, kk0, kk1]) rfl hfin.out

set_option maxRecDepth 100000 in
set_option maxHeartbeats 2000000 in
theorem do_2 (w : World) (x : Nat) (S : Nat → Prop) (s : Bk) (l : Ln) (hE : Env w) (hI : Inv s) (hL : LnOk l) (h : BkAt w x S s) (hG : ∀ b, S b → 10 ≤ b) (hZ : 10 ≤ w.heap.size) (hv : l.v = 2) :
    Calls Tryz.prog 35 #[.pointer (some ⟨x, 0, none⟩), .agg (lnC l)] w (Res w x S (doNet s l)) := by
  have H : Hid (BkAt w x S s) := h
  obtain ⟨vp, vn, vl, c, B⟩ := h
  have hx := B.blk.lt
  have x0 : w.cell? ⟨x, 0, none⟩ = some vp := B.blk.cell 0
  have hl : lnC l = #[.int .i64 2, .string l.t, .string l.o, .int .u32 l.a, .int .i64 l.n, .int .u32 l.d, .int .i64 l.g] := by unfold lnC; rw [hv]; rfl
  obtain ⟨r, hr⟩ : ∃ r : Bk × An, r = doNet s l := ⟨_, rfl⟩
  have HC : Hid (∀ W, Below w.heap.size w W → Calls Tryz.prog 60 #[.pointer (some ⟨x, 0, none⟩), .agg #[.int .i64 2, .string l.t, .string l.o, .int .u32 l.a, .int .i64 l.n, .int .u32 l.d, .int .i64 l.g]] W (Res W x S r)) := fun W hW => by
    rw [hr, ← hl]
    exact carve_any W x S s l hI hL (H.out.below hW) (hE.mono hW) hG (by have := hW.size; omega)
  rw [← hr, hl]
  clear B hr hl hv
  go_enter Tryz.func35, Tryz.ntmps35
  go_wp2_with (go_at_call 60; refine (HC.out _ (by repeat' (first | with_reducible assumption | with_reducible exact Below.refl _ _ | with_reducible apply Below.drew | with_reducible apply below_drewN | with_reducible apply Below.setCell | with_reducible apply Below.alloc | omega | (simp; done) | (simp; omega)))).mono ?_; rintro e w1 R; obtain ⟨bt, nt, ct, rfl, hR, hfin⟩ := res_pass H.out R; replace hfin : Hid _ := hfin; clear R; have r0_1 : w1.cell? ⟨w.heap.size + 1, 0, none⟩ = some (.int .i64 0) := hR.cell 0; have r1_1 : w1.cell? ⟨w.heap.size + 1, 1, none⟩ = some (.slice none 0 0) := hR.cell 1; have g0_1 := hR.frozen 0; have g1_1 := hR.frozen 1; have z1_1 := hR.lt)
  obtain ⟨kk0, kk1⟩ := two_set hR (.int .i64 r.2.e) (.slice bt nt ct)
  exact bodyPost_ret (v := .agg #[.int .i64 r.2.e, .slice bt nt ct]) (by simp [results, Tryz.results35, go_sem, kk0, kk1]) rfl hfin.out

set_option maxRecDepth 100000 in
set_option maxHeartbeats 2000000 in
theorem do_3 (w : World) (x : Nat) (S : Nat → Prop) (s : Bk) (l : Ln) (hE : Env w) (hI : Inv s) (hL : LnOk l) (h : BkAt w x S s) (hG : ∀ b, S b → 10 ≤ b) (hZ : 10 ≤ w.heap.size) (hv : l.v = 3) :
    Calls Tryz.prog 35 #[.pointer (some ⟨x, 0, none⟩), .agg (lnC l)] w (Res w x S (doBlock s l)) := by
  have H : Hid (BkAt w x S s) := h
  obtain ⟨vp, vn, vl, c, B⟩ := h
  have hx := B.blk.lt
  have x0 : w.cell? ⟨x, 0, none⟩ = some vp := B.blk.cell 0
  have hl : lnC l = #[.int .i64 3, .string l.t, .string l.o, .int .u32 l.a, .int .i64 l.n, .int .u32 l.d, .int .i64 l.g] := by unfold lnC; rw [hv]; rfl
  obtain ⟨r, hr⟩ : ∃ r : Bk × An, r = doBlock s l := ⟨_, rfl⟩
  have HC : Hid (∀ W, Below w.heap.size w W → Calls Tryz.prog 61 #[.pointer (some ⟨x, 0, none⟩), .agg #[.int .i64 3, .string l.t, .string l.o, .int .u32 l.a, .int .i64 l.n, .int .u32 l.d, .int .i64 l.g]] W (Res W x S r)) := fun W hW => by
    rw [hr, ← hl]
    exact carveJust_any W x S s l hI hL (H.out.below hW)
  rw [← hr, hl]
  clear B hr hl hv
  go_enter Tryz.func35, Tryz.ntmps35
  go_wp2_with (go_at_call 61; refine (HC.out _ (by repeat' (first | with_reducible assumption | with_reducible exact Below.refl _ _ | with_reducible apply Below.drew | with_reducible apply below_drewN | with_reducible apply Below.setCell | with_reducible apply Below.alloc | omega | (simp; done) | (simp; omega)))).mono ?_; rintro e w1 R; obtain ⟨bt, nt, ct, rfl, hR, hfin⟩ := res_pass H.out R; replace hfin : Hid _ := hfin; clear R; have r0_1 : w1.cell? ⟨w.heap.size + 1, 0, none⟩ = some (.int .i64 0) := hR.cell 0; have r1_1 : w1.cell? ⟨w.heap.size + 1, 1, none⟩ = some (.slice none 0 0) := hR.cell 1; have g0_1 := hR.frozen 0; have g1_1 := hR.frozen 1; have z1_1 := hR.lt)
  obtain ⟨kk0, kk1⟩ := two_set hR (.int .i64 r.2.e) (.slice bt nt ct)
  exact bodyPost_ret (v := .agg #[.int .i64 r.2.e, .slice bt nt ct]) (by simp [results, Tryz.results35, go_sem, kk0, kk1]) rfl hfin.out

set_option maxRecDepth 100000 in
set_option maxHeartbeats 2000000 in
theorem do_4 (w : World) (x : Nat) (S : Nat → Prop) (s : Bk) (l : Ln) (hE : Env w) (hI : Inv s) (hL : LnOk l) (h : BkAt w x S s) (hG : ∀ b, S b → 10 ≤ b) (hZ : 10 ≤ w.heap.size) (hv : l.v = 4) :
    Calls Tryz.prog 35 #[.pointer (some ⟨x, 0, none⟩), .agg (lnC l)] w (Res w x S (doFree s l)) := by
  have H : Hid (BkAt w x S s) := h
  obtain ⟨vp, vn, vl, c, B⟩ := h
  have hx := B.blk.lt
  have x0 : w.cell? ⟨x, 0, none⟩ = some vp := B.blk.cell 0
  have hl : lnC l = #[.int .i64 4, .string l.t, .string l.o, .int .u32 l.a, .int .i64 l.n, .int .u32 l.d, .int .i64 l.g] := by unfold lnC; rw [hv]; rfl
  obtain ⟨r, hr⟩ : ∃ r : Bk × An, r = doFree s l := ⟨_, rfl⟩
  have HC : Hid (∀ W, Below w.heap.size w W → Calls Tryz.prog 62 #[.pointer (some ⟨x, 0, none⟩), .agg #[.int .i64 4, .string l.t, .string l.o, .int .u32 l.a, .int .i64 l.n, .int .u32 l.d, .int .i64 l.g]] W (Res W x S r)) := fun W hW => by
    rw [hr, ← hl]
    exact free_any W x S s l hI hL (H.out.below hW)
  rw [← hr, hl]
  clear B hr hl hv
  go_enter Tryz.func35, Tryz.ntmps35
  go_wp2_with (go_at_call 62; refine (HC.out _ (by repeat' (first | with_reducible assumption | with_reducible exact Below.refl _ _ | with_reducible apply Below.drew | with_reducible apply below_drewN | with_reducible apply Below.setCell | with_reducible apply Below.alloc | omega | (simp; done) | (simp; omega)))).mono ?_; rintro e w1 R; obtain ⟨bt, nt, ct, rfl, hR, hfin⟩ := res_pass H.out R; replace hfin : Hid _ := hfin; clear R; have r0_1 : w1.cell? ⟨w.heap.size + 1, 0, none⟩ = some (.int .i64 0) := hR.cell 0; have r1_1 : w1.cell? ⟨w.heap.size + 1, 1, none⟩ = some (.slice none 0 0) := hR.cell 1; have g0_1 := hR.frozen 0; have g1_1 := hR.frozen 1; have z1_1 := hR.lt)
  obtain ⟨kk0, kk1⟩ := two_set hR (.int .i64 r.2.e) (.slice bt nt ct)
  exact bodyPost_ret (v := .agg #[.int .i64 r.2.e, .slice bt nt ct]) (by simp [results, Tryz.results35, go_sem, kk0, kk1]) rfl hfin.out

set_option maxRecDepth 100000 in
set_option maxHeartbeats 2000000 in
theorem do_5 (w : World) (x : Nat) (S : Nat → Prop) (s : Bk) (l : Ln) (hE : Env w) (hI : Inv s) (hL : LnOk l) (h : BkAt w x S s) (hG : ∀ b, S b → 10 ≤ b) (hZ : 10 ≤ w.heap.size) (hv : l.v = 5) :
    Calls Tryz.prog 35 #[.pointer (some ⟨x, 0, none⟩), .agg (lnC l)] w (Res w x S (doLease s l)) := by
  have H : Hid (BkAt w x S s) := h
  obtain ⟨vp, vn, vl, c, B⟩ := h
  have hx := B.blk.lt
  have x0 : w.cell? ⟨x, 0, none⟩ = some vp := B.blk.cell 0
  have hl : lnC l = #[.int .i64 5, .string l.t, .string l.o, .int .u32 l.a, .int .i64 l.n, .int .u32 l.d, .int .i64 l.g] := by unfold lnC; rw [hv]; rfl
  obtain ⟨r, hr⟩ : ∃ r : Bk × An, r = doLease s l := ⟨_, rfl⟩
  have HC : Hid (∀ W, Below w.heap.size w W → Calls Tryz.prog 63 #[.pointer (some ⟨x, 0, none⟩), .agg #[.int .i64 5, .string l.t, .string l.o, .int .u32 l.a, .int .i64 l.n, .int .u32 l.d, .int .i64 l.g]] W (Res W x S r)) := fun W hW => by
    rw [hr, ← hl]
    exact lease_any W x S s l hI hL (H.out.below hW) (hE.mono hW) hG (by have := hW.size; omega)
  rw [← hr, hl]
  clear B hr hl hv
  go_enter Tryz.func35, Tryz.ntmps35
  go_wp2_with (go_at_call 63; refine (HC.out _ (by repeat' (first | with_reducible assumption | with_reducible exact Below.refl _ _ | with_reducible apply Below.drew | with_reducible apply below_drewN | with_reducible apply Below.setCell | with_reducible apply Below.alloc | omega | (simp; done) | (simp; omega)))).mono ?_; rintro e w1 R; obtain ⟨bt, nt, ct, rfl, hR, hfin⟩ := res_pass H.out R; replace hfin : Hid _ := hfin; clear R; have r0_1 : w1.cell? ⟨w.heap.size + 1, 0, none⟩ = some (.int .i64 0) := hR.cell 0; have r1_1 : w1.cell? ⟨w.heap.size + 1, 1, none⟩ = some (.slice none 0 0) := hR.cell 1; have g0_1 := hR.frozen 0; have g1_1 := hR.frozen 1; have z1_1 := hR.lt)
  obtain ⟨kk0, kk1⟩ := two_set hR (.int .i64 r.2.e) (.slice bt nt ct)
  exact bodyPost_ret (v := .agg #[.int .i64 r.2.e, .slice bt nt ct]) (by simp [results, Tryz.results35, go_sem, kk0, kk1]) rfl hfin.out

set_option maxRecDepth 100000 in
set_option maxHeartbeats 2000000 in
theorem do_6 (w : World) (x : Nat) (S : Nat → Prop) (s : Bk) (l : Ln) (hE : Env w) (hI : Inv s) (hL : LnOk l) (h : BkAt w x S s) (hG : ∀ b, S b → 10 ≤ b) (hZ : 10 ≤ w.heap.size) (hv : l.v = 6) :
    Calls Tryz.prog 35 #[.pointer (some ⟨x, 0, none⟩), .agg (lnC l)] w (Res w x S (doTake s l)) := by
  have H : Hid (BkAt w x S s) := h
  obtain ⟨vp, vn, vl, c, B⟩ := h
  have hx := B.blk.lt
  have x0 : w.cell? ⟨x, 0, none⟩ = some vp := B.blk.cell 0
  have hl : lnC l = #[.int .i64 6, .string l.t, .string l.o, .int .u32 l.a, .int .i64 l.n, .int .u32 l.d, .int .i64 l.g] := by unfold lnC; rw [hv]; rfl
  obtain ⟨r, hr⟩ : ∃ r : Bk × An, r = doTake s l := ⟨_, rfl⟩
  have HC : Hid (∀ W, Below w.heap.size w W → Calls Tryz.prog 64 #[.pointer (some ⟨x, 0, none⟩), .agg #[.int .i64 6, .string l.t, .string l.o, .int .u32 l.a, .int .i64 l.n, .int .u32 l.d, .int .i64 l.g]] W (Res W x S r)) := fun W hW => by
    rw [hr, ← hl]
    exact take_any W x S s l hI hL (H.out.below hW)
  rw [← hr, hl]
  clear B hr hl hv
  go_enter Tryz.func35, Tryz.ntmps35
  go_wp2_with (go_at_call 64; refine (HC.out _ (by repeat' (first | with_reducible assumption | with_reducible exact Below.refl _ _ | with_reducible apply Below.drew | with_reducible apply below_drewN | with_reducible apply Below.setCell | with_reducible apply Below.alloc | omega | (simp; done) | (simp; omega)))).mono ?_; rintro e w1 R; obtain ⟨bt, nt, ct, rfl, hR, hfin⟩ := res_pass H.out R; replace hfin : Hid _ := hfin; clear R; have r0_1 : w1.cell? ⟨w.heap.size + 1, 0, none⟩ = some (.int .i64 0) := hR.cell 0; have r1_1 : w1.cell? ⟨w.heap.size + 1, 1, none⟩ = some (.slice none 0 0) := hR.cell 1; have g0_1 := hR.frozen 0; have g1_1 := hR.frozen 1; have z1_1 := hR.lt)
  obtain ⟨kk0, kk1⟩ := two_set hR (.int .i64 r.2.e) (.slice bt nt ct)
  exact bodyPost_ret (v := .agg #[.int .i64 r.2.e, .slice bt nt ct]) (by simp [results, Tryz.results35, go_sem, kk0, kk1]) rfl hfin.out

set_option maxRecDepth 100000 in
set_option maxHeartbeats 2000000 in
theorem do_7 (w : World) (x : Nat) (S : Nat → Prop) (s : Bk) (l : Ln) (hE : Env w) (hI : Inv s) (hL : LnOk l) (h : BkAt w x S s) (hG : ∀ b, S b → 10 ≤ b) (hZ : 10 ≤ w.heap.size) (hv : l.v = 7) :
    Calls Tryz.prog 35 #[.pointer (some ⟨x, 0, none⟩), .agg (lnC l)] w (Res w x S (doGive s l)) := by
  have H : Hid (BkAt w x S s) := h
  obtain ⟨vp, vn, vl, c, B⟩ := h
  have hx := B.blk.lt
  have x0 : w.cell? ⟨x, 0, none⟩ = some vp := B.blk.cell 0
  have hl : lnC l = #[.int .i64 7, .string l.t, .string l.o, .int .u32 l.a, .int .i64 l.n, .int .u32 l.d, .int .i64 l.g] := by unfold lnC; rw [hv]; rfl
  obtain ⟨r, hr⟩ : ∃ r : Bk × An, r = doGive s l := ⟨_, rfl⟩
  have HC : Hid (∀ W, Below w.heap.size w W → Calls Tryz.prog 65 #[.pointer (some ⟨x, 0, none⟩), .agg #[.int .i64 7, .string l.t, .string l.o, .int .u32 l.a, .int .i64 l.n, .int .u32 l.d, .int .i64 l.g]] W (Res W x S r)) := fun W hW => by
    rw [hr, ← hl]
    exact give_any W x S s l hI hL (H.out.below hW)
  rw [← hr, hl]
  clear B hr hl hv
  go_enter Tryz.func35, Tryz.ntmps35
  go_wp2_with (go_at_call 65; refine (HC.out _ (by repeat' (first | with_reducible assumption | with_reducible exact Below.refl _ _ | with_reducible apply Below.drew | with_reducible apply below_drewN | with_reducible apply Below.setCell | with_reducible apply Below.alloc | omega | (simp; done) | (simp; omega)))).mono ?_; rintro e w1 R; obtain ⟨bt, nt, ct, rfl, hR, hfin⟩ := res_pass H.out R; replace hfin : Hid _ := hfin; clear R; have r0_1 : w1.cell? ⟨w.heap.size + 1, 0, none⟩ = some (.int .i64 0) := hR.cell 0; have r1_1 : w1.cell? ⟨w.heap.size + 1, 1, none⟩ = some (.slice none 0 0) := hR.cell 1; have g0_1 := hR.frozen 0; have g1_1 := hR.frozen 1; have z1_1 := hR.lt)
  obtain ⟨kk0, kk1⟩ := two_set hR (.int .i64 r.2.e) (.slice bt nt ct)
  exact bodyPost_ret (v := .agg #[.int .i64 r.2.e, .slice bt nt ct]) (by simp [results, Tryz.results35, go_sem, kk0, kk1]) rfl hfin.out

set_option maxRecDepth 100000 in
set_option maxHeartbeats 2000000 in
theorem do_8 (w : World) (x : Nat) (S : Nat → Prop) (s : Bk) (l : Ln) (hE : Env w) (hI : Inv s) (hL : LnOk l) (h : BkAt w x S s) (hG : ∀ b, S b → 10 ≤ b) (hZ : 10 ≤ w.heap.size) (hv : l.v = 8) :
    Calls Tryz.prog 35 #[.pointer (some ⟨x, 0, none⟩), .agg (lnC l)] w (ResB w x S ((s, ⟨0, s.pools.map fun h => ⟨(hText h).toArray⟩⟩))) := by
  have H : Hid (BkAt w x S s) := h
  obtain ⟨vp, vn, vl, c, B⟩ := h
  have hx := B.blk.lt
  have x0 : w.cell? ⟨x, 0, none⟩ = some vp := B.blk.cell 0
  have hl : lnC l = #[.int .i64 8, .string l.t, .string l.o, .int .u32 l.a, .int .i64 l.n, .int .u32 l.d, .int .i64 l.g] := by unfold lnC; rw [hv]; rfl
  obtain ⟨r, hr⟩ : ∃ r : Bk × An, r = (s, ⟨0, s.pools.map fun h => ⟨(hText h).toArray⟩⟩) := ⟨_, rfl⟩
  have HC : Hid (∀ W, Below w.heap.size w W → Calls Tryz.prog 66 #[vp] W (ResB W x S r)) := fun W hW => by
    refine (tellP_any s.pools vp W (hE.mono hW) ((Rd.of_owns (k := 3) (enc := encH) (fun _ => rfl) hd0 B.op).below hW) (by have := hI.p; omega) (fun q hq => by have hm := hI.pa q hq; exact ⟨hm.1, hm.2.1, hm.2.2.2.2⟩)).mono ?_
    rintro e w' ⟨v', rfl, o1, _, o3⟩
    rw [hr]
    exact ⟨⟨v', S, rfl, o1, (H.out.below hW).below o3, fun b q => .inl q, Chg.below o3⟩, o3⟩
  rw [← hr, hl]
  clear B hr hl hv
  go_enter Tryz.func35, Tryz.ntmps35
  go_wp2_with (go_at_call 66; refine (HC.out _ (by repeat' (first | with_reducible assumption | with_reducible exact Below.refl _ _ | with_reducible apply Below.drew | with_reducible apply below_drewN | with_reducible apply Below.setCell | with_reducible apply Below.alloc | omega | (simp; done) | (simp; omega)))).mono ?_; rintro e w1 R; obtain ⟨bt, nt, ct, rfl, hR, hfin⟩ := res_passB H.out R; replace hfin : Hid _ := hfin; clear R; have r0_1 : w1.cell? ⟨w.heap.size + 1, 0, none⟩ = some (.int .i64 0) := hR.cell 0; have r1_1 : w1.cell? ⟨w.heap.size + 1, 1, none⟩ = some (.slice none 0 0) := hR.cell 1; have g0_1 := hR.frozen 0; have g1_1 := hR.frozen 1; have z1_1 := hR.lt)
  obtain ⟨kk0, kk1⟩ := two_set hR (.int .i64 r.2.e) (.slice bt nt ct)
  exact bodyPost_ret (v := .agg #[.int .i64 r.2.e, .slice bt nt ct]) (by simp [results, Tryz.results35, go_sem, kk0, kk1]) rfl hfin.out

set_option maxRecDepth 100000 in
set_option maxHeartbeats 2000000 in
theorem do_9 (w : World) (x : Nat) (S : Nat → Prop) (s : Bk) (l : Ln) (hE : Env w) (hI : Inv s) (hL : LnOk l) (h : BkAt w x S s) (hG : ∀ b, S b → 10 ≤ b) (hZ : 10 ≤ w.heap.size) (hv : l.v = 9) :
    Calls Tryz.prog 35 #[.pointer (some ⟨x, 0, none⟩), .agg (lnC l)] w (ResB w x S ((s, doNets s l))) := by
  have H : Hid (BkAt w x S s) := h
  obtain ⟨vp, vn, vl, c, B⟩ := h
  have hx := B.blk.lt
  have x0 : w.cell? ⟨x, 0, none⟩ = some vp := B.blk.cell 0
  have hl : lnC l = #[.int .i64 9, .string l.t, .string l.o, .int .u32 l.a, .int .i64 l.n, .int .u32 l.d, .int .i64 l.g] := by unfold lnC; rw [hv]; rfl
  obtain ⟨r, hr⟩ : ∃ r : Bk × An, r = (s, doNets s l) := ⟨_, rfl⟩
  have HC : Hid (∀ W, Below w.heap.size w W → Calls Tryz.prog 67 #[.pointer (some ⟨x, 0, none⟩), .agg #[.int .i64 9, .string l.t, .string l.o, .int .u32 l.a, .int .i64 l.n, .int .u32 l.d, .int .i64 l.g]] W (ResB W x S r)) := fun W hW => by
    rw [hr, ← hl]
    exact tellSubnets_any W x S s l (hE.mono hW) hI hL (H.out.below hW)
  rw [← hr, hl]
  clear B hr hl hv
  go_enter Tryz.func35, Tryz.ntmps35
  go_wp2_with (go_at_call 67; refine (HC.out _ (by repeat' (first | with_reducible assumption | with_reducible exact Below.refl _ _ | with_reducible apply Below.drew | with_reducible apply below_drewN | with_reducible apply Below.setCell | with_reducible apply Below.alloc | omega | (simp; done) | (simp; omega)))).mono ?_; rintro e w1 R; obtain ⟨bt, nt, ct, rfl, hR, hfin⟩ := res_passB H.out R; replace hfin : Hid _ := hfin; clear R; have r0_1 : w1.cell? ⟨w.heap.size + 1, 0, none⟩ = some (.int .i64 0) := hR.cell 0; have r1_1 : w1.cell? ⟨w.heap.size + 1, 1, none⟩ = some (.slice none 0 0) := hR.cell 1; have g0_1 := hR.frozen 0; have g1_1 := hR.frozen 1; have z1_1 := hR.lt)
  obtain ⟨kk0, kk1⟩ := two_set hR (.int .i64 r.2.e) (.slice bt nt ct)
  exact bodyPost_ret (v := .agg #[.int .i64 r.2.e, .slice bt nt ct]) (by simp [results, Tryz.results35, go_sem, kk0, kk1]) rfl hfin.out

set_option maxRecDepth 100000 in
set_option maxHeartbeats 2000000 in
theorem do_10 (w : World) (x : Nat) (S : Nat → Prop) (s : Bk) (l : Ln) (hE : Env w) (hI : Inv s) (hL : LnOk l) (h : BkAt w x S s) (hG : ∀ b, S b → 10 ≤ b) (hZ : 10 ≤ w.heap.size) (hv : l.v = 10) :
    Calls Tryz.prog 35 #[.pointer (some ⟨x, 0, none⟩), .agg (lnC l)] w (ResB w x S ((s, doUsed s l))) := by
  have H : Hid (BkAt w x S s) := h
  obtain ⟨vp, vn, vl, c, B⟩ := h
  have hx := B.blk.lt
  have x0 : w.cell? ⟨x, 0, none⟩ = some vp := B.blk.cell 0
  have hl : lnC l = #[.int .i64 10, .string l.t, .string l.o, .int .u32 l.a, .int .i64 l.n, .int .u32 l.d, .int .i64 l.g] := by unfold lnC; rw [hv]; rfl
  obtain ⟨r, hr⟩ : ∃ r : Bk × An, r = (s, doUsed s l) := ⟨_, rfl⟩
  have HC : Hid (∀ W, Below w.heap.size w W → Calls Tryz.prog 68 #[.pointer (some ⟨x, 0, none⟩), .agg #[.int .i64 10, .string l.t, .string l.o, .int .u32 l.a, .int .i64 l.n, .int .u32 l.d, .int .i64 l.g]] W (ResB W x S r)) := fun W hW => by
    rw [hr, ← hl]
    exact tellLeases_any W x S s l (hE.mono hW) hI hL (H.out.below hW)
  rw [← hr, hl]
  clear B hr hl hv
  go_enter Tryz.func35, Tryz.ntmps35
  go_wp2_with (go_at_call 68; refine (HC.out _ (by repeat' (first | with_reducible assumption | with_reducible exact Below.refl _ _ | with_reducible apply Below.drew | with_reducible apply below_drewN | with_reducible apply Below.setCell | with_reducible apply Below.alloc | omega | (simp; done) | (simp; omega)))).mono ?_; rintro e w1 R; obtain ⟨bt, nt, ct, rfl, hR, hfin⟩ := res_passB H.out R; replace hfin : Hid _ := hfin; clear R; have r0_1 : w1.cell? ⟨w.heap.size + 1, 0, none⟩ = some (.int .i64 0) := hR.cell 0; have r1_1 : w1.cell? ⟨w.heap.size + 1, 1, none⟩ = some (.slice none 0 0) := hR.cell 1; have g0_1 := hR.frozen 0; have g1_1 := hR.frozen 1; have z1_1 := hR.lt)
  obtain ⟨kk0, kk1⟩ := two_set hR (.int .i64 r.2.e) (.slice bt nt ct)
  exact bodyPost_ret (v := .agg #[.int .i64 r.2.e, .slice bt nt ct]) (by simp [results, Tryz.results35, go_sem, kk0, kk1]) rfl hfin.out

theorem bookDo_any (w : World) (x : Nat) (S : Nat → Prop) (s : Bk) (l : Ln) (hE : Env w) (hI : Inv s) (hL : LnOk l) (h : BkAt w x S s) (hG : ∀ b, S b → 10 ≤ b) (hZ : 10 ≤ w.heap.size) (hv : l.v < 11) :
    Calls Tryz.prog 35 #[.pointer (some ⟨x, 0, none⟩), .agg (lnC l)] w (Res w x S (doLn s l)) := by
  have hc : l.v = 0 ∨ l.v = 1 ∨ l.v = 2 ∨ l.v = 3 ∨ l.v = 4 ∨ l.v = 5 ∨ l.v = 6 ∨ l.v = 7 ∨ l.v = 8 ∨ l.v = 9 ∨ l.v = 10 := by omega
  unfold doLn
  rcases hc with e | e | e | e | e | e | e | e | e | e | e <;> rw [e]
  · exact do_0 w x S s l hE hI hL h hG hZ e
  · exact do_1 w x S s l hE hI hL h hG hZ e
  · exact do_2 w x S s l hE hI hL h hG hZ e
  · exact do_3 w x S s l hE hI hL h hG hZ e
  · exact do_4 w x S s l hE hI hL h hG hZ e
  · exact do_5 w x S s l hE hI hL h hG hZ e
  · exact do_6 w x S s l hE hI hL h hG hZ e
  · exact do_7 w x S s l hE hI hL h hG hZ e
  · exact (do_8 w x S s l hE hI hL h hG hZ e).mono fun _ _ q => q.1
  · exact (do_9 w x S s l hE hI hL h hG hZ e).mono fun _ _ q => q.1
  · exact (do_10 w x S s l hE hI hL h hG hZ e).mono fun _ _ q => q.1
theorem bookAsk_any (w : World) (x : Nat) (S : Nat → Prop) (s : Bk) (l : Ln) (hE : Env w) (hI : Inv s) (hL : LnOk l) (h : BkAt w x S s) (hG : ∀ b, S b → 10 ≤ b) (hZ : 10 ≤ w.heap.size) (h8 : 8 ≤ l.v) (hv : l.v < 11) :
    Calls Tryz.prog 35 #[.pointer (some ⟨x, 0, none⟩), .agg (lnC l)] w (ResB w x S (doLn s l)) := by
  have hc : l.v = 8 ∨ l.v = 9 ∨ l.v = 10 := by omega
  unfold doLn
  rcases hc with e | e | e <;> rw [e]
  · exact do_8 w x S s l hE hI hL h hG hZ e
  · exact do_9 w x S s l hE hI hL h hG hZ e
  · exact do_10 w x S s l hE hI hL h hG hZ e
end Go.Proofs.YtlikdnmikdldfaaGreatDoor
