/-
  BkMf
-/
import Derived.Test.YtlikdnmikdldfaaGreatDoorOrderedPAM
namespace Go.Proofs.YtlikdnmikdldfaaGreatDoor
open Go.ChangeShapes Go.WideShapes Go.ChangeAt Go.RowKit
set_option linter.unusedVariables false
set_option linter.unusedSimpArgs false

theorem res_new {w Wc w3 w4 : World} {x : Nat} {S S3 : Nat → Prop} {s' : Bk} (hS : ∀ b, S b → b < w.heap.size) (hW : Below w.heap.size w Wc) (hz : w.heap.size + 2 ≤ Wc.heap.size) (A : BkAt w3 x S3 s') (hs : ∀ b, S3 b → S b ∨ Wc.heap.size ≤ b) (hc : Chg S Wc w3) (h4 : Below w3.heap.size w3 w4) (ans : An) (he : ans.e = 0) (va : Value)
    (hrd : ∀ W', (∀ b, b ≠ w.heap.size + 1 → W'.heap[b]? = w4.heap[b]?) → w4.heap.size ≤ W'.heap.size → Rd 1 encS ⟨#[]⟩ W' va ans.s) :
    Res w x S (s', ans) (.returned (.agg #[.int .i64 0, va])) ((w4.setCell ⟨w.heap.size + 1, 0, none⟩ (.int .i64 0)).setCell ⟨w.heap.size + 1, 1, none⟩ va) := by
  have s1 := sets_other (w.heap.size + 1) [.int .i64 0, va] 0 w4
  have hsz : ((w4.setCell ⟨w.heap.size + 1, 0, none⟩ (.int .i64 0)).setCell ⟨w.heap.size + 1, 1, none⟩ va).heap.size = w4.heap.size := s1.2.2.2.1
  obtain ⟨vp, vn, vl, c, B⟩ := A
  refine ⟨va, S3, by rw [he]; rfl, hrd _ (fun b hb => s1.2.2.2.2 b hb) (by rw [hsz]; exact Nat.le_refl _), ⟨vp, vn, vl, c, B.same (fun b hb => ?_) (by rw [hsz]; exact h4.size)⟩, fun b hb => ?_, ?_⟩
  · have hb3 := B.sz b hb
    refine (s1.2.2.2.2 b ?_).trans (h4.block b hb3)
    rintro rfl
    rcases hs _ hb with q | q
    · have := hS _ q; omega
    · omega
  · rcases hs b hb with q | q
    · exact .inl q
    · exact .inr (by omega)
  · have c1 : Chg S w Wc := Chg.below hW
    exact (((c1.trans hc fun b e => .inl e).trans (Chg.below h4 : Chg S w3 w4) fun b e => .inl e)).sets (w.heap.size + 1) 0 [.int .i64 0, va] (.inr (by omega))
theorem rd_one {w : World} {M : Nat} {t : ByteArray} (hM : M < w.heap.size) (h : w.cell? ⟨M, 0, none⟩ = some (.string t)) : Rd 1 encS ⟨#[]⟩ w (.slice (some ⟨M, 0, none⟩) 1 1) [t] := by
  refine ⟨_, 1, rfl, Nat.le_refl _, by unfold maxLen; omega, fun _ => ⟨M, rfl, hM, fun j hj i u hu => ?_⟩⟩
  have hj0 : j = 0 := by simp at hj; omega
  subst hj0
  match i, hu with
  | 0, hu => simp [encS] at hu; rw [← hu]; exact h
  | i + 1, hu => simp [encS] at hu

set_option maxRecDepth 100000 in
set_option maxHeartbeats 2000000 in
theorem block_range (w : World) (x : Nat) (S : Nat → Prop) (s : Bk) (l : Ln) (hI : Inv s) (hL : LnOk l) (h : BkAt w x S s) (h1 : l.n < 22) :
    Calls Tryz.prog 61 #[.pointer (some ⟨x, 0, none⟩), .agg (lnC l)] w (Res w x S (s, ref 4)) := by
  obtain ⟨vp, vn, vl, c, B⟩ := h
  have hx := B.blk.lt
  have H : Hid (BkAt w x S s) := ⟨vp, vn, vl, c, B⟩
  have x0 : w.cell? ⟨x, 0, none⟩ = some vp := B.blk.cell 0
  have x1 : w.cell? ⟨x, 1, none⟩ = some vn := B.blk.cell 1
  have x2 : w.cell? ⟨x, 2, none⟩ = some vl := B.blk.cell 2
  have LIVE : Hid (∀ wk, Below (w.heap.size + 2) ((w.alloc (.cells #[.int .i64 l.v, .string l.t, .string l.o, .int .u32 l.a, .int .i64 l.n, .int .u32 l.d, .int .i64 l.g] 74)).alloc (.cells #[.int .i64 0, .slice none 0 0] 79)) wk → Live w wk x vp vn vl l) := live_of l B
  have HBA : Hid (BA w x S vp vn vl c s) := B
  have hxa : ¬ (x = w.heap.size) := by omega
  have hxb : ¬ (w.heap.size = x) := by omega
  clear B
  unfold lnC
  go_enter Tryz.func61, Tryz.ntmps61
  go_wp2_with (go_at_call 31; refine (refuse_any 4 _).mono ?_; rintro e w9 ⟨rfl, HQ⟩; have HB9 : Hid (Below (w.heap.size + 2) ((w.alloc (.cells #[.int .i64 l.v, .string l.t, .string l.o, .int .u32 l.a, .int .i64 l.n, .int .u32 l.d, .int .i64 l.g] 74)).alloc (.cells #[.int .i64 0, .slice none 0 0] 79)) w9) := bstep (by repeat' (first | with_reducible assumption | with_reducible exact Below.refl _ _ | with_reducible apply Below.drew | with_reducible apply below_drewN | with_reducible apply Below.setCell | with_reducible apply Below.alloc | omega | (simp; done) | (simp; omega))) (by simp) HQ; clear HQ; have HW9 : Hid (Below w.heap.size w w9) := (w0_below w l).trans (HB9.out.mono (by omega)); have LV9 := LIVE.out w9 HB9.out; have r0_9 := LV9.r0; have r1_9 := LV9.r1; have g0_9 := LV9.g0; have g1_9 := LV9.g1; have z1_9 := LV9.z1; clear LV9)
  have hR := (LIVE.out w9 HB9.out).rb
  obtain ⟨kk0, kk1⟩ := two_set hR (.int .i64 4) (.slice none 0 0)
  have hfin := res_ref (l := l) 4 H.out HB9.out
  exact bodyPost_ret (v := .agg #[.int .i64 4, .slice none 0 0]) (by simp [results, Tryz.results61, go_sem, kk0, kk1]) rfl hfin

set_option maxRecDepth 100000 in
set_option maxHeartbeats 2000000 in
theorem block_pool (w : World) (x : Nat) (S : Nat → Prop) (s : Bk) (l : Ln) (hI : Inv s) (hL : LnOk l) (h : BkAt w x S s) (h1 : ¬ l.n < 22) (h2 : spanH s.pools l.a l.n = -1) :
    Calls Tryz.prog 61 #[.pointer (some ⟨x, 0, none⟩), .agg (lnC l)] w (Res w x S (s, ref 7)) := by
  obtain ⟨vp, vn, vl, c, B⟩ := h
  have hx := B.blk.lt
  have H : Hid (BkAt w x S s) := ⟨vp, vn, vl, c, B⟩
  have x0 : w.cell? ⟨x, 0, none⟩ = some vp := B.blk.cell 0
  have x1 : w.cell? ⟨x, 1, none⟩ = some vn := B.blk.cell 1
  have x2 : w.cell? ⟨x, 2, none⟩ = some vl := B.blk.cell 2
  have LIVE : Hid (∀ wk, Below (w.heap.size + 2) ((w.alloc (.cells #[.int .i64 l.v, .string l.t, .string l.o, .int .u32 l.a, .int .i64 l.n, .int .u32 l.d, .int .i64 l.g] 74)).alloc (.cells #[.int .i64 0, .slice none 0 0] 79)) wk → Live w wk x vp vn vl l) := live_of l B
  have HBA : Hid (BA w x S vp vn vl c s) := B
  have hxa : ¬ (x = w.heap.size) := by omega
  have hxb : ¬ (w.heap.size = x) := by omega
  have HP : Hid (∀ Wc, Below w.heap.size w Wc → Calls Tryz.prog 90 #[vp, .agg #[.int .u32 l.a, .int .i64 l.n]] Wc fun e w' => e = .returned (.int .i64 (spanH s.pools l.a l.n)) ∧ Below Wc.heap.size Wc w') := fun Wc hW => fspanP s.pools l.a l.n vp Wc (fun q hq => (hI.pa q hq).1) hL.a ((Rd.of_owns (k := 3) (enc := encH) (fun _ => rfl) hd0 B.op).below hW)
  rw [h2] at HP
  obtain ⟨bp, cp, ep, _, _⟩ := owns_slice B.op
  subst ep
  clear B
  unfold lnC
  go_enter Tryz.func61, Tryz.ntmps61
  go_wp2
  go_region_held3 (fun w' => w'.cell? ⟨x, 0, none⟩ = some (.slice bp s.pools.length cp) ∧ w'.cell? ⟨w.heap.size, 3, none⟩ = some (.int .u32 l.a) ∧ w'.cell? ⟨w.heap.size, 4, none⟩ = some (.int .i64 l.n)) (go_keep) (first | (go_at_call 90; refine (HP.out _ (by repeat' (first | with_reducible assumption | with_reducible exact Below.refl _ _ | with_reducible apply Below.drew | with_reducible apply below_drewN | with_reducible apply Below.setCell | with_reducible apply Below.alloc | omega | (simp; done) | (simp; omega)))).mono ?_; rintro e w1 ⟨rfl, HQ⟩; have HB1 : Hid (Below (w.heap.size + 2) ((w.alloc (.cells #[.int .i64 l.v, .string l.t, .string l.o, .int .u32 l.a, .int .i64 l.n, .int .u32 l.d, .int .i64 l.g] 74)).alloc (.cells #[.int .i64 0, .slice none 0 0] 79)) w1) := bstep (by repeat' (first | with_reducible assumption | with_reducible exact Below.refl _ _ | with_reducible apply Below.drew | with_reducible apply below_drewN | with_reducible apply Below.setCell | with_reducible apply Below.alloc | omega | (simp; done) | (simp; omega))) (by simp) HQ; clear HQ; have HW1 : Hid (Below w.heap.size w w1) := (w0_below w l).trans (HB1.out.mono (by omega)); have LV1 := LIVE.out w1 HB1.out; have x0_1 := LV1.x0; have x1_1 := LV1.x1; have o_1 := LV1.o; have a_1 := LV1.a; have n_1 := LV1.n; have zx_1 := LV1.zx; have z0_1 := LV1.z0; have z1_1 := LV1.z1; have r0_1 := LV1.r0; have r1_1 := LV1.r1; have g0_1 := LV1.g0; have g1_1 := LV1.g1; clear LV1))
  all_goals (
    go_wp2_with (go_at_call 31; refine (refuse_any 7 _).mono ?_; rintro e w9 ⟨rfl, HQ⟩; have HB9 : Hid (Below (w.heap.size + 2) ((w.alloc (.cells #[.int .i64 l.v, .string l.t, .string l.o, .int .u32 l.a, .int .i64 l.n, .int .u32 l.d, .int .i64 l.g] 74)).alloc (.cells #[.int .i64 0, .slice none 0 0] 79)) w9) := bstep (by have hp := HB1.out; repeat' (first | with_reducible assumption | with_reducible exact Below.refl _ _ | with_reducible apply Below.drew | with_reducible apply below_drewN | with_reducible apply Below.setCell | with_reducible apply Below.alloc | omega | (simp; done) | (simp; omega))) (by simp) HQ; clear HQ; have HW9 : Hid (Below w.heap.size w w9) := (w0_below w l).trans (HB9.out.mono (by omega)); have LV9 := LIVE.out w9 HB9.out; have r0_9 := LV9.r0; have r1_9 := LV9.r1; have g0_9 := LV9.g0; have g1_9 := LV9.g1; have z1_9 := LV9.z1; clear LV9)
    have hR := (LIVE.out w9 HB9.out).rb
    obtain ⟨kk0, kk1⟩ := two_set hR (.int .i64 7) (.slice none 0 0)
    have hfin := res_ref (l := l) 7 H.out HB9.out
    exact bodyPost_ret (v := .agg #[.int .i64 7, .slice none 0 0]) (by simp [results, Tryz.results61, go_sem, kk0, kk1]) rfl hfin)

set_option maxRecDepth 100000 in
set_option maxHeartbeats 2000000 in
theorem block_over (w : World) (x : Nat) (S : Nat → Prop) (s : Bk) (l : Ln) (hI : Inv s) (hL : LnOk l) (h : BkAt w x S s) (h1 : ¬ l.n < 22) (k : Nat) (h2 : spanH s.pools l.a l.n = k) (h3 : anyH s.nets l.a l.n = true) :
    Calls Tryz.prog 61 #[.pointer (some ⟨x, 0, none⟩), .agg (lnC l)] w (Res w x S (s, ref 5)) := by
  obtain ⟨vp, vn, vl, c, B⟩ := h
  have hx := B.blk.lt
  have H : Hid (BkAt w x S s) := ⟨vp, vn, vl, c, B⟩
  have x0 : w.cell? ⟨x, 0, none⟩ = some vp := B.blk.cell 0
  have x1 : w.cell? ⟨x, 1, none⟩ = some vn := B.blk.cell 1
  have x2 : w.cell? ⟨x, 2, none⟩ = some vl := B.blk.cell 2
  have LIVE : Hid (∀ wk, Below (w.heap.size + 2) ((w.alloc (.cells #[.int .i64 l.v, .string l.t, .string l.o, .int .u32 l.a, .int .i64 l.n, .int .u32 l.d, .int .i64 l.g] 74)).alloc (.cells #[.int .i64 0, .slice none 0 0] 79)) wk → Live w wk x vp vn vl l) := live_of l B
  have HBA : Hid (BA w x S vp vn vl c s) := B
  have hxa : ¬ (x = w.heap.size) := by omega
  have hxb : ¬ (w.heap.size = x) := by omega
  have HP : Hid (∀ Wc, Below w.heap.size w Wc → Calls Tryz.prog 90 #[vp, .agg #[.int .u32 l.a, .int .i64 l.n]] Wc fun e w' => e = .returned (.int .i64 (spanH s.pools l.a l.n)) ∧ Below Wc.heap.size Wc w') := fun Wc hW => fspanP s.pools l.a l.n vp Wc (fun q hq => (hI.pa q hq).1) hL.a ((Rd.of_owns (k := 3) (enc := encH) (fun _ => rfl) hd0 B.op).below hW)
  rw [h2] at HP
  have hkn : ¬ ((k : Int) < 0) := by omega
  have HN : Hid (∀ Wc, Below w.heap.size w Wc → Calls Tryz.prog 91 #[vn, .agg #[.int .u32 l.a, .int .i64 l.n]] Wc fun e w' => e = .returned (.bool (anyH s.nets l.a l.n)) ∧ Below Wc.heap.size Wc w') := fun Wc hW => anymS s.nets l.a l.n vn Wc (fun q hq => (hI.na q hq).1) hL.a ((Rd.of_owns (k := 3) (enc := encH) (fun _ => rfl) hd0 B.on).below hW)
  rw [h3] at HN
  obtain ⟨bp, cp, ep, _, _⟩ := owns_slice B.op
  subst ep
  obtain ⟨bn, cn, en, _, _⟩ := owns_slice B.on
  subst en
  clear B
  unfold lnC
  go_enter Tryz.func61, Tryz.ntmps61
  go_wp2
  go_region_held3 (fun w' => w'.cell? ⟨x, 0, none⟩ = some (.slice bp s.pools.length cp) ∧ w'.cell? ⟨w.heap.size, 3, none⟩ = some (.int .u32 l.a) ∧ w'.cell? ⟨w.heap.size, 4, none⟩ = some (.int .i64 l.n)) (go_keep) (first | (go_at_call 90; refine (HP.out _ (by repeat' (first | with_reducible assumption | with_reducible exact Below.refl _ _ | with_reducible apply Below.drew | with_reducible apply below_drewN | with_reducible apply Below.setCell | with_reducible apply Below.alloc | omega | (simp; done) | (simp; omega)))).mono ?_; rintro e w1 ⟨rfl, HQ⟩; have HB1 : Hid (Below (w.heap.size + 2) ((w.alloc (.cells #[.int .i64 l.v, .string l.t, .string l.o, .int .u32 l.a, .int .i64 l.n, .int .u32 l.d, .int .i64 l.g] 74)).alloc (.cells #[.int .i64 0, .slice none 0 0] 79)) w1) := bstep (by repeat' (first | with_reducible assumption | with_reducible exact Below.refl _ _ | with_reducible apply Below.drew | with_reducible apply below_drewN | with_reducible apply Below.setCell | with_reducible apply Below.alloc | omega | (simp; done) | (simp; omega))) (by simp) HQ; clear HQ; have HW1 : Hid (Below w.heap.size w w1) := (w0_below w l).trans (HB1.out.mono (by omega)); have LV1 := LIVE.out w1 HB1.out; have x0_1 := LV1.x0; have x1_1 := LV1.x1; have o_1 := LV1.o; have a_1 := LV1.a; have n_1 := LV1.n; have zx_1 := LV1.zx; have z0_1 := LV1.z0; have z1_1 := LV1.z1; have r0_1 := LV1.r0; have r1_1 := LV1.r1; have g0_1 := LV1.g0; have g1_1 := LV1.g1; clear LV1))
  all_goals (
    go_wp2
    go_region_held3 (fun w' => w'.cell? ⟨x, 1, none⟩ = some (.slice bn s.nets.length cn) ∧ w'.cell? ⟨w.heap.size, 3, none⟩ = some (.int .u32 l.a) ∧ w'.cell? ⟨w.heap.size, 4, none⟩ = some (.int .i64 l.n)) (go_keep) (first | (go_at_call 91; refine (HN.out _ (by have hp := HW1.out; repeat' (first | with_reducible assumption | with_reducible exact Below.refl _ _ | with_reducible apply Below.drew | with_reducible apply below_drewN | with_reducible apply Below.setCell | with_reducible apply Below.alloc | omega | (simp; done) | (simp; omega)))).mono ?_; rintro e w2 ⟨rfl, HQ⟩; have HB2 : Hid (Below (w.heap.size + 2) ((w.alloc (.cells #[.int .i64 l.v, .string l.t, .string l.o, .int .u32 l.a, .int .i64 l.n, .int .u32 l.d, .int .i64 l.g] 74)).alloc (.cells #[.int .i64 0, .slice none 0 0] 79)) w2) := bstep (by have hp := HB1.out; repeat' (first | with_reducible assumption | with_reducible exact Below.refl _ _ | with_reducible apply Below.drew | with_reducible apply below_drewN | with_reducible apply Below.setCell | with_reducible apply Below.alloc | omega | (simp; done) | (simp; omega))) (by simp) HQ; clear HQ; have HW2 : Hid (Below w.heap.size w w2) := (w0_below w l).trans (HB2.out.mono (by omega)); have LV2 := LIVE.out w2 HB2.out; have x1_2 := LV2.x1; have o_2 := LV2.o; have a_2 := LV2.a; have n_2 := LV2.n; have zx_2 := LV2.zx; have z0_2 := LV2.z0; have z1_2 := LV2.z1; have r0_2 := LV2.r0; have r1_2 := LV2.r1; have g0_2 := LV2.g0; have g1_2 := LV2.g1; clear LV2))
    all_goals (
      go_wp2_with (go_at_call 31; refine (refuse_any 5 _).mono ?_; rintro e w9 ⟨rfl, HQ⟩; have HB9 : Hid (Below (w.heap.size + 2) ((w.alloc (.cells #[.int .i64 l.v, .string l.t, .string l.o, .int .u32 l.a, .int .i64 l.n, .int .u32 l.d, .int .i64 l.g] 74)).alloc (.cells #[.int .i64 0, .slice none 0 0] 79)) w9) := bstep (by have hp := HB2.out; repeat' (first | with_reducible assumption | with_reducible exact Below.refl _ _ | with_reducible apply Below.drew | with_reducible apply below_drewN | with_reducible apply Below.setCell | with_reducible apply Below.alloc | omega | (simp; done) | (simp; omega))) (by simp) HQ; clear HQ; have HW9 : Hid (Below w.heap.size w w9) := (w0_below w l).trans (HB9.out.mono (by omega)); have LV9 := LIVE.out w9 HB9.out; have r0_9 := LV9.r0; have r1_9 := LV9.r1; have g0_9 := LV9.g0; have g1_9 := LV9.g1; have z1_9 := LV9.z1; clear LV9)
      have hR := (LIVE.out w9 HB9.out).rb
      obtain ⟨kk0, kk1⟩ := two_set hR (.int .i64 5) (.slice none 0 0)
      have hfin := res_ref (l := l) 5 H.out HB9.out
      exact bodyPost_ret (v := .agg #[.int .i64 5, .slice none 0 0]) (by simp [results, Tryz.results61, go_sem, kk0, kk1]) rfl hfin))

set_option maxRecDepth 100000 in
set_option maxHeartbeats 2000000 in
theorem block_limit (w : World) (x : Nat) (S : Nat → Prop) (s : Bk) (l : Ln) (hI : Inv s) (hL : LnOk l) (h : BkAt w x S s) (h1 : ¬ l.n < 22) (k : Nat) (h2 : spanH s.pools l.a l.n = k) (h3 : anyH s.nets l.a l.n = false) (h4 : 24 ≤ s.nets.length) :
    Calls Tryz.prog 61 #[.pointer (some ⟨x, 0, none⟩), .agg (lnC l)] w (Res w x S (s, ref 6)) := by
  obtain ⟨vp, vn, vl, c, B⟩ := h
  have hx := B.blk.lt
  have H : Hid (BkAt w x S s) := ⟨vp, vn, vl, c, B⟩
  have x0 : w.cell? ⟨x, 0, none⟩ = some vp := B.blk.cell 0
  have x1 : w.cell? ⟨x, 1, none⟩ = some vn := B.blk.cell 1
  have x2 : w.cell? ⟨x, 2, none⟩ = some vl := B.blk.cell 2
  have LIVE : Hid (∀ wk, Below (w.heap.size + 2) ((w.alloc (.cells #[.int .i64 l.v, .string l.t, .string l.o, .int .u32 l.a, .int .i64 l.n, .int .u32 l.d, .int .i64 l.g] 74)).alloc (.cells #[.int .i64 0, .slice none 0 0] 79)) wk → Live w wk x vp vn vl l) := live_of l B
  have HBA : Hid (BA w x S vp vn vl c s) := B
  have hxa : ¬ (x = w.heap.size) := by omega
  have hxb : ¬ (w.heap.size = x) := by omega
  have HP : Hid (∀ Wc, Below w.heap.size w Wc → Calls Tryz.prog 90 #[vp, .agg #[.int .u32 l.a, .int .i64 l.n]] Wc fun e w' => e = .returned (.int .i64 (spanH s.pools l.a l.n)) ∧ Below Wc.heap.size Wc w') := fun Wc hW => fspanP s.pools l.a l.n vp Wc (fun q hq => (hI.pa q hq).1) hL.a ((Rd.of_owns (k := 3) (enc := encH) (fun _ => rfl) hd0 B.op).below hW)
  rw [h2] at HP
  have hkn : ¬ ((k : Int) < 0) := by omega
  have HN : Hid (∀ Wc, Below w.heap.size w Wc → Calls Tryz.prog 91 #[vn, .agg #[.int .u32 l.a, .int .i64 l.n]] Wc fun e w' => e = .returned (.bool (anyH s.nets l.a l.n)) ∧ Below Wc.heap.size Wc w') := fun Wc hW => anymS s.nets l.a l.n vn Wc (fun q hq => (hI.na q hq).1) hL.a ((Rd.of_owns (k := 3) (enc := encH) (fun _ => rfl) hd0 B.on).below hW)
  rw [h3] at HN
  obtain ⟨bp, cp, ep, _, _⟩ := owns_slice B.op
  subst ep
  obtain ⟨bn, cn, en, _, _⟩ := owns_slice B.on
  subst en
  have h5 : (24 : Int) ≤ (s.nets.length : Int) := by omega
  clear B
  unfold lnC
  go_enter Tryz.func61, Tryz.ntmps61
  go_wp2
  go_region_held3 (fun w' => w'.cell? ⟨x, 0, none⟩ = some (.slice bp s.pools.length cp) ∧ w'.cell? ⟨w.heap.size, 3, none⟩ = some (.int .u32 l.a) ∧ w'.cell? ⟨w.heap.size, 4, none⟩ = some (.int .i64 l.n)) (go_keep) (first | (go_at_call 90; refine (HP.out _ (by repeat' (first | with_reducible assumption | with_reducible exact Below.refl _ _ | with_reducible apply Below.drew | with_reducible apply below_drewN | with_reducible apply Below.setCell | with_reducible apply Below.alloc | omega | (simp; done) | (simp; omega)))).mono ?_; rintro e w1 ⟨rfl, HQ⟩; have HB1 : Hid (Below (w.heap.size + 2) ((w.alloc (.cells #[.int .i64 l.v, .string l.t, .string l.o, .int .u32 l.a, .int .i64 l.n, .int .u32 l.d, .int .i64 l.g] 74)).alloc (.cells #[.int .i64 0, .slice none 0 0] 79)) w1) := bstep (by repeat' (first | with_reducible assumption | with_reducible exact Below.refl _ _ | with_reducible apply Below.drew | with_reducible apply below_drewN | with_reducible apply Below.setCell | with_reducible apply Below.alloc | omega | (simp; done) | (simp; omega))) (by simp) HQ; clear HQ; have HW1 : Hid (Below w.heap.size w w1) := (w0_below w l).trans (HB1.out.mono (by omega)); have LV1 := LIVE.out w1 HB1.out; have x0_1 := LV1.x0; have x1_1 := LV1.x1; have o_1 := LV1.o; have a_1 := LV1.a; have n_1 := LV1.n; have zx_1 := LV1.zx; have z0_1 := LV1.z0; have z1_1 := LV1.z1; have r0_1 := LV1.r0; have r1_1 := LV1.r1; have g0_1 := LV1.g0; have g1_1 := LV1.g1; clear LV1))
  all_goals (
    go_wp2
    go_region_held3 (fun w' => w'.cell? ⟨x, 1, none⟩ = some (.slice bn s.nets.length cn) ∧ w'.cell? ⟨w.heap.size, 3, none⟩ = some (.int .u32 l.a) ∧ w'.cell? ⟨w.heap.size, 4, none⟩ = some (.int .i64 l.n)) (go_keep) (first | (go_at_call 91; refine (HN.out _ (by have hp := HW1.out; repeat' (first | with_reducible assumption | with_reducible exact Below.refl _ _ | with_reducible apply Below.drew | with_reducible apply below_drewN | with_reducible apply Below.setCell | with_reducible apply Below.alloc | omega | (simp; done) | (simp; omega)))).mono ?_; rintro e w2 ⟨rfl, HQ⟩; have HB2 : Hid (Below (w.heap.size + 2) ((w.alloc (.cells #[.int .i64 l.v, .string l.t, .string l.o, .int .u32 l.a, .int .i64 l.n, .int .u32 l.d, .int .i64 l.g] 74)).alloc (.cells #[.int .i64 0, .slice none 0 0] 79)) w2) := bstep (by have hp := HB1.out; repeat' (first | with_reducible assumption | with_reducible exact Below.refl _ _ | with_reducible apply Below.drew | with_reducible apply below_drewN | with_reducible apply Below.setCell | with_reducible apply Below.alloc | omega | (simp; done) | (simp; omega))) (by simp) HQ; clear HQ; have HW2 : Hid (Below w.heap.size w w2) := (w0_below w l).trans (HB2.out.mono (by omega)); have LV2 := LIVE.out w2 HB2.out; have x1_2 := LV2.x1; have o_2 := LV2.o; have a_2 := LV2.a; have n_2 := LV2.n; have zx_2 := LV2.zx; have z0_2 := LV2.z0; have z1_2 := LV2.z1; have r0_2 := LV2.r0; have r1_2 := LV2.r1; have g0_2 := LV2.g0; have g1_2 := LV2.g1; clear LV2))
    all_goals (
      go_wp2_with (go_at_call 31; refine (refuse_any 6 _).mono ?_; rintro e w9 ⟨rfl, HQ⟩; have HB9 : Hid (Below (w.heap.size + 2) ((w.alloc (.cells #[.int .i64 l.v, .string l.t, .string l.o, .int .u32 l.a, .int .i64 l.n, .int .u32 l.d, .int .i64 l.g] 74)).alloc (.cells #[.int .i64 0, .slice none 0 0] 79)) w9) := bstep (by have hp := HB2.out; repeat' (first | with_reducible assumption | with_reducible exact Below.refl _ _ | with_reducible apply Below.drew | with_reducible apply below_drewN | with_reducible apply Below.setCell | with_reducible apply Below.alloc | omega | (simp; done) | (simp; omega))) (by simp) HQ; clear HQ; have HW9 : Hid (Below w.heap.size w w9) := (w0_below w l).trans (HB9.out.mono (by omega)); have LV9 := LIVE.out w9 HB9.out; have r0_9 := LV9.r0; have r1_9 := LV9.r1; have g0_9 := LV9.g0; have g1_9 := LV9.g1; have z1_9 := LV9.z1; clear LV9)
      have hR := (LIVE.out w9 HB9.out).rb
      obtain ⟨kk0, kk1⟩ := two_set hR (.int .i64 6) (.slice none 0 0)
      have hfin := res_ref (l := l) 6 H.out HB9.out
      exact bodyPost_ret (v := .agg #[.int .i64 6, .slice none 0 0]) (by simp [results, Tryz.results61, go_sem, kk0, kk1]) rfl hfin))

set_option maxRecDepth 100000 in
set_option maxHeartbeats 2000000 in
theorem block_ok (w : World) (x : Nat) (S : Nat → Prop) (s : Bk) (l : Ln) (hI : Inv s) (hL : LnOk l) (h : BkAt w x S s) (h1 : ¬ l.n < 22) (k : Nat) (h2 : spanH s.pools l.a l.n = k) (h3 : anyH s.nets l.a l.n = false) (h4 : ¬ 24 ≤ s.nets.length) :
    Calls Tryz.prog 61 #[.pointer (some ⟨x, 0, none⟩), .agg (lnC l)] w (Res w x S ({ s with nets := insH s.nets ⟨l.a, l.n, l.o⟩ }, okA)) := by
  obtain ⟨vp, vn, vl, c, B⟩ := h
  have hx := B.blk.lt
  have H : Hid (BkAt w x S s) := ⟨vp, vn, vl, c, B⟩
  have x0 : w.cell? ⟨x, 0, none⟩ = some vp := B.blk.cell 0
  have x1 : w.cell? ⟨x, 1, none⟩ = some vn := B.blk.cell 1
  have x2 : w.cell? ⟨x, 2, none⟩ = some vl := B.blk.cell 2
  have LIVE : Hid (∀ wk, Below (w.heap.size + 2) ((w.alloc (.cells #[.int .i64 l.v, .string l.t, .string l.o, .int .u32 l.a, .int .i64 l.n, .int .u32 l.d, .int .i64 l.g] 74)).alloc (.cells #[.int .i64 0, .slice none 0 0] 79)) wk → Live w wk x vp vn vl l) := live_of l B
  have HBA : Hid (BA w x S vp vn vl c s) := B
  have hxa : ¬ (x = w.heap.size) := by omega
  have hxb : ¬ (w.heap.size = x) := by omega
  have HS : Hid (∀ b, S b → b < w.heap.size) := B.sz
  have HP : Hid (∀ Wc, Below w.heap.size w Wc → Calls Tryz.prog 90 #[vp, .agg #[.int .u32 l.a, .int .i64 l.n]] Wc fun e w' => e = .returned (.int .i64 (spanH s.pools l.a l.n)) ∧ Below Wc.heap.size Wc w') := fun Wc hW => fspanP s.pools l.a l.n vp Wc (fun q hq => (hI.pa q hq).1) hL.a ((Rd.of_owns (k := 3) (enc := encH) (fun _ => rfl) hd0 B.op).below hW)
  rw [h2] at HP
  have hkn : ¬ ((k : Int) < 0) := by omega
  have HN : Hid (∀ Wc, Below w.heap.size w Wc → Calls Tryz.prog 91 #[vn, .agg #[.int .u32 l.a, .int .i64 l.n]] Wc fun e w' => e = .returned (.bool (anyH s.nets l.a l.n)) ∧ Below Wc.heap.size Wc w') := fun Wc hW => anymS s.nets l.a l.n vn Wc (fun q hq => (hI.na q hq).1) hL.a ((Rd.of_owns (k := 3) (enc := encH) (fun _ => rfl) hd0 B.on).below hW)
  rw [h3] at HN
  have HAD : Hid (∀ Wc, Below w.heap.size w Wc → Calls Tryz.prog 88 #[.pointer (some ⟨x, 0, none⟩), .agg #[.int .u32 l.a, .int .i64 l.n], .string l.o] Wc fun e w' => e = .returned (.tuple #[]) ∧ ∃ S', BkAt w' x S' { s with nets := insH s.nets ⟨l.a, l.n, l.o⟩ } ∧ (∀ b, S' b → S b ∨ Wc.heap.size ≤ b) ∧ Chg S Wc w') := fun Wc hW => addSubnet_any Wc x S s l.a l.n l.o hI (H.out.below hW)
  obtain ⟨bp, cp, ep, _, _⟩ := owns_slice B.op
  subst ep
  obtain ⟨bn, cn, en, _, _⟩ := owns_slice B.on
  subst en
  have h5 : ¬ (24 : Int) ≤ (s.nets.length : Int) := by omega
  clear B
  unfold lnC
  go_enter Tryz.func61, Tryz.ntmps61
  go_wp2
  go_region_held3 (fun w' => w'.cell? ⟨x, 0, none⟩ = some (.slice bp s.pools.length cp) ∧ w'.cell? ⟨w.heap.size, 3, none⟩ = some (.int .u32 l.a) ∧ w'.cell? ⟨w.heap.size, 4, none⟩ = some (.int .i64 l.n)) (go_keep) (first | (go_at_call 90; refine (HP.out _ (by repeat' (first | with_reducible assumption | with_reducible exact Below.refl _ _ | with_reducible apply Below.drew | with_reducible apply below_drewN | with_reducible apply Below.setCell | with_reducible apply Below.alloc | omega | (simp; done) | (simp; omega)))).mono ?_; rintro e w1 ⟨rfl, HQ⟩; have HB1 : Hid (Below (w.heap.size + 2) ((w.alloc (.cells #[.int .i64 l.v, .string l.t, .string l.o, .int .u32 l.a, .int .i64 l.n, .int .u32 l.d, .int .i64 l.g] 74)).alloc (.cells #[.int .i64 0, .slice none 0 0] 79)) w1) := bstep (by repeat' (first | with_reducible assumption | with_reducible exact Below.refl _ _ | with_reducible apply Below.drew | with_reducible apply below_drewN | with_reducible apply Below.setCell | with_reducible apply Below.alloc | omega | (simp; done) | (simp; omega))) (by simp) HQ; clear HQ; have HW1 : Hid (Below w.heap.size w w1) := (w0_below w l).trans (HB1.out.mono (by omega)); have LV1 := LIVE.out w1 HB1.out; have x0_1 := LV1.x0; have x1_1 := LV1.x1; have o_1 := LV1.o; have a_1 := LV1.a; have n_1 := LV1.n; have zx_1 := LV1.zx; have z0_1 := LV1.z0; have z1_1 := LV1.z1; have r0_1 := LV1.r0; have r1_1 := LV1.r1; have g0_1 := LV1.g0; have g1_1 := LV1.g1; clear LV1))
  all_goals (
    go_wp2
    go_region_held3 (fun w' => w'.cell? ⟨x, 1, none⟩ = some (.slice bn s.nets.length cn) ∧ w'.cell? ⟨w.heap.size, 3, none⟩ = some (.int .u32 l.a) ∧ w'.cell? ⟨w.heap.size, 4, none⟩ = some (.int .i64 l.n)) (go_keep) (first | (go_at_call 91; refine (HN.out _ (by have hp := HW1.out; repeat' (first | with_reducible assumption | with_reducible exact Below.refl _ _ | with_reducible apply Below.drew | with_reducible apply below_drewN | with_reducible apply Below.setCell | with_reducible apply Below.alloc | omega | (simp; done) | (simp; omega)))).mono ?_; rintro e w2 ⟨rfl, HQ⟩; have HB2 : Hid (Below (w.heap.size + 2) ((w.alloc (.cells #[.int .i64 l.v, .string l.t, .string l.o, .int .u32 l.a, .int .i64 l.n, .int .u32 l.d, .int .i64 l.g] 74)).alloc (.cells #[.int .i64 0, .slice none 0 0] 79)) w2) := bstep (by have hp := HB1.out; repeat' (first | with_reducible assumption | with_reducible exact Below.refl _ _ | with_reducible apply Below.drew | with_reducible apply below_drewN | with_reducible apply Below.setCell | with_reducible apply Below.alloc | omega | (simp; done) | (simp; omega))) (by simp) HQ; clear HQ; have HW2 : Hid (Below w.heap.size w w2) := (w0_below w l).trans (HB2.out.mono (by omega)); have LV2 := LIVE.out w2 HB2.out; have x1_2 := LV2.x1; have o_2 := LV2.o; have a_2 := LV2.a; have n_2 := LV2.n; have zx_2 := LV2.zx; have z0_2 := LV2.z0; have z1_2 := LV2.z1; have r0_2 := LV2.r0; have r1_2 := LV2.r1; have g0_2 := LV2.g0; have g1_2 := LV2.g1; clear LV2))
    all_goals (
      go_wp2_with (first | (go_at_call 88; refine (HAD.out _ (by have hp := HW2.out; repeat' (first | with_reducible assumption | with_reducible exact Below.refl _ _ | with_reducible apply Below.drew | with_reducible apply below_drewN | with_reducible apply Below.setCell | with_reducible apply Below.alloc | omega | (simp; done) | (simp; omega)))).mono ?_; rintro e w3 ⟨rfl, S3, o1, o2, o3⟩; have HG : Hid (∃ Wc, Below w.heap.size w Wc ∧ w.heap.size + 2 ≤ Wc.heap.size ∧ (∀ b, S3 b → S b ∨ Wc.heap.size ≤ b) ∧ Chg S Wc w3) := ⟨_, by have hp := HW2.out; repeat' (first | with_reducible assumption | with_reducible exact Below.refl _ _ | with_reducible apply Below.drew | with_reducible apply below_drewN | with_reducible apply Below.setCell | with_reducible apply Below.alloc | omega | (simp; done) | (simp; omega)), by have hz := HB2.out.size; simp at hz ⊢; omega, o2, o3⟩; have HA : Hid (BkAt w3 x S3 { s with nets := insH s.nets ⟨l.a, l.n, l.o⟩ }) := o1; have RB3 : Hid (Blk w3 (w.heap.size + 1) #[.int .i64 0, .slice none 0 0] 79) := (o3.block _ (by have hz := HB2.out.size; simp at hz ⊢; omega) (fun q => by have := HS.out _ q; omega)).trans (LIVE.out _ (by have hp := HB2.out; repeat' (first | with_reducible assumption | with_reducible exact Below.refl _ _ | with_reducible apply Below.drew | with_reducible apply below_drewN | with_reducible apply Below.setCell | with_reducible apply Below.alloc | omega | (simp; done) | (simp; omega)))).rb; have z1_3 : w.heap.size + 1 < w3.heap.size := RB3.out.lt; clear o1 o2 o3) | (go_at_call 81; refine (ok_any none 0 0 _).mono ?_; rintro e w4 ⟨rfl, HQ⟩; have HQ4 : Hid (Below w3.heap.size w3 w4) := HQ; have RB4 : Blk w4 (w.heap.size + 1) #[.int .i64 0, .slice none 0 0] 79 := (HQ.block _ z1_3).trans RB3.out; clear HQ; have HR4 : Hid (Blk w4 (w.heap.size + 1) #[.int .i64 0, .slice none 0 0] 79) := RB4; have r0_4 : w4.cell? ⟨w.heap.size + 1, 0, none⟩ = some (.int .i64 0) := RB4.cell 0; have r1_4 : w4.cell? ⟨w.heap.size + 1, 1, none⟩ = some (.slice none 0 0) := RB4.cell 1; have g0_4 : w4.frozen? ⟨w.heap.size + 1, 0, none⟩ = false := RB4.frozen 0; have g1_4 : w4.frozen? ⟨w.heap.size + 1, 1, none⟩ = false := RB4.frozen 1; clear RB4))
      obtain ⟨kk0, kk1⟩ := two_set HR4.out (.int .i64 0) (.slice none 0 0)
      obtain ⟨Wc, hc1, hc2, hc3, hc4⟩ := HG.out
      have hfin := res_new HS.out hc1 hc2 HA.out hc3 hc4 HQ4.out okA rfl (.slice none 0 0) (fun _ _ _ => rd_nil _ _ _ _)
      exact bodyPost_ret (v := .agg #[.int .i64 0, .slice none 0 0]) (by simp [results, Tryz.results61, go_sem, kk0, kk1]) rfl hfin))

theorem carveJust_any (w : World) (x : Nat) (S : Nat → Prop) (s : Bk) (l : Ln) (hI : Inv s) (hL : LnOk l) (h : BkAt w x S s) : Calls Tryz.prog 61 #[.pointer (some ⟨x, 0, none⟩), .agg (lnC l)] w (Res w x S (doBlock s l)) := by
  unfold doBlock
  by_cases h1 : l.n < 22
  · rw [if_pos h1]; exact block_range w x S s l hI hL h h1
  · rw [if_neg h1]
    rcases fi_cases (spansH l.a l.n) s.pools hd0 with ⟨e, _⟩ | ⟨k, hk, e, hp, _⟩
    · have e1 : spanH s.pools l.a l.n = -1 := e
      rw [if_pos (by rw [e1]; decide)]; exact block_pool w x S s l hI hL h h1 e1
    · have e1 : spanH s.pools l.a l.n = k := e
      rw [if_neg (by rw [e1]; omega)]
      by_cases h3 : anyH s.nets l.a l.n = true
      · rw [if_pos h3]; exact block_over w x S s l hI hL h h1 k e1 h3
      · rw [if_neg h3]
        by_cases h4 : 24 ≤ s.nets.length
        · rw [if_pos h4]; exact block_limit w x S s l hI hL h h1 k e1 (by simpa using h3) h4
        · rw [if_neg h4]; exact block_ok w x S s l hI hL h h1 k e1 (by simpa using h3) h4
end Go.Proofs.YtlikdnmikdldfaaGreatDoor
