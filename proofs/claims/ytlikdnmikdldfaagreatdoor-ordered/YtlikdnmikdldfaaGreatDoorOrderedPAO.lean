/-
  BkMg
-/
import Derived.Test.YtlikdnmikdldfaaGreatDoorOrderedPAN
namespace Go.Proofs.YtlikdnmikdldfaaGreatDoor
open Go.ChangeShapes Go.WideShapes Go.ChangeAt Go.RowKit
set_option linter.unusedVariables false
set_option linter.unusedSimpArgs false

set_option maxRecDepth 100000 in
set_option maxHeartbeats 2000000 in
theorem take_none (w : World) (x : Nat) (S : Nat → Prop) (s : Bk) (l : Ln) (hI : Inv s) (hL : LnOk l) (h : BkAt w x S s) (h1 : spanH s.nets l.d 32 = -1) :
    Calls Tryz.prog 64 #[.pointer (some ⟨x, 0, none⟩), .agg (lnC l)] w (Res w x S (s, ref 11)) := by
  obtain ⟨vp, vn, vl, c, B⟩ := h
  have hx := B.blk.lt
  have H : Hid (BkAt w x S s) := ⟨vp, vn, vl, c, B⟩
  have x0 : w.cell? ⟨x, 0, none⟩ = some vp := B.blk.cell 0
  have x1 : w.cell? ⟨x, 1, none⟩ = some vn := B.blk.cell 1
  have x2 : w.cell? ⟨x, 2, none⟩ = some vl := B.blk.cell 2
  have LIVE : Hid (∀ wk, Below (w.heap.size + 2) ((w.alloc (.cells #[.int .i64 l.v, .string l.t, .string l.o, .int .u32 l.a, .int .i64 l.n, .int .u32 l.d, .int .i64 l.g] 74)).alloc (.cells #[.int .i64 0, .slice none 0 0] 79)) wk → Live w wk x vp vn vl l) := live_of l B
  have HBA : Hid (BA w x S vp vn vl c s) := B
  have hxa : ¬ (x = w.heap.size) := by omega
  have hxb : ¬ (w.heap.size = x) := by omega
  have HSP : Hid (∀ Wc, Below w.heap.size w Wc → Calls Tryz.prog 98 #[vn, .agg #[.int .u32 l.d, .int .i64 32]] Wc fun e w' => e = .returned (.int .i64 (spanH s.nets l.d 32)) ∧ Below Wc.heap.size Wc w') := fun Wc hW => fspanS s.nets l.d 32 vn Wc (fun q hq => (hI.na q hq).1) hL.d ((Rd.of_owns (k := 3) (enc := encH) (fun _ => rfl) hd0 B.on).below hW)
  rw [h1] at HSP
  obtain ⟨bn, cn, en, _, _⟩ := owns_slice B.on
  subst en
  clear B
  unfold lnC
  go_enter Tryz.func64, Tryz.ntmps64
  go_wp2
  go_region_held3 (fun w' => w'.cell? ⟨x, 1, none⟩ = some (.slice bn s.nets.length cn) ∧ w'.cell? ⟨w.heap.size, 5, none⟩ = some (.int .u32 l.d)) (go_keep) (first | (go_at_call 99; refine (single_any _ _).mono ?_; rintro e w1 ⟨rfl, HQ⟩; have HB1 : Hid (Below (w.heap.size + 2) ((w.alloc (.cells #[.int .i64 l.v, .string l.t, .string l.o, .int .u32 l.a, .int .i64 l.n, .int .u32 l.d, .int .i64 l.g] 74)).alloc (.cells #[.int .i64 0, .slice none 0 0] 79)) w1) := bstep (by repeat' (first | with_reducible assumption | with_reducible exact Below.refl _ _ | with_reducible apply Below.drew | with_reducible apply below_drewN | with_reducible apply Below.setCell | with_reducible apply Below.alloc | omega | (simp; done) | (simp; omega))) (by simp) HQ; clear HQ; have HW1 : Hid (Below w.heap.size w w1) := (w0_below w l).trans (HB1.out.mono (by omega)); have LV1 := LIVE.out w1 HB1.out; have x1_1 := LV1.x1; have d_1 := LV1.d; have z0_1 := LV1.z0; have z1_1 := LV1.z1; clear LV1) | (go_at_call 98; refine (HSP.out _ (by have hp := HW1.out; repeat' (first | with_reducible assumption | with_reducible exact Below.refl _ _ | with_reducible apply Below.drew | with_reducible apply below_drewN | with_reducible apply Below.setCell | with_reducible apply Below.alloc | omega | (simp; done) | (simp; omega)))).mono ?_; rintro e w2 ⟨rfl, HQ⟩; have HB2 : Hid (Below (w.heap.size + 2) ((w.alloc (.cells #[.int .i64 l.v, .string l.t, .string l.o, .int .u32 l.a, .int .i64 l.n, .int .u32 l.d, .int .i64 l.g] 74)).alloc (.cells #[.int .i64 0, .slice none 0 0] 79)) w2) := bstep (by have hp := HB1.out; repeat' (first | with_reducible assumption | with_reducible exact Below.refl _ _ | with_reducible apply Below.drew | with_reducible apply below_drewN | with_reducible apply Below.setCell | with_reducible apply Below.alloc | omega | (simp; done) | (simp; omega))) (by simp) HQ; clear HQ; have HW2 : Hid (Below w.heap.size w w2) := (w0_below w l).trans (HB2.out.mono (by omega)); have LV2 := LIVE.out w2 HB2.out; have x1_2 := LV2.x1; have x2_2 := LV2.x2; have d_2 := LV2.d; have o_2 := LV2.o; have zx_2 := LV2.zx; have z0_2 := LV2.z0; have z1_2 := LV2.z1; have r0_2 := LV2.r0; have r1_2 := LV2.r1; have g0_2 := LV2.g0; have g1_2 := LV2.g1; clear LV2))
  all_goals (
    go_wp2_with (go_at_call 31; refine (refuse_any 11 _).mono ?_; rintro e w9 ⟨rfl, HQ⟩; have HB9 : Hid (Below (w.heap.size + 2) ((w.alloc (.cells #[.int .i64 l.v, .string l.t, .string l.o, .int .u32 l.a, .int .i64 l.n, .int .u32 l.d, .int .i64 l.g] 74)).alloc (.cells #[.int .i64 0, .slice none 0 0] 79)) w9) := bstep (by have hp := HB2.out; repeat' (first | with_reducible assumption | with_reducible exact Below.refl _ _ | with_reducible apply Below.drew | with_reducible apply below_drewN | with_reducible apply Below.setCell | with_reducible apply Below.alloc | omega | (simp; done) | (simp; omega))) (by simp) HQ; clear HQ; have HW9 : Hid (Below w.heap.size w w9) := (w0_below w l).trans (HB9.out.mono (by omega)); have LV9 := LIVE.out w9 HB9.out; have r0_9 := LV9.r0; have r1_9 := LV9.r1; have g0_9 := LV9.g0; have g1_9 := LV9.g1; have z1_9 := LV9.z1; clear LV9)
    have hR := (LIVE.out w9 HB9.out).rb
    obtain ⟨kk0, kk1⟩ := two_set hR (.int .i64 11) (.slice none 0 0)
    have hfin := res_ref (l := l) 11 H.out HB9.out
    exact bodyPost_ret (v := .agg #[.int .i64 11, .slice none 0 0]) (by simp [results, Tryz.results64, go_sem, kk0, kk1]) rfl hfin)

set_option maxRecDepth 100000 in
set_option maxHeartbeats 2000000 in
theorem take_addr (w : World) (x : Nat) (S : Nat → Prop) (s : Bk) (l : Ln) (hI : Inv s) (hL : LnOk l) (h : BkAt w x S s) (k : Nat) (q : Hd) (hk : k < s.nets.length) (h1 : spanH s.nets l.d 32 = k) (hq : s.nets.getD k hd0 = q) (ua uz : Int) (hua : useA q.a q.n = ua) (huz : useZ q.a q.n = uz) (h2 : l.d < ua ∨ uz < l.d) :
    Calls Tryz.prog 64 #[.pointer (some ⟨x, 0, none⟩), .agg (lnC l)] w (Res w x S (s, ref 12)) := by
  obtain ⟨vp, vn, vl, c, B⟩ := h
  have hx := B.blk.lt
  have H : Hid (BkAt w x S s) := ⟨vp, vn, vl, c, B⟩
  have x0 : w.cell? ⟨x, 0, none⟩ = some vp := B.blk.cell 0
  have x1 : w.cell? ⟨x, 1, none⟩ = some vn := B.blk.cell 1
  have x2 : w.cell? ⟨x, 2, none⟩ = some vl := B.blk.cell 2
  have LIVE : Hid (∀ wk, Below (w.heap.size + 2) ((w.alloc (.cells #[.int .i64 l.v, .string l.t, .string l.o, .int .u32 l.a, .int .i64 l.n, .int .u32 l.d, .int .i64 l.g] 74)).alloc (.cells #[.int .i64 0, .slice none 0 0] 79)) wk → Live w wk x vp vn vl l) := live_of l B
  have HBA : Hid (BA w x S vp vn vl c s) := B
  have hxa : ¬ (x = w.heap.size) := by omega
  have hxb : ¬ (w.heap.size = x) := by omega
  have HSP : Hid (∀ Wc, Below w.heap.size w Wc → Calls Tryz.prog 98 #[vn, .agg #[.int .u32 l.d, .int .i64 32]] Wc fun e w' => e = .returned (.int .i64 (spanH s.nets l.d 32)) ∧ Below Wc.heap.size Wc w') := fun Wc hW => fspanS s.nets l.d 32 vn Wc (fun q hq => (hI.na q hq).1) hL.d ((Rd.of_owns (k := 3) (enc := encH) (fun _ => rfl) hd0 B.on).below hW)
  rw [h1] at HSP
  have hkk : ∀ q : Hd, (encH q).length = 3 := fun _ => rfl
  have hqm : q ∈ s.nets := by rw [← hq]; exact getD_mem s.nets hd0 k hk
  have hqi := hI.na q hqm
  have hrd := Rd.of_owns hkk hd0 B.on
  obtain ⟨bq, cq, ev, hq1, hq2, hq3⟩ := hrd
  obtain ⟨gq, rfl, hq4, hq5⟩ := hq3 (by intro e; rw [e] at hk; simp at hk)
  have hk5 := hq5 k hk
  rw [hq] at hk5
  have ROW : Hid (∀ wk, Below w.heap.size w wk → wk.cell? ⟨gq, k * 3, none⟩ = some (.int .u32 q.a) ∧ wk.cell? ⟨gq, k * 3 + 1, none⟩ = some (.int .i64 q.n) ∧ wk.cell? ⟨gq, k * 3 + 2, none⟩ = some (.string q.o)) := fun wk hw =>
    ⟨(hw.cell (p := ⟨gq, k * 3, none⟩) hq4).trans (hk5 0 _ rfl), (hw.cell (p := ⟨gq, k * 3 + 1, none⟩) hq4).trans (hk5 1 _ rfl), (hw.cell (p := ⟨gq, k * 3 + 2, none⟩) hq4).trans (hk5 2 _ rfl)⟩
  have hkz : (k : Int) < (s.nets.length : Int) := by omega
  have hkn : ¬ ((k : Int) < 0) := by omega
  have hk0 : (0 : Int) ≤ (k : Int) := by omega
  have HUS : Hid (∀ Wc : World, Calls Tryz.prog 100 #[.agg #[.int .u32 q.a, .int .i64 q.n, .string q.o]] Wc fun e w' => e = .returned (.tuple #[.int .u32 ua, .int .u32 uz]) ∧ Below Wc.heap.size Wc w') := fun Wc => by rw [← hua, ← huz]; exact usable_any q Wc hqi.1 hqi.2.1
  clear hq1 hq2 hq5 hk5 hq hqm hqi
  subst ev
  clear hua huz
  clear B
  unfold lnC
  go_enter Tryz.func64, Tryz.ntmps64
  go_wp2
  go_region_held3 (fun w' => w'.cell? ⟨x, 1, none⟩ = some (.slice (some ⟨gq, 0, none⟩) s.nets.length cq) ∧ w'.cell? ⟨w.heap.size, 5, none⟩ = some (.int .u32 l.d)) (go_keep) (first | (go_at_call 99; refine (single_any _ _).mono ?_; rintro e w1 ⟨rfl, HQ⟩; have HB1 : Hid (Below (w.heap.size + 2) ((w.alloc (.cells #[.int .i64 l.v, .string l.t, .string l.o, .int .u32 l.a, .int .i64 l.n, .int .u32 l.d, .int .i64 l.g] 74)).alloc (.cells #[.int .i64 0, .slice none 0 0] 79)) w1) := bstep (by repeat' (first | with_reducible assumption | with_reducible exact Below.refl _ _ | with_reducible apply Below.drew | with_reducible apply below_drewN | with_reducible apply Below.setCell | with_reducible apply Below.alloc | omega | (simp; done) | (simp; omega))) (by simp) HQ; clear HQ; have HW1 : Hid (Below w.heap.size w w1) := (w0_below w l).trans (HB1.out.mono (by omega)); have LV1 := LIVE.out w1 HB1.out; have x1_1 := LV1.x1; have d_1 := LV1.d; have z0_1 := LV1.z0; have z1_1 := LV1.z1; clear LV1) | (go_at_call 98; refine (HSP.out _ (by have hp := HW1.out; repeat' (first | with_reducible assumption | with_reducible exact Below.refl _ _ | with_reducible apply Below.drew | with_reducible apply below_drewN | with_reducible apply Below.setCell | with_reducible apply Below.alloc | omega | (simp; done) | (simp; omega)))).mono ?_; rintro e w2 ⟨rfl, HQ⟩; have HB2 : Hid (Below (w.heap.size + 2) ((w.alloc (.cells #[.int .i64 l.v, .string l.t, .string l.o, .int .u32 l.a, .int .i64 l.n, .int .u32 l.d, .int .i64 l.g] 74)).alloc (.cells #[.int .i64 0, .slice none 0 0] 79)) w2) := bstep (by have hp := HB1.out; repeat' (first | with_reducible assumption | with_reducible exact Below.refl _ _ | with_reducible apply Below.drew | with_reducible apply below_drewN | with_reducible apply Below.setCell | with_reducible apply Below.alloc | omega | (simp; done) | (simp; omega))) (by simp) HQ; clear HQ; have HW2 : Hid (Below w.heap.size w w2) := (w0_below w l).trans (HB2.out.mono (by omega)); have LV2 := LIVE.out w2 HB2.out; have x1_2 := LV2.x1; have x2_2 := LV2.x2; have d_2 := LV2.d; have o_2 := LV2.o; have zx_2 := LV2.zx; have z0_2 := LV2.z0; have z1_2 := LV2.z1; have r0_2 := LV2.r0; have r1_2 := LV2.r1; have g0_2 := LV2.g0; have g1_2 := LV2.g1; obtain ⟨e0_2, e1_2, e2_2⟩ := ROW.out w2 HW2.out; clear LV2))
  all_goals (
    by_cases h3 : l.d < ua
    · go_wp2_with (first | (go_at_call 100; refine (HUS.out _).mono ?_; rintro e w3 ⟨rfl, HQ⟩; have HB3 : Hid (Below (w.heap.size + 2) ((w.alloc (.cells #[.int .i64 l.v, .string l.t, .string l.o, .int .u32 l.a, .int .i64 l.n, .int .u32 l.d, .int .i64 l.g] 74)).alloc (.cells #[.int .i64 0, .slice none 0 0] 79)) w3) := bstep (by have hp := HB2.out; repeat' (first | with_reducible assumption | with_reducible exact Below.refl _ _ | with_reducible apply Below.drew | with_reducible apply below_drewN | with_reducible apply Below.setCell | with_reducible apply Below.alloc | omega | (simp; done) | (simp; omega))) (by simp) HQ; clear HQ; have HW3 : Hid (Below w.heap.size w w3) := (w0_below w l).trans (HB3.out.mono (by omega)); have LV3 := LIVE.out w3 HB3.out; have x2_3 := LV3.x2; have d_3 := LV3.d; have o_3 := LV3.o; have zx_3 := LV3.zx; have z0_3 := LV3.z0; have z1_3 := LV3.z1; have r0_3 := LV3.r0; have r1_3 := LV3.r1; have g0_3 := LV3.g0; have g1_3 := LV3.g1; clear LV3) | (go_at_call 31; refine (refuse_any 12 _).mono ?_; rintro e w9 ⟨rfl, HQ⟩; have HB9 : Hid (Below (w.heap.size + 2) ((w.alloc (.cells #[.int .i64 l.v, .string l.t, .string l.o, .int .u32 l.a, .int .i64 l.n, .int .u32 l.d, .int .i64 l.g] 74)).alloc (.cells #[.int .i64 0, .slice none 0 0] 79)) w9) := bstep (by have hp := HB3.out; repeat' (first | with_reducible assumption | with_reducible exact Below.refl _ _ | with_reducible apply Below.drew | with_reducible apply below_drewN | with_reducible apply Below.setCell | with_reducible apply Below.alloc | omega | (simp; done) | (simp; omega))) (by simp) HQ; clear HQ; have HW9 : Hid (Below w.heap.size w w9) := (w0_below w l).trans (HB9.out.mono (by omega)); have LV9 := LIVE.out w9 HB9.out; have r0_9 := LV9.r0; have r1_9 := LV9.r1; have g0_9 := LV9.g0; have g1_9 := LV9.g1; have z1_9 := LV9.z1; clear LV9))
      have hR := (LIVE.out w9 HB9.out).rb
      obtain ⟨kk0, kk1⟩ := two_set hR (.int .i64 12) (.slice none 0 0)
      have hfin := res_ref (l := l) 12 H.out HB9.out
      exact bodyPost_ret (v := .agg #[.int .i64 12, .slice none 0 0]) (by simp [results, Tryz.results64, go_sem, kk0, kk1]) rfl hfin
    · have h4 : uz < l.d := by omega
      go_wp2_with (first | (go_at_call 100; refine (HUS.out _).mono ?_; rintro e w3 ⟨rfl, HQ⟩; have HB3 : Hid (Below (w.heap.size + 2) ((w.alloc (.cells #[.int .i64 l.v, .string l.t, .string l.o, .int .u32 l.a, .int .i64 l.n, .int .u32 l.d, .int .i64 l.g] 74)).alloc (.cells #[.int .i64 0, .slice none 0 0] 79)) w3) := bstep (by have hp := HB2.out; repeat' (first | with_reducible assumption | with_reducible exact Below.refl _ _ | with_reducible apply Below.drew | with_reducible apply below_drewN | with_reducible apply Below.setCell | with_reducible apply Below.alloc | omega | (simp; done) | (simp; omega))) (by simp) HQ; clear HQ; have HW3 : Hid (Below w.heap.size w w3) := (w0_below w l).trans (HB3.out.mono (by omega)); have LV3 := LIVE.out w3 HB3.out; have x2_3 := LV3.x2; have d_3 := LV3.d; have o_3 := LV3.o; have zx_3 := LV3.zx; have z0_3 := LV3.z0; have z1_3 := LV3.z1; have r0_3 := LV3.r0; have r1_3 := LV3.r1; have g0_3 := LV3.g0; have g1_3 := LV3.g1; clear LV3) | (go_at_call 31; refine (refuse_any 12 _).mono ?_; rintro e w9 ⟨rfl, HQ⟩; have HB9 : Hid (Below (w.heap.size + 2) ((w.alloc (.cells #[.int .i64 l.v, .string l.t, .string l.o, .int .u32 l.a, .int .i64 l.n, .int .u32 l.d, .int .i64 l.g] 74)).alloc (.cells #[.int .i64 0, .slice none 0 0] 79)) w9) := bstep (by have hp := HB3.out; repeat' (first | with_reducible assumption | with_reducible exact Below.refl _ _ | with_reducible apply Below.drew | with_reducible apply below_drewN | with_reducible apply Below.setCell | with_reducible apply Below.alloc | omega | (simp; done) | (simp; omega))) (by simp) HQ; clear HQ; have HW9 : Hid (Below w.heap.size w w9) := (w0_below w l).trans (HB9.out.mono (by omega)); have LV9 := LIVE.out w9 HB9.out; have r0_9 := LV9.r0; have r1_9 := LV9.r1; have g0_9 := LV9.g0; have g1_9 := LV9.g1; have z1_9 := LV9.z1; clear LV9))
      have hR := (LIVE.out w9 HB9.out).rb
      obtain ⟨kk0, kk1⟩ := two_set hR (.int .i64 12) (.slice none 0 0)
      have hfin := res_ref (l := l) 12 H.out HB9.out
      exact bodyPost_ret (v := .agg #[.int .i64 12, .slice none 0 0]) (by simp [results, Tryz.results64, go_sem, kk0, kk1]) rfl hfin)

set_option maxRecDepth 100000 in
set_option maxHeartbeats 2000000 in
theorem take_taken (w : World) (x : Nat) (S : Nat → Prop) (s : Bk) (l : Ln) (hI : Inv s) (hL : LnOk l) (h : BkAt w x S s) (k : Nat) (q : Hd) (hk : k < s.nets.length) (h1 : spanH s.nets l.d 32 = k) (hq : s.nets.getD k hd0 = q) (ua uz : Int) (hua : useA q.a q.n = ua) (huz : useZ q.a q.n = uz) (h2 : ¬ l.d < ua) (h3 : ¬ uz < l.d) (h4 : hasL s.leases l.d = true) :
    Calls Tryz.prog 64 #[.pointer (some ⟨x, 0, none⟩), .agg (lnC l)] w (Res w x S (s, ref 13)) := by
  obtain ⟨vp, vn, vl, c, B⟩ := h
  have hx := B.blk.lt
  have H : Hid (BkAt w x S s) := ⟨vp, vn, vl, c, B⟩
  have x0 : w.cell? ⟨x, 0, none⟩ = some vp := B.blk.cell 0
  have x1 : w.cell? ⟨x, 1, none⟩ = some vn := B.blk.cell 1
  have x2 : w.cell? ⟨x, 2, none⟩ = some vl := B.blk.cell 2
  have LIVE : Hid (∀ wk, Below (w.heap.size + 2) ((w.alloc (.cells #[.int .i64 l.v, .string l.t, .string l.o, .int .u32 l.a, .int .i64 l.n, .int .u32 l.d, .int .i64 l.g] 74)).alloc (.cells #[.int .i64 0, .slice none 0 0] 79)) wk → Live w wk x vp vn vl l) := live_of l B
  have HBA : Hid (BA w x S vp vn vl c s) := B
  have hxa : ¬ (x = w.heap.size) := by omega
  have hxb : ¬ (w.heap.size = x) := by omega
  have HSP : Hid (∀ Wc, Below w.heap.size w Wc → Calls Tryz.prog 98 #[vn, .agg #[.int .u32 l.d, .int .i64 32]] Wc fun e w' => e = .returned (.int .i64 (spanH s.nets l.d 32)) ∧ Below Wc.heap.size Wc w') := fun Wc hW => fspanS s.nets l.d 32 vn Wc (fun q hq => (hI.na q hq).1) hL.d ((Rd.of_owns (k := 3) (enc := encH) (fun _ => rfl) hd0 B.on).below hW)
  rw [h1] at HSP
  have HF : Hid (∀ Wc, Below w.heap.size w Wc → Calls Tryz.prog 101 #[.pointer (some ⟨x, 0, none⟩), .int .u32 l.d] Wc fun e w' => e = .returned (.tuple #[.int .i64 (cntL s.leases l.d : Nat), .bool (hasL s.leases l.d)]) ∧ Below Wc.heap.size Wc w') := fun Wc hW => findL_any x s.leases l.d vl Wc ((hW.cell (p := ⟨x, 2, none⟩) hx).trans x2) ((Rd.of_owns (k := 2) (enc := encL) (fun _ => rfl) ls0 B.ol).below hW) (by have := hI.l; omega) hI.lu
  rw [h4] at HF
  have hkk : ∀ q : Hd, (encH q).length = 3 := fun _ => rfl
  have hqm : q ∈ s.nets := by rw [← hq]; exact getD_mem s.nets hd0 k hk
  have hqi := hI.na q hqm
  have hrd := Rd.of_owns hkk hd0 B.on
  obtain ⟨bq, cq, ev, hq1, hq2, hq3⟩ := hrd
  obtain ⟨gq, rfl, hq4, hq5⟩ := hq3 (by intro e; rw [e] at hk; simp at hk)
  have hk5 := hq5 k hk
  rw [hq] at hk5
  have ROW : Hid (∀ wk, Below w.heap.size w wk → wk.cell? ⟨gq, k * 3, none⟩ = some (.int .u32 q.a) ∧ wk.cell? ⟨gq, k * 3 + 1, none⟩ = some (.int .i64 q.n) ∧ wk.cell? ⟨gq, k * 3 + 2, none⟩ = some (.string q.o)) := fun wk hw =>
    ⟨(hw.cell (p := ⟨gq, k * 3, none⟩) hq4).trans (hk5 0 _ rfl), (hw.cell (p := ⟨gq, k * 3 + 1, none⟩) hq4).trans (hk5 1 _ rfl), (hw.cell (p := ⟨gq, k * 3 + 2, none⟩) hq4).trans (hk5 2 _ rfl)⟩
  have hkz : (k : Int) < (s.nets.length : Int) := by omega
  have hkn : ¬ ((k : Int) < 0) := by omega
  have hk0 : (0 : Int) ≤ (k : Int) := by omega
  have HUS : Hid (∀ Wc : World, Calls Tryz.prog 100 #[.agg #[.int .u32 q.a, .int .i64 q.n, .string q.o]] Wc fun e w' => e = .returned (.tuple #[.int .u32 ua, .int .u32 uz]) ∧ Below Wc.heap.size Wc w') := fun Wc => by rw [← hua, ← huz]; exact usable_any q Wc hqi.1 hqi.2.1
  clear hq1 hq2 hq5 hk5 hq hqm hqi
  subst ev
  clear hua huz
  obtain ⟨bl, cl, el, _, _⟩ := owns_slice B.ol
  subst el
  clear B
  unfold lnC
  go_enter Tryz.func64, Tryz.ntmps64
  go_wp2
  go_region_held3 (fun w' => w'.cell? ⟨x, 1, none⟩ = some (.slice (some ⟨gq, 0, none⟩) s.nets.length cq) ∧ w'.cell? ⟨w.heap.size, 5, none⟩ = some (.int .u32 l.d)) (go_keep) (first | (go_at_call 99; refine (single_any _ _).mono ?_; rintro e w1 ⟨rfl, HQ⟩; have HB1 : Hid (Below (w.heap.size + 2) ((w.alloc (.cells #[.int .i64 l.v, .string l.t, .string l.o, .int .u32 l.a, .int .i64 l.n, .int .u32 l.d, .int .i64 l.g] 74)).alloc (.cells #[.int .i64 0, .slice none 0 0] 79)) w1) := bstep (by repeat' (first | with_reducible assumption | with_reducible exact Below.refl _ _ | with_reducible apply Below.drew | with_reducible apply below_drewN | with_reducible apply Below.setCell | with_reducible apply Below.alloc | omega | (simp; done) | (simp; omega))) (by simp) HQ; clear HQ; have HW1 : Hid (Below w.heap.size w w1) := (w0_below w l).trans (HB1.out.mono (by omega)); have LV1 := LIVE.out w1 HB1.out; have x1_1 := LV1.x1; have d_1 := LV1.d; have z0_1 := LV1.z0; have z1_1 := LV1.z1; clear LV1) | (go_at_call 98; refine (HSP.out _ (by have hp := HW1.out; repeat' (first | with_reducible assumption | with_reducible exact Below.refl _ _ | with_reducible apply Below.drew | with_reducible apply below_drewN | with_reducible apply Below.setCell | with_reducible apply Below.alloc | omega | (simp; done) | (simp; omega)))).mono ?_; rintro e w2 ⟨rfl, HQ⟩; have HB2 : Hid (Below (w.heap.size + 2) ((w.alloc (.cells #[.int .i64 l.v, .string l.t, .string l.o, .int .u32 l.a, .int .i64 l.n, .int .u32 l.d, .int .i64 l.g] 74)).alloc (.cells #[.int .i64 0, .slice none 0 0] 79)) w2) := bstep (by have hp := HB1.out; repeat' (first | with_reducible assumption | with_reducible exact Below.refl _ _ | with_reducible apply Below.drew | with_reducible apply below_drewN | with_reducible apply Below.setCell | with_reducible apply Below.alloc | omega | (simp; done) | (simp; omega))) (by simp) HQ; clear HQ; have HW2 : Hid (Below w.heap.size w w2) := (w0_below w l).trans (HB2.out.mono (by omega)); have LV2 := LIVE.out w2 HB2.out; have x1_2 := LV2.x1; have x2_2 := LV2.x2; have d_2 := LV2.d; have o_2 := LV2.o; have zx_2 := LV2.zx; have z0_2 := LV2.z0; have z1_2 := LV2.z1; have r0_2 := LV2.r0; have r1_2 := LV2.r1; have g0_2 := LV2.g0; have g1_2 := LV2.g1; obtain ⟨e0_2, e1_2, e2_2⟩ := ROW.out w2 HW2.out; clear LV2))
  all_goals (
    go_wp2_with (first | (go_at_call 100; refine (HUS.out _).mono ?_; rintro e w3 ⟨rfl, HQ⟩; have HB3 : Hid (Below (w.heap.size + 2) ((w.alloc (.cells #[.int .i64 l.v, .string l.t, .string l.o, .int .u32 l.a, .int .i64 l.n, .int .u32 l.d, .int .i64 l.g] 74)).alloc (.cells #[.int .i64 0, .slice none 0 0] 79)) w3) := bstep (by have hp := HB2.out; repeat' (first | with_reducible assumption | with_reducible exact Below.refl _ _ | with_reducible apply Below.drew | with_reducible apply below_drewN | with_reducible apply Below.setCell | with_reducible apply Below.alloc | omega | (simp; done) | (simp; omega))) (by simp) HQ; clear HQ; have HW3 : Hid (Below w.heap.size w w3) := (w0_below w l).trans (HB3.out.mono (by omega)); have LV3 := LIVE.out w3 HB3.out; have x2_3 := LV3.x2; have d_3 := LV3.d; have o_3 := LV3.o; have zx_3 := LV3.zx; have z0_3 := LV3.z0; have z1_3 := LV3.z1; have r0_3 := LV3.r0; have r1_3 := LV3.r1; have g0_3 := LV3.g0; have g1_3 := LV3.g1; clear LV3) | (go_at_call 101; refine (HF.out _ (by have hp := HW3.out; repeat' (first | with_reducible assumption | with_reducible exact Below.refl _ _ | with_reducible apply Below.drew | with_reducible apply below_drewN | with_reducible apply Below.setCell | with_reducible apply Below.alloc | omega | (simp; done) | (simp; omega)))).mono ?_; rintro e w4 ⟨rfl, HQ⟩; have HB4 : Hid (Below (w.heap.size + 2) ((w.alloc (.cells #[.int .i64 l.v, .string l.t, .string l.o, .int .u32 l.a, .int .i64 l.n, .int .u32 l.d, .int .i64 l.g] 74)).alloc (.cells #[.int .i64 0, .slice none 0 0] 79)) w4) := bstep (by have hp := HB3.out; repeat' (first | with_reducible assumption | with_reducible exact Below.refl _ _ | with_reducible apply Below.drew | with_reducible apply below_drewN | with_reducible apply Below.setCell | with_reducible apply Below.alloc | omega | (simp; done) | (simp; omega))) (by simp) HQ; clear HQ; have HW4 : Hid (Below w.heap.size w w4) := (w0_below w l).trans (HB4.out.mono (by omega)); have LV4 := LIVE.out w4 HB4.out; have x2_4 := LV4.x2; have d_4 := LV4.d; have o_4 := LV4.o; have zx_4 := LV4.zx; have z0_4 := LV4.z0; have z1_4 := LV4.z1; have r0_4 := LV4.r0; have r1_4 := LV4.r1; have g0_4 := LV4.g0; have g1_4 := LV4.g1; clear LV4) | (go_at_call 31; refine (refuse_any 13 _).mono ?_; rintro e w9 ⟨rfl, HQ⟩; have HB9 : Hid (Below (w.heap.size + 2) ((w.alloc (.cells #[.int .i64 l.v, .string l.t, .string l.o, .int .u32 l.a, .int .i64 l.n, .int .u32 l.d, .int .i64 l.g] 74)).alloc (.cells #[.int .i64 0, .slice none 0 0] 79)) w9) := bstep (by have hp := HB4.out; repeat' (first | with_reducible assumption | with_reducible exact Below.refl _ _ | with_reducible apply Below.drew | with_reducible apply below_drewN | with_reducible apply Below.setCell | with_reducible apply Below.alloc | omega | (simp; done) | (simp; omega))) (by simp) HQ; clear HQ; have HW9 : Hid (Below w.heap.size w w9) := (w0_below w l).trans (HB9.out.mono (by omega)); have LV9 := LIVE.out w9 HB9.out; have r0_9 := LV9.r0; have r1_9 := LV9.r1; have g0_9 := LV9.g0; have g1_9 := LV9.g1; have z1_9 := LV9.z1; clear LV9))
    have hR := (LIVE.out w9 HB9.out).rb
    obtain ⟨kk0, kk1⟩ := two_set hR (.int .i64 13) (.slice none 0 0)
    have hfin := res_ref (l := l) 13 H.out HB9.out
    exact bodyPost_ret (v := .agg #[.int .i64 13, .slice none 0 0]) (by simp [results, Tryz.results64, go_sem, kk0, kk1]) rfl hfin)

set_option maxRecDepth 100000 in
set_option maxHeartbeats 2000000 in
theorem take_limit (w : World) (x : Nat) (S : Nat → Prop) (s : Bk) (l : Ln) (hI : Inv s) (hL : LnOk l) (h : BkAt w x S s) (k : Nat) (q : Hd) (hk : k < s.nets.length) (h1 : spanH s.nets l.d 32 = k) (hq : s.nets.getD k hd0 = q) (ua uz : Int) (hua : useA q.a q.n = ua) (huz : useZ q.a q.n = uz) (h2 : ¬ l.d < ua) (h3 : ¬ uz < l.d) (h4 : hasL s.leases l.d = false) (h5 : 40 ≤ s.leases.length) :
    Calls Tryz.prog 64 #[.pointer (some ⟨x, 0, none⟩), .agg (lnC l)] w (Res w x S (s, ref 6)) := by
  obtain ⟨vp, vn, vl, c, B⟩ := h
  have hx := B.blk.lt
  have H : Hid (BkAt w x S s) := ⟨vp, vn, vl, c, B⟩
  have x0 : w.cell? ⟨x, 0, none⟩ = some vp := B.blk.cell 0
  have x1 : w.cell? ⟨x, 1, none⟩ = some vn := B.blk.cell 1
  have x2 : w.cell? ⟨x, 2, none⟩ = some vl := B.blk.cell 2
  have LIVE : Hid (∀ wk, Below (w.heap.size + 2) ((w.alloc (.cells #[.int .i64 l.v, .string l.t, .string l.o, .int .u32 l.a, .int .i64 l.n, .int .u32 l.d, .int .i64 l.g] 74)).alloc (.cells #[.int .i64 0, .slice none 0 0] 79)) wk → Live w wk x vp vn vl l) := live_of l B
  have HBA : Hid (BA w x S vp vn vl c s) := B
  have hxa : ¬ (x = w.heap.size) := by omega
  have hxb : ¬ (w.heap.size = x) := by omega
  have HSP : Hid (∀ Wc, Below w.heap.size w Wc → Calls Tryz.prog 98 #[vn, .agg #[.int .u32 l.d, .int .i64 32]] Wc fun e w' => e = .returned (.int .i64 (spanH s.nets l.d 32)) ∧ Below Wc.heap.size Wc w') := fun Wc hW => fspanS s.nets l.d 32 vn Wc (fun q hq => (hI.na q hq).1) hL.d ((Rd.of_owns (k := 3) (enc := encH) (fun _ => rfl) hd0 B.on).below hW)
  rw [h1] at HSP
  have HF : Hid (∀ Wc, Below w.heap.size w Wc → Calls Tryz.prog 101 #[.pointer (some ⟨x, 0, none⟩), .int .u32 l.d] Wc fun e w' => e = .returned (.tuple #[.int .i64 (cntL s.leases l.d : Nat), .bool (hasL s.leases l.d)]) ∧ Below Wc.heap.size Wc w') := fun Wc hW => findL_any x s.leases l.d vl Wc ((hW.cell (p := ⟨x, 2, none⟩) hx).trans x2) ((Rd.of_owns (k := 2) (enc := encL) (fun _ => rfl) ls0 B.ol).below hW) (by have := hI.l; omega) hI.lu
  rw [h4] at HF
  have hkk : ∀ q : Hd, (encH q).length = 3 := fun _ => rfl
  have hqm : q ∈ s.nets := by rw [← hq]; exact getD_mem s.nets hd0 k hk
  have hqi := hI.na q hqm
  have hrd := Rd.of_owns hkk hd0 B.on
  obtain ⟨bq, cq, ev, hq1, hq2, hq3⟩ := hrd
  obtain ⟨gq, rfl, hq4, hq5⟩ := hq3 (by intro e; rw [e] at hk; simp at hk)
  have hk5 := hq5 k hk
  rw [hq] at hk5
  have ROW : Hid (∀ wk, Below w.heap.size w wk → wk.cell? ⟨gq, k * 3, none⟩ = some (.int .u32 q.a) ∧ wk.cell? ⟨gq, k * 3 + 1, none⟩ = some (.int .i64 q.n) ∧ wk.cell? ⟨gq, k * 3 + 2, none⟩ = some (.string q.o)) := fun wk hw =>
    ⟨(hw.cell (p := ⟨gq, k * 3, none⟩) hq4).trans (hk5 0 _ rfl), (hw.cell (p := ⟨gq, k * 3 + 1, none⟩) hq4).trans (hk5 1 _ rfl), (hw.cell (p := ⟨gq, k * 3 + 2, none⟩) hq4).trans (hk5 2 _ rfl)⟩
  have hkz : (k : Int) < (s.nets.length : Int) := by omega
  have hkn : ¬ ((k : Int) < 0) := by omega
  have hk0 : (0 : Int) ≤ (k : Int) := by omega
  have HUS : Hid (∀ Wc : World, Calls Tryz.prog 100 #[.agg #[.int .u32 q.a, .int .i64 q.n, .string q.o]] Wc fun e w' => e = .returned (.tuple #[.int .u32 ua, .int .u32 uz]) ∧ Below Wc.heap.size Wc w') := fun Wc => by rw [← hua, ← huz]; exact usable_any q Wc hqi.1 hqi.2.1
  clear hq1 hq2 hq5 hk5 hq hqm hqi
  subst ev
  clear hua huz
  obtain ⟨bl, cl, el, _, _⟩ := owns_slice B.ol
  subst el
  have h6 : (40 : Int) ≤ (s.leases.length : Int) := by omega
  clear B
  unfold lnC
  go_enter Tryz.func64, Tryz.ntmps64
  go_wp2
  go_region_held3 (fun w' => w'.cell? ⟨x, 1, none⟩ = some (.slice (some ⟨gq, 0, none⟩) s.nets.length cq) ∧ w'.cell? ⟨w.heap.size, 5, none⟩ = some (.int .u32 l.d)) (go_keep) (first | (go_at_call 99; refine (single_any _ _).mono ?_; rintro e w1 ⟨rfl, HQ⟩; have HB1 : Hid (Below (w.heap.size + 2) ((w.alloc (.cells #[.int .i64 l.v, .string l.t, .string l.o, .int .u32 l.a, .int .i64 l.n, .int .u32 l.d, .int .i64 l.g] 74)).alloc (.cells #[.int .i64 0, .slice none 0 0] 79)) w1) := bstep (by repeat' (first | with_reducible assumption | with_reducible exact Below.refl _ _ | with_reducible apply Below.drew | with_reducible apply below_drewN | with_reducible apply Below.setCell | with_reducible apply Below.alloc | omega | (simp; done) | (simp; omega))) (by simp) HQ; clear HQ; have HW1 : Hid (Below w.heap.size w w1) := (w0_below w l).trans (HB1.out.mono (by omega)); have LV1 := LIVE.out w1 HB1.out; have x1_1 := LV1.x1; have d_1 := LV1.d; have z0_1 := LV1.z0; have z1_1 := LV1.z1; clear LV1) | (go_at_call 98; refine (HSP.out _ (by have hp := HW1.out; repeat' (first | with_reducible assumption | with_reducible exact Below.refl _ _ | with_reducible apply Below.drew | with_reducible apply below_drewN | with_reducible apply Below.setCell | with_reducible apply Below.alloc | omega | (simp; done) | (simp; omega)))).mono ?_; rintro e w2 ⟨rfl, HQ⟩; have HB2 : Hid (Below (w.heap.size + 2) ((w.alloc (.cells #[.int .i64 l.v, .string l.t, .string l.o, .int .u32 l.a, .int .i64 l.n, .int .u32 l.d, .int .i64 l.g] 74)).alloc (.cells #[.int .i64 0, .slice none 0 0] 79)) w2) := bstep (by have hp := HB1.out; repeat' (first | with_reducible assumption | with_reducible exact Below.refl _ _ | with_reducible apply Below.drew | with_reducible apply below_drewN | with_reducible apply Below.setCell | with_reducible apply Below.alloc | omega | (simp; done) | (simp; omega))) (by simp) HQ; clear HQ; have HW2 : Hid (Below w.heap.size w w2) := (w0_below w l).trans (HB2.out.mono (by omega)); have LV2 := LIVE.out w2 HB2.out; have x1_2 := LV2.x1; have x2_2 := LV2.x2; have d_2 := LV2.d; have o_2 := LV2.o; have zx_2 := LV2.zx; have z0_2 := LV2.z0; have z1_2 := LV2.z1; have r0_2 := LV2.r0; have r1_2 := LV2.r1; have g0_2 := LV2.g0; have g1_2 := LV2.g1; obtain ⟨e0_2, e1_2, e2_2⟩ := ROW.out w2 HW2.out; clear LV2))
  all_goals (
    go_wp2_with (first | (go_at_call 100; refine (HUS.out _).mono ?_; rintro e w3 ⟨rfl, HQ⟩; have HB3 : Hid (Below (w.heap.size + 2) ((w.alloc (.cells #[.int .i64 l.v, .string l.t, .string l.o, .int .u32 l.a, .int .i64 l.n, .int .u32 l.d, .int .i64 l.g] 74)).alloc (.cells #[.int .i64 0, .slice none 0 0] 79)) w3) := bstep (by have hp := HB2.out; repeat' (first | with_reducible assumption | with_reducible exact Below.refl _ _ | with_reducible apply Below.drew | with_reducible apply below_drewN | with_reducible apply Below.setCell | with_reducible apply Below.alloc | omega | (simp; done) | (simp; omega))) (by simp) HQ; clear HQ; have HW3 : Hid (Below w.heap.size w w3) := (w0_below w l).trans (HB3.out.mono (by omega)); have LV3 := LIVE.out w3 HB3.out; have x2_3 := LV3.x2; have d_3 := LV3.d; have o_3 := LV3.o; have zx_3 := LV3.zx; have z0_3 := LV3.z0; have z1_3 := LV3.z1; have r0_3 := LV3.r0; have r1_3 := LV3.r1; have g0_3 := LV3.g0; have g1_3 := LV3.g1; clear LV3) | (go_at_call 101; refine (HF.out _ (by have hp := HW3.out; repeat' (first | with_reducible assumption | with_reducible exact Below.refl _ _ | with_reducible apply Below.drew | with_reducible apply below_drewN | with_reducible apply Below.setCell | with_reducible apply Below.alloc | omega | (simp; done) | (simp; omega)))).mono ?_; rintro e w4 ⟨rfl, HQ⟩; have HB4 : Hid (Below (w.heap.size + 2) ((w.alloc (.cells #[.int .i64 l.v, .string l.t, .string l.o, .int .u32 l.a, .int .i64 l.n, .int .u32 l.d, .int .i64 l.g] 74)).alloc (.cells #[.int .i64 0, .slice none 0 0] 79)) w4) := bstep (by have hp := HB3.out; repeat' (first | with_reducible assumption | with_reducible exact Below.refl _ _ | with_reducible apply Below.drew | with_reducible apply below_drewN | with_reducible apply Below.setCell | with_reducible apply Below.alloc | omega | (simp; done) | (simp; omega))) (by simp) HQ; clear HQ; have HW4 : Hid (Below w.heap.size w w4) := (w0_below w l).trans (HB4.out.mono (by omega)); have LV4 := LIVE.out w4 HB4.out; have x2_4 := LV4.x2; have d_4 := LV4.d; have o_4 := LV4.o; have zx_4 := LV4.zx; have z0_4 := LV4.z0; have z1_4 := LV4.z1; have r0_4 := LV4.r0; have r1_4 := LV4.r1; have g0_4 := LV4.g0; have g1_4 := LV4.g1; clear LV4) | (go_at_call 31; refine (refuse_any 6 _).mono ?_; rintro e w9 ⟨rfl, HQ⟩; have HB9 : Hid (Below (w.heap.size + 2) ((w.alloc (.cells #[.int .i64 l.v, .string l.t, .string l.o, .int .u32 l.a, .int .i64 l.n, .int .u32 l.d, .int .i64 l.g] 74)).alloc (.cells #[.int .i64 0, .slice none 0 0] 79)) w9) := bstep (by have hp := HB4.out; repeat' (first | with_reducible assumption | with_reducible exact Below.refl _ _ | with_reducible apply Below.drew | with_reducible apply below_drewN | with_reducible apply Below.setCell | with_reducible apply Below.alloc | omega | (simp; done) | (simp; omega))) (by simp) HQ; clear HQ; have HW9 : Hid (Below w.heap.size w w9) := (w0_below w l).trans (HB9.out.mono (by omega)); have LV9 := LIVE.out w9 HB9.out; have r0_9 := LV9.r0; have r1_9 := LV9.r1; have g0_9 := LV9.g0; have g1_9 := LV9.g1; have z1_9 := LV9.z1; clear LV9))
    have hR := (LIVE.out w9 HB9.out).rb
    obtain ⟨kk0, kk1⟩ := two_set hR (.int .i64 6) (.slice none 0 0)
    have hfin := res_ref (l := l) 6 H.out HB9.out
    exact bodyPost_ret (v := .agg #[.int .i64 6, .slice none 0 0]) (by simp [results, Tryz.results64, go_sem, kk0, kk1]) rfl hfin)

set_option maxRecDepth 100000 in
set_option maxHeartbeats 2000000 in
theorem take_ok (w : World) (x : Nat) (S : Nat → Prop) (s : Bk) (l : Ln) (hI : Inv s) (hL : LnOk l) (h : BkAt w x S s) (k : Nat) (q : Hd) (hk : k < s.nets.length) (h1 : spanH s.nets l.d 32 = k) (hq : s.nets.getD k hd0 = q) (ua uz : Int) (hua : useA q.a q.n = ua) (huz : useZ q.a q.n = uz) (h2 : ¬ l.d < ua) (h3 : ¬ uz < l.d) (h4 : hasL s.leases l.d = false) (h5 : ¬ 40 ≤ s.leases.length) :
    Calls Tryz.prog 64 #[.pointer (some ⟨x, 0, none⟩), .agg (lnC l)] w (Res w x S ({ s with leases := insL s.leases ⟨l.d, l.o⟩ }, okA)) := by
  obtain ⟨vp, vn, vl, c, B⟩ := h
  have hx := B.blk.lt
  have H : Hid (BkAt w x S s) := ⟨vp, vn, vl, c, B⟩
  have x0 : w.cell? ⟨x, 0, none⟩ = some vp := B.blk.cell 0
  have x1 : w.cell? ⟨x, 1, none⟩ = some vn := B.blk.cell 1
  have x2 : w.cell? ⟨x, 2, none⟩ = some vl := B.blk.cell 2
  have LIVE : Hid (∀ wk, Below (w.heap.size + 2) ((w.alloc (.cells #[.int .i64 l.v, .string l.t, .string l.o, .int .u32 l.a, .int .i64 l.n, .int .u32 l.d, .int .i64 l.g] 74)).alloc (.cells #[.int .i64 0, .slice none 0 0] 79)) wk → Live w wk x vp vn vl l) := live_of l B
  have HBA : Hid (BA w x S vp vn vl c s) := B
  have hxa : ¬ (x = w.heap.size) := by omega
  have hxb : ¬ (w.heap.size = x) := by omega
  have HS : Hid (∀ b, S b → b < w.heap.size) := B.sz
  have HSP : Hid (∀ Wc, Below w.heap.size w Wc → Calls Tryz.prog 98 #[vn, .agg #[.int .u32 l.d, .int .i64 32]] Wc fun e w' => e = .returned (.int .i64 (spanH s.nets l.d 32)) ∧ Below Wc.heap.size Wc w') := fun Wc hW => fspanS s.nets l.d 32 vn Wc (fun q hq => (hI.na q hq).1) hL.d ((Rd.of_owns (k := 3) (enc := encH) (fun _ => rfl) hd0 B.on).below hW)
  rw [h1] at HSP
  have HF : Hid (∀ Wc, Below w.heap.size w Wc → Calls Tryz.prog 101 #[.pointer (some ⟨x, 0, none⟩), .int .u32 l.d] Wc fun e w' => e = .returned (.tuple #[.int .i64 (cntL s.leases l.d : Nat), .bool (hasL s.leases l.d)]) ∧ Below Wc.heap.size Wc w') := fun Wc hW => findL_any x s.leases l.d vl Wc ((hW.cell (p := ⟨x, 2, none⟩) hx).trans x2) ((Rd.of_owns (k := 2) (enc := encL) (fun _ => rfl) ls0 B.ol).below hW) (by have := hI.l; omega) hI.lu
  rw [h4] at HF
  have HAD : Hid (∀ Wc, Below w.heap.size w Wc → Calls Tryz.prog 96 #[.pointer (some ⟨x, 0, none⟩), .int .u32 l.d, .string l.o] Wc fun e w' => e = .returned (.tuple #[]) ∧ ∃ S', BkAt w' x S' { s with leases := insL s.leases ⟨l.d, l.o⟩ } ∧ (∀ b, S' b → S b ∨ Wc.heap.size ≤ b) ∧ Chg S Wc w') := fun Wc hW => addLease_any Wc x S s l.d l.o hI (H.out.below hW)
  have hkk : ∀ q : Hd, (encH q).length = 3 := fun _ => rfl
  have hqm : q ∈ s.nets := by rw [← hq]; exact getD_mem s.nets hd0 k hk
  have hqi := hI.na q hqm
  have hrd := Rd.of_owns hkk hd0 B.on
  obtain ⟨bq, cq, ev, hq1, hq2, hq3⟩ := hrd
  obtain ⟨gq, rfl, hq4, hq5⟩ := hq3 (by intro e; rw [e] at hk; simp at hk)
  have hk5 := hq5 k hk
  rw [hq] at hk5
  have ROW : Hid (∀ wk, Below w.heap.size w wk → wk.cell? ⟨gq, k * 3, none⟩ = some (.int .u32 q.a) ∧ wk.cell? ⟨gq, k * 3 + 1, none⟩ = some (.int .i64 q.n) ∧ wk.cell? ⟨gq, k * 3 + 2, none⟩ = some (.string q.o)) := fun wk hw =>
    ⟨(hw.cell (p := ⟨gq, k * 3, none⟩) hq4).trans (hk5 0 _ rfl), (hw.cell (p := ⟨gq, k * 3 + 1, none⟩) hq4).trans (hk5 1 _ rfl), (hw.cell (p := ⟨gq, k * 3 + 2, none⟩) hq4).trans (hk5 2 _ rfl)⟩
  have hkz : (k : Int) < (s.nets.length : Int) := by omega
  have hkn : ¬ ((k : Int) < 0) := by omega
  have hk0 : (0 : Int) ≤ (k : Int) := by omega
  have HUS : Hid (∀ Wc : World, Calls Tryz.prog 100 #[.agg #[.int .u32 q.a, .int .i64 q.n, .string q.o]] Wc fun e w' => e = .returned (.tuple #[.int .u32 ua, .int .u32 uz]) ∧ Below Wc.heap.size Wc w') := fun Wc => by rw [← hua, ← huz]; exact usable_any q Wc hqi.1 hqi.2.1
  clear hq1 hq2 hq5 hk5 hq hqm hqi
  subst ev
  clear hua huz
  obtain ⟨bl, cl, el, _, _⟩ := owns_slice B.ol
  subst el
  have h6 : ¬ (40 : Int) ≤ (s.leases.length : Int) := by omega
  clear B
  unfold lnC
  go_enter Tryz.func64, Tryz.ntmps64
  go_wp2
  go_region_held3 (fun w' => w'.cell? ⟨x, 1, none⟩ = some (.slice (some ⟨gq, 0, none⟩) s.nets.length cq) ∧ w'.cell? ⟨w.heap.size, 5, none⟩ = some (.int .u32 l.d)) (go_keep) (first | (go_at_call 99; refine (single_any _ _).mono ?_; rintro e w1 ⟨rfl, HQ⟩; have HB1 : Hid (Below (w.heap.size + 2) ((w.alloc (.cells #[.int .i64 l.v, .string l.t, .string l.o, .int .u32 l.a, .int .i64 l.n, .int .u32 l.d, .int .i64 l.g] 74)).alloc (.cells #[.int .i64 0, .slice none 0 0] 79)) w1) := bstep (by repeat' (first | with_reducible assumption | with_reducible exact Below.refl _ _ | with_reducible apply Below.drew | with_reducible apply below_drewN | with_reducible apply Below.setCell | with_reducible apply Below.alloc | omega | (simp; done) | (simp; omega))) (by simp) HQ; clear HQ; have HW1 : Hid (Below w.heap.size w w1) := (w0_below w l).trans (HB1.out.mono (by omega)); have LV1 := LIVE.out w1 HB1.out; have x1_1 := LV1.x1; have d_1 := LV1.d; have z0_1 := LV1.z0; have z1_1 := LV1.z1; clear LV1) | (go_at_call 98; refine (HSP.out _ (by have hp := HW1.out; repeat' (first | with_reducible assumption | with_reducible exact Below.refl _ _ | with_reducible apply Below.drew | with_reducible apply below_drewN | with_reducible apply Below.setCell | with_reducible apply Below.alloc | omega | (simp; done) | (simp; omega)))).mono ?_; rintro e w2 ⟨rfl, HQ⟩; have HB2 : Hid (Below (w.heap.size + 2) ((w.alloc (.cells #[.int .i64 l.v, .string l.t, .string l.o, .int .u32 l.a, .int .i64 l.n, .int .u32 l.d, .int .i64 l.g] 74)).alloc (.cells #[.int .i64 0, .slice none 0 0] 79)) w2) := bstep (by have hp := HB1.out; repeat' (first | with_reducible assumption | with_reducible exact Below.refl _ _ | with_reducible apply Below.drew | with_reducible apply below_drewN | with_reducible apply Below.setCell | with_reducible apply Below.alloc | omega | (simp; done) | (simp; omega))) (by simp) HQ; clear HQ; have HW2 : Hid (Below w.heap.size w w2) := (w0_below w l).trans (HB2.out.mono (by omega)); have LV2 := LIVE.out w2 HB2.out; have x1_2 := LV2.x1; have x2_2 := LV2.x2; have d_2 := LV2.d; have o_2 := LV2.o; have zx_2 := LV2.zx; have z0_2 := LV2.z0; have z1_2 := LV2.z1; have r0_2 := LV2.r0; have r1_2 := LV2.r1; have g0_2 := LV2.g0; have g1_2 := LV2.g1; obtain ⟨e0_2, e1_2, e2_2⟩ := ROW.out w2 HW2.out; clear LV2))
  all_goals (
    go_wp2_with (first | (go_at_call 100; refine (HUS.out _).mono ?_; rintro e w3 ⟨rfl, HQ⟩; have HB3 : Hid (Below (w.heap.size + 2) ((w.alloc (.cells #[.int .i64 l.v, .string l.t, .string l.o, .int .u32 l.a, .int .i64 l.n, .int .u32 l.d, .int .i64 l.g] 74)).alloc (.cells #[.int .i64 0, .slice none 0 0] 79)) w3) := bstep (by have hp := HB2.out; repeat' (first | with_reducible assumption | with_reducible exact Below.refl _ _ | with_reducible apply Below.drew | with_reducible apply below_drewN | with_reducible apply Below.setCell | with_reducible apply Below.alloc | omega | (simp; done) | (simp; omega))) (by simp) HQ; clear HQ; have HW3 : Hid (Below w.heap.size w w3) := (w0_below w l).trans (HB3.out.mono (by omega)); have LV3 := LIVE.out w3 HB3.out; have x2_3 := LV3.x2; have d_3 := LV3.d; have o_3 := LV3.o; have zx_3 := LV3.zx; have z0_3 := LV3.z0; have z1_3 := LV3.z1; have r0_3 := LV3.r0; have r1_3 := LV3.r1; have g0_3 := LV3.g0; have g1_3 := LV3.g1; clear LV3) | (go_at_call 101; refine (HF.out _ (by have hp := HW3.out; repeat' (first | with_reducible assumption | with_reducible exact Below.refl _ _ | with_reducible apply Below.drew | with_reducible apply below_drewN | with_reducible apply Below.setCell | with_reducible apply Below.alloc | omega | (simp; done) | (simp; omega)))).mono ?_; rintro e w4 ⟨rfl, HQ⟩; have HB4 : Hid (Below (w.heap.size + 2) ((w.alloc (.cells #[.int .i64 l.v, .string l.t, .string l.o, .int .u32 l.a, .int .i64 l.n, .int .u32 l.d, .int .i64 l.g] 74)).alloc (.cells #[.int .i64 0, .slice none 0 0] 79)) w4) := bstep (by have hp := HB3.out; repeat' (first | with_reducible assumption | with_reducible exact Below.refl _ _ | with_reducible apply Below.drew | with_reducible apply below_drewN | with_reducible apply Below.setCell | with_reducible apply Below.alloc | omega | (simp; done) | (simp; omega))) (by simp) HQ; clear HQ; have HW4 : Hid (Below w.heap.size w w4) := (w0_below w l).trans (HB4.out.mono (by omega)); have LV4 := LIVE.out w4 HB4.out; have x2_4 := LV4.x2; have d_4 := LV4.d; have o_4 := LV4.o; have zx_4 := LV4.zx; have z0_4 := LV4.z0; have z1_4 := LV4.z1; have r0_4 := LV4.r0; have r1_4 := LV4.r1; have g0_4 := LV4.g0; have g1_4 := LV4.g1; clear LV4) | (go_at_call 96; refine (HAD.out _ (by have hp := HW4.out; repeat' (first | with_reducible assumption | with_reducible exact Below.refl _ _ | with_reducible apply Below.drew | with_reducible apply below_drewN | with_reducible apply Below.setCell | with_reducible apply Below.alloc | omega | (simp; done) | (simp; omega)))).mono ?_; rintro e w5 ⟨rfl, S3, o1, o2, o3⟩; have HG : Hid (∃ Wc, Below w.heap.size w Wc ∧ w.heap.size + 2 ≤ Wc.heap.size ∧ (∀ b, S3 b → S b ∨ Wc.heap.size ≤ b) ∧ Chg S Wc w5) := ⟨_, by have hp := HW4.out; repeat' (first | with_reducible assumption | with_reducible exact Below.refl _ _ | with_reducible apply Below.drew | with_reducible apply below_drewN | with_reducible apply Below.setCell | with_reducible apply Below.alloc | omega | (simp; done) | (simp; omega)), by have hz := HB4.out.size; simp at hz ⊢; omega, o2, o3⟩; have HA : Hid (BkAt w5 x S3 { s with leases := insL s.leases ⟨l.d, l.o⟩ }) := o1; have RB5 : Hid (Blk w5 (w.heap.size + 1) #[.int .i64 0, .slice none 0 0] 79) := (o3.block _ (by have hz := HB4.out.size; simp at hz ⊢; omega) (fun q => by have := HS.out _ q; omega)).trans (LIVE.out _ (by have hp := HB4.out; repeat' (first | with_reducible assumption | with_reducible exact Below.refl _ _ | with_reducible apply Below.drew | with_reducible apply below_drewN | with_reducible apply Below.setCell | with_reducible apply Below.alloc | omega | (simp; done) | (simp; omega)))).rb; have z1_5 : w.heap.size + 1 < w5.heap.size := RB5.out.lt; clear o1 o2 o3) | (go_at_call 81; refine (ok_any none 0 0 _).mono ?_; rintro e w6 ⟨rfl, HQ⟩; have HQ6 : Hid (Below w5.heap.size w5 w6) := HQ; have RB6 : Blk w6 (w.heap.size + 1) #[.int .i64 0, .slice none 0 0] 79 := (HQ.block _ z1_5).trans RB5.out; clear HQ; have HR6 : Hid (Blk w6 (w.heap.size + 1) #[.int .i64 0, .slice none 0 0] 79) := RB6; have r0_6 : w6.cell? ⟨w.heap.size + 1, 0, none⟩ = some (.int .i64 0) := RB6.cell 0; have r1_6 : w6.cell? ⟨w.heap.size + 1, 1, none⟩ = some (.slice none 0 0) := RB6.cell 1; have g0_6 : w6.frozen? ⟨w.heap.size + 1, 0, none⟩ = false := RB6.frozen 0; have g1_6 : w6.frozen? ⟨w.heap.size + 1, 1, none⟩ = false := RB6.frozen 1; clear RB6))
    obtain ⟨kk0, kk1⟩ := two_set HR6.out (.int .i64 0) (.slice none 0 0)
    obtain ⟨Wc, hc1, hc2, hc3, hc4⟩ := HG.out
    have hfin := res_new HS.out hc1 hc2 HA.out hc3 hc4 HQ6.out okA rfl (.slice none 0 0) (fun _ _ _ => rd_nil _ _ _ _)
    exact bodyPost_ret (v := .agg #[.int .i64 0, .slice none 0 0]) (by simp [results, Tryz.results64, go_sem, kk0, kk1]) rfl hfin)

theorem take_any (w : World) (x : Nat) (S : Nat → Prop) (s : Bk) (l : Ln) (hI : Inv s) (hL : LnOk l) (h : BkAt w x S s) : Calls Tryz.prog 64 #[.pointer (some ⟨x, 0, none⟩), .agg (lnC l)] w (Res w x S (doTake s l)) := by
  unfold doTake
  rcases fi_cases (spansH l.d 32) s.nets hd0 with ⟨e, _⟩ | ⟨k, hk, e, hp, _⟩
  · have e1 : spanH s.nets l.d 32 = -1 := e
    rw [if_pos (by rw [e1]; decide)]; exact take_none w x S s l hI hL h e1
  · have e1 : spanH s.nets l.d 32 = k := e
    have e2 : (spanH s.nets l.d 32).toNat = k := by rw [e1]; omega
    rw [if_neg (by rw [e1]; omega), e2]
    by_cases h2 : l.d < useA (s.nets.getD k hd0).a (s.nets.getD k hd0).n ∨ useZ (s.nets.getD k hd0).a (s.nets.getD k hd0).n < l.d
    · rw [if_pos h2]; exact take_addr w x S s l hI hL h k _ hk e1 rfl _ _ rfl rfl h2
    · rw [if_neg h2]
      have n1 : ¬ l.d < useA (s.nets.getD k hd0).a (s.nets.getD k hd0).n := fun q => h2 (.inl q)
      have n2 : ¬ useZ (s.nets.getD k hd0).a (s.nets.getD k hd0).n < l.d := fun q => h2 (.inr q)
      by_cases h4 : hasL s.leases l.d = true
      · rw [if_pos h4]; exact take_taken w x S s l hI hL h k _ hk e1 rfl _ _ rfl rfl n1 n2 h4
      · rw [if_neg h4]
        by_cases h5 : 40 ≤ s.leases.length
        · rw [if_pos h5]; exact take_limit w x S s l hI hL h k _ hk e1 rfl _ _ rfl rfl n1 n2 (by simpa using h4) h5
        · rw [if_neg h5]; exact take_ok w x S s l hI hL h k _ hk e1 rfl _ _ rfl rfl n1 n2 (by simpa using h4) h5
end Go.Proofs.YtlikdnmikdldfaaGreatDoor
