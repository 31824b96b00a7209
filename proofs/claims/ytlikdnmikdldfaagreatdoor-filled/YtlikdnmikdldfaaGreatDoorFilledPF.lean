/-
  BkMg, BkMb, TextCodeD, TextCodeE, BkMh, BkN, BkO
-/
import Derived.Laws.OwnMore
import Derived.Test.YtlikdnmikdldfaaGreatDoorFilledPE
namespace Go.Proofs.YtlikdnmikdldfaaGreatDoor
open Go.ChangeShapes Go.WideShapes Go.ChangeAt Go.RowKit
set_option linter.unusedVariables false
set_option linter.unusedSimpArgs false

set_option maxRecDepth 100000 in
set_option maxHeartbeats 2000000 in
theorem take_none (w : World) (x : Nat) (S : Nat → Prop) (s : Bk) (l : Ln) (hI : Inv s) (hL : LnOk l) (h : BkAt w x S s) (h1 : spanH s.nets l.d 32 = -1) :
    Calls Tryz.prog 64 #[.pointer (some ⟨x, 0, none⟩), .agg (lnC l)] w (Res w x S (s, ref 11)) := by
  obtain ⟨vp, vn, vl, c, B⟩ := h
  have hx := B.blk.lt
  have H : Hid (BkAt w x S s) := ⟨vp, vn, vl, c, B⟩
  have x0 : w.cell? ⟨x, 0, none⟩ = some vp := B.blk.cell 0
  have x1 : w.cell? ⟨x, 1, none⟩ = some vn := B.blk.cell 1
  have x2 : w.cell? ⟨x, 2, none⟩ = some vl := B.blk.cell 2
  have LIVE : Hid (∀ wk, Below (w.heap.size + 2) ((w.alloc (.cells #[.int .i64 l.v, .string l.t, .string l.o, .int .u32 l.a, .int .i64 l.n, .int .u32 l.d, .int .i64 l.g] 74)).alloc (.cells #[.int .i64 0, .slice none 0 0] 79)) wk → Live w wk x vp vn vl l) := live_of l B
  have HBA : Hid (BA w x S vp vn vl c s) := B
  have hxa : ¬ (x = w.heap.size) := by omega
  have hxb : ¬ (w.heap.size = x) := by omega
  have HSP : Hid (∀ Wc, Below w.heap.size w Wc → Calls Tryz.prog 98 #[vn, .agg #[.int .u32 l.d, .int .i64 32]] Wc fun e w' => e = .returned (.int .i64 (spanH s.nets l.d 32)) ∧ Below Wc.heap.size Wc w') := fun Wc hW => fspanS s.nets l.d 32 vn Wc (fun q hq => (hI.na q hq).1) hL.d ((Rd.of_owns (k := 3) (enc := encH) (fun _ => rfl) hd0 B.on).below hW)
  rw [h1] at HSP
  obtain ⟨bn, cn, en, _, _⟩ := owns_slice B.on
  subst en
  clear B
  unfold lnC
  go_enter Tryz.func64, Tryz.ntmps64
  go_wp2
  go_region_held3 (fun w' => w'.cell? ⟨x, 1, none⟩ = some (.slice bn s.nets.length cn) ∧ w'.cell? ⟨w.heap.size, 5, none⟩ = some (.int .u32 l.d)) (go_keep) (first | (go_at_call 99; refine (single_any _ _).mono ?_; rintro e w1 ⟨rfl, HQ⟩; have HB1 : Hid (Below (w.heap.size + 2) ((w.alloc (.cells #[.int .i64 l.v, .string l.t, .string l.o, .int .u32 l.a, .int .i64 l.n, .int .u32 l.d, .int .i64 l.g] 74)).alloc (.cells #[.int .i64 0, .slice none 0 0] 79)) w1) := bstep (by repeat' (first | with_reducible assumption | with_reducible exact Below.refl _ _ | with_reducible apply Below.drew | with_reducible apply below_drewN | with_reducible apply Below.setCell | with_reducible apply Below.alloc | omega | (simp; done) | (simp; omega))) (by simp) HQ; clear HQ; have HW1 : Hid (Below w.heap.size w w1) := (w0_below w l).trans (HB1.out.mono (by omega)); have LV1 := LIVE.out w1 HB1.out; have x1_1 := LV1.x1; have d_1 := LV1.d; have z0_1 := LV1.z0; have z1_1 := LV1.z1; clear LV1) | (go_at_call 98; refine (HSP.out _ (by have hp := HW1.out; repeat' (first | with_reducible assumption | with_reducible exact Below.refl _ _ | with_reducible apply Below.drew | with_reducible apply below_drewN | with_reducible apply Below.setCell | with_reducible apply Below.alloc | omega | (simp; done) | (simp; omega)))).mono ?_; rintro e w2 ⟨rfl, HQ⟩; have HB2 : Hid (Below (w.heap.size + 2) ((w.alloc (.cells #[.int .i64 l.v, .string l.t, .string l.o, .int .u32 l.a, .int .i64 l.n, .int .u32 l.d, .int .i64 l.g] 74)).alloc (.cells #[.int .i64 0, .slice none 0 0] 79)) w2) := bstep (by have hp := HB1.out; repeat' (first | with_reducible assumption | with_reducible exact Below.refl _ _ | with_reducible apply Below.drew | with_reducible apply below_drewN | with_reducible apply Below.setCell | with_reducible apply Below.alloc | omega | (simp; done) | (simp; omega))) (by simp) HQ; clear HQ; have HW2 : Hid (Below w.heap.size w w2) := (w0_below w l).trans (HB2.out.mono (by omega)); have LV2 := LIVE.out w2 HB2.out; have x1_2 := LV2.x1; have x2_2 := LV2.x2; have d_2 := LV2.d; have o_2 := LV2.o; have zx_2 := LV2.zx; have z0_2 := LV2.z0; have z1_2 := LV2.z1; have r0_2 := LV2.r0; have r1_2 := LV2.r1; have g0_2 := LV2.g0; have g1_2 := LV2.g1; clear LV2))
  all_goals (
    go_wp2_with (go_at_call 31; refine (refuse_any 11 _).mono ?_; rintro e w9 ⟨rfl, HQ⟩; have HB9 : Hid (Below (w.heap.size + 2) ((w.alloc (.cells #[.int .i64 l.v, .string l.t, .string l.o, .int .u32 l.a, .int .i64 l.n, .int .u32 l.d, .int .i64 l.g] 74)).alloc (.cells #[.int .i64 0, .slice none 0 0] 79)) w9) := bstep (by have hp := HB2.out; repeat' (first | with_reducible assumption | with_reducible exact Below.refl _ _ | with_reducible apply Below.drew | with_reducible apply below_drewN | with_reducible apply Below.setCell | with_reducible apply Below.alloc | omega | (simp; done) | (simp; omega))) (by simp) HQ; clear HQ; have HW9 : Hid (Below w.heap.size w w9) := (w0_below w l).trans (HB9.out.mono (by omega)); have LV9 := LIVE.out w9 HB9.out; have r0_9 := LV9.r0; have r1_9 := LV9.r1; have g0_9 := LV9.g0; have g1_9 := LV9.g1; have z1_9 := LV9.z1; clear LV9)
    have hR := (LIVE.out w9 HB9.out).rb
    obtain ⟨kk0, kk1⟩ := two_set hR (.int .i64 11) (.slice none 0 0)
    have hfin := res_ref (l := l) 11 H.out HB9.out
    exact bodyPost_ret (v := .agg #[.int .i64 11, .slice none 0 0]) (by simp [results, Tryz.results64, go_sem, kk0, kk1]) rfl hfin)

set_option maxRecDepth 100000 in
set_option maxHeartbeats 2000000 in
theorem take_addr (w : World) (x : Nat) (S : Nat → Prop) (s : Bk) (l : Ln) (hI : Inv s) (hL : LnOk l) (h : BkAt w x S s) (k : Nat) (q : Hd) (hk : k < s.nets.length) (h1 : spanH s.nets l.d 32 = k) (hq : s.nets.getD k hd0 = q) (ua uz : Int) (hua : useA q.a q.n = ua) (huz : useZ q.a q.n = uz) (h2 : l.d < ua ∨ uz < l.d) :
    Calls Tryz.prog 64 #[.pointer (some ⟨x, 0, none⟩), .agg (lnC l)] w (Res w x S (s, ref 12)) := by
  obtain ⟨vp, vn, vl, c, B⟩ := h
  have hx := B.blk.lt
  have H : Hid (BkAt w x S s) := ⟨vp, vn, vl, c, B⟩
  have x0 : w.cell? ⟨x, 0, none⟩ = some vp := B.blk.cell 0
  have x1 : w.cell? ⟨x, 1, none⟩ = some vn := B.blk.cell 1
  have x2 : w.cell? ⟨x, 2, none⟩ = some vl := B.blk.cell 2
  have LIVE : Hid (∀ wk, Below (w.heap.size + 2) ((w.alloc (.cells #[.int .i64 l.v, .string l.t, .string l.o, .int .u32 l.a, .int .i64 l.n, .int .u32 l.d, .int .i64 l.g] 74)).alloc (.cells #[.int .i64 0, .slice none 0 0] 79)) wk → Live w wk x vp vn vl l) := live_of l B
  have HBA : Hid (BA w x S vp vn vl c s) := B
  have hxa : ¬ (x = w.heap.size) := by omega
  have hxb : ¬ (w.heap.size = x) := by omega
  have HSP : Hid (∀ Wc, Below w.heap.size w Wc → Calls Tryz.prog 98 #[vn, .agg #[.int .u32 l.d, .int .i64 32]] Wc fun e w' => e = .returned (.int .i64 (spanH s.nets l.d 32)) ∧ Below Wc.heap.size Wc w') := fun Wc hW => fspanS s.nets l.d 32 vn Wc (fun q hq => (hI.na q hq).1) hL.d ((Rd.of_owns (k := 3) (enc := encH) (fun _ => rfl) hd0 B.on).below hW)
  rw [h1] at HSP
  have hkk : ∀ q : Hd, (encH q).length = 3 := fun _ => rfl
  have hqm : q ∈ s.nets := by rw [← hq]; exact getD_mem s.nets hd0 k hk
  have hqi := hI.na q hqm
  have hrd := Rd.of_owns hkk hd0 B.on
  obtain ⟨bq, cq, ev, hq1, hq2, hq3⟩ := hrd
  obtain ⟨gq, rfl, hq4, hq5⟩ := hq3 (by intro e; rw [e] at hk; simp at hk)
  have hk5 := hq5 k hk
  rw [hq] at hk5
  have ROW : Hid (∀ wk, Below w.heap.size w wk → wk.cell? ⟨gq, k * 3, none⟩ = some (.int .u32 q.a) ∧ wk.cell? ⟨gq, k * 3 + 1, none⟩ = some (.int .i64 q.n) ∧ wk.cell? ⟨gq, k * 3 + 2, none⟩ = some (.string q.o)) := fun wk hw =>
    ⟨(hw.cell (p := ⟨gq, k * 3, none⟩) hq4).trans (hk5 0 _ rfl), (hw.cell (p := ⟨gq, k * 3 + 1, none⟩) hq4).trans (hk5 1 _ rfl), (hw.cell (p := ⟨gq, k * 3 + 2, none⟩) hq4).trans (hk5 2 _ rfl)⟩
  have hkz : (k : Int) < (s.nets.length : Int) := by omega
  have hkn : ¬ ((k : Int) < 0) := by omega
  have hk0 : (0 : Int) ≤ (k : Int) := by omega
  have HUS : Hid (∀ Wc : World, Calls Tryz.prog 100 #[.agg #[.int .u32 q.a, .int .i64 q.n, .string q.o]] Wc fun e w' => e = .returned (.tuple #[.int .u32 ua, .int .u32 uz]) ∧ Below Wc.heap.size Wc w') := fun Wc => by rw [← hua, ← huz]; exact usable_any q Wc hqi.1 hqi.2.1
  clear hq1 hq2 hq5 hk5 hq hqm hqi
  subst ev
  clear hua huz
  clear B
  unfold lnC
  go_enter Tryz.func64, Tryz.ntmps64
  go_wp2
  go_region_held3 (fun w' => w'.cell? ⟨x, 1, none⟩ = some (.slice (some ⟨gq, 0, none⟩) s.nets.length cq) ∧ w'.cell? ⟨w.heap.size, 5, none⟩ = some (.int .u32 l.d)) (go_keep) (first | (go_at_call 99; refine (single_any _ _).mono ?_; rintro e w1 ⟨rfl, HQ⟩; have HB1 : Hid (Below (w.heap.size + 2) ((w.alloc (.cells #[.int .i64 l.v, .string l.t, .string l.o, .int .u32 l.a, .int .i64 l.n, .int .u32 l.d, .int .i64 l.g] 74)).alloc (.cells #[.int .i64 0, .slice none 0 0] 79)) w1) := bstep (by repeat' (first | with_reducible assumption | with_reducible exact Below.refl _ _ | with_reducible apply Below.drew | with_reducible apply below_drewN | with_reducible apply Below.setCell | with_reducible apply Below.alloc | omega | (simp; done) | (simp; omega))) (by simp) HQ; clear HQ; have HW1 : Hid (Below w.heap.size w w1) := (w0_below w l).trans (HB1.out.mono (by omega)); have LV1 := LIVE.out w1 HB1.out; have x1_1 := LV1.x1; have d_1 := LV1.d; have z0_1 := LV1.z0; have z1_1 := LV1.z1; clear LV1) | (go_at_call 98; refine (HSP.out _ (by have hp := HW1.out; repeat' (first | with_reducible assumption | with_reducible exact Below.refl _ _ | with_reducible apply Below.drew | with_reducible apply below_drewN | with_reducible apply Below.setCell | with_reducible apply Below.alloc | omega | (simp; done) | (simp; omega)))).mono ?_; rintro e w2 ⟨rfl, HQ⟩; have HB2 : Hid (Below (w.heap.size + 2) ((w.alloc (.cells #[.int .i64 l.v, .string l.t, .string l.o, .int .u32 l.a, .int .i64 l.n, .int .u32 l.d, .int .i64 l.g] 74)).alloc (.cells #[.int .i64 0, .slice none 0 0] 79)) w2) := bstep (by have hp := HB1.out; repeat' (first | with_reducible assumption | with_reducible exact Below.refl _ _ | with_reducible apply Below.drew | with_reducible apply below_drewN | with_reducible apply Below.setCell | with_reducible apply Below.alloc | omega | (simp; done) | (simp; omega))) (by simp) HQ; clear HQ; have HW2 : Hid (Below w.heap.size w w2) := (w0_below w l).trans (HB2.out.mono (by omega)); have LV2 := LIVE.out w2 HB2.out; have x1_2 := LV2.x1; have x2_2 := LV2.x2; have d_2 := LV2.d; have o_2 := LV2.o; have zx_2 := LV2.zx; have z0_2 := LV2.z0; have z1_2 := LV2.z1; have r0_2 := LV2.r0; have r1_2 := LV2.r1; have g0_2 := LV2.g0; have g1_2 := LV2.g1; obtain ⟨e0_2, e1_2, e2_2⟩ := ROW.out w2 HW2.out; clear LV2))
  all_goals (
    by_cases h3 : l.d < ua
    · go_wp2_with (first | (go_at_call 100; refine (HUS.out _).mono ?_; rintro e w3 ⟨rfl, HQ⟩; have HB3 : Hid (Below (w.heap.size + 2) ((w.alloc (.cells #[.int .i64 l.v, .string l.t, .string l.o, .int .u32 l.a, .int .i64 l.n, .int .u32 l.d, .int .i64 l.g] 74)).alloc (.cells #[.int .i64 0, .slice none 0 0] 79)) w3) := bstep (by have hp := HB2.out; repeat' (first | with_reducible assumption | with_reducible exact Below.refl _ _ | with_reducible apply Below.drew | with_reducible apply below_drewN | with_reducible apply Below.setCell | with_reducible apply Below.alloc | omega | (simp; done) | (simp; omega))) (by simp) HQ; clear HQ; have HW3 : Hid (Below w.heap.size w w3) := (w0_below w l).trans (HB3.out.mono (by omega)); have LV3 := LIVE.out w3 HB3.out; have x2_3 := LV3.x2; have d_3 := LV3.d; have o_3 := LV3.o; have zx_3 := LV3.zx; have z0_3 := LV3.z0; have z1_3 := LV3.z1; have r0_3 := LV3.r0; have r1_3 := LV3.r1; have g0_3 := LV3.g0; have g1_3 := LV3.g1; clear LV3) | (go_at_call 31; refine (refuse_any 12 _).mono ?_; rintro e w9 ⟨rfl, HQ⟩; have HB9 : Hid (Below (w.heap.size + 2) ((w.alloc (.cells #[.int .i64 l.v, .string l.t, .string l.o, .int .u32 l.a, .int .i64 l.n, .int .u32 l.d, .int .i64 l.g] 74)).alloc (.cells #[.int .i64 0, .slice none 0 0] 79)) w9) := bstep (by have hp := HB3.out; repeat' (first | with_reducible assumption | with_reducible exact Below.refl _ _ | with_reducible apply Below.drew | with_reducible apply below_drewN | with_reducible apply Below.setCell | with_reducible apply Below.alloc | omega | (simp; done) | (simp; omega))) (by simp) HQ; clear HQ; have HW9 : Hid (Below w.heap.size w w9) := (w0_below w l).trans (HB9.out.mono (by omega)); have LV9 := LIVE.out w9 HB9.out; have r0_9 := LV9.r0; have r1_9 := LV9.r1; have g0_9 := LV9.g0; have g1_9 := LV9.g1; have z1_9 := LV9.z1; clear LV9))
      have hR := (LIVE.out w9 HB9.out).rb
      obtain ⟨kk0, kk1⟩ := two_set hR (.int .i64 12) (.slice none 0 0)
      have hfin := res_ref (l := l) 12 H.out HB9.out
      exact bodyPost_ret (v := .agg #[.int .i64 12, .slice none 0 0]) (by simp [results, Tryz.results64, go_sem, kk0, kk1]) rfl hfin
    · have h4 : uz < l.d := by omega
      go_wp2_with (first | (go_at_call 100; refine (HUS.out _).mono ?_; rintro e w3 ⟨rfl, HQ⟩; have HB3 : Hid (Below (w.heap.size + 2) ((w.alloc (.cells #[.int .i64 l.v, .string l.t, .string l.o, .int .u32 l.a, .int .i64 l.n, .int .u32 l.d, .int .i64 l.g] 74)).alloc (.cells #[.int .i64 0, .slice none 0 0] 79)) w3) := bstep (by have hp := HB2.out; repeat' (first | with_reducible assumption | with_reducible exact Below.refl _ _ | with_reducible apply Below.drew | with_reducible apply below_drewN | with_reducible apply Below.setCell | with_reducible apply Below.alloc | omega | (simp; done) | (simp; omega))) (by simp) HQ; clear HQ; have HW3 : Hid (Below w.heap.size w w3) := (w0_below w l).trans (HB3.out.mono (by omega)); have LV3 := LIVE.out w3 HB3.out; have x2_3 := LV3.x2; have d_3 := LV3.d; have o_3 := LV3.o; have zx_3 := LV3.zx; have z0_3 := LV3.z0; have z1_3 := LV3.z1; have r0_3 := LV3.r0; have r1_3 := LV3.r1; have g0_3 := LV3.g0; have g1_3 := LV3.g1; clear LV3) | (go_at_call 31; refine (refuse_any 12 _).mono ?_; rintro e w9 ⟨rfl, HQ⟩; have HB9 : Hid (Below (w.heap.size + 2) ((w.alloc (.cells #[.int .i64 l.v, .string l.t, .string l.o, .int .u32 l.a, .int .i64 l.n, .int .u32 l.d, .int .i64 l.g] 74)).alloc (.cells #[.int .i64 0, .slice none 0 0] 79)) w9) := bstep (by have hp := HB3.out; repeat' (first | with_reducible assumption | with_reducible exact Below.refl _ _ | with_reducible apply Below.drew | with_reducible apply below_drewN | with_reducible apply Below.setCell | with_reducible apply Below.alloc | omega | (simp; done) | (simp; omega))) (by simp) HQ; clear HQ; have HW9 : Hid (Below w.heap.size w w9) := (w0_below w l).trans (HB9.out.mono (by omega)); have LV9 := LIVE.out w9 HB9.out; have r0_9 := LV9.r0; have r1_9 := LV9.r1; have g0_9 := LV9.g0; have g1_9 := LV9.g1; have z1_9 := LV9.z1; clear LV9))
      have hR := (LIVE.out w9 HB9.out).rb
      obtain ⟨kk0, kk1⟩ := two_set hR (.int .i64 12) (.slice none 0 0)
      have hfin := res_ref (l := l) 12 H.out HB9.out
      exact bodyPost_ret (v := .agg #[.int .i64 12, .slice none 0 0]) (by simp [results, Tryz.results64, go_sem, kk0, kk1]) rfl hfin)

set_option maxRecDepth 100000 in
set_option maxHeartbeats 2000000 in
theorem take_taken (w : World) (x : Nat) (S : Nat → Prop) (s : Bk) (l : Ln) (hI : Inv s) (hL : LnOk l) (h : BkAt w x S s) (k : Nat) (q : Hd) (hk : k < s.nets.length) (h1 : spanH s.nets l.d 32 = k) (hq : s.nets.getD k hd0 = q) (ua uz : Int) (hua : useA q.a q.n = ua) (huz : useZ q.a q.n = uz) (h2 : ¬ l.d < ua) (h3 : ¬ uz < l.d) (h4 : hasL s.leases l.d = true) :
    Calls Tryz.prog 64 #[.pointer (some ⟨x, 0, none⟩), .agg (lnC l)] w (Res w x S (s, ref 13)) := by
  obtain ⟨vp, vn, vl, c, B⟩ := h
  have hx := B.blk.lt
  have H : Hid (BkAt w x S s) := ⟨vp, vn, vl, c, B⟩
  have x0 : w.cell? ⟨x, 0, none⟩ = some vp := B.blk.cell 0
  have x1 : w.cell? ⟨x, 1, none⟩ = some vn := B.blk.cell 1
  have x2 : w.cell? ⟨x, 2, none⟩ = some vl := B.blk.cell 2
  have LIVE : Hid (∀ wk, Below (w.heap.size + 2) ((w.alloc (.cells #[.int .i64 l.v, .string l.t, .string l.o, .int .u32 l.a, .int .i64 l.n, .int .u32 l.d, .int .i64 l.g] 74)).alloc (.cells #[.int .i64 0, .slice none 0 0] 79)) wk → Live w wk x vp vn vl l) := live_of l B
  have HBA : Hid (BA w x S vp vn vl c s) := B
  have hxa : ¬ (x = w.heap.size) := by omega
  have hxb : ¬ (w.heap.size = x) := by omega
  have HSP : Hid (∀ Wc, Below w.heap.size w Wc → Calls Tryz.prog 98 #[vn, .agg #[.int .u32 l.d, .int .i64 32]] Wc fun e w' => e = .returned (.int .i64 (spanH s.nets l.d 32)) ∧ Below Wc.heap.size Wc w') := fun Wc hW => fspanS s.nets l.d 32 vn Wc (fun q hq => (hI.na q hq).1) hL.d ((Rd.of_owns (k := 3) (enc := encH) (fun _ => rfl) hd0 B.on).below hW)
  rw [h1] at HSP
  have HF : Hid (∀ Wc, Below w.heap.size w Wc → Calls Tryz.prog 101 #[.pointer (some ⟨x, 0, none⟩), .int .u32 l.d] Wc fun e w' => e = .returned (.tuple #[.int .i64 (cntL s.leases l.d : Nat), .bool (hasL s.leases l.d)]) ∧ Below Wc.heap.size Wc w') := fun Wc hW => findL_any x s.leases l.d vl Wc ((hW.cell (p := ⟨x, 2, none⟩) hx).trans x2) ((Rd.of_owns (k := 2) (enc := encL) (fun _ => rfl) ls0 B.ol).below hW) (by have := hI.l; omega) hI.lu
  rw [h4] at HF
  have hkk : ∀ q : Hd, (encH q).length = 3 := fun _ => rfl
  have hqm : q ∈ s.nets := by rw [← hq]; exact getD_mem s.nets hd0 k hk
  have hqi := hI.na q hqm
  have hrd := Rd.of_owns hkk hd0 B.on
  obtain ⟨bq, cq, ev, hq1, hq2, hq3⟩ := hrd
  obtain ⟨gq, rfl, hq4, hq5⟩ := hq3 (by intro e; rw [e] at hk; simp at hk)
  have hk5 := hq5 k hk
  rw [hq] at hk5
  have ROW : Hid (∀ wk, Below w.heap.size w wk → wk.cell? ⟨gq, k * 3, none⟩ = some (.int .u32 q.a) ∧ wk.cell? ⟨gq, k * 3 + 1, none⟩ = some (.int .i64 q.n) ∧ wk.cell? ⟨gq, k * 3 + 2, none⟩ = some (.string q.o)) := fun wk hw =>
    ⟨(hw.cell (p := ⟨gq, k * 3, none⟩) hq4).trans (hk5 0 _ rfl), (hw.cell (p := ⟨gq, k * 3 + 1, none⟩) hq4).trans (hk5 1 _ rfl), (hw.cell (p := ⟨gq, k * 3 + 2, none⟩) hq4).trans (hk5 2 _ rfl)⟩
  have hkz : (k : Int) < (s.nets.length : Int) := by omega
  have hkn : ¬ ((k : Int) < 0) := by omega
  have hk0 : (0 : Int) ≤ (k : Int) := by omega
  have HUS : Hid (∀ Wc : World, Calls Tryz.prog 100 #[.agg #[.int .u32 q.a, .int .i64 q.n, .string q.o]] Wc fun e w' => e = .returned (.tuple #[.int .u32 ua, .int .u32 uz]) ∧ Below Wc.heap.size Wc w') := fun Wc => by rw [← hua, ← huz]; exact usable_any q Wc hqi.1 hqi.2.1
  clear hq1 hq2 hq5 hk5 hq hqm hqi
  subst ev
  clear hua huz
  obtain ⟨bl, cl, el, _, _⟩ := owns_slice B.ol
  subst el
  clear B
  unfold lnC
  go_enter Tryz.func64, Tryz.ntmps64
  go_wp2
  go_region_held3 (fun w' => w'.cell? ⟨x, 1, none⟩ = some (.slice (some ⟨gq, 0, none⟩) s.nets.length cq) ∧ w'.cell? ⟨w.heap.size, 5, none⟩ = some (.int .u32 l.d)) (go_keep) (first | (go_at_call 99; refine (single_any _ _).mono ?_; rintro e w1 ⟨rfl, HQ⟩; have HB1 : Hid (Below (w.heap.size + 2) ((w.alloc (.cells #[.int .i64 l.v, .string l.t, .string l.o, .int .u32 l.a, .int .i64 l.n, .int .u32 l.d, .int .i64 l.g] 74)).alloc (.cells #[.int .i64 0, .slice none 0 0] 79)) w1) := bstep (by repeat' (first | with_reducible assumption | with_reducible exact Below.refl _ _ | with_reducible apply Below.drew | with_reducible apply below_drewN | with_reducible apply Below.setCell | with_reducible apply Below.alloc | omega | (simp; done) | (simp; omega))) (by simp) HQ; clear HQ; have HW1 : Hid (Below w.heap.size w w1) := (w0_below w l).trans (HB1.out.mono (by omega)); have LV1 := LIVE.out w1 HB1.out; have x1_1 := LV1.x1; have d_1 := LV1.d; have z0_1 := LV1.z0; have z1_1 := LV1.z1; clear LV1) | (go_at_call 98; refine (HSP.out _ (by have hp := HW1.out; repeat' (first | with_reducible assumption | with_reducible exact Below.refl _ _ | with_reducible apply Below.drew | with_reducible apply below_drewN | with_reducible apply Below.setCell | with_reducible apply Below.alloc | omega | (simp; done) | (simp; omega)))).mono ?_; rintro e w2 ⟨rfl, HQ⟩; have HB2 : Hid (Below (w.heap.size + 2) ((w.alloc (.cells #[.int .i64 l.v, .string l.t, .string l.o, .int .u32 l.a, .int .i64 l.n, .int .u32 l.d, .int .i64 l.g] 74)).alloc (.cells #[.int .i64 0, .slice none 0 0] 79)) w2) := bstep (by have hp := HB1.out; repeat' (first | with_reducible assumption | with_reducible exact Below.refl _ _ | with_reducible apply Below.drew | with_reducible apply below_drewN | with_reducible apply Below.setCell | with_reducible apply Below.alloc | omega | (simp; done) | (simp; omega))) (by simp) HQ; clear HQ; have HW2 : Hid (Below w.heap.size w w2) := (w0_below w l).trans (HB2.out.mono (by omega)); have LV2 := LIVE.out w2 HB2.out; have x1_2 := LV2.x1; have x2_2 := LV2.x2; have d_2 := LV2.d; have o_2 := LV2.o; have zx_2 := LV2.zx; have z0_2 := LV2.z0; have z1_2 := LV2.z1; have r0_2 := LV2.r0; have r1_2 := LV2.r1; have g0_2 := LV2.g0; have g1_2 := LV2.g1; obtain ⟨e0_2, e1_2, e2_2⟩ := ROW.out w2 HW2.out; clear LV2))
  all_goals (
    go_wp2_with (first | (go_at_call 100; refine (HUS.out _).mono ?_; rintro e w3 ⟨rfl, HQ⟩; have HB3 : Hid (Below (w.heap.size + 2) ((w.alloc (.cells #[.int .i64 l.v, .string l.t, .string l.o, .int .u32 l.a, .int .i64 l.n, .int .u32 l.d, .int .i64 l.g] 74)).alloc (.cells #[.int .i64 0, .slice none 0 0] 79)) w3) := bstep (by have hp := HB2.out; repeat' (first | with_reducible assumption | with_reducible exact Below.refl _ _ | with_reducible apply Below.drew | with_reducible apply below_drewN | with_reducible apply Below.setCell | with_reducible apply Below.alloc | omega | (simp; done) | (simp; omega))) (by simp) HQ; clear HQ; have HW3 : Hid (Below w.heap.size w w3) := (w0_below w l).trans (HB3.out.mono (by omega)); have LV3 := LIVE.out w3 HB3.out; have x2_3 := LV3.x2; have d_3 := LV3.d; have o_3 := LV3.o; have zx_3 := LV3.zx; have z0_3 := LV3.z0; have z1_3 := LV3.z1; have r0_3 := LV3.r0; have r1_3 := LV3.r1; have g0_3 := LV3.g0; have g1_3 := LV3.g1; clear LV3) | (go_at_call 101; refine (HF.out _ (by have hp := HW3.out; repeat' (first | with_reducible assumption | with_reducible exact Below.refl _ _ | with_reducible apply Below.drew | with_reducible apply below_drewN | with_reducible apply Below.setCell | with_reducible apply Below.alloc | omega | (simp; done) | (simp; omega)))).mono ?_; rintro e w4 ⟨rfl, HQ⟩; have HB4 : Hid (Below (w.heap.size + 2) ((w.alloc (.cells #[.int .i64 l.v, .string l.t, .string l.o, .int .u32 l.a, .int .i64 l.n, .int .u32 l.d, .int .i64 l.g] 74)).alloc (.cells #[.int .i64 0, .slice none 0 0] 79)) w4) := bstep (by have hp := HB3.out; repeat' (first | with_reducible assumption | with_reducible exact Below.refl _ _ | with_reducible apply Below.drew | with_reducible apply below_drewN | with_reducible apply Below.setCell | with_reducible apply Below.alloc | omega | (simp; done) | (simp; omega))) (by simp) HQ; clear HQ; have HW4 : Hid (Below w.heap.size w w4) := (w0_below w l).trans (HB4.out.mono (by omega)); have LV4 := LIVE.out w4 HB4.out; have x2_4 := LV4.x2; have d_4 := LV4.d; have o_4 := LV4.o; have zx_4 := LV4.zx; have z0_4 := LV4.z0; have z1_4 := LV4.z1; have r0_4 := LV4.r0; have r1_4 := LV4.r1; have g0_4 := LV4.g0; have g1_4 := LV4.g1; clear LV4) | (go_at_call 31; refine (refuse_any 13 _).mono ?_; rintro e w9 ⟨rfl, HQ⟩; have HB9 : Hid (Below (w.heap.size + 2) ((w.alloc (.cells #[.int .i64 l.v, .string l.t, .string l.o, .int .u32 l.a, .int .i64 l.n, .int .u32 l.d, .int .i64 l.g] 74)).alloc (.cells #[.int .i64 0, .slice none 0 0] 79)) w9) := bstep (by have hp := HB4.out; repeat' (first | with_reducible assumption | with_reducible exact Below.refl _ _ | with_reducible apply Below.drew | with_reducible apply below_drewN | with_reducible apply Below.setCell | with_reducible apply Below.alloc | omega | (simp; done) | (simp; omega))) (by simp) HQ; clear HQ; have HW9 : Hid (Below w.heap.size w w9) := (w0_below w l).trans (HB9.out.mono (by omega)); have LV9 := LIVE.out w9 HB9.out; have r0_9 := LV9.r0; have r1_9 := LV9.r1; have g0_9 := LV9.g0; have g1_9 := LV9.g1; have z1_9 := LV9.z1; clear LV9))
    have hR := (LIVE.out w9 HB9.out).rb
    obtain ⟨kk0, kk1⟩ := two_set hR (.int .i64 13) (.slice none 0 0)
    have hfin := res_ref (l := l) 13 H.out HB9.out
    exact bodyPost_ret (v := .agg #[.int .i64 13, .slice none 0 0]) (by simp [results, Tryz.results64, go_sem, kk0, kk1]) rfl hfin)

set_option maxRecDepth 100000 in
set_option maxHeartbeats 2000000 in
theorem take_limit (w : World) (x : Nat) (S : Nat → Prop) (s : Bk) (l : Ln) (hI : Inv s) (hL : LnOk l) (h : BkAt w x S s) (k : Nat) (q : Hd) (hk : k < s.nets.length) (h1 : spanH s.nets l.d 32 = k) (hq : s.nets.getD k hd0 = q) (ua uz : Int) (hua : useA q.a q.n = ua) (huz : useZ q.a q.n = uz) (h2 : ¬ l.d < ua) (h3 : ¬ uz < l.d) (h4 : hasL s.leases l.d = false) (h5 : 40 ≤ s.leases.length) :
    Calls Tryz.prog 64 #[.pointer (some ⟨x, 0, none⟩), .agg (lnC l)] w (Res w x S (s, ref 6)) := by
  obtain ⟨vp, vn, vl, c, B⟩ := h
  have hx := B.blk.lt
  have H : Hid (BkAt w x S s) := ⟨vp, vn, vl, c, B⟩
  have x0 : w.cell? ⟨x, 0, none⟩ = some vp := B.blk.cell 0
  have x1 : w.cell? ⟨x, 1, none⟩ = some vn := B.blk.cell 1
  have x2 : w.cell? ⟨x, 2, none⟩ = some vl := B.blk.cell 2
  have LIVE : Hid (∀ wk, Below (w.heap.size + 2) ((w.alloc (.cells #[.int .i64 l.v, .string l.t, .string l.o, .int .u32 l.a, .int .i64 l.n, .int .u32 l.d, .int .i64 l.g] 74)).alloc (.cells #[.int .i64 0, .slice none 0 0] 79)) wk → Live w wk x vp vn vl l) := live_of l B
  have HBA : Hid (BA w x S vp vn vl c s) := B
  have hxa : ¬ (x = w.heap.size) := by omega
  have hxb : ¬ (w.heap.size = x) := by omega
  have HSP : Hid (∀ Wc, Below w.heap.size w Wc → Calls Tryz.prog 98 #[vn, .agg #[.int .u32 l.d, .int .i64 32]] Wc fun e w' => e = .returned (.int .i64 (spanH s.nets l.d 32)) ∧ Below Wc.heap.size Wc w') := fun Wc hW => fspanS s.nets l.d 32 vn Wc (fun q hq => (hI.na q hq).1) hL.d ((Rd.of_owns (k := 3) (enc := encH) (fun _ => rfl) hd0 B.on).below hW)
  rw [h1] at HSP
  have HF : Hid (∀ Wc, Below w.heap.size w Wc → Calls Tryz.prog 101 #[.pointer (some ⟨x, 0, none⟩), .int .u32 l.d] Wc fun e w' => e = .returned (.tuple #[.int .i64 (cntL s.leases l.d : Nat), .bool (hasL s.leases l.d)]) ∧ Below Wc.heap.size Wc w') := fun Wc hW => findL_any x s.leases l.d vl Wc ((hW.cell (p := ⟨x, 2, none⟩) hx).trans x2) ((Rd.of_owns (k := 2) (enc := encL) (fun _ => rfl) ls0 B.ol).below hW) (by have := hI.l; omega) hI.lu
  rw [h4] at HF
  have hkk : ∀ q : Hd, (encH q).length = 3 := fun _ => rfl
  have hqm : q ∈ s.nets := by rw [← hq]; exact getD_mem s.nets hd0 k hk
  have hqi := hI.na q hqm
  have hrd := Rd.of_owns hkk hd0 B.on
  obtain ⟨bq, cq, ev, hq1, hq2, hq3⟩ := hrd
  obtain ⟨gq, rfl, hq4, hq5⟩ := hq3 (by intro e; rw [e] at hk; simp at hk)
  have hk5 := hq5 k hk
  rw [hq] at hk5
  have ROW : Hid (∀ wk, Below w.heap.size w wk → wk.cell? ⟨gq, k * 3, none⟩ = some (.int .u32 q.a) ∧ wk.cell? ⟨gq, k * 3 + 1, none⟩ = some (.int .i64 q.n) ∧ wk.cell? ⟨gq, k * 3 + 2, none⟩ = some (.string q.o)) := fun wk hw =>
    ⟨(hw.cell (p := ⟨gq, k * 3, none⟩) hq4).trans (hk5 0 _ rfl), (hw.cell (p := ⟨gq, k * 3 + 1, none⟩) hq4).trans (hk5 1 _ rfl), (hw.cell (p := ⟨gq, k * 3 + 2, none⟩) hq4).trans (hk5 2 _ rfl)⟩
  have hkz : (k : Int) < (s.nets.length : Int) := by omega
  have hkn : ¬ ((k : Int) < 0) := by omega
  have hk0 : (0 : Int) ≤ (k : Int) := by omega
  have HUS : Hid (∀ Wc : World, Calls Tryz.prog 100 #[.agg #[.int .u32 q.a, .int .i64 q.n, .string q.o]] Wc fun e w' => e = .returned (.tuple #[.int .u32 ua, .int .u32 uz]) ∧ Below Wc.heap.size Wc w') := fun Wc => by rw [← hua, ← huz]; exact usable_any q Wc hqi.1 hqi.2.1
  clear hq1 hq2 hq5 hk5 hq hqm hqi
  subst ev
  clear hua huz
  obtain ⟨bl, cl, el, _, _⟩ := owns_slice B.ol
  subst el
  have h6 : (40 : Int) ≤ (s.leases.length : Int) := by omega
  clear B
  unfold lnC
  go_enter Tryz.func64, Tryz.ntmps64
  go_wp2
  go_region_held3 (fun w' => w'.cell? ⟨x, 1, none⟩ = some (.slice (some ⟨gq, 0, none⟩) s.nets.length cq) ∧ w'.cell? ⟨w.heap.size, 5, none⟩ = some (.int .u32 l.d)) (go_keep) (first | (go_at_call 99; refine (single_any _ _).mono ?_; rintro e w1 ⟨rfl, HQ⟩; have HB1 : Hid (Below (w.heap.size + 2) ((w.alloc (.cells #[.int .i64 l.v, .string l.t, .string l.o, .int .u32 l.a, .int .i64 l.n, .int .u32 l.d, .int .i64 l.g] 74)).alloc (.cells #[.int .i64 0, .slice none 0 0] 79)) w1) := bstep (by repeat' (first | with_reducible assumption | with_reducible exact Below.refl _ _ | with_reducible apply Below.drew | with_reducible apply below_drewN | with_reducible apply Below.setCell | with_reducible apply Below.alloc | omega | (simp; done) | (simp; omega))) (by simp) HQ; clear HQ; have HW1 : Hid (Below w.heap.size w w1) := (w0_below w l).trans (HB1.out.mono (by omega)); have LV1 := LIVE.out w1 HB1.out; have x1_1 := LV1.x1; have d_1 := LV1.d; have z0_1 := LV1.z0; have z1_1 := LV1.z1; clear LV1) | (go_at_call 98; refine (HSP.out _ (by have hp := HW1.out; repeat' (first | with_reducible assumption | with_reducible exact Below.refl _ _ | with_reducible apply Below.drew | with_reducible apply below_drewN | with_reducible apply Below.setCell | with_reducible apply Below.alloc | omega | (simp; done) | (simp; omega)))).mono ?_; rintro e w2 ⟨rfl, HQ⟩; have HB2 : Hid (Below (w.heap.size + 2) ((w.alloc (.cells #[.int .i64 l.v, .string l.t, .string l.o, .int .u32 l.a, .int .i64 l.n, .int .u32 l.d, .int .i64 l.g] 74)).alloc (.cells #[.int .i64 0, .slice none 0 0] 79)) w2) := bstep (by have hp := HB1.out; repeat' (first | with_reducible assumption | with_reducible exact Below.refl _ _ | with_reducible apply Below.drew | with_reducible apply below_drewN | with_reducible apply Below.setCell | with_reducible apply Below.alloc | omega | (simp; done) | (simp; omega))) (by simp) HQ; clear HQ; have HW2 : Hid (Below w.heap.size w w2) := (w0_below w l).trans (HB2.out.mono (by omega)); have LV2 := LIVE.out w2 HB2.out; have x1_2 := LV2.x1; have x2_2 := LV2.x2; have d_2 := LV2.d; have o_2 := LV2.o; have zx_2 := LV2.zx; have z0_2 := LV2.z0; have z1_2 := LV2.z1; have r0_2 := LV2.r0; have r1_2 := LV2.r1; have g0_2 := LV2.g0; have g1_2 := LV2.g1; obtain ⟨e0_2, e1_2, e2_2⟩ := ROW.out w2 HW2.out; clear LV2))
  all_goals (
    go_wp2_with (first | (go_at_call 100; refine (HUS.out _).mono ?_; rintro e w3 ⟨rfl, HQ⟩; have HB3 : Hid (Below (w.heap.size + 2) ((w.alloc (.cells #[.int .i64 l.v, .string l.t, .string l.o, .int .u32 l.a, .int .i64 l.n, .int .u32 l.d, .int .i64 l.g] 74)).alloc (.cells #[.int .i64 0, .slice none 0 0] 79)) w3) := bstep (by have hp := HB2.out; repeat' (first | with_reducible assumption | with_reducible exact Below.refl _ _ | with_reducible apply Below.drew | with_reducible apply below_drewN | with_reducible apply Below.setCell | with_reducible apply Below.alloc | omega | (simp; done) | (simp; omega))) (by simp) HQ; clear HQ; have HW3 : Hid (Below w.heap.size w w3) := (w0_below w l).trans (HB3.out.mono (by omega)); have LV3 := LIVE.out w3 HB3.out; have x2_3 := LV3.x2; have d_3 := LV3.d; have o_3 := LV3.o; have zx_3 := LV3.zx; have z0_3 := LV3.z0; have z1_3 := LV3.z1; have r0_3 := LV3.r0; have r1_3 := LV3.r1; have g0_3 := LV3.g0; have g1_3 := LV3.g1; clear LV3) | (go_at_call 101; refine (HF.out _ (by have hp := HW3.out; repeat' (first | with_reducible assumption | with_reducible exact Below.refl _ _ | with_reducible apply Below.drew | with_reducible apply below_drewN | with_reducible apply Below.setCell | with_reducible apply Below.alloc | omega | (simp; done) | (simp; omega)))).mono ?_; rintro e w4 ⟨rfl, HQ⟩; have HB4 : Hid (Below (w.heap.size + 2) ((w.alloc (.cells #[.int .i64 l.v, .string l.t, .string l.o, .int .u32 l.a, .int .i64 l.n, .int .u32 l.d, .int .i64 l.g] 74)).alloc (.cells #[.int .i64 0, .slice none 0 0] 79)) w4) := bstep (by have hp := HB3.out; repeat' (first | with_reducible assumption | with_reducible exact Below.refl _ _ | with_reducible apply Below.drew | with_reducible apply below_drewN | with_reducible apply Below.setCell | with_reducible apply Below.alloc | omega | (simp; done) | (simp; omega))) (by simp) HQ; clear HQ; have HW4 : Hid (Below w.heap.size w w4) := (w0_below w l).trans (HB4.out.mono (by omega)); have LV4 := LIVE.out w4 HB4.out; have x2_4 := LV4.x2; have d_4 := LV4.d; have o_4 := LV4.o; have zx_4 := LV4.zx; have z0_4 := LV4.z0; have z1_4 := LV4.z1; have r0_4 := LV4.r0; have r1_4 := LV4.r1; have g0_4 := LV4.g0; have g1_4 := LV4.g1; clear LV4) | (go_at_call 31; refine (refuse_any 6 _).mono ?_; rintro e w9 ⟨rfl, HQ⟩; have HB9 : Hid (Below (w.heap.size + 2) ((w.alloc (.cells #[.int .i64 l.v, .string l.t, .string l.o, .int .u32 l.a, .int .i64 l.n, .int .u32 l.d, .int .i64 l.g] 74)).alloc (.cells #[.int .i64 0, .slice none 0 0] 79)) w9) := bstep (by have hp := HB4.out; repeat' (first | with_reducible assumption | with_reducible exact Below.refl _ _ | with_reducible apply Below.drew | with_reducible apply below_drewN | with_reducible apply Below.setCell | with_reducible apply Below.alloc | omega | (simp; done) | (simp; omega))) (by simp) HQ; clear HQ; have HW9 : Hid (Below w.heap.size w w9) := (w0_below w l).trans (HB9.out.mono (by omega)); have LV9 := LIVE.out w9 HB9.out; have r0_9 := LV9.r0; have r1_9 := LV9.r1; have g0_9 := LV9.g0; have g1_9 := LV9.g1; have z1_9 := LV9.z1; clear LV9))
    have hR := (LIVE.out w9 HB9.out).rb
    obtain ⟨kk0, kk1⟩ := two_set hR (.int .i64 6) (.slice none 0 0)
    have hfin := res_ref (l := l) 6 H.out HB9.out
    exact bodyPost_ret (v := .agg #[.int .i64 6, .slice none 0 0]) (by simp [results, Tryz.results64, go_sem, kk0, kk1]) rfl hfin)

set_option maxRecDepth 100000 in
set_option maxHeartbeats 2000000 in
theorem take_ok (w : World) (x : Nat) (S : Nat → Prop) (s : Bk) (l : Ln) (hI : Inv s) (hL : LnOk l) (h : BkAt w x S s) (k : Nat) (q : Hd) (hk : k < s.nets.length) (h1 : spanH s.nets l.d 32 = k) (hq : s.nets.getD k hd0 = q) (ua uz : Int) (hua : useA q.a q.n = ua) (huz : useZ q.a q.n = uz) (h2 : ¬ l.d < ua) (h3 : ¬ uz < l.d) (h4 : hasL s.leases l.d = false) (h5 : ¬ 40 ≤ s.leases.length) :
    Calls Tryz.prog 64 #[.pointer (some ⟨x, 0, none⟩), .agg (lnC l)] w (Res w x S ({ s with leases := insL s.leases ⟨l.d, l.o⟩ }, okA)) := by
  obtain ⟨vp, vn, vl, c, B⟩ := h
  have hx := B.blk.lt
  have H : Hid (BkAt w x S s) := ⟨vp, vn, vl, c, B⟩
  have x0 : w.cell? ⟨x, 0, none⟩ = some vp := B.blk.cell 0
  have x1 : w.cell? ⟨x, 1, none⟩ = some vn := B.blk.cell 1
  have x2 : w.cell? ⟨x, 2, none⟩ = some vl := B.blk.cell 2
  have LIVE : Hid (∀ wk, Below (w.heap.size + 2) ((w.alloc (.cells #[.int .i64 l.v, .string l.t, .string l.o, .int .u32 l.a, .int .i64 l.n, .int .u32 l.d, .int .i64 l.g] 74)).alloc (.cells #[.int .i64 0, .slice none 0 0] 79)) wk → Live w wk x vp vn vl l) := live_of l B
  have HBA : Hid (BA w x S vp vn vl c s) := B
  have hxa : ¬ (x = w.heap.size) := by omega
  have hxb : ¬ (w.heap.size = x) := by omega
  have HS : Hid (∀ b, S b → b < w.heap.size) := B.sz
  have HSP : Hid (∀ Wc, Below w.heap.size w Wc → Calls Tryz.prog 98 #[vn, .agg #[.int .u32 l.d, .int .i64 32]] Wc fun e w' => e = .returned (.int .i64 (spanH s.nets l.d 32)) ∧ Below Wc.heap.size Wc w') := fun Wc hW => fspanS s.nets l.d 32 vn Wc (fun q hq => (hI.na q hq).1) hL.d ((Rd.of_owns (k := 3) (enc := encH) (fun _ => rfl) hd0 B.on).below hW)
  rw [h1] at HSP
  have HF : Hid (∀ Wc, Below w.heap.size w Wc → Calls Tryz.prog 101 #[.pointer (some ⟨x, 0, none⟩), .int .u32 l.d] Wc fun e w' => e = .returned (.tuple #[.int .i64 (cntL s.leases l.d : Nat), .bool (hasL s.leases l.d)]) ∧ Below Wc.heap.size Wc w') := fun Wc hW => findL_any x s.leases l.d vl Wc ((hW.cell (p := ⟨x, 2, none⟩) hx).trans x2) ((Rd.of_owns (k := 2) (enc := encL) (fun _ => rfl) ls0 B.ol).below hW) (by have := hI.l; omega) hI.lu
  rw [h4] at HF
  have HAD : Hid (∀ Wc, Below w.heap.size w Wc → Calls Tryz.prog 96 #[.pointer (some ⟨x, 0, none⟩), .int .u32 l.d, .string l.o] Wc fun e w' => e = .returned (.tuple #[]) ∧ ∃ S', BkAt w' x S' { s with leases := insL s.leases ⟨l.d, l.o⟩ } ∧ (∀ b, S' b → S b ∨ Wc.heap.size ≤ b) ∧ Chg S Wc w') := fun Wc hW => addLease_any Wc x S s l.d l.o hI (H.out.below hW)
  have hkk : ∀ q : Hd, (encH q).length = 3 := fun _ => rfl
  have hqm : q ∈ s.nets := by rw [← hq]; exact getD_mem s.nets hd0 k hk
  have hqi := hI.na q hqm
  have hrd := Rd.of_owns hkk hd0 B.on
  obtain ⟨bq, cq, ev, hq1, hq2, hq3⟩ := hrd
  obtain ⟨gq, rfl, hq4, hq5⟩ := hq3 (by intro e; rw [e] at hk; simp at hk)
  have hk5 := hq5 k hk
  rw [hq] at hk5
  have ROW : Hid (∀ wk, Below w.heap.size w wk → wk.cell? ⟨gq, k * 3, none⟩ = some (.int .u32 q.a) ∧ wk.cell? ⟨gq, k * 3 + 1, none⟩ = some (.int .i64 q.n) ∧ wk.cell? ⟨gq, k * 3 + 2, none⟩ = some (.string q.o)) := fun wk hw =>
    ⟨(hw.cell (p := ⟨gq, k * 3, none⟩) hq4).trans (hk5 0 _ rfl), (hw.cell (p := ⟨gq, k * 3 + 1, none⟩) hq4).trans (hk5 1 _ rfl), (hw.cell (p := ⟨gq, k * 3 + 2, none⟩) hq4).trans (hk5 2 _ rfl)⟩
  have hkz : (k : Int) < (s.nets.length : Int) := by omega
  have hkn : ¬ ((k : Int) < 0) := by omega
  have hk0 : (0 : Int) ≤ (k : Int) := by omega
  have HUS : Hid (∀ Wc : World, Calls Tryz.prog 100 #[.agg #[.int .u32 q.a, .int .i64 q.n, .string q.o]] Wc fun e w' => e = .returned (.tuple #[.int .u32 ua, .int .u32 uz]) ∧ Below Wc.heap.size Wc w') := fun Wc => by rw [← hua, ← huz]; exact usable_any q Wc hqi.1 hqi.2.1
  clear hq1 hq2 hq5 hk5 hq hqm hqi
  subst ev
  clear hua huz
  obtain ⟨bl, cl, el, _, _⟩ := owns_slice B.ol
  subst el
  have h6 : ¬ (40 : Int) ≤ (s.leases.length : Int) := by omega
  clear B
  unfold lnC
  go_enter Tryz.func64, Tryz.ntmps64
  go_wp2
  go_region_held3 (fun w' => w'.cell? ⟨x, 1, none⟩ = some (.slice (some ⟨gq, 0, none⟩) s.nets.length cq) ∧ w'.cell? ⟨w.heap.size, 5, none⟩ = some (.int .u32 l.d)) (go_keep) (first | (go_at_call 99; refine (single_any _ _).mono ?_; rintro e w1 ⟨rfl, HQ⟩; have HB1 : Hid (Below (w.heap.size + 2) ((w.alloc (.cells #[.int .i64 l.v, .string l.t, .string l.o, .int .u32 l.a, .int .i64 l.n, .int .u32 l.d, .int .i64 l.g] 74)).alloc (.cells #[.int .i64 0, .slice none 0 0] 79)) w1) := bstep (by repeat' (first | with_reducible assumption | with_reducible exact Below.refl _ _ | with_reducible apply Below.drew | with_reducible apply below_drewN | with_reducible apply Below.setCell | with_reducible apply Below.alloc | omega | (simp; done) | (simp; omega))) (by simp) HQ; clear HQ; have HW1 : Hid (Below w.heap.size w w1) := (w0_below w l).trans (HB1.out.mono (by omega)); have LV1 := LIVE.out w1 HB1.out; have x1_1 := LV1.x1; have d_1 := LV1.d; have z0_1 := LV1.z0; have z1_1 := LV1.z1; clear LV1) | (go_at_call 98; refine (HSP.out _ (by have hp := HW1.out; repeat' (first | with_reducible assumption | with_reducible exact Below.refl _ _ | with_reducible apply Below.drew | with_reducible apply below_drewN | with_reducible apply Below.setCell | with_reducible apply Below.alloc | omega | (simp; done) | (simp; omega)))).mono ?_; rintro e w2 ⟨rfl, HQ⟩; have HB2 : Hid (Below (w.heap.size + 2) ((w.alloc (.cells #[.int .i64 l.v, .string l.t, .string l.o, .int .u32 l.a, .int .i64 l.n, .int .u32 l.d, .int .i64 l.g] 74)).alloc (.cells #[.int .i64 0, .slice none 0 0] 79)) w2) := bstep (by have hp := HB1.out; repeat' (first | with_reducible assumption | with_reducible exact Below.refl _ _ | with_reducible apply Below.drew | with_reducible apply below_drewN | with_reducible apply Below.setCell | with_reducible apply Below.alloc | omega | (simp; done) | (simp; omega))) (by simp) HQ; clear HQ; have HW2 : Hid (Below w.heap.size w w2) := (w0_below w l).trans (HB2.out.mono (by omega)); have LV2 := LIVE.out w2 HB2.out; have x1_2 := LV2.x1; have x2_2 := LV2.x2; have d_2 := LV2.d; have o_2 := LV2.o; have zx_2 := LV2.zx; have z0_2 := LV2.z0; have z1_2 := LV2.z1; have r0_2 := LV2.r0; have r1_2 := LV2.r1; have g0_2 := LV2.g0; have g1_2 := LV2.g1; obtain ⟨e0_2, e1_2, e2_2⟩ := ROW.out w2 HW2.out; clear LV2))
  all_goals (
    go_wp2_with (first | (go_at_call 100; refine (HUS.out _).mono ?_; rintro e w3 ⟨rfl, HQ⟩; have HB3 : Hid (Below (w.heap.size + 2) ((w.alloc (.cells #[.int .i64 l.v, .string l.t, .string l.o, .int .u32 l.a, .int .i64 l.n, .int .u32 l.d, .int .i64 l.g] 74)).alloc (.cells #[.int .i64 0, .slice none 0 0] 79)) w3) := bstep (by have hp := HB2.out; repeat' (first | with_reducible assumption | with_reducible exact Below.refl _ _ | with_reducible apply Below.drew | with_reducible apply below_drewN | with_reducible apply Below.setCell | with_reducible apply Below.alloc | omega | (simp; done) | (simp; omega))) (by simp) HQ; clear HQ; have HW3 : Hid (Below w.heap.size w w3) := (w0_below w l).trans (HB3.out.mono (by omega)); have LV3 := LIVE.out w3 HB3.out; have x2_3 := LV3.x2; have d_3 := LV3.d; have o_3 := LV3.o; have zx_3 := LV3.zx; have z0_3 := LV3.z0; have z1_3 := LV3.z1; have r0_3 := LV3.r0; have r1_3 := LV3.r1; have g0_3 := LV3.g0; have g1_3 := LV3.g1; clear LV3) | (go_at_call 101; refine (HF.out _ (by have hp := HW3.out; repeat' (first | with_reducible assumption | with_reducible exact Below.refl _ _ | with_reducible apply Below.drew | with_reducible apply below_drewN | with_reducible apply Below.setCell | with_reducible apply Below.alloc | omega | (simp; done) | (simp; omega)))).mono ?_; rintro e w4 ⟨rfl, HQ⟩; have HB4 : Hid (Below (w.heap.size + 2) ((w.alloc (.cells #[.int .i64 l.v, .string l.t, .string l.o, .int .u32 l.a, .int .i64 l.n, .int .u32 l.d, .int .i64 l.g] 74)).alloc (.cells #[.int .i64 0, .slice none 0 0] 79)) w4) := bstep (by have hp := HB3.out; repeat' (first | with_reducible assumption | with_reducible exact Below.refl _ _ | with_reducible apply Below.drew | with_reducible apply below_drewN | with_reducible apply Below.setCell | with_reducible apply Below.alloc | omega | (simp; done) | (simp; omega))) (by simp) HQ; clear HQ; have HW4 : Hid (Below w.heap.size w w4) := (w0_below w l).trans (HB4.out.mono (by omega)); have LV4 := LIVE.out w4 HB4.out; have x2_4 := LV4.x2; have d_4 := LV4.d; have o_4 := LV4.o; have zx_4 := LV4.zx; have z0_4 := LV4.z0; have z1_4 := LV4.z1; have r0_4 := LV4.r0; have r1_4 := LV4.r1; have g0_4 := LV4.g0; have g1_4 := LV4.g1; clear LV4) | (go_at_call 96; refine (HAD.out _ (by have hp := HW4.out; repeat' (first | with_reducible assumption | with_reducible exact Below.refl _ _ | with_reducible apply Below.drew | with_reducible apply below_drewN | with_reducible apply Below.setCell | with_reducible apply Below.alloc | omega | (simp; done) | (simp; omega)))).mono ?_; rintro e w5 ⟨rfl, S3, o1, o2, o3⟩; have HG : Hid (∃ Wc, Below w.heap.size w Wc ∧ w.heap.size + 2 ≤ Wc.heap.size ∧ (∀ b, S3 b → S b ∨ Wc.heap.size ≤ b) ∧ Chg S Wc w5) := ⟨_, by have hp := HW4.out; repeat' (first | with_reducible assumption | with_reducible exact Below.refl _ _ | with_reducible apply Below.drew | with_reducible apply below_drewN | with_reducible apply Below.setCell | with_reducible apply Below.alloc | omega | (simp; done) | (simp; omega)), by have hz := HB4.out.size; simp at hz ⊢; omega, o2, o3⟩; have HA : Hid (BkAt w5 x S3 { s with leases := insL s.leases ⟨l.d, l.o⟩ }) := o1; have RB5 : Hid (Blk w5 (w.heap.size + 1) #[.int .i64 0, .slice none 0 0] 79) := (o3.block _ (by have hz := HB4.out.size; simp at hz ⊢; omega) (fun q => by have := HS.out _ q; omega)).trans (LIVE.out _ (by have hp := HB4.out; repeat' (first | with_reducible assumption | with_reducible exact Below.refl _ _ | with_reducible apply Below.drew | with_reducible apply below_drewN | with_reducible apply Below.setCell | with_reducible apply Below.alloc | omega | (simp; done) | (simp; omega)))).rb; have z1_5 : w.heap.size + 1 < w5.heap.size := RB5.out.lt; clear o1 o2 o3) | (go_at_call 81; refine (ok_any none 0 0 _).mono ?_; rintro e w6 ⟨rfl, HQ⟩; have HQ6 : Hid (Below w5.heap.size w5 w6) := HQ; have RB6 : Blk w6 (w.heap.size + 1) #[.int .i64 0, .slice none 0 0] 79 := (HQ.block _ z1_5).trans RB5.out; clear HQ; have HR6 : Hid (Blk w6 (w.heap.size + 1) #[.int .i64 0, .slice none 0 0] 79) := RB6; have r0_6 : w6.cell? ⟨w.heap.size + 1, 0, none⟩ = some (.int .i64 0) := RB6.cell 0; have r1_6 : w6.cell? ⟨w.heap.size + 1, 1, none⟩ = some (.slice none 0 0) := RB6.cell 1; have g0_6 : w6.frozen? ⟨w.heap.size + 1, 0, none⟩ = false := RB6.frozen 0; have g1_6 : w6.frozen? ⟨w.heap.size + 1, 1, none⟩ = false := RB6.frozen 1; clear RB6))
    obtain ⟨kk0, kk1⟩ := two_set HR6.out (.int .i64 0) (.slice none 0 0)
    obtain ⟨Wc, hc1, hc2, hc3, hc4⟩ := HG.out
    have hfin := res_new HS.out hc1 hc2 HA.out hc3 hc4 HQ6.out okA rfl (.slice none 0 0) (fun _ _ _ => rd_nil _ _ _ _)
    exact bodyPost_ret (v := .agg #[.int .i64 0, .slice none 0 0]) (by simp [results, Tryz.results64, go_sem, kk0, kk1]) rfl hfin)

theorem take_any (w : World) (x : Nat) (S : Nat → Prop) (s : Bk) (l : Ln) (hI : Inv s) (hL : LnOk l) (h : BkAt w x S s) : Calls Tryz.prog 64 #[.pointer (some ⟨x, 0, none⟩), .agg (lnC l)] w (Res w x S (doTake s l)) := by
  unfold doTake
  rcases fi_cases (spansH l.d 32) s.nets hd0 with ⟨e, _⟩ | ⟨k, hk, e, hp, _⟩
  · have e1 : spanH s.nets l.d 32 = -1 := e
    rw [if_pos (by rw [e1]; decide)]; exact take_none w x S s l hI hL h e1
  · have e1 : spanH s.nets l.d 32 = k := e
    have e2 : (spanH s.nets l.d 32).toNat = k := by rw [e1]; omega
    rw [if_neg (by rw [e1]; omega), e2]
    by_cases h2 : l.d < useA (s.nets.getD k hd0).a (s.nets.getD k hd0).n ∨ useZ (s.nets.getD k hd0).a (s.nets.getD k hd0).n < l.d
    · rw [if_pos h2]; exact take_addr w x S s l hI hL h k _ hk e1 rfl _ _ rfl rfl h2
    · rw [if_neg h2]
      have n1 : ¬ l.d < useA (s.nets.getD k hd0).a (s.nets.getD k hd0).n := fun q => h2 (.inl q)
      have n2 : ¬ useZ (s.nets.getD k hd0).a (s.nets.getD k hd0).n < l.d := fun q => h2 (.inr q)
      by_cases h4 : hasL s.leases l.d = true
      · rw [if_pos h4]; exact take_taken w x S s l hI hL h k _ hk e1 rfl _ _ rfl rfl n1 n2 h4
      · rw [if_neg h4]
        by_cases h5 : 40 ≤ s.leases.length
        · rw [if_pos h5]; exact take_limit w x S s l hI hL h k _ hk e1 rfl _ _ rfl rfl n1 n2 (by simpa using h4) h5
        · rw [if_neg h5]; exact take_ok w x S s l hI hL h k _ hk e1 rfl _ _ rfl rfl n1 n2 (by simpa using h4) h5
end Go.Proofs.YtlikdnmikdldfaaGreatDoor
namespace Go.Proofs.YtlikdnmikdldfaaGreatDoor
open Go.ChangeShapes Go.WideShapes Go.ChangeAt Go.RowKit
set_option linter.unusedVariables false
set_option linter.unusedSimpArgs false

theorem delAt_len {α : Type} (l : List α) (k : Nat) (h : k < l.length) : (delAt l k).length = l.length - 1 := by unfold delAt; simp; omega
theorem flat_del {α : Type} {k : Nat} {enc : α → List Value} (hk : ∀ x, (enc x).length = k) (l : List α) (i : Nat) : (l.flatMap enc).take (i * k) ++ (l.flatMap enc).drop ((i + 1) * k) = (delAt l i).flatMap enc := by
  unfold delAt; rw [take_flat hk, drop_flat hk, List.flatMap_append]

theorem delpools {w : World} {v : Value} {l : List Hd} (hown : w.ownsRow 0 142 3 v l.length (l.flatMap encH)) (k : Nat) (hk : k < l.length) (hn : l.length ≤ 1000) :
    Calls Tryz.prog 85 #[v, .int .i64 k, .int .i64 ((k : Int) + 1)] w fun e w' => ∃ g cap, e = .returned (.slice (some ⟨g, 0, none⟩) (l.length - 1) cap) ∧ w'.ownsRow 0 142 3 (.slice (some ⟨g, 0, none⟩) (l.length - 1) cap) (l.length - 1) ((delAt l k).flatMap encH) ∧ w.grownBy w' v.ownBlock ∧ ∀ b, (Value.slice (some ⟨g, 0, none⟩) (l.length - 1) cap).ownBlock = some b → v.ownBlock = some b ∨ w.heap.size ≤ b := by
  have hkk : ∀ x : Hd, (encH x).length = 3 := fun _ => rfl
  rcases hown.2 with ⟨rfl, e⟩ | ⟨g, cap, cur, rfl, _, hg, h1, h2, h3, h4⟩
  · omega
  · obtain ⟨m, hm⟩ : ∃ m, l.length = m + 1 := ⟨l.length - 1, by omega⟩
    rw [hm] at h1 h4 hk ⊢
    refine (delP (l.flatMap encH) m k g cap cur w (by omega) (by omega) hg h3 h4 h1 h2 (oneH l)).mono ?_
    rintro e w' ⟨rfl, o1, o2⟩
    rw [flat_del hkk] at o1
    exact ⟨g, cap, rfl, o1, o2, fun b e => .inl e⟩

set_option maxRecDepth 100000 in
set_option maxHeartbeats 2000000 in
theorem drop_none (w : World) (x : Nat) (S : Nat → Prop) (s : Bk) (l : Ln) (hI : Inv s) (hL : LnOk l) (h : BkAt w x S s) (h1 : findH s.pools l.a l.n = -1) :
    Calls Tryz.prog 59 #[.pointer (some ⟨x, 0, none⟩), .agg (lnC l)] w (Res w x S (s, ref 7)) := by
  obtain ⟨vp, vn, vl, c, B⟩ := h
  have hx := B.blk.lt
  have H : Hid (BkAt w x S s) := ⟨vp, vn, vl, c, B⟩
  have x0 : w.cell? ⟨x, 0, none⟩ = some vp := B.blk.cell 0
  have x1 : w.cell? ⟨x, 1, none⟩ = some vn := B.blk.cell 1
  have x2 : w.cell? ⟨x, 2, none⟩ = some vl := B.blk.cell 2
  have LIVE : Hid (∀ wk, Below (w.heap.size + 2) ((w.alloc (.cells #[.int .i64 l.v, .string l.t, .string l.o, .int .u32 l.a, .int .i64 l.n, .int .u32 l.d, .int .i64 l.g] 74)).alloc (.cells #[.int .i64 0, .slice none 0 0] 79)) wk → Live w wk x vp vn vl l) := live_of l B
  have HBA : Hid (BA w x S vp vn vl c s) := B
  have hxa : ¬ (x = w.heap.size) := by omega
  have hxb : ¬ (w.heap.size = x) := by omega
  have HF : Hid (∀ Wc, Below w.heap.size w Wc → Calls Tryz.prog 82 #[vp, .agg #[.int .u32 l.a, .int .i64 l.n]] Wc fun e w' => e = .returned (.int .i64 (findH s.pools l.a l.n)) ∧ Below Wc.heap.size Wc w') := fun Wc hW => findP s.pools l.a l.n vp Wc (fun q hq => (hI.pa q hq).1) hL.a ((Rd.of_owns (k := 3) (enc := encH) (fun _ => rfl) hd0 B.op).below hW)
  rw [h1] at HF
  obtain ⟨bq, cq, eq, _, _⟩ := owns_slice B.op
  subst eq
  clear B
  unfold lnC
  go_enter Tryz.func59, Tryz.ntmps59
  go_wp2
  go_region_held3 (fun w' => w'.cell? ⟨x, 0, none⟩ = some (.slice bq s.pools.length cq) ∧ w'.cell? ⟨w.heap.size, 3, none⟩ = some (.int .u32 l.a) ∧ w'.cell? ⟨w.heap.size, 4, none⟩ = some (.int .i64 l.n)) (go_keep) (first | (go_at_call 82; refine (HF.out _ (by repeat' (first | with_reducible assumption | with_reducible exact Below.refl _ _ | with_reducible apply Below.drew | with_reducible apply below_drewN | with_reducible apply Below.setCell | with_reducible apply Below.alloc | omega | (simp; done) | (simp; omega)))).mono ?_; rintro e w1 ⟨rfl, HQ⟩; have HB1 : Hid (Below (w.heap.size + 2) ((w.alloc (.cells #[.int .i64 l.v, .string l.t, .string l.o, .int .u32 l.a, .int .i64 l.n, .int .u32 l.d, .int .i64 l.g] 74)).alloc (.cells #[.int .i64 0, .slice none 0 0] 79)) w1) := bstep (by repeat' (first | with_reducible assumption | with_reducible exact Below.refl _ _ | with_reducible apply Below.drew | with_reducible apply below_drewN | with_reducible apply Below.setCell | with_reducible apply Below.alloc | omega | (simp; done) | (simp; omega))) (by simp) HQ; clear HQ; have HW1 : Hid (Below w.heap.size w w1) := (w0_below w l).trans (HB1.out.mono (by omega)); have LV1 := LIVE.out w1 HB1.out; have x0_1 := LV1.x0; have o_1 := LV1.o; have a_1 := LV1.a; have n_1 := LV1.n; have zx_1 := LV1.zx; have z0_1 := LV1.z0; have z1_1 := LV1.z1; have r0_1 := LV1.r0; have r1_1 := LV1.r1; have g0_1 := LV1.g0; have g1_1 := LV1.g1; clear LV1))
  all_goals (
    go_wp2_with (go_at_call 31; refine (refuse_any 7 _).mono ?_; rintro e w9 ⟨rfl, HQ⟩; have HB9 : Hid (Below (w.heap.size + 2) ((w.alloc (.cells #[.int .i64 l.v, .string l.t, .string l.o, .int .u32 l.a, .int .i64 l.n, .int .u32 l.d, .int .i64 l.g] 74)).alloc (.cells #[.int .i64 0, .slice none 0 0] 79)) w9) := bstep (by have hp := HB1.out; repeat' (first | with_reducible assumption | with_reducible exact Below.refl _ _ | with_reducible apply Below.drew | with_reducible apply below_drewN | with_reducible apply Below.setCell | with_reducible apply Below.alloc | omega | (simp; done) | (simp; omega))) (by simp) HQ; clear HQ; have HW9 : Hid (Below w.heap.size w w9) := (w0_below w l).trans (HB9.out.mono (by omega)); have LV9 := LIVE.out w9 HB9.out; have r0_9 := LV9.r0; have r1_9 := LV9.r1; have g0_9 := LV9.g0; have g1_9 := LV9.g1; have z1_9 := LV9.z1; clear LV9)
    have hR := (LIVE.out w9 HB9.out).rb
    obtain ⟨kk0, kk1⟩ := two_set hR (.int .i64 7) (.slice none 0 0)
    have hfin := res_ref (l := l) 7 H.out HB9.out
    exact bodyPost_ret (v := .agg #[.int .i64 7, .slice none 0 0]) (by simp [results, Tryz.results59, go_sem, kk0, kk1]) rfl hfin)

set_option maxRecDepth 100000 in
set_option maxHeartbeats 2000000 in
theorem drop_owner (w : World) (x : Nat) (S : Nat → Prop) (s : Bk) (l : Ln) (hI : Inv s) (hL : LnOk l) (h : BkAt w x S s) (k : Nat) (ok : ByteArray) (hk : k < s.pools.length) (h1 : findH s.pools l.a l.n = k) (his : isH l.a l.n (s.pools.getD k hd0) = true) (hok : (s.pools.getD k hd0).o = ok) (h2 : ok ≠ l.o) :
    Calls Tryz.prog 59 #[.pointer (some ⟨x, 0, none⟩), .agg (lnC l)] w (Res w x S (s, ref 8)) := by
  obtain ⟨vp, vn, vl, c, B⟩ := h
  have hx := B.blk.lt
  have H : Hid (BkAt w x S s) := ⟨vp, vn, vl, c, B⟩
  have x0 : w.cell? ⟨x, 0, none⟩ = some vp := B.blk.cell 0
  have x1 : w.cell? ⟨x, 1, none⟩ = some vn := B.blk.cell 1
  have x2 : w.cell? ⟨x, 2, none⟩ = some vl := B.blk.cell 2
  have LIVE : Hid (∀ wk, Below (w.heap.size + 2) ((w.alloc (.cells #[.int .i64 l.v, .string l.t, .string l.o, .int .u32 l.a, .int .i64 l.n, .int .u32 l.d, .int .i64 l.g] 74)).alloc (.cells #[.int .i64 0, .slice none 0 0] 79)) wk → Live w wk x vp vn vl l) := live_of l B
  have HBA : Hid (BA w x S vp vn vl c s) := B
  have hxa : ¬ (x = w.heap.size) := by omega
  have hxb : ¬ (w.heap.size = x) := by omega
  have HF : Hid (∀ Wc, Below w.heap.size w Wc → Calls Tryz.prog 82 #[vp, .agg #[.int .u32 l.a, .int .i64 l.n]] Wc fun e w' => e = .returned (.int .i64 (findH s.pools l.a l.n)) ∧ Below Wc.heap.size Wc w') := fun Wc hW => findP s.pools l.a l.n vp Wc (fun q hq => (hI.pa q hq).1) hL.a ((Rd.of_owns (k := 3) (enc := encH) (fun _ => rfl) hd0 B.op).below hW)
  rw [h1] at HF
  have HOW : Hid (∀ Wc, Below w.heap.size w Wc → Calls Tryz.prog 83 #[.agg #[.int .u32 l.a, .int .i64 l.n, .string ok], .string l.o] Wc fun e w' => e = .returned (.bool (ok.toList == l.o.toList)) ∧ Below Wc.heap.size Wc w') := fun Wc hW => howned_any ⟨l.a, l.n, ok⟩ l.o Wc
  rw [beqB, decide_eq_false h2] at HOW
  have hkk : ∀ q : Hd, (encH q).length = 3 := fun _ => rfl
  have hrd := Rd.of_owns hkk hd0 B.op
  obtain ⟨bq, cq, ev, hq1, hq2, hq3⟩ := hrd
  obtain ⟨gq, rfl, hq4, hq5⟩ := hq3 (by intro e; rw [e] at hk; simp at hk)
  have hk5 := hq5 k hk
  have hk6 : (s.pools.getD k hd0).a = l.a ∧ (s.pools.getD k hd0).n = l.n := by simpa [isH] using his
  have ROW : Hid (∀ wk, Below w.heap.size w wk → wk.cell? ⟨gq, k * 3, none⟩ = some (.int .u32 l.a) ∧ wk.cell? ⟨gq, k * 3 + 1, none⟩ = some (.int .i64 l.n) ∧ wk.cell? ⟨gq, k * 3 + 2, none⟩ = some (.string ok)) := fun wk hw =>
    ⟨(hw.cell (p := ⟨gq, k * 3, none⟩) hq4).trans (by rw [← hk6.1]; exact hk5 0 _ rfl), (hw.cell (p := ⟨gq, k * 3 + 1, none⟩) hq4).trans (by rw [← hk6.2]; exact hk5 1 _ rfl), (hw.cell (p := ⟨gq, k * 3 + 2, none⟩) hq4).trans (by rw [← hok]; exact hk5 2 _ rfl)⟩
  have hlen : s.pools.length ≤ 1000 := by have := hI.p; omega
  have hkz : (k : Int) < (s.pools.length : Int) := by omega
  have hkn : ¬ ((k : Int) < 0) := by omega
  have hk0 : (0 : Int) ≤ (k : Int) := by omega
  clear hq1 hq2 hq5 hk5 hk6 his hok
  subst ev
  clear B
  unfold lnC
  go_enter Tryz.func59, Tryz.ntmps59
  go_wp2
  go_region_held3 (fun w' => w'.cell? ⟨x, 0, none⟩ = some (.slice (some ⟨gq, 0, none⟩) s.pools.length cq) ∧ w'.cell? ⟨w.heap.size, 3, none⟩ = some (.int .u32 l.a) ∧ w'.cell? ⟨w.heap.size, 4, none⟩ = some (.int .i64 l.n)) (go_keep) (first | (go_at_call 82; refine (HF.out _ (by repeat' (first | with_reducible assumption | with_reducible exact Below.refl _ _ | with_reducible apply Below.drew | with_reducible apply below_drewN | with_reducible apply Below.setCell | with_reducible apply Below.alloc | omega | (simp; done) | (simp; omega)))).mono ?_; rintro e w1 ⟨rfl, HQ⟩; have HB1 : Hid (Below (w.heap.size + 2) ((w.alloc (.cells #[.int .i64 l.v, .string l.t, .string l.o, .int .u32 l.a, .int .i64 l.n, .int .u32 l.d, .int .i64 l.g] 74)).alloc (.cells #[.int .i64 0, .slice none 0 0] 79)) w1) := bstep (by repeat' (first | with_reducible assumption | with_reducible exact Below.refl _ _ | with_reducible apply Below.drew | with_reducible apply below_drewN | with_reducible apply Below.setCell | with_reducible apply Below.alloc | omega | (simp; done) | (simp; omega))) (by simp) HQ; clear HQ; have HW1 : Hid (Below w.heap.size w w1) := (w0_below w l).trans (HB1.out.mono (by omega)); have LV1 := LIVE.out w1 HB1.out; have x0_1 := LV1.x0; have o_1 := LV1.o; have a_1 := LV1.a; have n_1 := LV1.n; have zx_1 := LV1.zx; have z0_1 := LV1.z0; have z1_1 := LV1.z1; have r0_1 := LV1.r0; have r1_1 := LV1.r1; have g0_1 := LV1.g0; have g1_1 := LV1.g1; obtain ⟨e0_1, e1_1, e2_1⟩ := ROW.out w1 HW1.out; clear LV1))
  all_goals (
    go_wp2
    go_region_held3 (fun w' => w'.cell? ⟨x, 0, none⟩ = some (.slice (some ⟨gq, 0, none⟩) s.pools.length cq) ∧ w'.cell? ⟨w.heap.size, 2, none⟩ = some (.string l.o) ∧ w'.cell? ⟨gq, k * 3, none⟩ = some (.int .u32 l.a) ∧ w'.cell? ⟨gq, k * 3 + 1, none⟩ = some (.int .i64 l.n) ∧ w'.cell? ⟨gq, k * 3 + 2, none⟩ = some (.string ok)) (go_keep) (first | (go_at_call 83; refine (HOW.out _ (by have hp := HW1.out; repeat' (first | with_reducible assumption | with_reducible exact Below.refl _ _ | with_reducible apply Below.drew | with_reducible apply below_drewN | with_reducible apply Below.setCell | with_reducible apply Below.alloc | omega | (simp; done) | (simp; omega)))).mono ?_; rintro e w2 ⟨rfl, HQ⟩; have HB2 : Hid (Below (w.heap.size + 2) ((w.alloc (.cells #[.int .i64 l.v, .string l.t, .string l.o, .int .u32 l.a, .int .i64 l.n, .int .u32 l.d, .int .i64 l.g] 74)).alloc (.cells #[.int .i64 0, .slice none 0 0] 79)) w2) := bstep (by have hp := HB1.out; repeat' (first | with_reducible assumption | with_reducible exact Below.refl _ _ | with_reducible apply Below.drew | with_reducible apply below_drewN | with_reducible apply Below.setCell | with_reducible apply Below.alloc | omega | (simp; done) | (simp; omega))) (by simp) HQ; clear HQ; have HW2 : Hid (Below w.heap.size w w2) := (w0_below w l).trans (HB2.out.mono (by omega)); have LV2 := LIVE.out w2 HB2.out; have x0_2 := LV2.x0; have zx_2 := LV2.zx; have z0_2 := LV2.z0; have z1_2 := LV2.z1; have o_2 := LV2.o; have r0_2 := LV2.r0; have r1_2 := LV2.r1; have g0_2 := LV2.g0; have g1_2 := LV2.g1; obtain ⟨e0_2, e1_2, e2_2⟩ := ROW.out w2 HW2.out; clear LV2))
    all_goals (
      go_wp2_with (go_at_call 31; refine (refuse_any 8 _).mono ?_; rintro e w9 ⟨rfl, HQ⟩; have HB9 : Hid (Below (w.heap.size + 2) ((w.alloc (.cells #[.int .i64 l.v, .string l.t, .string l.o, .int .u32 l.a, .int .i64 l.n, .int .u32 l.d, .int .i64 l.g] 74)).alloc (.cells #[.int .i64 0, .slice none 0 0] 79)) w9) := bstep (by have hp := HB2.out; repeat' (first | with_reducible assumption | with_reducible exact Below.refl _ _ | with_reducible apply Below.drew | with_reducible apply below_drewN | with_reducible apply Below.setCell | with_reducible apply Below.alloc | omega | (simp; done) | (simp; omega))) (by simp) HQ; clear HQ; have HW9 : Hid (Below w.heap.size w w9) := (w0_below w l).trans (HB9.out.mono (by omega)); have LV9 := LIVE.out w9 HB9.out; have r0_9 := LV9.r0; have r1_9 := LV9.r1; have g0_9 := LV9.g0; have g1_9 := LV9.g1; have z1_9 := LV9.z1; clear LV9)
      have hR := (LIVE.out w9 HB9.out).rb
      obtain ⟨kk0, kk1⟩ := two_set hR (.int .i64 8) (.slice none 0 0)
      have hfin := res_ref (l := l) 8 H.out HB9.out
      exact bodyPost_ret (v := .agg #[.int .i64 8, .slice none 0 0]) (by simp [results, Tryz.results59, go_sem, kk0, kk1]) rfl hfin))

set_option maxRecDepth 100000 in
set_option maxHeartbeats 2000000 in
theorem drop_busy (w : World) (x : Nat) (S : Nat → Prop) (s : Bk) (l : Ln) (hI : Inv s) (hL : LnOk l) (h : BkAt w x S s) (k : Nat) (ok : ByteArray) (hk : k < s.pools.length) (h1 : findH s.pools l.a l.n = k) (his : isH l.a l.n (s.pools.getD k hd0) = true) (hok : (s.pools.getD k hd0).o = ok) (h2 : ok = l.o) (h3 : ¬ (netsOf s.nets l.a l.n) = []) :
    Calls Tryz.prog 59 #[.pointer (some ⟨x, 0, none⟩), .agg (lnC l)] w (Res w x S (s, ref 9)) := by
  obtain ⟨vp, vn, vl, c, B⟩ := h
  have hx := B.blk.lt
  have H : Hid (BkAt w x S s) := ⟨vp, vn, vl, c, B⟩
  have x0 : w.cell? ⟨x, 0, none⟩ = some vp := B.blk.cell 0
  have x1 : w.cell? ⟨x, 1, none⟩ = some vn := B.blk.cell 1
  have x2 : w.cell? ⟨x, 2, none⟩ = some vl := B.blk.cell 2
  have LIVE : Hid (∀ wk, Below (w.heap.size + 2) ((w.alloc (.cells #[.int .i64 l.v, .string l.t, .string l.o, .int .u32 l.a, .int .i64 l.n, .int .u32 l.d, .int .i64 l.g] 74)).alloc (.cells #[.int .i64 0, .slice none 0 0] 79)) wk → Live w wk x vp vn vl l) := live_of l B
  have HBA : Hid (BA w x S vp vn vl c s) := B
  have hxa : ¬ (x = w.heap.size) := by omega
  have hxb : ¬ (w.heap.size = x) := by omega
  have HF : Hid (∀ Wc, Below w.heap.size w Wc → Calls Tryz.prog 82 #[vp, .agg #[.int .u32 l.a, .int .i64 l.n]] Wc fun e w' => e = .returned (.int .i64 (findH s.pools l.a l.n)) ∧ Below Wc.heap.size Wc w') := fun Wc hW => findP s.pools l.a l.n vp Wc (fun q hq => (hI.pa q hq).1) hL.a ((Rd.of_owns (k := 3) (enc := encH) (fun _ => rfl) hd0 B.op).below hW)
  rw [h1] at HF
  have HOW : Hid (∀ Wc, Below w.heap.size w Wc → Calls Tryz.prog 83 #[.agg #[.int .u32 l.a, .int .i64 l.n, .string ok], .string l.o] Wc fun e w' => e = .returned (.bool (ok.toList == l.o.toList)) ∧ Below Wc.heap.size Wc w') := fun Wc hW => howned_any ⟨l.a, l.n, ok⟩ l.o Wc
  rw [beqB, decide_eq_true h2] at HOW
  clear h2
  have HSUB : Hid (∀ Wc, Below w.heap.size w Wc → Calls Tryz.prog 84 #[.pointer (some ⟨x, 0, none⟩), .agg #[.int .u32 l.a, .int .i64 l.n, .string ok]] Wc fun e w' => (∃ b c, e = .returned (.slice b (netsOf s.nets l.a l.n).length c)) ∧ Below Wc.heap.size Wc w') := fun Wc hW => by
    refine (netsOf_any x s.nets ⟨l.a, l.n, ok⟩ vn Wc (Nat.lt_of_lt_of_le hx hW.size) ((hW.cell (p := ⟨x, 1, none⟩) hx).trans x1) ((Rd.of_owns (k := 3) (enc := encH) (fun _ => rfl) hd0 B.on).below hW) (by have := hI.n; omega) (fun q hq => (hI.na q hq).1) hL.a).mono ?_
    rintro e w' ⟨vv, rfl, o1, o2⟩
    obtain ⟨b, c, rfl, _, _⟩ := owns_slice o1
    exact ⟨⟨b, c, rfl⟩, o2⟩
  have hkk : ∀ q : Hd, (encH q).length = 3 := fun _ => rfl
  have hrd := Rd.of_owns hkk hd0 B.op
  obtain ⟨bq, cq, ev, hq1, hq2, hq3⟩ := hrd
  obtain ⟨gq, rfl, hq4, hq5⟩ := hq3 (by intro e; rw [e] at hk; simp at hk)
  have hk5 := hq5 k hk
  have hk6 : (s.pools.getD k hd0).a = l.a ∧ (s.pools.getD k hd0).n = l.n := by simpa [isH] using his
  have ROW : Hid (∀ wk, Below w.heap.size w wk → wk.cell? ⟨gq, k * 3, none⟩ = some (.int .u32 l.a) ∧ wk.cell? ⟨gq, k * 3 + 1, none⟩ = some (.int .i64 l.n) ∧ wk.cell? ⟨gq, k * 3 + 2, none⟩ = some (.string ok)) := fun wk hw =>
    ⟨(hw.cell (p := ⟨gq, k * 3, none⟩) hq4).trans (by rw [← hk6.1]; exact hk5 0 _ rfl), (hw.cell (p := ⟨gq, k * 3 + 1, none⟩) hq4).trans (by rw [← hk6.2]; exact hk5 1 _ rfl), (hw.cell (p := ⟨gq, k * 3 + 2, none⟩) hq4).trans (by rw [← hok]; exact hk5 2 _ rfl)⟩
  have hlen : s.pools.length ≤ 1000 := by have := hI.p; omega
  have hkz : (k : Int) < (s.pools.length : Int) := by omega
  have hkn : ¬ ((k : Int) < 0) := by omega
  have hk0 : (0 : Int) ≤ (k : Int) := by omega
  clear hq1 hq2 hq5 hk5 hk6 his hok
  subst ev
  have h4 : (0 : Int) < (((netsOf s.nets l.a l.n).length : Nat) : Int) := by have := List.length_pos_iff.2 h3; omega
  clear B
  unfold lnC
  go_enter Tryz.func59, Tryz.ntmps59
  go_wp2
  go_region_held3 (fun w' => w'.cell? ⟨x, 0, none⟩ = some (.slice (some ⟨gq, 0, none⟩) s.pools.length cq) ∧ w'.cell? ⟨w.heap.size, 3, none⟩ = some (.int .u32 l.a) ∧ w'.cell? ⟨w.heap.size, 4, none⟩ = some (.int .i64 l.n)) (go_keep) (first | (go_at_call 82; refine (HF.out _ (by repeat' (first | with_reducible assumption | with_reducible exact Below.refl _ _ | with_reducible apply Below.drew | with_reducible apply below_drewN | with_reducible apply Below.setCell | with_reducible apply Below.alloc | omega | (simp; done) | (simp; omega)))).mono ?_; rintro e w1 ⟨rfl, HQ⟩; have HB1 : Hid (Below (w.heap.size + 2) ((w.alloc (.cells #[.int .i64 l.v, .string l.t, .string l.o, .int .u32 l.a, .int .i64 l.n, .int .u32 l.d, .int .i64 l.g] 74)).alloc (.cells #[.int .i64 0, .slice none 0 0] 79)) w1) := bstep (by repeat' (first | with_reducible assumption | with_reducible exact Below.refl _ _ | with_reducible apply Below.drew | with_reducible apply below_drewN | with_reducible apply Below.setCell | with_reducible apply Below.alloc | omega | (simp; done) | (simp; omega))) (by simp) HQ; clear HQ; have HW1 : Hid (Below w.heap.size w w1) := (w0_below w l).trans (HB1.out.mono (by omega)); have LV1 := LIVE.out w1 HB1.out; have x0_1 := LV1.x0; have o_1 := LV1.o; have a_1 := LV1.a; have n_1 := LV1.n; have zx_1 := LV1.zx; have z0_1 := LV1.z0; have z1_1 := LV1.z1; have r0_1 := LV1.r0; have r1_1 := LV1.r1; have g0_1 := LV1.g0; have g1_1 := LV1.g1; obtain ⟨e0_1, e1_1, e2_1⟩ := ROW.out w1 HW1.out; clear LV1))
  all_goals (
    go_wp2
    go_region_held3 (fun w' => w'.cell? ⟨x, 0, none⟩ = some (.slice (some ⟨gq, 0, none⟩) s.pools.length cq) ∧ w'.cell? ⟨w.heap.size, 2, none⟩ = some (.string l.o) ∧ w'.cell? ⟨gq, k * 3, none⟩ = some (.int .u32 l.a) ∧ w'.cell? ⟨gq, k * 3 + 1, none⟩ = some (.int .i64 l.n) ∧ w'.cell? ⟨gq, k * 3 + 2, none⟩ = some (.string ok)) (go_keep) (first | (go_at_call 83; refine (HOW.out _ (by have hp := HW1.out; repeat' (first | with_reducible assumption | with_reducible exact Below.refl _ _ | with_reducible apply Below.drew | with_reducible apply below_drewN | with_reducible apply Below.setCell | with_reducible apply Below.alloc | omega | (simp; done) | (simp; omega)))).mono ?_; rintro e w2 ⟨rfl, HQ⟩; have HB2 : Hid (Below (w.heap.size + 2) ((w.alloc (.cells #[.int .i64 l.v, .string l.t, .string l.o, .int .u32 l.a, .int .i64 l.n, .int .u32 l.d, .int .i64 l.g] 74)).alloc (.cells #[.int .i64 0, .slice none 0 0] 79)) w2) := bstep (by have hp := HB1.out; repeat' (first | with_reducible assumption | with_reducible exact Below.refl _ _ | with_reducible apply Below.drew | with_reducible apply below_drewN | with_reducible apply Below.setCell | with_reducible apply Below.alloc | omega | (simp; done) | (simp; omega))) (by simp) HQ; clear HQ; have HW2 : Hid (Below w.heap.size w w2) := (w0_below w l).trans (HB2.out.mono (by omega)); have LV2 := LIVE.out w2 HB2.out; have x0_2 := LV2.x0; have zx_2 := LV2.zx; have z0_2 := LV2.z0; have z1_2 := LV2.z1; have o_2 := LV2.o; have r0_2 := LV2.r0; have r1_2 := LV2.r1; have g0_2 := LV2.g0; have g1_2 := LV2.g1; obtain ⟨e0_2, e1_2, e2_2⟩ := ROW.out w2 HW2.out; clear LV2))
    all_goals (
      go_wp2_with (first | (go_at_call 84; refine (HSUB.out _ (by have hp := HW2.out; repeat' (first | with_reducible assumption | with_reducible exact Below.refl _ _ | with_reducible apply Below.drew | with_reducible apply below_drewN | with_reducible apply Below.setCell | with_reducible apply Below.alloc | omega | (simp; done) | (simp; omega)))).mono ?_; rintro e w3 ⟨⟨bs, cs, rfl⟩, HQ⟩; have HB3 : Hid (Below (w.heap.size + 2) ((w.alloc (.cells #[.int .i64 l.v, .string l.t, .string l.o, .int .u32 l.a, .int .i64 l.n, .int .u32 l.d, .int .i64 l.g] 74)).alloc (.cells #[.int .i64 0, .slice none 0 0] 79)) w3) := bstep (by have hp := HB2.out; repeat' (first | with_reducible assumption | with_reducible exact Below.refl _ _ | with_reducible apply Below.drew | with_reducible apply below_drewN | with_reducible apply Below.setCell | with_reducible apply Below.alloc | omega | (simp; done) | (simp; omega))) (by simp) HQ; clear HQ; have HW3 : Hid (Below w.heap.size w w3) := (w0_below w l).trans (HB3.out.mono (by omega)); have LV3 := LIVE.out w3 HB3.out; have x0_3 := LV3.x0; have zx_3 := LV3.zx; have z0_3 := LV3.z0; have z1_3 := LV3.z1; have r0_3 := LV3.r0; have r1_3 := LV3.r1; have g0_3 := LV3.g0; have g1_3 := LV3.g1; obtain ⟨e0_3, e1_3, e2_3⟩ := ROW.out w3 HW3.out; clear LV3) | (go_at_call 31; refine (refuse_any 9 _).mono ?_; rintro e w9 ⟨rfl, HQ⟩; have HB9 : Hid (Below (w.heap.size + 2) ((w.alloc (.cells #[.int .i64 l.v, .string l.t, .string l.o, .int .u32 l.a, .int .i64 l.n, .int .u32 l.d, .int .i64 l.g] 74)).alloc (.cells #[.int .i64 0, .slice none 0 0] 79)) w9) := bstep (by have hp := HB3.out; repeat' (first | with_reducible assumption | with_reducible exact Below.refl _ _ | with_reducible apply Below.drew | with_reducible apply below_drewN | with_reducible apply Below.setCell | with_reducible apply Below.alloc | omega | (simp; done) | (simp; omega))) (by simp) HQ; clear HQ; have HW9 : Hid (Below w.heap.size w w9) := (w0_below w l).trans (HB9.out.mono (by omega)); have LV9 := LIVE.out w9 HB9.out; have r0_9 := LV9.r0; have r1_9 := LV9.r1; have g0_9 := LV9.g0; have g1_9 := LV9.g1; have z1_9 := LV9.z1; clear LV9))
      have hR := (LIVE.out w9 HB9.out).rb
      obtain ⟨kk0, kk1⟩ := two_set hR (.int .i64 9) (.slice none 0 0)
      have hfin := res_ref (l := l) 9 H.out HB9.out
      exact bodyPost_ret (v := .agg #[.int .i64 9, .slice none 0 0]) (by simp [results, Tryz.results59, go_sem, kk0, kk1]) rfl hfin))

set_option maxRecDepth 100000 in
set_option maxHeartbeats 2000000 in
theorem drop_ok (w : World) (x : Nat) (S : Nat → Prop) (s : Bk) (l : Ln) (hI : Inv s) (hL : LnOk l) (h : BkAt w x S s) (k : Nat) (ok : ByteArray) (hk : k < s.pools.length) (h1 : findH s.pools l.a l.n = k) (his : isH l.a l.n (s.pools.getD k hd0) = true) (hok : (s.pools.getD k hd0).o = ok) (h2 : ok = l.o) (h3 : (netsOf s.nets l.a l.n) = []) :
    Calls Tryz.prog 59 #[.pointer (some ⟨x, 0, none⟩), .agg (lnC l)] w (Res w x S ({ s with pools := delAt s.pools k }, okA)) := by
  obtain ⟨vp, vn, vl, c, B⟩ := h
  have hx := B.blk.lt
  have H : Hid (BkAt w x S s) := ⟨vp, vn, vl, c, B⟩
  have x0 : w.cell? ⟨x, 0, none⟩ = some vp := B.blk.cell 0
  have x1 : w.cell? ⟨x, 1, none⟩ = some vn := B.blk.cell 1
  have x2 : w.cell? ⟨x, 2, none⟩ = some vl := B.blk.cell 2
  have LIVE : Hid (∀ wk, Below (w.heap.size + 2) ((w.alloc (.cells #[.int .i64 l.v, .string l.t, .string l.o, .int .u32 l.a, .int .i64 l.n, .int .u32 l.d, .int .i64 l.g] 74)).alloc (.cells #[.int .i64 0, .slice none 0 0] 79)) wk → Live w wk x vp vn vl l) := live_of l B
  have HBA : Hid (BA w x S vp vn vl c s) := B
  have hxa : ¬ (x = w.heap.size) := by omega
  have hxb : ¬ (w.heap.size = x) := by omega
  have HF : Hid (∀ Wc, Below w.heap.size w Wc → Calls Tryz.prog 82 #[vp, .agg #[.int .u32 l.a, .int .i64 l.n]] Wc fun e w' => e = .returned (.int .i64 (findH s.pools l.a l.n)) ∧ Below Wc.heap.size Wc w') := fun Wc hW => findP s.pools l.a l.n vp Wc (fun q hq => (hI.pa q hq).1) hL.a ((Rd.of_owns (k := 3) (enc := encH) (fun _ => rfl) hd0 B.op).below hW)
  rw [h1] at HF
  have HOW : Hid (∀ Wc, Below w.heap.size w Wc → Calls Tryz.prog 83 #[.agg #[.int .u32 l.a, .int .i64 l.n, .string ok], .string l.o] Wc fun e w' => e = .returned (.bool (ok.toList == l.o.toList)) ∧ Below Wc.heap.size Wc w') := fun Wc hW => howned_any ⟨l.a, l.n, ok⟩ l.o Wc
  rw [beqB, decide_eq_true h2] at HOW
  clear h2
  have HSUB : Hid (∀ Wc, Below w.heap.size w Wc → Calls Tryz.prog 84 #[.pointer (some ⟨x, 0, none⟩), .agg #[.int .u32 l.a, .int .i64 l.n, .string ok]] Wc fun e w' => (∃ b c, e = .returned (.slice b (netsOf s.nets l.a l.n).length c)) ∧ Below Wc.heap.size Wc w') := fun Wc hW => by
    refine (netsOf_any x s.nets ⟨l.a, l.n, ok⟩ vn Wc (Nat.lt_of_lt_of_le hx hW.size) ((hW.cell (p := ⟨x, 1, none⟩) hx).trans x1) ((Rd.of_owns (k := 3) (enc := encH) (fun _ => rfl) hd0 B.on).below hW) (by have := hI.n; omega) (fun q hq => (hI.na q hq).1) hL.a).mono ?_
    rintro e w' ⟨vv, rfl, o1, o2⟩
    obtain ⟨b, c, rfl, _, _⟩ := owns_slice o1
    exact ⟨⟨b, c, rfl⟩, o2⟩
  rw [h3] at HSUB
  have HIN : Hid (∀ Wc, Below w.heap.size w Wc → Calls Tryz.prog 85 #[vp, .int .i64 k, .int .i64 ((k : Int) + 1)] Wc fun e w' => ∃ g cap, e = .returned (.slice (some ⟨g, 0, none⟩) (s.pools.length - 1) cap) ∧ w'.ownsRow 0 142 3 (.slice (some ⟨g, 0, none⟩) (s.pools.length - 1) cap) (s.pools.length - 1) ((delAt s.pools k).flatMap encH) ∧ Wc.grownBy w' vp.ownBlock ∧ ∀ b, (Value.slice (some ⟨g, 0, none⟩) (s.pools.length - 1) cap).ownBlock = some b → vp.ownBlock = some b ∨ Wc.heap.size ≤ b) := fun Wc hW => delpools (owns_below B.op hW) k hk (by have := hI.p; omega)
  have FIX : Hid (∀ (W : World) v, W.ownsRow 0 142 3 v (s.pools.length - 1) ((delAt s.pools k).flatMap encH) → W.ownsRow 0 142 3 v (delAt s.pools k).length ((delAt s.pools k).flatMap encH)) := fun W v q => by rw [delAt_len _ _ hk]; exact q
  have NX : Hid (vp.ownBlock ≠ some x) := fun e => ((B.apart.1) x e).1 rfl
  have NR : Hid (∀ b, vp.ownBlock = some b → b < w.heap.size) := fun b e => (owns_lt B.op b e).1
  generalize hob : vp.ownBlock = ob at HIN NX NR
  have HOB : Hid (vp.ownBlock = ob) := hob
  clear hob
  have hkk : ∀ q : Hd, (encH q).length = 3 := fun _ => rfl
  have hrd := Rd.of_owns hkk hd0 B.op
  obtain ⟨bq, cq, ev, hq1, hq2, hq3⟩ := hrd
  obtain ⟨gq, rfl, hq4, hq5⟩ := hq3 (by intro e; rw [e] at hk; simp at hk)
  have hk5 := hq5 k hk
  have hk6 : (s.pools.getD k hd0).a = l.a ∧ (s.pools.getD k hd0).n = l.n := by simpa [isH] using his
  have ROW : Hid (∀ wk, Below w.heap.size w wk → wk.cell? ⟨gq, k * 3, none⟩ = some (.int .u32 l.a) ∧ wk.cell? ⟨gq, k * 3 + 1, none⟩ = some (.int .i64 l.n) ∧ wk.cell? ⟨gq, k * 3 + 2, none⟩ = some (.string ok)) := fun wk hw =>
    ⟨(hw.cell (p := ⟨gq, k * 3, none⟩) hq4).trans (by rw [← hk6.1]; exact hk5 0 _ rfl), (hw.cell (p := ⟨gq, k * 3 + 1, none⟩) hq4).trans (by rw [← hk6.2]; exact hk5 1 _ rfl), (hw.cell (p := ⟨gq, k * 3 + 2, none⟩) hq4).trans (by rw [← hok]; exact hk5 2 _ rfl)⟩
  have hlen : s.pools.length ≤ 1000 := by have := hI.p; omega
  have hkz : (k : Int) < (s.pools.length : Int) := by omega
  have hkn : ¬ ((k : Int) < 0) := by omega
  have hk0 : (0 : Int) ≤ (k : Int) := by omega
  clear hq1 hq2 hq5 hk5 hk6 his hok
  subst ev
  have hw1 : IntKind.i64.wrap ((k : Int) + 1) = (k : Int) + 1 := by rw [IntKind.wrap_i64]; omega
  clear B
  unfold lnC
  go_enter Tryz.func59, Tryz.ntmps59
  go_wp2
  go_region_held3 (fun w' => w'.cell? ⟨x, 0, none⟩ = some (.slice (some ⟨gq, 0, none⟩) s.pools.length cq) ∧ w'.cell? ⟨w.heap.size, 3, none⟩ = some (.int .u32 l.a) ∧ w'.cell? ⟨w.heap.size, 4, none⟩ = some (.int .i64 l.n)) (go_keep) (first | (go_at_call 82; refine (HF.out _ (by repeat' (first | with_reducible assumption | with_reducible exact Below.refl _ _ | with_reducible apply Below.drew | with_reducible apply below_drewN | with_reducible apply Below.setCell | with_reducible apply Below.alloc | omega | (simp; done) | (simp; omega)))).mono ?_; rintro e w1 ⟨rfl, HQ⟩; have HB1 : Hid (Below (w.heap.size + 2) ((w.alloc (.cells #[.int .i64 l.v, .string l.t, .string l.o, .int .u32 l.a, .int .i64 l.n, .int .u32 l.d, .int .i64 l.g] 74)).alloc (.cells #[.int .i64 0, .slice none 0 0] 79)) w1) := bstep (by repeat' (first | with_reducible assumption | with_reducible exact Below.refl _ _ | with_reducible apply Below.drew | with_reducible apply below_drewN | with_reducible apply Below.setCell | with_reducible apply Below.alloc | omega | (simp; done) | (simp; omega))) (by simp) HQ; clear HQ; have HW1 : Hid (Below w.heap.size w w1) := (w0_below w l).trans (HB1.out.mono (by omega)); have LV1 := LIVE.out w1 HB1.out; have x0_1 := LV1.x0; have o_1 := LV1.o; have a_1 := LV1.a; have n_1 := LV1.n; have zx_1 := LV1.zx; have z0_1 := LV1.z0; have z1_1 := LV1.z1; have r0_1 := LV1.r0; have r1_1 := LV1.r1; have g0_1 := LV1.g0; have g1_1 := LV1.g1; obtain ⟨e0_1, e1_1, e2_1⟩ := ROW.out w1 HW1.out; clear LV1))
  all_goals (
    go_wp2
    go_region_held3 (fun w' => w'.cell? ⟨x, 0, none⟩ = some (.slice (some ⟨gq, 0, none⟩) s.pools.length cq) ∧ w'.cell? ⟨w.heap.size, 2, none⟩ = some (.string l.o) ∧ w'.cell? ⟨gq, k * 3, none⟩ = some (.int .u32 l.a) ∧ w'.cell? ⟨gq, k * 3 + 1, none⟩ = some (.int .i64 l.n) ∧ w'.cell? ⟨gq, k * 3 + 2, none⟩ = some (.string ok)) (go_keep) (first | (go_at_call 83; refine (HOW.out _ (by have hp := HW1.out; repeat' (first | with_reducible assumption | with_reducible exact Below.refl _ _ | with_reducible apply Below.drew | with_reducible apply below_drewN | with_reducible apply Below.setCell | with_reducible apply Below.alloc | omega | (simp; done) | (simp; omega)))).mono ?_; rintro e w2 ⟨rfl, HQ⟩; have HB2 : Hid (Below (w.heap.size + 2) ((w.alloc (.cells #[.int .i64 l.v, .string l.t, .string l.o, .int .u32 l.a, .int .i64 l.n, .int .u32 l.d, .int .i64 l.g] 74)).alloc (.cells #[.int .i64 0, .slice none 0 0] 79)) w2) := bstep (by have hp := HB1.out; repeat' (first | with_reducible assumption | with_reducible exact Below.refl _ _ | with_reducible apply Below.drew | with_reducible apply below_drewN | with_reducible apply Below.setCell | with_reducible apply Below.alloc | omega | (simp; done) | (simp; omega))) (by simp) HQ; clear HQ; have HW2 : Hid (Below w.heap.size w w2) := (w0_below w l).trans (HB2.out.mono (by omega)); have LV2 := LIVE.out w2 HB2.out; have x0_2 := LV2.x0; have zx_2 := LV2.zx; have z0_2 := LV2.z0; have z1_2 := LV2.z1; have o_2 := LV2.o; have r0_2 := LV2.r0; have r1_2 := LV2.r1; have g0_2 := LV2.g0; have g1_2 := LV2.g1; obtain ⟨e0_2, e1_2, e2_2⟩ := ROW.out w2 HW2.out; clear LV2))
    all_goals (
      go_wp2_with (first | (go_at_call 84; refine (HSUB.out _ (by have hp := HW2.out; repeat' (first | with_reducible assumption | with_reducible exact Below.refl _ _ | with_reducible apply Below.drew | with_reducible apply below_drewN | with_reducible apply Below.setCell | with_reducible apply Below.alloc | omega | (simp; done) | (simp; omega)))).mono ?_; rintro e w3 ⟨⟨bs, cs, rfl⟩, HQ⟩; have HB3 : Hid (Below (w.heap.size + 2) ((w.alloc (.cells #[.int .i64 l.v, .string l.t, .string l.o, .int .u32 l.a, .int .i64 l.n, .int .u32 l.d, .int .i64 l.g] 74)).alloc (.cells #[.int .i64 0, .slice none 0 0] 79)) w3) := bstep (by have hp := HB2.out; repeat' (first | with_reducible assumption | with_reducible exact Below.refl _ _ | with_reducible apply Below.drew | with_reducible apply below_drewN | with_reducible apply Below.setCell | with_reducible apply Below.alloc | omega | (simp; done) | (simp; omega))) (by simp) HQ; clear HQ; have HW3 : Hid (Below w.heap.size w w3) := (w0_below w l).trans (HB3.out.mono (by omega)); have LV3 := LIVE.out w3 HB3.out; have x0_3 := LV3.x0; have zx_3 := LV3.zx; have z0_3 := LV3.z0; have z1_3 := LV3.z1; have r0_3 := LV3.r0; have r1_3 := LV3.r1; have g0_3 := LV3.g0; have g1_3 := LV3.g1; obtain ⟨e0_3, e1_3, e2_3⟩ := ROW.out w3 HW3.out; clear LV3) | (go_at_call 85; refine (HIN.out _ (by have hp := HW3.out; repeat' (first | with_reducible assumption | with_reducible exact Below.refl _ _ | with_reducible apply Below.drew | with_reducible apply below_drewN | with_reducible apply Below.setCell | with_reducible apply Below.alloc | omega | (simp; done) | (simp; omega)))).mono ?_; rintro e w4 ⟨g2, cap2, rfl, o1, o2, o3⟩; have LV4 := (LIVE.out _ (by have hp := HB3.out; repeat' (first | with_reducible assumption | with_reducible exact Below.refl _ _ | with_reducible apply Below.drew | with_reducible apply below_drewN | with_reducible apply Below.setCell | with_reducible apply Below.alloc | omega | (simp; done) | (simp; omega)))).far o2 NX.out NR.out; have HG : Hid (∃ Wc, Below w.heap.size w Wc ∧ w.heap.size + 2 ≤ Wc.heap.size ∧ Wc.grownBy w4 ob ∧ ∀ b, (Value.slice (some ⟨g2, 0, none⟩) (s.pools.length - 1) cap2).ownBlock = some b → ob = some b ∨ Wc.heap.size ≤ b) := ⟨_, by have hp := HW3.out; repeat' (first | with_reducible assumption | with_reducible exact Below.refl _ _ | with_reducible apply Below.drew | with_reducible apply below_drewN | with_reducible apply Below.setCell | with_reducible apply Below.alloc | omega | (simp; done) | (simp; omega)), by have hz := HB3.out.size; simp at hz ⊢; omega, o2, o3⟩; have HO : Hid (w4.ownsRow 0 142 3 (.slice (some ⟨g2, 0, none⟩) (s.pools.length - 1) cap2) (s.pools.length - 1) ((delAt s.pools k).flatMap encH)) := o1; have RB4 : Hid (Blk w4 (w.heap.size + 1) #[.int .i64 0, .slice none 0 0] 79) := LV4.rb; have x_4 := LV4.x0; have f_4 := LV4.f0; have a_4 := LV4.a; have n_4 := LV4.n; have o_4 := LV4.o; have zx_4 := LV4.zx; have z1_4 := LV4.z1; clear LV4 o1 o2 o3) | (go_at_call 81; refine (ok_any none 0 0 _).mono ?_; rintro e w5 ⟨rfl, HQ⟩; have HQ5 : Hid (Below w4.heap.size (w4.setCell ⟨x, 0, none⟩ (.slice (some ⟨g2, 0, none⟩) (s.pools.length - 1) cap2)) w5) := HQ.mono (by simp [World.setCell]); have RB5 : Blk w5 (w.heap.size + 1) #[.int .i64 0, .slice none 0 0] 79 := (HQ5.out.block _ z1_4).trans ((Below.heap_setCell _ _ _ _ (fun e => by have e2 : w.heap.size + 1 = x := e; omega)).trans RB4.out); clear HQ; have HR5 : Hid (Blk w5 (w.heap.size + 1) #[.int .i64 0, .slice none 0 0] 79) := RB5; have r0_5 : w5.cell? ⟨w.heap.size + 1, 0, none⟩ = some (.int .i64 0) := RB5.cell 0; have r1_5 : w5.cell? ⟨w.heap.size + 1, 1, none⟩ = some (.slice none 0 0) := RB5.cell 1; have g0_5 : w5.frozen? ⟨w.heap.size + 1, 0, none⟩ = false := RB5.frozen 0; have g1_5 : w5.frozen? ⟨w.heap.size + 1, 1, none⟩ = false := RB5.frozen 1; clear RB5))
      obtain ⟨kk0, kk1⟩ := two_set HR5.out (.int .i64 0) (.slice none 0 0)
      obtain ⟨Wc, hc1, hc2, hc3, hc4⟩ := HG.out
      rw [← HOB.out] at hc3 hc4
      have hfin := res_put0 HBA.out hc1 hc2 hc3 (FIX.out _ _ HO.out) hc4 HQ5.out
      exact bodyPost_ret (v := .agg #[.int .i64 0, .slice none 0 0]) (by simp [results, Tryz.results59, go_sem, kk0, kk1]) rfl hfin))

theorem dropPool_any (w : World) (x : Nat) (S : Nat → Prop) (s : Bk) (l : Ln) (hI : Inv s) (hL : LnOk l) (h : BkAt w x S s) : Calls Tryz.prog 59 #[.pointer (some ⟨x, 0, none⟩), .agg (lnC l)] w (Res w x S (doDrop s l)) := by
  unfold doDrop
  rcases fi_cases (isH l.a l.n) s.pools hd0 with ⟨e, _⟩ | ⟨k, hk, e, hp, _⟩
  · have e1 : findH s.pools l.a l.n = -1 := e
    rw [if_pos (by rw [e1]; decide)]; exact drop_none w x S s l hI hL h e1
  · have e1 : findH s.pools l.a l.n = k := e
    have e2 : (findH s.pools l.a l.n).toNat = k := by rw [e1]; omega
    rw [if_neg (by rw [e1]; omega), e2]
    by_cases h2 : (s.pools.getD k hd0).o = l.o
    · rw [if_neg (by rw [h2]; exact fun q => q rfl)]
      by_cases h3 : netsOf s.nets l.a l.n = []
      · rw [if_neg (by rw [h3]; exact fun q => q rfl)]; exact drop_ok w x S s l hI hL h k _ hk e1 hp rfl h2 h3
      · rw [if_pos h3]; exact drop_busy w x S s l hI hL h k _ hk e1 hp rfl h2 h3
    · rw [if_pos h2]; exact drop_owner w x S s l hI hL h k _ hk e1 hp rfl h2
end Go.Proofs.YtlikdnmikdldfaaGreatDoor
namespace Go.Proofs.YtlikdnmikdldfaaGreatDoor
open Go.ChangeShapes Go.WideShapes Go.ChangeAt Go.RowKit
set_option linter.unusedVariables false
set_option linter.unusedSimpArgs false

/-- what the array of an address's numbers holds behind k rounds -/
def Sx (a : Int) (k j : Nat) : ByteArray := if 4 - k ≤ j then bs (Lib.itoa (a / 256 ^ (3 - j) % 256)) else ⟨#[]⟩
theorem mask255 (x : Int) (h0 : 0 ≤ x) (h1 : x < 4294967296) : bits .and .u32 x 255 = x % 256 := by
  rw [u32_and x 255 h0 h1 (by omega) (by omega), show (255 : Int).toNat = 255 from rfl, nat_mask8]; omega

theorem sx_step {a : Int} {H : Nat} {wr w2 : World} {st : ByteArray} (k : Nat) (hsz : H < wr.heap.size) (hb2 : Below wr.heap.size wr w2) (HX : ∀ j, j < 4 → wr.cell? ⟨H, j, none⟩ = some (.string (Sx a k j)) ∧ wr.frozen? ⟨H, j, none⟩ = false) (hk : k < 4) (hst : st = bs (Lib.itoa (a / 256 ^ k % 256))) :
    ∀ j, j < 4 → (w2.setCell ⟨H, 3 - k, none⟩ (.string st)).cell? ⟨H, j, none⟩ = some (.string (Sx a (k + 1) j)) ∧ (w2.setCell ⟨H, 3 - k, none⟩ (.string st)).frozen? ⟨H, j, none⟩ = false := by
  intro j hj
  obtain ⟨hc, hf⟩ := HX j hj
  refine ⟨?_, ?_⟩
  · by_cases e : j = 3 - k
    · subst e
      rw [World.cell?_setCell_same w2 ⟨H, 3 - k, none⟩ (.string st) (u := .string (Sx a k (3 - k))) (bcell' hb2 hsz hc), hst]
      unfold Sx
      rw [if_pos (by omega), show 3 - (3 - k) = k by omega]
    · rw [World.cell?_setCell_other w2 ⟨H, 3 - k, none⟩ ⟨H, j, none⟩ (.string st) (by intro h; injection h with _ h2 _; omega), bcell' hb2 hsz hc]
      unfold Sx
      by_cases h : 4 - k ≤ j
      · rw [if_pos h, if_pos (by omega)]
      · rw [if_neg h, if_neg (by omega)]
  · rw [World.frozen?_setCell]
    exact (hb2.frozen (p := ⟨H, j, none⟩) hsz).trans hf
theorem itoa_dec (x : Int) (h : 0 ≤ x) : Lib.itoa x = dec x.toNat := by unfold Lib.itoa dec; rw [if_neg (by omega)]
theorem sx_dot (a : Int) (h0 : 0 ≤ a) (h1 : a < 4294967296) : Lib.join ([Sx a 4 0, Sx a 4 1, Sx a 4 2, Sx a 4 3].map (·.data.toList)) (⟨#[46]⟩ : ByteArray).data.toList = dot a.toNat := by
  have e : ∀ j, Sx a 4 j = bs (Lib.itoa (a / 256 ^ (3 - j) % 256)) := fun j => by unfold Sx; rw [if_pos (by omega)]
  simp only [List.map_cons, List.map_nil, e, bs_data]
  have e0 : a / 256 ^ (3 - 0) % 256 = a / 16777216 := by rw [show (256 : Int) ^ (3 - 0) = 16777216 from by decide]; omega
  have e1 : a / 256 ^ (3 - 1) % 256 = a / 65536 % 256 := by rw [show (256 : Int) ^ (3 - 1) = 65536 from by decide]
  have e2 : a / 256 ^ (3 - 2) % 256 = a / 256 % 256 := by rw [show (256 : Int) ^ (3 - 2) = 256 from by decide]
  have e3 : a / 256 ^ (3 - 3) % 256 = a % 256 := by rw [show (256 : Int) ^ (3 - 3) = 1 from by decide, Int.ediv_one]
  rw [e0, e1, e2, e3, itoa_dec (a / 16777216) (by omega), itoa_dec (a / 65536 % 256) (by omega), itoa_dec (a / 256 % 256) (by omega), itoa_dec (a % 256) (by omega)]
  rw [show (a / 16777216).toNat = a.toNat / 16777216 by omega, show (a / 65536 % 256).toNat = a.toNat / 65536 % 256 by omega, show (a / 256 % 256).toNat = a.toNat / 256 % 256 by omega, show (a % 256).toNat = a.toNat % 256 by omega]
  simp [Lib.join, List.intercalate, dot]
theorem dot_len (a : Nat) (h : a < 4294967296) : (dot a).length ≤ 15 := by
  rw [← tl_dot a h]; exact tl_len a 3

set_option maxRecDepth 1000000 in
set_option maxHeartbeats 1000000 in
theorem wa_any (a : Int) (w : World) (E0 : Env w) (h0 : 0 ≤ a) (h1 : a < 4294967296) :
    Calls Tryz.prog 97 #[.int .u32 a] w fun e w' => e = .returned (.string (bs (dot a.toNat))) ∧ Below w.heap.size w w' := by
  have E : Hid (Env w) := E0
  clear E0
  go_enter Tryz.func97, Tryz.ntmps97
  go_wp2
  go_loopw [5] (fun i wr => ∃ k : Nat, k ≤ 4 ∧ i = .int .i64 k ∧ w.heap.size < wr.heap.size ∧ Below w.heap.size w wr ∧ Hid (∀ j, j < 4 → wr.cell? ⟨w.heap.size, j, none⟩ = some (.string (Sx a k j)) ∧ wr.frozen? ⟨w.heap.size, j, none⟩ = false)) (fun i _ => 4 - (intOf i).toNat)
  case atStart =>
    refine ⟨0, by omega, rfl, by simp, (by repeat' (first | with_reducible assumption | with_reducible exact Below.refl _ _ | with_reducible apply Below.drew | with_reducible apply below_drewN | with_reducible apply Below.setCell | with_reducible apply Below.alloc | omega | (simp; done) | (simp; omega))), fun j hj => ?_⟩
    have : j = 0 ∨ j = 1 ∨ j = 2 ∨ j = 3 := by omega
    rcases this with rfl | rfl | rfl | rfl <;> simp [go_sem, Sx] <;> rfl
  case round =>
    obtain ⟨k, hk, rfl, hsz, hb, HX⟩ := hrel
    by_cases hlt : k < 4
    · have E1 : Hid (Env wr) := E.out.mono hb
      have hk4 : k = 0 ∨ k = 1 ∨ k = 2 ∨ k = 3 := by omega
      have hm0 := mask255 a h0 h1
      have hm1 := mask255 (a / 256) (by omega) (by omega)
      have hm2 := mask255 (a / 65536) (by omega) (by omega)
      have hm3 := mask255 (a / 16777216) (by omega) (by omega)
      rcases hk4 with rfl | rfl | rfl | rfl
      · obtain ⟨hc, hf⟩ := HX.out 3 (by omega)
        go_wp2_with (go_at_call 138; refine (itoa_any _ _ E1.out (by omega) (by omega)).mono ?_; rintro e w2 ⟨rfl, hb2⟩; have hc2 := bcell' hb2 hsz hc; have hf2 := (hb2.frozen (p := ⟨w.heap.size, 3, none⟩) hsz).trans hf)
        go_roundw
        case rel => exact ⟨1, by omega, rfl, by have := hb2.size; simp; omega, (hb.trans (hb2.mono hb.size)).setCell (by simp) _, sx_step 0 hsz hb2 HX.out (by omega) (by simp)⟩
        case measure => simp [intOf]
      · obtain ⟨hc, hf⟩ := HX.out 2 (by omega)
        go_wp2_with (go_at_call 138; refine (itoa_any _ _ E1.out (by omega) (by omega)).mono ?_; rintro e w2 ⟨rfl, hb2⟩; have hc2 := bcell' hb2 hsz hc; have hf2 := (hb2.frozen (p := ⟨w.heap.size, 2, none⟩) hsz).trans hf)
        go_roundw
        case rel => exact ⟨2, by omega, rfl, by have := hb2.size; simp; omega, (hb.trans (hb2.mono hb.size)).setCell (by simp) _, sx_step 1 hsz hb2 HX.out (by omega) (by simp)⟩
        case measure => simp [intOf]
      · obtain ⟨hc, hf⟩ := HX.out 1 (by omega)
        go_wp2_with (go_at_call 138; refine (itoa_any _ _ E1.out (by omega) (by omega)).mono ?_; rintro e w2 ⟨rfl, hb2⟩; have hc2 := bcell' hb2 hsz hc; have hf2 := (hb2.frozen (p := ⟨w.heap.size, 1, none⟩) hsz).trans hf)
        go_roundw
        case rel => exact ⟨3, by omega, rfl, by have := hb2.size; simp; omega, (hb.trans (hb2.mono hb.size)).setCell (by simp) _, sx_step 2 hsz hb2 HX.out (by omega) (by simp)⟩
        case measure => simp [intOf]
      · obtain ⟨hc, hf⟩ := HX.out 0 (by omega)
        go_wp2_with (go_at_call 138; refine (itoa_any _ _ E1.out (by omega) (by omega)).mono ?_; rintro e w2 ⟨rfl, hb2⟩; have hc2 := bcell' hb2 hsz hc; have hf2 := (hb2.frozen (p := ⟨w.heap.size, 0, none⟩) hsz).trans hf)
        go_roundw
        case rel => exact ⟨4, by omega, rfl, by have := hb2.size; simp; omega, (hb.trans (hb2.mono hb.size)).setCell (by simp) _, sx_step 3 hsz hb2 HX.out (by omega) (by simp)⟩
        case measure => simp [intOf]
    · obtain rfl : k = 4 := by omega
      have c0 := (HX.out 0 (by omega)).1
      have c1 := (HX.out 1 (by omega)).1
      have c2 := (HX.out 2 (by omega)).1
      have c3 := (HX.out 3 (by omega)).1
      have hj : Hid (Calls Tryz.prog 139 #[.slice (some ⟨w.heap.size, 0, none⟩) 4 4, .string ⟨#[46]⟩] wr fun e w' => e = .returned (.string (bs (dot a.toNat))) ∧ Below wr.heap.size wr w') := by
        have hd := sx_dot a h0 h1
        have h := Tryz.strings_Join w.heap.size 0 4 [Sx a 4 0, Sx a 4 1, Sx a 4 2, Sx a 4 3] ⟨#[46]⟩ wr (fun j x hj => by
          match j, hj with
          | 0, hj => cases hj; simpa using c0
          | 1, hj => cases hj; simpa using c1
          | 2, hj => cases hj; simpa using c2
          | 3, hj => cases hj; simpa using c3
          | j + 4, hj => simp at hj) hsz (by simp) (by simp) (by rw [hd]; have := dot_len a.toNat (by omega); omega)
        rw [hd] at h
        exact h
      clear c0 c1 c2 c3
      go_wp2_with (go_at_call 139; refine hj.out.mono ?_; rintro e w2 ⟨rfl, hb2⟩)
      go_ret
      exact ⟨rfl, hb.trans (hb2.mono hb.size)⟩
end Go.Proofs.YtlikdnmikdldfaaGreatDoor
namespace Go.Proofs.YtlikdnmikdldfaaGreatDoor
open Go.ChangeShapes Go.WideShapes Go.ChangeAt Go.RowKit
set_option linter.unusedVariables false
set_option linter.unusedSimpArgs false
attribute [local go_sem ↓] Go.wp_at_zero Go.wp_at_succ

set_option maxHeartbeats 400000 in
theorem bwrite_no (a n : Int) (w : World) (ha : 0 ≤ a) (hb : a < 4294967296) (hr : rt a n = false) :
    Calls Tryz.prog 131 #[.agg #[.int .u32 a, .int .i64 n]] w fun e w' => e = .returned (.tuple #[.string ⟨#[]⟩, .int .i64 2]) ∧ Below w.heap.size w w' := by
  go_enter Tryz.func131, Tryz.ntmps131
  go_wp2_with (go_at_call 165; refine (right_any _ _ _ ha hb).mono ?_; rintro e w1 ⟨rfl, hb1⟩)
  go_ret2
  exact ⟨rfl, (by have hq := hb1.mono (B' := w.heap.size) (by first | omega | (simp; done) | (simp; omega)); have hq2 := Below.trans (B := w.heap.size) (a := w) (by repeat' (first | with_reducible assumption | with_reducible exact Below.refl _ _ | with_reducible apply Below.drew | with_reducible apply below_drewN | with_reducible apply Below.setCell | with_reducible apply Below.alloc | omega | (simp; done) | (simp; omega))) hq; clear hq; repeat' (first | with_reducible assumption | with_reducible exact Below.refl _ _ | with_reducible apply Below.drew | with_reducible apply below_drewN | with_reducible apply Below.setCell | with_reducible apply Below.alloc | omega | (simp; done) | (simp; omega)))⟩

set_option maxHeartbeats 1000000 in
theorem bwrite_yes (a n : Int) (w : World) (E0 : Env w) (ha : 0 ≤ a) (hb : a < 4294967296) (hr : rt a n = true) :
    Calls Tryz.prog 131 #[.agg #[.int .u32 a, .int .i64 n]] w fun e w' => e = .returned (.tuple #[.string (bs (wr a.toNat n.toNat)), .int .i64 0]) ∧ Below w.heap.size w w' := by
  have E : Hid (Env w) := E0
  clear E0
  obtain ⟨n0, n1, n2⟩ := rt_iff.1 hr
  clear n2
  have hd : (bs (dot a.toNat)).size ≤ 15 := by rw [bs_size]; exact dot_len _ (by omega)
  have hn : (bs (Lib.itoa n)).size ≤ 3 := by rw [bs_size, itoa_dec n n0]; exact dec_len3 _ (by omega)
  have hq : Hid (bs (dot a.toNat) ++ (⟨#[47]⟩ : ByteArray) ++ bs (Lib.itoa n) = bs (wr a.toNat n.toNat)) := (by rw [itoa_dec n n0]; exact wr_cat _ _ : bs (dot a.toNat) ++ (⟨#[47]⟩ : ByteArray) ++ bs (Lib.itoa n) = bs (wr a.toNat n.toNat))
  have hc1 : ¬ 9223372036854775807 < (bs (dot a.toNat)).size + 1 := by omega
  have hc2 : ¬ 9223372036854775807 < (bs (dot a.toNat)).size + 1 + (bs (Lib.itoa n)).size := by omega
  have hc3 : ¬ 9223372036854775807 < (bs (dot a.toNat)).size + (⟨#[47]⟩ : ByteArray).size := by rw [show (⟨#[47]⟩ : ByteArray).size = 1 from rfl]; omega
  have hc4 : ¬ 9223372036854775807 < (bs (dot a.toNat) ++ (⟨#[47]⟩ : ByteArray)).size + (bs (Lib.itoa n)).size := by rw [ByteArray.size_append, show (⟨#[47]⟩ : ByteArray).size = 1 from rfl]; omega
  go_enter Tryz.func131, Tryz.ntmps131
  go_wp2_with (go_at_call 165; refine (right_any _ _ _ ha hb).mono ?_; rintro e w1 ⟨rfl, hb1⟩; obtain ⟨hc, hf⟩ := bcell hb1; have c1_0_0 : w1.cell? ⟨w.heap.size, 0, none⟩ = some (.int .u32 a) := (by rw [hc _ _ (by first | omega | (simp; done) | (simp; omega))]; first | assumption | (rw [World.cell?_alloc_past _ _ _ (by omega)]; assumption) | (simp [go_sem, *]; done)); have c1_0_1 : w1.cell? ⟨w.heap.size, 1, none⟩ = some (.int .i64 n) := (by rw [hc _ _ (by first | omega | (simp; done) | (simp; omega))]; first | assumption | (rw [World.cell?_alloc_past _ _ _ (by omega)]; assumption) | (simp [go_sem, *]; done)); have z1_0 : w.heap.size < w1.heap.size := (by have := hb1.size; (try simp at this); omega); clear hc hf; have q1 : Hid (Below w.heap.size w w1) := Below.trans (B := w.heap.size) (a := w) (by repeat' (first | with_reducible assumption | with_reducible exact Below.refl _ _ | with_reducible apply Below.drew | with_reducible apply below_drewN | with_reducible apply Below.setCell | with_reducible apply Below.alloc | omega | (simp; done) | (simp; omega))) (hb1.mono (by simp)); have Ed : Hid (Env w1.drew) := (E.out.mono q1.out).mono (by repeat' (first | with_reducible assumption | with_reducible exact Below.refl _ _ | with_reducible apply Below.drew | with_reducible apply below_drewN | with_reducible apply Below.setCell | with_reducible apply Below.alloc | omega | (simp; done) | (simp; omega))))
  go_region_held3 (fun w' => w'.cell? ⟨w.heap.size, 0, none⟩ = some (.int .u32 a) ∧ w'.cell? ⟨w.heap.size, 1, none⟩ = some (.int .i64 n)) (go_keep) ((first | (go_at_call 97; refine (wa_any a _ (by first | exact E4.out | exact Ed.out) ha hb).mono ?_; rintro e w3 ⟨rfl, hb3⟩; have c3_0_0 : w3.cell? ⟨w.heap.size, 0, none⟩ = some (.int .u32 a) := (by first | exact (hb3.cell (p := ⟨w.heap.size, 0, none⟩) (by first | omega | (simp; omega))).trans c4_0_0 | exact (hb3.cell (p := ⟨w.heap.size, 0, none⟩) (by simp; omega)).trans (by simpa using c1_0_0)); have c3_0_1 : w3.cell? ⟨w.heap.size, 1, none⟩ = some (.int .i64 n) := (by first | exact (hb3.cell (p := ⟨w.heap.size, 1, none⟩) (by first | omega | (simp; omega))).trans c4_0_1 | exact (hb3.cell (p := ⟨w.heap.size, 1, none⟩) (by simp; omega)).trans (by simpa using c1_0_1)); have z3_0 : w.heap.size < w3.heap.size := (by have := hb3.size; (try simp at this); omega); have q3 : Hid (Below w.heap.size w w3) := (by first | exact q4.out.trans (hb3.mono (by omega)) | exact (Below.drew q1.out).trans (hb3.mono (by simp; omega))); have E3 : Hid (Env w3) := (by first | exact E4.out.mono hb3 | exact Ed.out.mono hb3)) | (go_at_call 138; refine (itoa_any n _ (by first | exact E3.out | exact Ed.out) (by omega) (by omega)).mono ?_; rintro e w4 ⟨rfl, hb4⟩; have c4_0_0 : w4.cell? ⟨w.heap.size, 0, none⟩ = some (.int .u32 a) := (by first | exact (hb4.cell (p := ⟨w.heap.size, 0, none⟩) (by first | omega | (simp; omega))).trans c3_0_0 | exact (hb4.cell (p := ⟨w.heap.size, 0, none⟩) (by simp; omega)).trans (by simpa using c1_0_0)); have c4_0_1 : w4.cell? ⟨w.heap.size, 1, none⟩ = some (.int .i64 n) := (by first | exact (hb4.cell (p := ⟨w.heap.size, 1, none⟩) (by first | omega | (simp; omega))).trans c3_0_1 | exact (hb4.cell (p := ⟨w.heap.size, 1, none⟩) (by simp; omega)).trans (by simpa using c1_0_1)); have z4_0 : w.heap.size < w4.heap.size := (by have := hb4.size; (try simp at this); omega); have q4 : Hid (Below w.heap.size w w4) := (by first | exact q3.out.trans (hb4.mono (by omega)) | exact (Below.drew q1.out).trans (hb4.mono (by simp; omega))); have E4 : Hid (Env w4) := (by first | exact E3.out.mono hb4 | exact Ed.out.mono hb4))))
  all_goals (go_wp2; rw [hq.out]; go_ret2; first | exact ⟨rfl, q4.out⟩ | exact ⟨rfl, q3.out⟩)

theorem bwrite_any (a n : Int) (w : World) (E : Env w) (ha : 0 ≤ a) (hb : a < 4294967296) :
    Calls Tryz.prog 131 #[.agg #[.int .u32 a, .int .i64 n]] w fun e w' => e = .returned (.tuple #[.string (wrS a n), .int .i64 (wrE a n)]) ∧ Below w.heap.size w w' := by
  rcases hr : rt a n with _ | _
  · have h := bwrite_no a n w ha hb hr
    simpa [wrS, wrE, hr] using h
  · have h := bwrite_yes a n w E ha hb hr
    simpa [wrS, wrE, hr] using h
end Go.Proofs.YtlikdnmikdldfaaGreatDoor
namespace Go.Proofs.YtlikdnmikdldfaaGreatDoor
open Go.ChangeShapes Go.WideShapes Go.ChangeAt Go.RowKit
set_option linter.unusedVariables false
set_option linter.unusedSimpArgs false

theorem use_le (a n : Int) (ha : ad a) (hr : rt a n = true) : ad (useA a n) ∧ useA a n ≤ useZ a n ∧ useZ a n < 4294967296 := by
  obtain ⟨h0, h1, h2⟩ := rt_iff.1 hr
  have hp := sz_pos n
  have he := end_le a n h0 h1 ha.1 ha.2 h2
  have h3 := ha.1
  have h30 : n ≤ 30 → 4 ≤ sz n := fun hn => by
    have a1 := sz_succ n (by omega)
    have a2 := sz_succ (n + 1) (by omega)
    have a3 := sz_pos (n + 1 + 1)
    omega
  unfold useA useZ lst ad
  split
  · rename_i hn
    have := h30 hn
    omega
  · omega
theorem drop_cons_at {α : Type} (l : List α) (d : α) (k : Nat) (hk : k < l.length) : l.drop k = l.getD k d :: l.drop (k + 1) := by
  rw [List.drop_eq_getElem_cons hk, List.getD_eq_getElem?_getD, List.getElem?_eq_getElem hk]; rfl
set_option maxRecDepth 100000 in
set_option maxHeartbeats 2000000 in
theorem leastFree_any (w : World) (x : Nat) (ls : List Ls) (q : Hd) (vl : Value) (hx : x < w.heap.size) (cx : w.cell? ⟨x, 2, none⟩ = some vl) (hr : Rd 2 encL ls0 w vl ls) (hn : ls.length ≤ 1000) (ha : ∀ h, h ∈ ls → ad h.a) (hq : ad q.a) (hqr : rt q.a q.n = true) :
    Calls Tryz.prog 95 #[.pointer (some ⟨x, 0, none⟩), vH q] w fun e w' => e = .returned (.tuple #[.int .u32 ((least ls q.a q.n).getD 0), .bool (least ls q.a q.n).isSome]) ∧ Below w.heap.size w w' := by
  have HUS : Hid (∀ Wc : World, Calls Tryz.prog 100 #[vH q] Wc fun e w' => e = .returned (.tuple #[.int .u32 (useA q.a q.n), .int .u32 (useZ q.a q.n)]) ∧ Below Wc.heap.size Wc w') := fun Wc => usable_any q Wc hq hqr
  have HLO : Hid (∀ Wc, Below w.heap.size w Wc → Calls Tryz.prog 93 #[.pointer (some ⟨x, 0, none⟩), vH q] Wc fun e w' => ∃ v, e = .returned v ∧ Rd 2 encL ls0 w' v (leasesOf ls q.a q.n) ∧ Below Wc.heap.size Wc w') := fun Wc hW => by
    refine (leasesOf_any x ls q vl Wc (Nat.lt_of_lt_of_le hx hW.size) ((hW.cell (p := ⟨x, 2, none⟩) hx).trans cx) (hr.below hW) hn ha hq).mono ?_
    rintro e w' ⟨v, rfl, o1, o2⟩
    exact ⟨v, rfl, Rd.of_owns (k := 2) (enc := encL) (fun _ => rfl) ls0 o1, o2⟩
  obtain ⟨u0, u1, u2⟩ := use_le q.a q.n hq hqr
  have hll : (leasesOf ls q.a q.n).length ≤ 1000 := Nat.le_trans (List.length_filter_le _ _) hn
  unfold least
  generalize useA q.a q.n = ua at HUS u0 u1 ⊢
  generalize useZ q.a q.n = uz at HUS u1 u2 ⊢
  generalize leasesOf ls q.a q.n = L at HLO hll ⊢
  generalize hres : leastGo uz ua L = r
  have HR : Hid (leastGo uz ua L = r) := hres
  have u3 := u0.1
  clear hres hq hqr ha hr cx hn u0
  obtain ⟨qa, qn, qo⟩ := q
  unfold vH at HUS HLO
  unfold vH
  dsimp only at *
  go_enter Tryz.func95, Tryz.ntmps95
  go_wp2_with (first | (go_at_call 100; refine (HUS.out _).mono ?_; rintro e w1 ⟨rfl, hb1⟩; have HB1 : Hid (Below w.heap.size w w1) := bup (by repeat' (first | with_reducible assumption | with_reducible exact Below.refl _ _ | with_reducible apply Below.drew | with_reducible apply below_drewN | with_reducible apply Below.setCell | with_reducible apply Below.alloc | omega | (simp; done) | (simp; omega))) hb1; have k0 : w1.cell? ⟨w.heap.size, 0, none⟩ = some (.int .u32 qa) := (by rw [hb1.cell (p := ⟨w.heap.size, 0, none⟩) (by simp)]; simp [go_sem]); have k1 : w1.cell? ⟨w.heap.size, 1, none⟩ = some (.int .i64 qn) := (by rw [hb1.cell (p := ⟨w.heap.size, 1, none⟩) (by simp)]; simp [go_sem]); have k2 : w1.cell? ⟨w.heap.size, 2, none⟩ = some (.string qo) := (by rw [hb1.cell (p := ⟨w.heap.size, 2, none⟩) (by simp)]; simp [go_sem]); clear hb1) | (go_at_call 93; refine (HLO.out _ HB1.out).mono ?_; rintro e w2 ⟨v2, rfl, hr2, hb2⟩; obtain ⟨b2, c2, rfl, h21, h22, h23⟩ := hr2; have HB2 : Hid (Below w.heap.size w w2) := bup HB1.out hb2; have HR2 : Hid (Rd 2 encL ls0 w2 (.slice b2 L.length c2) L) := ⟨b2, c2, rfl, h21, h22, h23⟩; clear hb2 h21 h22 h23 k0 k1 k2))
  go_loopg [6, 9, 19] L.length (fun gg s6 _ s19 wr => ∃ (k : Nat) (y : Int), k ≤ L.length ∧ L.length - k ≤ gg ∧ s19 = .int .i64 k ∧ s6 = .int .u32 y ∧ 0 ≤ y ∧ y ≤ uz ∧ Hid (Below w2.heap.size w2 wr) ∧ Hid (leastGo uz y (L.drop k) = r))
  case atStart => exact ⟨0, ua, Nat.zero_le _, by omega, rfl, rfl, u3, u1, Below.refl _ _, (by rw [List.drop_zero]; exact HR.out : leastGo uz ua (L.drop 0) = r)⟩
  case round =>
    obtain ⟨k, y, hk, hg, rfl, rfl, y0, y1, BW, HL⟩ := hrel
    have BW2 : Hid (Below w.heap.size w wr) := bup HB2.out BW.out
    by_cases hlt : k < L.length
    · obtain ⟨b3, c3, e3, _, _, h3⟩ := HR2.out.below BW.out
      obtain ⟨g, e4, hglt, hcell⟩ := h3 (by intro e; rw [e] at hlt; simp at hlt)
      have hc := hcell k hlt
      cases e3
      cases e4
      have hd := drop_cons_at L ls0 k hlt
      have c0 : wr.cell? ⟨g, k * 2, none⟩ = some (.int .u32 (L.getD k ls0).a) := hc 0 _ rfl
      have c1 : wr.cell? ⟨g, k * 2 + 1, none⟩ = some (.string (L.getD k ls0).o) := hc 1 _ rfl
      generalize L.getD k ls0 = z at c0 c1 hd
      have HD : Hid (L.drop k = z :: L.drop (k + 1)) := hd
      have hltz : (k : Int) < (L.length : Int) := by omega
      clear h3 hcell hc hd HR2 HUS HLO
      by_cases hza : z.a = y
      · by_cases hyz : y = uz
        · have HQ : Hid (r = none) := by
            have q := HL.out
            rw [HD.out, leastGo, if_neg (by rw [hza]; exact fun q => q rfl), if_pos hyz] at q
            exact q.symm
          subst hyz
          go_wp2
          go_ret2
          exact ⟨by rw [HQ.out]; rfl, bup BW2.out (by repeat' (first | with_reducible assumption | with_reducible exact Below.refl _ _ | with_reducible apply Below.drew | with_reducible apply below_drewN | with_reducible apply Below.setCell | with_reducible apply Below.alloc | omega | (simp; done) | (simp; omega)))⟩
        · have hw1 : IntKind.u32.wrap (y + 1) = y + 1 := by rw [IntKind.wrap_u32']; omega
          have HQ : Hid (leastGo uz (y + 1) (L.drop (k + 1)) = r) := by
            have q := HL.out
            rw [HD.out, leastGo, if_neg (by rw [hza]; exact fun q => q rfl), if_neg hyz] at q
            exact q
          go_wp2
          go_roundg (L.length - (k + 1))
          case measure => omega
          case rel => exact ⟨k + 1, y + 1, by omega, by omega, by go_num, by first | rfl | rw [hw1], by omega, by omega, bup BW.out (by repeat' (first | with_reducible assumption | with_reducible exact Below.refl _ _ | with_reducible apply Below.drew | with_reducible apply below_drewN | with_reducible apply Below.setCell | with_reducible apply Below.alloc | omega | (simp; done) | (simp; omega))), HQ⟩
      · have HQ : Hid (r = some y) := by
          have q := HL.out
          rw [HD.out, leastGo, if_pos hza] at q
          exact q.symm
        go_wp2
        go_ret2
        exact ⟨by rw [HQ.out]; rfl, bup BW2.out (by repeat' (first | with_reducible assumption | with_reducible exact Below.refl _ _ | with_reducible apply Below.drew | with_reducible apply below_drewN | with_reducible apply Below.setCell | with_reducible apply Below.alloc | omega | (simp; done) | (simp; omega)))⟩
    · have hkl : k = L.length := by omega
      subst hkl
      have HQ : Hid (r = some y) := by
        have q := HL.out
        rw [List.drop_length] at q
        exact q.symm
      clear HR2 HUS HLO
      go_wp2
      go_ret2
      exact ⟨by rw [HQ.out]; rfl, BW2.out⟩

theorem Env.low {w w' : World} (h : Env w) (hb : Below 10 w w') : Env w' where
  lo := by have := h.lo; have := hb.size; omega
  mx := by obtain ⟨m, e⟩ := h.mx; exact ⟨m, (hb.cell (p := ⟨2, 0, none⟩) (by decide)).trans e⟩
  syn := by obtain ⟨tp, p, e⟩ := h.syn; exact ⟨tp, p, var?_below hb gSyn (by decide) e⟩
  rng := by obtain ⟨tp, p, e⟩ := h.rng; exact ⟨tp, p, var?_below hb gRng (by decide) e⟩
  tab := var?_below hb gTab (by decide) h.tab
theorem Chg.low {S : Nat → Prop} {w w' : World} (h : Chg S w w') (hS : ∀ b, S b → 10 ≤ b) (hz : 10 ≤ w.heap.size) : Below 10 w w' := ⟨h.os, h.tape, h.output, h.size, fun b hb => h.block b (by omega) (fun q => by have := hS b q; omega)⟩

set_option maxRecDepth 100000 in
set_option maxHeartbeats 2000000 in
theorem lease_none (w : World) (x : Nat) (S : Nat → Prop) (s : Bk) (l : Ln) (hI : Inv s) (hL : LnOk l) (h : BkAt w x S s) (h1 : findH s.nets l.a l.n = -1) :
    Calls Tryz.prog 63 #[.pointer (some ⟨x, 0, none⟩), .agg (lnC l)] w (Res w x S (s, ref 11)) := by
  obtain ⟨vp, vn, vl, c, B⟩ := h
  have hx := B.blk.lt
  have H : Hid (BkAt w x S s) := ⟨vp, vn, vl, c, B⟩
  have x0 : w.cell? ⟨x, 0, none⟩ = some vp := B.blk.cell 0
  have x1 : w.cell? ⟨x, 1, none⟩ = some vn := B.blk.cell 1
  have x2 : w.cell? ⟨x, 2, none⟩ = some vl := B.blk.cell 2
  have LIVE : Hid (∀ wk, Below (w.heap.size + 2) ((w.alloc (.cells #[.int .i64 l.v, .string l.t, .string l.o, .int .u32 l.a, .int .i64 l.n, .int .u32 l.d, .int .i64 l.g] 74)).alloc (.cells #[.int .i64 0, .slice none 0 0] 79)) wk → Live w wk x vp vn vl l) := live_of l B
  have HBA : Hid (BA w x S vp vn vl c s) := B
  have hxa : ¬ (x = w.heap.size) := by omega
  have hxb : ¬ (w.heap.size = x) := by omega
  have HF : Hid (∀ Wc, Below w.heap.size w Wc → Calls Tryz.prog 92 #[vn, .agg #[.int .u32 l.a, .int .i64 l.n]] Wc fun e w' => e = .returned (.int .i64 (findH s.nets l.a l.n)) ∧ Below Wc.heap.size Wc w') := fun Wc hW => findS s.nets l.a l.n vn Wc (fun q hq => (hI.na q hq).1) hL.a ((Rd.of_owns (k := 3) (enc := encH) (fun _ => rfl) hd0 B.on).below hW)
  rw [h1] at HF
  obtain ⟨bn, cn, en, _, _⟩ := owns_slice B.on
  subst en
  clear B
  unfold lnC
  go_enter Tryz.func63, Tryz.ntmps63
  go_wp2
  go_region_held3 (fun w' => w'.cell? ⟨x, 1, none⟩ = some (.slice bn s.nets.length cn) ∧ w'.cell? ⟨w.heap.size, 3, none⟩ = some (.int .u32 l.a) ∧ w'.cell? ⟨w.heap.size, 4, none⟩ = some (.int .i64 l.n)) (go_keep) (first | (go_at_call 92; refine (HF.out _ (by repeat' (first | with_reducible assumption | with_reducible exact Below.refl _ _ | with_reducible apply Below.drew | with_reducible apply below_drewN | with_reducible apply Below.setCell | with_reducible apply Below.alloc | omega | (simp; done) | (simp; omega)))).mono ?_; rintro e w1 ⟨rfl, HQ⟩; have HB1 : Hid (Below (w.heap.size + 2) ((w.alloc (.cells #[.int .i64 l.v, .string l.t, .string l.o, .int .u32 l.a, .int .i64 l.n, .int .u32 l.d, .int .i64 l.g] 74)).alloc (.cells #[.int .i64 0, .slice none 0 0] 79)) w1) := bstep (by repeat' (first | with_reducible assumption | with_reducible exact Below.refl _ _ | with_reducible apply Below.drew | with_reducible apply below_drewN | with_reducible apply Below.setCell | with_reducible apply Below.alloc | omega | (simp; done) | (simp; omega))) (by simp) HQ; clear HQ; have HW1 : Hid (Below w.heap.size w w1) := (w0_below w l).trans (HB1.out.mono (by omega)); have LV1 := LIVE.out w1 HB1.out; have x1_1 := LV1.x1; have o_1 := LV1.o; have a_1 := LV1.a; have n_1 := LV1.n; have zx_1 := LV1.zx; have z0_1 := LV1.z0; have z1_1 := LV1.z1; have r0_1 := LV1.r0; have r1_1 := LV1.r1; have g0_1 := LV1.g0; have g1_1 := LV1.g1; clear LV1))
  all_goals (
    go_wp2_with (go_at_call 31; refine (refuse_any 11 _).mono ?_; rintro e w9 ⟨rfl, HQ⟩; have HB9 : Hid (Below (w.heap.size + 2) ((w.alloc (.cells #[.int .i64 l.v, .string l.t, .string l.o, .int .u32 l.a, .int .i64 l.n, .int .u32 l.d, .int .i64 l.g] 74)).alloc (.cells #[.int .i64 0, .slice none 0 0] 79)) w9) := bstep (by have hp := HB1.out; repeat' (first | with_reducible assumption | with_reducible exact Below.refl _ _ | with_reducible apply Below.drew | with_reducible apply below_drewN | with_reducible apply Below.setCell | with_reducible apply Below.alloc | omega | (simp; done) | (simp; omega))) (by simp) HQ; clear HQ; have HW9 : Hid (Below w.heap.size w w9) := (w0_below w l).trans (HB9.out.mono (by omega)); have LV9 := LIVE.out w9 HB9.out; have r0_9 := LV9.r0; have r1_9 := LV9.r1; have g0_9 := LV9.g0; have g1_9 := LV9.g1; have z1_9 := LV9.z1; clear LV9)
    have hR := (LIVE.out w9 HB9.out).rb
    obtain ⟨kk0, kk1⟩ := two_set hR (.int .i64 11) (.slice none 0 0)
    have hfin := res_ref (l := l) 11 H.out HB9.out
    exact bodyPost_ret (v := .agg #[.int .i64 11, .slice none 0 0]) (by simp [results, Tryz.results63, go_sem, kk0, kk1]) rfl hfin)

set_option maxRecDepth 100000 in
set_option maxHeartbeats 2000000 in
theorem lease_full (w : World) (x : Nat) (S : Nat → Prop) (s : Bk) (l : Ln) (hI : Inv s) (hL : LnOk l) (h : BkAt w x S s) (k : Nat) (q : Hd) (hk : k < s.nets.length) (h1 : findH s.nets l.a l.n = k) (hq : s.nets.getD k hd0 = q) (hlf : least s.leases q.a q.n = none) :
    Calls Tryz.prog 63 #[.pointer (some ⟨x, 0, none⟩), .agg (lnC l)] w (Res w x S (s, ref 10)) := by
  obtain ⟨vp, vn, vl, c, B⟩ := h
  have hx := B.blk.lt
  have H : Hid (BkAt w x S s) := ⟨vp, vn, vl, c, B⟩
  have x0 : w.cell? ⟨x, 0, none⟩ = some vp := B.blk.cell 0
  have x1 : w.cell? ⟨x, 1, none⟩ = some vn := B.blk.cell 1
  have x2 : w.cell? ⟨x, 2, none⟩ = some vl := B.blk.cell 2
  have LIVE : Hid (∀ wk, Below (w.heap.size + 2) ((w.alloc (.cells #[.int .i64 l.v, .string l.t, .string l.o, .int .u32 l.a, .int .i64 l.n, .int .u32 l.d, .int .i64 l.g] 74)).alloc (.cells #[.int .i64 0, .slice none 0 0] 79)) wk → Live w wk x vp vn vl l) := live_of l B
  have HBA : Hid (BA w x S vp vn vl c s) := B
  have hxa : ¬ (x = w.heap.size) := by omega
  have hxb : ¬ (w.heap.size = x) := by omega
  have HF : Hid (∀ Wc, Below w.heap.size w Wc → Calls Tryz.prog 92 #[vn, .agg #[.int .u32 l.a, .int .i64 l.n]] Wc fun e w' => e = .returned (.int .i64 (findH s.nets l.a l.n)) ∧ Below Wc.heap.size Wc w') := fun Wc hW => findS s.nets l.a l.n vn Wc (fun q hq => (hI.na q hq).1) hL.a ((Rd.of_owns (k := 3) (enc := encH) (fun _ => rfl) hd0 B.on).below hW)
  rw [h1] at HF
  have hkk : ∀ q : Hd, (encH q).length = 3 := fun _ => rfl
  have hqm : q ∈ s.nets := by rw [← hq]; exact getD_mem s.nets hd0 k hk
  have hqi := hI.na q hqm
  have hrd := Rd.of_owns hkk hd0 B.on
  obtain ⟨bq, cq, ev, hq1, hq2, hq3⟩ := hrd
  obtain ⟨gq, rfl, hq4, hq5⟩ := hq3 (by intro e; rw [e] at hk; simp at hk)
  have hk5 := hq5 k hk
  rw [hq] at hk5
  have ROW : Hid (∀ wk, Below w.heap.size w wk → wk.cell? ⟨gq, k * 3, none⟩ = some (.int .u32 q.a) ∧ wk.cell? ⟨gq, k * 3 + 1, none⟩ = some (.int .i64 q.n) ∧ wk.cell? ⟨gq, k * 3 + 2, none⟩ = some (.string q.o)) := fun wk hw =>
    ⟨(hw.cell (p := ⟨gq, k * 3, none⟩) hq4).trans (hk5 0 _ rfl), (hw.cell (p := ⟨gq, k * 3 + 1, none⟩) hq4).trans (hk5 1 _ rfl), (hw.cell (p := ⟨gq, k * 3 + 2, none⟩) hq4).trans (hk5 2 _ rfl)⟩
  have hkz : (k : Int) < (s.nets.length : Int) := by omega
  have hkn : ¬ ((k : Int) < 0) := by omega
  have hk0 : (0 : Int) ≤ (k : Int) := by omega
  have HLF : Hid (∀ Wc, Below w.heap.size w Wc → Calls Tryz.prog 95 #[.pointer (some ⟨x, 0, none⟩), .agg #[.int .u32 q.a, .int .i64 q.n, .string q.o]] Wc fun e w' => e = .returned (.tuple #[.int .u32 0, .bool false]) ∧ Below Wc.heap.size Wc w') := fun Wc hW => by
    have := leastFree_any Wc x s.leases q vl (Nat.lt_of_lt_of_le hx hW.size) ((hW.cell (p := ⟨x, 2, none⟩) hx).trans x2) ((Rd.of_owns (k := 2) (enc := encL) (fun _ => rfl) ls0 B.ol).below hW) (by have := hI.l; omega) (fun q hq => (hI.la q hq).1) hqi.1 hqi.2.1
    rw [hlf] at this; exact this
  clear hq1 hq2 hq5 hk5 hq hqm hqi
  subst ev
  clear B
  unfold lnC
  go_enter Tryz.func63, Tryz.ntmps63
  go_wp2
  go_region_held3 (fun w' => w'.cell? ⟨x, 1, none⟩ = some (.slice (some ⟨gq, 0, none⟩) s.nets.length cq) ∧ w'.cell? ⟨w.heap.size, 3, none⟩ = some (.int .u32 l.a) ∧ w'.cell? ⟨w.heap.size, 4, none⟩ = some (.int .i64 l.n)) (go_keep) (first | (go_at_call 92; refine (HF.out _ (by repeat' (first | with_reducible assumption | with_reducible exact Below.refl _ _ | with_reducible apply Below.drew | with_reducible apply below_drewN | with_reducible apply Below.setCell | with_reducible apply Below.alloc | omega | (simp; done) | (simp; omega)))).mono ?_; rintro e w1 ⟨rfl, HQ⟩; have HB1 : Hid (Below (w.heap.size + 2) ((w.alloc (.cells #[.int .i64 l.v, .string l.t, .string l.o, .int .u32 l.a, .int .i64 l.n, .int .u32 l.d, .int .i64 l.g] 74)).alloc (.cells #[.int .i64 0, .slice none 0 0] 79)) w1) := bstep (by repeat' (first | with_reducible assumption | with_reducible exact Below.refl _ _ | with_reducible apply Below.drew | with_reducible apply below_drewN | with_reducible apply Below.setCell | with_reducible apply Below.alloc | omega | (simp; done) | (simp; omega))) (by simp) HQ; clear HQ; have HW1 : Hid (Below w.heap.size w w1) := (w0_below w l).trans (HB1.out.mono (by omega)); have LV1 := LIVE.out w1 HB1.out; have x1_1 := LV1.x1; have x2_1 := LV1.x2; have o_1 := LV1.o; have a_1 := LV1.a; have n_1 := LV1.n; have zx_1 := LV1.zx; have z0_1 := LV1.z0; have z1_1 := LV1.z1; have r0_1 := LV1.r0; have r1_1 := LV1.r1; have g0_1 := LV1.g0; have g1_1 := LV1.g1; obtain ⟨e0_1, e1_1, e2_1⟩ := ROW.out w1 HW1.out; clear LV1))
  all_goals (
    go_wp2_with (first | (go_at_call 95; refine (HLF.out _ (by have hp := HW1.out; repeat' (first | with_reducible assumption | with_reducible exact Below.refl _ _ | with_reducible apply Below.drew | with_reducible apply below_drewN | with_reducible apply Below.setCell | with_reducible apply Below.alloc | omega | (simp; done) | (simp; omega)))).mono ?_; rintro e w2 ⟨rfl, HQ⟩; have HB2 : Hid (Below (w.heap.size + 2) ((w.alloc (.cells #[.int .i64 l.v, .string l.t, .string l.o, .int .u32 l.a, .int .i64 l.n, .int .u32 l.d, .int .i64 l.g] 74)).alloc (.cells #[.int .i64 0, .slice none 0 0] 79)) w2) := bstep (by have hp := HB1.out; repeat' (first | with_reducible assumption | with_reducible exact Below.refl _ _ | with_reducible apply Below.drew | with_reducible apply below_drewN | with_reducible apply Below.setCell | with_reducible apply Below.alloc | omega | (simp; done) | (simp; omega))) (by simp) HQ; clear HQ; have HW2 : Hid (Below w.heap.size w w2) := (w0_below w l).trans (HB2.out.mono (by omega)); have LV2 := LIVE.out w2 HB2.out; have x2_2 := LV2.x2; have o_2 := LV2.o; have zx_2 := LV2.zx; have z0_2 := LV2.z0; have z1_2 := LV2.z1; have r0_2 := LV2.r0; have r1_2 := LV2.r1; have g0_2 := LV2.g0; have g1_2 := LV2.g1; clear LV2) | (go_at_call 31; refine (refuse_any 10 _).mono ?_; rintro e w9 ⟨rfl, HQ⟩; have HB9 : Hid (Below (w.heap.size + 2) ((w.alloc (.cells #[.int .i64 l.v, .string l.t, .string l.o, .int .u32 l.a, .int .i64 l.n, .int .u32 l.d, .int .i64 l.g] 74)).alloc (.cells #[.int .i64 0, .slice none 0 0] 79)) w9) := bstep (by have hp := HB2.out; repeat' (first | with_reducible assumption | with_reducible exact Below.refl _ _ | with_reducible apply Below.drew | with_reducible apply below_drewN | with_reducible apply Below.setCell | with_reducible apply Below.alloc | omega | (simp; done) | (simp; omega))) (by simp) HQ; clear HQ; have HW9 : Hid (Below w.heap.size w w9) := (w0_below w l).trans (HB9.out.mono (by omega)); have LV9 := LIVE.out w9 HB9.out; have r0_9 := LV9.r0; have r1_9 := LV9.r1; have g0_9 := LV9.g0; have g1_9 := LV9.g1; have z1_9 := LV9.z1; clear LV9))
    have hR := (LIVE.out w9 HB9.out).rb
    obtain ⟨kk0, kk1⟩ := two_set hR (.int .i64 10) (.slice none 0 0)
    have hfin := res_ref (l := l) 10 H.out HB9.out
    exact bodyPost_ret (v := .agg #[.int .i64 10, .slice none 0 0]) (by simp [results, Tryz.results63, go_sem, kk0, kk1]) rfl hfin)

set_option maxRecDepth 100000 in
set_option maxHeartbeats 2000000 in
theorem lease_limit (w : World) (x : Nat) (S : Nat → Prop) (s : Bk) (l : Ln) (hI : Inv s) (hL : LnOk l) (h : BkAt w x S s) (k : Nat) (q : Hd) (hk : k < s.nets.length) (h1 : findH s.nets l.a l.n = k) (hq : s.nets.getD k hd0 = q) (y : Int) (hlf : least s.leases q.a q.n = some y) (h2 : 40 ≤ s.leases.length) :
    Calls Tryz.prog 63 #[.pointer (some ⟨x, 0, none⟩), .agg (lnC l)] w (Res w x S (s, ref 6)) := by
  obtain ⟨vp, vn, vl, c, B⟩ := h
  have hx := B.blk.lt
  have H : Hid (BkAt w x S s) := ⟨vp, vn, vl, c, B⟩
  have x0 : w.cell? ⟨x, 0, none⟩ = some vp := B.blk.cell 0
  have x1 : w.cell? ⟨x, 1, none⟩ = some vn := B.blk.cell 1
  have x2 : w.cell? ⟨x, 2, none⟩ = some vl := B.blk.cell 2
  have LIVE : Hid (∀ wk, Below (w.heap.size + 2) ((w.alloc (.cells #[.int .i64 l.v, .string l.t, .string l.o, .int .u32 l.a, .int .i64 l.n, .int .u32 l.d, .int .i64 l.g] 74)).alloc (.cells #[.int .i64 0, .slice none 0 0] 79)) wk → Live w wk x vp vn vl l) := live_of l B
  have HBA : Hid (BA w x S vp vn vl c s) := B
  have hxa : ¬ (x = w.heap.size) := by omega
  have hxb : ¬ (w.heap.size = x) := by omega
  have HF : Hid (∀ Wc, Below w.heap.size w Wc → Calls Tryz.prog 92 #[vn, .agg #[.int .u32 l.a, .int .i64 l.n]] Wc fun e w' => e = .returned (.int .i64 (findH s.nets l.a l.n)) ∧ Below Wc.heap.size Wc w') := fun Wc hW => findS s.nets l.a l.n vn Wc (fun q hq => (hI.na q hq).1) hL.a ((Rd.of_owns (k := 3) (enc := encH) (fun _ => rfl) hd0 B.on).below hW)
  rw [h1] at HF
  have hkk : ∀ q : Hd, (encH q).length = 3 := fun _ => rfl
  have hqm : q ∈ s.nets := by rw [← hq]; exact getD_mem s.nets hd0 k hk
  have hqi := hI.na q hqm
  have hrd := Rd.of_owns hkk hd0 B.on
  obtain ⟨bq, cq, ev, hq1, hq2, hq3⟩ := hrd
  obtain ⟨gq, rfl, hq4, hq5⟩ := hq3 (by intro e; rw [e] at hk; simp at hk)
  have hk5 := hq5 k hk
  rw [hq] at hk5
  have ROW : Hid (∀ wk, Below w.heap.size w wk → wk.cell? ⟨gq, k * 3, none⟩ = some (.int .u32 q.a) ∧ wk.cell? ⟨gq, k * 3 + 1, none⟩ = some (.int .i64 q.n) ∧ wk.cell? ⟨gq, k * 3 + 2, none⟩ = some (.string q.o)) := fun wk hw =>
    ⟨(hw.cell (p := ⟨gq, k * 3, none⟩) hq4).trans (hk5 0 _ rfl), (hw.cell (p := ⟨gq, k * 3 + 1, none⟩) hq4).trans (hk5 1 _ rfl), (hw.cell (p := ⟨gq, k * 3 + 2, none⟩) hq4).trans (hk5 2 _ rfl)⟩
  have hkz : (k : Int) < (s.nets.length : Int) := by omega
  have hkn : ¬ ((k : Int) < 0) := by omega
  have hk0 : (0 : Int) ≤ (k : Int) := by omega
  have HLF : Hid (∀ Wc, Below w.heap.size w Wc → Calls Tryz.prog 95 #[.pointer (some ⟨x, 0, none⟩), .agg #[.int .u32 q.a, .int .i64 q.n, .string q.o]] Wc fun e w' => e = .returned (.tuple #[.int .u32 y, .bool true]) ∧ Below Wc.heap.size Wc w') := fun Wc hW => by
    have := leastFree_any Wc x s.leases q vl (Nat.lt_of_lt_of_le hx hW.size) ((hW.cell (p := ⟨x, 2, none⟩) hx).trans x2) ((Rd.of_owns (k := 2) (enc := encL) (fun _ => rfl) ls0 B.ol).below hW) (by have := hI.l; omega) (fun q hq => (hI.la q hq).1) hqi.1 hqi.2.1
    rw [hlf] at this; exact this
  clear hq1 hq2 hq5 hk5 hq hqm hqi
  subst ev
  obtain ⟨bl, cl, el, _, _⟩ := owns_slice B.ol
  subst el
  have h6 : (40 : Int) ≤ (s.leases.length : Int) := by omega
  clear B
  unfold lnC
  go_enter Tryz.func63, Tryz.ntmps63
  go_wp2
  go_region_held3 (fun w' => w'.cell? ⟨x, 1, none⟩ = some (.slice (some ⟨gq, 0, none⟩) s.nets.length cq) ∧ w'.cell? ⟨w.heap.size, 3, none⟩ = some (.int .u32 l.a) ∧ w'.cell? ⟨w.heap.size, 4, none⟩ = some (.int .i64 l.n)) (go_keep) (first | (go_at_call 92; refine (HF.out _ (by repeat' (first | with_reducible assumption | with_reducible exact Below.refl _ _ | with_reducible apply Below.drew | with_reducible apply below_drewN | with_reducible apply Below.setCell | with_reducible apply Below.alloc | omega | (simp; done) | (simp; omega)))).mono ?_; rintro e w1 ⟨rfl, HQ⟩; have HB1 : Hid (Below (w.heap.size + 2) ((w.alloc (.cells #[.int .i64 l.v, .string l.t, .string l.o, .int .u32 l.a, .int .i64 l.n, .int .u32 l.d, .int .i64 l.g] 74)).alloc (.cells #[.int .i64 0, .slice none 0 0] 79)) w1) := bstep (by repeat' (first | with_reducible assumption | with_reducible exact Below.refl _ _ | with_reducible apply Below.drew | with_reducible apply below_drewN | with_reducible apply Below.setCell | with_reducible apply Below.alloc | omega | (simp; done) | (simp; omega))) (by simp) HQ; clear HQ; have HW1 : Hid (Below w.heap.size w w1) := (w0_below w l).trans (HB1.out.mono (by omega)); have LV1 := LIVE.out w1 HB1.out; have x1_1 := LV1.x1; have x2_1 := LV1.x2; have o_1 := LV1.o; have a_1 := LV1.a; have n_1 := LV1.n; have zx_1 := LV1.zx; have z0_1 := LV1.z0; have z1_1 := LV1.z1; have r0_1 := LV1.r0; have r1_1 := LV1.r1; have g0_1 := LV1.g0; have g1_1 := LV1.g1; obtain ⟨e0_1, e1_1, e2_1⟩ := ROW.out w1 HW1.out; clear LV1))
  all_goals (
    go_wp2_with (first | (go_at_call 95; refine (HLF.out _ (by have hp := HW1.out; repeat' (first | with_reducible assumption | with_reducible exact Below.refl _ _ | with_reducible apply Below.drew | with_reducible apply below_drewN | with_reducible apply Below.setCell | with_reducible apply Below.alloc | omega | (simp; done) | (simp; omega)))).mono ?_; rintro e w2 ⟨rfl, HQ⟩; have HB2 : Hid (Below (w.heap.size + 2) ((w.alloc (.cells #[.int .i64 l.v, .string l.t, .string l.o, .int .u32 l.a, .int .i64 l.n, .int .u32 l.d, .int .i64 l.g] 74)).alloc (.cells #[.int .i64 0, .slice none 0 0] 79)) w2) := bstep (by have hp := HB1.out; repeat' (first | with_reducible assumption | with_reducible exact Below.refl _ _ | with_reducible apply Below.drew | with_reducible apply below_drewN | with_reducible apply Below.setCell | with_reducible apply Below.alloc | omega | (simp; done) | (simp; omega))) (by simp) HQ; clear HQ; have HW2 : Hid (Below w.heap.size w w2) := (w0_below w l).trans (HB2.out.mono (by omega)); have LV2 := LIVE.out w2 HB2.out; have x2_2 := LV2.x2; have o_2 := LV2.o; have zx_2 := LV2.zx; have z0_2 := LV2.z0; have z1_2 := LV2.z1; have r0_2 := LV2.r0; have r1_2 := LV2.r1; have g0_2 := LV2.g0; have g1_2 := LV2.g1; clear LV2) | (go_at_call 31; refine (refuse_any 6 _).mono ?_; rintro e w9 ⟨rfl, HQ⟩; have HB9 : Hid (Below (w.heap.size + 2) ((w.alloc (.cells #[.int .i64 l.v, .string l.t, .string l.o, .int .u32 l.a, .int .i64 l.n, .int .u32 l.d, .int .i64 l.g] 74)).alloc (.cells #[.int .i64 0, .slice none 0 0] 79)) w9) := bstep (by have hp := HB2.out; repeat' (first | with_reducible assumption | with_reducible exact Below.refl _ _ | with_reducible apply Below.drew | with_reducible apply below_drewN | with_reducible apply Below.setCell | with_reducible apply Below.alloc | omega | (simp; done) | (simp; omega))) (by simp) HQ; clear HQ; have HW9 : Hid (Below w.heap.size w w9) := (w0_below w l).trans (HB9.out.mono (by omega)); have LV9 := LIVE.out w9 HB9.out; have r0_9 := LV9.r0; have r1_9 := LV9.r1; have g0_9 := LV9.g0; have g1_9 := LV9.g1; have z1_9 := LV9.z1; clear LV9))
    have hR := (LIVE.out w9 HB9.out).rb
    obtain ⟨kk0, kk1⟩ := two_set hR (.int .i64 6) (.slice none 0 0)
    have hfin := res_ref (l := l) 6 H.out HB9.out
    exact bodyPost_ret (v := .agg #[.int .i64 6, .slice none 0 0]) (by simp [results, Tryz.results63, go_sem, kk0, kk1]) rfl hfin)

set_option maxRecDepth 100000 in
set_option maxHeartbeats 2000000 in
theorem lease_ok (w : World) (x : Nat) (S : Nat → Prop) (s : Bk) (l : Ln) (hI : Inv s) (hL : LnOk l) (h : BkAt w x S s) (k : Nat) (q : Hd) (hk : k < s.nets.length) (h1 : findH s.nets l.a l.n = k) (hq : s.nets.getD k hd0 = q) (y : Int) (hy : ad y) (hlf : least s.leases q.a q.n = some y) (h2 : ¬ 40 ≤ s.leases.length) (hE : Env w) (hG : ∀ b, S b → 10 ≤ b) (hZ : 10 ≤ w.heap.size) :
    Calls Tryz.prog 63 #[.pointer (some ⟨x, 0, none⟩), .agg (lnC l)] w (Res w x S ({ s with leases := insL s.leases ⟨y, l.o⟩ }, tell1 ⟨(dot y.toNat).toArray⟩)) := by
  obtain ⟨vp, vn, vl, c, B⟩ := h
  have hx := B.blk.lt
  have H : Hid (BkAt w x S s) := ⟨vp, vn, vl, c, B⟩
  have x0 : w.cell? ⟨x, 0, none⟩ = some vp := B.blk.cell 0
  have x1 : w.cell? ⟨x, 1, none⟩ = some vn := B.blk.cell 1
  have x2 : w.cell? ⟨x, 2, none⟩ = some vl := B.blk.cell 2
  have LIVE : Hid (∀ wk, Below (w.heap.size + 2) ((w.alloc (.cells #[.int .i64 l.v, .string l.t, .string l.o, .int .u32 l.a, .int .i64 l.n, .int .u32 l.d, .int .i64 l.g] 74)).alloc (.cells #[.int .i64 0, .slice none 0 0] 79)) wk → Live w wk x vp vn vl l) := live_of l B
  have HBA : Hid (BA w x S vp vn vl c s) := B
  have hxa : ¬ (x = w.heap.size) := by omega
  have hxb : ¬ (w.heap.size = x) := by omega
  have EN : Hid (Env w) := hE
  have GS : Hid (∀ b, S b → 10 ≤ b) := hG
  have ZG : Hid (10 ≤ w.heap.size) := hZ
  clear hE hG hZ
  have HS : Hid (∀ b, S b → b < w.heap.size) := B.sz
  have HF : Hid (∀ Wc, Below w.heap.size w Wc → Calls Tryz.prog 92 #[vn, .agg #[.int .u32 l.a, .int .i64 l.n]] Wc fun e w' => e = .returned (.int .i64 (findH s.nets l.a l.n)) ∧ Below Wc.heap.size Wc w') := fun Wc hW => findS s.nets l.a l.n vn Wc (fun q hq => (hI.na q hq).1) hL.a ((Rd.of_owns (k := 3) (enc := encH) (fun _ => rfl) hd0 B.on).below hW)
  rw [h1] at HF
  have hkk : ∀ q : Hd, (encH q).length = 3 := fun _ => rfl
  have hqm : q ∈ s.nets := by rw [← hq]; exact getD_mem s.nets hd0 k hk
  have hqi := hI.na q hqm
  have hrd := Rd.of_owns hkk hd0 B.on
  obtain ⟨bq, cq, ev, hq1, hq2, hq3⟩ := hrd
  obtain ⟨gq, rfl, hq4, hq5⟩ := hq3 (by intro e; rw [e] at hk; simp at hk)
  have hk5 := hq5 k hk
  rw [hq] at hk5
  have ROW : Hid (∀ wk, Below w.heap.size w wk → wk.cell? ⟨gq, k * 3, none⟩ = some (.int .u32 q.a) ∧ wk.cell? ⟨gq, k * 3 + 1, none⟩ = some (.int .i64 q.n) ∧ wk.cell? ⟨gq, k * 3 + 2, none⟩ = some (.string q.o)) := fun wk hw =>
    ⟨(hw.cell (p := ⟨gq, k * 3, none⟩) hq4).trans (hk5 0 _ rfl), (hw.cell (p := ⟨gq, k * 3 + 1, none⟩) hq4).trans (hk5 1 _ rfl), (hw.cell (p := ⟨gq, k * 3 + 2, none⟩) hq4).trans (hk5 2 _ rfl)⟩
  have hkz : (k : Int) < (s.nets.length : Int) := by omega
  have hkn : ¬ ((k : Int) < 0) := by omega
  have hk0 : (0 : Int) ≤ (k : Int) := by omega
  have HLF : Hid (∀ Wc, Below w.heap.size w Wc → Calls Tryz.prog 95 #[.pointer (some ⟨x, 0, none⟩), .agg #[.int .u32 q.a, .int .i64 q.n, .string q.o]] Wc fun e w' => e = .returned (.tuple #[.int .u32 y, .bool true]) ∧ Below Wc.heap.size Wc w') := fun Wc hW => by
    have := leastFree_any Wc x s.leases q vl (Nat.lt_of_lt_of_le hx hW.size) ((hW.cell (p := ⟨x, 2, none⟩) hx).trans x2) ((Rd.of_owns (k := 2) (enc := encL) (fun _ => rfl) ls0 B.ol).below hW) (by have := hI.l; omega) (fun q hq => (hI.la q hq).1) hqi.1 hqi.2.1
    rw [hlf] at this; exact this
  have HAD : Hid (∀ Wc, Below w.heap.size w Wc → Calls Tryz.prog 96 #[.pointer (some ⟨x, 0, none⟩), .int .u32 y, .string l.o] Wc fun e w' => e = .returned (.tuple #[]) ∧ ∃ S', BkAt w' x S' { s with leases := insL s.leases ⟨y, l.o⟩ } ∧ (∀ b, S' b → S b ∨ Wc.heap.size ≤ b) ∧ Chg S Wc w') := fun Wc hW => addLease_any Wc x S s y l.o hI (H.out.below hW)
  have HWA : Hid (∀ Wc, Env Wc → Calls Tryz.prog 97 #[.int .u32 y] Wc fun e w' => e = .returned (.string ⟨(dot y.toNat).toArray⟩) ∧ Below Wc.heap.size Wc w') := fun Wc hE => wa_any y Wc hE hy.1 hy.2
  generalize (⟨(dot y.toNat).toArray⟩ : ByteArray) = tt at HWA ⊢
  clear hq1 hq2 hq5 hk5 hq hqm hqi
  subst ev
  obtain ⟨bl, cl, el, _, _⟩ := owns_slice B.ol
  subst el
  have h6 : ¬ (40 : Int) ≤ (s.leases.length : Int) := by omega
  clear B
  unfold lnC
  go_enter Tryz.func63, Tryz.ntmps63
  go_wp2
  go_region_held3 (fun w' => w'.cell? ⟨x, 1, none⟩ = some (.slice (some ⟨gq, 0, none⟩) s.nets.length cq) ∧ w'.cell? ⟨w.heap.size, 3, none⟩ = some (.int .u32 l.a) ∧ w'.cell? ⟨w.heap.size, 4, none⟩ = some (.int .i64 l.n)) (go_keep) (first | (go_at_call 92; refine (HF.out _ (by repeat' (first | with_reducible assumption | with_reducible exact Below.refl _ _ | with_reducible apply Below.drew | with_reducible apply below_drewN | with_reducible apply Below.setCell | with_reducible apply Below.alloc | omega | (simp; done) | (simp; omega)))).mono ?_; rintro e w1 ⟨rfl, HQ⟩; have HB1 : Hid (Below (w.heap.size + 2) ((w.alloc (.cells #[.int .i64 l.v, .string l.t, .string l.o, .int .u32 l.a, .int .i64 l.n, .int .u32 l.d, .int .i64 l.g] 74)).alloc (.cells #[.int .i64 0, .slice none 0 0] 79)) w1) := bstep (by repeat' (first | with_reducible assumption | with_reducible exact Below.refl _ _ | with_reducible apply Below.drew | with_reducible apply below_drewN | with_reducible apply Below.setCell | with_reducible apply Below.alloc | omega | (simp; done) | (simp; omega))) (by simp) HQ; clear HQ; have HW1 : Hid (Below w.heap.size w w1) := (w0_below w l).trans (HB1.out.mono (by omega)); have LV1 := LIVE.out w1 HB1.out; have x1_1 := LV1.x1; have x2_1 := LV1.x2; have o_1 := LV1.o; have a_1 := LV1.a; have n_1 := LV1.n; have zx_1 := LV1.zx; have z0_1 := LV1.z0; have z1_1 := LV1.z1; have r0_1 := LV1.r0; have r1_1 := LV1.r1; have g0_1 := LV1.g0; have g1_1 := LV1.g1; obtain ⟨e0_1, e1_1, e2_1⟩ := ROW.out w1 HW1.out; clear LV1))
  all_goals (
    go_wp2_with (first | (go_at_call 95; refine (HLF.out _ (by have hp := HW1.out; repeat' (first | with_reducible assumption | with_reducible exact Below.refl _ _ | with_reducible apply Below.drew | with_reducible apply below_drewN | with_reducible apply Below.setCell | with_reducible apply Below.alloc | omega | (simp; done) | (simp; omega)))).mono ?_; rintro e w2 ⟨rfl, HQ⟩; have HB2 : Hid (Below (w.heap.size + 2) ((w.alloc (.cells #[.int .i64 l.v, .string l.t, .string l.o, .int .u32 l.a, .int .i64 l.n, .int .u32 l.d, .int .i64 l.g] 74)).alloc (.cells #[.int .i64 0, .slice none 0 0] 79)) w2) := bstep (by have hp := HB1.out; repeat' (first | with_reducible assumption | with_reducible exact Below.refl _ _ | with_reducible apply Below.drew | with_reducible apply below_drewN | with_reducible apply Below.setCell | with_reducible apply Below.alloc | omega | (simp; done) | (simp; omega))) (by simp) HQ; clear HQ; have HW2 : Hid (Below w.heap.size w w2) := (w0_below w l).trans (HB2.out.mono (by omega)); have LV2 := LIVE.out w2 HB2.out; have x2_2 := LV2.x2; have o_2 := LV2.o; have zx_2 := LV2.zx; have z0_2 := LV2.z0; have z1_2 := LV2.z1; have r0_2 := LV2.r0; have r1_2 := LV2.r1; have g0_2 := LV2.g0; have g1_2 := LV2.g1; clear LV2) | (go_at_call 96; refine (HAD.out _ (by have hp := HW2.out; repeat' (first | with_reducible assumption | with_reducible exact Below.refl _ _ | with_reducible apply Below.drew | with_reducible apply below_drewN | with_reducible apply Below.setCell | with_reducible apply Below.alloc | omega | (simp; done) | (simp; omega)))).mono ?_; rintro e w3 ⟨rfl, S3, o1, o2, o3⟩; have HG : Hid (∃ Wc, Below w.heap.size w Wc ∧ w.heap.size + 2 ≤ Wc.heap.size ∧ (∀ b, S3 b → S b ∨ Wc.heap.size ≤ b) ∧ Chg S Wc w3) := ⟨_, by have hp := HW2.out; repeat' (first | with_reducible assumption | with_reducible exact Below.refl _ _ | with_reducible apply Below.drew | with_reducible apply below_drewN | with_reducible apply Below.setCell | with_reducible apply Below.alloc | omega | (simp; done) | (simp; omega)), by have hz := HB2.out.size; simp at hz ⊢; omega, o2, o3⟩; have HA : Hid (BkAt w3 x S3 { s with leases := insL s.leases ⟨y, l.o⟩ }) := o1; have RB3 : Hid (Blk w3 (w.heap.size + 1) #[.int .i64 0, .slice none 0 0] 79) := (o3.block _ (by have hz := HB2.out.size; simp at hz ⊢; omega) (fun q => by have := HS.out _ q; omega)).trans (LIVE.out _ (by have hp := HB2.out; repeat' (first | with_reducible assumption | with_reducible exact Below.refl _ _ | with_reducible apply Below.drew | with_reducible apply below_drewN | with_reducible apply Below.setCell | with_reducible apply Below.alloc | omega | (simp; done) | (simp; omega)))).rb; have z1_3 : w.heap.size + 1 < w3.heap.size := RB3.out.lt; have HE3 : Hid (Env w3) := (EN.out.mono (by have hp := HW2.out; repeat' (first | with_reducible assumption | with_reducible exact Below.refl _ _ | with_reducible apply Below.drew | with_reducible apply below_drewN | with_reducible apply Below.setCell | with_reducible apply Below.alloc | omega | (simp; done) | (simp; omega)))).low (o3.low GS.out (by have hz := HB2.out.size; have := ZG.out; simp at hz ⊢; omega)); clear o1 o2 o3) | (go_at_call 97; refine (HWA.out _ HE3.out).mono ?_; rintro e w4 ⟨rfl, HQ⟩; have HT4 : Hid (Below w3.heap.size w3 w4) := HQ; clear HQ; have zz_4 : w3.heap.size ≤ w4.heap.size := HT4.out.size) | (go_at_call 81; refine (ok_any (some ⟨w4.heap.size, 0, none⟩) 1 1 _).mono ?_; rintro e w5 ⟨rfl, HQ⟩; have HQ5 : Hid (Below w3.heap.size w3 w5) := bup (Below.alloc HT4.out HT4.out.size _) HQ; have MC5 : Hid (w4.heap.size < w5.heap.size ∧ w5.cell? ⟨w4.heap.size, 0, none⟩ = some (.string tt)) := ⟨by have := HQ.size; simp at this; omega, (HQ.cell (p := ⟨w4.heap.size, 0, none⟩) (by simp)).trans (by simp [go_sem])⟩; have RB5 : Blk w5 (w.heap.size + 1) #[.int .i64 0, .slice none 0 0] 79 := (HQ5.out.block _ z1_3).trans RB3.out; clear HQ; have HR5 : Hid (Blk w5 (w.heap.size + 1) #[.int .i64 0, .slice none 0 0] 79) := RB5; have r0_5 : w5.cell? ⟨w.heap.size + 1, 0, none⟩ = some (.int .i64 0) := RB5.cell 0; have r1_5 : w5.cell? ⟨w.heap.size + 1, 1, none⟩ = some (.slice none 0 0) := RB5.cell 1; have g0_5 : w5.frozen? ⟨w.heap.size + 1, 0, none⟩ = false := RB5.frozen 0; have g1_5 : w5.frozen? ⟨w.heap.size + 1, 1, none⟩ = false := RB5.frozen 1; clear RB5))
    obtain ⟨kk0, kk1⟩ := two_set HR5.out (.int .i64 0) (.slice (some ⟨w4.heap.size, 0, none⟩) 1 1)
    obtain ⟨Wc, hc1, hc2, hc3, hc4⟩ := HG.out
    have hne : w4.heap.size ≠ w.heap.size + 1 := by omega
    have hfin := res_new HS.out hc1 hc2 HA.out hc3 hc4 HQ5.out (tell1 tt) rfl (.slice (some ⟨w4.heap.size, 0, none⟩) 1 1) (fun W' h1 h2 => rd_one (Nat.lt_of_lt_of_le MC5.out.1 h2) ((World.cell?_of_block (a := ⟨w4.heap.size, 0, none⟩) (h1 _ hne)).trans MC5.out.2))
    exact bodyPost_ret (v := .agg #[.int .i64 0, .slice (some ⟨w4.heap.size, 0, none⟩) 1 1]) (by simp [results, Tryz.results63, go_sem, kk0, kk1]) rfl hfin)
end Go.Proofs.YtlikdnmikdldfaaGreatDoor
namespace Go.Proofs.YtlikdnmikdldfaaGreatDoor
open Go.ChangeShapes Go.WideShapes Go.ChangeAt Go.RowKit
set_option linter.unusedVariables false
set_option linter.unusedSimpArgs false

def encB (b : Int × Int) : List Value := [.int .u32 b.1, .int .i64 b.2]
theorem infoBl : (Tryz.prog.info? 69).map (fun i => (i.zero, i.size, i.bytes)) = some (some (.agg #[.int .u32 0, .int .i64 0]), 2, 16) := by kernel_rfl
theorem oneB (l : List (Int × Int)) : ∀ u ∈ l.flatMap encB, u.oneCell' = true := by
  intro u hu
  obtain ⟨h, _, hh⟩ := List.mem_flatMap.1 hu
  simp [encB] at hh
  rcases hh with rfl | rfl <;> rfl
theorem frees_len (l : List Hd) (k : Nat) : ∀ a n, (frees k l a n).length ≤ 2 ^ k := by
  induction k with
  | zero => intro a n; simp [frees]
  | succ k ih =>
    intro a n
    have h1 := ih a (n + 1)
    have h2 := ih (a + sz (n + 1)) (n + 1)
    have h3 : 0 < 2 ^ k := Nat.pos_of_ne_zero (by simp)
    simp only [frees]
    split
    · simp; omega
    · split
      · simp
      · rw [List.length_append, Nat.pow_succ]; omega
/-- one list behind the other: the second may be empty, or nil -/
theorem run_append_two (w : World) (ty : TypeId) (base base2 : Nat) (v v2 : Value) (n m : Nat) (xs ys : List Value) (hown : w.ownsRow base 69 2 v n xs) (hown2 : w.ownsRow base2 69 2 v2 m ys) (h1 : ∀ u ∈ ys, u.oneCell' = true) (hb : base ≤ w.heap.size) (hl : n + m ≤ 8796093022208) :
    ∃ v' w', (Builtin.append_ #[113, 113] ty #[v, v2]).run Tryz.prog w = .ok v' w' ∧ w'.ownsRow base 69 2 v' (n + m) (xs ++ ys) ∧ w.grownBy w' v.ownBlock := by
  obtain ⟨i0, hi0, hz0, hz1, hz2⟩ := info_parts infoBl
  rcases hown2.2 with ⟨rfl, e⟩ | ⟨g, cap, cur, rfl, hg0, hg, h2, h3, h4, h5⟩
  · have hy : ys = [] := List.length_eq_zero_iff.1 (by rw [hown2.1, e])
    have hr := run_append_owned_none (P := Tryz.prog) w base 113 ty 69 i0 2 Tryz.underlying113 hi0 v n xs hown
    subst hy
    subst e
    exact ⟨v, w, hr, by simpa using hown, grown_refl _ _⟩
  · obtain ⟨v', w', hr, h6, h7, _, _⟩ := run_append_own_at (P := Tryz.prog) w base 113 ty 69 i0 _ 2 16 Tryz.underlying113 hi0 hz0 hz1 hz2 rfl (by decide) v n xs hown ⟨g, 0, none⟩ m cap ys hown2.1 (fun j u hj => by
      rw [Addr.add_lit, Nat.zero_add, cell_of_row w g j cur _ (0, 0) hg, ← Array.getElem?_toList]
      rw [← h5, List.getElem?_take] at hj
      split at hj
      · exact hj
      · cases hj) h1 (by unfold maxLen; omega) (by omega) hb
    exact ⟨v', w', hr, h6, h7⟩

theorem owns_mono {w : World} {B B' : Nat} {t : TypeId} {k : Nat} {v : Value} {n : Nat} {xs : List Value} (h : w.ownsRow B t k v n xs) (hb : B' ≤ B) : w.ownsRow B' t k v n xs := by
  refine ⟨h.1, ?_⟩
  rcases h.2 with q | ⟨g, cap, cur, e, h1, rest⟩
  · exact .inl q
  · exact .inr ⟨g, cap, cur, e, by omega, rest⟩
section
variable {P : Program}
/-- an append whose run is known, as a step of a region that draws -/
theorem step_append_eq {ops : Array Oper} {o : Oper} {a : Act} {w : World} {K : Act → World → Prop} {Q : Exit → Act → World → Prop} {E : Prop}
    (hg : o.guard = none) (d x : Operand) (dT sT : TypeId) (hop : o.op = Op.call { callee := Callee.builtin Builtin.append, args := #[d, x], argTypes := #[dT, sT] })
    (v u : Value) (hd : a.eval d = v) (hx : a.eval x = u) {v' : Value} {w' : World} (hr : (Builtin.append_ #[dT, sT] o.type #[v, u]).run P w = .ok v' w') (hK : K (a.put o.dst v') w') :
    if Region.wanted o (yielded ops a.tmps) = true then Oper.wp P o a w K Q else E := by
  have hw : Region.wanted o (yielded ops a.tmps) = true := by simp [Region.wanted, hg]
  rw [if_pos hw]
  unfold Oper.wp
  simp [execOp, hop, resolve, invoke, builtin, hd, hx, hr, Result.andThen]
  exact hK
end
theorem mt_in_32 {l : List Hd} {a n : Int} (hl : ∀ h, h ∈ l → h.n ≤ 32) (h1 : anyH l a n = true) (h2 : spanH l a n < 0) : n < 32 := by
  rcases Int.lt_or_le n 32 with h | h
  · exact h
  · exfalso
    obtain ⟨q, hq, hm⟩ := List.any_eq_true.1 h1
    rcases fi_cases (spansH a n) l hd0 with ⟨_, e⟩ | ⟨k, _, e, _⟩
    · have := e q hq
      have h3 := hl q hq
      unfold spansH inn at this
      unfold meetsH at hm
      have h4 : mm a n q.a q.n = true := by
        unfold mm at hm ⊢
        rw [mt_comm a n q.a q.n]
        simp only [Bool.and_eq_true] at hm ⊢
        exact ⟨⟨hm.1.2, hm.1.1⟩, hm.2⟩
      rw [h4, decide_eq_true (by omega)] at this
      cases this
    · have : spanH l a n = k := e
      omega
theorem half_rt {a n : Int} (ha : ad a) (hr : rt a n = true) (hn : n < 32) : (ad a ∧ rt a (n + 1) = true) ∧ (ad (a + sz (n + 1)) ∧ rt (a + sz (n + 1)) (n + 1) = true) := by
  obtain ⟨h0, h1, h2⟩ := rt_iff.1 hr
  have hs := sz_succ n hn
  have hp := sz_pos (n + 1)
  have he := end_lt a n h0 hn ha.1 ha.2 h2
  have h3 := mod_down a n (n + 1) (by omega) (by omega) h2
  refine ⟨⟨ha, rt_iff.2 ⟨by omega, by omega, h3⟩⟩, ⟨⟨by have := ha.1; omega, he⟩, rt_iff.2 ⟨by omega, by omega, ?_⟩⟩⟩
  rw [Int.add_emod_right]; exact h3
set_option maxRecDepth 100000 in
set_option maxHeartbeats 2000000 in
theorem free_leaf (l : List Hd) (hl : ∀ h, h ∈ l → ad h.a) (v : Value) (a n : Int) (w : World) (ha : ad a) (hr : Rd 3 encH hd0 w v l) (h1 : anyH l a n = false) :
    Calls Tryz.prog 87 #[.agg #[.int .u32 a, .int .i64 n], v] w fun e w' => ∃ v', e = .returned v' ∧ w'.ownsRow w.heap.size 69 2 v' 1 [.int .u32 a, .int .i64 n] ∧ Below w.heap.size w w' := by
  have HN : Hid (∀ Wc, Below w.heap.size w Wc → Calls Tryz.prog 91 #[v, .agg #[.int .u32 a, .int .i64 n]] Wc fun e w' => e = .returned (.bool false) ∧ Below Wc.heap.size Wc w') := fun Wc hW => by have := anymS l a n v Wc hl ha (hr.below hW); rw [h1] at this; exact this
  obtain ⟨b, cap, rfl, _⟩ := hr
  clear hl ha h1
  go_enter Tryz.func87, Tryz.ntmps87
  go_wp2_with (go_at_call 91; refine (HN.out _ (by repeat' (first | with_reducible assumption | with_reducible exact Below.refl _ _ | with_reducible apply Below.drew | with_reducible apply below_drewN | with_reducible apply Below.setCell | with_reducible apply Below.alloc | omega | (simp; done) | (simp; omega)))).mono ?_; rintro e w1 ⟨rfl, hb1⟩; have HB1 : Hid (Below w.heap.size w w1) := bup (by repeat' (first | with_reducible assumption | with_reducible exact Below.refl _ _ | with_reducible apply Below.drew | with_reducible apply below_drewN | with_reducible apply Below.setCell | with_reducible apply Below.alloc | omega | (simp; done) | (simp; omega))) hb1; have k0 : w1.cell? ⟨w.heap.size, 0, none⟩ = some (.int .u32 a) := (by rw [hb1.cell (p := ⟨w.heap.size, 0, none⟩) (by simp)]; simp [go_sem]); have k1 : w1.cell? ⟨w.heap.size, 1, none⟩ = some (.int .i64 n) := (by rw [hb1.cell (p := ⟨w.heap.size, 1, none⟩) (by simp)]; simp [go_sem]); clear hb1)
  go_ret
  exact ⟨_, rfl, ⟨rfl, .inr ⟨w1.heap.size, 1, #[.int .u32 a, .int .i64 n], rfl, HB1.out.size, Blk.new w1 _ _, Nat.le_refl _, by unfold maxLen; omega, rfl, rfl⟩⟩, Below.alloc HB1.out HB1.out.size _⟩
set_option maxRecDepth 100000 in
set_option maxHeartbeats 2000000 in
theorem free_none (l : List Hd) (hl : ∀ h, h ∈ l → ad h.a) (v : Value) (a n : Int) (w : World) (ha : ad a) (hr : Rd 3 encH hd0 w v l) (h1 : anyH l a n = true) (k : Nat) (h2 : spanH l a n = k) :
    Calls Tryz.prog 87 #[.agg #[.int .u32 a, .int .i64 n], v] w fun e w' => e = .returned (.slice none 0 0) ∧ Below w.heap.size w w' := by
  have HN : Hid (∀ Wc, Below w.heap.size w Wc → Calls Tryz.prog 91 #[v, .agg #[.int .u32 a, .int .i64 n]] Wc fun e w' => e = .returned (.bool true) ∧ Below Wc.heap.size Wc w') := fun Wc hW => by have := anymS l a n v Wc hl ha (hr.below hW); rw [h1] at this; exact this
  have HP : Hid (∀ Wc, Below w.heap.size w Wc → Calls Tryz.prog 98 #[v, .agg #[.int .u32 a, .int .i64 n]] Wc fun e w' => e = .returned (.int .i64 k) ∧ Below Wc.heap.size Wc w') := fun Wc hW => by have := fspanS l a n v Wc hl ha (hr.below hW); rw [h2] at this; exact this
  obtain ⟨b, cap, rfl, _⟩ := hr
  have hk0 : (0 : Int) ≤ (k : Int) := by omega
  clear hl ha h1 h2
  go_enter Tryz.func87, Tryz.ntmps87
  go_wp2_with (first | (go_at_call 91; refine (HN.out _ (by repeat' (first | with_reducible assumption | with_reducible exact Below.refl _ _ | with_reducible apply Below.drew | with_reducible apply below_drewN | with_reducible apply Below.setCell | with_reducible apply Below.alloc | omega | (simp; done) | (simp; omega)))).mono ?_; rintro e w1 ⟨rfl, hb1⟩; have HB1 : Hid (Below w.heap.size w w1) := bup (by repeat' (first | with_reducible assumption | with_reducible exact Below.refl _ _ | with_reducible apply Below.drew | with_reducible apply below_drewN | with_reducible apply Below.setCell | with_reducible apply Below.alloc | omega | (simp; done) | (simp; omega))) hb1; have k0 : w1.cell? ⟨w.heap.size, 0, none⟩ = some (.int .u32 a) := (by rw [hb1.cell (p := ⟨w.heap.size, 0, none⟩) (by simp)]; simp [go_sem]); have k1 : w1.cell? ⟨w.heap.size, 1, none⟩ = some (.int .i64 n) := (by rw [hb1.cell (p := ⟨w.heap.size, 1, none⟩) (by simp)]; simp [go_sem]); clear hb1) | (go_at_call 98; refine (HP.out _ HB1.out).mono ?_; rintro e w2 ⟨rfl, hb2⟩; have HB2 : Hid (Below w.heap.size w w2) := bup HB1.out hb2; clear hb2))
  go_ret
  exact ⟨rfl, HB2.out⟩
set_option maxRecDepth 100000 in
set_option maxHeartbeats 4000000 in
theorem free_step (l : List Hd) (hl : ∀ h, h ∈ l → ad h.a) (v : Value) (a n : Int) (w : World) (ha : ad a) (hr : Rd 3 encH hd0 w v l) (hrt : rt a n = true) (h1 : anyH l a n = true) (h2 : spanH l a n = -1) (hn : n < 32) (FL : Int → List (Int × Int)) (hAB : (FL a).length + (FL (a + sz (n + 1))).length ≤ 8796093022208)
    (hA : Hid (∀ Wc aa, Below w.heap.size w Wc → (aa = a ∨ aa = a + sz (n + 1)) → Calls Tryz.prog 87 #[.agg #[.int .u32 aa, .int .i64 (n + 1)], v] Wc fun e w' => ∃ v', e = .returned v' ∧ w'.ownsRow Wc.heap.size 69 2 v' (FL aa).length ((FL aa).flatMap encB) ∧ Below Wc.heap.size Wc w')) :
    Calls Tryz.prog 87 #[.agg #[.int .u32 a, .int .i64 n], v] w fun e w' => ∃ v', e = .returned v' ∧ w'.ownsRow w.heap.size 69 2 v' (FL a ++ FL (a + sz (n + 1))).length ((FL a ++ FL (a + sz (n + 1))).flatMap encB) ∧ Below w.heap.size w w' := by
  have HN : Hid (∀ Wc, Below w.heap.size w Wc → Calls Tryz.prog 91 #[v, .agg #[.int .u32 a, .int .i64 n]] Wc fun e w' => e = .returned (.bool true) ∧ Below Wc.heap.size Wc w') := fun Wc hW => by have := anymS l a n v Wc hl ha (hr.below hW); rw [h1] at this; exact this
  have HP : Hid (∀ Wc, Below w.heap.size w Wc → Calls Tryz.prog 98 #[v, .agg #[.int .u32 a, .int .i64 n]] Wc fun e w' => e = .returned (.int .i64 (-1)) ∧ Below Wc.heap.size Wc w') := fun Wc hW => by have := fspanS l a n v Wc hl ha (hr.below hW); rw [h2] at this; exact this
  have HH : Hid (∀ Wc, Calls Tryz.prog 129 #[.agg #[.int .u32 a, .int .i64 n]] Wc fun e w' => e = .returned (.tuple #[.agg #[.int .u32 a, .int .i64 (n + 1)], .agg #[.int .u32 (a + sz (n + 1)), .int .i64 (n + 1)], .int .i64 0]) ∧ Below Wc.heap.size Wc w') := fun Wc => bhalves_yes a n Wc ha.1 ha.2 hrt (by omega)
  obtain ⟨b, cap, rfl, _⟩ := hr
  generalize a + sz (n + 1) = a2 at HH hA hAB ⊢
  generalize n + 1 = n2 at HH hA
  clear hl ha h1 h2 hrt hn
  go_enter Tryz.func87, Tryz.ntmps87
  go_wp2_with (first | (go_at_call 91; refine (HN.out _ (by repeat' (first | with_reducible assumption | with_reducible exact Below.refl _ _ | with_reducible apply Below.drew | with_reducible apply below_drewN | with_reducible apply Below.setCell | with_reducible apply Below.alloc | omega | (simp; done) | (simp; omega)))).mono ?_; rintro e w1 ⟨rfl, hb1⟩; have HB1 : Hid (Below w.heap.size w w1) := bup (by repeat' (first | with_reducible assumption | with_reducible exact Below.refl _ _ | with_reducible apply Below.drew | with_reducible apply below_drewN | with_reducible apply Below.setCell | with_reducible apply Below.alloc | omega | (simp; done) | (simp; omega))) hb1; have k0 : w1.cell? ⟨w.heap.size, 0, none⟩ = some (.int .u32 a) := (by rw [hb1.cell (p := ⟨w.heap.size, 0, none⟩) (by simp)]; simp [go_sem]); have k1 : w1.cell? ⟨w.heap.size, 1, none⟩ = some (.int .i64 n) := (by rw [hb1.cell (p := ⟨w.heap.size, 1, none⟩) (by simp)]; simp [go_sem]); have z1 : w.heap.size < w1.heap.size := (by have := hb1.size; simp at this; omega); clear hb1) | (go_at_call 98; refine (HP.out _ HB1.out).mono ?_; rintro e w2 ⟨rfl, hb2⟩; have HB2 : Hid (Below w.heap.size w w2) := bup HB1.out hb2; have j0 : w2.cell? ⟨w.heap.size, 0, none⟩ = some (.int .u32 a) := (hb2.cell (p := ⟨w.heap.size, 0, none⟩) z1).trans k0; have j1 : w2.cell? ⟨w.heap.size, 1, none⟩ = some (.int .i64 n) := (hb2.cell (p := ⟨w.heap.size, 1, none⟩) z1).trans k1; clear hb2) | (go_at_call 129; refine (HH.out _).mono ?_; rintro e w3 ⟨rfl, hb3⟩; have HB3 : Hid (Below w.heap.size w w3) := bup HB2.out hb3; clear hb3))
  have HV : Hid (Below w.heap.size w ((w3.alloc (.cells #[.int .u32 a, .int .i64 n2] 69)).alloc (.cells #[.int .u32 a2, .int .i64 n2] 69))) := (HB3.out.alloc HB3.out.size _).alloc (by have := HB3.out.size; simp; omega) _
  have b1 : Blk ((w3.alloc (.cells #[.int .u32 a, .int .i64 n2] 69)).alloc (.cells #[.int .u32 a2, .int .i64 n2] 69)) w3.heap.size #[.int .u32 a, .int .i64 n2] 69 := (Below.heap_alloc _ _ _ (by simp)).trans (Blk.new w3 _ _)
  have b2 := Blk.new (w3.alloc (.cells #[.int .u32 a, .int .i64 n2] 69)) #[.int .u32 a2, .int .i64 n2] 69
  rw [show (w3.alloc (.cells #[.int .u32 a, .int .i64 n2] 69)).heap.size = w3.heap.size + 1 by simp] at b2
  generalize ((w3.alloc (.cells #[.int .u32 a, .int .i64 n2] 69)).alloc (.cells #[.int .u32 a2, .int .i64 n2] 69)) = V at HV b1 b2 ⊢
  have zV : w3.heap.size + 1 < V.heap.size := b2.lt
  have c0 : V.cell? ⟨w3.heap.size, 0, none⟩ = some (.int .u32 a) := b1.cell 0
  have c1 : V.cell? ⟨w3.heap.size, 1, none⟩ = some (.int .i64 n2) := b1.cell 1
  have d0 : V.cell? ⟨w3.heap.size + 1, 0, none⟩ = some (.int .u32 a2) := b2.cell 0
  have d1 : V.cell? ⟨w3.heap.size + 1, 1, none⟩ = some (.int .i64 n2) := b2.cell 1
  generalize w3.heap.size = N3 at zV c0 c1 d0 d1 ⊢
  clear b1 b2 HB3 HB2 HB1 j0 j1 k0 k1 z1 HN HP HH
  go_region_held3 (fun w' => w'.cell? ⟨N3, 0, none⟩ = some (.int .u32 a) ∧ w'.cell? ⟨N3, 1, none⟩ = some (.int .i64 n2) ∧ w'.cell? ⟨N3 + 1, 0, none⟩ = some (.int .u32 a2) ∧ w'.cell? ⟨N3 + 1, 1, none⟩ = some (.int .i64 n2)) (go_keep) (first | (go_at_call 87; refine (hA.out _ _ (by have hp := HV.out; repeat' (first | with_reducible assumption | with_reducible exact Below.refl _ _ | with_reducible apply Below.drew | with_reducible apply below_drewN | with_reducible apply Below.setCell | with_reducible apply Below.alloc | omega | (simp; done) | (simp; omega))) (by first | exact .inl rfl | exact .inr rfl)).mono ?_; rintro e w4 ⟨v4, rfl, o4, hb4⟩; have HB4 : Hid (Below V.heap.size V w4) := bup (by repeat' (first | with_reducible assumption | with_reducible exact Below.refl _ _ | with_reducible apply Below.drew | with_reducible apply below_drewN | with_reducible apply Below.setCell | with_reducible apply Below.alloc | omega | (simp; done) | (simp; omega))) hb4; have HW4 : Hid (Below w.heap.size w w4) := bup HV.out HB4.out; have p0 : w4.cell? ⟨N3, 0, none⟩ = some (.int .u32 a) := (HB4.out.cell (p := ⟨N3, 0, none⟩) (Nat.lt_of_succ_lt zV)).trans c0; have p1 : w4.cell? ⟨N3, 1, none⟩ = some (.int .i64 n2) := (HB4.out.cell (p := ⟨N3, 1, none⟩) (Nat.lt_of_succ_lt zV)).trans c1; have p2 : w4.cell? ⟨N3 + 1, 0, none⟩ = some (.int .u32 a2) := (HB4.out.cell (p := ⟨N3 + 1, 0, none⟩) zV).trans d0; have p3 : w4.cell? ⟨N3 + 1, 1, none⟩ = some (.int .i64 n2) := (HB4.out.cell (p := ⟨N3 + 1, 1, none⟩) zV).trans d1; have y4 : N3 + 1 < w4.heap.size := (by have := HB4.out.size; omega); obtain ⟨b4, c4, rfl, _, _⟩ := owns_slice o4; have HO4 : Hid (w4.ownsRow V.heap.size 69 2 (.slice b4 (FL a).length c4) (FL a).length ((FL a).flatMap encB)) := o4; clear o4 hb4) | (go_at_call 87; refine (hA.out _ _ HW4.out (by first | exact .inl rfl | exact .inr rfl)).mono ?_; rintro e w5 ⟨v5, rfl, o5, hb5⟩; have HB5 : Hid (Below w4.heap.size w4 w5) := hb5; have HW5 : Hid (Below w.heap.size w w5) := bup HW4.out hb5; have q0 : w5.cell? ⟨N3, 0, none⟩ = some (.int .u32 a) := (hb5.cell (p := ⟨N3, 0, none⟩) (Nat.lt_of_succ_lt y4)).trans p0; have q1 : w5.cell? ⟨N3, 1, none⟩ = some (.int .i64 n2) := (hb5.cell (p := ⟨N3, 1, none⟩) (Nat.lt_of_succ_lt y4)).trans p1; have q2 : w5.cell? ⟨N3 + 1, 0, none⟩ = some (.int .u32 a2) := (hb5.cell (p := ⟨N3 + 1, 0, none⟩) y4).trans p2; have q3 : w5.cell? ⟨N3 + 1, 1, none⟩ = some (.int .i64 n2) := (hb5.cell (p := ⟨N3 + 1, 1, none⟩) y4).trans p3; obtain ⟨b5, c5, rfl, _, _⟩ := owns_slice o5; have HO5 : Hid (w5.ownsRow w4.heap.size 69 2 (.slice b5 (FL a2).length c5) (FL a2).length ((FL a2).flatMap encB)) := o5; clear o5 hb5) | (obtain ⟨v6, w6, hr6, o6, g6⟩ := run_append_two w5 113 V.heap.size w4.heap.size (.slice b4 (FL a).length c4) (.slice b5 (FL a2).length c5) (FL a).length (FL a2).length ((FL a).flatMap encB) ((FL a2).flatMap encB) (owns_below HO4.out HB5.out) HO5.out (oneB (FL a2)) (by have h1 := HB4.out.size; have h2 := HB5.out.size; omega) hAB; have y5 : N3 + 1 < w5.heap.size := Nat.lt_of_lt_of_le y4 HB5.out.size; have ne0 : some N3 ≠ (Value.slice b4 (FL a).length c4).ownBlock := (fun e => by have := owns_base HO4.out N3 e.symm; omega); have ne1 : some (N3 + 1) ≠ (Value.slice b4 (FL a).length c4).ownBlock := (fun e => by have := owns_base HO4.out (N3 + 1) e.symm; omega); have s0 : w6.cell? ⟨N3, 0, none⟩ = some (.int .u32 a) := (g6.cell_far ⟨N3, 0, none⟩ (Nat.lt_of_succ_lt y5) ne0).trans q0; have s1 : w6.cell? ⟨N3, 1, none⟩ = some (.int .i64 n2) := (g6.cell_far ⟨N3, 1, none⟩ (Nat.lt_of_succ_lt y5) ne0).trans q1; have s2 : w6.cell? ⟨N3 + 1, 0, none⟩ = some (.int .u32 a2) := (g6.cell_far ⟨N3 + 1, 0, none⟩ y5 ne1).trans q2; have s3 : w6.cell? ⟨N3 + 1, 1, none⟩ = some (.int .i64 n2) := (g6.cell_far ⟨N3 + 1, 1, none⟩ y5 ne1).trans q3; clear ne0 ne1; refine step_append_eq rfl _ _ 113 113 rfl (.slice b4 (FL a).length c4) (.slice b5 (FL a2).length c5) (by simp [Act.eval, Act.put]) (by simp [Act.eval, Act.put]) hr6 ?_))
  all_goals (
    go_wp2
    go_ret
    refine ⟨_, rfl, ?_, below_grown HW5.out g6 (fun b e => ?_) HW5.out.size⟩
    · rw [List.length_append, List.flatMap_append]
      exact owns_mono o6 HV.out.size
    · exact Nat.le_trans HV.out.size (owns_base HO4.out b e))
theorem freeBlocks_any (l : List Hd) (hl : ∀ h, h ∈ l → ad h.a ∧ h.n ≤ 32) (v : Value) (k : Nat) (hk : k ≤ 33) : ∀ (a n : Int) (w : World), ad a → rt a n = true → 33 ≤ n + k → Rd 3 encH hd0 w v l →
    Calls Tryz.prog 87 #[.agg #[.int .u32 a, .int .i64 n], v] w fun e w' => ∃ v', e = .returned v' ∧ w'.ownsRow w.heap.size 69 2 v' (frees k l a n).length ((frees k l a n).flatMap encB) ∧ Below w.heap.size w w' := by
  induction k with
  | zero =>
    intro a n w ha hr hn _
    obtain ⟨h0, h1, _⟩ := rt_iff.1 hr
    omega
  | succ k ih =>
    intro a n w ha hr hn hrd
    have hl1 : ∀ h, h ∈ l → ad h.a := fun h q => (hl h q).1
    simp only [frees]
    rcases h1 : anyH l a n with _ | _
    · exact free_leaf l hl1 v a n w ha hrd h1
    · rcases fi_cases (spansH a n) l hd0 with ⟨e, _⟩ | ⟨j, _, e, _⟩
      · have e1 : spanH l a n = -1 := e
        have hn32 := mt_in_32 (fun h q => (hl h q).2) h1 (by rw [e1]; decide)
        obtain ⟨⟨p1, p2⟩, p3, p4⟩ := half_rt ha hr hn32
        have hsp : ¬ (0 ≤ spanH l a n) := by rw [e1]; decide
        simp only [hsp, Bool.not_true, Bool.false_eq_true, if_false]
        have l1 := frees_len l k a (n + 1)
        have l2 := frees_len l k (a + sz (n + 1)) (n + 1)
        have l3 : 2 ^ k ≤ 2 ^ 33 := Nat.pow_le_pow_right (by decide) (by omega)
        refine free_step l hl1 v a n w ha hrd hr h1 e1 hn32 (fun aa => frees k l aa (n + 1)) (by omega) (fun Wc aa hW h => ?_)
        rcases h with rfl | rfl
        · exact ih (by omega) aa (n + 1) Wc p1 p2 (by omega) (hrd.below hW)
        · exact ih (by omega) (a + sz (n + 1)) (n + 1) Wc p3 p4 (by omega) (hrd.below hW)
      · have e1 : spanH l a n = j := e
        have hsp : 0 ≤ spanH l a n := by rw [e1]; omega
        simp only [hsp, Bool.not_true, Bool.false_eq_true, if_false, if_true]
        refine (free_none l hl1 v a n w ha hrd h1 j e1).mono ?_
        rintro e w' ⟨rfl, hb⟩
        exact ⟨_, rfl, World.ownsRow_nil _ _ _ _, hb⟩
end Go.Proofs.YtlikdnmikdldfaaGreatDoor
namespace Go.Proofs.YtlikdnmikdldfaaGreatDoor
open Go.ChangeShapes Go.WideShapes Go.ChangeAt Go.RowKit
set_option linter.unusedVariables false
set_option linter.unusedSimpArgs false

def obA (o : Option (Int × Int)) : Int := (o.getD (0, 0)).1
def obN (o : Option (Int × Int)) : Int := (o.getD (0, 0)).2
theorem fold_next {α β : Type} (f : β → α → β) (l : List α) (d : α) (b : β) (k : Nat) (hk : k < l.length) : (l.take (k + 1)).foldl f b = f ((l.take k).foldl f b) (l.getD k d) := by
  rw [List.take_succ_eq_append_getElem hk, List.foldl_append, List.getD_eq_getElem?_getD, List.getElem?_eq_getElem hk]; rfl
set_option maxRecDepth 100000 in
set_option maxHeartbeats 2000000 in
theorem bestFit_any (L : List (Int × Int)) (bits : Int) (v : Value) (w : World) (hr : Rd 2 encB (0, 0) w v L) (hn : L.length ≤ 9223372036854775806) :
    Calls Tryz.prog 86 #[v, .int .i64 bits] w fun e w' => e = .returned (.tuple #[.agg #[.int .u32 (obA (best L bits)), .int .i64 (obN (best L bits))], .bool (best L bits).isSome]) ∧ Below w.heap.size w w' := by
  obtain ⟨b, cap, rfl, h1, h2, h3⟩ := hr
  have hrow : Hid (∀ W, Below w.heap.size w W → ∀ j, j < L.length → ∃ g, b = some ⟨g, 0, none⟩ ∧ W.cell? ⟨g, j * 2, none⟩ = some (.int .u32 (L.getD j (0, 0)).1) ∧ W.cell? ⟨g, j * 2 + 1, none⟩ = some (.int .i64 (L.getD j (0, 0)).2)) := fun W hW j hj => by
    obtain ⟨g, hg, hlt, hc⟩ := h3 (by intro e; rw [e] at hj; simp at hj)
    have hc := hc j hj
    exact ⟨g, hg, (hW.cell (p := ⟨g, j * 2, none⟩) hlt).trans (hc 0 _ rfl), (hW.cell (p := ⟨g, j * 2 + 1, none⟩) hlt).trans (hc 1 _ rfl)⟩
  have HF : Hid (∀ j, j < L.length → (L.take (j + 1)).foldl (bestStep bits) none = bestStep bits ((L.take j).foldl (bestStep bits) none) (L.getD j (0, 0))) := fun j hj => fold_next _ L (0, 0) none j hj
  have HBE : Hid (best L bits = L.foldl (bestStep bits) none) := rfl
  generalize best L bits = res at HBE ⊢
  clear h1 h2 h3
  go_enter Tryz.func86, Tryz.ntmps86
  go_wp2
  go_loopg [7, 9, 12] L.length (fun gg s7 _ s12 wr => ∃ (k : Nat) (o : Option (Int × Int)), k ≤ L.length ∧ L.length - k ≤ gg ∧ s12 = .int .i64 k ∧ s7 = .bool o.isSome ∧ Hid (Blk wr (w.heap.size + 1) #[.int .u32 (obA o), .int .i64 (obN o)] 69) ∧ w.heap.size + 1 < wr.heap.size ∧ Hid (Below w.heap.size w wr) ∧ Hid (Blk wr w.heap.size #[.int .u32 0, .int .i64 0] 69) ∧ Hid ((L.take k).foldl (bestStep bits) none = o))
  case atStart =>
    have q0 := Blk.new (w.alloc (.cells #[.int .u32 0, .int .i64 0] 69)) #[.int .u32 0, .int .i64 0] 69
    rw [show (w.alloc (.cells #[.int .u32 0, .int .i64 0] 69)).heap.size = w.heap.size + 1 by simp] at q0
    have hb0 : Below w.heap.size w ((w.alloc (.cells #[.int .u32 0, .int .i64 0] 69)).alloc (.cells #[.int .u32 0, .int .i64 0] 69)) := (by repeat' (first | with_reducible assumption | with_reducible exact Below.refl _ _ | with_reducible apply Below.drew | with_reducible apply below_drewN | with_reducible apply Below.setCell | with_reducible apply Below.alloc | omega | (simp; done) | (simp; omega)))
    exact ⟨0, none, Nat.zero_le _, by omega, rfl, rfl, q0, by simp, hb0, ((Below.heap_alloc _ _ _ (by simp)).trans (Blk.new w _ _) : Blk _ _ _ _), (rfl : ([] : List (Int × Int)).foldl (bestStep bits) none = none)⟩
  case round =>
    obtain ⟨k, o, hk, hg, rfl, rfl, B1, hz, BW, RB, HL⟩ := hrel
    have m0 : wr.cell? ⟨w.heap.size + 1, 0, none⟩ = some (.int .u32 (obA o)) := B1.out.cell 0
    have m1 : wr.cell? ⟨w.heap.size + 1, 1, none⟩ = some (.int .i64 (obN o)) := B1.out.cell 1
    have f0 : wr.frozen? ⟨w.heap.size + 1, 0, none⟩ = false := B1.out.frozen 0
    have f1 : wr.frozen? ⟨w.heap.size + 1, 1, none⟩ = false := B1.out.frozen 1
    have hsz2 : ∀ u v : Value, ((wr.setCell ⟨w.heap.size + 1, 0, none⟩ u).setCell ⟨w.heap.size + 1, 1, none⟩ v).heap.size = wr.heap.size := fun u v => (sets_other (w.heap.size + 1) [u, v] 0 wr).2.2.2.1
    have HST : Hid (∀ (u v : Value) (ob : Obj), Blk (((wr.setCell ⟨w.heap.size + 1, 0, none⟩ u).setCell ⟨w.heap.size + 1, 1, none⟩ v).alloc ob) (w.heap.size + 1) #[u, v] 69 ∧ Blk (((wr.setCell ⟨w.heap.size + 1, 0, none⟩ u).setCell ⟨w.heap.size + 1, 1, none⟩ v).alloc ob) w.heap.size #[.int .u32 0, .int .i64 0] 69 ∧ Below w.heap.size w (((wr.setCell ⟨w.heap.size + 1, 0, none⟩ u).setCell ⟨w.heap.size + 1, 1, none⟩ v).alloc ob)) := fun u v ob => by
      refine ⟨(Below.heap_alloc _ _ _ (by rw [hsz2]; exact hz)).trans ((B1.out.set 0 u).set 1 v), (Below.heap_alloc _ _ _ (by rw [hsz2]; omega)).trans (((sets_other (w.heap.size + 1) [u, v] 0 wr).2.2.2.2 w.heap.size (by omega)).trans RB.out), ?_⟩
      have hp := BW.out
      have hs := hsz2 u v
      refine Below.alloc ?_ (by rw [hs]; omega) _
      repeat' (first | with_reducible assumption | with_reducible exact Below.refl _ _ | with_reducible apply Below.drew | with_reducible apply below_drewN | with_reducible apply Below.setCell | with_reducible apply Below.alloc | omega | (simp; done) | (simp; omega))
    clear hsz2
    have hz0 : w.heap.size < wr.heap.size := by omega
    by_cases hlt : k < L.length
    · obtain ⟨g, rfl, c0, c1⟩ := hrow.out wr BW.out k hlt
      have hf := HF.out k hlt
      rw [HL.out] at hf
      generalize L.getD k (0, 0) = y at c0 c1 hf
      obtain ⟨ya, yn⟩ := y
      dsimp only at c0 c1
      have HFK : Hid ((L.take (k + 1)).foldl (bestStep bits) none = bestStep bits o (ya, yn)) := hf
      clear hf hrow HF
      have hltz : (k : Int) < (L.length : Int) := by omega
      by_cases hb : yn ≤ bits
      · cases o with
        | none =>
          have HQ : Hid ((L.take (k + 1)).foldl (bestStep bits) none = some (ya, yn)) := HFK.out.trans (by simp [bestStep, hb])
          go_wp2
          go_roundg (L.length - (k + 1))
          case measure => omega
          case rel =>
            obtain ⟨x1, x2, x3⟩ := HST.out (.int .u32 ya) (.int .i64 yn) (.cells #[.int .u32 ya, .int .i64 yn] 69)
            exact ⟨k + 1, some (ya, yn), by omega, by omega, by go_num, rfl, x1, by simp [World.setCell]; omega, x3, x2, HQ⟩
        | some c =>
          obtain ⟨ca, cn⟩ := c
          simp only [obA, obN, Option.getD_some] at m0 m1
          by_cases hc : cn < yn
          · have HQ : Hid ((L.take (k + 1)).foldl (bestStep bits) none = some (ya, yn)) := HFK.out.trans (by simp [bestStep, hb, hc])
            go_wp2
            go_roundg (L.length - (k + 1))
            case measure => omega
            case rel =>
              obtain ⟨x1, x2, x3⟩ := HST.out (.int .u32 ya) (.int .i64 yn) (.cells #[.int .u32 ya, .int .i64 yn] 69)
              exact ⟨k + 1, some (ya, yn), by omega, by omega, by go_num, rfl, x1, by simp [World.setCell]; omega, x3, x2, HQ⟩
          · have HQ : Hid ((L.take (k + 1)).foldl (bestStep bits) none = some (ca, cn)) := HFK.out.trans (by simp [bestStep, hb, hc])
            go_wp2
            go_roundg (L.length - (k + 1))
            case measure => omega
            case rel =>
              exact ⟨k + 1, some (ca, cn), by omega, by omega, by go_num, rfl, (Below.heap_alloc _ _ _ hz).trans B1.out, by simp; omega, bup BW.out (by repeat' (first | with_reducible assumption | with_reducible exact Below.refl _ _ | with_reducible apply Below.drew | with_reducible apply below_drewN | with_reducible apply Below.setCell | with_reducible apply Below.alloc | omega | (simp; done) | (simp; omega))), (Below.heap_alloc _ _ _ hz0).trans RB.out, HQ⟩
      · have HQ : Hid ((L.take (k + 1)).foldl (bestStep bits) none = o) := HFK.out.trans (by simp [bestStep, hb])
        go_wp2
        go_roundg (L.length - (k + 1))
        case measure => omega
        case rel =>
          exact ⟨k + 1, o, by omega, by omega, by go_num, rfl, (Below.heap_alloc _ _ _ hz).trans B1.out, by simp; omega, bup BW.out (by repeat' (first | with_reducible assumption | with_reducible exact Below.refl _ _ | with_reducible apply Below.drew | with_reducible apply below_drewN | with_reducible apply Below.setCell | with_reducible apply Below.alloc | omega | (simp; done) | (simp; omega))), (Below.heap_alloc _ _ _ hz0).trans RB.out, HQ⟩
    · have hkl : k = L.length := by omega
      subst hkl
      rw [List.take_length] at HL
      have hres : res = o := HBE.out.trans HL.out
      subst hres
      have r0 : wr.cell? ⟨w.heap.size, 0, none⟩ = some (.int .u32 0) := RB.out.cell 0
      have r1 : wr.cell? ⟨w.heap.size, 1, none⟩ = some (.int .i64 0) := RB.out.cell 1
      have r2 : wr.frozen? ⟨w.heap.size, 0, none⟩ = false := RB.out.frozen 0
      have r3 : wr.frozen? ⟨w.heap.size, 1, none⟩ = false := RB.out.frozen 1
      have hk01 := two_set RB.out (.int .u32 (obA res)) (.int .i64 (obN res))
      clear hrow HF HL HBE
      go_wp2
      obtain ⟨kk0, kk1⟩ := hk01
      exact bodyPost_ret (v := .tuple #[.agg #[.int .u32 (obA res), .int .i64 (obN res)], .bool res.isSome]) (by simp [results, Tryz.results86, go_sem, kk0, kk1]) rfl ⟨rfl, by have hp := BW.out; repeat' (first | with_reducible assumption | with_reducible exact Below.refl _ _ | with_reducible apply Below.drew | with_reducible apply below_drewN | with_reducible apply Below.setCell | with_reducible apply Below.alloc | omega | (simp; done) | (simp; omega))⟩
end Go.Proofs.YtlikdnmikdldfaaGreatDoor
