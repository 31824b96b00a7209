/-
  BkMb
-/
import Derived.Test.YtlikdnmikdldfaaGreatDoorOrderedPAM
namespace Go.Proofs.YtlikdnmikdldfaaGreatDoor
open Go.ChangeShapes Go.WideShapes Go.ChangeAt Go.RowKit
set_option linter.unusedVariables false
set_option linter.unusedSimpArgs false

theorem delAt_len {α : Type} (l : List α) (k : Nat) (h : k < l.length) : (delAt l k).length = l.length - 1 := by unfold delAt; simp; omega
theorem flat_del {α : Type} {k : Nat} {enc : α → List Value} (hk : ∀ x, (enc x).length = k) (l : List α) (i : Nat) : (l.flatMap enc).take (i * k) ++ (l.flatMap enc).drop ((i + 1) * k) = (delAt l i).flatMap enc := by
  unfold delAt; rw [take_flat hk, drop_flat hk, List.flatMap_append]

theorem delpools {w : World} {v : Value} {l : List Hd} (hown : w.ownsRow 0 142 3 v l.length (l.flatMap encH)) (k : Nat) (hk : k < l.length) (hn : l.length ≤ 1000) :
    Calls Tryz.prog 85 #[v, .int .i64 k, .int .i64 ((k : Int) + 1)] w fun e w' => ∃ g cap, e = .returned (.slice (some ⟨g, 0, none⟩) (l.length - 1) cap) ∧ w'.ownsRow 0 142 3 (.slice (some ⟨g, 0, none⟩) (l.length - 1) cap) (l.length - 1) ((delAt l k).flatMap encH) ∧ w.grownBy w' v.ownBlock ∧ ∀ b, (Value.slice (some ⟨g, 0, none⟩) (l.length - 1) cap).ownBlock = some b → v.ownBlock = some b ∨ w.heap.size ≤ b := by
  have hkk : ∀ x : Hd, (encH x).length = 3 := fun _ => rfl
  rcases hown.2 with ⟨rfl, e⟩ | ⟨g, cap, cur, rfl, _, hg, h1, h2, h3, h4⟩
  · omega
  · obtain ⟨m, hm⟩ : ∃ m, l.length = m + 1 := ⟨l.length - 1, by omega⟩
    rw [hm] at h1 h4 hk ⊢
    refine (delP (l.flatMap encH) m k g cap cur w (by omega) (by omega) hg h3 h4 h1 h2 (oneH l)).mono ?_
    rintro e w' ⟨rfl, o1, o2⟩
    rw [flat_del hkk] at o1
    exact ⟨g, cap, rfl, o1, o2, fun b e => .inl e⟩

set_option maxRecDepth 100000 in
set_option maxHeartbeats 2000000 in
theorem drop_none (w : World) (x : Nat) (S : Nat → Prop) (s : Bk) (l : Ln) (hI : Inv s) (hL : LnOk l) (h : BkAt w x S s) (h1 : findH s.pools l.a l.n = -1) :
    Calls Tryz.prog 59 #[.pointer (some ⟨x, 0, none⟩), .agg (lnC l)] w (Res w x S (s, ref 7)) := by
  obtain ⟨vp, vn, vl, c, B⟩ := h
  have hx := B.blk.lt
  have H : Hid (BkAt w x S s) := ⟨vp, vn, vl, c, B⟩
  have x0 : w.cell? ⟨x, 0, none⟩ = some vp := B.blk.cell 0
  have x1 : w.cell? ⟨x, 1, none⟩ = some vn := B.blk.cell 1
  have x2 : w.cell? ⟨x, 2, none⟩ = some vl := B.blk.cell 2
  have LIVE : Hid (∀ wk, Below (w.heap.size + 2) ((w.alloc (.cells #[.int .i64 l.v, .string l.t, .string l.o, .int .u32 l.a, .int .i64 l.n, .int .u32 l.d, .int .i64 l.g] 74)).alloc (.cells #[.int .i64 0, .slice none 0 0] 79)) wk → Live w wk x vp vn vl l) := live_of l B
  have HBA : Hid (BA w x S vp vn vl c s) := B
  have hxa : ¬ (x = w.heap.size) := by omega
  have hxb : ¬ (w.heap.size = x) := by omega
  have HF : Hid (∀ Wc, Below w.heap.size w Wc → Calls Tryz.prog 82 #[vp, .agg #[.int .u32 l.a, .int .i64 l.n]] Wc fun e w' => e = .returned (.int .i64 (findH s.pools l.a l.n)) ∧ Below Wc.heap.size Wc w') := fun Wc hW => findP s.pools l.a l.n vp Wc (fun q hq => (hI.pa q hq).1) hL.a ((Rd.of_owns (k := 3) (enc := encH) (fun _ => rfl) hd0 B.op).below hW)
  rw [h1] at HF
  obtain ⟨bq, cq, eq, _, _⟩ := owns_slice B.op
  subst eq
  clear B
  unfold lnC
  go_enter Tryz.func59, Tryz.ntmps59
  go_wp2
  go_region_held3 (fun w' => w'.cell? ⟨x, 0, none⟩ = some (.slice bq s.pools.length cq) ∧ w'.cell? ⟨w.heap.size, 3, none⟩ = some (.int .u32 l.a) ∧ w'.cell? ⟨w.heap.size, 4, none⟩ = some (.int .i64 l.n)) (go_keep) (first | (go_at_call 82; refine (HF.out _ (by repeat' (first | with_reducible assumption | with_reducible exact Below.refl _ _ | with_reducible apply Below.drew | with_reducible apply below_drewN | with_reducible apply Below.setCell | with_reducible apply Below.alloc | omega | (simp; done) | (simp; omega)))).mono ?_; rintro e w1 ⟨rfl, HQ⟩; have HB1 : Hid (Below (w.heap.size + 2) ((w.alloc (.cells #[.int .i64 l.v, .string l.t, .string l.o, .int .u32 l.a, .int .i64 l.n, .int .u32 l.d, .int .i64 l.g] 74)).alloc (.cells #[.int .i64 0, .slice none 0 0] 79)) w1) := bstep (by repeat' (first | with_reducible assumption | with_reducible exact Below.refl _ _ | with_reducible apply Below.drew | with_reducible apply below_drewN | with_reducible apply Below.setCell | with_reducible apply Below.alloc | omega | (simp; done) | (simp; omega))) (by simp) HQ; clear HQ; have HW1 : Hid (Below w.heap.size w w1) := (w0_below w l).trans (HB1.out.mono (by omega)); have LV1 := LIVE.out w1 HB1.out; have x0_1 := LV1.x0; have o_1 := LV1.o; have a_1 := LV1.a; have n_1 := LV1.n; have zx_1 := LV1.zx; have z0_1 := LV1.z0; have z1_1 := LV1.z1; have r0_1 := LV1.r0; have r1_1 := LV1.r1; have g0_1 := LV1.g0; have g1_1 := LV1.g1; clear LV1))
  all_goals (
    go_wp2_with (go_at_call 31; refine (refuse_any 7 _).mono ?_; rintro e w9 ⟨rfl, HQ⟩; have HB9 : Hid (Below (w.heap.size + 2) ((w.alloc (.cells #[.int .i64 l.v, .string l.t, .string l.o, .int .u32 l.a, .int .i64 l.n, .int .u32 l.d, .int .i64 l.g] 74)).alloc (.cells #[.int .i64 0, .slice none 0 0] 79)) w9) := bstep (by have hp := HB1.out; repeat' (first | with_reducible assumption | with_reducible exact Below.refl _ _ | with_reducible apply Below.drew | with_reducible apply below_drewN | with_reducible apply Below.setCell | with_reducible apply Below.alloc | omega | (simp; done) | (simp; omega))) (by simp) HQ; clear HQ; have HW9 : Hid (Below w.heap.size w w9) := (w0_below w l).trans (HB9.out.mono (by omega)); have LV9 := LIVE.out w9 HB9.out; have r0_9 := LV9.r0; have r1_9 := LV9.r1; have g0_9 := LV9.g0; have g1_9 := LV9.g1; have z1_9 := LV9.z1; clear LV9)
    have hR := (LIVE.out w9 HB9.out).rb
    obtain ⟨kk0, kk1⟩ := two_set hR (.int .i64 7) (.slice none 0 0)
    have hfin := res_ref (l := l) 7 H.out HB9.out
    exact bodyPost_ret (v := .agg #[.int .i64 7, .slice none 0 0]) (by simp [results, Tryz.results59, go_sem, kk0, kk1]) rfl hfin)

set_option maxRecDepth 100000 in
set_option maxHeartbeats 2000000 in
theorem drop_owner (w : World) (x : Nat) (S : Nat → Prop) (s : Bk) (l : Ln) (hI : Inv s) (hL : LnOk l) (h : BkAt w x S s) (k : Nat) (ok : ByteArray) (hk : k < s.pools.length) (h1 : findH s.pools l.a l.n = k) (his : isH l.a l.n (s.pools.getD k hd0) = true) (hok : (s.pools.getD k hd0).o = ok) (h2 : ok ≠ l.o) :
    Calls Tryz.prog 59 #[.pointer (some ⟨x, 0, none⟩), .agg (lnC l)] w (Res w x S (s, ref 8)) := by
  obtain ⟨vp, vn, vl, c, B⟩ := h
  have hx := B.blk.lt
  have H : Hid (BkAt w x S s) := ⟨vp, vn, vl, c, B⟩
  have x0 : w.cell? ⟨x, 0, none⟩ = some vp := B.blk.cell 0
  have x1 : w.cell? ⟨x, 1, none⟩ = some vn := B.blk.cell 1
  have x2 : w.cell? ⟨x, 2, none⟩ = some vl := B.blk.cell 2
  have LIVE : Hid (∀ wk, Below (w.heap.size + 2) ((w.alloc (.cells #[.int .i64 l.v, .string l.t, .string l.o, .int .u32 l.a, .int .i64 l.n, .int .u32 l.d, .int .i64 l.g] 74)).alloc (.cells #[.int .i64 0, .slice none 0 0] 79)) wk → Live w wk x vp vn vl l) := live_of l B
  have HBA : Hid (BA w x S vp vn vl c s) := B
  have hxa : ¬ (x = w.heap.size) := by omega
  have hxb : ¬ (w.heap.size = x) := by omega
  have HF : Hid (∀ Wc, Below w.heap.size w Wc → Calls Tryz.prog 82 #[vp, .agg #[.int .u32 l.a, .int .i64 l.n]] Wc fun e w' => e = .returned (.int .i64 (findH s.pools l.a l.n)) ∧ Below Wc.heap.size Wc w') := fun Wc hW => findP s.pools l.a l.n vp Wc (fun q hq => (hI.pa q hq).1) hL.a ((Rd.of_owns (k := 3) (enc := encH) (fun _ => rfl) hd0 B.op).below hW)
  rw [h1] at HF
  have HOW : Hid (∀ Wc, Below w.heap.size w Wc → Calls Tryz.prog 83 #[.agg #[.int .u32 l.a, .int .i64 l.n, .string ok], .string l.o] Wc fun e w' => e = .returned (.bool (ok.toList == l.o.toList)) ∧ Below Wc.heap.size Wc w') := fun Wc hW => howned_any ⟨l.a, l.n, ok⟩ l.o Wc
  rw [beqB, decide_eq_false h2] at HOW
  have hkk : ∀ q : Hd, (encH q).length = 3 := fun _ => rfl
  have hrd := Rd.of_owns hkk hd0 B.op
  obtain ⟨bq, cq, ev, hq1, hq2, hq3⟩ := hrd
  obtain ⟨gq, rfl, hq4, hq5⟩ := hq3 (by intro e; rw [e] at hk; simp at hk)
  have hk5 := hq5 k hk
  have hk6 : (s.pools.getD k hd0).a = l.a ∧ (s.pools.getD k hd0).n = l.n := by simpa [isH] using his
  have ROW : Hid (∀ wk, Below w.heap.size w wk → wk.cell? ⟨gq, k * 3, none⟩ = some (.int .u32 l.a) ∧ wk.cell? ⟨gq, k * 3 + 1, none⟩ = some (.int .i64 l.n) ∧ wk.cell? ⟨gq, k * 3 + 2, none⟩ = some (.string ok)) := fun wk hw =>
    ⟨(hw.cell (p := ⟨gq, k * 3, none⟩) hq4).trans (by rw [← hk6.1]; exact hk5 0 _ rfl), (hw.cell (p := ⟨gq, k * 3 + 1, none⟩) hq4).trans (by rw [← hk6.2]; exact hk5 1 _ rfl), (hw.cell (p := ⟨gq, k * 3 + 2, none⟩) hq4).trans (by rw [← hok]; exact hk5 2 _ rfl)⟩
  have hlen : s.pools.length ≤ 1000 := by have := hI.p; omega
  have hkz : (k : Int) < (s.pools.length : Int) := by omega
  have hkn : ¬ ((k : Int) < 0) := by omega
  have hk0 : (0 : Int) ≤ (k : Int) := by omega
  clear hq1 hq2 hq5 hk5 hk6 his hok
  subst ev
  clear B
  unfold lnC
  go_enter Tryz.func59, Tryz.ntmps59
  go_wp2
  go_region_held3 (fun w' => w'.cell? ⟨x, 0, none⟩ = some (.slice (some ⟨gq, 0, none⟩) s.pools.length cq) ∧ w'.cell? ⟨w.heap.size, 3, none⟩ = some (.int .u32 l.a) ∧ w'.cell? ⟨w.heap.size, 4, none⟩ = some (.int .i64 l.n)) (go_keep) (first | (go_at_call 82; refine (HF.out _ (by repeat' (first | with_reducible assumption | with_reducible exact Below.refl _ _ | with_reducible apply Below.drew | with_reducible apply below_drewN | with_reducible apply Below.setCell | with_reducible apply Below.alloc | omega | (simp; done) | (simp; omega)))).mono ?_; rintro e w1 ⟨rfl, HQ⟩; have HB1 : Hid (Below (w.heap.size + 2) ((w.alloc (.cells #[.int .i64 l.v, .string l.t, .string l.o, .int .u32 l.a, .int .i64 l.n, .int .u32 l.d, .int .i64 l.g] 74)).alloc (.cells #[.int .i64 0, .slice none 0 0] 79)) w1) := bstep (by repeat' (first | with_reducible assumption | with_reducible exact Below.refl _ _ | with_reducible apply Below.drew | with_reducible apply below_drewN | with_reducible apply Below.setCell | with_reducible apply Below.alloc | omega | (simp; done) | (simp; omega))) (by simp) HQ; clear HQ; have HW1 : Hid (Below w.heap.size w w1) := (w0_below w l).trans (HB1.out.mono (by omega)); have LV1 := LIVE.out w1 HB1.out; have x0_1 := LV1.x0; have o_1 := LV1.o; have a_1 := LV1.a; have n_1 := LV1.n; have zx_1 := LV1.zx; have z0_1 := LV1.z0; have z1_1 := LV1.z1; have r0_1 := LV1.r0; have r1_1 := LV1.r1; have g0_1 := LV1.g0; have g1_1 := LV1.g1; obtain ⟨e0_1, e1_1, e2_1⟩ := ROW.out w1 HW1.out; clear LV1))
  all_goals (
    go_wp2
    go_region_held3 (fun w' => w'.cell? ⟨x, 0, none⟩ = some (.slice (some ⟨gq, 0, none⟩) s.pools.length cq) ∧ w'.cell? ⟨w.heap.size, 2, none⟩ = some (.string l.o) ∧ w'.cell? ⟨gq, k * 3, none⟩ = some (.int .u32 l.a) ∧ w'.cell? ⟨gq, k * 3 + 1, none⟩ = some (.int .i64 l.n) ∧ w'.cell? ⟨gq, k * 3 + 2, none⟩ = some (.string ok)) (go_keep) (first | (go_at_call 83; refine (HOW.out _ (by have hp := HW1.out; repeat' (first | with_reducible assumption | with_reducible exact Below.refl _ _ | with_reducible apply Below.drew | with_reducible apply below_drewN | with_reducible apply Below.setCell | with_reducible apply Below.alloc | omega | (simp; done) | (simp; omega)))).mono ?_; rintro e w2 ⟨rfl, HQ⟩; have HB2 : Hid (Below (w.heap.size + 2) ((w.alloc (.cells #[.int .i64 l.v, .string l.t, .string l.o, .int .u32 l.a, .int .i64 l.n, .int .u32 l.d, .int .i64 l.g] 74)).alloc (.cells #[.int .i64 0, .slice none 0 0] 79)) w2) := bstep (by have hp := HB1.out; repeat' (first | with_reducible assumption | with_reducible exact Below.refl _ _ | with_reducible apply Below.drew | with_reducible apply below_drewN | with_reducible apply Below.setCell | with_reducible apply Below.alloc | omega | (simp; done) | (simp; omega))) (by simp) HQ; clear HQ; have HW2 : Hid (Below w.heap.size w w2) := (w0_below w l).trans (HB2.out.mono (by omega)); have LV2 := LIVE.out w2 HB2.out; have x0_2 := LV2.x0; have zx_2 := LV2.zx; have z0_2 := LV2.z0; have z1_2 := LV2.z1; have o_2 := LV2.o; have r0_2 := LV2.r0; have r1_2 := LV2.r1; have g0_2 := LV2.g0; have g1_2 := LV2.g1; obtain ⟨e0_2, e1_2, e2_2⟩ := ROW.out w2 HW2.out; clear LV2))
    all_goals (
      go_wp2_with (go_at_call 31; refine (refuse_any 8 _).mono ?_; rintro e w9 ⟨rfl, HQ⟩; have HB9 : Hid (Below (w.heap.size + 2) ((w.alloc (.cells #[.int .i64 l.v, .string l.t, .string l.o, .int .u32 l.a, .int .i64 l.n, .int .u32 l.d, .int .i64 l.g] 74)).alloc (.cells #[.int .i64 0, .slice none 0 0] 79)) w9) := bstep (by have hp := HB2.out; repeat' (first | with_reducible assumption | with_reducible exact Below.refl _ _ | with_reducible apply Below.drew | with_reducible apply below_drewN | with_reducible apply Below.setCell | with_reducible apply Below.alloc | omega | (simp; done) | (simp; omega))) (by simp) HQ; clear HQ; have HW9 : Hid (Below w.heap.size w w9) := (w0_below w l).trans (HB9.out.mono (by omega)); have LV9 := LIVE.out w9 HB9.out; have r0_9 := LV9.r0; have r1_9 := LV9.r1; have g0_9 := LV9.g0; have g1_9 := LV9.g1; have z1_9 := LV9.z1; clear LV9)
      have hR := (LIVE.out w9 HB9.out).rb
      obtain ⟨kk0, kk1⟩ := two_set hR (.int .i64 8) (.slice none 0 0)
      have hfin := res_ref (l := l) 8 H.out HB9.out
      exact bodyPost_ret (v := .agg #[.int .i64 8, .slice none 0 0]) (by simp [results, Tryz.results59, go_sem, kk0, kk1]) rfl hfin))

set_option maxRecDepth 100000 in
set_option maxHeartbeats 2000000 in
theorem drop_busy (w : World) (x : Nat) (S : Nat → Prop) (s : Bk) (l : Ln) (hI : Inv s) (hL : LnOk l) (h : BkAt w x S s) (k : Nat) (ok : ByteArray) (hk : k < s.pools.length) (h1 : findH s.pools l.a l.n = k) (his : isH l.a l.n (s.pools.getD k hd0) = true) (hok : (s.pools.getD k hd0).o = ok) (h2 : ok = l.o) (h3 : ¬ (netsOf s.nets l.a l.n) = []) :
    Calls Tryz.prog 59 #[.pointer (some ⟨x, 0, none⟩), .agg (lnC l)] w (Res w x S (s, ref 9)) := by
  obtain ⟨vp, vn, vl, c, B⟩ := h
  have hx := B.blk.lt
  have H : Hid (BkAt w x S s) := ⟨vp, vn, vl, c, B⟩
  have x0 : w.cell? ⟨x, 0, none⟩ = some vp := B.blk.cell 0
  have x1 : w.cell? ⟨x, 1, none⟩ = some vn := B.blk.cell 1
  have x2 : w.cell? ⟨x, 2, none⟩ = some vl := B.blk.cell 2
  have LIVE : Hid (∀ wk, Below (w.heap.size + 2) ((w.alloc (.cells #[.int .i64 l.v, .string l.t, .string l.o, .int .u32 l.a, .int .i64 l.n, .int .u32 l.d, .int .i64 l.g] 74)).alloc (.cells #[.int .i64 0, .slice none 0 0] 79)) wk → Live w wk x vp vn vl l) := live_of l B
  have HBA : Hid (BA w x S vp vn vl c s) := B
  have hxa : ¬ (x = w.heap.size) := by omega
  have hxb : ¬ (w.heap.size = x) := by omega
  have HF : Hid (∀ Wc, Below w.heap.size w Wc → Calls Tryz.prog 82 #[vp, .agg #[.int .u32 l.a, .int .i64 l.n]] Wc fun e w' => e = .returned (.int .i64 (findH s.pools l.a l.n)) ∧ Below Wc.heap.size Wc w') := fun Wc hW => findP s.pools l.a l.n vp Wc (fun q hq => (hI.pa q hq).1) hL.a ((Rd.of_owns (k := 3) (enc := encH) (fun _ => rfl) hd0 B.op).below hW)
  rw [h1] at HF
  have HOW : Hid (∀ Wc, Below w.heap.size w Wc → Calls Tryz.prog 83 #[.agg #[.int .u32 l.a, .int .i64 l.n, .string ok], .string l.o] Wc fun e w' => e = .returned (.bool (ok.toList == l.o.toList)) ∧ Below Wc.heap.size Wc w') := fun Wc hW => howned_any ⟨l.a, l.n, ok⟩ l.o Wc
  rw [beqB, decide_eq_true h2] at HOW
  clear h2
  have HSUB : Hid (∀ Wc, Below w.heap.size w Wc → Calls Tryz.prog 84 #[.pointer (some ⟨x, 0, none⟩), .agg #[.int .u32 l.a, .int .i64 l.n, .string ok]] Wc fun e w' => (∃ b c, e = .returned (.slice b (netsOf s.nets l.a l.n).length c)) ∧ Below Wc.heap.size Wc w') := fun Wc hW => by
    refine (netsOf_any x s.nets ⟨l.a, l.n, ok⟩ vn Wc (Nat.lt_of_lt_of_le hx hW.size) ((hW.cell (p := ⟨x, 1, none⟩) hx).trans x1) ((Rd.of_owns (k := 3) (enc := encH) (fun _ => rfl) hd0 B.on).below hW) (by have := hI.n; omega) (fun q hq => (hI.na q hq).1) hL.a).mono ?_
    rintro e w' ⟨vv, rfl, o1, o2⟩
    obtain ⟨b, c, rfl, _, _⟩ := owns_slice o1
    exact ⟨⟨b, c, rfl⟩, o2⟩
  have hkk : ∀ q : Hd, (encH q).length = 3 := fun _ => rfl
  have hrd := Rd.of_owns hkk hd0 B.op
  obtain ⟨bq, cq, ev, hq1, hq2, hq3⟩ := hrd
  obtain ⟨gq, rfl, hq4, hq5⟩ := hq3 (by intro e; rw [e] at hk; simp at hk)
  have hk5 := hq5 k hk
  have hk6 : (s.pools.getD k hd0).a = l.a ∧ (s.pools.getD k hd0).n = l.n := by simpa [isH] using his
  have ROW : Hid (∀ wk, Below w.heap.size w wk → wk.cell? ⟨gq, k * 3, none⟩ = some (.int .u32 l.a) ∧ wk.cell? ⟨gq, k * 3 + 1, none⟩ = some (.int .i64 l.n) ∧ wk.cell? ⟨gq, k * 3 + 2, none⟩ = some (.string ok)) := fun wk hw =>
    ⟨(hw.cell (p := ⟨gq, k * 3, none⟩) hq4).trans (by rw [← hk6.1]; exact hk5 0 _ rfl), (hw.cell (p := ⟨gq, k * 3 + 1, none⟩) hq4).trans (by rw [← hk6.2]; exact hk5 1 _ rfl), (hw.cell (p := ⟨gq, k * 3 + 2, none⟩) hq4).trans (by rw [← hok]; exact hk5 2 _ rfl)⟩
  have hlen : s.pools.length ≤ 1000 := by have := hI.p; omega
  have hkz : (k : Int) < (s.pools.length : Int) := by omega
  have hkn : ¬ ((k : Int) < 0) := by omega
  have hk0 : (0 : Int) ≤ (k : Int) := by omega
  clear hq1 hq2 hq5 hk5 hk6 his hok
  subst ev
  have h4 : (0 : Int) < (((netsOf s.nets l.a l.n).length : Nat) : Int) := by have := List.length_pos_iff.2 h3; omega
  clear B
  unfold lnC
  go_enter Tryz.func59, Tryz.ntmps59
  go_wp2
  go_region_held3 (fun w' => w'.cell? ⟨x, 0, none⟩ = some (.slice (some ⟨gq, 0, none⟩) s.pools.length cq) ∧ w'.cell? ⟨w.heap.size, 3, none⟩ = some (.int .u32 l.a) ∧ w'.cell? ⟨w.heap.size, 4, none⟩ = some (.int .i64 l.n)) (go_keep) (first | (go_at_call 82; refine (HF.out _ (by repeat' (first | with_reducible assumption | with_reducible exact Below.refl _ _ | with_reducible apply Below.drew | with_reducible apply below_drewN | with_reducible apply Below.setCell | with_reducible apply Below.alloc | omega | (simp; done) | (simp; omega)))).mono ?_; rintro e w1 ⟨rfl, HQ⟩; have HB1 : Hid (Below (w.heap.size + 2) ((w.alloc (.cells #[.int .i64 l.v, .string l.t, .string l.o, .int .u32 l.a, .int .i64 l.n, .int .u32 l.d, .int .i64 l.g] 74)).alloc (.cells #[.int .i64 0, .slice none 0 0] 79)) w1) := bstep (by repeat' (first | with_reducible assumption | with_reducible exact Below.refl _ _ | with_reducible apply Below.drew | with_reducible apply below_drewN | with_reducible apply Below.setCell | with_reducible apply Below.alloc | omega | (simp; done) | (simp; omega))) (by simp) HQ; clear HQ; have HW1 : Hid (Below w.heap.size w w1) := (w0_below w l).trans (HB1.out.mono (by omega)); have LV1 := LIVE.out w1 HB1.out; have x0_1 := LV1.x0; have o_1 := LV1.o; have a_1 := LV1.a; have n_1 := LV1.n; have zx_1 := LV1.zx; have z0_1 := LV1.z0; have z1_1 := LV1.z1; have r0_1 := LV1.r0; have r1_1 := LV1.r1; have g0_1 := LV1.g0; have g1_1 := LV1.g1; obtain ⟨e0_1, e1_1, e2_1⟩ := ROW.out w1 HW1.out; clear LV1))
  all_goals (
    go_wp2
    go_region_held3 (fun w' => w'.cell? ⟨x, 0, none⟩ = some (.slice (some ⟨gq, 0, none⟩) s.pools.length cq) ∧ w'.cell? ⟨w.heap.size, 2, none⟩ = some (.string l.o) ∧ w'.cell? ⟨gq, k * 3, none⟩ = some (.int .u32 l.a) ∧ w'.cell? ⟨gq, k * 3 + 1, none⟩ = some (.int .i64 l.n) ∧ w'.cell? ⟨gq, k * 3 + 2, none⟩ = some (.string ok)) (go_keep) (first | (go_at_call 83; refine (HOW.out _ (by have hp := HW1.out; repeat' (first | with_reducible assumption | with_reducible exact Below.refl _ _ | with_reducible apply Below.drew | with_reducible apply below_drewN | with_reducible apply Below.setCell | with_reducible apply Below.alloc | omega | (simp; done) | (simp; omega)))).mono ?_; rintro e w2 ⟨rfl, HQ⟩; have HB2 : Hid (Below (w.heap.size + 2) ((w.alloc (.cells #[.int .i64 l.v, .string l.t, .string l.o, .int .u32 l.a, .int .i64 l.n, .int .u32 l.d, .int .i64 l.g] 74)).alloc (.cells #[.int .i64 0, .slice none 0 0] 79)) w2) := bstep (by have hp := HB1.out; repeat' (first | with_reducible assumption | with_reducible exact Below.refl _ _ | with_reducible apply Below.drew | with_reducible apply below_drewN | with_reducible apply Below.setCell | with_reducible apply Below.alloc | omega | (simp; done) | (simp; omega))) (by simp) HQ; clear HQ; have HW2 : Hid (Below w.heap.size w w2) := (w0_below w l).trans (HB2.out.mono (by omega)); have LV2 := LIVE.out w2 HB2.out; have x0_2 := LV2.x0; have zx_2 := LV2.zx; have z0_2 := LV2.z0; have z1_2 := LV2.z1; have o_2 := LV2.o; have r0_2 := LV2.r0; have r1_2 := LV2.r1; have g0_2 := LV2.g0; have g1_2 := LV2.g1; obtain ⟨e0_2, e1_2, e2_2⟩ := ROW.out w2 HW2.out; clear LV2))
    all_goals (
      go_wp2_with (first | (go_at_call 84; refine (HSUB.out _ (by have hp := HW2.out; repeat' (first | with_reducible assumption | with_reducible exact Below.refl _ _ | with_reducible apply Below.drew | with_reducible apply below_drewN | with_reducible apply Below.setCell | with_reducible apply Below.alloc | omega | (simp; done) | (simp; omega)))).mono ?_; rintro e w3 ⟨⟨bs, cs, rfl⟩, HQ⟩; have HB3 : Hid (Below (w.heap.size + 2) ((w.alloc (.cells #[.int .i64 l.v, .string l.t, .string l.o, .int .u32 l.a, .int .i64 l.n, .int .u32 l.d, .int .i64 l.g] 74)).alloc (.cells #[.int .i64 0, .slice none 0 0] 79)) w3) := bstep (by have hp := HB2.out; repeat' (first | with_reducible assumption | with_reducible exact Below.refl _ _ | with_reducible apply Below.drew | with_reducible apply below_drewN | with_reducible apply Below.setCell | with_reducible apply Below.alloc | omega | (simp; done) | (simp; omega))) (by simp) HQ; clear HQ; have HW3 : Hid (Below w.heap.size w w3) := (w0_below w l).trans (HB3.out.mono (by omega)); have LV3 := LIVE.out w3 HB3.out; have x0_3 := LV3.x0; have zx_3 := LV3.zx; have z0_3 := LV3.z0; have z1_3 := LV3.z1; have r0_3 := LV3.r0; have r1_3 := LV3.r1; have g0_3 := LV3.g0; have g1_3 := LV3.g1; obtain ⟨e0_3, e1_3, e2_3⟩ := ROW.out w3 HW3.out; clear LV3) | (go_at_call 31; refine (refuse_any 9 _).mono ?_; rintro e w9 ⟨rfl, HQ⟩; have HB9 : Hid (Below (w.heap.size + 2) ((w.alloc (.cells #[.int .i64 l.v, .string l.t, .string l.o, .int .u32 l.a, .int .i64 l.n, .int .u32 l.d, .int .i64 l.g] 74)).alloc (.cells #[.int .i64 0, .slice none 0 0] 79)) w9) := bstep (by have hp := HB3.out; repeat' (first | with_reducible assumption | with_reducible exact Below.refl _ _ | with_reducible apply Below.drew | with_reducible apply below_drewN | with_reducible apply Below.setCell | with_reducible apply Below.alloc | omega | (simp; done) | (simp; omega))) (by simp) HQ; clear HQ; have HW9 : Hid (Below w.heap.size w w9) := (w0_below w l).trans (HB9.out.mono (by omega)); have LV9 := LIVE.out w9 HB9.out; have r0_9 := LV9.r0; have r1_9 := LV9.r1; have g0_9 := LV9.g0; have g1_9 := LV9.g1; have z1_9 := LV9.z1; clear LV9))
      have hR := (LIVE.out w9 HB9.out).rb
      obtain ⟨kk0, kk1⟩ := two_set hR (.int .i64 9) (.slice none 0 0)
      have hfin := res_ref (l := l) 9 H.out HB9.out
      exact bodyPost_ret (v := .agg #[.int .i64 9, .slice none 0 0]) (by simp [results, Tryz.results59, go_sem, kk0, kk1]) rfl hfin))

set_option maxRecDepth 100000 in
set_option maxHeartbeats 2000000 in
theorem drop_ok (w : World) (x : Nat) (S : Nat → Prop) (s : Bk) (l : Ln) (hI : Inv s) (hL : LnOk l) (h : BkAt w x S s) (k : Nat) (ok : ByteArray) (hk : k < s.pools.length) (h1 : findH s.pools l.a l.n = k) (his : isH l.a l.n (s.pools.getD k hd0) = true) (hok : (s.pools.getD k hd0).o = ok) (h2 : ok = l.o) (h3 : (netsOf s.nets l.a l.n) = []) :
    Calls Tryz.prog 59 #[.pointer (some ⟨x, 0, none⟩), .agg (lnC l)] w (Res w x S ({ s with pools := delAt s.pools k }, okA)) := by
  obtain ⟨vp, vn, vl, c, B⟩ := h
  have hx := B.blk.lt
  have H : Hid (BkAt w x S s) := ⟨vp, vn, vl, c, B⟩
  have x0 : w.cell? ⟨x, 0, none⟩ = some vp := B.blk.cell 0
  have x1 : w.cell? ⟨x, 1, none⟩ = some vn := B.blk.cell 1
  have x2 : w.cell? ⟨x, 2, none⟩ = some vl := B.blk.cell 2
  have LIVE : Hid (∀ wk, Below (w.heap.size + 2) ((w.alloc (.cells #[.int .i64 l.v, .string l.t, .string l.o, .int .u32 l.a, .int .i64 l.n, .int .u32 l.d, .int .i64 l.g] 74)).alloc (.cells #[.int .i64 0, .slice none 0 0] 79)) wk → Live w wk x vp vn vl l) := live_of l B
  have HBA : Hid (BA w x S vp vn vl c s) := B
  have hxa : ¬ (x = w.heap.size) := by omega
  have hxb : ¬ (w.heap.size = x) := by omega
  have HF : Hid (∀ Wc, Below w.heap.size w Wc → Calls Tryz.prog 82 #[vp, .agg #[.int .u32 l.a, .int .i64 l.n]] Wc fun e w' => e = .returned (.int .i64 (findH s.pools l.a l.n)) ∧ Below Wc.heap.size Wc w') := fun Wc hW => findP s.pools l.a l.n vp Wc (fun q hq => (hI.pa q hq).1) hL.a ((Rd.of_owns (k := 3) (enc := encH) (fun _ => rfl) hd0 B.op).below hW)
  rw [h1] at HF
  have HOW : Hid (∀ Wc, Below w.heap.size w Wc → Calls Tryz.prog 83 #[.agg #[.int .u32 l.a, .int .i64 l.n, .string ok], .string l.o] Wc fun e w' => e = .returned (.bool (ok.toList == l.o.toList)) ∧ Below Wc.heap.size Wc w') := fun Wc hW => howned_any ⟨l.a, l.n, ok⟩ l.o Wc
  rw [beqB, decide_eq_true h2] at HOW
  clear h2
  have HSUB : Hid (∀ Wc, Below w.heap.size w Wc → Calls Tryz.prog 84 #[.pointer (some ⟨x, 0, none⟩), .agg #[.int .u32 l.a, .int .i64 l.n, .string ok]] Wc fun e w' => (∃ b c, e = .returned (.slice b (netsOf s.nets l.a l.n).length c)) ∧ Below Wc.heap.size Wc w') := fun Wc hW => by
    refine (netsOf_any x s.nets ⟨l.a, l.n, ok⟩ vn Wc (Nat.lt_of_lt_of_le hx hW.size) ((hW.cell (p := ⟨x, 1, none⟩) hx).trans x1) ((Rd.of_owns (k := 3) (enc := encH) (fun _ => rfl) hd0 B.on).below hW) (by have := hI.n; omega) (fun q hq => (hI.na q hq).1) hL.a).mono ?_
    rintro e w' ⟨vv, rfl, o1, o2⟩
    obtain ⟨b, c, rfl, _, _⟩ := owns_slice o1
    exact ⟨⟨b, c, rfl⟩, o2⟩
  rw [h3] at HSUB
  have HIN : Hid (∀ Wc, Below w.heap.size w Wc → Calls Tryz.prog 85 #[vp, .int .i64 k, .int .i64 ((k : Int) + 1)] Wc fun e w' => ∃ g cap, e = .returned (.slice (some ⟨g, 0, none⟩) (s.pools.length - 1) cap) ∧ w'.ownsRow 0 142 3 (.slice (some ⟨g, 0, none⟩) (s.pools.length - 1) cap) (s.pools.length - 1) ((delAt s.pools k).flatMap encH) ∧ Wc.grownBy w' vp.ownBlock ∧ ∀ b, (Value.slice (some ⟨g, 0, none⟩) (s.pools.length - 1) cap).ownBlock = some b → vp.ownBlock = some b ∨ Wc.heap.size ≤ b) := fun Wc hW => delpools (owns_below B.op hW) k hk (by have := hI.p; omega)
  have FIX : Hid (∀ (W : World) v, W.ownsRow 0 142 3 v (s.pools.length - 1) ((delAt s.pools k).flatMap encH) → W.ownsRow 0 142 3 v (delAt s.pools k).length ((delAt s.pools k).flatMap encH)) := fun W v q => by rw [delAt_len _ _ hk]; exact q
  have NX : Hid (vp.ownBlock ≠ some x) := fun e => ((B.apart.1) x e).1 rfl
  have NR : Hid (∀ b, vp.ownBlock = some b → b < w.heap.size) := fun b e => (owns_lt B.op b e).1
  generalize hob : vp.ownBlock = ob at HIN NX NR
  have HOB : Hid (vp.ownBlock = ob) := hob
  clear hob
  have hkk : ∀ q : Hd, (encH q).length = 3 := fun _ => rfl
  have hrd := Rd.of_owns hkk hd0 B.op
  obtain ⟨bq, cq, ev, hq1, hq2, hq3⟩ := hrd
  obtain ⟨gq, rfl, hq4, hq5⟩ := hq3 (by intro e; rw [e] at hk; simp at hk)
  have hk5 := hq5 k hk
  have hk6 : (s.pools.getD k hd0).a = l.a ∧ (s.pools.getD k hd0).n = l.n := by simpa [isH] using his
  have ROW : Hid (∀ wk, Below w.heap.size w wk → wk.cell? ⟨gq, k * 3, none⟩ = some (.int .u32 l.a) ∧ wk.cell? ⟨gq, k * 3 + 1, none⟩ = some (.int .i64 l.n) ∧ wk.cell? ⟨gq, k * 3 + 2, none⟩ = some (.string ok)) := fun wk hw =>
    ⟨(hw.cell (p := ⟨gq, k * 3, none⟩) hq4).trans (by rw [← hk6.1]; exact hk5 0 _ rfl), (hw.cell (p := ⟨gq, k * 3 + 1, none⟩) hq4).trans (by rw [← hk6.2]; exact hk5 1 _ rfl), (hw.cell (p := ⟨gq, k * 3 + 2, none⟩) hq4).trans (by rw [← hok]; exact hk5 2 _ rfl)⟩
  have hlen : s.pools.length ≤ 1000 := by have := hI.p; omega
  have hkz : (k : Int) < (s.pools.length : Int) := by omega
  have hkn : ¬ ((k : Int) < 0) := by omega
  have hk0 : (0 : Int) ≤ (k : Int) := by omega
  clear hq1 hq2 hq5 hk5 hk6 his hok
  subst ev
  have hw1 : IntKind.i64.wrap ((k : Int) + 1) = (k : Int) + 1 := by rw [IntKind.wrap_i64]; omega
  clear B
  unfold lnC
  go_enter Tryz.func59, Tryz.ntmps59
  go_wp2
  go_region_held3 (fun w' => w'.cell? ⟨x, 0, none⟩ = some (.slice (some ⟨gq, 0, none⟩) s.pools.length cq) ∧ w'.cell? ⟨w.heap.size, 3, none⟩ = some (.int .u32 l.a) ∧ w'.cell? ⟨w.heap.size, 4, none⟩ = some (.int .i64 l.n)) (go_keep) (first | (go_at_call 82; refine (HF.out _ (by repeat' (first | with_reducible assumption | with_reducible exact Below.refl _ _ | with_reducible apply Below.drew | with_reducible apply below_drewN | with_reducible apply Below.setCell | with_reducible apply Below.alloc | omega | (simp; done) | (simp; omega)))).mono ?_; rintro e w1 ⟨rfl, HQ⟩; have HB1 : Hid (Below (w.heap.size + 2) ((w.alloc (.cells #[.int .i64 l.v, .string l.t, .string l.o, .int .u32 l.a, .int .i64 l.n, .int .u32 l.d, .int .i64 l.g] 74)).alloc (.cells #[.int .i64 0, .slice none 0 0] 79)) w1) := bstep (by repeat' (first | with_reducible assumption | with_reducible exact Below.refl _ _ | with_reducible apply Below.drew | with_reducible apply below_drewN | with_reducible apply Below.setCell | with_reducible apply Below.alloc | omega | (simp; done) | (simp; omega))) (by simp) HQ; clear HQ; have HW1 : Hid (Below w.heap.size w w1) := (w0_below w l).trans (HB1.out.mono (by omega)); have LV1 := LIVE.out w1 HB1.out; have x0_1 := LV1.x0; have o_1 := LV1.o; have a_1 := LV1.a; have n_1 := LV1.n; have zx_1 := LV1.zx; have z0_1 := LV1.z0; have z1_1 := LV1.z1; have r0_1 := LV1.r0; have r1_1 := LV1.r1; have g0_1 := LV1.g0; have g1_1 := LV1.g1; obtain ⟨e0_1, e1_1, e2_1⟩ := ROW.out w1 HW1.out; clear LV1))
  all_goals (
    go_wp2
    go_region_held3 (fun w' => w'.cell? ⟨x, 0, none⟩ = some (.slice (some ⟨gq, 0, none⟩) s.pools.length cq) ∧ w'.cell? ⟨w.heap.size, 2, none⟩ = some (.string l.o) ∧ w'.cell? ⟨gq, k * 3, none⟩ = some (.int .u32 l.a) ∧ w'.cell? ⟨gq, k * 3 + 1, none⟩ = some (.int .i64 l.n) ∧ w'.cell? ⟨gq, k * 3 + 2, none⟩ = some (.string ok)) (go_keep) (first | (go_at_call 83; refine (HOW.out _ (by have hp := HW1.out; repeat' (first | with_reducible assumption | with_reducible exact Below.refl _ _ | with_reducible apply Below.drew | with_reducible apply below_drewN | with_reducible apply Below.setCell | with_reducible apply Below.alloc | omega | (simp; done) | (simp; omega)))).mono ?_; rintro e w2 ⟨rfl, HQ⟩; have HB2 : Hid (Below (w.heap.size + 2) ((w.alloc (.cells #[.int .i64 l.v, .string l.t, .string l.o, .int .u32 l.a, .int .i64 l.n, .int .u32 l.d, .int .i64 l.g] 74)).alloc (.cells #[.int .i64 0, .slice none 0 0] 79)) w2) := bstep (by have hp := HB1.out; repeat' (first | with_reducible assumption | with_reducible exact Below.refl _ _ | with_reducible apply Below.drew | with_reducible apply below_drewN | with_reducible apply Below.setCell | with_reducible apply Below.alloc | omega | (simp; done) | (simp; omega))) (by simp) HQ; clear HQ; have HW2 : Hid (Below w.heap.size w w2) := (w0_below w l).trans (HB2.out.mono (by omega)); have LV2 := LIVE.out w2 HB2.out; have x0_2 := LV2.x0; have zx_2 := LV2.zx; have z0_2 := LV2.z0; have z1_2 := LV2.z1; have o_2 := LV2.o; have r0_2 := LV2.r0; have r1_2 := LV2.r1; have g0_2 := LV2.g0; have g1_2 := LV2.g1; obtain ⟨e0_2, e1_2, e2_2⟩ := ROW.out w2 HW2.out; clear LV2))
    all_goals (
      go_wp2_with (first | (go_at_call 84; refine (HSUB.out _ (by have hp := HW2.out; repeat' (first | with_reducible assumption | with_reducible exact Below.refl _ _ | with_reducible apply Below.drew | with_reducible apply below_drewN | with_reducible apply Below.setCell | with_reducible apply Below.alloc | omega | (simp; done) | (simp; omega)))).mono ?_; rintro e w3 ⟨⟨bs, cs, rfl⟩, HQ⟩; have HB3 : Hid (Below (w.heap.size + 2) ((w.alloc (.cells #[.int .i64 l.v, .string l.t, .string l.o, .int .u32 l.a, .int .i64 l.n, .int .u32 l.d, .int .i64 l.g] 74)).alloc (.cells #[.int .i64 0, .slice none 0 0] 79)) w3) := bstep (by have hp := HB2.out; repeat' (first | with_reducible assumption | with_reducible exact Below.refl _ _ | with_reducible apply Below.drew | with_reducible apply below_drewN | with_reducible apply Below.setCell | with_reducible apply Below.alloc | omega | (simp; done) | (simp; omega))) (by simp) HQ; clear HQ; have HW3 : Hid (Below w.heap.size w w3) := (w0_below w l).trans (HB3.out.mono (by omega)); have LV3 := LIVE.out w3 HB3.out; have x0_3 := LV3.x0; have zx_3 := LV3.zx; have z0_3 := LV3.z0; have z1_3 := LV3.z1; have r0_3 := LV3.r0; have r1_3 := LV3.r1; have g0_3 := LV3.g0; have g1_3 := LV3.g1; obtain ⟨e0_3, e1_3, e2_3⟩ := ROW.out w3 HW3.out; clear LV3) | (go_at_call 85; refine (HIN.out _ (by have hp := HW3.out; repeat' (first | with_reducible assumption | with_reducible exact Below.refl _ _ | with_reducible apply Below.drew | with_reducible apply below_drewN | with_reducible apply Below.setCell | with_reducible apply Below.alloc | omega | (simp; done) | (simp; omega)))).mono ?_; rintro e w4 ⟨g2, cap2, rfl, o1, o2, o3⟩; have LV4 := (LIVE.out _ (by have hp := HB3.out; repeat' (first | with_reducible assumption | with_reducible exact Below.refl _ _ | with_reducible apply Below.drew | with_reducible apply below_drewN | with_reducible apply Below.setCell | with_reducible apply Below.alloc | omega | (simp; done) | (simp; omega)))).far o2 NX.out NR.out; have HG : Hid (∃ Wc, Below w.heap.size w Wc ∧ w.heap.size + 2 ≤ Wc.heap.size ∧ Wc.grownBy w4 ob ∧ ∀ b, (Value.slice (some ⟨g2, 0, none⟩) (s.pools.length - 1) cap2).ownBlock = some b → ob = some b ∨ Wc.heap.size ≤ b) := ⟨_, by have hp := HW3.out; repeat' (first | with_reducible assumption | with_reducible exact Below.refl _ _ | with_reducible apply Below.drew | with_reducible apply below_drewN | with_reducible apply Below.setCell | with_reducible apply Below.alloc | omega | (simp; done) | (simp; omega)), by have hz := HB3.out.size; simp at hz ⊢; omega, o2, o3⟩; have HO : Hid (w4.ownsRow 0 142 3 (.slice (some ⟨g2, 0, none⟩) (s.pools.length - 1) cap2) (s.pools.length - 1) ((delAt s.pools k).flatMap encH)) := o1; have RB4 : Hid (Blk w4 (w.heap.size + 1) #[.int .i64 0, .slice none 0 0] 79) := LV4.rb; have x_4 := LV4.x0; have f_4 := LV4.f0; have a_4 := LV4.a; have n_4 := LV4.n; have o_4 := LV4.o; have zx_4 := LV4.zx; have z1_4 := LV4.z1; clear LV4 o1 o2 o3) | (go_at_call 81; refine (ok_any none 0 0 _).mono ?_; rintro e w5 ⟨rfl, HQ⟩; have HQ5 : Hid (Below w4.heap.size (w4.setCell ⟨x, 0, none⟩ (.slice (some ⟨g2, 0, none⟩) (s.pools.length - 1) cap2)) w5) := HQ.mono (by simp [World.setCell]); have RB5 : Blk w5 (w.heap.size + 1) #[.int .i64 0, .slice none 0 0] 79 := (HQ5.out.block _ z1_4).trans ((Below.heap_setCell _ _ _ _ (fun e => by have e2 : w.heap.size + 1 = x := e; omega)).trans RB4.out); clear HQ; have HR5 : Hid (Blk w5 (w.heap.size + 1) #[.int .i64 0, .slice none 0 0] 79) := RB5; have r0_5 : w5.cell? ⟨w.heap.size + 1, 0, none⟩ = some (.int .i64 0) := RB5.cell 0; have r1_5 : w5.cell? ⟨w.heap.size + 1, 1, none⟩ = some (.slice none 0 0) := RB5.cell 1; have g0_5 : w5.frozen? ⟨w.heap.size + 1, 0, none⟩ = false := RB5.frozen 0; have g1_5 : w5.frozen? ⟨w.heap.size + 1, 1, none⟩ = false := RB5.frozen 1; clear RB5))
      obtain ⟨kk0, kk1⟩ := two_set HR5.out (.int .i64 0) (.slice none 0 0)
      obtain ⟨Wc, hc1, hc2, hc3, hc4⟩ := HG.out
      rw [← HOB.out] at hc3 hc4
      have hfin := res_put0 HBA.out hc1 hc2 hc3 (FIX.out _ _ HO.out) hc4 HQ5.out
      exact bodyPost_ret (v := .agg #[.int .i64 0, .slice none 0 0]) (by simp [results, Tryz.results59, go_sem, kk0, kk1]) rfl hfin))

theorem dropPool_any (w : World) (x : Nat) (S : Nat → Prop) (s : Bk) (l : Ln) (hI : Inv s) (hL : LnOk l) (h : BkAt w x S s) : Calls Tryz.prog 59 #[.pointer (some ⟨x, 0, none⟩), .agg (lnC l)] w (Res w x S (doDrop s l)) := by
  unfold doDrop
  rcases fi_cases (isH l.a l.n) s.pools hd0 with ⟨e, _⟩ | ⟨k, hk, e, hp, _⟩
  · have e1 : findH s.pools l.a l.n = -1 := e
    rw [if_pos (by rw [e1]; decide)]; exact drop_none w x S s l hI hL h e1
  · have e1 : findH s.pools l.a l.n = k := e
    have e2 : (findH s.pools l.a l.n).toNat = k := by rw [e1]; omega
    rw [if_neg (by rw [e1]; omega), e2]
    by_cases h2 : (s.pools.getD k hd0).o = l.o
    · rw [if_neg (by rw [h2]; exact fun q => q rfl)]
      by_cases h3 : netsOf s.nets l.a l.n = []
      · rw [if_neg (by rw [h3]; exact fun q => q rfl)]; exact drop_ok w x S s l hI hL h k _ hk e1 hp rfl h2 h3
      · rw [if_pos h3]; exact drop_busy w x S s l hI hL h k _ hk e1 hp rfl h2 h3
    · rw [if_pos h2]; exact drop_owner w x S s l hI hL h k _ hk e1 hp rfl h2
end Go.Proofs.YtlikdnmikdldfaaGreatDoor
