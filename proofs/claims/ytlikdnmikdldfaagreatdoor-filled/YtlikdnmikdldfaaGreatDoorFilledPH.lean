/-
  BkMj, BkMk, BkMl, BkS, BkInv, BkLn, BkDo, BkCm, BkCn, BkCo, BkCd, BkDd
-/
import Derived.Conc.SmallLaws
import Derived.Test.YtlikdnmikdldfaaGreatDoorFilledPG
namespace Go.Proofs.YtlikdnmikdldfaaGreatDoor
open Go.ChangeShapes Go.WideShapes Go.ChangeAt Go.RowKit
set_option linter.unusedVariables false
set_option linter.unusedSimpArgs false

set_option maxRecDepth 100000 in
set_option maxHeartbeats 2000000 in
theorem net_limit (w : World) (x : Nat) (S : Nat → Prop) (s : Bk) (l : Ln) (hI : Inv s) (hL : LnOk l) (h : BkAt w x S s) (k : Nat) (ok : ByteArray) (hk : k < s.pools.length) (h1 : findH s.pools l.a l.n = k) (his : isH l.a l.n (s.pools.getD k hd0) = true) (hok : (s.pools.getD k hd0).o = ok) (res : Option (Int × Int)) (hres : best (frees 33 (netsOf s.nets l.a l.n) l.a l.n) l.g = res) (h2 : ¬ l.g < 22) (h3 : ¬ l.g < l.n) (b : Int × Int) (h4 : res = some b) (h5 : 24 ≤ s.nets.length) :
    Calls Tryz.prog 60 #[.pointer (some ⟨x, 0, none⟩), .agg (lnC l)] w (Res w x S (s, ref 6)) := by
  obtain ⟨vp, vn, vl, c, B⟩ := h
  have hx := B.blk.lt
  have H : Hid (BkAt w x S s) := ⟨vp, vn, vl, c, B⟩
  have x0 : w.cell? ⟨x, 0, none⟩ = some vp := B.blk.cell 0
  have x1 : w.cell? ⟨x, 1, none⟩ = some vn := B.blk.cell 1
  have x2 : w.cell? ⟨x, 2, none⟩ = some vl := B.blk.cell 2
  have LIVE : Hid (∀ wk, Below (w.heap.size + 2) ((w.alloc (.cells #[.int .i64 l.v, .string l.t, .string l.o, .int .u32 l.a, .int .i64 l.n, .int .u32 l.d, .int .i64 l.g] 74)).alloc (.cells #[.int .i64 0, .slice none 0 0] 79)) wk → Live w wk x vp vn vl l) := live_of l B
  have HBA : Hid (BA w x S vp vn vl c s) := B
  have hxa : ¬ (x = w.heap.size) := by omega
  have hxb : ¬ (w.heap.size = x) := by omega
  have HF : Hid (∀ Wc, Below w.heap.size w Wc → Calls Tryz.prog 82 #[vp, .agg #[.int .u32 l.a, .int .i64 l.n]] Wc fun e w' => e = .returned (.int .i64 (findH s.pools l.a l.n)) ∧ Below Wc.heap.size Wc w') := fun Wc hW => findP s.pools l.a l.n vp Wc (fun q hq => (hI.pa q hq).1) hL.a ((Rd.of_owns (k := 3) (enc := encH) (fun _ => rfl) hd0 B.op).below hW)
  rw [h1] at HF
  have HSUB : Hid (∀ Wc, Below w.heap.size w Wc → Calls Tryz.prog 84 #[.pointer (some ⟨x, 0, none⟩), .agg #[.int .u32 l.a, .int .i64 l.n, .string ok]] Wc fun e w' => (∃ b c, e = .returned (.slice b (netsOf s.nets l.a l.n).length c) ∧ Rd 3 encH hd0 w' (.slice b (netsOf s.nets l.a l.n).length c) (netsOf s.nets l.a l.n)) ∧ Below Wc.heap.size Wc w') := fun Wc hW => by
    refine (netsOf_any x s.nets ⟨l.a, l.n, ok⟩ vn Wc (Nat.lt_of_lt_of_le hx hW.size) ((hW.cell (p := ⟨x, 1, none⟩) hx).trans x1) ((Rd.of_owns (k := 3) (enc := encH) (fun _ => rfl) hd0 B.on).below hW) (by have := hI.n; omega) (fun q hq => (hI.na q hq).1) hL.a).mono ?_
    rintro e w' ⟨vv, rfl, o1, o2⟩
    have o3 : Rd 3 encH hd0 w' vv (netsOf s.nets l.a l.n) := Rd.of_owns (k := 3) (enc := encH) (fun _ => rfl) hd0 o1
    obtain ⟨b, c, rfl, _, _⟩ := owns_slice o1
    exact ⟨⟨b, c, rfl, o3⟩, o2⟩
  have HFB : Hid (∀ Wc v, Rd 3 encH hd0 Wc v (netsOf s.nets l.a l.n) → Calls Tryz.prog 87 #[.agg #[.int .u32 l.a, .int .i64 l.n], v] Wc fun e w' => (∃ b c, e = .returned (.slice b (frees 33 (netsOf s.nets l.a l.n) l.a l.n).length c) ∧ Rd 2 encB (0, 0) w' (.slice b (frees 33 (netsOf s.nets l.a l.n) l.a l.n).length c) (frees 33 (netsOf s.nets l.a l.n) l.a l.n)) ∧ Below Wc.heap.size Wc w') := fun Wc v hv => by
    refine (freeBlocks_any (netsOf s.nets l.a l.n) (fun q hq => by have hm := hI.na q (List.mem_filter.1 hq).1; exact ⟨hm.1, (rt_iff.1 hm.2.1).2.1⟩) v 33 (by omega) l.a l.n Wc hL.a hL.r (by have := (rt_iff.1 hL.r).1; omega) hv).mono ?_
    rintro e w' ⟨vv, rfl, o1, o2⟩
    have o3 : Rd 2 encB (0, 0) w' vv (frees 33 (netsOf s.nets l.a l.n) l.a l.n) := Rd.of_owns (k := 2) (enc := encB) (fun _ => rfl) (0, 0) o1
    obtain ⟨b, c, rfl, _, _⟩ := owns_slice o1
    exact ⟨⟨b, c, rfl, o3⟩, o2⟩
  have HBF : Hid (∀ Wc v, Rd 2 encB (0, 0) Wc v (frees 33 (netsOf s.nets l.a l.n) l.a l.n) → Calls Tryz.prog 86 #[v, .int .i64 l.g] Wc fun e w' => e = .returned (.tuple #[.agg #[.int .u32 (obA res), .int .i64 (obN res)], .bool res.isSome]) ∧ Below Wc.heap.size Wc w') := fun Wc v hv => by
    rw [← hres]
    exact bestFit_any _ l.g v Wc hv (by have h1 := frees_len (netsOf s.nets l.a l.n) 33 l.a l.n; have : 2 ^ 33 ≤ 9223372036854775806 := by decide
                                        omega)
  generalize frees 33 (netsOf s.nets l.a l.n) l.a l.n = FR at HFB HBF
  generalize netsOf s.nets l.a l.n = NO at HSUB HFB
  subst h4
  obtain ⟨ba, bn⟩ := b
  simp only [obA, obN, Option.getD_some, Option.isSome_some] at HBF
  have hkk : ∀ q : Hd, (encH q).length = 3 := fun _ => rfl
  have hrd := Rd.of_owns hkk hd0 B.op
  obtain ⟨bq, cq, ev, hq1, hq2, hq3⟩ := hrd
  obtain ⟨gq, rfl, hq4, hq5⟩ := hq3 (by intro e; rw [e] at hk; simp at hk)
  have hk5 := hq5 k hk
  have hk6 : (s.pools.getD k hd0).a = l.a ∧ (s.pools.getD k hd0).n = l.n := by simpa [isH] using his
  have ROW : Hid (∀ wk, Below w.heap.size w wk → wk.cell? ⟨gq, k * 3, none⟩ = some (.int .u32 l.a) ∧ wk.cell? ⟨gq, k * 3 + 1, none⟩ = some (.int .i64 l.n) ∧ wk.cell? ⟨gq, k * 3 + 2, none⟩ = some (.string ok) ∧ gq < wk.heap.size) := fun wk hw =>
    ⟨(hw.cell (p := ⟨gq, k * 3, none⟩) hq4).trans (by rw [← hk6.1]; exact hk5 0 _ rfl), (hw.cell (p := ⟨gq, k * 3 + 1, none⟩) hq4).trans (by rw [← hk6.2]; exact hk5 1 _ rfl), (hw.cell (p := ⟨gq, k * 3 + 2, none⟩) hq4).trans (by rw [← hok]; exact hk5 2 _ rfl), Nat.lt_of_lt_of_le hq4 hw.size⟩
  have hkz : (k : Int) < (s.pools.length : Int) := by omega
  have hkn : ¬ ((k : Int) < 0) := by omega
  have hk0 : (0 : Int) ≤ (k : Int) := by omega
  clear hq1 hq2 hq5 hk5 hk6 his hok
  subst ev
  obtain ⟨bn, cn, en, _, _⟩ := owns_slice B.on
  subst en
  have h6 : (24 : Int) ≤ (s.nets.length : Int) := by omega
  clear B
  unfold lnC
  go_enter Tryz.func60, Tryz.ntmps60
  go_wp2
  go_region_held3 (fun w' => w'.cell? ⟨x, 0, none⟩ = some (.slice (some ⟨gq, 0, none⟩) s.pools.length cq) ∧ w'.cell? ⟨w.heap.size, 3, none⟩ = some (.int .u32 l.a) ∧ w'.cell? ⟨w.heap.size, 4, none⟩ = some (.int .i64 l.n)) (go_keep) (first | (go_at_call 82; refine (HF.out _ (by repeat' (first | with_reducible assumption | with_reducible exact Below.refl _ _ | with_reducible apply Below.drew | with_reducible apply below_drewN | with_reducible apply Below.setCell | with_reducible apply Below.alloc | omega | (simp; done) | (simp; omega)))).mono ?_; rintro e w1 ⟨rfl, HQ⟩; have HB1 : Hid (Below (w.heap.size + 2) ((w.alloc (.cells #[.int .i64 l.v, .string l.t, .string l.o, .int .u32 l.a, .int .i64 l.n, .int .u32 l.d, .int .i64 l.g] 74)).alloc (.cells #[.int .i64 0, .slice none 0 0] 79)) w1) := bstep (by repeat' (first | with_reducible assumption | with_reducible exact Below.refl _ _ | with_reducible apply Below.drew | with_reducible apply below_drewN | with_reducible apply Below.setCell | with_reducible apply Below.alloc | omega | (simp; done) | (simp; omega))) (by simp) HQ; clear HQ; have HW1 : Hid (Below w.heap.size w w1) := (w0_below w l).trans (HB1.out.mono (by omega)); have LV1 := LIVE.out w1 HB1.out; have x0_1 := LV1.x0; have x1_1 := LV1.x1; have o_1 := LV1.o; have a_1 := LV1.a; have n_1 := LV1.n; have g_1 := LV1.g; have zx_1 := LV1.zx; have z0_1 := LV1.z0; have z1_1 := LV1.z1; have r0_1 := LV1.r0; have r1_1 := LV1.r1; have g0_1 := LV1.g0; have g1_1 := LV1.g1; obtain ⟨e0_1, e1_1, e2_1, e3_1⟩ := ROW.out w1 HW1.out; clear LV1))
  all_goals (
    go_wp2
    go_region_held3 (fun w' => w'.cell? ⟨x, 0, none⟩ = some (.slice (some ⟨gq, 0, none⟩) s.pools.length cq) ∧ w'.cell? ⟨w.heap.size, 3, none⟩ = some (.int .u32 l.a) ∧ w'.cell? ⟨w.heap.size, 4, none⟩ = some (.int .i64 l.n) ∧ w'.cell? ⟨w.heap.size, 6, none⟩ = some (.int .i64 l.g) ∧ w'.cell? ⟨gq, k * 3, none⟩ = some (.int .u32 l.a) ∧ w'.cell? ⟨gq, k * 3 + 1, none⟩ = some (.int .i64 l.n) ∧ w'.cell? ⟨gq, k * 3 + 2, none⟩ = some (.string ok)) (go_keep) (first | (go_at_call 84; refine (HSUB.out _ (by have hp := HW1.out; repeat' (first | with_reducible assumption | with_reducible exact Below.refl _ _ | with_reducible apply Below.drew | with_reducible apply below_drewN | with_reducible apply Below.setCell | with_reducible apply Below.alloc | omega | (simp; done) | (simp; omega)))).mono ?_; rintro e w2 ⟨⟨b2, c2, rfl, hr2⟩, HQ⟩; have HB2 : Hid (Below (w.heap.size + 2) ((w.alloc (.cells #[.int .i64 l.v, .string l.t, .string l.o, .int .u32 l.a, .int .i64 l.n, .int .u32 l.d, .int .i64 l.g] 74)).alloc (.cells #[.int .i64 0, .slice none 0 0] 79)) w2) := bstep (by have hp := HB1.out; repeat' (first | with_reducible assumption | with_reducible exact Below.refl _ _ | with_reducible apply Below.drew | with_reducible apply below_drewN | with_reducible apply Below.setCell | with_reducible apply Below.alloc | omega | (simp; done) | (simp; omega))) (by simp) HQ; (try have zm1_2 : w1.heap.size < w2.heap.size := (by have hh := HQ.size; first | (simp at hh; omega) | (have h2 := zm1_1; simp at hh; omega) | (have h2 := zm1_1; omega))); (try have ca1_2 : w2.cell? ⟨w1.heap.size, 0, none⟩ = some (.int .u32 0) := (HQ.cell (p := ⟨w1.heap.size, 0, none⟩) (by first | (simp; done) | (have hh := zm1_1; simp; omega) | (have hh := zm1_1; omega))).trans (by first | assumption | (simp [go_sem]; done) | (simp [go_sem, *]; done))); (try have cb1_2 : w2.cell? ⟨w1.heap.size, 1, none⟩ = some (.int .i64 0) := (HQ.cell (p := ⟨w1.heap.size, 1, none⟩) (by first | (simp; done) | (have hh := zm1_1; simp; omega) | (have hh := zm1_1; omega))).trans (by first | assumption | (simp [go_sem]; done) | (simp [go_sem, *]; done))); (try have fa1_2 : w2.frozen? ⟨w1.heap.size, 0, none⟩ = false := (HQ.frozen (p := ⟨w1.heap.size, 0, none⟩) (by first | (simp; done) | (have hh := zm1_1; simp; omega) | (have hh := zm1_1; omega))).trans (by first | assumption | (simp [go_sem]; done) | (simp [go_sem, *]; done))); (try have fb1_2 : w2.frozen? ⟨w1.heap.size, 1, none⟩ = false := (HQ.frozen (p := ⟨w1.heap.size, 1, none⟩) (by first | (simp; done) | (have hh := zm1_1; simp; omega) | (have hh := zm1_1; omega))).trans (by first | assumption | (simp [go_sem]; done) | (simp [go_sem, *]; done))); clear HQ; have HW2 : Hid (Below w.heap.size w w2) := (w0_below w l).trans (HB2.out.mono (by omega)); have LV2 := LIVE.out w2 HB2.out; have x0_2 := LV2.x0; have x1_2 := LV2.x1; have o_2 := LV2.o; have a_2 := LV2.a; have n_2 := LV2.n; have g_2 := LV2.g; have zx_2 := LV2.zx; have z0_2 := LV2.z0; have z1_2 := LV2.z1; have r0_2 := LV2.r0; have r1_2 := LV2.r1; have g0_2 := LV2.g0; have g1_2 := LV2.g1; obtain ⟨e0_2, e1_2, e2_2, e3_2⟩ := ROW.out w2 HW2.out; have ma1 : ¬ (w1.heap.size = x) := (by have := zx_1; omega); have mb1 : ¬ (w1.heap.size = w.heap.size) := (by have := z0_1; omega); have mc1 : ¬ (w1.heap.size = gq) := (by have := e3_1; omega); have md1 : ¬ (w1.heap.size = w.heap.size + 1) := (by have := z1_1; omega); have HR2 : Hid (Rd 3 encH hd0 w2 (.slice b2 NO.length c2) NO) := hr2; clear hr2; clear LV2) | (go_at_call 87; refine (HFB.out _ _ (HR2.out.below (by repeat' (first | with_reducible assumption | with_reducible exact Below.refl _ _ | with_reducible apply Below.drew | with_reducible apply below_drewN | with_reducible apply Below.setCell | with_reducible apply Below.alloc | omega | (simp; done) | (simp; omega))))).mono ?_; rintro e w3 ⟨⟨b3, c3, rfl, hr3⟩, HQ⟩; have HB3 : Hid (Below (w.heap.size + 2) ((w.alloc (.cells #[.int .i64 l.v, .string l.t, .string l.o, .int .u32 l.a, .int .i64 l.n, .int .u32 l.d, .int .i64 l.g] 74)).alloc (.cells #[.int .i64 0, .slice none 0 0] 79)) w3) := bstep (by have hp := HB2.out; repeat' (first | with_reducible assumption | with_reducible exact Below.refl _ _ | with_reducible apply Below.drew | with_reducible apply below_drewN | with_reducible apply Below.setCell | with_reducible apply Below.alloc | omega | (simp; done) | (simp; omega))) (by simp) HQ; (try have zm1_3 : w1.heap.size < w3.heap.size := (by have hh := HQ.size; first | (simp at hh; omega) | (have h2 := zm1_2; simp at hh; omega) | (have h2 := zm1_2; omega))); (try have ca1_3 : w3.cell? ⟨w1.heap.size, 0, none⟩ = some (.int .u32 0) := (HQ.cell (p := ⟨w1.heap.size, 0, none⟩) (by first | (simp; done) | (have hh := zm1_2; simp; omega) | (have hh := zm1_2; omega))).trans (by first | assumption | (simp [go_sem]; done) | (simp [go_sem, *]; done))); (try have cb1_3 : w3.cell? ⟨w1.heap.size, 1, none⟩ = some (.int .i64 0) := (HQ.cell (p := ⟨w1.heap.size, 1, none⟩) (by first | (simp; done) | (have hh := zm1_2; simp; omega) | (have hh := zm1_2; omega))).trans (by first | assumption | (simp [go_sem]; done) | (simp [go_sem, *]; done))); (try have fa1_3 : w3.frozen? ⟨w1.heap.size, 0, none⟩ = false := (HQ.frozen (p := ⟨w1.heap.size, 0, none⟩) (by first | (simp; done) | (have hh := zm1_2; simp; omega) | (have hh := zm1_2; omega))).trans (by first | assumption | (simp [go_sem]; done) | (simp [go_sem, *]; done))); (try have fb1_3 : w3.frozen? ⟨w1.heap.size, 1, none⟩ = false := (HQ.frozen (p := ⟨w1.heap.size, 1, none⟩) (by first | (simp; done) | (have hh := zm1_2; simp; omega) | (have hh := zm1_2; omega))).trans (by first | assumption | (simp [go_sem]; done) | (simp [go_sem, *]; done))); (try have zm2_3 : w2.heap.size < w3.heap.size := (by have hh := HQ.size; first | (simp at hh; omega) | (have h2 := zm2_2; simp at hh; omega) | (have h2 := zm2_2; omega))); (try have ca2_3 : w3.cell? ⟨w2.heap.size, 0, none⟩ = some (.int .u32 0) := (HQ.cell (p := ⟨w2.heap.size, 0, none⟩) (by first | (simp; done) | (have hh := zm2_2; simp; omega) | (have hh := zm2_2; omega))).trans (by first | assumption | (simp [go_sem]; done) | (simp [go_sem, *]; done))); (try have cb2_3 : w3.cell? ⟨w2.heap.size, 1, none⟩ = some (.int .i64 0) := (HQ.cell (p := ⟨w2.heap.size, 1, none⟩) (by first | (simp; done) | (have hh := zm2_2; simp; omega) | (have hh := zm2_2; omega))).trans (by first | assumption | (simp [go_sem]; done) | (simp [go_sem, *]; done))); (try have fa2_3 : w3.frozen? ⟨w2.heap.size, 0, none⟩ = false := (HQ.frozen (p := ⟨w2.heap.size, 0, none⟩) (by first | (simp; done) | (have hh := zm2_2; simp; omega) | (have hh := zm2_2; omega))).trans (by first | assumption | (simp [go_sem]; done) | (simp [go_sem, *]; done))); (try have fb2_3 : w3.frozen? ⟨w2.heap.size, 1, none⟩ = false := (HQ.frozen (p := ⟨w2.heap.size, 1, none⟩) (by first | (simp; done) | (have hh := zm2_2; simp; omega) | (have hh := zm2_2; omega))).trans (by first | assumption | (simp [go_sem]; done) | (simp [go_sem, *]; done))); clear HQ; have HW3 : Hid (Below w.heap.size w w3) := (w0_below w l).trans (HB3.out.mono (by omega)); have LV3 := LIVE.out w3 HB3.out; have x0_3 := LV3.x0; have x1_3 := LV3.x1; have o_3 := LV3.o; have a_3 := LV3.a; have n_3 := LV3.n; have g_3 := LV3.g; have zx_3 := LV3.zx; have z0_3 := LV3.z0; have z1_3 := LV3.z1; have r0_3 := LV3.r0; have r1_3 := LV3.r1; have g0_3 := LV3.g0; have g1_3 := LV3.g1; obtain ⟨e0_3, e1_3, e2_3, e3_3⟩ := ROW.out w3 HW3.out; have ma2 : ¬ (w2.heap.size = x) := (by have := zx_2; omega); have mb2 : ¬ (w2.heap.size = w.heap.size) := (by have := z0_2; omega); have mc2 : ¬ (w2.heap.size = gq) := (by have := e3_2; omega); have md2 : ¬ (w2.heap.size = w.heap.size + 1) := (by have := z1_2; omega); have HR3 : Hid (Rd 2 encB (0, 0) w3 (.slice b3 FR.length c3) FR) := hr3; clear hr3; clear LV3) | (go_at_call 86; refine (HBF.out _ _ (HR3.out.below (by repeat' (first | with_reducible assumption | with_reducible exact Below.refl _ _ | with_reducible apply Below.drew | with_reducible apply below_drewN | with_reducible apply Below.setCell | with_reducible apply Below.alloc | omega | (simp; done) | (simp; omega))))).mono ?_; rintro e w4 ⟨rfl, HQ⟩; have HB4 : Hid (Below (w.heap.size + 2) ((w.alloc (.cells #[.int .i64 l.v, .string l.t, .string l.o, .int .u32 l.a, .int .i64 l.n, .int .u32 l.d, .int .i64 l.g] 74)).alloc (.cells #[.int .i64 0, .slice none 0 0] 79)) w4) := bstep (by have hp := HB3.out; repeat' (first | with_reducible assumption | with_reducible exact Below.refl _ _ | with_reducible apply Below.drew | with_reducible apply below_drewN | with_reducible apply Below.setCell | with_reducible apply Below.alloc | omega | (simp; done) | (simp; omega))) (by simp) HQ; (try have zm1_4 : w1.heap.size < w4.heap.size := (by have hh := HQ.size; first | (simp at hh; omega) | (have h2 := zm1_3; simp at hh; omega) | (have h2 := zm1_3; omega))); (try have ca1_4 : w4.cell? ⟨w1.heap.size, 0, none⟩ = some (.int .u32 0) := (HQ.cell (p := ⟨w1.heap.size, 0, none⟩) (by first | (simp; done) | (have hh := zm1_3; simp; omega) | (have hh := zm1_3; omega))).trans (by first | assumption | (simp [go_sem]; done) | (simp [go_sem, *]; done))); (try have cb1_4 : w4.cell? ⟨w1.heap.size, 1, none⟩ = some (.int .i64 0) := (HQ.cell (p := ⟨w1.heap.size, 1, none⟩) (by first | (simp; done) | (have hh := zm1_3; simp; omega) | (have hh := zm1_3; omega))).trans (by first | assumption | (simp [go_sem]; done) | (simp [go_sem, *]; done))); (try have fa1_4 : w4.frozen? ⟨w1.heap.size, 0, none⟩ = false := (HQ.frozen (p := ⟨w1.heap.size, 0, none⟩) (by first | (simp; done) | (have hh := zm1_3; simp; omega) | (have hh := zm1_3; omega))).trans (by first | assumption | (simp [go_sem]; done) | (simp [go_sem, *]; done))); (try have fb1_4 : w4.frozen? ⟨w1.heap.size, 1, none⟩ = false := (HQ.frozen (p := ⟨w1.heap.size, 1, none⟩) (by first | (simp; done) | (have hh := zm1_3; simp; omega) | (have hh := zm1_3; omega))).trans (by first | assumption | (simp [go_sem]; done) | (simp [go_sem, *]; done))); (try have zm2_4 : w2.heap.size < w4.heap.size := (by have hh := HQ.size; first | (simp at hh; omega) | (have h2 := zm2_3; simp at hh; omega) | (have h2 := zm2_3; omega))); (try have ca2_4 : w4.cell? ⟨w2.heap.size, 0, none⟩ = some (.int .u32 0) := (HQ.cell (p := ⟨w2.heap.size, 0, none⟩) (by first | (simp; done) | (have hh := zm2_3; simp; omega) | (have hh := zm2_3; omega))).trans (by first | assumption | (simp [go_sem]; done) | (simp [go_sem, *]; done))); (try have cb2_4 : w4.cell? ⟨w2.heap.size, 1, none⟩ = some (.int .i64 0) := (HQ.cell (p := ⟨w2.heap.size, 1, none⟩) (by first | (simp; done) | (have hh := zm2_3; simp; omega) | (have hh := zm2_3; omega))).trans (by first | assumption | (simp [go_sem]; done) | (simp [go_sem, *]; done))); (try have fa2_4 : w4.frozen? ⟨w2.heap.size, 0, none⟩ = false := (HQ.frozen (p := ⟨w2.heap.size, 0, none⟩) (by first | (simp; done) | (have hh := zm2_3; simp; omega) | (have hh := zm2_3; omega))).trans (by first | assumption | (simp [go_sem]; done) | (simp [go_sem, *]; done))); (try have fb2_4 : w4.frozen? ⟨w2.heap.size, 1, none⟩ = false := (HQ.frozen (p := ⟨w2.heap.size, 1, none⟩) (by first | (simp; done) | (have hh := zm2_3; simp; omega) | (have hh := zm2_3; omega))).trans (by first | assumption | (simp [go_sem]; done) | (simp [go_sem, *]; done))); (try have zm3_4 : w3.heap.size < w4.heap.size := (by have hh := HQ.size; first | (simp at hh; omega) | (have h2 := zm3_3; simp at hh; omega) | (have h2 := zm3_3; omega))); (try have ca3_4 : w4.cell? ⟨w3.heap.size, 0, none⟩ = some (.int .u32 0) := (HQ.cell (p := ⟨w3.heap.size, 0, none⟩) (by first | (simp; done) | (have hh := zm3_3; simp; omega) | (have hh := zm3_3; omega))).trans (by first | assumption | (simp [go_sem]; done) | (simp [go_sem, *]; done))); (try have cb3_4 : w4.cell? ⟨w3.heap.size, 1, none⟩ = some (.int .i64 0) := (HQ.cell (p := ⟨w3.heap.size, 1, none⟩) (by first | (simp; done) | (have hh := zm3_3; simp; omega) | (have hh := zm3_3; omega))).trans (by first | assumption | (simp [go_sem]; done) | (simp [go_sem, *]; done))); (try have fa3_4 : w4.frozen? ⟨w3.heap.size, 0, none⟩ = false := (HQ.frozen (p := ⟨w3.heap.size, 0, none⟩) (by first | (simp; done) | (have hh := zm3_3; simp; omega) | (have hh := zm3_3; omega))).trans (by first | assumption | (simp [go_sem]; done) | (simp [go_sem, *]; done))); (try have fb3_4 : w4.frozen? ⟨w3.heap.size, 1, none⟩ = false := (HQ.frozen (p := ⟨w3.heap.size, 1, none⟩) (by first | (simp; done) | (have hh := zm3_3; simp; omega) | (have hh := zm3_3; omega))).trans (by first | assumption | (simp [go_sem]; done) | (simp [go_sem, *]; done))); clear HQ; have HW4 : Hid (Below w.heap.size w w4) := (w0_below w l).trans (HB4.out.mono (by omega)); have LV4 := LIVE.out w4 HB4.out; have x0_4 := LV4.x0; have x1_4 := LV4.x1; have o_4 := LV4.o; have a_4 := LV4.a; have n_4 := LV4.n; have g_4 := LV4.g; have zx_4 := LV4.zx; have z0_4 := LV4.z0; have z1_4 := LV4.z1; have r0_4 := LV4.r0; have r1_4 := LV4.r1; have g0_4 := LV4.g0; have g1_4 := LV4.g1; obtain ⟨e0_4, e1_4, e2_4, e3_4⟩ := ROW.out w4 HW4.out; have ma3 : ¬ (w3.heap.size = x) := (by have := zx_3; omega); have mb3 : ¬ (w3.heap.size = w.heap.size) := (by have := z0_3; omega); have mc3 : ¬ (w3.heap.size = gq) := (by have := e3_3; omega); have md3 : ¬ (w3.heap.size = w.heap.size + 1) := (by have := z1_3; omega); clear LV4))
    all_goals (
      go_wp2_with (go_at_call 31; refine (refuse_any 6 _).mono ?_; rintro e w9 ⟨rfl, HQ⟩; have HB9 : Hid (Below (w.heap.size + 2) ((w.alloc (.cells #[.int .i64 l.v, .string l.t, .string l.o, .int .u32 l.a, .int .i64 l.n, .int .u32 l.d, .int .i64 l.g] 74)).alloc (.cells #[.int .i64 0, .slice none 0 0] 79)) w9) := bstep (by have hp := HB4.out; repeat' (first | with_reducible assumption | with_reducible exact Below.refl _ _ | with_reducible apply Below.drew | with_reducible apply below_drewN | with_reducible apply Below.setCell | with_reducible apply Below.alloc | omega | (simp; done) | (simp; omega))) (by simp) HQ; clear HQ; have HW9 : Hid (Below w.heap.size w w9) := (w0_below w l).trans (HB9.out.mono (by omega)); have LV9 := LIVE.out w9 HB9.out; have r0_9 := LV9.r0; have r1_9 := LV9.r1; have g0_9 := LV9.g0; have g1_9 := LV9.g1; have z1_9 := LV9.z1; clear LV9)
      have hR := (LIVE.out w9 HB9.out).rb
      obtain ⟨kk0, kk1⟩ := two_set hR (.int .i64 6) (.slice none 0 0)
      have hfin := res_ref (l := l) 6 H.out HB9.out
      exact bodyPost_ret (v := .agg #[.int .i64 6, .slice none 0 0]) (by simp [results, Tryz.results60, go_sem, kk0, kk1]) rfl hfin))
end Go.Proofs.YtlikdnmikdldfaaGreatDoor
namespace Go.Proofs.YtlikdnmikdldfaaGreatDoor
open Go.ChangeShapes Go.WideShapes Go.ChangeAt Go.RowKit
set_option linter.unusedVariables false
set_option linter.unusedSimpArgs false

theorem blk_new2 (w : World) (o : Obj) (u v : Value) : Blk ((w.alloc o).alloc (.cells #[u, v] 69)) (w.heap.size + 1) #[u, v] 69 := by
  have h := Blk.new (w.alloc o) #[u, v] 69
  rw [show (w.alloc o).heap.size = w.heap.size + 1 by simp] at h; exact h
theorem blk_newS (w : World) (a b : Addr) (p q u v : Value) : Blk (((w.setCell a p).setCell b q).alloc (.cells #[u, v] 69)) w.heap.size #[u, v] 69 := by
  have h := Blk.new ((w.setCell a p).setCell b q) #[u, v] 69
  rw [show ((w.setCell a p).setCell b q).heap.size = w.heap.size by simp [World.setCell]] at h; exact h

set_option maxRecDepth 100000 in
set_option maxHeartbeats 2000000 in
theorem net_ok (w : World) (x : Nat) (S : Nat → Prop) (s : Bk) (l : Ln) (hI : Inv s) (hL : LnOk l) (h : BkAt w x S s) (k : Nat) (ok : ByteArray) (hk : k < s.pools.length) (h1 : findH s.pools l.a l.n = k) (his : isH l.a l.n (s.pools.getD k hd0) = true) (hok : (s.pools.getD k hd0).o = ok) (res : Option (Int × Int)) (hres : best (frees 33 (netsOf s.nets l.a l.n) l.a l.n) l.g = res) (h2 : ¬ l.g < 22) (h3 : ¬ l.g < l.n) (ba bn : Int) (hba : ad ba ∧ rt ba l.g = true) (h4 : res = some (ba, bn)) (h5 : ¬ 24 ≤ s.nets.length) (hE : Env w) (hG : ∀ b, S b → 10 ≤ b) (hZ : 10 ≤ w.heap.size) :
    Calls Tryz.prog 60 #[.pointer (some ⟨x, 0, none⟩), .agg (lnC l)] w (Res w x S ({ s with nets := insH s.nets ⟨ba, l.g, l.o⟩ }, tell1 ⟨(bText ba l.g).toArray⟩)) := by
  obtain ⟨vp, vn, vl, c, B⟩ := h
  have hx := B.blk.lt
  have H : Hid (BkAt w x S s) := ⟨vp, vn, vl, c, B⟩
  have x0 : w.cell? ⟨x, 0, none⟩ = some vp := B.blk.cell 0
  have x1 : w.cell? ⟨x, 1, none⟩ = some vn := B.blk.cell 1
  have x2 : w.cell? ⟨x, 2, none⟩ = some vl := B.blk.cell 2
  have LIVE : Hid (∀ wk, Below (w.heap.size + 2) ((w.alloc (.cells #[.int .i64 l.v, .string l.t, .string l.o, .int .u32 l.a, .int .i64 l.n, .int .u32 l.d, .int .i64 l.g] 74)).alloc (.cells #[.int .i64 0, .slice none 0 0] 79)) wk → Live w wk x vp vn vl l) := live_of l B
  have HBA : Hid (BA w x S vp vn vl c s) := B
  have hxa : ¬ (x = w.heap.size) := by omega
  have hxb : ¬ (w.heap.size = x) := by omega
  have EN : Hid (Env w) := hE
  have GS : Hid (∀ b, S b → 10 ≤ b) := hG
  have ZG : Hid (10 ≤ w.heap.size) := hZ
  clear hE hG hZ
  have HS : Hid (∀ b, S b → b < w.heap.size) := B.sz
  have LATE : Hid (∀ Wc w5 M, Blk Wc M #[.int .u32 ba, .int .i64 l.g] 69 → w.heap.size ≤ M → Chg S Wc w5 → Blk w5 M #[.int .u32 ba, .int .i64 l.g] 69) := fun Wc w5 M h1 h2 h3 => (h3.block M h1.lt (fun q => by have := B.sz _ q; omega)).trans h1
  have HF : Hid (∀ Wc, Below w.heap.size w Wc → Calls Tryz.prog 82 #[vp, .agg #[.int .u32 l.a, .int .i64 l.n]] Wc fun e w' => e = .returned (.int .i64 (findH s.pools l.a l.n)) ∧ Below Wc.heap.size Wc w') := fun Wc hW => findP s.pools l.a l.n vp Wc (fun q hq => (hI.pa q hq).1) hL.a ((Rd.of_owns (k := 3) (enc := encH) (fun _ => rfl) hd0 B.op).below hW)
  rw [h1] at HF
  have HSUB : Hid (∀ Wc, Below w.heap.size w Wc → Calls Tryz.prog 84 #[.pointer (some ⟨x, 0, none⟩), .agg #[.int .u32 l.a, .int .i64 l.n, .string ok]] Wc fun e w' => (∃ b c, e = .returned (.slice b (netsOf s.nets l.a l.n).length c) ∧ Rd 3 encH hd0 w' (.slice b (netsOf s.nets l.a l.n).length c) (netsOf s.nets l.a l.n)) ∧ Below Wc.heap.size Wc w') := fun Wc hW => by
    refine (netsOf_any x s.nets ⟨l.a, l.n, ok⟩ vn Wc (Nat.lt_of_lt_of_le hx hW.size) ((hW.cell (p := ⟨x, 1, none⟩) hx).trans x1) ((Rd.of_owns (k := 3) (enc := encH) (fun _ => rfl) hd0 B.on).below hW) (by have := hI.n; omega) (fun q hq => (hI.na q hq).1) hL.a).mono ?_
    rintro e w' ⟨vv, rfl, o1, o2⟩
    have o3 : Rd 3 encH hd0 w' vv (netsOf s.nets l.a l.n) := Rd.of_owns (k := 3) (enc := encH) (fun _ => rfl) hd0 o1
    obtain ⟨b, c, rfl, _, _⟩ := owns_slice o1
    exact ⟨⟨b, c, rfl, o3⟩, o2⟩
  have HFB : Hid (∀ Wc v, Rd 3 encH hd0 Wc v (netsOf s.nets l.a l.n) → Calls Tryz.prog 87 #[.agg #[.int .u32 l.a, .int .i64 l.n], v] Wc fun e w' => (∃ b c, e = .returned (.slice b (frees 33 (netsOf s.nets l.a l.n) l.a l.n).length c) ∧ Rd 2 encB (0, 0) w' (.slice b (frees 33 (netsOf s.nets l.a l.n) l.a l.n).length c) (frees 33 (netsOf s.nets l.a l.n) l.a l.n)) ∧ Below Wc.heap.size Wc w') := fun Wc v hv => by
    refine (freeBlocks_any (netsOf s.nets l.a l.n) (fun q hq => by have hm := hI.na q (List.mem_filter.1 hq).1; exact ⟨hm.1, (rt_iff.1 hm.2.1).2.1⟩) v 33 (by omega) l.a l.n Wc hL.a hL.r (by have := (rt_iff.1 hL.r).1; omega) hv).mono ?_
    rintro e w' ⟨vv, rfl, o1, o2⟩
    have o3 : Rd 2 encB (0, 0) w' vv (frees 33 (netsOf s.nets l.a l.n) l.a l.n) := Rd.of_owns (k := 2) (enc := encB) (fun _ => rfl) (0, 0) o1
    obtain ⟨b, c, rfl, _, _⟩ := owns_slice o1
    exact ⟨⟨b, c, rfl, o3⟩, o2⟩
  have HBF : Hid (∀ Wc v, Rd 2 encB (0, 0) Wc v (frees 33 (netsOf s.nets l.a l.n) l.a l.n) → Calls Tryz.prog 86 #[v, .int .i64 l.g] Wc fun e w' => e = .returned (.tuple #[.agg #[.int .u32 (obA res), .int .i64 (obN res)], .bool res.isSome]) ∧ Below Wc.heap.size Wc w') := fun Wc v hv => by
    rw [← hres]
    exact bestFit_any _ l.g v Wc hv (by have h1 := frees_len (netsOf s.nets l.a l.n) 33 l.a l.n; have : 2 ^ 33 ≤ 9223372036854775806 := by decide
                                        omega)
  generalize frees 33 (netsOf s.nets l.a l.n) l.a l.n = FR at HFB HBF
  generalize netsOf s.nets l.a l.n = NO at HSUB HFB
  subst h4
  simp only [obA, obN, Option.getD_some, Option.isSome_some] at HBF
  have HAD : Hid (∀ Wc, Below w.heap.size w Wc → Calls Tryz.prog 88 #[.pointer (some ⟨x, 0, none⟩), .agg #[.int .u32 ba, .int .i64 l.g], .string l.o] Wc fun e w' => e = .returned (.tuple #[]) ∧ ∃ S', BkAt w' x S' { s with nets := insH s.nets ⟨ba, l.g, l.o⟩ } ∧ (∀ b, S' b → S b ∨ Wc.heap.size ≤ b) ∧ Chg S Wc w') := fun Wc hW => addSubnet_any Wc x S s ba l.g l.o hI (H.out.below hW)
  have HBT : Hid (∀ Wc, Env Wc → Calls Tryz.prog 89 #[.agg #[.int .u32 ba, .int .i64 l.g]] Wc fun e w' => e = .returned (.string ⟨(bText ba l.g).toArray⟩) ∧ Below Wc.heap.size Wc w') := fun Wc hE => blockText_any ba l.g Wc hE hba.1 hba.2
  generalize (⟨(bText ba l.g).toArray⟩ : ByteArray) = tt at HBT ⊢
  have hkk : ∀ q : Hd, (encH q).length = 3 := fun _ => rfl
  have hrd := Rd.of_owns hkk hd0 B.op
  obtain ⟨bq, cq, ev, hq1, hq2, hq3⟩ := hrd
  obtain ⟨gq, rfl, hq4, hq5⟩ := hq3 (by intro e; rw [e] at hk; simp at hk)
  have hk5 := hq5 k hk
  have hk6 : (s.pools.getD k hd0).a = l.a ∧ (s.pools.getD k hd0).n = l.n := by simpa [isH] using his
  have ROW : Hid (∀ wk, Below w.heap.size w wk → wk.cell? ⟨gq, k * 3, none⟩ = some (.int .u32 l.a) ∧ wk.cell? ⟨gq, k * 3 + 1, none⟩ = some (.int .i64 l.n) ∧ wk.cell? ⟨gq, k * 3 + 2, none⟩ = some (.string ok) ∧ gq < wk.heap.size) := fun wk hw =>
    ⟨(hw.cell (p := ⟨gq, k * 3, none⟩) hq4).trans (by rw [← hk6.1]; exact hk5 0 _ rfl), (hw.cell (p := ⟨gq, k * 3 + 1, none⟩) hq4).trans (by rw [← hk6.2]; exact hk5 1 _ rfl), (hw.cell (p := ⟨gq, k * 3 + 2, none⟩) hq4).trans (by rw [← hok]; exact hk5 2 _ rfl), Nat.lt_of_lt_of_le hq4 hw.size⟩
  have hkz : (k : Int) < (s.pools.length : Int) := by omega
  have hkn : ¬ ((k : Int) < 0) := by omega
  have hk0 : (0 : Int) ≤ (k : Int) := by omega
  clear hq1 hq2 hq5 hk5 hk6 his hok
  subst ev
  obtain ⟨bn, cn, en, _, _⟩ := owns_slice B.on
  subst en
  have h6 : ¬ (24 : Int) ≤ (s.nets.length : Int) := by omega
  clear B
  unfold lnC
  go_enter Tryz.func60, Tryz.ntmps60
  go_wp2
  go_region_held3 (fun w' => w'.cell? ⟨x, 0, none⟩ = some (.slice (some ⟨gq, 0, none⟩) s.pools.length cq) ∧ w'.cell? ⟨w.heap.size, 3, none⟩ = some (.int .u32 l.a) ∧ w'.cell? ⟨w.heap.size, 4, none⟩ = some (.int .i64 l.n)) (go_keep) (first | (go_at_call 82; refine (HF.out _ (by repeat' (first | with_reducible assumption | with_reducible exact Below.refl _ _ | with_reducible apply Below.drew | with_reducible apply below_drewN | with_reducible apply Below.setCell | with_reducible apply Below.alloc | omega | (simp; done) | (simp; omega)))).mono ?_; rintro e w1 ⟨rfl, HQ⟩; have HB1 : Hid (Below (w.heap.size + 2) ((w.alloc (.cells #[.int .i64 l.v, .string l.t, .string l.o, .int .u32 l.a, .int .i64 l.n, .int .u32 l.d, .int .i64 l.g] 74)).alloc (.cells #[.int .i64 0, .slice none 0 0] 79)) w1) := bstep (by repeat' (first | with_reducible assumption | with_reducible exact Below.refl _ _ | with_reducible apply Below.drew | with_reducible apply below_drewN | with_reducible apply Below.setCell | with_reducible apply Below.alloc | omega | (simp; done) | (simp; omega))) (by simp) HQ; clear HQ; have HW1 : Hid (Below w.heap.size w w1) := (w0_below w l).trans (HB1.out.mono (by omega)); have LV1 := LIVE.out w1 HB1.out; have x0_1 := LV1.x0; have x1_1 := LV1.x1; have o_1 := LV1.o; have a_1 := LV1.a; have n_1 := LV1.n; have g_1 := LV1.g; have zx_1 := LV1.zx; have z0_1 := LV1.z0; have z1_1 := LV1.z1; have r0_1 := LV1.r0; have r1_1 := LV1.r1; have g0_1 := LV1.g0; have g1_1 := LV1.g1; obtain ⟨e0_1, e1_1, e2_1, e3_1⟩ := ROW.out w1 HW1.out; clear LV1))
  all_goals (
    go_wp2
    go_region_held3 (fun w' => w'.cell? ⟨x, 0, none⟩ = some (.slice (some ⟨gq, 0, none⟩) s.pools.length cq) ∧ w'.cell? ⟨w.heap.size, 3, none⟩ = some (.int .u32 l.a) ∧ w'.cell? ⟨w.heap.size, 4, none⟩ = some (.int .i64 l.n) ∧ w'.cell? ⟨w.heap.size, 6, none⟩ = some (.int .i64 l.g) ∧ w'.cell? ⟨gq, k * 3, none⟩ = some (.int .u32 l.a) ∧ w'.cell? ⟨gq, k * 3 + 1, none⟩ = some (.int .i64 l.n) ∧ w'.cell? ⟨gq, k * 3 + 2, none⟩ = some (.string ok)) (go_keep) (first | (go_at_call 84; refine (HSUB.out _ (by have hp := HW1.out; repeat' (first | with_reducible assumption | with_reducible exact Below.refl _ _ | with_reducible apply Below.drew | with_reducible apply below_drewN | with_reducible apply Below.setCell | with_reducible apply Below.alloc | omega | (simp; done) | (simp; omega)))).mono ?_; rintro e w2 ⟨⟨b2, c2, rfl, hr2⟩, HQ⟩; have HB2 : Hid (Below (w.heap.size + 2) ((w.alloc (.cells #[.int .i64 l.v, .string l.t, .string l.o, .int .u32 l.a, .int .i64 l.n, .int .u32 l.d, .int .i64 l.g] 74)).alloc (.cells #[.int .i64 0, .slice none 0 0] 79)) w2) := bstep (by have hp := HB1.out; repeat' (first | with_reducible assumption | with_reducible exact Below.refl _ _ | with_reducible apply Below.drew | with_reducible apply below_drewN | with_reducible apply Below.setCell | with_reducible apply Below.alloc | omega | (simp; done) | (simp; omega))) (by simp) HQ; (try have zm1_2 : w1.heap.size < w2.heap.size := (by have hh := HQ.size; first | (simp at hh; omega) | (have h2 := zm1_1; simp at hh; omega) | (have h2 := zm1_1; omega))); (try have ca1_2 : w2.cell? ⟨w1.heap.size, 0, none⟩ = some (.int .u32 0) := (HQ.cell (p := ⟨w1.heap.size, 0, none⟩) (by first | (simp; done) | (have hh := zm1_1; simp; omega) | (have hh := zm1_1; omega))).trans (by first | assumption | (simp [go_sem]; done) | (simp [go_sem, *]; done))); (try have cb1_2 : w2.cell? ⟨w1.heap.size, 1, none⟩ = some (.int .i64 0) := (HQ.cell (p := ⟨w1.heap.size, 1, none⟩) (by first | (simp; done) | (have hh := zm1_1; simp; omega) | (have hh := zm1_1; omega))).trans (by first | assumption | (simp [go_sem]; done) | (simp [go_sem, *]; done))); (try have fa1_2 : w2.frozen? ⟨w1.heap.size, 0, none⟩ = false := (HQ.frozen (p := ⟨w1.heap.size, 0, none⟩) (by first | (simp; done) | (have hh := zm1_1; simp; omega) | (have hh := zm1_1; omega))).trans (by first | assumption | (simp [go_sem]; done) | (simp [go_sem, *]; done))); (try have fb1_2 : w2.frozen? ⟨w1.heap.size, 1, none⟩ = false := (HQ.frozen (p := ⟨w1.heap.size, 1, none⟩) (by first | (simp; done) | (have hh := zm1_1; simp; omega) | (have hh := zm1_1; omega))).trans (by first | assumption | (simp [go_sem]; done) | (simp [go_sem, *]; done))); clear HQ; have HW2 : Hid (Below w.heap.size w w2) := (w0_below w l).trans (HB2.out.mono (by omega)); have LV2 := LIVE.out w2 HB2.out; have x0_2 := LV2.x0; have x1_2 := LV2.x1; have o_2 := LV2.o; have a_2 := LV2.a; have n_2 := LV2.n; have g_2 := LV2.g; have zx_2 := LV2.zx; have z0_2 := LV2.z0; have z1_2 := LV2.z1; have r0_2 := LV2.r0; have r1_2 := LV2.r1; have g0_2 := LV2.g0; have g1_2 := LV2.g1; obtain ⟨e0_2, e1_2, e2_2, e3_2⟩ := ROW.out w2 HW2.out; have ma1 : ¬ (w1.heap.size = x) := (by have := zx_1; omega); have mb1 : ¬ (w1.heap.size = w.heap.size) := (by have := z0_1; omega); have mc1 : ¬ (w1.heap.size = gq) := (by have := e3_1; omega); have md1 : ¬ (w1.heap.size = w.heap.size + 1) := (by have := z1_1; omega); have HR2 : Hid (Rd 3 encH hd0 w2 (.slice b2 NO.length c2) NO) := hr2; clear hr2; clear LV2) | (go_at_call 87; refine (HFB.out _ _ (HR2.out.below (by repeat' (first | with_reducible assumption | with_reducible exact Below.refl _ _ | with_reducible apply Below.drew | with_reducible apply below_drewN | with_reducible apply Below.setCell | with_reducible apply Below.alloc | omega | (simp; done) | (simp; omega))))).mono ?_; rintro e w3 ⟨⟨b3, c3, rfl, hr3⟩, HQ⟩; have HB3 : Hid (Below (w.heap.size + 2) ((w.alloc (.cells #[.int .i64 l.v, .string l.t, .string l.o, .int .u32 l.a, .int .i64 l.n, .int .u32 l.d, .int .i64 l.g] 74)).alloc (.cells #[.int .i64 0, .slice none 0 0] 79)) w3) := bstep (by have hp := HB2.out; repeat' (first | with_reducible assumption | with_reducible exact Below.refl _ _ | with_reducible apply Below.drew | with_reducible apply below_drewN | with_reducible apply Below.setCell | with_reducible apply Below.alloc | omega | (simp; done) | (simp; omega))) (by simp) HQ; (try have zm1_3 : w1.heap.size < w3.heap.size := (by have hh := HQ.size; first | (simp at hh; omega) | (have h2 := zm1_2; simp at hh; omega) | (have h2 := zm1_2; omega))); (try have ca1_3 : w3.cell? ⟨w1.heap.size, 0, none⟩ = some (.int .u32 0) := (HQ.cell (p := ⟨w1.heap.size, 0, none⟩) (by first | (simp; done) | (have hh := zm1_2; simp; omega) | (have hh := zm1_2; omega))).trans (by first | assumption | (simp [go_sem]; done) | (simp [go_sem, *]; done))); (try have cb1_3 : w3.cell? ⟨w1.heap.size, 1, none⟩ = some (.int .i64 0) := (HQ.cell (p := ⟨w1.heap.size, 1, none⟩) (by first | (simp; done) | (have hh := zm1_2; simp; omega) | (have hh := zm1_2; omega))).trans (by first | assumption | (simp [go_sem]; done) | (simp [go_sem, *]; done))); (try have fa1_3 : w3.frozen? ⟨w1.heap.size, 0, none⟩ = false := (HQ.frozen (p := ⟨w1.heap.size, 0, none⟩) (by first | (simp; done) | (have hh := zm1_2; simp; omega) | (have hh := zm1_2; omega))).trans (by first | assumption | (simp [go_sem]; done) | (simp [go_sem, *]; done))); (try have fb1_3 : w3.frozen? ⟨w1.heap.size, 1, none⟩ = false := (HQ.frozen (p := ⟨w1.heap.size, 1, none⟩) (by first | (simp; done) | (have hh := zm1_2; simp; omega) | (have hh := zm1_2; omega))).trans (by first | assumption | (simp [go_sem]; done) | (simp [go_sem, *]; done))); (try have zm2_3 : w2.heap.size < w3.heap.size := (by have hh := HQ.size; first | (simp at hh; omega) | (have h2 := zm2_2; simp at hh; omega) | (have h2 := zm2_2; omega))); (try have ca2_3 : w3.cell? ⟨w2.heap.size, 0, none⟩ = some (.int .u32 0) := (HQ.cell (p := ⟨w2.heap.size, 0, none⟩) (by first | (simp; done) | (have hh := zm2_2; simp; omega) | (have hh := zm2_2; omega))).trans (by first | assumption | (simp [go_sem]; done) | (simp [go_sem, *]; done))); (try have cb2_3 : w3.cell? ⟨w2.heap.size, 1, none⟩ = some (.int .i64 0) := (HQ.cell (p := ⟨w2.heap.size, 1, none⟩) (by first | (simp; done) | (have hh := zm2_2; simp; omega) | (have hh := zm2_2; omega))).trans (by first | assumption | (simp [go_sem]; done) | (simp [go_sem, *]; done))); (try have fa2_3 : w3.frozen? ⟨w2.heap.size, 0, none⟩ = false := (HQ.frozen (p := ⟨w2.heap.size, 0, none⟩) (by first | (simp; done) | (have hh := zm2_2; simp; omega) | (have hh := zm2_2; omega))).trans (by first | assumption | (simp [go_sem]; done) | (simp [go_sem, *]; done))); (try have fb2_3 : w3.frozen? ⟨w2.heap.size, 1, none⟩ = false := (HQ.frozen (p := ⟨w2.heap.size, 1, none⟩) (by first | (simp; done) | (have hh := zm2_2; simp; omega) | (have hh := zm2_2; omega))).trans (by first | assumption | (simp [go_sem]; done) | (simp [go_sem, *]; done))); clear HQ; have HW3 : Hid (Below w.heap.size w w3) := (w0_below w l).trans (HB3.out.mono (by omega)); have LV3 := LIVE.out w3 HB3.out; have x0_3 := LV3.x0; have x1_3 := LV3.x1; have o_3 := LV3.o; have a_3 := LV3.a; have n_3 := LV3.n; have g_3 := LV3.g; have zx_3 := LV3.zx; have z0_3 := LV3.z0; have z1_3 := LV3.z1; have r0_3 := LV3.r0; have r1_3 := LV3.r1; have g0_3 := LV3.g0; have g1_3 := LV3.g1; obtain ⟨e0_3, e1_3, e2_3, e3_3⟩ := ROW.out w3 HW3.out; have ma2 : ¬ (w2.heap.size = x) := (by have := zx_2; omega); have mb2 : ¬ (w2.heap.size = w.heap.size) := (by have := z0_2; omega); have mc2 : ¬ (w2.heap.size = gq) := (by have := e3_2; omega); have md2 : ¬ (w2.heap.size = w.heap.size + 1) := (by have := z1_2; omega); have HR3 : Hid (Rd 2 encB (0, 0) w3 (.slice b3 FR.length c3) FR) := hr3; clear hr3; clear LV3) | (go_at_call 86; refine (HBF.out _ _ (HR3.out.below (by repeat' (first | with_reducible assumption | with_reducible exact Below.refl _ _ | with_reducible apply Below.drew | with_reducible apply below_drewN | with_reducible apply Below.setCell | with_reducible apply Below.alloc | omega | (simp; done) | (simp; omega))))).mono ?_; rintro e w4 ⟨rfl, HQ⟩; have HB4 : Hid (Below (w.heap.size + 2) ((w.alloc (.cells #[.int .i64 l.v, .string l.t, .string l.o, .int .u32 l.a, .int .i64 l.n, .int .u32 l.d, .int .i64 l.g] 74)).alloc (.cells #[.int .i64 0, .slice none 0 0] 79)) w4) := bstep (by have hp := HB3.out; repeat' (first | with_reducible assumption | with_reducible exact Below.refl _ _ | with_reducible apply Below.drew | with_reducible apply below_drewN | with_reducible apply Below.setCell | with_reducible apply Below.alloc | omega | (simp; done) | (simp; omega))) (by simp) HQ; (try have zm1_4 : w1.heap.size < w4.heap.size := (by have hh := HQ.size; first | (simp at hh; omega) | (have h2 := zm1_3; simp at hh; omega) | (have h2 := zm1_3; omega))); (try have ca1_4 : w4.cell? ⟨w1.heap.size, 0, none⟩ = some (.int .u32 0) := (HQ.cell (p := ⟨w1.heap.size, 0, none⟩) (by first | (simp; done) | (have hh := zm1_3; simp; omega) | (have hh := zm1_3; omega))).trans (by first | assumption | (simp [go_sem]; done) | (simp [go_sem, *]; done))); (try have cb1_4 : w4.cell? ⟨w1.heap.size, 1, none⟩ = some (.int .i64 0) := (HQ.cell (p := ⟨w1.heap.size, 1, none⟩) (by first | (simp; done) | (have hh := zm1_3; simp; omega) | (have hh := zm1_3; omega))).trans (by first | assumption | (simp [go_sem]; done) | (simp [go_sem, *]; done))); (try have fa1_4 : w4.frozen? ⟨w1.heap.size, 0, none⟩ = false := (HQ.frozen (p := ⟨w1.heap.size, 0, none⟩) (by first | (simp; done) | (have hh := zm1_3; simp; omega) | (have hh := zm1_3; omega))).trans (by first | assumption | (simp [go_sem]; done) | (simp [go_sem, *]; done))); (try have fb1_4 : w4.frozen? ⟨w1.heap.size, 1, none⟩ = false := (HQ.frozen (p := ⟨w1.heap.size, 1, none⟩) (by first | (simp; done) | (have hh := zm1_3; simp; omega) | (have hh := zm1_3; omega))).trans (by first | assumption | (simp [go_sem]; done) | (simp [go_sem, *]; done))); (try have zm2_4 : w2.heap.size < w4.heap.size := (by have hh := HQ.size; first | (simp at hh; omega) | (have h2 := zm2_3; simp at hh; omega) | (have h2 := zm2_3; omega))); (try have ca2_4 : w4.cell? ⟨w2.heap.size, 0, none⟩ = some (.int .u32 0) := (HQ.cell (p := ⟨w2.heap.size, 0, none⟩) (by first | (simp; done) | (have hh := zm2_3; simp; omega) | (have hh := zm2_3; omega))).trans (by first | assumption | (simp [go_sem]; done) | (simp [go_sem, *]; done))); (try have cb2_4 : w4.cell? ⟨w2.heap.size, 1, none⟩ = some (.int .i64 0) := (HQ.cell (p := ⟨w2.heap.size, 1, none⟩) (by first | (simp; done) | (have hh := zm2_3; simp; omega) | (have hh := zm2_3; omega))).trans (by first | assumption | (simp [go_sem]; done) | (simp [go_sem, *]; done))); (try have fa2_4 : w4.frozen? ⟨w2.heap.size, 0, none⟩ = false := (HQ.frozen (p := ⟨w2.heap.size, 0, none⟩) (by first | (simp; done) | (have hh := zm2_3; simp; omega) | (have hh := zm2_3; omega))).trans (by first | assumption | (simp [go_sem]; done) | (simp [go_sem, *]; done))); (try have fb2_4 : w4.frozen? ⟨w2.heap.size, 1, none⟩ = false := (HQ.frozen (p := ⟨w2.heap.size, 1, none⟩) (by first | (simp; done) | (have hh := zm2_3; simp; omega) | (have hh := zm2_3; omega))).trans (by first | assumption | (simp [go_sem]; done) | (simp [go_sem, *]; done))); (try have zm3_4 : w3.heap.size < w4.heap.size := (by have hh := HQ.size; first | (simp at hh; omega) | (have h2 := zm3_3; simp at hh; omega) | (have h2 := zm3_3; omega))); (try have ca3_4 : w4.cell? ⟨w3.heap.size, 0, none⟩ = some (.int .u32 0) := (HQ.cell (p := ⟨w3.heap.size, 0, none⟩) (by first | (simp; done) | (have hh := zm3_3; simp; omega) | (have hh := zm3_3; omega))).trans (by first | assumption | (simp [go_sem]; done) | (simp [go_sem, *]; done))); (try have cb3_4 : w4.cell? ⟨w3.heap.size, 1, none⟩ = some (.int .i64 0) := (HQ.cell (p := ⟨w3.heap.size, 1, none⟩) (by first | (simp; done) | (have hh := zm3_3; simp; omega) | (have hh := zm3_3; omega))).trans (by first | assumption | (simp [go_sem]; done) | (simp [go_sem, *]; done))); (try have fa3_4 : w4.frozen? ⟨w3.heap.size, 0, none⟩ = false := (HQ.frozen (p := ⟨w3.heap.size, 0, none⟩) (by first | (simp; done) | (have hh := zm3_3; simp; omega) | (have hh := zm3_3; omega))).trans (by first | assumption | (simp [go_sem]; done) | (simp [go_sem, *]; done))); (try have fb3_4 : w4.frozen? ⟨w3.heap.size, 1, none⟩ = false := (HQ.frozen (p := ⟨w3.heap.size, 1, none⟩) (by first | (simp; done) | (have hh := zm3_3; simp; omega) | (have hh := zm3_3; omega))).trans (by first | assumption | (simp [go_sem]; done) | (simp [go_sem, *]; done))); clear HQ; have HW4 : Hid (Below w.heap.size w w4) := (w0_below w l).trans (HB4.out.mono (by omega)); have LV4 := LIVE.out w4 HB4.out; have x0_4 := LV4.x0; have x1_4 := LV4.x1; have o_4 := LV4.o; have a_4 := LV4.a; have n_4 := LV4.n; have g_4 := LV4.g; have zx_4 := LV4.zx; have z0_4 := LV4.z0; have z1_4 := LV4.z1; have r0_4 := LV4.r0; have r1_4 := LV4.r1; have g0_4 := LV4.g0; have g1_4 := LV4.g1; obtain ⟨e0_4, e1_4, e2_4, e3_4⟩ := ROW.out w4 HW4.out; have ma3 : ¬ (w3.heap.size = x) := (by have := zx_3; omega); have mb3 : ¬ (w3.heap.size = w.heap.size) := (by have := z0_3; omega); have mc3 : ¬ (w3.heap.size = gq) := (by have := e3_3; omega); have md3 : ¬ (w3.heap.size = w.heap.size + 1) := (by have := z1_3; omega); clear LV4))
    all_goals (
      go_wp2_with (first | (go_at_call 88; refine (HAD.out _ (by have hp := HW4.out; repeat' (first | with_reducible assumption | with_reducible exact Below.refl _ _ | with_reducible apply Below.drew | with_reducible apply below_drewN | with_reducible apply Below.setCell | with_reducible apply Below.alloc | omega | (simp; done) | (simp; omega)))).mono ?_; rintro e w5 ⟨rfl, S3, o1, o2, o3⟩; have HG : Hid (∃ Wc, Below w.heap.size w Wc ∧ w.heap.size + 2 ≤ Wc.heap.size ∧ (∀ b, S3 b → S b ∨ Wc.heap.size ≤ b) ∧ Chg S Wc w5) := ⟨_, by have hp := HW4.out; repeat' (first | with_reducible assumption | with_reducible exact Below.refl _ _ | with_reducible apply Below.drew | with_reducible apply below_drewN | with_reducible apply Below.setCell | with_reducible apply Below.alloc | omega | (simp; done) | (simp; omega)), by have hz := HB4.out.size; simp at hz ⊢; omega, o2, o3⟩; have HA : Hid (BkAt w5 x S3 { s with nets := insH s.nets ⟨ba, l.g, l.o⟩ }) := o1; have RB5 : Hid (Blk w5 (w.heap.size + 1) #[.int .i64 0, .slice none 0 0] 79) := (o3.block _ (by have hz := HB4.out.size; simp at hz ⊢; omega) (fun q => by have := HS.out _ q; omega)).trans (LIVE.out _ (by have hp := HB4.out; repeat' (first | with_reducible assumption | with_reducible exact Below.refl _ _ | with_reducible apply Below.drew | with_reducible apply below_drewN | with_reducible apply Below.setCell | with_reducible apply Below.alloc | omega | (simp; done) | (simp; omega)))).rb; have z1_5 : w.heap.size + 1 < w5.heap.size := RB5.out.lt; have HE5 : Hid (Env w5) := (EN.out.mono (by have hp := HW4.out; repeat' (first | with_reducible assumption | with_reducible exact Below.refl _ _ | with_reducible apply Below.drew | with_reducible apply below_drewN | with_reducible apply Below.setCell | with_reducible apply Below.alloc | omega | (simp; done) | (simp; omega)))).low (o3.low GS.out (by have hz := HB4.out.size; have := ZG.out; simp at hz ⊢; omega)); first | (have qq := LATE.out _ _ _ (blk_new2 _ _ _ _) (Nat.le_succ_of_le (Nat.le_of_lt z0_4)) o3; have q0 := qq.cell 0; have q1 := qq.cell 1; clear qq) | (have qq := LATE.out _ _ _ (blk_newS _ _ _ _ _ _ _) (Nat.le_of_lt z0_4) o3; have q0 := qq.cell 0; have q1 := qq.cell 1; clear qq); clear o1 o2 o3) | (go_at_call 89; refine (HBT.out _ HE5.out).mono ?_; rintro e w6 ⟨rfl, HQ⟩; have HT6 : Hid (Below w5.heap.size w5 w6) := HQ; clear HQ; have zz_6 : w5.heap.size ≤ w6.heap.size := HT6.out.size) | (go_at_call 81; refine (ok_any (some ⟨w6.heap.size, 0, none⟩) 1 1 _).mono ?_; rintro e w7 ⟨rfl, HQ⟩; have HQ7 : Hid (Below w5.heap.size w5 w7) := bup (Below.alloc HT6.out HT6.out.size _) HQ; have MC7 : Hid (w6.heap.size < w7.heap.size ∧ w7.cell? ⟨w6.heap.size, 0, none⟩ = some (.string tt)) := ⟨by have := HQ.size; simp at this; omega, (HQ.cell (p := ⟨w6.heap.size, 0, none⟩) (by simp)).trans (by simp [go_sem])⟩; have RB7 : Blk w7 (w.heap.size + 1) #[.int .i64 0, .slice none 0 0] 79 := (HQ7.out.block _ z1_5).trans RB5.out; clear HQ; have HR7 : Hid (Blk w7 (w.heap.size + 1) #[.int .i64 0, .slice none 0 0] 79) := RB7; have r0_7 : w7.cell? ⟨w.heap.size + 1, 0, none⟩ = some (.int .i64 0) := RB7.cell 0; have r1_7 : w7.cell? ⟨w.heap.size + 1, 1, none⟩ = some (.slice none 0 0) := RB7.cell 1; have g0_7 : w7.frozen? ⟨w.heap.size + 1, 0, none⟩ = false := RB7.frozen 0; have g1_7 : w7.frozen? ⟨w.heap.size + 1, 1, none⟩ = false := RB7.frozen 1; clear RB7))
      obtain ⟨kk0, kk1⟩ := two_set HR7.out (.int .i64 0) (.slice (some ⟨w6.heap.size, 0, none⟩) 1 1)
      obtain ⟨Wc, hc1, hc2, hc3, hc4⟩ := HG.out
      have hne : w6.heap.size ≠ w.heap.size + 1 := by omega
      have hfin := res_new HS.out hc1 hc2 HA.out hc3 hc4 HQ7.out (tell1 tt) rfl (.slice (some ⟨w6.heap.size, 0, none⟩) 1 1) (fun W' h1 h2 => rd_one (Nat.lt_of_lt_of_le MC7.out.1 h2) ((World.cell?_of_block (a := ⟨w6.heap.size, 0, none⟩) (h1 _ hne)).trans MC7.out.2))
      exact bodyPost_ret (v := .agg #[.int .i64 0, .slice (some ⟨w6.heap.size, 0, none⟩) 1 1]) (by simp [results, Tryz.results60, go_sem, kk0, kk1]) rfl hfin))
end Go.Proofs.YtlikdnmikdldfaaGreatDoor
namespace Go.Proofs.YtlikdnmikdldfaaGreatDoor
open Go.ChangeShapes Go.WideShapes Go.ChangeAt Go.RowKit
set_option linter.unusedVariables false

theorem leastGo_bd (uz : Int) : ∀ (L : List Ls) (x y : Int), x ≤ uz → leastGo uz x L = some y → x ≤ y ∧ y ≤ uz := by
  intro L
  induction L with
  | nil => intro x y hx h; simp [leastGo] at h; omega
  | cons z r ih =>
    intro x y hx h
    unfold leastGo at h
    split at h
    · simp at h; omega
    · split at h
      · cases h
      · have := ih (x + 1) y (by omega) h
        omega
theorem least_ad {ls : List Ls} {a n y : Int} (ha : ad a) (hr : rt a n = true) (h : least ls a n = some y) : ad y := by
  obtain ⟨u0, u1, u2⟩ := use_le a n ha hr
  have := leastGo_bd _ _ _ _ u1 h
  unfold ad at u0 ⊢
  omega
theorem best_mem {bits : Int} (L : List (Int × Int)) : ∀ (s : Option (Int × Int)) (b : Int × Int), L.foldl (bestStep bits) s = some b → (b ∈ L ∧ b.2 ≤ bits) ∨ s = some b := by
  induction L with
  | nil => intro s b h; exact .inr h
  | cons c r ih =>
    intro s b h
    rw [List.foldl_cons] at h
    rcases ih _ b h with ⟨h1, h2⟩ | h1
    · exact .inl ⟨List.mem_cons_of_mem _ h1, h2⟩
    · unfold bestStep at h1
      split at h1
      · rename_i hc
        cases s with
        | none => simp at h1; subst h1; exact .inl ⟨List.mem_cons_self, hc⟩
        | some d =>
          simp only at h1
          split at h1
          · simp at h1; subst h1; exact .inl ⟨List.mem_cons_self, hc⟩
          · exact .inr h1
      · exact .inr h1
theorem frees_rt (l : List Hd) (hl : ∀ h, h ∈ l → h.n ≤ 32) (k : Nat) : ∀ (a n : Int), ad a → rt a n = true → ∀ b, b ∈ frees k l a n → ad b.1 ∧ rt b.1 b.2 = true := by
  induction k with
  | zero => intro a n _ _ b hb; simp [frees] at hb
  | succ k ih =>
    intro a n ha hr b hb
    simp only [frees] at hb
    split at hb
    · simp at hb; subst hb; exact ⟨ha, hr⟩
    · rename_i h1
      split at hb
      · simp at hb
      · rename_i h2
        have hn := mt_in_32 hl (by simpa using h1) (by omega)
        obtain ⟨⟨p1, p2⟩, p3, p4⟩ := half_rt ha hr hn
        rcases List.mem_append.1 hb with q | q
        · exact ih _ _ p1 p2 b q
        · exact ih _ _ p3 p4 b q
theorem lease_any (w : World) (x : Nat) (S : Nat → Prop) (s : Bk) (l : Ln) (hI : Inv s) (hL : LnOk l) (h : BkAt w x S s) (hE : Env w) (hG : ∀ b, S b → 10 ≤ b) (hZ : 10 ≤ w.heap.size) : Calls Tryz.prog 63 #[.pointer (some ⟨x, 0, none⟩), .agg (lnC l)] w (Res w x S (doLease s l)) := by
  unfold doLease
  rcases fi_cases (isH l.a l.n) s.nets hd0 with ⟨e, _⟩ | ⟨k, hk, e, hp, _⟩
  · have e1 : findH s.nets l.a l.n = -1 := e
    rw [if_pos (by rw [e1]; decide)]; exact lease_none w x S s l hI hL h e1
  · have e1 : findH s.nets l.a l.n = k := e
    rw [if_neg (by rw [e1]; omega)]
    have hk6 : (s.nets.getD k hd0).a = l.a ∧ (s.nets.getD k hd0).n = l.n := by simpa [isH] using hp
    rcases hlf : least s.leases l.a l.n with _ | y
    · exact lease_full w x S s l hI hL h k _ hk e1 rfl (by rw [hk6.1, hk6.2]; exact hlf)
    · have hy := least_ad hL.a hL.r hlf
      have hlf2 : least s.leases (s.nets.getD k hd0).a (s.nets.getD k hd0).n = some y := by rw [hk6.1, hk6.2]; exact hlf
      dsimp only
      by_cases h5 : 40 ≤ s.leases.length
      · rw [if_pos h5]; exact lease_limit w x S s l hI hL h k _ hk e1 rfl y hlf2 h5
      · rw [if_neg h5]; exact lease_ok w x S s l hI hL h k _ hk e1 rfl y hy hlf2 h5 hE hG hZ
theorem carve_any (w : World) (x : Nat) (S : Nat → Prop) (s : Bk) (l : Ln) (hI : Inv s) (hL : LnOk l) (h : BkAt w x S s) (hE : Env w) (hG : ∀ b, S b → 10 ≤ b) (hZ : 10 ≤ w.heap.size) : Calls Tryz.prog 60 #[.pointer (some ⟨x, 0, none⟩), .agg (lnC l)] w (Res w x S (doNet s l)) := by
  unfold doNet
  rcases fi_cases (isH l.a l.n) s.pools hd0 with ⟨e, _⟩ | ⟨k, hk, e, hp, _⟩
  · have e1 : findH s.pools l.a l.n = -1 := e
    rw [if_pos (by rw [e1]; decide)]; exact net_pool w x S s l hI hL h e1
  · have e1 : findH s.pools l.a l.n = k := e
    rw [if_neg (by rw [e1]; omega)]
    by_cases h2 : l.g < 22 ∨ l.g < l.n
    · rw [if_pos h2]; exact net_range w x S s l hI hL h k _ hk e1 hp rfl h2
    · rw [if_neg h2]
      have n1 : ¬ l.g < 22 := fun q => h2 (.inl q)
      have n2 : ¬ l.g < l.n := fun q => h2 (.inr q)
      rcases hb : best (frees 33 (netsOf s.nets l.a l.n) l.a l.n) l.g with _ | ⟨ba, bn⟩
      · exact net_full w x S s l hI hL h k _ hk e1 hp rfl _ hb n1 n2 rfl
      · have hmem := best_mem _ none _ hb
        have hin : (ba, bn) ∈ frees 33 (netsOf s.nets l.a l.n) l.a l.n ∧ bn ≤ l.g := by
          rcases hmem with q | q
          · exact q
          · cases q
        have hrt := frees_rt (netsOf s.nets l.a l.n) (fun q hq => by have hm := hI.na q (List.mem_filter.1 hq).1; exact (rt_iff.1 hm.2.1).2.1) 33 l.a l.n hL.a hL.r _ hin.1
        have hba : ad ba ∧ rt ba l.g = true := by
          obtain ⟨g0, g1, g2⟩ := rt_iff.1 hrt.2
          exact ⟨hrt.1, rt_iff.2 ⟨by have := hin.2; omega, hL.g1, mod_down ba bn l.g hin.2 hL.g1 g2⟩⟩
        dsimp only
        by_cases h5 : 24 ≤ s.nets.length
        · rw [if_pos h5]; exact net_limit w x S s l hI hL h k _ hk e1 hp rfl _ hb n1 n2 _ rfl h5
        · rw [if_neg h5]; exact net_ok w x S s l hI hL h k _ hk e1 hp rfl _ hb n1 n2 ba bn hba rfl h5 hE hG hZ
end Go.Proofs.YtlikdnmikdldfaaGreatDoor
namespace Go.Proofs.YtlikdnmikdldfaaGreatDoor
open Go.ChangeShapes Go.WideShapes Go.ChangeAt Go.RowKit
set_option linter.unusedVariables false
set_option linter.unusedSimpArgs false

theorem res_pass {w w1 : World} {cs : Array Value} {x : Nat} {S : Nat → Prop} {s : Bk} {r : Bk × An} {e : Ending} (h : BkAt w x S s) (R : Res ((w.alloc (.cells cs 74)).alloc (.cells #[.int .i64 0, .slice none 0 0] 79)) x S r e w1) :
    ∃ b n c, e = .returned (.agg #[.int .i64 r.2.e, .slice b n c]) ∧ Blk w1 (w.heap.size + 1) #[.int .i64 0, .slice none 0 0] 79 ∧ Res w x S r (.returned (.agg #[.int .i64 r.2.e, .slice b n c])) ((w1.setCell ⟨w.heap.size + 1, 0, none⟩ (.int .i64 r.2.e)).setCell ⟨w.heap.size + 1, 1, none⟩ (.slice b n c)) := by
  obtain ⟨va, S', rfl, hrd, hb, hS, hc⟩ := R
  have hs : ∀ b, S b → b < w.heap.size := by obtain ⟨_, _, _, _, B⟩ := h; exact B.sz
  have hz := hc.size
  have hc2 : Chg S w w1 := (Chg.below (S := S) (w := w) (w' := ((w.alloc (.cells cs 74)).alloc (.cells #[.int .i64 0, .slice none 0 0] 79))) (by repeat' (first | with_reducible assumption | with_reducible exact Below.refl _ _ | with_reducible apply Below.drew | with_reducible apply below_drewN | with_reducible apply Below.setCell | with_reducible apply Below.alloc | omega | (simp; done) | (simp; omega)))).trans hc (fun b q => .inl q)
  have hS2 : ∀ b, S' b → b ≠ w.heap.size + 1 ∧ (S b ∨ w.heap.size ≤ b) := fun b q => by
    rcases hS b q with k | k
    · exact ⟨by have := hs b k; omega, .inl k⟩
    · simp at k; exact ⟨by omega, .inr (by omega)⟩
  have q2 := Blk.new (w.alloc (.cells cs 74)) #[.int .i64 0, .slice none 0 0] 79
  rw [show (w.alloc (.cells cs 74)).heap.size = w.heap.size + 1 by simp] at q2
  have p2 : Blk w1 (w.heap.size + 1) #[.int .i64 0, .slice none 0 0] 79 := (hc.block _ (by simp) (fun q => by have := hs _ q; omega)).trans q2
  obtain ⟨bb, cap, rfl, h1, h2, h3⟩ := hrd
  refine ⟨bb, _, cap, rfl, p2, ?_⟩
  have s1 := sets_other (w.heap.size + 1) [.int .i64 r.2.e, .slice bb r.2.s.length cap] 0 w1
  refine ⟨_, S', rfl, ⟨bb, cap, rfl, h1, h2, fun hne => ?_⟩, ?_, fun b q => (hS2 b q).2, hc2.sets (w.heap.size + 1) 0 [.int .i64 r.2.e, .slice bb r.2.s.length cap] (.inr (by omega))⟩
  · obtain ⟨g, e2, hg, hcc⟩ := h3 hne
    have hgn : g ≠ w.heap.size + 1 := fun q => by
      have c0 := hcc 0 (List.length_pos_iff.2 hne) 0 _ rfl
      rw [q] at c0
      have c1 := p2.cell 0
      rw [show (⟨w.heap.size + 1, 0 * 1 + 0, none⟩ : Addr) = ⟨w.heap.size + 1, 0, none⟩ from rfl, c1] at c0
      cases c0
    exact ⟨g, e2, by rw [show ((w1.setCell ⟨w.heap.size + 1, 0, none⟩ (.int .i64 r.2.e)).setCell ⟨w.heap.size + 1, 1, none⟩ (.slice bb r.2.s.length cap)).heap.size = w1.heap.size from s1.2.2.2.1]; exact hg, fun j hj i u hu => (World.cell?_of_block (a := ⟨g, j * 1 + i, none⟩) (s1.2.2.2.2 g hgn)).trans (hcc j hj i u hu)⟩
  · obtain ⟨vp, vn, vl, c, B⟩ := hb
    exact ⟨vp, vn, vl, c, B.same (fun b q => s1.2.2.2.2 b (hS2 b q).1) (Nat.le_of_eq s1.2.2.2.1.symm)⟩

theorem res_passB {w w1 : World} {cs : Array Value} {x : Nat} {S : Nat → Prop} {s : Bk} {r : Bk × An} {e : Ending} (h : BkAt w x S s) (R : ResB ((w.alloc (.cells cs 74)).alloc (.cells #[.int .i64 0, .slice none 0 0] 79)) x S r e w1) :
    ∃ b n c, e = .returned (.agg #[.int .i64 r.2.e, .slice b n c]) ∧ Blk w1 (w.heap.size + 1) #[.int .i64 0, .slice none 0 0] 79 ∧ ResB w x S r (.returned (.agg #[.int .i64 r.2.e, .slice b n c])) ((w1.setCell ⟨w.heap.size + 1, 0, none⟩ (.int .i64 r.2.e)).setCell ⟨w.heap.size + 1, 1, none⟩ (.slice b n c)) := by
  obtain ⟨b, n, c, h1, h2, h3⟩ := res_pass h R.1
  have hq := R.2
  have hq2 : Below w.heap.size w w1 := Below.trans (B := w.heap.size) (a := w) (by repeat' (first | with_reducible assumption | with_reducible exact Below.refl _ _ | with_reducible apply Below.drew | with_reducible apply below_drewN | with_reducible apply Below.setCell | with_reducible apply Below.alloc | omega | (simp; done) | (simp; omega))) (hq.mono (by simp; omega))
  have hz := hq.size
  simp at hz
  clear hq
  exact ⟨b, n, c, h1, h2, h3, (by repeat' (first | with_reducible assumption | with_reducible exact Below.refl _ _ | with_reducible apply Below.drew | with_reducible apply below_drewN | with_reducible apply Below.setCell | with_reducible apply Below.alloc | omega | (simp; done) | (simp; omega)))⟩

set_option maxRecDepth 100000 in
set_option maxHeartbeats 2000000 in
theorem do_0 (w : World) (x : Nat) (S : Nat → Prop) (s : Bk) (l : Ln) (hE : Env w) (hI : Inv s) (hL : LnOk l) (h : BkAt w x S s) (hG : ∀ b, S b → 10 ≤ b) (hZ : 10 ≤ w.heap.size) (hv : l.v = 0) :
    Calls Tryz.prog 35 #[.pointer (some ⟨x, 0, none⟩), .agg (lnC l)] w (Res w x S (doPool s l)) := by
  have H : Hid (BkAt w x S s) := h
  obtain ⟨vp, vn, vl, c, B⟩ := h
  have hx := B.blk.lt
  have x0 : w.cell? ⟨x, 0, none⟩ = some vp := B.blk.cell 0
  have hl : lnC l = #[.int .i64 0, .string l.t, .string l.o, .int .u32 l.a, .int .i64 l.n, .int .u32 l.d, .int .i64 l.g] := by unfold lnC; rw [hv]; rfl
  obtain ⟨r, hr⟩ : ∃ r : Bk × An, r = doPool s l := ⟨_, rfl⟩
  have HC : Hid (∀ W, Below w.heap.size w W → Calls Tryz.prog 58 #[.pointer (some ⟨x, 0, none⟩), .agg #[.int .i64 0, .string l.t, .string l.o, .int .u32 l.a, .int .i64 l.n, .int .u32 l.d, .int .i64 l.g]] W (Res W x S r)) := fun W hW => by
    rw [hr, ← hl]
    exact makePool_any W x S s l hI hL (H.out.below hW)
  rw [← hr, hl]
  clear B hr hl hv
  go_enter Tryz.func35, Tryz.ntmps35
  go_wp2_with (go_at_call 58; refine (HC.out _ (by repeat' (first | with_reducible assumption | with_reducible exact Below.refl _ _ | with_reducible apply Below.drew | with_reducible apply below_drewN | with_reducible apply Below.setCell | with_reducible apply Below.alloc | omega | (simp; done) | (simp; omega)))).mono ?_; rintro e w1 R; obtain ⟨bt, nt, ct, rfl, hR, hfin⟩ := res_pass H.out R; replace hfin : Hid _ := hfin; clear R; have r0_1 : w1.cell? ⟨w.heap.size + 1, 0, none⟩ = some (.int .i64 0) := hR.cell 0; have r1_1 : w1.cell? ⟨w.heap.size + 1, 1, none⟩ = some (.slice none 0 0) := hR.cell 1; have g0_1 := hR.frozen 0; have g1_1 := hR.frozen 1; have z1_1 := hR.lt)
  obtain ⟨kk0, kk1⟩ := two_set hR (.int .i64 r.2.e) (.slice bt nt ct)
  exact bodyPost_ret (v := .agg #[.int .i64 r.2.e, .slice bt nt ct]) (by simp [results, Tryz.results35, go_sem, kk0, kk1]) rfl hfin.out

set_option maxRecDepth 100000 in
set_option maxHeartbeats 2000000 in
theorem do_1 (w : World) (x : Nat) (S : Nat → Prop) (s : Bk) (l : Ln) (hE : Env w) (hI : Inv s) (hL : LnOk l) (h : BkAt w x S s) (hG : ∀ b, S b → 10 ≤ b) (hZ : 10 ≤ w.heap.size) (hv : l.v = 1) :
    Calls Tryz.prog 35 #[.pointer (some ⟨x, 0, none⟩), .agg (lnC l)] w (Res w x S (doDrop s l)) := by
  have H : Hid (BkAt w x S s) := h
  obtain ⟨vp, vn, vl, c, B⟩ := h
  have hx := B.blk.lt
  have x0 : w.cell? ⟨x, 0, none⟩ = some vp := B.blk.cell 0
  have hl : lnC l = #[.int .i64 1, .string l.t, .string l.o, .int .u32 l.a, .int .i64 l.n, .int .u32 l.d, .int .i64 l.g] := by unfold lnC; rw [hv]; rfl
  obtain ⟨r, hr⟩ : ∃ r : Bk × An, r = doDrop s l := ⟨_, rfl⟩
  have HC : Hid (∀ W, Below w.heap.size w W → Calls Tryz.prog 59 #[.pointer (some ⟨x, 0, none⟩), .agg #[.int .i64 1, .string l.t, .string l.o, .int .u32 l.a, .int .i64 l.n, .int .u32 l.d, .int .i64 l.g]] W (Res W x S r)) := fun W hW => by
    rw [hr, ← hl]
    exact dropPool_any W x S s l hI hL (H.out.below hW)
  rw [← hr, hl]
  clear B hr hl hv
  go_enter Tryz.func35, Tryz.ntmps35
  go_wp2_with (go_at_call 59; refine (HC.out _ (by repeat' (first | with_reducible assumption | with_reducible exact Below.refl _ _ | with_reducible apply Below.drew | with_reducible apply below_drewN | with_reducible apply Below.setCell | with_reducible apply Below.alloc | omega | (simp; done) | (simp; omega)))).mono ?_; rintro e w1 R; obtain ⟨bt, nt, ct, rfl, hR, hfin⟩ := res_pass H.out R; replace hfin : Hid _ := hfin; clear R; have r0_1 : w1.cell? ⟨w.heap.size + 1, 0, none⟩ = some (.int .i64 0) := hR.cell 0; have r1_1 : w1.cell? ⟨w.heap.size + 1, 1, none⟩ = some (.slice none 0 0) := hR.cell 1; have g0_1 := hR.frozen 0; have g1_1 := hR.frozen 1; have z1_1 := hR.lt)
  obtain ⟨kk0, kk1⟩ := two_set hR (.int .i64 r.2.e) (.slice bt nt ct)
  exact bodyPost_ret (v := .agg #[.int .i64 r.2.e, .slice bt nt ct]) (by simp [results, Tryz.results35, go_sem, kk0, kk1]) rfl hfin.out

set_option maxRecDepth 100000 in
set_option maxHeartbeats 2000000 in
theorem do_2 (w : World) (x : Nat) (S : Nat → Prop) (s : Bk) (l : Ln) (hE : Env w) (hI : Inv s) (hL : LnOk l) (h : BkAt w x S s) (hG : ∀ b, S b → 10 ≤ b) (hZ : 10 ≤ w.heap.size) (hv : l.v = 2) :
    Calls Tryz.prog 35 #[.pointer (some ⟨x, 0, none⟩), .agg (lnC l)] w (Res w x S (doNet s l)) := by
  have H : Hid (BkAt w x S s) := h
  obtain ⟨vp, vn, vl, c, B⟩ := h
  have hx := B.blk.lt
  have x0 : w.cell? ⟨x, 0, none⟩ = some vp := B.blk.cell 0
  have hl : lnC l = #[.int .i64 2, .string l.t, .string l.o, .int .u32 l.a, .int .i64 l.n, .int .u32 l.d, .int .i64 l.g] := by unfold lnC; rw [hv]; rfl
  obtain ⟨r, hr⟩ : ∃ r : Bk × An, r = doNet s l := ⟨_, rfl⟩
  have HC : Hid (∀ W, Below w.heap.size w W → Calls Tryz.prog 60 #[.pointer (some ⟨x, 0, none⟩), .agg #[.int .i64 2, .string l.t, .string l.o, .int .u32 l.a, .int .i64 l.n, .int .u32 l.d, .int .i64 l.g]] W (Res W x S r)) := fun W hW => by
    rw [hr, ← hl]
    exact carve_any W x S s l hI hL (H.out.below hW) (hE.mono hW) hG (by have := hW.size; omega)
  rw [← hr, hl]
  clear B hr hl hv
  go_enter Tryz.func35, Tryz.ntmps35
  go_wp2_with (go_at_call 60; refine (HC.out _ (by repeat' (first | with_reducible assumption | with_reducible exact Below.refl _ _ | with_reducible apply Below.drew | with_reducible apply below_drewN | with_reducible apply Below.setCell | with_reducible apply Below.alloc | omega | (simp; done) | (simp; omega)))).mono ?_; rintro e w1 R; obtain ⟨bt, nt, ct, rfl, hR, hfin⟩ := res_pass H.out R; replace hfin : Hid _ := hfin; clear R; have r0_1 : w1.cell? ⟨w.heap.size + 1, 0, none⟩ = some (.int .i64 0) := hR.cell 0; have r1_1 : w1.cell? ⟨w.heap.size + 1, 1, none⟩ = some (.slice none 0 0) := hR.cell 1; have g0_1 := hR.frozen 0; have g1_1 := hR.frozen 1; have z1_1 := hR.lt)
  obtain ⟨kk0, kk1⟩ := two_set hR (.int .i64 r.2.e) (.slice bt nt ct)
  exact bodyPost_ret (v := .agg #[.int .i64 r.2.e, .slice bt nt ct]) (by simp [results, Tryz.results35, go_sem, kk0, kk1]) rfl hfin.out

set_option maxRecDepth 100000 in
set_option maxHeartbeats 2000000 in
theorem do_3 (w : World) (x : Nat) (S : Nat → Prop) (s : Bk) (l : Ln) (hE : Env w) (hI : Inv s) (hL : LnOk l) (h : BkAt w x S s) (hG : ∀ b, S b → 10 ≤ b) (hZ : 10 ≤ w.heap.size) (hv : l.v = 3) :
    Calls Tryz.prog 35 #[.pointer (some ⟨x, 0, none⟩), .agg (lnC l)] w (Res w x S (doBlock s l)) := by
  have H : Hid (BkAt w x S s) := h
  obtain ⟨vp, vn, vl, c, B⟩ := h
  have hx := B.blk.lt
  have x0 : w.cell? ⟨x, 0, none⟩ = some vp := B.blk.cell 0
  have hl : lnC l = #[.int .i64 3, .string l.t, .string l.o, .int .u32 l.a, .int .i64 l.n, .int .u32 l.d, .int .i64 l.g] := by unfold lnC; rw [hv]; rfl
  obtain ⟨r, hr⟩ : ∃ r : Bk × An, r = doBlock s l := ⟨_, rfl⟩
  have HC : Hid (∀ W, Below w.heap.size w W → Calls Tryz.prog 61 #[.pointer (some ⟨x, 0, none⟩), .agg #[.int .i64 3, .string l.t, .string l.o, .int .u32 l.a, .int .i64 l.n, .int .u32 l.d, .int .i64 l.g]] W (Res W x S r)) := fun W hW => by
    rw [hr, ← hl]
    exact carveJust_any W x S s l hI hL (H.out.below hW)
  rw [← hr, hl]
  clear B hr hl hv
  go_enter Tryz.func35, Tryz.ntmps35
  go_wp2_with (go_at_call 61; refine (HC.out _ (by repeat' (first | with_reducible assumption | with_reducible exact Below.refl _ _ | with_reducible apply Below.drew | with_reducible apply below_drewN | with_reducible apply Below.setCell | with_reducible apply Below.alloc | omega | (simp; done) | (simp; omega)))).mono ?_; rintro e w1 R; obtain ⟨bt, nt, ct, rfl, hR, hfin⟩ := res_pass H.out R; replace hfin : Hid _ := hfin; clear R; have r0_1 : w1.cell? ⟨w.heap.size + 1, 0, none⟩ = some (.int .i64 0) := hR.cell 0; have r1_1 : w1.cell? ⟨w.heap.size + 1, 1, none⟩ = some (.slice none 0 0) := hR.cell 1; have g0_1 := hR.frozen 0; have g1_1 := hR.frozen 1; have z1_1 := hR.lt)
  obtain ⟨kk0, kk1⟩ := two_set hR (.int .i64 r.2.e) (.slice bt nt ct)
  exact bodyPost_ret (v := .agg #[.int .i64 r.2.e, .slice bt nt ct]) (by simp [results, Tryz.results35, go_sem, kk0, kk1]) rfl hfin.out

set_option maxRecDepth 100000 in
set_option maxHeartbeats 2000000 in
theorem do_4 (w : World) (x : Nat) (S : Nat → Prop) (s : Bk) (l : Ln) (hE : Env w) (hI : Inv s) (hL : LnOk l) (h : BkAt w x S s) (hG : ∀ b, S b → 10 ≤ b) (hZ : 10 ≤ w.heap.size) (hv : l.v = 4) :
    Calls Tryz.prog 35 #[.pointer (some ⟨x, 0, none⟩), .agg (lnC l)] w (Res w x S (doFree s l)) := by
  have H : Hid (BkAt w x S s) := h
  obtain ⟨vp, vn, vl, c, B⟩ := h
  have hx := B.blk.lt
  have x0 : w.cell? ⟨x, 0, none⟩ = some vp := B.blk.cell 0
  have hl : lnC l = #[.int .i64 4, .string l.t, .string l.o, .int .u32 l.a, .int .i64 l.n, .int .u32 l.d, .int .i64 l.g] := by unfold lnC; rw [hv]; rfl
  obtain ⟨r, hr⟩ : ∃ r : Bk × An, r = doFree s l := ⟨_, rfl⟩
  have HC : Hid (∀ W, Below w.heap.size w W → Calls Tryz.prog 62 #[.pointer (some ⟨x, 0, none⟩), .agg #[.int .i64 4, .string l.t, .string l.o, .int .u32 l.a, .int .i64 l.n, .int .u32 l.d, .int .i64 l.g]] W (Res W x S r)) := fun W hW => by
    rw [hr, ← hl]
    exact free_any W x S s l hI hL (H.out.below hW)
  rw [← hr, hl]
  clear B hr hl hv
  go_enter Tryz.func35, Tryz.ntmps35
  go_wp2_with (go_at_call 62; refine (HC.out _ (by repeat' (first | with_reducible assumption | with_reducible exact Below.refl _ _ | with_reducible apply Below.drew | with_reducible apply below_drewN | with_reducible apply Below.setCell | with_reducible apply Below.alloc | omega | (simp; done) | (simp; omega)))).mono ?_; rintro e w1 R; obtain ⟨bt, nt, ct, rfl, hR, hfin⟩ := res_pass H.out R; replace hfin : Hid _ := hfin; clear R; have r0_1 : w1.cell? ⟨w.heap.size + 1, 0, none⟩ = some (.int .i64 0) := hR.cell 0; have r1_1 : w1.cell? ⟨w.heap.size + 1, 1, none⟩ = some (.slice none 0 0) := hR.cell 1; have g0_1 := hR.frozen 0; have g1_1 := hR.frozen 1; have z1_1 := hR.lt)
  obtain ⟨kk0, kk1⟩ := two_set hR (.int .i64 r.2.e) (.slice bt nt ct)
  exact bodyPost_ret (v := .agg #[.int .i64 r.2.e, .slice bt nt ct]) (by simp [results, Tryz.results35, go_sem, kk0, kk1]) rfl hfin.out

set_option maxRecDepth 100000 in
set_option maxHeartbeats 2000000 in
theorem do_5 (w : World) (x : Nat) (S : Nat → Prop) (s : Bk) (l : Ln) (hE : Env w) (hI : Inv s) (hL : LnOk l) (h : BkAt w x S s) (hG : ∀ b, S b → 10 ≤ b) (hZ : 10 ≤ w.heap.size) (hv : l.v = 5) :
    Calls Tryz.prog 35 #[.pointer (some ⟨x, 0, none⟩), .agg (lnC l)] w (Res w x S (doLease s l)) := by
  have H : Hid (BkAt w x S s) := h
  obtain ⟨vp, vn, vl, c, B⟩ := h
  have hx := B.blk.lt
  have x0 : w.cell? ⟨x, 0, none⟩ = some vp := B.blk.cell 0
  have hl : lnC l = #[.int .i64 5, .string l.t, .string l.o, .int .u32 l.a, .int .i64 l.n, .int .u32 l.d, .int .i64 l.g] := by unfold lnC; rw [hv]; rfl
  obtain ⟨r, hr⟩ : ∃ r : Bk × An, r = doLease s l := ⟨_, rfl⟩
  have HC : Hid (∀ W, Below w.heap.size w W → Calls Tryz.prog 63 #[.pointer (some ⟨x, 0, none⟩), .agg #[.int .i64 5, .string l.t, .string l.o, .int .u32 l.a, .int .i64 l.n, .int .u32 l.d, .int .i64 l.g]] W (Res W x S r)) := fun W hW => by
    rw [hr, ← hl]
    exact lease_any W x S s l hI hL (H.out.below hW) (hE.mono hW) hG (by have := hW.size; omega)
  rw [← hr, hl]
  clear B hr hl hv
  go_enter Tryz.func35, Tryz.ntmps35
  go_wp2_with (go_at_call 63; refine (HC.out _ (by repeat' (first | with_reducible assumption | with_reducible exact Below.refl _ _ | with_reducible apply Below.drew | with_reducible apply below_drewN | with_reducible apply Below.setCell | with_reducible apply Below.alloc | omega | (simp; done) | (simp; omega)))).mono ?_; rintro e w1 R; obtain ⟨bt, nt, ct, rfl, hR, hfin⟩ := res_pass H.out R; replace hfin : Hid _ := hfin; clear R; have r0_1 : w1.cell? ⟨w.heap.size + 1, 0, none⟩ = some (.int .i64 0) := hR.cell 0; have r1_1 : w1.cell? ⟨w.heap.size + 1, 1, none⟩ = some (.slice none 0 0) := hR.cell 1; have g0_1 := hR.frozen 0; have g1_1 := hR.frozen 1; have z1_1 := hR.lt)
  obtain ⟨kk0, kk1⟩ := two_set hR (.int .i64 r.2.e) (.slice bt nt ct)
  exact bodyPost_ret (v := .agg #[.int .i64 r.2.e, .slice bt nt ct]) (by simp [results, Tryz.results35, go_sem, kk0, kk1]) rfl hfin.out

set_option maxRecDepth 100000 in
set_option maxHeartbeats 2000000 in
theorem do_6 (w : World) (x : Nat) (S : Nat → Prop) (s : Bk) (l : Ln) (hE : Env w) (hI : Inv s) (hL : LnOk l) (h : BkAt w x S s) (hG : ∀ b, S b → 10 ≤ b) (hZ : 10 ≤ w.heap.size) (hv : l.v = 6) :
    Calls Tryz.prog 35 #[.pointer (some ⟨x, 0, none⟩), .agg (lnC l)] w (Res w x S (doTake s l)) := by
  have H : Hid (BkAt w x S s) := h
  obtain ⟨vp, vn, vl, c, B⟩ := h
  have hx := B.blk.lt
  have x0 : w.cell? ⟨x, 0, none⟩ = some vp := B.blk.cell 0
  have hl : lnC l = #[.int .i64 6, .string l.t, .string l.o, .int .u32 l.a, .int .i64 l.n, .int .u32 l.d, .int .i64 l.g] := by unfold lnC; rw [hv]; rfl
  obtain ⟨r, hr⟩ : ∃ r : Bk × An, r = doTake s l := ⟨_, rfl⟩
  have HC : Hid (∀ W, Below w.heap.size w W → Calls Tryz.prog 64 #[.pointer (some ⟨x, 0, none⟩), .agg #[.int .i64 6, .string l.t, .string l.o, .int .u32 l.a, .int .i64 l.n, .int .u32 l.d, .int .i64 l.g]] W (Res W x S r)) := fun W hW => by
    rw [hr, ← hl]
    exact take_any W x S s l hI hL (H.out.below hW)
  rw [← hr, hl]
  clear B hr hl hv
  go_enter Tryz.func35, Tryz.ntmps35
  go_wp2_with (go_at_call 64; refine (HC.out _ (by repeat' (first | with_reducible assumption | with_reducible exact Below.refl _ _ | with_reducible apply Below.drew | with_reducible apply below_drewN | with_reducible apply Below.setCell | with_reducible apply Below.alloc | omega | (simp; done) | (simp; omega)))).mono ?_; rintro e w1 R; obtain ⟨bt, nt, ct, rfl, hR, hfin⟩ := res_pass H.out R; replace hfin : Hid _ := hfin; clear R; have r0_1 : w1.cell? ⟨w.heap.size + 1, 0, none⟩ = some (.int .i64 0) := hR.cell 0; have r1_1 : w1.cell? ⟨w.heap.size + 1, 1, none⟩ = some (.slice none 0 0) := hR.cell 1; have g0_1 := hR.frozen 0; have g1_1 := hR.frozen 1; have z1_1 := hR.lt)
  obtain ⟨kk0, kk1⟩ := two_set hR (.int .i64 r.2.e) (.slice bt nt ct)
  exact bodyPost_ret (v := .agg #[.int .i64 r.2.e, .slice bt nt ct]) (by simp [results, Tryz.results35, go_sem, kk0, kk1]) rfl hfin.out

set_option maxRecDepth 100000 in
set_option maxHeartbeats 2000000 in
theorem do_7 (w : World) (x : Nat) (S : Nat → Prop) (s : Bk) (l : Ln) (hE : Env w) (hI : Inv s) (hL : LnOk l) (h : BkAt w x S s) (hG : ∀ b, S b → 10 ≤ b) (hZ : 10 ≤ w.heap.size) (hv : l.v = 7) :
    Calls Tryz.prog 35 #[.pointer (some ⟨x, 0, none⟩), .agg (lnC l)] w (Res w x S (doGive s l)) := by
  have H : Hid (BkAt w x S s) := h
  obtain ⟨vp, vn, vl, c, B⟩ := h
  have hx := B.blk.lt
  have x0 : w.cell? ⟨x, 0, none⟩ = some vp := B.blk.cell 0
  have hl : lnC l = #[.int .i64 7, .string l.t, .string l.o, .int .u32 l.a, .int .i64 l.n, .int .u32 l.d, .int .i64 l.g] := by unfold lnC; rw [hv]; rfl
  obtain ⟨r, hr⟩ : ∃ r : Bk × An, r = doGive s l := ⟨_, rfl⟩
  have HC : Hid (∀ W, Below w.heap.size w W → Calls Tryz.prog 65 #[.pointer (some ⟨x, 0, none⟩), .agg #[.int .i64 7, .string l.t, .string l.o, .int .u32 l.a, .int .i64 l.n, .int .u32 l.d, .int .i64 l.g]] W (Res W x S r)) := fun W hW => by
    rw [hr, ← hl]
    exact give_any W x S s l hI hL (H.out.below hW)
  rw [← hr, hl]
  clear B hr hl hv
  go_enter Tryz.func35, Tryz.ntmps35
  go_wp2_with (go_at_call 65; refine (HC.out _ (by repeat' (first | with_reducible assumption | with_reducible exact Below.refl _ _ | with_reducible apply Below.drew | with_reducible apply below_drewN | with_reducible apply Below.setCell | with_reducible apply Below.alloc | omega | (simp; done) | (simp; omega)))).mono ?_; rintro e w1 R; obtain ⟨bt, nt, ct, rfl, hR, hfin⟩ := res_pass H.out R; replace hfin : Hid _ := hfin; clear R; have r0_1 : w1.cell? ⟨w.heap.size + 1, 0, none⟩ = some (.int .i64 0) := hR.cell 0; have r1_1 : w1.cell? ⟨w.heap.size + 1, 1, none⟩ = some (.slice none 0 0) := hR.cell 1; have g0_1 := hR.frozen 0; have g1_1 := hR.frozen 1; have z1_1 := hR.lt)
  obtain ⟨kk0, kk1⟩ := two_set hR (.int .i64 r.2.e) (.slice bt nt ct)
  exact bodyPost_ret (v := .agg #[.int .i64 r.2.e, .slice bt nt ct]) (by simp [results, Tryz.results35, go_sem, kk0, kk1]) rfl hfin.out

set_option maxRecDepth 100000 in
set_option maxHeartbeats 2000000 in
theorem do_8 (w : World) (x : Nat) (S : Nat → Prop) (s : Bk) (l : Ln) (hE : Env w) (hI : Inv s) (hL : LnOk l) (h : BkAt w x S s) (hG : ∀ b, S b → 10 ≤ b) (hZ : 10 ≤ w.heap.size) (hv : l.v = 8) :
    Calls Tryz.prog 35 #[.pointer (some ⟨x, 0, none⟩), .agg (lnC l)] w (ResB w x S ((s, ⟨0, s.pools.map fun h => ⟨(hText h).toArray⟩⟩))) := by
  have H : Hid (BkAt w x S s) := h
  obtain ⟨vp, vn, vl, c, B⟩ := h
  have hx := B.blk.lt
  have x0 : w.cell? ⟨x, 0, none⟩ = some vp := B.blk.cell 0
  have hl : lnC l = #[.int .i64 8, .string l.t, .string l.o, .int .u32 l.a, .int .i64 l.n, .int .u32 l.d, .int .i64 l.g] := by unfold lnC; rw [hv]; rfl
  obtain ⟨r, hr⟩ : ∃ r : Bk × An, r = (s, ⟨0, s.pools.map fun h => ⟨(hText h).toArray⟩⟩) := ⟨_, rfl⟩
  have HC : Hid (∀ W, Below w.heap.size w W → Calls Tryz.prog 66 #[vp] W (ResB W x S r)) := fun W hW => by
    refine (tellP_any s.pools vp W (hE.mono hW) ((Rd.of_owns (k := 3) (enc := encH) (fun _ => rfl) hd0 B.op).below hW) (by have := hI.p; omega) (fun q hq => by have hm := hI.pa q hq; exact ⟨hm.1, hm.2.1, hm.2.2.2.2⟩)).mono ?_
    rintro e w' ⟨v', rfl, o1, _, o3⟩
    rw [hr]
    exact ⟨⟨v', S, rfl, o1, (H.out.below hW).below o3, fun b q => .inl q, Chg.below o3⟩, o3⟩
  rw [← hr, hl]
  clear B hr hl hv
  go_enter Tryz.func35, Tryz.ntmps35
  go_wp2_with (go_at_call 66; refine (HC.out _ (by repeat' (first | with_reducible assumption | with_reducible exact Below.refl _ _ | with_reducible apply Below.drew | with_reducible apply below_drewN | with_reducible apply Below.setCell | with_reducible apply Below.alloc | omega | (simp; done) | (simp; omega)))).mono ?_; rintro e w1 R; obtain ⟨bt, nt, ct, rfl, hR, hfin⟩ := res_passB H.out R; replace hfin : Hid _ := hfin; clear R; have r0_1 : w1.cell? ⟨w.heap.size + 1, 0, none⟩ = some (.int .i64 0) := hR.cell 0; have r1_1 : w1.cell? ⟨w.heap.size + 1, 1, none⟩ = some (.slice none 0 0) := hR.cell 1; have g0_1 := hR.frozen 0; have g1_1 := hR.frozen 1; have z1_1 := hR.lt)
  obtain ⟨kk0, kk1⟩ := two_set hR (.int .i64 r.2.e) (.slice bt nt ct)
  exact bodyPost_ret (v := .agg #[.int .i64 r.2.e, .slice bt nt ct]) (by simp [results, Tryz.results35, go_sem, kk0, kk1]) rfl hfin.out

set_option maxRecDepth 100000 in
set_option maxHeartbeats 2000000 in
theorem do_9 (w : World) (x : Nat) (S : Nat → Prop) (s : Bk) (l : Ln) (hE : Env w) (hI : Inv s) (hL : LnOk l) (h : BkAt w x S s) (hG : ∀ b, S b → 10 ≤ b) (hZ : 10 ≤ w.heap.size) (hv : l.v = 9) :
    Calls Tryz.prog 35 #[.pointer (some ⟨x, 0, none⟩), .agg (lnC l)] w (ResB w x S ((s, doNets s l))) := by
  have H : Hid (BkAt w x S s) := h
  obtain ⟨vp, vn, vl, c, B⟩ := h
  have hx := B.blk.lt
  have x0 : w.cell? ⟨x, 0, none⟩ = some vp := B.blk.cell 0
  have hl : lnC l = #[.int .i64 9, .string l.t, .string l.o, .int .u32 l.a, .int .i64 l.n, .int .u32 l.d, .int .i64 l.g] := by unfold lnC; rw [hv]; rfl
  obtain ⟨r, hr⟩ : ∃ r : Bk × An, r = (s, doNets s l) := ⟨_, rfl⟩
  have HC : Hid (∀ W, Below w.heap.size w W → Calls Tryz.prog 67 #[.pointer (some ⟨x, 0, none⟩), .agg #[.int .i64 9, .string l.t, .string l.o, .int .u32 l.a, .int .i64 l.n, .int .u32 l.d, .int .i64 l.g]] W (ResB W x S r)) := fun W hW => by
    rw [hr, ← hl]
    exact tellSubnets_any W x S s l (hE.mono hW) hI hL (H.out.below hW)
  rw [← hr, hl]
  clear B hr hl hv
  go_enter Tryz.func35, Tryz.ntmps35
  go_wp2_with (go_at_call 67; refine (HC.out _ (by repeat' (first | with_reducible assumption | with_reducible exact Below.refl _ _ | with_reducible apply Below.drew | with_reducible apply below_drewN | with_reducible apply Below.setCell | with_reducible apply Below.alloc | omega | (simp; done) | (simp; omega)))).mono ?_; rintro e w1 R; obtain ⟨bt, nt, ct, rfl, hR, hfin⟩ := res_passB H.out R; replace hfin : Hid _ := hfin; clear R; have r0_1 : w1.cell? ⟨w.heap.size + 1, 0, none⟩ = some (.int .i64 0) := hR.cell 0; have r1_1 : w1.cell? ⟨w.heap.size + 1, 1, none⟩ = some (.slice none 0 0) := hR.cell 1; have g0_1 := hR.frozen 0; have g1_1 := hR.frozen 1; have z1_1 := hR.lt)
  obtain ⟨kk0, kk1⟩ := two_set hR (.int .i64 r.2.e) (.slice bt nt ct)
  exact bodyPost_ret (v := .agg #[.int .i64 r.2.e, .slice bt nt ct]) (by simp [results, Tryz.results35, go_sem, kk0, kk1]) rfl hfin.out

set_option maxRecDepth 100000 in
set_option maxHeartbeats 2000000 in
theorem do_10 (w : World) (x : Nat) (S : Nat → Prop) (s : Bk) (l : Ln) (hE : Env w) (hI : Inv s) (hL : LnOk l) (h : BkAt w x S s) (hG : ∀ b, S b → 10 ≤ b) (hZ : 10 ≤ w.heap.size) (hv : l.v = 10) :
    Calls Tryz.prog 35 #[.pointer (some ⟨x, 0, none⟩), .agg (lnC l)] w (ResB w x S ((s, doUsed s l))) := by
  have H : Hid (BkAt w x S s) := h
  obtain ⟨vp, vn, vl, c, B⟩ := h
  have hx := B.blk.lt
  have x0 : w.cell? ⟨x, 0, none⟩ = some vp := B.blk.cell 0
  have hl : lnC l = #[.int .i64 10, .string l.t, .string l.o, .int .u32 l.a, .int .i64 l.n, .int .u32 l.d, .int .i64 l.g] := by unfold lnC; rw [hv]; rfl
  obtain ⟨r, hr⟩ : ∃ r : Bk × An, r = (s, doUsed s l) := ⟨_, rfl⟩
  have HC : Hid (∀ W, Below w.heap.size w W → Calls Tryz.prog 68 #[.pointer (some ⟨x, 0, none⟩), .agg #[.int .i64 10, .string l.t, .string l.o, .int .u32 l.a, .int .i64 l.n, .int .u32 l.d, .int .i64 l.g]] W (ResB W x S r)) := fun W hW => by
    rw [hr, ← hl]
    exact tellLeases_any W x S s l (hE.mono hW) hI hL (H.out.below hW)
  rw [← hr, hl]
  clear B hr hl hv
  go_enter Tryz.func35, Tryz.ntmps35
  go_wp2_with (go_at_call 68; refine (HC.out _ (by repeat' (first | with_reducible assumption | with_reducible exact Below.refl _ _ | with_reducible apply Below.drew | with_reducible apply below_drewN | with_reducible apply Below.setCell | with_reducible apply Below.alloc | omega | (simp; done) | (simp; omega)))).mono ?_; rintro e w1 R; obtain ⟨bt, nt, ct, rfl, hR, hfin⟩ := res_passB H.out R; replace hfin : Hid _ := hfin; clear R; have r0_1 : w1.cell? ⟨w.heap.size + 1, 0, none⟩ = some (.int .i64 0) := hR.cell 0; have r1_1 : w1.cell? ⟨w.heap.size + 1, 1, none⟩ = some (.slice none 0 0) := hR.cell 1; have g0_1 := hR.frozen 0; have g1_1 := hR.frozen 1; have z1_1 := hR.lt)
  obtain ⟨kk0, kk1⟩ := two_set hR (.int .i64 r.2.e) (.slice bt nt ct)
  exact bodyPost_ret (v := .agg #[.int .i64 r.2.e, .slice bt nt ct]) (by simp [results, Tryz.results35, go_sem, kk0, kk1]) rfl hfin.out

theorem bookDo_any (w : World) (x : Nat) (S : Nat → Prop) (s : Bk) (l : Ln) (hE : Env w) (hI : Inv s) (hL : LnOk l) (h : BkAt w x S s) (hG : ∀ b, S b → 10 ≤ b) (hZ : 10 ≤ w.heap.size) (hv : l.v < 11) :
    Calls Tryz.prog 35 #[.pointer (some ⟨x, 0, none⟩), .agg (lnC l)] w (Res w x S (doLn s l)) := by
  have hc : l.v = 0 ∨ l.v = 1 ∨ l.v = 2 ∨ l.v = 3 ∨ l.v = 4 ∨ l.v = 5 ∨ l.v = 6 ∨ l.v = 7 ∨ l.v = 8 ∨ l.v = 9 ∨ l.v = 10 := by omega
  unfold doLn
  rcases hc with e | e | e | e | e | e | e | e | e | e | e <;> rw [e]
  · exact do_0 w x S s l hE hI hL h hG hZ e
  · exact do_1 w x S s l hE hI hL h hG hZ e
  · exact do_2 w x S s l hE hI hL h hG hZ e
  · exact do_3 w x S s l hE hI hL h hG hZ e
  · exact do_4 w x S s l hE hI hL h hG hZ e
  · exact do_5 w x S s l hE hI hL h hG hZ e
  · exact do_6 w x S s l hE hI hL h hG hZ e
  · exact do_7 w x S s l hE hI hL h hG hZ e
  · exact (do_8 w x S s l hE hI hL h hG hZ e).mono fun _ _ q => q.1
  · exact (do_9 w x S s l hE hI hL h hG hZ e).mono fun _ _ q => q.1
  · exact (do_10 w x S s l hE hI hL h hG hZ e).mono fun _ _ q => q.1
theorem bookAsk_any (w : World) (x : Nat) (S : Nat → Prop) (s : Bk) (l : Ln) (hE : Env w) (hI : Inv s) (hL : LnOk l) (h : BkAt w x S s) (hG : ∀ b, S b → 10 ≤ b) (hZ : 10 ≤ w.heap.size) (h8 : 8 ≤ l.v) (hv : l.v < 11) :
    Calls Tryz.prog 35 #[.pointer (some ⟨x, 0, none⟩), .agg (lnC l)] w (ResB w x S (doLn s l)) := by
  have hc : l.v = 8 ∨ l.v = 9 ∨ l.v = 10 := by omega
  unfold doLn
  rcases hc with e | e | e <;> rw [e]
  · exact do_8 w x S s l hE hI hL h hG hZ e
  · exact do_9 w x S s l hE hI hL h hG hZ e
  · exact do_10 w x S s l hE hI hL h hG hZ e
end Go.Proofs.YtlikdnmikdldfaaGreatDoor
namespace Go.Proofs.YtlikdnmikdldfaaGreatDoor
set_option linter.unusedVariables false
set_option linter.unusedSimpArgs false
theorem up_iff {α : Type} (f : α → Int) (d : α) (l : List α) : Up f d l ↔ l.Pairwise (fun a b => f a ≤ f b) := by
  rw [List.pairwise_iff_getElem]
  constructor
  · intro h i j hi hj hij
    have := h i j (by omega) hj
    simpa [List.getD_eq_getElem?_getD, List.getElem?_eq_getElem hi, List.getElem?_eq_getElem hj] using this
  · intro h i j hij hj
    have hi : i < l.length := by omega
    rcases Nat.lt_or_ge i j with q | q
    · have := h i j hi hj q
      simpa [List.getD_eq_getElem?_getD, List.getElem?_eq_getElem hi, List.getElem?_eq_getElem hj] using this
    · obtain rfl : i = j := by omega
      exact Int.le_refl _
theorem cut_up {α : Type} (f : α → Int) (a : Int) (l : List α) (h : l.Pairwise (fun a b => f a ≤ f b)) :
    (∀ y, y ∈ l.take (l.countP fun y => decide (f y < a)) → f y < a) ∧ ∀ y, y ∈ l.drop (l.countP fun y => decide (f y < a)) → a ≤ f y := by
  induction l with
  | nil => simp
  | cons x r ih =>
    have hr := List.pairwise_cons.1 h
    have ih := ih hr.2
    by_cases hx : f x < a
    · rw [List.countP_cons_of_pos (by simpa using hx)]
      refine ⟨fun y hy => ?_, fun y hy => ih.2 y (by simpa using hy)⟩
      rw [List.take_succ_cons] at hy
      rcases List.mem_cons.1 hy with rfl | hy
      · exact hx
      · exact ih.1 y hy
    · have h0 : (x :: r).countP (fun y => decide (f y < a)) = 0 := by
        rw [List.countP_eq_zero]
        intro y hy
        rcases List.mem_cons.1 hy with rfl | hy
        · simpa using hx
        · have := hr.1 y hy; simp; omega
      rw [h0]
      refine ⟨by simp, fun y hy => ?_⟩
      rcases List.mem_cons.1 (by simpa using hy) with rfl | hy
      · omega
      · have := hr.1 y hy; omega
theorem up_ins {α : Type} (f : α → Int) (d x : α) (l : List α) (h : Up f d l) : Up f d (l.take (l.countP fun y => decide (f y < f x)) ++ x :: l.drop (l.countP fun y => decide (f y < f x))) := by
  rw [up_iff] at h ⊢
  have hc := cut_up f (f x) l h
  refine List.pairwise_append.2 ⟨h.sublist (List.take_sublist _ _), List.pairwise_cons.2 ⟨fun y hy => hc.2 y hy, h.sublist (List.drop_sublist _ _)⟩, fun y hy z hz => ?_⟩
  have h1 := hc.1 y hy
  rcases List.mem_cons.1 hz with rfl | hz
  · omega
  · have := hc.2 z hz; omega
theorem del_sub {α : Type} (l : List α) (k : Nat) : List.Sublist (delAt l k) l := by
  unfold delAt
  have h := (List.Sublist.refl (l.take k)).append (show List.Sublist (l.drop (k + 1)) (l.drop k) by rw [← List.drop_drop]; exact List.drop_sublist _ _)
  rwa [List.take_append_drop] at h
theorem up_del {α : Type} (f : α → Int) (d : α) (l : List α) (k : Nat) (h : Up f d l) : Up f d (delAt l k) := by
  rw [up_iff] at h ⊢; exact h.sublist (del_sub l k)
theorem mem_ins {α : Type} {l : List α} {c : Nat} {x y : α} (h : y ∈ l.take c ++ x :: l.drop c) : y = x ∨ y ∈ l := by
  rcases List.mem_append.1 h with h | h
  · exact .inr (List.mem_of_mem_take h)
  · rcases List.mem_cons.1 h with h | h
    · exact .inl h
    · exact .inr (List.mem_of_mem_drop h)
theorem len_ins {α : Type} (l : List α) (c : Nat) (x : α) : (l.take c ++ x :: l.drop c).length = l.length + 1 := by simp; omega
theorem inv_pools {s : Bk} (h : Inv s) (x : Hd) (hn : ¬ 6 ≤ s.pools.length) (hx : ad x.a ∧ rt x.a x.n = true ∧ 8 ≤ x.n ∧ x.n ≤ 30 ∧ x.o.size ≤ 8) : Inv { s with pools := insH s.pools x } :=
  ⟨by have := len_ins s.pools (cntH s.pools x.a) x; simp only [insH]; omega, h.n, h.l, h.t, fun y hy => (mem_ins hy).elim (fun e => e ▸ hx) (h.pa y), h.na, h.la, up_ins Hd.a hd0 x s.pools h.pu, h.nu, h.lu⟩
theorem inv_nets {s : Bk} (h : Inv s) (x : Hd) (hn : ¬ 24 ≤ s.nets.length) (hx : ad x.a ∧ rt x.a x.n = true ∧ 22 ≤ x.n ∧ x.o.size ≤ 8) : Inv { s with nets := insH s.nets x } :=
  ⟨h.p, by have := len_ins s.nets (cntH s.nets x.a) x; simp only [insH]; omega, h.l, h.t, h.pa, fun y hy => (mem_ins hy).elim (fun e => e ▸ hx) (h.na y), h.la, h.pu, up_ins Hd.a hd0 x s.nets h.nu, h.lu⟩
theorem inv_leases {s : Bk} (h : Inv s) (x : Ls) (hn : ¬ 40 ≤ s.leases.length) (hx : ad x.a ∧ x.o.size ≤ 8) : Inv { s with leases := insL s.leases x } :=
  ⟨h.p, h.n, by have := len_ins s.leases (cntL s.leases x.a) x; simp only [insL]; omega, h.t, h.pa, h.na, fun y hy => (mem_ins hy).elim (fun e => e ▸ hx) (h.la y), h.pu, h.nu, up_ins Ls.a ls0 x s.leases h.lu⟩
theorem inv_pools_del {s : Bk} (h : Inv s) (k : Nat) : Inv { s with pools := delAt s.pools k } :=
  ⟨Nat.le_trans (del_sub _ _).length_le h.p, h.n, h.l, h.t, fun y hy => h.pa y ((del_sub _ _).subset hy), h.na, h.la, up_del _ _ _ _ h.pu, h.nu, h.lu⟩
theorem inv_nets_del {s : Bk} (h : Inv s) (k : Nat) : Inv { s with nets := delAt s.nets k } :=
  ⟨h.p, Nat.le_trans (del_sub _ _).length_le h.n, h.l, h.t, h.pa, fun y hy => h.na y ((del_sub _ _).subset hy), h.la, h.pu, up_del _ _ _ _ h.nu, h.lu⟩
theorem inv_leases_del {s : Bk} (h : Inv s) (k : Nat) : Inv { s with leases := delAt s.leases k } :=
  ⟨h.p, h.n, Nat.le_trans (del_sub _ _).length_le h.l, h.t, h.pa, h.na, fun y hy => h.la y ((del_sub _ _).subset hy), h.pu, h.nu, up_del _ _ _ _ h.lu⟩
theorem inv_net {s : Bk} {l : Ln} (hI : Inv s) (hL : LnOk l) : Inv (doNet s l).1 := by
  unfold doNet
  by_cases h1 : findH s.pools l.a l.n < 0
  · rw [if_pos h1]; exact hI
  · rw [if_neg h1]
    by_cases h2 : l.g < 22 ∨ l.g < l.n
    · rw [if_pos h2]; exact hI
    · rw [if_neg h2]
      have n1 : ¬ l.g < 22 := fun q => h2 (.inl q)
      have n2 : ¬ l.g < l.n := fun q => h2 (.inr q)
      rcases hb : best (frees 33 (netsOf s.nets l.a l.n) l.a l.n) l.g with _ | ⟨ba, bn⟩
      · exact hI
      · have hmem := best_mem _ none _ hb
        have hin : (ba, bn) ∈ frees 33 (netsOf s.nets l.a l.n) l.a l.n ∧ bn ≤ l.g := by
          rcases hmem with q | q
          · exact q
          · cases q
        have hrt := frees_rt (netsOf s.nets l.a l.n) (fun q hq => by have hm := hI.na q (List.mem_filter.1 hq).1; exact (rt_iff.1 hm.2.1).2.1) 33 l.a l.n hL.a hL.r _ hin.1
        have hba : ad ba ∧ rt ba l.g = true := by
          obtain ⟨g0, g1, g2⟩ := rt_iff.1 hrt.2
          exact ⟨hrt.1, rt_iff.2 ⟨by have := hin.2; omega, hL.g1, mod_down ba bn l.g hin.2 hL.g1 g2⟩⟩
        dsimp only
        by_cases h5 : 24 ≤ s.nets.length
        · rw [if_pos h5]; exact hI
        · rw [if_neg h5]; exact inv_nets hI _ h5 ⟨hba.1, hba.2, by dsimp only; omega, hL.o⟩
theorem inv_lease {s : Bk} {l : Ln} (hI : Inv s) (hL : LnOk l) : Inv (doLease s l).1 := by
  unfold doLease
  by_cases h1 : findH s.nets l.a l.n < 0
  · rw [if_pos h1]; exact hI
  · rw [if_neg h1]
    rcases hlf : least s.leases l.a l.n with _ | y
    · exact hI
    · dsimp only
      by_cases h5 : 40 ≤ s.leases.length
      · rw [if_pos h5]; exact hI
      · rw [if_neg h5]; exact inv_leases hI _ h5 ⟨least_ad hL.a hL.r hlf, hL.o⟩
theorem inv_ln {s : Bk} {l : Ln} (hI : Inv s) (hL : LnOk l) : Inv (doLn s l).1 := by
  unfold doLn
  split
  · unfold doPool
    split
    · exact hI
    · rename_i h1
      split
      · exact hI
      · split
        · exact hI
        · rename_i h3
          exact inv_pools hI _ h3 ⟨hL.a, hL.r, by dsimp only; omega, by dsimp only; omega, hL.o⟩
  · unfold doDrop
    repeat' split
    all_goals first | exact hI | exact inv_pools_del hI _
  · exact inv_net hI hL
  · unfold doBlock
    split
    · exact hI
    · rename_i h1
      split
      · exact hI
      · split
        · exact hI
        · split
          · exact hI
          · rename_i h4
            exact inv_nets hI _ h4 ⟨hL.a, hL.r, by dsimp only; omega, hL.o⟩
  · unfold doFree
    repeat' split
    all_goals first | exact hI | exact inv_nets_del hI _
  · exact inv_lease hI hL
  · unfold doTake
    split
    · exact hI
    · split
      · exact hI
      · split
        · exact hI
        · split
          · exact hI
          · rename_i h4
            exact inv_leases hI _ h4 ⟨hL.d, hL.o⟩
  · unfold doGive
    repeat' split
    all_goals first | exact hI | exact inv_leases_del hI _
  all_goals exact hI
end Go.Proofs.YtlikdnmikdldfaaGreatDoor
namespace Go.Proofs.YtlikdnmikdldfaaGreatDoor
set_option linter.unusedVariables false
set_option linter.unusedSimpArgs false
theorem isName_size {w : List UInt8} (h : isName w = true) : (⟨w.toArray⟩ : ByteArray).size ≤ 8 := by
  unfold isName at h
  simp only [Bool.and_eq_true, decide_eq_true_eq] at h
  have h2 := h.1.2
  show w.toArray.size ≤ 8
  simpa using h2
theorem rdPart_ok {l l' : Ln} {p : Nat} {w : List UInt8} (hL : LnOk l) (h : rdPart l p w = some l') : LnOk l' ∧ l'.v = l.v := by
  unfold rdPart at h
  split at h
  · split at h
    · cases h; exact ⟨⟨hL.a, hL.d, hL.r, hL.g0, hL.g1, hL.o⟩, rfl⟩
    · cases h
  · split at h
    · split at h
      · rename_i hn
        cases h; exact ⟨⟨hL.a, hL.d, hL.r, hL.g0, hL.g1, isName_size hn⟩, rfl⟩
      · cases h
    · split at h
      · split at h
        · rename_i b e
          cases h
          have hb := rd_text (a := b.1) (n := b.2) e
          exact ⟨⟨⟨hb.2.2.1, hb.2.2.2.1⟩, hL.d, hb.2.1, hL.g0, hL.g1, hL.o⟩, rfl⟩
        · cases h
      · split at h
        · split at h
          · rename_i d e
            cases h
            have hb := addr_lt e
            exact ⟨⟨hL.a, ⟨by dsimp only; omega, by dsimp only; omega⟩, hL.r, hL.g0, hL.g1, hL.o⟩, rfl⟩
          · cases h
        · split at h
          · split at h
            · rename_i g e
              cases h
              have hb := (num_some.1 e).1
              exact ⟨⟨hL.a, hL.d, hL.r, by dsimp only; omega, by dsimp only; omega, hL.o⟩, rfl⟩
            · cases h
          · cases h
theorem rdParts_ok : ∀ (ps : List Nat) (ws : List (List UInt8)) (l l' : Ln), LnOk l → rdParts l ps ws = some l' → LnOk l' ∧ l'.v = l.v
  | [], [], l, l', hL, h => by simp [rdParts] at h; subst h; exact ⟨hL, rfl⟩
  | [], _ :: _, l, l', hL, h => by simp [rdParts] at h
  | _ :: _, [], l, l', hL, h => by simp [rdParts] at h
  | p :: ps, w :: ws, l, l', hL, h => by
    rw [rdParts] at h
    split at h
    · rename_i l2 e
      have h1 := rdPart_ok hL e
      have h2 := rdParts_ok ps ws l2 l' h1.1 h
      exact ⟨h2.1, h2.2.trans h1.2⟩
    · cases h
theorem ln0_ok (v : Nat) : LnOk (ln0 v) := ⟨by unfold ln0 ad; dsimp only; omega, by unfold ln0 ad; dsimp only; omega, rt_iff.2 ⟨by simp [ln0], by simp [ln0], by simp [ln0]⟩, by simp [ln0], by simp [ln0], Nat.zero_le 8⟩
theorem rdLine_ok {s : List UInt8} {l : Ln} (h : rdLine s = some l) : LnOk l ∧ l.v < 11 := by
  unfold rdLine at h
  split at h
  · split at h
    · rename_i w ws e
      split at h
      · cases h
      · rename_i hv
        have h1 := rdParts_ok _ _ _ _ (ln0_ok _) h
        refine ⟨h1.1, ?_⟩
        rw [h1.2]
        show (fi (fun v => v == w) verbT).toNat < 11
        rcases fi_cases (fun v => v == w) verbT [] with ⟨q, _⟩ | ⟨k, hk, q, _, _⟩
        · rw [q]; decide
        · rw [q]; exact hk
    · cases h
  · cases h
end Go.Proofs.YtlikdnmikdldfaaGreatDoor
namespace Go.Proofs.YtlikdnmikdldfaaGreatDoor
open Go.Conc Go.ChangeShapes Go.WideShapes Go.ChangeAt Go.RowKit
set_option linter.unusedVariables false
set_option linter.unusedSimpArgs false
set_option maxRecDepth 100000 in
set_option maxHeartbeats 400000 in
theorem tnew_any (w : World) : Calls Tryz.prog 47 #[] w fun e w' => ∃ c, e = .returned (.agg #[.chan (some c)]) ∧ Ch w' c [] ∧ w.heap.size ≤ c ∧ Below w.heap.size w w' := by
  obtain ⟨i, hi, hib⟩ : ∃ i, Tryz.prog.info? 132 = some i ∧ i.bytes = 48 := by
    have h : (Tryz.prog.info? 132).map (·.bytes) = some 48 := by kernel_rfl
    rcases e : Tryz.prog.info? 132 with _ | i
    · rw [e] at h; cases h
    · rw [e] at h; exact ⟨i, rfl, by simpa using h⟩
  have hmk : ∀ w : World, (Instr.makeChan 88 (.int .i64 8)).run Tryz.prog w = .ok (.chan (some w.heap.size)) (w.alloc (.chan 8 #[] false 0 0 false)) := fun w => run_makeChan (P := Tryz.prog) (w := w) Tryz.underlying88 hi .i64 8 (by decide) (by rw [hib]; decide)
  clear hi hib
  go_enter Tryz.func47, Tryz.ntmps47
  go_wp2
  go_returns
  have hn := heap_alloc_new (w.alloc (.cells #[.chan (some (w.heap.size + 1))] 90)) (.chan 8 #[] false 0 0 false)
  rw [show (w.alloc (.cells #[.chan (some (w.heap.size + 1))] 90)).heap.size = w.heap.size + 1 by simp] at hn
  exact ⟨w.heap.size + 1, rfl, ⟨0, 0, hn⟩, by omega, (by repeat' (first | with_reducible assumption | with_reducible exact Below.refl _ _ | with_reducible apply Below.drew | with_reducible apply below_drewN | with_reducible apply Below.setCell | with_reducible apply Below.alloc | omega | (simp; done) | (simp; omega)))⟩
theorem isCmd_any (v : Int) (w : World) : Calls Tryz.prog 33 #[.int .i64 v] w fun e w' => e = .returned (.bool (decide (v ≤ 7))) ∧ Below w.heap.size w w' := by
  go_enter Tryz.func33, Tryz.ntmps33
  go_wp2
  go_ret
  exact ⟨rfl, Below.refl _ _⟩
/-- Refuse's answer is written -/
theorem reftext_any (k : Nat) (hk : k < 14) (w : World) (E : EnvT w) : Calls Tryz.prog 32 #[.agg #[.int .i64 k, .slice none 0 0]] w fun e w' => e = .returned (.string ⟨(anText (ref k)).toArray⟩) ∧ Below w.heap.size w w' :=
  atext_any (ref k) hk (by simp [ref]) (by simp [ref]) (.slice none 0 0) w E (rd_nil _ _ _ _)
set_option maxRecDepth 100000 in
set_option maxHeartbeats 400000 in
theorem again_any (x : Tk) (line r : ByteArray) (w : World) (E : Hid (EnvT w)) (HR : Hid (r = if x.l ≠ line then (⟨(anText (ref 3)).toArray⟩ : ByteArray) else x.r)) :
    Calls Tryz.prog 56 #[vT x, .string line] w fun e w' => e = .returned (.string r) ∧ Below w.heap.size w w' := by
  obtain ⟨xt, xl, xr⟩ := x
  unfold vT
  have HT : Hid (∀ W, Below w.heap.size w W → Calls Tryz.prog 32 #[.agg #[.int .i64 3, .slice none 0 0]] W fun e w' => e = .returned (.string ⟨(anText (ref 3)).toArray⟩) ∧ Below W.heap.size W w') := fun W hW => reftext_any 3 (by omega) W (E.out.mono hW)
  have HF : Hid (∀ W, Calls Tryz.prog 31 #[.int .i64 3] W fun e w' => e = .returned (.agg #[.int .i64 3, .slice none 0 0]) ∧ Below W.heap.size W w') := fun W => refuse_any 3 W
  generalize (⟨(anText (ref 3)).toArray⟩ : ByteArray) = t3 at HR HT
  by_cases h : xl = line
  · have hq := (Lib.bytes_beq_iff xl line).2 h
    have HR2 : Hid (r = xr) := by have := HR.out; rw [if_neg (by simp [h])] at this; exact this
    clear h HR
    go_enter Tryz.func56, Tryz.ntmps56
    go_wp2
    go_ret
    exact ⟨by rw [HR2.out]; rfl, (by repeat' (first | with_reducible assumption | with_reducible exact Below.refl _ _ | with_reducible apply Below.drew | with_reducible apply below_drewN | with_reducible apply Below.setCell | with_reducible apply Below.alloc | omega | (simp; done) | (simp; omega)))⟩
  · have hq := (Lib.bytes_beq_false_iff xl line).2 h
    have HR2 : Hid (r = t3) := by have := HR.out; rw [if_pos (by simp [h])] at this; exact this
    clear h HR
    go_enter Tryz.func56, Tryz.ntmps56
    go_wp2_with (first | (go_at_call 31; refine (HF.out _).mono ?_; rintro e w1 ⟨rfl, hq1⟩; have hb1 : Hid (Below w.heap.size w w1) := Below.trans (B := w.heap.size) (a := w) (by repeat' (first | with_reducible assumption | with_reducible exact Below.refl _ _ | with_reducible apply Below.drew | with_reducible apply below_drewN | with_reducible apply Below.setCell | with_reducible apply Below.alloc | omega | (simp; done) | (simp; omega))) (hq1.mono (by first | omega | (simp; done) | (simp; omega))); clear hq1) | (go_at_call 32; refine (HT.out _ hb1.out).mono ?_; rintro e w2 ⟨rfl, hq2⟩; have hb2 : Hid (Below w.heap.size w w2) := hb1.out.trans (hq2.mono hb1.out.size); clear hq2))
    go_ret
    exact ⟨by rw [HR2.out]; rfl, hb2.out⟩
set_option maxRecDepth 100000 in
set_option maxHeartbeats 400000 in
theorem open_any (d : Value) (w : World) : Calls Tryz.prog 26 #[d] w fun e w' => ∃ x S, e = .returned (.tuple #[.pointer (some ⟨x, 0, none⟩), .int .i64 0]) ∧ BkAt w' x S bk0 ∧ (∀ b, S b → w.heap.size ≤ b) ∧ Below w.heap.size w w' := by
  have HN : Hid (∀ W, Calls Tryz.prog 47 #[] W fun e w' => ∃ c, e = .returned (.agg #[.chan (some c)]) ∧ Ch w' c [] ∧ W.heap.size ≤ c ∧ Below W.heap.size W w') := fun W => tnew_any W
  go_enter Tryz.func26, Tryz.ntmps26
  go_wp2_with (go_at_call 47; refine (HN.out _).mono ?_; rintro e w1 ⟨c, rfl, hch, hc, hq1⟩)
  have hz1 := hq1.size
  have hcl := hch.lt
  have hB : Below w1.heap.size w1 (w1.alloc (.cells #[.slice none 0 0, .slice none 0 0, .slice none 0 0, .chan (some c)] 92)) := (by repeat' (first | with_reducible assumption | with_reducible exact Below.refl _ _ | with_reducible apply Below.drew | with_reducible apply below_drewN | with_reducible apply Below.setCell | with_reducible apply Below.alloc | omega | (simp; done) | (simp; omega)))
  have hfin : ∃ x S, Ending.returned (Value.tuple #[.pointer (some ⟨w1.heap.size, 0, none⟩), .int .i64 0]) = Ending.returned (.tuple #[.pointer (some ⟨x, 0, none⟩), .int .i64 0]) ∧ BkAt (w1.alloc (.cells #[.slice none 0 0, .slice none 0 0, .slice none 0 0, .chan (some c)] 92)) x S bk0 ∧ (∀ b, S b → w.heap.size ≤ b) ∧ Below w.heap.size w (w1.alloc (.cells #[.slice none 0 0, .slice none 0 0, .slice none 0 0, .chan (some c)] 92)) := by
    refine ⟨w1.heap.size, fun b => b = w1.heap.size ∨ b = c, rfl, ⟨.slice none 0 0, .slice none 0 0, .slice none 0 0, c, ?_⟩, ?_, (by repeat' (first | with_reducible assumption | with_reducible exact Below.refl _ _ | with_reducible apply Below.drew | with_reducible apply below_drewN | with_reducible apply Below.setCell | with_reducible apply Below.alloc | omega | (simp; done) | (simp; omega)))⟩
    · have hsz : ∀ b, (b = w1.heap.size ∨ b = c) → b < (w1.alloc (.cells #[.slice none 0 0, .slice none 0 0, .slice none 0 0, .chan (some c)] 92)).heap.size := fun b e => by
        have := hB.size
        rcases e with e | e
        · rw [e]; simp
        · rw [e]; omega
      exact { blk := Blk.new w1 _ _, ch := hch.same (hB.block c hcl), op := ⟨rfl, .inl ⟨rfl, rfl⟩⟩, on := ⟨rfl, .inl ⟨rfl, rfl⟩⟩, ol := ⟨rfl, .inl ⟨rfl, rfl⟩⟩, sx := .inl rfl, sc := .inr rfl, sp := fun b e => (by cases e), sn := fun b e => (by cases e), sl := fun b e => (by cases e), sz := hsz }
    · rintro b (rfl | rfl) <;> omega
  exact bodyPost_ret (v := .tuple #[.pointer (some ⟨w1.heap.size, 0, none⟩), .int .i64 0]) (by simp [results, Tryz.results26]) rfl hfin
end Go.Proofs.YtlikdnmikdldfaaGreatDoor
namespace Go.Proofs.YtlikdnmikdldfaaGreatDoor
open Go.Conc Go.ChangeShapes Go.WideShapes Go.ChangeAt Go.RowKit
set_option linter.unusedVariables false
set_option linter.unusedSimpArgs false

theorem new_at {w0 : World} {n : Nat} {cs : Array Value} {t : TypeId} (h : w0.heap.size = n) : Blk (w0.alloc (.cells cs t)) n cs t := by rw [← h]; exact Blk.new w0 cs t
/-- what of memory a command leans on: the book, and the line's own copy -/
def BkC (W : World) (x : Nat) (S : Nat → Prop) (c : Nat) (s : Bk) : Prop := ∃ vp vn vl, BA W x S vp vn vl c s
theorem BkC.bk {W : World} {x : Nat} {S : Nat → Prop} {c : Nat} {s : Bk} (h : BkC W x S c s) : BkAt W x S s := by obtain ⟨vp, vn, vl, B⟩ := h; exact ⟨vp, vn, vl, c, B⟩
theorem BkC.below {w w' : World} {x : Nat} {S : Nat → Prop} {c : Nat} {s : Bk} (h : BkC w x S c s) (hb : Below w.heap.size w w') : BkC w' x S c s := by obtain ⟨vp, vn, vl, B⟩ := h; exact ⟨vp, vn, vl, B.below hb⟩
def Adm (w : World) (x : Nat) (S : Nat → Prop) (c : Nat) (s : Bk) (l : Ln) (W : World) : Prop := BkC W x S c s ∧ Chg S w W ∧ Blk W w.heap.size (lnC l) 74
theorem BkAt.lt {w : World} {x : Nat} {S : Nat → Prop} {s : Bk} (h : BkAt w x S s) : ∀ b, S b → b < w.heap.size := by obtain ⟨_, _, _, _, B⟩ := h; exact B.sz
theorem Adm.below {w W W' : World} {x : Nat} {S : Nat → Prop} {c : Nat} {s : Bk} {l : Ln} (h : Adm w x S c s l W) (hb : Below W.heap.size W W') : Adm w x S c s l W' :=
  ⟨h.1.below hb, h.2.1.trans (Chg.below (S := S) hb) (fun b q => .inl q), h.2.2.below hb⟩
theorem Adm.alloc {w W : World} {x : Nat} {S : Nat → Prop} {c : Nat} {s : Bk} {l : Ln} {o : Obj} (h : Adm w x S c s l W) : Adm w x S c s l (W.alloc o) := h.below (Below.alloc (Below.refl _ _) (Nat.le_refl _) _)
theorem Adm.drew {w W : World} {x : Nat} {S : Nat → Prop} {c : Nat} {s : Bk} {l : Ln} (h : Adm w x S c s l W) : Adm w x S c s l W.drew := h.below (Below.drew (Below.refl _ _))
theorem Adm.set {w W : World} {x : Nat} {S : Nat → Prop} {c : Nat} {s : Bk} {l : Ln} (hS : ∀ b, S b → b < w.heap.size) {g i : Nat} {v : Value} (hg : w.heap.size < g) (h : Adm w x S c s l W) : Adm w x S c s l (W.setCell ⟨g, i, none⟩ v) := by
  have s1 := sets_other g [v] i W
  have hz : (W.setCell ⟨g, i, none⟩ v).heap.size = W.heap.size := s1.2.2.2.1
  have hb : ∀ k, k ≠ g → (W.setCell ⟨g, i, none⟩ v).heap[k]? = W.heap[k]? := s1.2.2.2.2
  refine ⟨?_, h.2.1.sets g i [v] (.inr (by omega)), (hb _ (by omega)).trans h.2.2⟩
  obtain ⟨vp, vn, vl, B⟩ := h.1
  exact ⟨vp, vn, vl, B.same (fun b q => hb b (by have := hS b q; omega)) (Nat.le_of_eq hz.symm)⟩
/-- the table was gone through, or has a command more -/
theorem BA.toks {w w' : World} {x : Nat} {S : Nat → Prop} {vp vn vl : Value} {c : Nat} {s : Bk} (h : BA w x S vp vn vl c s) (T : List Tk) (hch : Ch w' c T) (hg : w.grownBy w' (some c)) : BA w' x S vp vn vl c { s with toks := T } := by
  obtain ⟨a1, a2, a3⟩ := h.apart
  have hxc := h.xc
  have hx := h.blk.lt
  exact { blk := (hg.block x hx (by simp; omega)).trans h.blk, ch := hch, op := owns_same h.op (fun b e => hg.block b (h.sz b (h.sp b e)) (by have := (a1 b e).2.1; simp; omega)), on := owns_same h.on (fun b e => hg.block b (h.sz b (h.sn b e)) (by have := (a2 b e).2.1; simp; omega)), ol := owns_same h.ol (fun b e => hg.block b (h.sz b (h.sl b e)) (by have := (a3 b e).2.1; simp; omega)), sx := h.sx, sc := h.sc, sp := h.sp, sn := h.sn, sl := h.sl, sz := fun b q => Nat.lt_of_lt_of_le (h.sz b q) hg.size }
theorem three_set {w : World} {g : Nat} {t : TypeId} {u0 u1 u2 : Value} (h : Blk w g #[u0, u1, u2] t) (a0 a1 a2 : Value) : Blk (((w.setCell ⟨g, 0, none⟩ a0).setCell ⟨g, 1, none⟩ a1).setCell ⟨g, 2, none⟩ a2) g #[a0, a1, a2] t := by
  have h0 : Blk (w.setCell ⟨g, 0, none⟩ a0) g #[a0, u1, u2] t := (by simpa using h.set 0 a0)
  have h1 : Blk ((w.setCell ⟨g, 0, none⟩ a0).setCell ⟨g, 1, none⟩ a1) g #[a0, a1, u2] t := (by simpa using h0.set 1 a1)
  simpa using h1.set 2 a2
def DoR (w : World) (x : Nat) (S : Nat → Prop) (r : Bk × ByteArray) (e : Ending) (w' : World) : Prop := ∃ S', e = .returned (.string r.2) ∧ BkAt w' x S' r.1 ∧ (∀ b, S' b → S b ∨ w.heap.size ≤ b) ∧ Chg S w w'

set_option maxRecDepth 100000 in
set_option maxHeartbeats 1000000 in
theorem cmd_found (w : World) (x c : Nat) (S : Nat → Prop) (s : Bk) (l : Ln) (line : ByteArray) (tk : Tk) (r : ByteArray) (hx : x < w.heap.size) (hS : ∀ b, S b → b < w.heap.size) (H0 : Hid (BkC w x S c s)) (HX : Hid (∀ W, Adm w x S c s l W → W.cell? ⟨x, 3, none⟩ = some (.chan (some c))))
    (HF : Hid (∀ W, Adm w x S c s l W → Calls Tryz.prog 55 #[.agg #[.chan (some c)], .string l.t] W fun e w1 => e = .returned (.tuple #[.agg #[.string tk.t, .string tk.l, .string tk.r], .bool true]) ∧ Adm w x S c s l w1 ∧ ∀ g cs t, Blk W g cs t → w.heap.size ≤ g → Blk w1 g cs t))
    (HG : Hid (∀ W, Adm w x S c s l W → Calls Tryz.prog 56 #[.agg #[.string tk.t, .string tk.l, .string tk.r], .string line] W fun e w' => e = .returned (.string r) ∧ Below W.heap.size W w')) :
    Calls Tryz.prog 34 #[.pointer (some ⟨x, 0, none⟩), .agg (lnC l), .string line] w (DoR w x S (s, r)) := by
  have hA0 : Adm w x S c s l (w.alloc (.cells (lnC l) 74)) := ⟨H0.out.below (by repeat' (first | with_reducible assumption | with_reducible exact Below.refl _ _ | with_reducible apply Below.drew | with_reducible apply below_drewN | with_reducible apply Below.setCell | with_reducible apply Below.alloc | omega | (simp; done) | (simp; omega))), Chg.below (by repeat' (first | with_reducible assumption | with_reducible exact Below.refl _ _ | with_reducible apply Below.drew | with_reducible apply below_drewN | with_reducible apply Below.setCell | with_reducible apply Below.alloc | omega | (simp; done) | (simp; omega))), Blk.new w _ _⟩
  have HA0 : Hid (Adm w x S c s l (w.alloc (.cells #[.int .i64 l.v, .string l.t, .string l.o, .int .u32 l.a, .int .i64 l.n, .int .u32 l.d, .int .i64 l.g] 74))) := hA0
  have x3 : w.cell? ⟨x, 3, none⟩ = some (.chan (some c)) := by
    have h := HX.out _ hA0
    rwa [World.cell?_alloc_past _ _ _ hx] at h
  clear hA0
  have hxa : ¬ (x = w.heap.size + 1) := by omega
  have hxb : ¬ (w.heap.size + 1 = x) := by omega
  have hxc : ¬ (x = w.heap.size) := by omega
  have hxd : ¬ (w.heap.size = x) := by omega
  show Calls _ _ #[.pointer (some ⟨x, 0, none⟩), .agg #[.int .i64 l.v, .string l.t, .string l.o, .int .u32 l.a, .int .i64 l.n, .int .u32 l.d, .int .i64 l.g], .string line] _ _
  go_enter Tryz.func34, Tryz.ntmps34
  go_wp2
  rename_i K1 a1 K0 a0
  have HM : Hid (∀ (t1 t3 t5 t6 t9 t10 t11 t12 t13 t14 t15 t16 t17 t18 t19 t20 t21 t22 t23 t24 t25 t26 t27 t28 t29 t30 t31 t32 t33 t34 t35 t36 t37 t38 t39 t40 t41 t42 t43 t44 : Value) (D : Nat) (W : World), Adm w x S c s l W → Blk W D #[.string tk.t, .string tk.l, .string tk.r] 132 → K0 ⟨#[.pointer (some ⟨x, 0, none⟩), t1, .string line, t3, .pointer (some ⟨w.heap.size, 0, none⟩), t5, t6, .pointer (some ⟨D, 0, none⟩), .bool true, t9, t10, t11, t12, t13, t14, t15, t16, t17, t18, t19, t20, t21, t22, t23, t24, t25, t26, t27, t28, t29, t30, t31, t32, t33, t34, t35, t36, t37, t38, t39, t40, t41, t42, t43, t44], []⟩ W) := by
    intro t1 t3 t5 t6 t9 t10 t11 t12 t13 t14 t15 t16 t17 t18 t19 t20 t21 t22 t23 t24 t25 t26 t27 t28 t29 t30 t31 t32 t33 t34 t35 t36 t37 t38 t39 t40 t41 t42 t43 t44 D W hA hD
    have HA : Hid (Adm w x S c s l W) := hA
    have d0 := hD.cell 0
    have d1 := hD.cell 1
    have d2 := hD.cell 2
    clear hA hD HA0 HF HX x3
    refine a0 _ _ ?_
    go_wp2_with (go_at_call 56; refine (HG.out _ HA.out).mono ?_; rintro e w3 ⟨rfl, hq3⟩; replace hq3 : Hid (Below W.heap.size W w3) := hq3)
    go_ret
    have h3 := HA.out.below hq3.out
    exact ⟨S, rfl, h3.1.bk, fun b q => .inl q, h3.2.1⟩
  replace HM : Hid _ := HM
  clear a0 a1
  go_region_held3 (fun w' => w'.cell? ⟨x, 3, none⟩ = some (.chan (some c)) ∧ w'.cell? ⟨w.heap.size, 1, none⟩ = some (.string l.t)) (go_keep) (first | (go_at_call 55; refine (HF.out _ (by repeat' (first | exact HA0.out | apply Adm.alloc | apply Adm.drew))).mono ?_; rintro e w1 ⟨rfl, HA1, K1⟩; replace HA1 : Hid (Adm w x S c s l w1) := HA1; have e1 : w1.cell? ⟨x, 3, none⟩ = some (.chan (some c)) := HX.out w1 HA1.out; have e2 : w1.cell? ⟨w.heap.size, 1, none⟩ = some (.string l.t) := HA1.out.2.2.cell 1; have DB : Hid (Blk w1 (w.heap.size + 1) #[.string ⟨#[]⟩, .string ⟨#[]⟩, .string ⟨#[]⟩] 132) := K1 _ _ _ (new_at (by simp)) (by omega); clear K1; have d0 := DB.out.cell 0; have d1 := DB.out.cell 1; have d2 := DB.out.cell 2; have g0 := DB.out.frozen 0; have g1 := DB.out.frozen 1; have g2 := DB.out.frozen 2; have dz := DB.out.lt) | (go_at_call 55; refine (HF.out _ (by repeat' (first | exact HA0.out | apply Adm.alloc | apply Adm.drew))).mono ?_; rintro e w1 ⟨rfl, HA1, K1⟩; replace HA1 : Hid (Adm w x S c s l w1) := HA1; have e1 : w1.cell? ⟨x, 3, none⟩ = some (.chan (some c)) := HX.out w1 HA1.out; have e2 : w1.cell? ⟨w.heap.size, 1, none⟩ = some (.string l.t) := HA1.out.2.2.cell 1; clear K1))
  all_goals first
    | exact HM.out _ _ _ _ _ _ _ _ _ _ _ _ _ _ _ _ _ _ _ _ _ _ _ _ _ _ _ _ _ _ _ _ _ _ _ _ _ _ _ _ _ _ (by repeat' (first | with_reducible exact HA1.out | with_reducible apply Adm.alloc | with_reducible apply Adm.drew)) (Blk.new w1 _ _)
    | exact HM.out _ _ _ _ _ _ _ _ _ _ _ _ _ _ _ _ _ _ _ _ _ _ _ _ _ _ _ _ _ _ _ _ _ _ _ _ _ _ _ _ (w.heap.size + 1) _ (by repeat' (first | with_reducible exact HA1.out | with_reducible apply Adm.alloc | with_reducible apply Adm.drew | (with_reducible apply Adm.set hS (by omega)))) (three_set DB.out _ _ _)
    | (trace_state; sorry)

/-- behind the doing: the book, the line's copy, what is told -/
def AdmX (w Wc : World) (x : Nat) (S : Nat → Prop) (l : Ln) (r : Bk × An) (v : Value) (W : World) : Prop := ∃ S', BkAt W x S' r.1 ∧ (∀ b, S' b → S b ∨ Wc.heap.size ≤ b) ∧ Chg S w W ∧ Blk W w.heap.size (lnC l) 74 ∧ Rd 1 encS ⟨#[]⟩ W v r.2.s
def Adm2 (w : World) (x : Nat) (S : Nat → Prop) (l : Ln) (r : Bk × An) (v : Value) (W : World) : Prop := ∃ S', BkAt W x S' r.1 ∧ (∀ b, S' b → S b ∨ w.heap.size < b) ∧ Chg S w W ∧ Blk W w.heap.size (lnC l) 74 ∧ Rd 1 encS ⟨#[]⟩ W v r.2.s
theorem AdmX.late {w Wc W W' : World} {x : Nat} {S : Nat → Prop} {l : Ln} {r : Bk × An} {v : Value} (h : AdmX w Wc x S l r v W) (hz : w.heap.size < Wc.heap.size) (hb : Below W.heap.size W W') : Adm2 w x S l r v W' := by
  obtain ⟨S', h1, h2, h3, h4, h5⟩ := h
  exact ⟨S', h1.below hb, fun b q => (h2 b q).imp id (fun k => by omega), h3.trans (Chg.below (S := S) hb) (fun b q => .inl q), h4.below hb, h5.below hb⟩
theorem AdmX.early {w Wc W : World} {x : Nat} {S : Nat → Prop} {l : Ln} {r : Bk × An} {v : Value} {A : Nat} {t : TypeId} (hS : ∀ b, S b → b < w.heap.size) (h : AdmX w Wc x S l r v W) (hz : w.heap.size < A) (hA : A < Wc.heap.size) (hB : Blk W A #[.int .i64 0, .slice none 0 0] t) (a b : Value) : Adm2 w x S l r v ((W.setCell ⟨A, 0, none⟩ a).setCell ⟨A, 1, none⟩ b) := by
  obtain ⟨S', h1, h2, h3, h4, h5⟩ := h
  have s1 := sets_other A [a, b] 0 W
  have hzz : ((W.setCell ⟨A, 0, none⟩ a).setCell ⟨A, 1, none⟩ b).heap.size = W.heap.size := s1.2.2.2.1
  have hbb : ∀ k, k ≠ A → ((W.setCell ⟨A, 0, none⟩ a).setCell ⟨A, 1, none⟩ b).heap[k]? = W.heap[k]? := s1.2.2.2.2
  have hn : ∀ k, S' k → k ≠ A := fun k q => by
    rcases h2 k q with e | e
    · have := hS k e; omega
    · omega
  refine ⟨S', ?_, fun k q => (h2 k q).imp id (fun e => by omega), h3.sets A 0 [a, b] (.inr (by omega)), (hbb _ (by omega)).trans h4, ?_⟩
  · obtain ⟨vp, vn, vl, c, B⟩ := h1
    exact ⟨vp, vn, vl, c, B.same (fun k q => hbb k (hn k q)) (Nat.le_of_eq hzz.symm)⟩
  · obtain ⟨bb, cap, rfl, k1, k2, k3⟩ := h5
    refine ⟨bb, cap, rfl, k1, k2, fun hne => ?_⟩
    obtain ⟨g, e2, hg, hcc⟩ := k3 hne
    have hgn : g ≠ A := fun q => by
      have c0 := hcc 0 (List.length_pos_iff.2 hne) 0 _ rfl
      rw [q] at c0
      have c1 := hB.cell 0
      rw [show (⟨A, 0 * 1 + 0, none⟩ : Addr) = ⟨A, 0, none⟩ from rfl, c1] at c0
      cases c0
    exact ⟨g, e2, by rw [hzz]; exact hg, fun j hj i u hu => (World.cell?_of_block (a := ⟨g, j * 1 + i, none⟩) (hbb g hgn)).trans (hcc j hj i u hu)⟩
theorem two_setB {w : World} {g : Nat} {t : TypeId} {u0 u1 : Value} (h : Blk w g #[u0, u1] t) (a0 a1 : Value) : Blk ((w.setCell ⟨g, 0, none⟩ a0).setCell ⟨g, 1, none⟩ a1) g #[a0, a1] t := by
  have h0 : Blk (w.setCell ⟨g, 0, none⟩ a0) g #[a0, u1] t := (by simpa using h.set 0 a0)
  simpa using h0.set 1 a1
end Go.Proofs.YtlikdnmikdldfaaGreatDoor
namespace Go.Proofs.YtlikdnmikdldfaaGreatDoor
open Go.Conc Go.ChangeShapes Go.WideShapes Go.ChangeAt Go.RowKit
set_option linter.unusedVariables false
set_option linter.unusedSimpArgs false
theorem AdmX.blk {w Wc : World} {x : Nat} {S : Nat → Prop} {l : Ln} {r : Bk × An} {v : Value} {W : World} (h : AdmX w Wc x S l r v W) : Blk W w.heap.size (lnC l) 74 := by obtain ⟨_, _, _, _, h, _⟩ := h; exact h

set_option maxRecDepth 100000 in
set_option maxHeartbeats 2000000 in
theorem cmd_refused (w : World) (x c : Nat) (S : Nat → Prop) (s : Bk) (l : Ln) (line : ByteArray) (tk : Tk) (r : Bk × An) (text : ByteArray) (he : ¬ r.2.e = 0) (hx : x < w.heap.size) (hS : ∀ b, S b → b < w.heap.size) (H0 : Hid (BkC w x S c s)) (HX : Hid (∀ W, Adm w x S c s l W → W.cell? ⟨x, 3, none⟩ = some (.chan (some c))))
    (HF : Hid (∀ W, Adm w x S c s l W → Calls Tryz.prog 55 #[.agg #[.chan (some c)], .string l.t] W fun e w1 => e = .returned (.tuple #[.agg #[.string tk.t, .string tk.l, .string tk.r], .bool false]) ∧ Adm w x S c s l w1 ∧ ∀ g cs t, Blk W g cs t → w.heap.size ≤ g → Blk w1 g cs t))
    (HD : Hid (∀ W, Adm w x S c s l W → Calls Tryz.prog 35 #[.pointer (some ⟨x, 0, none⟩), .agg #[.int .i64 l.v, .string l.t, .string l.o, .int .u32 l.a, .int .i64 l.n, .int .u32 l.d, .int .i64 l.g]] W fun e w2 => ∃ bt nt ct, e = .returned (.agg #[.int .i64 r.2.e, .slice bt nt ct]) ∧ AdmX w W x S l r (.slice bt nt ct) w2 ∧ ∀ g cs t, Blk W g cs t → w.heap.size ≤ g → Blk w2 g cs t))
    (HTT : Hid (∀ W bt nt ct, Chg S w W → Rd 1 encS ⟨#[]⟩ W (.slice bt nt ct) r.2.s → Calls Tryz.prog 32 #[.agg #[.int .i64 r.2.e, .slice bt nt ct]] W fun e w' => e = .returned (.string text) ∧ Below W.heap.size W w')) :
    Calls Tryz.prog 34 #[.pointer (some ⟨x, 0, none⟩), .agg (lnC l), .string line] w (DoR w x S (r.1, text)) := by
  have hA0 : Adm w x S c s l (w.alloc (.cells (lnC l) 74)) := ⟨H0.out.below (by repeat' (first | with_reducible assumption | with_reducible exact Below.refl _ _ | with_reducible apply Below.drew | with_reducible apply below_drewN | with_reducible apply Below.setCell | with_reducible apply Below.alloc | omega | (simp; done) | (simp; omega))), Chg.below (by repeat' (first | with_reducible assumption | with_reducible exact Below.refl _ _ | with_reducible apply Below.drew | with_reducible apply below_drewN | with_reducible apply Below.setCell | with_reducible apply Below.alloc | omega | (simp; done) | (simp; omega))), Blk.new w _ _⟩
  have HA0 : Hid (Adm w x S c s l (w.alloc (.cells #[.int .i64 l.v, .string l.t, .string l.o, .int .u32 l.a, .int .i64 l.n, .int .u32 l.d, .int .i64 l.g] 74))) := hA0
  have x3 : w.cell? ⟨x, 3, none⟩ = some (.chan (some c)) := by
    have h := HX.out _ hA0
    rwa [World.cell?_alloc_past _ _ _ hx] at h
  clear hA0
  have hxa : ¬ (x = w.heap.size + 1) := by omega
  have hxb : ¬ (w.heap.size + 1 = x) := by omega
  have hxc : ¬ (x = w.heap.size) := by omega
  have hxd : ¬ (w.heap.size = x) := by omega
  have HI : Hid (∀ bt nt ct W, Calls Tryz.prog 52 #[.agg #[.int .i64 r.2.e, .slice bt nt ct]] W fun e w' => e = .returned (.bool false) ∧ Below W.heap.size W w') := fun bt nt ct W => by
    have h := isOK_any r.2.e bt nt ct W
    rw [decide_eq_false he] at h
    exact h
  have HE : Hid (¬ r.2.e = 0) := he
  clear he
  show Calls _ _ #[.pointer (some ⟨x, 0, none⟩), .agg #[.int .i64 l.v, .string l.t, .string l.o, .int .u32 l.a, .int .i64 l.n, .int .u32 l.d, .int .i64 l.g], .string line] _ _
  go_enter Tryz.func34, Tryz.ntmps34
  go_wp2
  rename_i K1 a1 K0 a0
  have HM : Hid (∀ (t1 t3 t5 t6 t7 t9 t10 t11 t12 t13 t14 t15 t16 t17 t18 t19 t20 t21 t22 t23 t24 t25 t26 t27 t28 t29 t30 t31 t32 t33 t34 t35 t36 t37 t38 t39 t40 t41 t42 t43 t44 : Value) (W : World), Adm w x S c s l W → K0 ⟨#[.pointer (some ⟨x, 0, none⟩), t1, .string line, t3, .pointer (some ⟨w.heap.size, 0, none⟩), t5, t6, t7, .bool false, t9, t10, t11, t12, t13, t14, t15, t16, t17, t18, t19, t20, t21, t22, t23, t24, t25, t26, t27, t28, t29, t30, t31, t32, t33, t34, t35, t36, t37, t38, t39, t40, t41, t42, t43, t44], []⟩ W) := by
    intro t1 t3 t5 t6 t7 t9 t10 t11 t12 t13 t14 t15 t16 t17 t18 t19 t20 t21 t22 t23 t24 t25 t26 t27 t28 t29 t30 t31 t32 t33 t34 t35 t36 t37 t38 t39 t40 t41 t42 t43 t44 W hA
    have HA : Hid (Adm w x S c s l W) := hA
    have LW := hA.2.2
    have l0 : W.cell? ⟨w.heap.size, 0, none⟩ = some (.int .i64 l.v) := LW.cell 0
    have l1 : W.cell? ⟨w.heap.size, 1, none⟩ = some (.string l.t) := LW.cell 1
    have l2 : W.cell? ⟨w.heap.size, 2, none⟩ = some (.string l.o) := LW.cell 2
    have l3 : W.cell? ⟨w.heap.size, 3, none⟩ = some (.int .u32 l.a) := LW.cell 3
    have l4 : W.cell? ⟨w.heap.size, 4, none⟩ = some (.int .i64 l.n) := LW.cell 4
    have l5 : W.cell? ⟨w.heap.size, 5, none⟩ = some (.int .u32 l.d) := LW.cell 5
    have l6 : W.cell? ⟨w.heap.size, 6, none⟩ = some (.int .i64 l.g) := LW.cell 6
    have zW := LW.lt
    have zWx : x < W.heap.size := by omega
    have zW1 : ¬ (w.heap.size = W.heap.size) := by omega
    have zW2 : ¬ (W.heap.size = w.heap.size) := by omega
    clear hA LW HA0 HF HX x3
    refine a0 _ _ ?_
    go_wp2
    rename_i K3 a3
    have HM2 : Hid (∀ (u1 u3 u5 u6 u7 u8 u10 u11 u12 u13 u14 u15 u16 u17 u18 u19 u20 u21 u22 u23 u24 u25 u26 u27 u28 u29 u30 u31 u32 u33 u34 u35 u36 u37 u38 u39 u40 u41 u42 u43 u44 : Value) (A : Nat) (bt : Option Addr) (nt ct : Nat) (W2 : World), w.heap.size < A → Adm2 w x S l r (.slice bt nt ct) W2 → Blk W2 A #[.int .i64 r.2.e, .slice bt nt ct] 79 → K3 ⟨#[.pointer (some ⟨x, 0, none⟩), u1, .string line, u3, .pointer (some ⟨w.heap.size, 0, none⟩), u5, u6, u7, u8, .pointer (some ⟨A, 0, none⟩), u10, u11, u12, u13, u14, u15, u16, u17, u18, u19, u20, u21, u22, u23, u24, u25, u26, u27, u28, u29, u30, u31, u32, u33, u34, u35, u36, u37, u38, u39, u40, u41, u42, u43, u44], []⟩ W2) := by
      intro u1 u3 u5 u6 u7 u8 u10 u11 u12 u13 u14 u15 u16 u17 u18 u19 u20 u21 u22 u23 u24 u25 u26 u27 u28 u29 u30 u31 u32 u33 u34 u35 u36 u37 u38 u39 u40 u41 u42 u43 u44 A bt nt ct W2 hzA hA2 hB2
      obtain ⟨S', hbk, hS', hC2, hL2, hR2⟩ := hA2
      obtain ⟨vp, vn, vl, c2, BB⟩ := hbk
      have x32 : W2.cell? ⟨x, 3, none⟩ = some (.chan (some c2)) := BB.blk.cell 3
      have zx := BB.blk.lt
      have zl := hL2.lt
      have l1 : W2.cell? ⟨w.heap.size, 1, none⟩ = some (.string l.t) := hL2.cell 1
      have p0 := hB2.cell 0
      have p1 := hB2.cell 1
      have zA := hB2.lt
      have ncx : (some c2 : Option Nat) ≠ some x := fun e => BB.xc (by cases e; rfl)
      have ncl : (some c2 : Option Nat) ≠ some w.heap.size := fun e => by
        have h1 : c2 = w.heap.size := by cases e; rfl
        rcases hS' c2 BB.sc with q | q
        · have := hS c2 q; omega
        · omega
      have HC2 : Hid (Chg S w W2) := hC2
      have HRD : Hid (Rd 1 encS ⟨#[]⟩ W2 (.slice bt nt ct) r.2.s) := hR2
      have HR3 : Hid (BA W2 x S' vp vn vl c2 r.1 ∧ (∀ b, S' b → S b ∨ w.heap.size < b) ∧ Chg S w W2) := ⟨BB, hS', hC2⟩
      have HCH : Hid (∀ W, Below W2.heap.size W2 W → Ch W c2 r.1.toks) := fun W hW => BB.ch.same (hW.block c2 (BB.sz c2 BB.sc))
      replace ncx : (some x : Option Nat) ≠ some c2 := fun e => ncx e.symm
      replace ncl : (some w.heap.size : Option Nat) ≠ some c2 := fun e => ncl e.symm
      clear BB hS' hC2 hL2 hR2 hB2 HD HA l0 l2 l3 l4 l5 l6
      refine a3 _ _ ?_
      go_wp2_with (first | (go_at_call 32; refine (HTT.out W2 bt nt ct HC2.out HRD.out).mono ?_; rintro e w3 ⟨rfl, hq3⟩; replace hq3 : Hid (Below W2.heap.size W2 w3) := hq3; have b0 : w3.cell? ⟨A, 0, none⟩ = some (.int .i64 r.2.e) := (hq3.out.cell (p := ⟨A, 0, none⟩) zA).trans p0; have b1 : w3.cell? ⟨A, 1, none⟩ = some (.slice bt nt ct) := (hq3.out.cell (p := ⟨A, 1, none⟩) zA).trans p1) | (go_at_call 52; refine (HI.out bt nt ct _).mono ?_; rintro e w4 ⟨rfl, hq4⟩; have hb4 : Hid (Below W2.heap.size W2 w4) := hq3.out.trans (hq4.mono hq3.out.size); clear hq4))
      go_ret
      obtain ⟨hB, h2, h3⟩ := HR3.out
      exact ⟨S', rfl, ⟨_, _, _, _, hB.below hb4.out⟩, fun b q => (h2 b q).imp id (fun k => by omega), h3.trans (Chg.below (S := S) hb4.out) (fun b q => .inl q)⟩
    replace HM2 : Hid _ := HM2
    clear a3
    go_region_held3 (fun w' => w'.cell? ⟨w.heap.size, 0, none⟩ = some (.int .i64 l.v) ∧ w'.cell? ⟨w.heap.size, 1, none⟩ = some (.string l.t) ∧ w'.cell? ⟨w.heap.size, 2, none⟩ = some (.string l.o) ∧ w'.cell? ⟨w.heap.size, 3, none⟩ = some (.int .u32 l.a) ∧ w'.cell? ⟨w.heap.size, 4, none⟩ = some (.int .i64 l.n) ∧ w'.cell? ⟨w.heap.size, 5, none⟩ = some (.int .u32 l.d) ∧ w'.cell? ⟨w.heap.size, 6, none⟩ = some (.int .i64 l.g)) (go_keep) (first | (go_at_call 35; refine (HD.out _ (by repeat' (first | with_reducible exact HA.out | with_reducible apply Adm.alloc | with_reducible apply Adm.drew))).mono ?_; rintro e w2 ⟨bt, nt, ct, rfl, HX2, K2⟩; replace HX2 : Hid (AdmX w _ x S l r (.slice bt nt ct) w2) := HX2; have LB : Hid (Blk w2 w.heap.size #[.int .i64 l.v, .string l.t, .string l.o, .int .u32 l.a, .int .i64 l.n, .int .u32 l.d, .int .i64 l.g] 74) := HX2.out.blk; have m0 : w2.cell? ⟨w.heap.size, 0, none⟩ = some (.int .i64 l.v) := LB.out.cell 0; have m1 : w2.cell? ⟨w.heap.size, 1, none⟩ = some (.string l.t) := LB.out.cell 1; have m2 : w2.cell? ⟨w.heap.size, 2, none⟩ = some (.string l.o) := LB.out.cell 2; have m3 : w2.cell? ⟨w.heap.size, 3, none⟩ = some (.int .u32 l.a) := LB.out.cell 3; have m4 : w2.cell? ⟨w.heap.size, 4, none⟩ = some (.int .i64 l.n) := LB.out.cell 4; have m5 : w2.cell? ⟨w.heap.size, 5, none⟩ = some (.int .u32 l.d) := LB.out.cell 5; have m6 : w2.cell? ⟨w.heap.size, 6, none⟩ = some (.int .i64 l.g) := LB.out.cell 6; have mz := LB.out.lt; have AB : Hid (Blk w2 W.heap.size #[.int .i64 0, .slice none 0 0] 79) := K2 _ _ _ (new_at (by simp)) (by have := HA.out.2.2.lt; omega); clear K2; have d0 := AB.out.cell 0; have d1 := AB.out.cell 1; have g0 := AB.out.frozen 0; have g1 := AB.out.frozen 1; have dz := AB.out.lt) | (go_at_call 35; refine (HD.out _ (by repeat' (first | with_reducible exact HA.out | with_reducible apply Adm.alloc | with_reducible apply Adm.drew))).mono ?_; rintro e w2 ⟨bt, nt, ct, rfl, HX2, K2⟩; replace HX2 : Hid (AdmX w _ x S l r (.slice bt nt ct) w2) := HX2; have LB : Hid (Blk w2 w.heap.size #[.int .i64 l.v, .string l.t, .string l.o, .int .u32 l.a, .int .i64 l.n, .int .u32 l.d, .int .i64 l.g] 74) := HX2.out.blk; have m0 : w2.cell? ⟨w.heap.size, 0, none⟩ = some (.int .i64 l.v) := LB.out.cell 0; have m1 : w2.cell? ⟨w.heap.size, 1, none⟩ = some (.string l.t) := LB.out.cell 1; have m2 : w2.cell? ⟨w.heap.size, 2, none⟩ = some (.string l.o) := LB.out.cell 2; have m3 : w2.cell? ⟨w.heap.size, 3, none⟩ = some (.int .u32 l.a) := LB.out.cell 3; have m4 : w2.cell? ⟨w.heap.size, 4, none⟩ = some (.int .i64 l.n) := LB.out.cell 4; have m5 : w2.cell? ⟨w.heap.size, 5, none⟩ = some (.int .u32 l.d) := LB.out.cell 5; have m6 : w2.cell? ⟨w.heap.size, 6, none⟩ = some (.int .i64 l.g) := LB.out.cell 6; have mz := LB.out.lt; clear K2))
    all_goals first
      | exact HM2.out _ _ _ _ _ _ _ _ _ _ _ _ _ _ _ _ _ _ _ _ _ _ _ _ _ _ _ _ _ _ _ _ _ _ _ _ _ _ _ _ _ w2.heap.size _ _ _ _ (by omega) (HX2.out.late (by simp; omega) (by repeat' (first | with_reducible exact Below.refl _ _ | with_reducible apply Below.drew | with_reducible apply Below.alloc | omega | (simp; done)))) (Blk.new w2 _ _)
      | exact HM2.out _ _ _ _ _ _ _ _ _ _ _ _ _ _ _ _ _ _ _ _ _ _ _ _ _ _ _ _ _ _ _ _ _ _ _ _ _ _ _ _ _ W.heap.size _ _ _ _ (by omega) (AdmX.early hS HX2.out (by omega) (by simp) AB.out _ _) (two_setB AB.out _ _)
      | (trace_state; sorry)
  replace HM : Hid _ := HM
  clear a0 a1
  go_region_held3 (fun w' => w'.cell? ⟨x, 3, none⟩ = some (.chan (some c)) ∧ w'.cell? ⟨w.heap.size, 1, none⟩ = some (.string l.t)) (go_keep) (first | (go_at_call 55; refine (HF.out _ (by repeat' (first | exact HA0.out | apply Adm.alloc | apply Adm.drew))).mono ?_; rintro e w1 ⟨rfl, HA1, K1⟩; replace HA1 : Hid (Adm w x S c s l w1) := HA1; have e1 : w1.cell? ⟨x, 3, none⟩ = some (.chan (some c)) := HX.out w1 HA1.out; have e2 : w1.cell? ⟨w.heap.size, 1, none⟩ = some (.string l.t) := HA1.out.2.2.cell 1; have DB : Hid (Blk w1 (w.heap.size + 1) #[.string ⟨#[]⟩, .string ⟨#[]⟩, .string ⟨#[]⟩] 132) := K1 _ _ _ (new_at (by simp)) (by omega); clear K1; have d0 := DB.out.cell 0; have d1 := DB.out.cell 1; have d2 := DB.out.cell 2; have g0 := DB.out.frozen 0; have g1 := DB.out.frozen 1; have g2 := DB.out.frozen 2; have dz := DB.out.lt) | (go_at_call 55; refine (HF.out _ (by repeat' (first | exact HA0.out | apply Adm.alloc | apply Adm.drew))).mono ?_; rintro e w1 ⟨rfl, HA1, K1⟩; replace HA1 : Hid (Adm w x S c s l w1) := HA1; have e1 : w1.cell? ⟨x, 3, none⟩ = some (.chan (some c)) := HX.out w1 HA1.out; have e2 : w1.cell? ⟨w.heap.size, 1, none⟩ = some (.string l.t) := HA1.out.2.2.cell 1; clear K1))
  all_goals first
    | exact HM.out _ _ _ _ _ _ _ _ _ _ _ _ _ _ _ _ _ _ _ _ _ _ _ _ _ _ _ _ _ _ _ _ _ _ _ _ _ _ _ _ _ _ (by repeat' (first | with_reducible exact HA1.out | with_reducible apply Adm.alloc | with_reducible apply Adm.drew | (with_reducible apply Adm.set hS (by omega))))
    | (trace_state; sorry)
end Go.Proofs.YtlikdnmikdldfaaGreatDoor
namespace Go.Proofs.YtlikdnmikdldfaaGreatDoor
open Go.Conc Go.ChangeShapes Go.WideShapes Go.ChangeAt Go.RowKit
set_option linter.unusedVariables false
set_option linter.unusedSimpArgs false

set_option maxRecDepth 100000 in
set_option maxHeartbeats 2000000 in
theorem cmd_done (w : World) (x c : Nat) (S : Nat → Prop) (s : Bk) (l : Ln) (line : ByteArray) (tk : Tk) (r : Bk × An) (text : ByteArray) (he : r.2.e = 0) (hx : x < w.heap.size) (hS : ∀ b, S b → b < w.heap.size) (H0 : Hid (BkC w x S c s)) (HX : Hid (∀ W, Adm w x S c s l W → W.cell? ⟨x, 3, none⟩ = some (.chan (some c))))
    (HF : Hid (∀ W, Adm w x S c s l W → Calls Tryz.prog 55 #[.agg #[.chan (some c)], .string l.t] W fun e w1 => e = .returned (.tuple #[.agg #[.string tk.t, .string tk.l, .string tk.r], .bool false]) ∧ Adm w x S c s l w1 ∧ ∀ g cs t, Blk W g cs t → w.heap.size ≤ g → Blk w1 g cs t))
    (HD : Hid (∀ W, Adm w x S c s l W → Calls Tryz.prog 35 #[.pointer (some ⟨x, 0, none⟩), .agg #[.int .i64 l.v, .string l.t, .string l.o, .int .u32 l.a, .int .i64 l.n, .int .u32 l.d, .int .i64 l.g]] W fun e w2 => ∃ bt nt ct, e = .returned (.agg #[.int .i64 r.2.e, .slice bt nt ct]) ∧ AdmX w W x S l r (.slice bt nt ct) w2 ∧ ∀ g cs t, Blk W g cs t → w.heap.size ≤ g → Blk w2 g cs t))
    (HTT : Hid (∀ W bt nt ct, Chg S w W → Rd 1 encS ⟨#[]⟩ W (.slice bt nt ct) r.2.s → Calls Tryz.prog 32 #[.agg #[.int .i64 r.2.e, .slice bt nt ct]] W fun e w' => e = .returned (.string text) ∧ Below W.heap.size W w'))
    (HAD : Hid (∀ W c2, Ch W c2 r.1.toks → Calls Tryz.prog 57 #[.agg #[.chan (some c2)], .agg #[.string l.t, .string line, .string text]] W fun e w' => e = .returned (.tuple #[]) ∧ Ch w' c2 (addT r.1.toks ⟨l.t, line, text⟩) ∧ W.grownBy w' (some c2))) :
    Calls Tryz.prog 34 #[.pointer (some ⟨x, 0, none⟩), .agg (lnC l), .string line] w (DoR w x S ({ r.1 with toks := addT r.1.toks ⟨l.t, line, text⟩ }, text)) := by
  have hA0 : Adm w x S c s l (w.alloc (.cells (lnC l) 74)) := ⟨H0.out.below (by repeat' (first | with_reducible assumption | with_reducible exact Below.refl _ _ | with_reducible apply Below.drew | with_reducible apply below_drewN | with_reducible apply Below.setCell | with_reducible apply Below.alloc | omega | (simp; done) | (simp; omega))), Chg.below (by repeat' (first | with_reducible assumption | with_reducible exact Below.refl _ _ | with_reducible apply Below.drew | with_reducible apply below_drewN | with_reducible apply Below.setCell | with_reducible apply Below.alloc | omega | (simp; done) | (simp; omega))), Blk.new w _ _⟩
  have HA0 : Hid (Adm w x S c s l (w.alloc (.cells #[.int .i64 l.v, .string l.t, .string l.o, .int .u32 l.a, .int .i64 l.n, .int .u32 l.d, .int .i64 l.g] 74))) := hA0
  have x3 : w.cell? ⟨x, 3, none⟩ = some (.chan (some c)) := by
    have h := HX.out _ hA0
    rwa [World.cell?_alloc_past _ _ _ hx] at h
  clear hA0
  have hxa : ¬ (x = w.heap.size + 1) := by omega
  have hxb : ¬ (w.heap.size + 1 = x) := by omega
  have hxc : ¬ (x = w.heap.size) := by omega
  have hxd : ¬ (w.heap.size = x) := by omega
  have HI : Hid (∀ bt nt ct W, Calls Tryz.prog 52 #[.agg #[.int .i64 r.2.e, .slice bt nt ct]] W fun e w' => e = .returned (.bool true) ∧ Below W.heap.size W w') := fun bt nt ct W => by
    have h := isOK_any r.2.e bt nt ct W
    rw [decide_eq_true he] at h
    exact h
  have HE : Hid (r.2.e = 0) := he
  clear he
  show Calls _ _ #[.pointer (some ⟨x, 0, none⟩), .agg #[.int .i64 l.v, .string l.t, .string l.o, .int .u32 l.a, .int .i64 l.n, .int .u32 l.d, .int .i64 l.g], .string line] _ _
  go_enter Tryz.func34, Tryz.ntmps34
  go_wp2
  rename_i K1 a1 K0 a0
  have HM : Hid (∀ (t1 t3 t5 t6 t7 t9 t10 t11 t12 t13 t14 t15 t16 t17 t18 t19 t20 t21 t22 t23 t24 t25 t26 t27 t28 t29 t30 t31 t32 t33 t34 t35 t36 t37 t38 t39 t40 t41 t42 t43 t44 : Value) (W : World), Adm w x S c s l W → K0 ⟨#[.pointer (some ⟨x, 0, none⟩), t1, .string line, t3, .pointer (some ⟨w.heap.size, 0, none⟩), t5, t6, t7, .bool false, t9, t10, t11, t12, t13, t14, t15, t16, t17, t18, t19, t20, t21, t22, t23, t24, t25, t26, t27, t28, t29, t30, t31, t32, t33, t34, t35, t36, t37, t38, t39, t40, t41, t42, t43, t44], []⟩ W) := by
    intro t1 t3 t5 t6 t7 t9 t10 t11 t12 t13 t14 t15 t16 t17 t18 t19 t20 t21 t22 t23 t24 t25 t26 t27 t28 t29 t30 t31 t32 t33 t34 t35 t36 t37 t38 t39 t40 t41 t42 t43 t44 W hA
    have HA : Hid (Adm w x S c s l W) := hA
    have LW := hA.2.2
    have l0 : W.cell? ⟨w.heap.size, 0, none⟩ = some (.int .i64 l.v) := LW.cell 0
    have l1 : W.cell? ⟨w.heap.size, 1, none⟩ = some (.string l.t) := LW.cell 1
    have l2 : W.cell? ⟨w.heap.size, 2, none⟩ = some (.string l.o) := LW.cell 2
    have l3 : W.cell? ⟨w.heap.size, 3, none⟩ = some (.int .u32 l.a) := LW.cell 3
    have l4 : W.cell? ⟨w.heap.size, 4, none⟩ = some (.int .i64 l.n) := LW.cell 4
    have l5 : W.cell? ⟨w.heap.size, 5, none⟩ = some (.int .u32 l.d) := LW.cell 5
    have l6 : W.cell? ⟨w.heap.size, 6, none⟩ = some (.int .i64 l.g) := LW.cell 6
    have zW := LW.lt
    have zWx : x < W.heap.size := by omega
    have zW1 : ¬ (w.heap.size = W.heap.size) := by omega
    have zW2 : ¬ (W.heap.size = w.heap.size) := by omega
    clear hA LW HA0 HF HX x3
    refine a0 _ _ ?_
    go_wp2
    rename_i K3 a3
    have HM2 : Hid (∀ (u1 u3 u5 u6 u7 u8 u10 u11 u12 u13 u14 u15 u16 u17 u18 u19 u20 u21 u22 u23 u24 u25 u26 u27 u28 u29 u30 u31 u32 u33 u34 u35 u36 u37 u38 u39 u40 u41 u42 u43 u44 : Value) (A : Nat) (bt : Option Addr) (nt ct : Nat) (W2 : World), w.heap.size < A → Adm2 w x S l r (.slice bt nt ct) W2 → Blk W2 A #[.int .i64 r.2.e, .slice bt nt ct] 79 → K3 ⟨#[.pointer (some ⟨x, 0, none⟩), u1, .string line, u3, .pointer (some ⟨w.heap.size, 0, none⟩), u5, u6, u7, u8, .pointer (some ⟨A, 0, none⟩), u10, u11, u12, u13, u14, u15, u16, u17, u18, u19, u20, u21, u22, u23, u24, u25, u26, u27, u28, u29, u30, u31, u32, u33, u34, u35, u36, u37, u38, u39, u40, u41, u42, u43, u44], []⟩ W2) := by
      intro u1 u3 u5 u6 u7 u8 u10 u11 u12 u13 u14 u15 u16 u17 u18 u19 u20 u21 u22 u23 u24 u25 u26 u27 u28 u29 u30 u31 u32 u33 u34 u35 u36 u37 u38 u39 u40 u41 u42 u43 u44 A bt nt ct W2 hzA hA2 hB2
      obtain ⟨S', hbk, hS', hC2, hL2, hR2⟩ := hA2
      obtain ⟨vp, vn, vl, c2, BB⟩ := hbk
      have x32 : W2.cell? ⟨x, 3, none⟩ = some (.chan (some c2)) := BB.blk.cell 3
      have zx := BB.blk.lt
      have zl := hL2.lt
      have l1 : W2.cell? ⟨w.heap.size, 1, none⟩ = some (.string l.t) := hL2.cell 1
      have p0 := hB2.cell 0
      have p1 := hB2.cell 1
      have zA := hB2.lt
      have ncx : (some c2 : Option Nat) ≠ some x := fun e => BB.xc (by cases e; rfl)
      have ncl : (some c2 : Option Nat) ≠ some w.heap.size := fun e => by
        have h1 : c2 = w.heap.size := by cases e; rfl
        rcases hS' c2 BB.sc with q | q
        · have := hS c2 q; omega
        · omega
      have HC2 : Hid (Chg S w W2) := hC2
      have HRD : Hid (Rd 1 encS ⟨#[]⟩ W2 (.slice bt nt ct) r.2.s) := hR2
      have HR3 : Hid (BA W2 x S' vp vn vl c2 r.1 ∧ (∀ b, S' b → S b ∨ w.heap.size < b) ∧ Chg S w W2) := ⟨BB, hS', hC2⟩
      have HCH : Hid (∀ W, Below W2.heap.size W2 W → Ch W c2 r.1.toks) := fun W hW => BB.ch.same (hW.block c2 (BB.sz c2 BB.sc))
      replace ncx : (some x : Option Nat) ≠ some c2 := fun e => ncx e.symm
      replace ncl : (some w.heap.size : Option Nat) ≠ some c2 := fun e => ncl e.symm
      clear BB hS' hC2 hL2 hR2 hB2 HD HA l0 l2 l3 l4 l5 l6
      refine a3 _ _ ?_
      go_wp2_with (first | (go_at_call 32; refine (HTT.out W2 bt nt ct HC2.out HRD.out).mono ?_; rintro e w3 ⟨rfl, hq3⟩; replace hq3 : Hid (Below W2.heap.size W2 w3) := hq3; have b0 : w3.cell? ⟨A, 0, none⟩ = some (.int .i64 r.2.e) := (hq3.out.cell (p := ⟨A, 0, none⟩) zA).trans p0; have b1 : w3.cell? ⟨A, 1, none⟩ = some (.slice bt nt ct) := (hq3.out.cell (p := ⟨A, 1, none⟩) zA).trans p1) | (go_at_call 52; refine (HI.out bt nt ct _).mono ?_; rintro e w4 ⟨rfl, hq4⟩; have hb4 : Hid (Below W2.heap.size W2 w4) := hq3.out.trans (hq4.mono hq3.out.size); clear hq4; have y3 : w4.cell? ⟨x, 3, none⟩ = some (.chan (some c2)) := (hb4.out.cell (p := ⟨x, 3, none⟩) zx).trans x32; have y1 : w4.cell? ⟨w.heap.size, 1, none⟩ = some (.string l.t) := (hb4.out.cell (p := ⟨w.heap.size, 1, none⟩) zl).trans l1; have zx4 := Nat.lt_of_lt_of_le zx hb4.out.size; have zl4 := Nat.lt_of_lt_of_le zl hb4.out.size))
      go_region_held3 (fun w' => w'.cell? ⟨x, 3, none⟩ = some (.chan (some c2)) ∧ w'.cell? ⟨w.heap.size, 1, none⟩ = some (.string l.t)) (go_keep) (first | (go_at_call 57; refine (HAD.out _ c2 (HCH.out _ (by repeat' (first | with_reducible exact hb4.out | with_reducible apply Below.drew)))).mono ?_; rintro e w5 ⟨rfl, hch5, hg5⟩; replace hch5 : Hid (Ch w5 c2 (addT r.1.toks ⟨l.t, line, text⟩)) := hch5; replace hg5 : Hid (World.grownBy w4.drew w5 (some c2)) := hg5; have y35 : w5.cell? ⟨x, 3, none⟩ = some (.chan (some c2)) := (World.cell?_of_block (a := ⟨x, 3, none⟩) (hg5.out.block x zx4 ncx)).trans y3; have y15 : w5.cell? ⟨w.heap.size, 1, none⟩ = some (.string l.t) := (World.cell?_of_block (a := ⟨w.heap.size, 1, none⟩) (hg5.out.block w.heap.size zl4 ncl)).trans y1))
      all_goals (
        go_wp2
        go_ret
        obtain ⟨hB, h2, h3⟩ := HR3.out
        have hb5 : Below W2.heap.size W2 w4.drew := hb4.out.drew
        have hB5 := (hB.below hb5).toks _ hch5.out hg5.out
        exact ⟨S', rfl, ⟨_, _, _, _, hB5⟩, fun b q => (h2 b q).imp id (fun k => by omega), (h3.trans (Chg.below (S := S) hb5) (fun b q => .inl q)).trans (Chg.grown (S := S') hg5.out (fun b e => by cases e; exact hB.sc)) (fun b q => (h2 b q).imp id (fun k => by omega))⟩)
    replace HM2 : Hid _ := HM2
    clear a3
    go_region_held3 (fun w' => w'.cell? ⟨w.heap.size, 0, none⟩ = some (.int .i64 l.v) ∧ w'.cell? ⟨w.heap.size, 1, none⟩ = some (.string l.t) ∧ w'.cell? ⟨w.heap.size, 2, none⟩ = some (.string l.o) ∧ w'.cell? ⟨w.heap.size, 3, none⟩ = some (.int .u32 l.a) ∧ w'.cell? ⟨w.heap.size, 4, none⟩ = some (.int .i64 l.n) ∧ w'.cell? ⟨w.heap.size, 5, none⟩ = some (.int .u32 l.d) ∧ w'.cell? ⟨w.heap.size, 6, none⟩ = some (.int .i64 l.g)) (go_keep) (first | (go_at_call 35; refine (HD.out _ (by repeat' (first | with_reducible exact HA.out | with_reducible apply Adm.alloc | with_reducible apply Adm.drew))).mono ?_; rintro e w2 ⟨bt, nt, ct, rfl, HX2, K2⟩; replace HX2 : Hid (AdmX w _ x S l r (.slice bt nt ct) w2) := HX2; have LB : Hid (Blk w2 w.heap.size #[.int .i64 l.v, .string l.t, .string l.o, .int .u32 l.a, .int .i64 l.n, .int .u32 l.d, .int .i64 l.g] 74) := HX2.out.blk; have m0 : w2.cell? ⟨w.heap.size, 0, none⟩ = some (.int .i64 l.v) := LB.out.cell 0; have m1 : w2.cell? ⟨w.heap.size, 1, none⟩ = some (.string l.t) := LB.out.cell 1; have m2 : w2.cell? ⟨w.heap.size, 2, none⟩ = some (.string l.o) := LB.out.cell 2; have m3 : w2.cell? ⟨w.heap.size, 3, none⟩ = some (.int .u32 l.a) := LB.out.cell 3; have m4 : w2.cell? ⟨w.heap.size, 4, none⟩ = some (.int .i64 l.n) := LB.out.cell 4; have m5 : w2.cell? ⟨w.heap.size, 5, none⟩ = some (.int .u32 l.d) := LB.out.cell 5; have m6 : w2.cell? ⟨w.heap.size, 6, none⟩ = some (.int .i64 l.g) := LB.out.cell 6; have mz := LB.out.lt; have AB : Hid (Blk w2 W.heap.size #[.int .i64 0, .slice none 0 0] 79) := K2 _ _ _ (new_at (by simp)) (by have := HA.out.2.2.lt; omega); clear K2; have d0 := AB.out.cell 0; have d1 := AB.out.cell 1; have g0 := AB.out.frozen 0; have g1 := AB.out.frozen 1; have dz := AB.out.lt) | (go_at_call 35; refine (HD.out _ (by repeat' (first | with_reducible exact HA.out | with_reducible apply Adm.alloc | with_reducible apply Adm.drew))).mono ?_; rintro e w2 ⟨bt, nt, ct, rfl, HX2, K2⟩; replace HX2 : Hid (AdmX w _ x S l r (.slice bt nt ct) w2) := HX2; have LB : Hid (Blk w2 w.heap.size #[.int .i64 l.v, .string l.t, .string l.o, .int .u32 l.a, .int .i64 l.n, .int .u32 l.d, .int .i64 l.g] 74) := HX2.out.blk; have m0 : w2.cell? ⟨w.heap.size, 0, none⟩ = some (.int .i64 l.v) := LB.out.cell 0; have m1 : w2.cell? ⟨w.heap.size, 1, none⟩ = some (.string l.t) := LB.out.cell 1; have m2 : w2.cell? ⟨w.heap.size, 2, none⟩ = some (.string l.o) := LB.out.cell 2; have m3 : w2.cell? ⟨w.heap.size, 3, none⟩ = some (.int .u32 l.a) := LB.out.cell 3; have m4 : w2.cell? ⟨w.heap.size, 4, none⟩ = some (.int .i64 l.n) := LB.out.cell 4; have m5 : w2.cell? ⟨w.heap.size, 5, none⟩ = some (.int .u32 l.d) := LB.out.cell 5; have m6 : w2.cell? ⟨w.heap.size, 6, none⟩ = some (.int .i64 l.g) := LB.out.cell 6; have mz := LB.out.lt; clear K2))
    all_goals first
      | exact HM2.out _ _ _ _ _ _ _ _ _ _ _ _ _ _ _ _ _ _ _ _ _ _ _ _ _ _ _ _ _ _ _ _ _ _ _ _ _ _ _ _ _ w2.heap.size _ _ _ _ (by omega) (HX2.out.late (by simp; omega) (by repeat' (first | with_reducible exact Below.refl _ _ | with_reducible apply Below.drew | with_reducible apply Below.alloc | omega | (simp; done)))) (Blk.new w2 _ _)
      | exact HM2.out _ _ _ _ _ _ _ _ _ _ _ _ _ _ _ _ _ _ _ _ _ _ _ _ _ _ _ _ _ _ _ _ _ _ _ _ _ _ _ _ _ W.heap.size _ _ _ _ (by omega) (AdmX.early hS HX2.out (by omega) (by simp) AB.out _ _) (two_setB AB.out _ _)
      | (trace_state; sorry)
  replace HM : Hid _ := HM
  clear a0 a1
  go_region_held3 (fun w' => w'.cell? ⟨x, 3, none⟩ = some (.chan (some c)) ∧ w'.cell? ⟨w.heap.size, 1, none⟩ = some (.string l.t)) (go_keep) (first | (go_at_call 55; refine (HF.out _ (by repeat' (first | exact HA0.out | apply Adm.alloc | apply Adm.drew))).mono ?_; rintro e w1 ⟨rfl, HA1, K1⟩; replace HA1 : Hid (Adm w x S c s l w1) := HA1; have e1 : w1.cell? ⟨x, 3, none⟩ = some (.chan (some c)) := HX.out w1 HA1.out; have e2 : w1.cell? ⟨w.heap.size, 1, none⟩ = some (.string l.t) := HA1.out.2.2.cell 1; have DB : Hid (Blk w1 (w.heap.size + 1) #[.string ⟨#[]⟩, .string ⟨#[]⟩, .string ⟨#[]⟩] 132) := K1 _ _ _ (new_at (by simp)) (by omega); clear K1; have d0 := DB.out.cell 0; have d1 := DB.out.cell 1; have d2 := DB.out.cell 2; have g0 := DB.out.frozen 0; have g1 := DB.out.frozen 1; have g2 := DB.out.frozen 2; have dz := DB.out.lt) | (go_at_call 55; refine (HF.out _ (by repeat' (first | exact HA0.out | apply Adm.alloc | apply Adm.drew))).mono ?_; rintro e w1 ⟨rfl, HA1, K1⟩; replace HA1 : Hid (Adm w x S c s l w1) := HA1; have e1 : w1.cell? ⟨x, 3, none⟩ = some (.chan (some c)) := HX.out w1 HA1.out; have e2 : w1.cell? ⟨w.heap.size, 1, none⟩ = some (.string l.t) := HA1.out.2.2.cell 1; clear K1))
  all_goals first
    | exact HM.out _ _ _ _ _ _ _ _ _ _ _ _ _ _ _ _ _ _ _ _ _ _ _ _ _ _ _ _ _ _ _ _ _ _ _ _ _ _ _ _ _ _ (by repeat' (first | with_reducible exact HA1.out | with_reducible apply Adm.alloc | with_reducible apply Adm.drew | (with_reducible apply Adm.set hS (by omega))))
    | (trace_state; sorry)
end Go.Proofs.YtlikdnmikdldfaaGreatDoor
namespace Go.Proofs.YtlikdnmikdldfaaGreatDoor
open Go.Conc Go.ChangeShapes Go.WideShapes Go.ChangeAt Go.RowKit
set_option linter.unusedVariables false
set_option linter.unusedSimpArgs false

theorem EnvT.chg {w w' : World} {S : Nat → Prop} (h : EnvT w) (hc : Chg S w w') (hG : ∀ b, S b → 10 ≤ b) : EnvT w' where
  env := h.env.chg hc hG
  lw := Nat.lt_of_lt_of_le h.lw hc.size
  lf := Nat.lt_of_lt_of_le h.lf hc.size
  wd := fun i v e => (World.cell?_of_block (a := ⟨1, i, none⟩) (hc.block _ h.lw (fun q => absurd (hG _ q) (by show ¬ 10 ≤ (1 : Nat); decide)))).trans (h.wd i v e)
  fm := fun i v e => (World.cell?_of_block (a := ⟨0, i, none⟩) (hc.block _ h.lf (fun q => absurd (hG _ q) (by show ¬ 10 ≤ (0 : Nat); decide)))).trans (h.fm i v e)
theorem size_of (l : List UInt8) : (⟨l.toArray⟩ : ByteArray).size = l.length := by show l.toArray.size = _; simp
theorem bText_lenC {a n : Int} (ha : ad a) (hn : 0 ≤ n) (h1 : n ≤ 32) : (bText a n).length ≤ 18 := wr_len _ _ (by have := ha.1; have := ha.2; omega) (by omega)
theorem hText_len {h : Hd} (ha : ad h.a) (hr : rt h.a h.n = true) (ho : h.o.size ≤ 8) : (⟨(hText h).toArray⟩ : ByteArray).size ≤ 100 := by
  obtain ⟨n0, n1, _⟩ := rt_iff.1 hr
  have h1 := bText_lenC ha n0 n1
  have h2 := Lib.size_eq h.o
  rw [size_of]
  unfold hText
  simp only [List.length_append, List.length_cons]
  omega
theorem lText_len {h : Ls} (ha : ad h.a) (ho : h.o.size ≤ 8) : (⟨(lText h).toArray⟩ : ByteArray).size ≤ 100 := by
  have h1 := dot_lenB h.a.toNat (by have := ha.1; have := ha.2; omega)
  have h2 := Lib.size_eq h.o
  rw [size_of]
  unfold lText
  simp only [List.length_append, List.length_cons]
  omega
def AnOk (a : An) : Prop := a.e < 14 ∧ a.s.length ≤ 1000 ∧ ∀ t, t ∈ a.s → t.size ≤ 100
theorem ref_ok (k : Nat) (h : k < 14) : AnOk (ref k) := ⟨h, by simp [ref], by simp [ref]⟩
theorem okA_ok : AnOk okA := ⟨by decide, by simp [okA], by simp [okA]⟩
theorem tell1_ok (t : ByteArray) (h : t.size ≤ 100) : AnOk (tell1 t) := ⟨by simp [tell1], by simp [tell1], by simpa [tell1] using h⟩
theorem ans_ok {s : Bk} {l : Ln} (hI : Inv s) (hL : LnOk l) : AnOk (doLn s l).2 := by
  unfold doLn
  split
  · unfold doPool
    split; · exact ref_ok 4 (by omega)
    split; · exact ref_ok 5 (by omega)
    split; · exact ref_ok 6 (by omega)
    exact okA_ok
  · unfold doDrop
    split; · exact ref_ok 7 (by omega)
    split; · exact ref_ok 8 (by omega)
    split; · exact ref_ok 9 (by omega)
    exact okA_ok
  · unfold doNet
    split; · exact ref_ok 7 (by omega)
    split; · exact ref_ok 4 (by omega)
    rcases hb : best (frees 33 (netsOf s.nets l.a l.n) l.a l.n) l.g with _ | b
    · exact ref_ok 10 (by omega)
    · dsimp only
      split
      · exact ref_ok 6 (by omega)
      · refine tell1_ok _ ?_
        rw [size_of]
        rcases best_mem _ _ _ hb with ⟨q1, q2⟩ | q
        · have h1 := frees_rt (netsOf s.nets l.a l.n) (fun h hh => (rt_iff.1 (hI.na h (List.mem_filter.1 hh).1).2.1).2.1) 33 l.a l.n hL.a hL.r b q1
          have := bText_lenC (n := l.g) h1.1 hL.g0 hL.g1
          omega
        · cases q
  · unfold doBlock
    split; · exact ref_ok 4 (by omega)
    split; · exact ref_ok 7 (by omega)
    split; · exact ref_ok 5 (by omega)
    split; · exact ref_ok 6 (by omega)
    exact okA_ok
  · unfold doFree
    split; · exact ref_ok 11 (by omega)
    split; · exact ref_ok 8 (by omega)
    split; · exact ref_ok 9 (by omega)
    exact okA_ok
  · unfold doLease
    split; · exact ref_ok 11 (by omega)
    rcases hb : least s.leases l.a l.n with _ | d
    · exact ref_ok 10 (by omega)
    · dsimp only
      split
      · exact ref_ok 6 (by omega)
      · refine tell1_ok _ ?_
        have := least_ad hL.a hL.r hb
        have h2 := dot_lenB d.toNat (by have h3 := this.1; have h4 := this.2; omega)
        rw [size_of]; omega
  · unfold doTake
    split; · exact ref_ok 11 (by omega)
    split; · exact ref_ok 12 (by omega)
    split; · exact ref_ok 13 (by omega)
    split; · exact ref_ok 6 (by omega)
    exact okA_ok
  · unfold doGive
    split
    · split; · exact ref_ok 8 (by omega)
      exact okA_ok
    · exact ref_ok 12 (by omega)
  · refine ⟨by show 0 < 14; omega, by show (s.pools.map _).length ≤ 1000; rw [List.length_map]; have := hI.p; omega, fun t ht => ?_⟩
    obtain ⟨h, hh, rfl⟩ := List.mem_map.1 ht
    have := hI.pa h hh
    exact hText_len this.1 this.2.1 this.2.2.2.2
  · unfold doNets
    split
    · exact ref_ok 7 (by omega)
    · refine ⟨by show 0 < 14; omega, by show ((netsOf s.nets l.a l.n).map _).length ≤ 1000; rw [List.length_map]; have := hI.n; have := List.length_filter_le (fun h : Hd => inn h.a h.n l.a l.n) s.nets; unfold netsOf; omega, fun t ht => ?_⟩
      obtain ⟨h, hh, rfl⟩ := List.mem_map.1 ht
      have := hI.na h (List.mem_filter.1 hh).1
      exact hText_len this.1 this.2.1 this.2.2.2
  · unfold doUsed
    split
    · exact ref_ok 11 (by omega)
    · refine ⟨by show 0 < 14; omega, by show ((leasesOf s.leases l.a l.n).map _).length ≤ 1000; rw [List.length_map]; have := hI.l; have := List.length_filter_le (fun h : Ls => inn h.a 32 l.a l.n) s.leases; unfold leasesOf; omega, fun t ht => ?_⟩
      obtain ⟨h, hh, rfl⟩ := List.mem_map.1 ht
      have := hI.la h (List.mem_filter.1 hh).1
      exact lText_len this.1 this.2
  · exact ref_ok 2 (by omega)
theorem doLn_toks (s : Bk) (l : Ln) : (doLn s l).1.toks = s.toks := by
  unfold doLn doPool doDrop doNet doBlock doFree doLease doTake doGive
  repeat' (first | rfl | split)
/-- what a command does, as doAll says it -/
def doCmd (s : Bk) (l : Ln) (line : ByteArray) : Bk × ByteArray :=
  match findT s.toks l.t with
  | some x => if x.l ≠ line then (s, ⟨(anText (ref 3)).toArray⟩) else (s, x.r)
  | none => if (doLn s l).2.e = 0 then ({ (doLn s l).1 with toks := addT (doLn s l).1.toks ⟨l.t, line, ⟨(anText (doLn s l).2).toArray⟩⟩ }, ⟨(anText (doLn s l).2).toArray⟩) else ((doLn s l).1, ⟨(anText (doLn s l).2).toArray⟩)
theorem command_any (w : World) (x : Nat) (S : Nat → Prop) (s : Bk) (l : Ln) (line : ByteArray) (E : EnvT w) (hI : Inv s) (hL : LnOk l) (hv : l.v < 11) (h : BkAt w x S s) (hG : ∀ b, S b → 10 ≤ b) (hZ : 10 ≤ w.heap.size) (hs : line.size ≤ 281474976710656) :
    Calls Tryz.prog 34 #[.pointer (some ⟨x, 0, none⟩), .agg (lnC l), .string line] w (DoR w x S (doCmd s l line)) := by
  obtain ⟨vp, vn, vl, c, B⟩ := h
  have hx := B.blk.lt
  have hS := B.sz
  have hC : BkC w x S c s := ⟨vp, vn, vl, B⟩
  have HX : ∀ W, Adm w x S c s l W → W.cell? ⟨x, 3, none⟩ = some (.chan (some c)) := fun W hA => by
    obtain ⟨_, _, _, BW⟩ := hA.1
    exact BW.blk.cell 3
  have HF : ∀ W, Adm w x S c s l W → Calls Tryz.prog 55 #[.agg #[.chan (some c)], .string l.t] W fun e w1 => e = .returned (.tuple #[vT ((findT s.toks l.t).getD tk0), .bool (findT s.toks l.t).isSome]) ∧ Adm w x S c s l w1 ∧ ∀ g cs t, Blk W g cs t → w.heap.size ≤ g → Blk w1 g cs t := fun W hA => by
    obtain ⟨wp, wn, wl, BW⟩ := hA.1
    refine (tfind_any W c s.toks l.t BW.ch hI.t).mono ?_
    rintro e w1 ⟨rfl, hch, hg⟩
    have hc : c < w.heap.size := hS c B.sc
    refine ⟨rfl, ⟨⟨wp, wn, wl, ?_⟩, hA.2.1.trans (Chg.grown (S := S) hg (fun b e => by cases e; exact B.sc)) (fun b q => .inl q), (hg.block _ hA.2.2.lt (by simp; omega)).trans hA.2.2⟩, fun g cs t hB hgw => (hg.block g hB.lt (by simp; omega)).trans hB⟩
    exact BW.toks s.toks hch hg
  have HD : ∀ W, Adm w x S c s l W → Calls Tryz.prog 35 #[.pointer (some ⟨x, 0, none⟩), .agg (lnC l)] W fun e w2 => ∃ bt nt ct, e = .returned (.agg #[.int .i64 (doLn s l).2.e, .slice bt nt ct]) ∧ AdmX w W x S l (doLn s l) (.slice bt nt ct) w2 ∧ ∀ g cs t, Blk W g cs t → w.heap.size ≤ g → Blk w2 g cs t := fun W hA => by
    refine (bookDo_any W x S s l (E.env.chg hA.2.1 hG) hI hL hA.1.bk hG (Nat.le_trans hZ hA.2.1.size) hv).mono ?_
    rintro e w2 ⟨v, S', rfl, hrd, hb, hs', hc2⟩
    obtain ⟨bt, ct, rfl, k1, k2, k3⟩ := hrd
    have hk : ∀ g cs t, Blk W g cs t → w.heap.size ≤ g → Blk w2 g cs t := fun g cs t hB hgw => (hc2.block g hB.lt (fun q => by have := hS g q; omega)).trans hB
    exact ⟨bt, _, ct, rfl, ⟨S', hb, hs', hA.2.1.trans hc2 (fun b q => .inl q), hk _ _ _ hA.2.2 (Nat.le_refl _), ⟨bt, ct, rfl, k1, k2, k3⟩⟩, hk⟩
  obtain ⟨o1, o2, o3⟩ := ans_ok hI hL
  have HTT : ∀ W bt nt ct, Chg S w W → Rd 1 encS ⟨#[]⟩ W (.slice bt nt ct) (doLn s l).2.s → Calls Tryz.prog 32 #[.agg #[.int .i64 (doLn s l).2.e, .slice bt nt ct]] W fun e w' => e = .returned (.string ⟨(anText (doLn s l).2).toArray⟩) ∧ Below W.heap.size W w' := fun W bt nt ct hc hr =>
    atext_any (doLn s l).2 o1 o2 o3 _ W (E.chg hc hG) hr
  unfold doCmd
  rcases hf : findT s.toks l.t with _ | tk
  · rw [hf] at HF
    by_cases he : (doLn s l).2.e = 0
    · dsimp only
      rw [if_pos he]
      refine cmd_done w x c S s l line tk0 (doLn s l) _ he hx hS hC HX HF HD HTT fun W c2 hch => ?_
      refine tadd_any W c2 (doLn s l).1.toks ⟨l.t, line, ⟨(anText (doLn s l).2).toArray⟩⟩ hch ?_ hs
      rw [doLn_toks]; exact hI.t
    · dsimp only
      rw [if_neg he]
      exact cmd_refused w x c S s l line tk0 (doLn s l) _ he hx hS hC HX HF HD HTT
  · rw [hf] at HF
    have hgo := cmd_found w x c S s l line tk (if tk.l ≠ line then (⟨(anText (ref 3)).toArray⟩ : ByteArray) else tk.r) hx hS hC HX HF fun W hA => again_any tk line _ W (E.chg hA.2.1 hG) rfl
    dsimp only
    split
    · rename_i q; rw [if_pos q] at hgo; exact hgo
    · rename_i q; rw [if_neg q] at hgo; exact hgo
end Go.Proofs.YtlikdnmikdldfaaGreatDoor
namespace Go.Proofs.YtlikdnmikdldfaaGreatDoor
open Go.Conc Go.ChangeShapes Go.WideShapes Go.ChangeAt Go.RowKit
set_option linter.unusedVariables false
set_option linter.unusedSimpArgs false

set_option maxRecDepth 100000 in
set_option maxHeartbeats 1000000 in
theorem ado_none (w : World) (x : Nat) (line text : ByteArray) (HR : Hid (∀ W, Below w.heap.size w W → Calls Tryz.prog 30 #[.string line] W fun e w' => e = .returned (.tuple #[.agg #[.int .i64 0, .string ⟨#[]⟩, .string ⟨#[]⟩, .int .u32 0, .int .i64 0, .int .u32 0, .int .i64 0], .bool false]) ∧ Below W.heap.size W w'))
    (HF : Hid (∀ W, Calls Tryz.prog 31 #[.int .i64 2] W fun e w' => e = .returned (.agg #[.int .i64 2, .slice none 0 0]) ∧ Below W.heap.size W w'))
    (HT : Hid (∀ W, Below w.heap.size w W → Calls Tryz.prog 32 #[.agg #[.int .i64 2, .slice none 0 0]] W fun e w' => e = .returned (.string text) ∧ Below W.heap.size W w')) :
    Calls Tryz.prog 14 #[.pointer (some ⟨x, 0, none⟩), .string line] w fun e w' => e = .returned (.string text) ∧ Below w.heap.size w w' := by
  go_enter Tryz.func14, Tryz.ntmps14
  go_wp2_with (first | (go_at_call 30; refine (HR.out _ (by repeat' (first | with_reducible assumption | with_reducible exact Below.refl _ _ | with_reducible apply Below.drew | with_reducible apply below_drewN | with_reducible apply Below.setCell | with_reducible apply Below.alloc | omega | (simp; done) | (simp; omega)))).mono ?_; rintro e w1 ⟨rfl, hq1⟩; have hb1 : Hid (Below w.heap.size w w1) := Below.trans (B := w.heap.size) (a := w) (by repeat' (first | with_reducible assumption | with_reducible exact Below.refl _ _ | with_reducible apply Below.drew | with_reducible apply below_drewN | with_reducible apply Below.setCell | with_reducible apply Below.alloc | omega | (simp; done) | (simp; omega))) (hq1.mono (by first | omega | (simp; done) | (simp; omega))); clear hq1) | (go_at_call 31; refine (HF.out _).mono ?_; rintro e w2 ⟨rfl, hq2⟩; have hb2 : Hid (Below w.heap.size w w2) := Below.trans (B := w.heap.size) (a := w) (by have hh := hb1.out; have hz := hb1.out.size; repeat' (first | with_reducible assumption | with_reducible exact Below.refl _ _ | with_reducible apply Below.drew | with_reducible apply below_drewN | with_reducible apply Below.setCell | with_reducible apply Below.alloc | omega | (simp; done) | (simp; omega))) (hq2.mono (by have hz := hb1.out.size; first | omega | (simp; omega))); clear hq2) | (go_at_call 32; refine (HT.out _ hb2.out).mono ?_; rintro e w3 ⟨rfl, hq3⟩; have hb3 : Hid (Below w.heap.size w w3) := hb2.out.trans (hq3.mono hb2.out.size); clear hq3))
  go_ret
  exact ⟨rfl, hb3.out⟩
set_option maxRecDepth 100000 in
set_option maxHeartbeats 1000000 in
theorem ado_cmd (w : World) (x : Nat) (S : Nat → Prop) (l : Ln) (line : ByteArray) (r : Bk × ByteArray) (HR : Hid (∀ W, Below w.heap.size w W → Calls Tryz.prog 30 #[.string line] W fun e w' => e = .returned (.tuple #[.agg #[.int .i64 l.v, .string l.t, .string l.o, .int .u32 l.a, .int .i64 l.n, .int .u32 l.d, .int .i64 l.g], .bool true]) ∧ Below W.heap.size W w'))
    (HI : Hid (∀ W, Calls Tryz.prog 33 #[.int .i64 l.v] W fun e w' => e = .returned (.bool true) ∧ Below W.heap.size W w'))
    (HC : Hid (∀ W, Below w.heap.size w W → Calls Tryz.prog 34 #[.pointer (some ⟨x, 0, none⟩), .agg #[.int .i64 l.v, .string l.t, .string l.o, .int .u32 l.a, .int .i64 l.n, .int .u32 l.d, .int .i64 l.g], .string line] W (DoR W x S r))) :
    Calls Tryz.prog 14 #[.pointer (some ⟨x, 0, none⟩), .string line] w (DoR w x S r) := by
  go_enter Tryz.func14, Tryz.ntmps14
  go_wp2_with (first | (go_at_call 30; refine (HR.out _ (by repeat' (first | with_reducible assumption | with_reducible exact Below.refl _ _ | with_reducible apply Below.drew | with_reducible apply below_drewN | with_reducible apply Below.setCell | with_reducible apply Below.alloc | omega | (simp; done) | (simp; omega)))).mono ?_; rintro e w1 ⟨rfl, hq1⟩; have hb1 : Hid (Below w.heap.size w w1) := Below.trans (B := w.heap.size) (a := w) (by repeat' (first | with_reducible assumption | with_reducible exact Below.refl _ _ | with_reducible apply Below.drew | with_reducible apply below_drewN | with_reducible apply Below.setCell | with_reducible apply Below.alloc | omega | (simp; done) | (simp; omega))) (hq1.mono (by first | omega | (simp; done) | (simp; omega))); clear hq1) | (go_at_call 33; refine (HI.out _).mono ?_; rintro e w2 ⟨rfl, hq2⟩; have hb2 : Hid (Below w.heap.size w w2) := Below.trans (B := w.heap.size) (a := w) (by have hh := hb1.out; have hz := hb1.out.size; repeat' (first | with_reducible assumption | with_reducible exact Below.refl _ _ | with_reducible apply Below.drew | with_reducible apply below_drewN | with_reducible apply Below.setCell | with_reducible apply Below.alloc | omega | (simp; done) | (simp; omega))) (hq2.mono (by have hz := hb1.out.size; first | omega | (simp; omega))); have L2 : Hid (Blk w2 w1.heap.size #[.int .i64 l.v, .string l.t, .string l.o, .int .u32 l.a, .int .i64 l.n, .int .u32 l.d, .int .i64 l.g] 74) := (Blk.new w1 #[.int .i64 l.v, .string l.t, .string l.o, .int .u32 l.a, .int .i64 l.n, .int .u32 l.d, .int .i64 l.g] 74).below hq2; clear hq2; have m0 : w2.cell? ⟨w1.heap.size, 0, none⟩ = some (.int .i64 l.v) := L2.out.cell 0; have m1 : w2.cell? ⟨w1.heap.size, 1, none⟩ = some (.string l.t) := L2.out.cell 1; have m2 : w2.cell? ⟨w1.heap.size, 2, none⟩ = some (.string l.o) := L2.out.cell 2; have m3 : w2.cell? ⟨w1.heap.size, 3, none⟩ = some (.int .u32 l.a) := L2.out.cell 3; have m4 : w2.cell? ⟨w1.heap.size, 4, none⟩ = some (.int .i64 l.n) := L2.out.cell 4; have m5 : w2.cell? ⟨w1.heap.size, 5, none⟩ = some (.int .u32 l.d) := L2.out.cell 5; have m6 : w2.cell? ⟨w1.heap.size, 6, none⟩ = some (.int .i64 l.g) := L2.out.cell 6; have mz := L2.out.lt) | (go_at_call 34; refine (HC.out _ hb2.out).mono ?_; rintro e w3 ⟨S', rfl, h1, h2, h3⟩; replace h1 : Hid (BkAt w3 x S' r.1) := h1; replace h2 : Hid (∀ b, S' b → S b ∨ w2.heap.size ≤ b) := h2; replace h3 : Hid (Chg S w2 w3) := h3))
  go_ret
  have hz := hb2.out.size
  exact ⟨S', rfl, h1.out, fun b q => (h2.out b q).imp id (fun k => by omega), (Chg.below (S := S) hb2.out).trans h3.out (fun b q => .inl q)⟩
set_option maxRecDepth 100000 in
set_option maxHeartbeats 1000000 in
theorem ado_ask (w : World) (x : Nat) (l : Ln) (line text : ByteArray) (k : Nat) (L : List ByteArray) (HR : Hid (∀ W, Below w.heap.size w W → Calls Tryz.prog 30 #[.string line] W fun e w' => e = .returned (.tuple #[.agg #[.int .i64 l.v, .string l.t, .string l.o, .int .u32 l.a, .int .i64 l.n, .int .u32 l.d, .int .i64 l.g], .bool true]) ∧ Below W.heap.size W w'))
    (HI : Hid (∀ W, Calls Tryz.prog 33 #[.int .i64 l.v] W fun e w' => e = .returned (.bool false) ∧ Below W.heap.size W w'))
    (HD : Hid (∀ W, Below w.heap.size w W → Calls Tryz.prog 35 #[.pointer (some ⟨x, 0, none⟩), .agg #[.int .i64 l.v, .string l.t, .string l.o, .int .u32 l.a, .int .i64 l.n, .int .u32 l.d, .int .i64 l.g]] W fun e w3 => ∃ bt nt ct, e = .returned (.agg #[.int .i64 k, .slice bt nt ct]) ∧ Rd 1 encS ⟨#[]⟩ w3 (.slice bt nt ct) L ∧ Below W.heap.size W w3))
    (HT : Hid (∀ W bt nt ct, Below w.heap.size w W → Rd 1 encS ⟨#[]⟩ W (.slice bt nt ct) L → Calls Tryz.prog 32 #[.agg #[.int .i64 k, .slice bt nt ct]] W fun e w' => e = .returned (.string text) ∧ Below W.heap.size W w')) :
    Calls Tryz.prog 14 #[.pointer (some ⟨x, 0, none⟩), .string line] w fun e w' => e = .returned (.string text) ∧ Below w.heap.size w w' := by
  go_enter Tryz.func14, Tryz.ntmps14
  go_wp2_with (first | (go_at_call 30; refine (HR.out _ (by repeat' (first | with_reducible assumption | with_reducible exact Below.refl _ _ | with_reducible apply Below.drew | with_reducible apply below_drewN | with_reducible apply Below.setCell | with_reducible apply Below.alloc | omega | (simp; done) | (simp; omega)))).mono ?_; rintro e w1 ⟨rfl, hq1⟩; have hb1 : Hid (Below w.heap.size w w1) := Below.trans (B := w.heap.size) (a := w) (by repeat' (first | with_reducible assumption | with_reducible exact Below.refl _ _ | with_reducible apply Below.drew | with_reducible apply below_drewN | with_reducible apply Below.setCell | with_reducible apply Below.alloc | omega | (simp; done) | (simp; omega))) (hq1.mono (by first | omega | (simp; done) | (simp; omega))); clear hq1) | (go_at_call 33; refine (HI.out _).mono ?_; rintro e w2 ⟨rfl, hq2⟩; have hb2 : Hid (Below w.heap.size w w2) := Below.trans (B := w.heap.size) (a := w) (by have hh := hb1.out; have hz := hb1.out.size; repeat' (first | with_reducible assumption | with_reducible exact Below.refl _ _ | with_reducible apply Below.drew | with_reducible apply below_drewN | with_reducible apply Below.setCell | with_reducible apply Below.alloc | omega | (simp; done) | (simp; omega))) (hq2.mono (by have hz := hb1.out.size; first | omega | (simp; omega))); have L2 : Hid (Blk w2 w1.heap.size #[.int .i64 l.v, .string l.t, .string l.o, .int .u32 l.a, .int .i64 l.n, .int .u32 l.d, .int .i64 l.g] 74) := (Blk.new w1 #[.int .i64 l.v, .string l.t, .string l.o, .int .u32 l.a, .int .i64 l.n, .int .u32 l.d, .int .i64 l.g] 74).below hq2; clear hq2; have m0 : w2.cell? ⟨w1.heap.size, 0, none⟩ = some (.int .i64 l.v) := L2.out.cell 0; have m1 : w2.cell? ⟨w1.heap.size, 1, none⟩ = some (.string l.t) := L2.out.cell 1; have m2 : w2.cell? ⟨w1.heap.size, 2, none⟩ = some (.string l.o) := L2.out.cell 2; have m3 : w2.cell? ⟨w1.heap.size, 3, none⟩ = some (.int .u32 l.a) := L2.out.cell 3; have m4 : w2.cell? ⟨w1.heap.size, 4, none⟩ = some (.int .i64 l.n) := L2.out.cell 4; have m5 : w2.cell? ⟨w1.heap.size, 5, none⟩ = some (.int .u32 l.d) := L2.out.cell 5; have m6 : w2.cell? ⟨w1.heap.size, 6, none⟩ = some (.int .i64 l.g) := L2.out.cell 6; have mz := L2.out.lt))
  go_region_held3 (fun w' => w'.cell? ⟨w1.heap.size, 0, none⟩ = some (.int .i64 l.v) ∧ w'.cell? ⟨w1.heap.size, 1, none⟩ = some (.string l.t) ∧ w'.cell? ⟨w1.heap.size, 2, none⟩ = some (.string l.o) ∧ w'.cell? ⟨w1.heap.size, 3, none⟩ = some (.int .u32 l.a) ∧ w'.cell? ⟨w1.heap.size, 4, none⟩ = some (.int .i64 l.n) ∧ w'.cell? ⟨w1.heap.size, 5, none⟩ = some (.int .u32 l.d) ∧ w'.cell? ⟨w1.heap.size, 6, none⟩ = some (.int .i64 l.g)) (go_keep) (first | (go_at_call 35; refine (HD.out _ (by have hh := hb2.out; have hz := hb2.out.size; repeat' (first | with_reducible assumption | with_reducible exact Below.refl _ _ | with_reducible apply Below.drew | with_reducible apply below_drewN | with_reducible apply Below.setCell | with_reducible apply Below.alloc | omega | (simp; done) | (simp; omega)))).mono ?_; rintro e w3 ⟨bt, nt, ct, rfl, hr3, hq3⟩; have hb3 : Hid (Below w.heap.size w w3) := Below.trans (B := w.heap.size) (a := w) (by have hh := hb2.out; have hz := hb2.out.size; repeat' (first | with_reducible assumption | with_reducible exact Below.refl _ _ | with_reducible apply Below.drew | with_reducible apply below_drewN | with_reducible apply Below.setCell | with_reducible apply Below.alloc | omega | (simp; done) | (simp; omega))) (hq3.mono (by have hz := hb2.out.size; first | omega | (simp; omega))); have L3 : Hid (Blk w3 w1.heap.size #[.int .i64 l.v, .string l.t, .string l.o, .int .u32 l.a, .int .i64 l.n, .int .u32 l.d, .int .i64 l.g] 74) := (hq3.block w1.heap.size (by first | exact L2.out.lt | (simp; exact L2.out.lt))).trans L2.out; clear hq3; replace hr3 : Hid (Rd 1 encS ⟨#[]⟩ w3 (.slice bt nt ct) L) := hr3; have n0 : w3.cell? ⟨w1.heap.size, 0, none⟩ = some (.int .i64 l.v) := L3.out.cell 0; have n1 : w3.cell? ⟨w1.heap.size, 1, none⟩ = some (.string l.t) := L3.out.cell 1; have n2 : w3.cell? ⟨w1.heap.size, 2, none⟩ = some (.string l.o) := L3.out.cell 2; have n3 : w3.cell? ⟨w1.heap.size, 3, none⟩ = some (.int .u32 l.a) := L3.out.cell 3; have n4 : w3.cell? ⟨w1.heap.size, 4, none⟩ = some (.int .i64 l.n) := L3.out.cell 4; have n5 : w3.cell? ⟨w1.heap.size, 5, none⟩ = some (.int .u32 l.d) := L3.out.cell 5; have n6 : w3.cell? ⟨w1.heap.size, 6, none⟩ = some (.int .i64 l.g) := L3.out.cell 6) | (go_at_call 32; refine (HT.out _ bt nt ct hb3.out hr3.out).mono ?_; rintro e w4 ⟨rfl, hq4⟩; have hb4 : Hid (Below w.heap.size w w4) := hb3.out.trans (hq4.mono hb3.out.size); have L4 : Hid (Blk w4 w1.heap.size #[.int .i64 l.v, .string l.t, .string l.o, .int .u32 l.a, .int .i64 l.n, .int .u32 l.d, .int .i64 l.g] 74) := L3.out.below hq4; clear hq4; have o0 : w4.cell? ⟨w1.heap.size, 0, none⟩ = some (.int .i64 l.v) := L4.out.cell 0; have o1 : w4.cell? ⟨w1.heap.size, 1, none⟩ = some (.string l.t) := L4.out.cell 1; have o2 : w4.cell? ⟨w1.heap.size, 2, none⟩ = some (.string l.o) := L4.out.cell 2; have o3 : w4.cell? ⟨w1.heap.size, 3, none⟩ = some (.int .u32 l.a) := L4.out.cell 3; have o4 : w4.cell? ⟨w1.heap.size, 4, none⟩ = some (.int .i64 l.n) := L4.out.cell 4; have o5 : w4.cell? ⟨w1.heap.size, 5, none⟩ = some (.int .u32 l.d) := L4.out.cell 5; have o6 : w4.cell? ⟨w1.heap.size, 6, none⟩ = some (.int .i64 l.g) := L4.out.cell 6))
  all_goals (
    go_wp2
    go_ret
    exact ⟨rfl, hb4.out⟩)
end Go.Proofs.YtlikdnmikdldfaaGreatDoor
