/-
  What the code's Write answers (packages blocks and acre), at every block.
-/
import Derived.Test.YtjnhhnbgjjkkjaaDoorTextCodeD
namespace Go.Proofs.YtjnhhnbgjjkkjaaDoor
open Go.ChangeShapes Go.WideShapes Go.ChangeAt Go.RowKit
set_option linter.unusedVariables false
set_option linter.unusedSimpArgs false
attribute [local go_sem ↓] Go.wp_at_zero Go.wp_at_succ

set_option maxHeartbeats 400000 in
theorem bwrite_no (a n : Int) (w : World) (ha : 0 ≤ a) (hb : a < 4294967296) (hr : rt a n = false) :
    Calls Tryd.prog 38 #[.agg #[.int .u32 a, .int .i64 n]] w fun e w' => e = .returned (.tuple #[.string ⟨#[]⟩, .int .i64 2]) ∧ Below w.heap.size w w' := by
  go_enter Tryd.func38, Tryd.ntmps38
  go_wp2_with (go_at_call 44; refine (right_any _ _ _ ha hb).mono ?_; rintro e w1 ⟨rfl, hb1⟩)
  go_ret2
  exact ⟨rfl, (by have hq := hb1.mono (B' := w.heap.size) (by first | omega | (simp; done) | (simp; omega)); have hq2 := Below.trans (B := w.heap.size) (a := w) (by repeat' (first | with_reducible assumption | with_reducible exact Below.refl _ _ | with_reducible apply Below.drew | with_reducible apply below_drewN | with_reducible apply Below.setCell | with_reducible apply Below.alloc | omega | (simp; done) | (simp; omega))) hq; clear hq; repeat' (first | with_reducible assumption | with_reducible exact Below.refl _ _ | with_reducible apply Below.drew | with_reducible apply below_drewN | with_reducible apply Below.setCell | with_reducible apply Below.alloc | omega | (simp; done) | (simp; omega)))⟩

set_option maxHeartbeats 1000000 in
theorem bwrite_yes (a n : Int) (w : World) (E0 : Env w) (ha : 0 ≤ a) (hb : a < 4294967296) (hr : rt a n = true) :
    Calls Tryd.prog 38 #[.agg #[.int .u32 a, .int .i64 n]] w fun e w' => e = .returned (.tuple #[.string (bs (wr a.toNat n.toNat)), .int .i64 0]) ∧ Below w.heap.size w w' := by
  have E : Hid (Env w) := E0
  clear E0
  obtain ⟨n0, n1, n2⟩ := rt_iff.1 hr
  clear n2
  have hd : (bs (dot a.toNat)).size ≤ 15 := by rw [bs_size]; exact dot_len _ (by omega)
  have hn : (bs (Lib.itoa n)).size ≤ 3 := by rw [bs_size, itoa_dec n n0]; exact dec_len3 _ (by omega)
  have hq : Hid (bs (dot a.toNat) ++ (⟨#[47]⟩ : ByteArray) ++ bs (Lib.itoa n) = bs (wr a.toNat n.toNat)) := (by rw [itoa_dec n n0]; exact wr_cat _ _ : bs (dot a.toNat) ++ (⟨#[47]⟩ : ByteArray) ++ bs (Lib.itoa n) = bs (wr a.toNat n.toNat))
  have hc1 : ¬ 9223372036854775807 < (bs (dot a.toNat)).size + 1 := by omega
  have hc2 : ¬ 9223372036854775807 < (bs (dot a.toNat)).size + 1 + (bs (Lib.itoa n)).size := by omega
  have hc3 : ¬ 9223372036854775807 < (bs (dot a.toNat)).size + (⟨#[47]⟩ : ByteArray).size := by rw [show (⟨#[47]⟩ : ByteArray).size = 1 from rfl]; omega
  have hc4 : ¬ 9223372036854775807 < (bs (dot a.toNat) ++ (⟨#[47]⟩ : ByteArray)).size + (bs (Lib.itoa n)).size := by rw [ByteArray.size_append, show (⟨#[47]⟩ : ByteArray).size = 1 from rfl]; omega
  go_enter Tryd.func38, Tryd.ntmps38
  go_wp2_with (go_at_call 44; refine (right_any _ _ _ ha hb).mono ?_; rintro e w1 ⟨rfl, hb1⟩; obtain ⟨hc, hf⟩ := bcell hb1; have c1_0_0 : w1.cell? ⟨w.heap.size, 0, none⟩ = some (.int .u32 a) := (by rw [hc _ _ (by first | omega | (simp; done) | (simp; omega))]; first | assumption | (rw [World.cell?_alloc_past _ _ _ (by omega)]; assumption) | (simp [go_sem, *]; done)); have c1_0_1 : w1.cell? ⟨w.heap.size, 1, none⟩ = some (.int .i64 n) := (by rw [hc _ _ (by first | omega | (simp; done) | (simp; omega))]; first | assumption | (rw [World.cell?_alloc_past _ _ _ (by omega)]; assumption) | (simp [go_sem, *]; done)); have z1_0 : w.heap.size < w1.heap.size := (by have := hb1.size; (try simp at this); omega); clear hc hf; have q1 : Hid (Below w.heap.size w w1) := Below.trans (B := w.heap.size) (a := w) (by repeat' (first | with_reducible assumption | with_reducible exact Below.refl _ _ | with_reducible apply Below.drew | with_reducible apply below_drewN | with_reducible apply Below.setCell | with_reducible apply Below.alloc | omega | (simp; done) | (simp; omega))) (hb1.mono (by simp)); have Ed : Hid (Env w1.drew) := (E.out.mono q1.out).mono (by repeat' (first | with_reducible assumption | with_reducible exact Below.refl _ _ | with_reducible apply Below.drew | with_reducible apply below_drewN | with_reducible apply Below.setCell | with_reducible apply Below.alloc | omega | (simp; done) | (simp; omega))))
  go_region_held3 (fun w' => w'.cell? ⟨w.heap.size, 0, none⟩ = some (.int .u32 a) ∧ w'.cell? ⟨w.heap.size, 1, none⟩ = some (.int .i64 n)) (go_keep) ((first | (go_at_call 52; refine (wa_any a _ (by first | exact E4.out | exact Ed.out) ha hb).mono ?_; rintro e w3 ⟨rfl, hb3⟩; have c3_0_0 : w3.cell? ⟨w.heap.size, 0, none⟩ = some (.int .u32 a) := (by first | exact (hb3.cell (p := ⟨w.heap.size, 0, none⟩) (by first | omega | (simp; omega))).trans c4_0_0 | exact (hb3.cell (p := ⟨w.heap.size, 0, none⟩) (by simp; omega)).trans (by simpa using c1_0_0)); have c3_0_1 : w3.cell? ⟨w.heap.size, 1, none⟩ = some (.int .i64 n) := (by first | exact (hb3.cell (p := ⟨w.heap.size, 1, none⟩) (by first | omega | (simp; omega))).trans c4_0_1 | exact (hb3.cell (p := ⟨w.heap.size, 1, none⟩) (by simp; omega)).trans (by simpa using c1_0_1)); have z3_0 : w.heap.size < w3.heap.size := (by have := hb3.size; (try simp at this); omega); have q3 : Hid (Below w.heap.size w w3) := (by first | exact q4.out.trans (hb3.mono (by omega)) | exact (Below.drew q1.out).trans (hb3.mono (by simp; omega))); have E3 : Hid (Env w3) := (by first | exact E4.out.mono hb3 | exact Ed.out.mono hb3)) | (go_at_call 53; refine (itoa_any n _ (by first | exact E3.out | exact Ed.out) (by omega) (by omega)).mono ?_; rintro e w4 ⟨rfl, hb4⟩; have c4_0_0 : w4.cell? ⟨w.heap.size, 0, none⟩ = some (.int .u32 a) := (by first | exact (hb4.cell (p := ⟨w.heap.size, 0, none⟩) (by first | omega | (simp; omega))).trans c3_0_0 | exact (hb4.cell (p := ⟨w.heap.size, 0, none⟩) (by simp; omega)).trans (by simpa using c1_0_0)); have c4_0_1 : w4.cell? ⟨w.heap.size, 1, none⟩ = some (.int .i64 n) := (by first | exact (hb4.cell (p := ⟨w.heap.size, 1, none⟩) (by first | omega | (simp; omega))).trans c3_0_1 | exact (hb4.cell (p := ⟨w.heap.size, 1, none⟩) (by simp; omega)).trans (by simpa using c1_0_1)); have z4_0 : w.heap.size < w4.heap.size := (by have := hb4.size; (try simp at this); omega); have q4 : Hid (Below w.heap.size w w4) := (by first | exact q3.out.trans (hb4.mono (by omega)) | exact (Below.drew q1.out).trans (hb4.mono (by simp; omega))); have E4 : Hid (Env w4) := (by first | exact E3.out.mono hb4 | exact Ed.out.mono hb4))))
  all_goals (go_wp2; rw [hq.out]; go_ret2; first | exact ⟨rfl, q4.out⟩ | exact ⟨rfl, q3.out⟩)

theorem bwrite_any (a n : Int) (w : World) (E : Env w) (ha : 0 ≤ a) (hb : a < 4294967296) :
    Calls Tryd.prog 38 #[.agg #[.int .u32 a, .int .i64 n]] w fun e w' => e = .returned (.tuple #[.string (wrS a n), .int .i64 (wrE a n)]) ∧ Below w.heap.size w w' := by
  rcases hr : rt a n with _ | _
  · have h := bwrite_no a n w ha hb hr
    simpa [wrS, wrE, hr] using h
  · have h := bwrite_yes a n w E ha hb hr
    simpa [wrS, wrE, hr] using h
set_option maxHeartbeats 400000 in
theorem awrite_any (a n : Int) (w : World) (E0 : Env w) (ha : 0 ≤ a) (hb : a < 4294967296) :
    Calls Tryd.prog 10 #[.agg #[.int .u32 a, .int .i64 n]] w fun e w' => e = .returned (.tuple #[.string (wrS a n), .int .i64 (wrE a n)]) ∧ Below w.heap.size w w' := by
  have E : Hid (Env w) := E0
  clear E0
  go_enter Tryd.func10, Tryd.ntmps10
  go_wp2_with (go_at_call 38; refine (bwrite_any a n _ (E.out.mono (by repeat' (first | with_reducible assumption | with_reducible exact Below.refl _ _ | with_reducible apply Below.drew | with_reducible apply below_drewN | with_reducible apply Below.setCell | with_reducible apply Below.alloc | omega | (simp; done) | (simp; omega)))) ha hb).mono ?_; rintro e w1 ⟨rfl, hb1⟩)
  go_ret2
  exact ⟨rfl, (by have hq := hb1.mono (B' := w.heap.size) (by first | omega | (simp; done) | (simp; omega)); have hq2 := Below.trans (B := w.heap.size) (a := w) (by repeat' (first | with_reducible assumption | with_reducible exact Below.refl _ _ | with_reducible apply Below.drew | with_reducible apply below_drewN | with_reducible apply Below.setCell | with_reducible apply Below.alloc | omega | (simp; done) | (simp; omega))) hq; clear hq; repeat' (first | with_reducible assumption | with_reducible exact Below.refl _ _ | with_reducible apply Below.drew | with_reducible apply below_drewN | with_reducible apply Below.setCell | with_reducible apply Below.alloc | omega | (simp; done) | (simp; omega)))⟩
end Go.Proofs.YtjnhhnbgjjkkjaaDoor
