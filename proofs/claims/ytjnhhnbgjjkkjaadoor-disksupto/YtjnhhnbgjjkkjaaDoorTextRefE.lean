/-
  The contracts of the document's writers (package acreref): Address, Text, Write.
-/
import Derived.Test.YtjnhhnbgjjkkjaaDoorTextRef
namespace Go.Proofs.YtjnhhnbgjjkkjaaDoor
open Go.ChangeShapes Go.WideShapes Go.ChangeAt Go.RowKit
set_option linter.unusedVariables false
set_option linter.unusedSimpArgs false

/-- the last k + 1 numbers of an address, as they are written -/
def tl (a : Nat) : Nat → List UInt8
  | 0 => dec (a % 256)
  | k + 1 => dec (a / 256 ^ (k + 1) % 256) ++ 46 :: tl a k
theorem dec_len3 (n : Nat) (h : n < 1000) : (dec n).length ≤ 3 := by
  rw [dec_3 n h]; unfold dec3; split
  · simp
  · split <;> simp
theorem tl_len (a k : Nat) : (tl a k).length ≤ 4 * k + 3 := by
  induction k with
  | zero => exact dec_len3 _ (by omega)
  | succ k ih =>
    have := dec_len3 (a / 256 ^ (k + 1) % 256) (by omega)
    simp only [tl, List.length_append, List.length_cons]; omega
theorem tl_dot (a : Nat) (h : a < 4294967296) : tl a 3 = dot a := by
  simp only [tl, dot]
  rw [show a / 256 ^ (2 + 1) % 256 = a / 16777216 by omega, show a / 256 ^ (1 + 1) % 256 = a / 65536 % 256 by omega, show a / 256 ^ (0 + 1) % 256 = a / 256 % 256 by omega]
def dotB : ByteArray := ⟨#[46]⟩
def slashB : ByteArray := ⟨#[47]⟩

theorem tl_step (a x : Int) (st : ByteArray) (k : Nat) (h0 : 0 ≤ a) (hx : x = a / 256 ^ k) (hs : st = bs (tl a.toNat k)) :
    x / 256 = a / 256 ^ (k + 1) ∧ bs (dec (x / 256 % 256).toNat) ++ (⟨#[46]⟩ : ByteArray) ++ st = bs (tl a.toNat (k + 1)) := by
  have e : x / 256 = a / 256 ^ (k + 1) := by rw [hx, Int.pow_succ, Int.ediv_ediv_of_nonneg (Int.pow_nonneg (by decide))]
  refine ⟨e, ?_⟩
  have e2 : (x / 256 % 256).toNat = a.toNat / 256 ^ (k + 1) % 256 := by
    rw [e]
    have ha : a = (a.toNat : Int) := by omega
    have hp : ((256 : Int) ^ (k + 1)) = ((256 ^ (k + 1) : Nat) : Int) := by simp
    rw [ha, hp, ← Int.natCast_ediv]
    simp only [Int.toNat_natCast]
    omega
  rw [e2, hs, show (⟨#[46]⟩ : ByteArray) = bs [46] from rfl, bs_append, bs_append]
  simp [tl]
theorem wr_cat (a n : Nat) : bs (dot a) ++ (⟨#[47]⟩ : ByteArray) ++ bs (dec n) = bs (wr a n) := by
  rw [show (⟨#[47]⟩ : ByteArray) = bs [47] from rfl, bs_append, bs_append]
  simp [wr]

set_option maxRecDepth 1000000 in
set_option maxHeartbeats 1000000 in
theorem raddr_text (a : Int) (w : World) (h0 : 0 ≤ a) (h1 : a < 4294967296) :
    Calls Tryd.prog 54 #[.int .u32 a] w fun e w' => e = .returned (.string (bs (dot a.toNat))) ∧ Below w.heap.size w w' := by
  go_enter Tryd.func54, Tryd.ntmps54
  go_wp2_with (go_at_call 50; refine (rdigits_any _ _ (by omega) (by omega)).mono ?_; rintro e w1 ⟨rfl, hb1⟩)
  go_loopw [3, 4, 5] (fun m t i wr => ∃ (k : Nat) (x : Int) (st : ByteArray), k ≤ 3 ∧ 0 ≤ x ∧ x ≤ 4294967295 ∧ m = .int .i64 x ∧ t = .string st ∧ i = .int .i64 k ∧ Hid (x = a / 256 ^ k ∧ st = bs (tl a.toNat k)) ∧ Below w.heap.size w wr) (fun _ _ i _ => 3 - (intOf i).toNat)
  case atStart => exact ⟨0, a, _, by omega, h0, by omega, rfl, rfl, rfl, ⟨by simp, by simp only [tl]; congr 2; omega⟩, hb1⟩
  case round =>
    obtain ⟨k, x, st, hk, hx0, hx1, rfl, rfl, rfl, H, hb⟩ := hrel
    have hst : st.size ≤ 100 := by rw [H.out.2, bs_size]; have := tl_len a.toNat k; omega
    by_cases hlt : k < 3
    · have hd : (bs (dec (x / 256 % 256).toNat)).size ≤ 3 := by rw [bs_size]; exact dec_len3 _ (by omega)
      go_wp2_with (go_at_call 50; refine (rdigits_any _ _ (by omega) (by omega)).mono ?_; rintro e w2 ⟨rfl, hb2⟩)
      go_roundw
      case rel => exact ⟨k + 1, x / 256, _, by omega, by omega, by omega, rfl, rfl, by go_num, tl_step a x st k h0 H.out.1 H.out.2, hb.trans (hb2.mono hb.size)⟩
      case measure => simp [intOf]; omega
    · obtain rfl : k = 3 := by omega
      go_wp2
      go_ret
      exact ⟨ret_str (by rw [H.out.2, tl_dot _ (by omega)]), hb⟩

set_option maxHeartbeats 400000 in
theorem rtext_any (a n : Int) (w : World) (h0 : 0 ≤ a) (h1 : a < 4294967296) (n0 : 0 ≤ n) (n1 : n ≤ 32) :
    Calls Tryd.prog 39 #[.agg #[.int .u32 a, .int .i64 n]] w fun e w' => e = .returned (.string (bs (wr a.toNat n.toNat))) ∧ Below w.heap.size w w' := by
  have hd : (bs (dot a.toNat)).size ≤ 100 := by rw [bs_size, ← tl_dot _ (by omega)]; have := tl_len a.toNat 3; omega
  have hn : (bs (dec n.toNat)).size ≤ 3 := by rw [bs_size]; exact dec_len3 _ (by omega)
  have hq : Hid (bs (dot a.toNat) ++ (⟨#[47]⟩ : ByteArray) ++ bs (dec n.toNat) = bs (wr a.toNat n.toNat)) := wr_cat _ _
  go_enter Tryd.func39, Tryd.ntmps39
  go_wp2_with (first | (go_at_call 54; refine (raddr_text _ _ h0 h1).mono ?_; rintro e w1 ⟨rfl, hb1⟩; obtain ⟨hc, hf⟩ := bcell hb1; have hk0 : w1.cell? ⟨w.heap.size, 0, none⟩ = some (.int .u32 a) := (by simp [hc, go_sem]); have hk1 : w1.cell? ⟨w.heap.size, 1, none⟩ = some (.int .i64 n) := (by simp [hc, go_sem]); have hz0 : w.heap.size < w1.heap.size := (by have := hb1.size; (try simp at this); omega); clear hc hf) | (go_at_call 50; refine (rdigits_any _ _ n0 (by omega)).mono ?_; rintro e w2 ⟨rfl, hb2⟩))
  go_ret
  exact ⟨ret_str hq.out, (by have hq := hb1.mono (B' := w.heap.size) (by first | omega | (simp; done) | (simp; omega)); have hq2 := Below.trans (B := w.heap.size) (a := w) (by repeat' (first | with_reducible assumption | with_reducible exact Below.refl _ _ | with_reducible apply Below.drew | with_reducible apply below_drewN | with_reducible apply Below.setCell | with_reducible apply Below.alloc | omega | (simp; done) | (simp; omega))) hq; clear hq; have hq3 := Below.trans (B := w.heap.size) (a := w) (by repeat' (first | with_reducible assumption | with_reducible exact Below.refl _ _ | with_reducible apply Below.drew | with_reducible apply below_drewN | with_reducible apply Below.setCell | with_reducible apply Below.alloc | omega | (simp; done) | (simp; omega))) (hb2.mono (B' := w.heap.size) (by first | omega | (simp; done) | (simp; omega))); clear hq2; repeat' (first | with_reducible assumption | with_reducible exact Below.refl _ _ | with_reducible apply Below.drew | with_reducible apply below_drewN | with_reducible apply Below.setCell | with_reducible apply Below.alloc | omega | (simp; done) | (simp; omega)))⟩

/-- what Write answers -/
def wrS (a n : Int) : ByteArray := if rt a n then bs (wr a.toNat n.toNat) else ⟨#[]⟩
def wrE (a n : Int) : Int := if rt a n then 0 else 2
set_option maxHeartbeats 400000 in
theorem rwrite_any (a n : Int) (w : World) (ha : 0 ≤ a) (hb : a < 4294967296) :
    Calls Tryd.prog 11 #[.agg #[.int .u32 a, .int .i64 n]] w fun e w' => e = .returned (.tuple #[.string (wrS a n), .int .i64 (wrE a n)]) ∧ Below w.heap.size w w' := by
  rcases hr : rt a n with _ | _
  · have e1 : wrS a n = ⟨#[]⟩ := by simp [wrS, hr]
    have e2 : wrE a n = 2 := by simp [wrE, hr]
    rw [e1, e2]
    clear e1 e2
    go_enter Tryd.func11, Tryd.ntmps11
    go_wp2_with (go_at_call 37; refine (rright_any _ _ _ ha hb).mono ?_; rintro e w1 ⟨rfl, hb1⟩; obtain ⟨hc, hf⟩ := bcell hb1; have hk0 : w1.cell? ⟨w.heap.size, 0, none⟩ = some (.int .u32 a) := (by simp [hc, go_sem]); have hk1 : w1.cell? ⟨w.heap.size, 1, none⟩ = some (.int .i64 n) := (by simp [hc, go_sem]); have hz0 : w.heap.size < w1.heap.size := (by have := hb1.size; (try simp at this); omega); clear hc hf)
    go_ret2
    exact ⟨rfl, (by have hq := hb1.mono (B' := w.heap.size) (by first | omega | (simp; done) | (simp; omega)); have hq2 := Below.trans (B := w.heap.size) (a := w) (by repeat' (first | with_reducible assumption | with_reducible exact Below.refl _ _ | with_reducible apply Below.drew | with_reducible apply below_drewN | with_reducible apply Below.setCell | with_reducible apply Below.alloc | omega | (simp; done) | (simp; omega))) hq; clear hq; repeat' (first | with_reducible assumption | with_reducible exact Below.refl _ _ | with_reducible apply Below.drew | with_reducible apply below_drewN | with_reducible apply Below.setCell | with_reducible apply Below.alloc | omega | (simp; done) | (simp; omega)))⟩
  · obtain ⟨n0, n1, n2⟩ := rt_iff.1 hr
    have e1 : wrS a n = bs (wr a.toNat n.toNat) := by simp [wrS, hr]
    have e2 : wrE a n = 0 := by simp [wrE, hr]
    rw [e1, e2]
    clear e1 e2 n2
    go_enter Tryd.func11, Tryd.ntmps11
    go_wp2_with (first | (go_at_call 37; refine (rright_any _ _ _ ha hb).mono ?_; rintro e w1 ⟨rfl, hb1⟩; obtain ⟨hc, hf⟩ := bcell hb1; have hk0 : w1.cell? ⟨w.heap.size, 0, none⟩ = some (.int .u32 a) := (by simp [hc, go_sem]); have hk1 : w1.cell? ⟨w.heap.size, 1, none⟩ = some (.int .i64 n) := (by simp [hc, go_sem]); have hz0 : w.heap.size < w1.heap.size := (by have := hb1.size; (try simp at this); omega); clear hc hf) | (go_at_call 39; refine (rtext_any _ _ _ ha hb n0 n1).mono ?_; rintro e w2 ⟨rfl, hb2⟩))
    go_ret2
    exact ⟨rfl, (by have hq := hb1.mono (B' := w.heap.size) (by first | omega | (simp; done) | (simp; omega)); have hq2 := Below.trans (B := w.heap.size) (a := w) (by repeat' (first | with_reducible assumption | with_reducible exact Below.refl _ _ | with_reducible apply Below.drew | with_reducible apply below_drewN | with_reducible apply Below.setCell | with_reducible apply Below.alloc | omega | (simp; done) | (simp; omega))) hq; clear hq; have hq3 := Below.trans (B := w.heap.size) (a := w) (by repeat' (first | with_reducible assumption | with_reducible exact Below.refl _ _ | with_reducible apply Below.drew | with_reducible apply below_drewN | with_reducible apply Below.setCell | with_reducible apply Below.alloc | omega | (simp; done) | (simp; omega))) (hb2.mono (B' := w.heap.size) (by first | omega | (simp; done) | (simp; omega))); clear hq2; repeat' (first | with_reducible assumption | with_reducible exact Below.refl _ _ | with_reducible apply Below.drew | with_reducible apply below_drewN | with_reducible apply Below.setCell | with_reducible apply Below.alloc | omega | (simp; done) | (simp; omega)))⟩
end Go.Proofs.YtjnhhnbgjjkkjaaDoor
