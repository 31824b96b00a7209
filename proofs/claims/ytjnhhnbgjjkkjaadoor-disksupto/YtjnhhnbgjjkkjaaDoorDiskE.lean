/-
  Disks: Write of both packages, the document's Read.
-/
import Derived.Test.YtjnhhnbgjjkkjaaDoorDiskD
import Derived.Deep.RegionHeldLaw
import Derived.Deep.RegionLaw
namespace Go.Proofs.YtjnhhnbgjjkkjaaDoor
open Go.ChangeShapes Go.WideShapes Go.ChangeAt Go.RowKit
set_option linter.unusedVariables false
set_option linter.unusedSimpArgs false

theorem or_of {p q r : Prop} (h : p ∨ q) (f : q → r) : p ∨ r := by
  rcases h with h | h
  · exact .inl h
  · exact .inr (f h)
def DPt (ρ : Nat → Nat) (k : Nat) (w : World) (g : Nat) (vs vn vl : Value) (A : PD) : Prop :=
  ρ g = 4 * k + 1 ∧ Blk w g (dB vs vn vl A.left A.st) 80 ∧ RdZ ρ w vs A.safe ∧ RdZ ρ w vn A.now ∧ Own ρ (4 * k + 3) w 85 vl A.loose
theorem DPt.at {ρ : Nat → Nat} {k : Nat} {w : World} {g : Nat} {vs vn vl : Value} {A : PD} (h : DPt ρ k w g vs vn vl A) : DAt ρ k w g A := ⟨h.1, vs, vn, vl, h.2⟩
theorem DPt.step {R : Nat → Prop} {ρ ρ' : Nat → Nat} {w w' : World} {k g : Nat} {vs vn vl : Value} {A : PD} (h : DPt ρ k w g vs vn vl A) (s : Stp R ρ ρ' w w') (h0 : ¬ R 0) (h1 : ¬ R (4 * k + 1)) (h3 : ¬ R (4 * k + 3)) : DPt ρ' k w' g vs vn vl A := by
  obtain ⟨hr, hb, hs, hn, hl⟩ := h
  exact ⟨(s.role g hb.lt).trans hr, hb.step s (by rw [hr]; exact h1), hs.step s h0, hn.step s h0, hl.step s h3⟩
def RPt (ρ : Nat → Nat) (k : Nat) (w : World) (g : Nat) (vp : Value) (B : RD) : Prop :=
  ρ g = 4 * k + 2 ∧ Blk w g (rB vp B.safe B.left B.st) 83 ∧ Own ρ (4 * k + 4) w 89 vp B.puts
theorem RPt.at {ρ : Nat → Nat} {k : Nat} {w : World} {g : Nat} {vp : Value} {B : RD} (h : RPt ρ k w g vp B) : RAt ρ k w g B := ⟨h.1, vp, h.2⟩
theorem RPt.step {R : Nat → Prop} {ρ ρ' : Nat → Nat} {w w' : World} {k g : Nat} {vp : Value} {B : RD} (h : RPt ρ k w g vp B) (s : Stp R ρ ρ' w w') (h1 : ¬ R (4 * k + 2)) (h3 : ¬ R (4 * k + 4)) : RPt ρ' k w' g vp B := by
  obtain ⟨hr, hb, hl⟩ := h
  exact ⟨(s.role g hb.lt).trans hr, hb.step s (by rw [hr]; exact h1), hl.step s h3⟩
theorem Stp.set {R : Nat → Prop} {ρ : Nat → Nat} {w : World} {g : Nat} (hc : Clean ρ w) (hg : R (ρ g)) (i : Nat) (v : Value) : Stp R ρ ρ w (w.setCell ⟨g, i, none⟩ v) :=
  ⟨rfl, rfl, rfl, by simp [World.setCell], fun _ _ => rfl, fun b _ hr => Below.heap_setCell _ _ _ _ (fun e => hr (e ▸ hg)), fun b hb => hc b (by simpa [World.setCell] using hb)⟩
/-- an append to a row that is one owner's -/
theorem Stp.grown {R : Nat → Prop} {ρ : Nat → Nat} {w w' : World} {row : Option Nat} {g r : Nat} (hc : Clean ρ w) (hg : w.grownBy w' row) (hrow : ∀ b, row = some b → ρ b = r) (hR : R r) (hat : row = some g ∨ g = w.heap.size) (hlt : g < w'.heap.size) : Stp R ρ (ru ρ g r) w w' := by
  refine ⟨hg.os, hg.tape, hg.output, hg.size, fun b hb => ?_, fun b hb hr => hg.block b hb (fun e => hr (by rw [hrow b e.symm]; exact hR)), fun b hb => ?_⟩
  · by_cases e : b = g
    · subst e
      rcases hat with h | h
      · rw [ru_at, hrow b h]
      · omega
    · exact ru_ne _ _ _ e
  · rw [ru_ne _ _ _ (by omega)]
    exact hc b (Nat.le_trans hg.size hb)
theorem Stp.clean0 {R : Nat → Prop} {ρ ρ' : Nat → Nat} {w w' : World} (h : Stp R ρ ρ' w w') : Clean ρ' w' := h.clean

/-- what Write answers and leaves -/
def wOk (left : Int) (st : Bool) (s : Int) (d : ByteArray) : Bool := okS left st && (decide (0 ≤ s) && (decide (s < 256) && decide (d.size ≤ 64)))
def writeD (A : PD) (s : Int) (d : ByteArray) : PD :=
  if wOk A.left A.st s d then { A with now := putL A.now (s, fulB d), loose := A.loose ++ [(s, fulB d)], left := leftS A.left A.st, st := stS A.left A.st }
  else { A with left := leftS A.left A.st, st := stS A.left A.st }
def writeR (B : RD) (s : Int) (d : ByteArray) : RD :=
  if wOk B.left B.st s d then { B with puts := B.puts ++ [(s, fulB d)], left := leftS B.left B.st, st := stS B.left B.st }
  else { B with left := leftS B.left B.st, st := stS B.left B.st }

theorem putL_pos (l : List (Int × ByteArray)) (c : Int × ByteArray) : 0 < (putL l c).length := by
  cases l with
  | nil => simp [putL, has]
  | cons a r => unfold putL; split <;> simp
/-- the end of the program's Write -/
theorem write_d_end {ρ : Nat → Nat} {k g : Nat} {w w1 wa w2 wz w3 : World} {vs vn vl v2 : Value} {A : PD} {s : Int} {f : ByteArray} {L : Int} {S : Bool} {g3 cap : Nat}
    (hc : Clean ρ w) (h : DPt ρ k w g vs vn vl A) (hu : Upd w w1 g (dB vs vn vl L S) 80)
    (ha : Below w1.heap.size w1 wa) (h2 : Below wa.heap.size wa w2) (o2 : w2.ownsRow wa.heap.size 85 2 v2 (putL A.now (s, f)).length (cvs (putL A.now (s, f))))
    (hz : Below (w2.setCell ⟨g, 1, none⟩ v2).heap.size (w2.setCell ⟨g, 1, none⟩ v2) wz)
    (o3 : w3.ownsRow 0 85 2 (.slice (some ⟨g3, 0, none⟩) (A.loose.length + 1) cap) (A.loose.length + 1) (cvs A.loose ++ [.int .i64 s, .string f]))
    (hg3 : wz.grownBy w3 vl.ownBlock) (hat : vl.ownBlock = some g3 ∨ g3 = wz.heap.size) (hlt : g3 < w3.heap.size) :
    ∃ ρ', DAt ρ' k (w3.setCell ⟨g, 2, none⟩ (.slice (some ⟨g3, 0, none⟩) (A.loose.length + 1) cap)) g { A with now := putL A.now (s, f), loose := A.loose ++ [(s, f)], left := L, st := S } ∧
      Stp (RDk k) ρ ρ' w (w3.setCell ⟨g, 2, none⟩ (.slice (some ⟨g3, 0, none⟩) (A.loose.length + 1) cap)) := by
  obtain ⟨hr, hb, hs, hn, hl⟩ := h
  have hgR : RDk k (ρ g) := .inl hr
  have h0R : ¬ RDk k 0 := by unfold RDk; omega
  have S1 : Stp (RDk k) ρ ρ w w1 := Stp.upd hc hu hgR
  have S1' : Stp (fun r => r = 4 * k + 1) ρ ρ w w1 := Stp.upd hc hu hr
  have S2 : Stp (fun _ => False) ρ ρ w1 w2 := (Stp.below S1.clean ha).trans (Stp.below (fun b hb => S1.clean b (Nat.le_trans ha.size hb)) h2)
  have B2 : Blk w2 g (dB vs vn vl L S) 80 := hu.blk.step S2 (fun h => h)
  have S3 : Stp (fun r => r = 4 * k + 1) ρ ρ w2 (w2.setCell ⟨g, 1, none⟩ v2) := Stp.set S2.clean hr 1 v2
  have S4 : Stp (fun _ => False) ρ ρ (w2.setCell ⟨g, 1, none⟩ v2) wz := Stp.below S3.clean hz
  have B4 : Blk wz g (dB vs v2 vl L S) 80 := Blk.step (show Blk (w2.setCell ⟨g, 1, none⟩ v2) g (dB vs v2 vl L S) 80 from B2.set 1 v2) S4 (fun h => h)
  have hown : ∀ b, vl.ownBlock = some b → ρ b = 4 * k + 3 := hl.2
  have S5 : Stp (fun r => r = 4 * k + 3) ρ (ru ρ g3 (4 * k + 3)) wz w3 := Stp.grown S4.clean hg3 hown rfl hat hlt
  have hr5 : ru ρ g3 (4 * k + 3) g = 4 * k + 1 := (S5.role g B4.lt).trans hr
  have S6 : Stp (fun r => r = 4 * k + 1) (ru ρ g3 (4 * k + 3)) (ru ρ g3 (4 * k + 3)) w3 (w3.setCell ⟨g, 2, none⟩ (.slice (some ⟨g3, 0, none⟩) (A.loose.length + 1) cap)) := Stp.set S5.clean hr5 2 _
  have n0 : ¬ (0 = 4 * k + 1) := by omega
  have n3 : ¬ (0 = 4 * k + 3) := by omega
  have F1 : ∀ r, (fun r => r = 4 * k + 1) r → RDk k r := fun r h => .inl h
  have F3 : ∀ r, (fun r => r = 4 * k + 3) r → RDk k r := fun r h => .inr h
  refine ⟨ru ρ g3 (4 * k + 3), ⟨hr5, vs, v2, .slice (some ⟨g3, 0, none⟩) (A.loose.length + 1) cap, ?_, ?_, ?_, ?_⟩, ?_⟩
  · exact (B4.step S5 (by rw [hr]; omega)).set 2 _
  · exact (((((hs.step S1' n0).step S2 (fun h => h)).step S3 n0).step S4 (fun h => h)).step S5 n3).step S6 n0
  · have hz2 : RdZ ρ w2 v2 (putL A.now (s, f)) := RdZ.made (fun b hb => S1.clean b (Nat.le_trans ha.size hb)) o2
    exact (((hz2.step S3 n0).step S4 (fun h => h)).step S5 n3).step S6 n0
  · have e : A.loose.length + 1 = (A.loose ++ [(s, f)]).length := by simp
    have o4 : Own (ru ρ g3 (4 * k + 3)) (4 * k + 3) w3 85 (.slice (some ⟨g3, 0, none⟩) (A.loose.length + 1) cap) (A.loose ++ [(s, f)]) := by
      refine ⟨?_, fun b hb => ?_⟩
      · rw [← e, ← cvs_snoc]; exact o3
      · obtain rfl : g3 = b := by simpa [Value.ownBlock] using hb
        exact ru_at _ _ _
    exact o4.step S6 (by omega)
  · exact ((((S1.trans (S2.mono (fun _ h => h.elim))).trans (S3.mono F1)).trans (S4.mono (fun _ h => h.elim))).trans (S5.mono F3)).trans (S6.mono F1)

set_option maxRecDepth 1000000 in
set_option maxHeartbeats 1000000 in
theorem write_d (ρ : Nat → Nat) (k : Nat) (w : World) (g : Nat) (A : PD) (s : Int) (d : ByteArray) (hc : Clean ρ w) (h1 : A.left < 9223372036854775808) (hn : A.now.length ≤ 2097152) (hlo : A.loose.length ≤ 2097152) (hdm : d.size ≤ 2097152) (h : DAt ρ k w g A) :
    Calls Tryd.prog 20 #[.pointer (some ⟨g, 0, none⟩), .int .i64 s, .string d] w fun e w' => e = .returned (.bool (wOk A.left A.st s d)) ∧ ∃ ρ', DAt ρ' k w' g (writeD A s d) ∧ Stp (RDk k) ρ ρ' w w' := by
  obtain ⟨hr, vs, vn, vl, hb, hs, hnn, hl⟩ := h
  have hst : Hid (Calls Tryd.prog 45 #[.pointer (some ⟨g, 0, none⟩)] w fun e w' => e = .returned (.bool (okS A.left A.st)) ∧ Upd w w' g (dB vs vn vl (leftS A.left A.st) (stS A.left A.st)) 80) := step_d w g vs vn vl A.left A.st h1 hb
  have hgR : RDk k (ρ g) := .inl hr
  have h0R : ¬ RDk k 0 := by unfold RDk; omega
  rcases hw : wOk A.left A.st s d with _ | _
  · have e : writeD A s d = { A with left := leftS A.left A.st, st := stS A.left A.st } := by unfold writeD; rw [hw]; rfl
    rw [e]
    have hfin : Hid (∀ w', Upd w w' g (dB vs vn vl (leftS A.left A.st) (stS A.left A.st)) 80 → ∃ ρ', DAt ρ' k w' g { A with left := leftS A.left A.st, st := stS A.left A.st } ∧ Stp (RDk k) ρ ρ' w w') := fun w' hu => by
      have S : Stp (RDk k) ρ ρ w w' := Stp.upd hc hu hgR
      have S3 : Stp (fun r => r = 4 * k + 1) ρ ρ w w' := Stp.upd hc hu hr
      exact ⟨ρ, ⟨hr, vs, vn, vl, hu.blk, hs.step S h0R, hnn.step S h0R, hl.step S3 (by omega)⟩, S⟩
    clear hb hs hnn hl e
    rcases hok : okS A.left A.st with _ | _
    · rw [hok] at hst
      go_enter Tryd.func20, Tryd.ntmps20
      go_wp2_with (go_at_call 45; refine hst.out.mono ?_; rintro e w1 ⟨rfl, hu⟩; have HU : Hid (Upd w w1 g (dB vs vn vl (leftS A.left A.st) (stS A.left A.st)) 80) := hu; clear hu)
      go_ret
      exact ⟨rfl, hfin.out _ HU.out⟩
    · rw [hok] at hst
      have hw' : ¬ (0 ≤ s ∧ s < 256 ∧ d.size ≤ 64) := by intro ⟨a, b, c⟩; simp [wOk, hok, a, b, c] at hw
      by_cases s0 : s < 0
      · go_enter Tryd.func20, Tryd.ntmps20
        go_wp2_with (go_at_call 45; refine hst.out.mono ?_; rintro e w1 ⟨rfl, hu⟩; have HU : Hid (Upd w w1 g (dB vs vn vl (leftS A.left A.st) (stS A.left A.st)) 80) := hu; clear hu)
        go_ret
        exact ⟨rfl, hfin.out _ HU.out⟩
      · by_cases s1 : 256 ≤ s
        · go_enter Tryd.func20, Tryd.ntmps20
          go_wp2_with (go_at_call 45; refine hst.out.mono ?_; rintro e w1 ⟨rfl, hu⟩; have HU : Hid (Upd w w1 g (dB vs vn vl (leftS A.left A.st) (stS A.left A.st)) 80) := hu; clear hu)
          go_ret
          exact ⟨rfl, hfin.out _ HU.out⟩
        · have s2 : 64 < d.size := by omega
          clear hw'
          go_enter Tryd.func20, Tryd.ntmps20
          go_wp2_with (go_at_call 45; refine hst.out.mono ?_; rintro e w1 ⟨rfl, hu⟩; have HU : Hid (Upd w w1 g (dB vs vn vl (leftS A.left A.st) (stS A.left A.st)) 80) := hu; clear hu)
          go_ret
          exact ⟨rfl, hfin.out _ HU.out⟩
  · have hq : okS A.left A.st = true ∧ 0 ≤ s ∧ s < 256 ∧ d.size ≤ 64 := by simpa [wOk] using hw
    obtain ⟨hok, s0, s1, hd⟩ := hq
    have e : writeD A s d = { A with now := putL A.now (s, fulB d), loose := A.loose ++ [(s, fulB d)], left := leftS A.left A.st, st := stS A.left A.st } := by unfold writeD; rw [hw]; rfl
    rw [e]
    rw [hok] at hst
    have hmk : ∀ w, (Instr.makeSlice 71 (.int .i64 (64 - (d.size : Int))) (.int .i64 (64 - (d.size : Int)))).run Tryd.prog w = .ok (.slice (some ⟨w.heap.size, 0, none⟩) (64 - d.size) (64 - d.size)) (w.alloc (.cells (madeCells #[.int .u8 0] (64 - d.size)) 5)) := fun w => by
      rw [show (64 - (d.size : Int)) = ((64 - d.size : Nat) : Int) by omega]
      exact run_make_row' (P := Tryd.prog) 71 5 (.int .u8 0) 1 Tryd.underlying71 infoB rfl .i64 .i64 (64 - d.size) (by omega) (by omega) w
    have hcv := conv_zero (64 - d.size)
    have hpt : Hid (∀ w', RdZ ρ w' vn A.now → Calls Tryd.prog 46 #[vn, .agg #[.int .i64 s, .string (fulB d)]] w' fun e w'' => ∃ v', e = .returned v' ∧ w''.ownsRow w'.heap.size 85 2 v' (putL A.now (s, fulB d)).length (cvs (putL A.now (s, fulB d))) ∧ Below w'.heap.size w' w'') := fun w' h => put_any vn A.now s (fulB d) w' hn h.1
    have hpp := putL_pos A.now (s, fulB d)
    have hzs : (zb (64 - d.size)).size = 64 - d.size := by simp [zb, bs_size]
    have HF : Hid (d ++ zb (64 - d.size) = fulB d) := rfl
    clear hw e
    go_enter Tryd.func20, Tryd.ntmps20
    go_wp2_with (go_at_call 45; refine hst.out.mono ?_; rintro e w1 ⟨rfl, hu⟩; have HU : Hid (Upd w w1 g (dB vs vn vl (leftS A.left A.st) (stS A.left A.st)) 80) := hu; have c1 : w1.cell? ⟨g, 1, none⟩ = some vn := (hu.blk.cell 1); have c2 : w1.cell? ⟨g, 2, none⟩ = some vl := (hu.blk.cell 2); have f1 : w1.frozen? ⟨g, 1, none⟩ = false := (hu.blk.frozen 1); have f2 : w1.frozen? ⟨g, 2, none⟩ = false := (hu.blk.frozen 2); have gz : g < w1.heap.size := hu.blk.lt; clear hu)
    have hq1 : Hid (RdZ ρ ((w1.alloc (.cells (madeCells #[.int .u8 0] (64 - d.size)) 5)).alloc (.cells #[.int .i64 s, .string (d ++ zb (64 - d.size))] 85)).drew vn A.now) := by
      have S1 : Stp (RDk k) ρ ρ w w1 := Stp.upd hc HU.out hgR
      have S2 : Stp (RDk k) ρ ρ w1 ((w1.alloc (.cells (madeCells #[.int .u8 0] (64 - d.size)) 5)).alloc (.cells #[.int .i64 s, .string (d ++ zb (64 - d.size))] 85)).drew :=
        Stp.drew ((Stp.alloc0 S1.clean _).trans (Stp.alloc0 (Stp.alloc0 (R := RDk k) S1.clean _).clean _))
      exact (hnn.step S1 h0R).step S2 h0R
    rw [HF.out] at hq1 ⊢
    go_region_with (go_at_call 46; refine (hpt.out _ hq1.out).mono ?_; rintro e w2 ⟨v2, rfl, hown2, hb2⟩; obtain ⟨g2, cap2, hv2, hg2, hl2⟩ := hown2.form hpp; subst hv2; have f21 : w2.frozen? ⟨g, 1, none⟩ = false := (by rw [hb2.frozen (p := ⟨g, 1, none⟩) (by simp; omega)]; simp [go_sem, f1, gz]); have c21 : w2.cell? ⟨g, 1, none⟩ = some vn := (by rw [hb2.cell (p := ⟨g, 1, none⟩) (by simp; omega)]; simp [go_sem, c1, gz]); have f22 : w2.frozen? ⟨g, 2, none⟩ = false := (by rw [hb2.frozen (p := ⟨g, 2, none⟩) (by simp; omega)]; simp [go_sem, f2, gz]); have c22 : w2.cell? ⟨g, 2, none⟩ = some vl := (by rw [hb2.cell (p := ⟨g, 2, none⟩) (by simp; omega)]; simp [go_sem, c2, gz]); have b20 : w2.cell? ⟨w1.heap.size + 1, 0, none⟩ = some (.int .i64 s) := (by rw [hb2.cell (p := ⟨w1.heap.size + 1, 0, none⟩) (by simp)]; simp [go_sem]); have b21 : w2.cell? ⟨w1.heap.size + 1, 1, none⟩ = some (.string (fulB d)) := (by rw [hb2.cell (p := ⟨w1.heap.size + 1, 1, none⟩) (by simp)]; simp [go_sem]); have z2 : w1.heap.size + 2 ≤ w2.heap.size := (by have := hb2.size; simpa using this))
    all_goals (
      obtain ⟨i0, hi, hz0, hz1, hz2⟩ := info_parts infoC
      have HO : Hid (∀ wz, Below w2.heap.size (w2.setCell ⟨g, 1, none⟩ (.slice (some ⟨g2, 0, none⟩) (putL A.now (s, fulB d)).length cap2)) wz → wz.ownsRow 0 85 2 vl A.loose.length (cvs A.loose)) := fun wz hz => by
        have S1 : Stp (fun r => r = 4 * k + 1) ρ ρ w w1 := Stp.upd hc HU.out hr
        have Sa : Stp (fun r => r = 4 * k + 1) ρ ρ w1 ((w1.alloc (.cells (madeCells #[.int .u8 0] (64 - d.size)) 5)).alloc (.cells #[.int .i64 s, .string (fulB d)] 85)).drew :=
          Stp.drew ((Stp.alloc0 S1.clean _).trans (Stp.alloc0 (Stp.alloc0 (R := RDk k) S1.clean _).clean _))
        have S2 := Sa.trans (Stp.below Sa.clean hb2)
        have S3 : Stp (fun r => r = 4 * k + 1) ρ ρ w2 (w2.setCell ⟨g, 1, none⟩ (.slice (some ⟨g2, 0, none⟩) (putL A.now (s, fulB d)).length cap2)) := Stp.set S2.clean hr 1 _
        have S4 : Stp (fun r => r = 4 * k + 1) ρ ρ _ wz := Stp.below S3.clean (by simpa [World.setCell] using hz)
        exact ((((hl.step S1 (by omega)).step S2 (by omega)).step S3 (by omega)).step S4 (by omega)).1
      have HQ : Hid (Below w1.heap.size w1 ((w1.alloc (.cells (madeCells #[.int .u8 0] (64 - d.size)) 5)).alloc (.cells #[.int .i64 s, .string (fulB d)] 85)).drew) := (((Below.refl _ _).alloc (Nat.le_refl _) _).alloc (by simp) _).drew
      have H2 : Hid (Below _ _ w2) := hb2
      have HW : Hid (w2.ownsRow _ 85 2 _ _ _) := hown2
      have HD : Hid (DPt ρ k w g vs vn vl A) := ⟨hr, hb, hs, hnn, hl⟩
      generalize hpl : (putL A.now (s, fulB d)).length = pl at HO HW ⊢
      have HPL : Hid ((putL A.now (s, fulB d)).length = pl) := hpl
      have HN : Hid (some g ≠ vl.ownBlock) := fun e => by have := hl.2 g e.symm; omega
      have gz2 : g < w2.heap.size := by omega
      clear hb hs hnn hl hst hpt hb2 hown2 hmk hcv hpl c1 c2 f1 f2
      go_wp2_with fail
      go_region_law (refine step_append_lies _ rfl _ _ 78 rfl 0 85 i0 _ 2 24 Tryd.underlying78 hi hz0 hz1 hz2 rfl (by decide) vl A.loose.length (cvs A.loose) (by first | rfl | simp) (HO.out _ (by repeat' (first | with_reducible exact Below.refl _ _ | with_reducible apply Below.drew | with_reducible apply Below.alloc | (simp [World.setCell]; done)))) ⟨w2.heap.size, 0, none⟩ 1 1 [.int .i64 s, .string (fulB d)] (by first | rfl | simp) rfl (newcells (by simp [go_sem, World.setCell]) (by simp [go_sem, World.setCell])) (two_one _ _) (by omega) (by unfold maxLen; omega) (by omega) (by omega) (w2.heap.size + 1) (by simp [World.setCell]) ?_; intro g3 cap3 w3 hown3 hgrow3 hat3 hlt3; have c32 : w3.cell? ⟨g, 2, none⟩ = some vl := (by rw [hgrow3.cell_far ⟨g, 2, none⟩ (by simp [World.setCell]; omega) HN.out]; simp [go_sem, c22, gz2]); have f32 : w3.frozen? ⟨g, 2, none⟩ = false := (by rw [hgrow3.frozen_far ⟨g, 2, none⟩ (by simp [World.setCell]; omega) HN.out]; simp [go_sem, f22, gz2]))
      all_goals (
        go_wp2
        go_ret
        refine ⟨rfl, write_d_end hc HD.out HU.out HQ.out H2.out (by rw [HPL.out]; exact HW.out) ?_ hown3 hgrow3 (or_of hat3 (fun h => by rw [h]; simp [World.setCell])) hlt3⟩
        repeat' (first | with_reducible exact Below.refl _ _ | with_reducible apply Below.drew | with_reducible apply Below.alloc | (simp [World.setCell]; done))))
end Go.Proofs.YtjnhhnbgjjkkjaaDoor
