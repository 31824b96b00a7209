/-
  Disks: the acts New and Sync.
-/
import Derived.Test.YtjnhhnbgjjkkjaaDoorDiskK
namespace Go.Proofs.YtjnhhnbgjjkkjaaDoor
open Go.ChangeShapes Go.WideShapes Go.ChangeAt Go.RowKit
set_option linter.unusedVariables false
set_option linter.unusedSimpArgs false

/-- an act is as the document says, and the shelf stands -/
def ActOk (ρ : Nat → Nat) (w : World) (g n : Nat) (e : Ending) (w' : World) : Prop := e = .returned (.bool true) ∧ ∃ ρ' vl' S', Sh ρ' w' g vl' (n + 1) S' ∧ Stp (fun r => r ≠ 0) ρ ρ' w w'
theorem new_pair {ρ : Nat → Nat} {w wa : World} {g : Nat} {vl : Value} {n : Nat} {S : List Ent} (h : Sh ρ w g vl n S) (hb : Below w.heap.size w wa) :
    ∃ ρ', Stp (fun _ => False) ρ ρ' w ((wa.alloc (.cells (dB (.slice none 0 0) (.slice none 0 0) (.slice none 0 0) (-1) false) 80)).alloc (.cells (rB (.slice none 0 0) 0 (-1) false) 83)) ∧
      DAt ρ' (S.length + 1) ((wa.alloc (.cells (dB (.slice none 0 0) (.slice none 0 0) (.slice none 0 0) (-1) false) 80)).alloc (.cells (rB (.slice none 0 0) 0 (-1) false) 83)) wa.heap.size ⟨[], [], [], -1, false⟩ ∧
      RAt ρ' (S.length + 1) ((wa.alloc (.cells (dB (.slice none 0 0) (.slice none 0 0) (.slice none 0 0) (-1) false) 80)).alloc (.cells (rB (.slice none 0 0) 0 (-1) false) 83)) (wa.heap.size + 1) ⟨[], 0, -1, false⟩ := by
  have S0 : Stp (fun _ => False) ρ ρ w wa := Stp.below h.clean hb
  have S1 : Stp (fun _ => False) ρ (ru ρ wa.heap.size (4 * (S.length + 1) + 1)) wa (wa.alloc (.cells (dB (.slice none 0 0) (.slice none 0 0) (.slice none 0 0) (-1) false) 80)) := Stp.alloc S0.clean _ _
  obtain ⟨w1, hw1⟩ : ∃ w1, w1 = wa.alloc (.cells (dB (.slice none 0 0) (.slice none 0 0) (.slice none 0 0) (-1) false) 80) := ⟨_, rfl⟩
  have hz : w1.heap.size = wa.heap.size + 1 := by rw [hw1]; simp
  have d1 : DAt (ru ρ wa.heap.size (4 * (S.length + 1) + 1)) (S.length + 1) w1 wa.heap.size ⟨[], [], [], -1, false⟩ := by
    rw [hw1]
    exact ⟨ru_at _ _ _, _, _, _, Blk.new _ _ _, RdZ.nil _ _, RdZ.nil _ _, Own.nil _ _ _ _⟩
  rw [← hw1] at S1 ⊢
  rw [← hz]
  have S2 : Stp (fun _ => False) (ru ρ wa.heap.size (4 * (S.length + 1) + 1)) (ru (ru ρ wa.heap.size (4 * (S.length + 1) + 1)) w1.heap.size (4 * (S.length + 1) + 2)) w1 (w1.alloc (.cells (rB (.slice none 0 0) 0 (-1) false) 83)) := Stp.alloc S1.clean _ _
  exact ⟨_, (S0.trans S1).trans S2, d1.step S2 (fun h => h) (fun h => h) (fun h => h), ru_at _ _ _, _, Blk.new _ _ _, Own.nil _ _ _ _⟩

set_option maxRecDepth 1000000 in
set_option maxHeartbeats 1000000 in
theorem act_new (ρ : Nat → Nat) (w : World) (g : Nat) (vl : Value) (n : Nat) (S : List Ent) (on a : Int) (s : ByteArray) (v : Value) (L : List Int) (h : Sh ρ w g vl n S) (hI : IntsZ ρ w v L) (hn : n < 2097152) :
    Calls Tryd.prog 8 #[.pointer (some ⟨g, 0, none⟩), .agg #[.int .i64 1, .int .i64 on, .int .i64 a, .string s, v]] w (ActOk ρ w g n) := by
  obtain ⟨⟨av, cv, rfl, _, _, _⟩, _⟩ := hI
  obtain ⟨i0, hi, hz0, hz1, hz2⟩ := info_parts infoQ
  have c0 : w.cell? ⟨g, 0, none⟩ = some vl := h.blk.cell 0
  have f0 : w.frozen? ⟨g, 0, none⟩ = false := h.blk.frozen 0
  have gz : g < w.heap.size := h.blk.lt
  have gz1 : g < w.heap.size + 1 := by omega
  have gz2 : g < w.heap.size + 1 + 1 := by omega
  have gz3 : g < w.heap.size + 1 + 1 + 1 := by omega
  have hlen := h.len
  have HO : Hid (∀ wz, Below w.heap.size w wz → wz.ownsRow 0 56 2 vl S.length (pcs S)) := fun wz hb => (h.below hb (Nat.le_refl _)).own
  have HNE : Hid (some g ≠ vl.ownBlock) := fun e => by have := h.row g e.symm; have := h.role; omega
  have HS : Hid (Sh ρ w g vl n S) := h
  clear h
  generalize L.length = ll
  go_enter Tryd.func8, Tryd.ntmps8
  go_wp2_with (first
    | (go_at_call 17; refine (new_d _).mono ?_; rintro e w1 ⟨rfl, rfl⟩; unfold dB)
    | (go_at_call 18; refine (new_r _).mono ?_; rintro e w2 ⟨rfl, rfl⟩; unfold rB)
    | (at_builtin; refine wpList_append_lies _ rfl _ _ 31 rfl 0 56 i0 _ 2 16 Tryd.underlying31 hi hz0 hz1 hz2 rfl (by decide) vl S.length (pcs S) rfl (HO.out _ (by repeat' (first | with_reducible assumption | with_reducible exact Below.refl _ _ | with_reducible apply Below.drew | with_reducible apply below_drewN | with_reducible apply Below.setCell | with_reducible apply Below.alloc | omega | (simp; done) | (simp; omega)))) ⟨w.heap.size + 1 + 1 + 1, 0, none⟩ 1 1 [.pointer (some ⟨w.heap.size + 1, 0, none⟩), .pointer (some ⟨w.heap.size + 1 + 1, 0, none⟩)] rfl rfl (newcellsP (by simp [go_sem]) (by simp [go_sem])) (two_oneP _ _) (by omega) (by unfold maxLen; omega) (by omega) (by omega) (w.heap.size + 1 + 1 + 1 + 1) (by simp) ?_; intro g3 cap3 w3 hown3 hgrow3 hat3 hlt3; have c32 : w3.cell? ⟨g, 0, none⟩ = some vl := (by rw [hgrow3.cell_far ⟨g, 0, none⟩ (by simp; omega) HNE.out]; simp [go_sem, c0, gz, gz1, gz2, gz3]); have f32 : w3.frozen? ⟨g, 0, none⟩ = false := (by rw [hgrow3.frozen_far ⟨g, 0, none⟩ (by simp; omega) HNE.out]; simp [go_sem, f0, gz, gz1, gz2, gz3])))
  go_ret
  refine ⟨rfl, ?_⟩
  obtain ⟨ρ', s1, s2, s3⟩ := new_pair HS.out (wa := w.alloc (.cells #[.int .i64 1, .int .i64 on, .int .i64 a, .string s, .slice av ll cv] 37)) (by repeat' (first | with_reducible assumption | with_reducible exact Below.refl _ _ | with_reducible apply Below.drew | with_reducible apply below_drewN | with_reducible apply Below.setCell | with_reducible apply Below.alloc | omega | (simp; done) | (simp; omega)))
  rw [show (w.alloc (.cells #[.int .i64 1, .int .i64 on, .int .i64 a, .string s, .slice av ll cv] 37)).heap.size = w.heap.size + 1 by simp] at s2 s3
  obtain ⟨ρ'', S', q1, q2, q3⟩ := Sh.more HS.out s1 s2 s3 (Sim.new.mono (Nat.zero_le (n + 1))) (Nat.le_refl (n + 1)) ((Below.refl _ _).alloc (Nat.le_refl _) _) hown3 hgrow3 (or_of hat3 (fun h => by rw [h]; simp)) hlt3
  exact ⟨ρ'', _, S', q1, q3.mono (fun r h => by omega)⟩

/-- one disk's two calls are done -/
theorem act_end {ρ ρ2 ρ3 : Nat → Nat} {w wp w2 w3 : World} {g : Nat} {vl : Value} {n j : Nat} {S : List Ent} {A : PD} {B : RD} (h : Sh ρ w g vl n S) (hj : j < S.length) (hb : Below w.heap.size w wp) (hd : DAt ρ2 (j + 1) w2 (entAt S j).d A) (s2 : Stp (RDk (j + 1)) ρ ρ2 wp w2)
    (hr : RAt ρ3 (j + 1) w3 (entAt S j).r B) (s3 : Stp (RRk (j + 1)) ρ2 ρ3 w2 w3) (hs : Sim (n + 1) A B) : ∃ ρ' vl' S', Sh ρ' w3 g vl' (n + 1) S' ∧ Stp (fun r => r ≠ 0) ρ ρ' w w3 := by
  have s1 : Stp (Rk (j + 1)) ρ ρ w wp := Stp.below h.clean hb
  have m2 : Stp (Rk (j + 1)) ρ ρ2 wp w2 := s2.mono (fun r h => by unfold RDk at h; unfold Rk; omega)
  have m3 : Stp (Rk (j + 1)) ρ2 ρ3 w2 w3 := s3.mono (fun r h => by unfold RRk at h; unfold Rk; omega)
  exact h.turn hj ((s1.trans m2).trans m3) (hd.step s3 (by unfold RRk; omega) (by unfold RRk; omega) (by unfold RRk; omega)) hr hs (Nat.le_succ n)
theorem dstop_any (ρ : Nat → Nat) (k : Nat) (w : World) (g : Nat) (A : PD) (n : Int) (hc : Clean ρ w) (n0 : -9223372036854775808 ≤ n) (n1 : n < 9223372036854775808) (h : DAt ρ k w g A) :
    Calls Tryd.prog 26 #[.pointer (some ⟨g, 0, none⟩), .int .i64 n] w fun e w' => e = .returned (.tuple #[]) ∧ DAt ρ k w' g { A with left := leftP A.left A.st n } ∧ Stp (RDk k) ρ ρ w w' := by
  obtain ⟨hr, vs, vn, vl, hb, hs, hn, hl⟩ := h
  refine (stop_d w g vs vn vl A.left n A.st n0 n1 hb).mono (fun e w' hq => ⟨hq.1, ?_, Stp.upd hc hq.2 (.inl hr)⟩)
  have S : Stp (fun r => r = 4 * k + 1) ρ ρ w w' := Stp.upd hc hq.2 hr
  exact ⟨hr, vs, vn, vl, hq.2.blk, hs.step S (by omega), hn.step S (by omega), hl.step S (by omega)⟩
theorem rstop_any (ρ : Nat → Nat) (k : Nat) (w : World) (g : Nat) (B : RD) (n : Int) (hc : Clean ρ w) (n0 : -9223372036854775808 ≤ n) (n1 : n < 9223372036854775808) (h : RAt ρ k w g B) :
    Calls Tryd.prog 27 #[.pointer (some ⟨g, 0, none⟩), .int .i64 n] w fun e w' => e = .returned (.tuple #[]) ∧ RAt ρ k w' g { B with left := leftP B.left B.st n } ∧ Stp (RRk k) ρ ρ w w' := by
  obtain ⟨hr, vp, hb, hl⟩ := h
  refine (stop_r w g vp B.safe B.left n B.st n0 n1 hb).mono (fun e w' hq => ⟨hq.1, ?_, Stp.upd hc hq.2 (.inl hr)⟩)
  have S : Stp (fun r => r = 4 * k + 2) ρ ρ w w' := Stp.upd hc hq.2 hr
  exact ⟨hr, vp, hq.2.blk, hl.step S (by omega)⟩
end Go.Proofs.YtjnhhnbgjjkkjaaDoor
