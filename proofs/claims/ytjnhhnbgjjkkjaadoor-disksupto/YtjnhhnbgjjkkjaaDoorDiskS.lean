/-
  Disks: the act Stopped.
-/
import Derived.Test.YtjnhhnbgjjkkjaaDoorDiskM
import Derived.Deep.RegionHeld3
namespace Go.Proofs.YtjnhhnbgjjkkjaaDoor
open Go.ChangeShapes Go.WideShapes Go.ChangeAt Go.RowKit
set_option linter.unusedVariables false
set_option linter.unusedSimpArgs false

set_option maxRecDepth 1000000 in
set_option maxHeartbeats 2000000 in
theorem act_stands (ρ : Nat → Nat) (w : World) (g : Nat) (vl : Value) (n : Nat) (S : List Ent) (on a : Int) (s : ByteArray) (v : Value) (L : List Int) (h : Sh ρ w g vl n S) (hI : IntsZ ρ w v L) (hn : n < 2097152) (hS : 0 < S.length) (hon : -9223372036854775808 ≤ on ∧ on ≤ 9223372036854775807) (ha : -9223372036854775808 ≤ a ∧ a ≤ 9223372036854775807) (hsz : s.size ≤ 2097152) :
    Calls Tryd.prog 8 #[.pointer (some ⟨g, 0, none⟩), .agg #[.int .i64 6, .int .i64 on, .int .i64 a, .string s, v]] w (ActOk ρ w g n) := by
  obtain ⟨⟨av, cv, rfl, _, _, _⟩, _⟩ := hI
  obtain ⟨lb, lc, rfl, hc1, hc2, hlb, hcells⟩ := h.reads hS
  unfold maxLen at hc2
  have c0 : w.cell? ⟨g, 0, none⟩ = some (.slice (some ⟨lb, 0, none⟩) S.length lc) := h.blk.cell 0
  have gz : g < w.heap.size := h.blk.lt
  have hlen := h.len
  have HC : Hid (∀ j, j < S.length → w.cell? ⟨lb, j * 2, none⟩ = some (.pointer (some ⟨(entAt S j).d, 0, none⟩)) ∧ w.cell? ⟨lb, j * 2 + 1, none⟩ = some (.pointer (some ⟨(entAt S j).r, 0, none⟩))) := hcells
  have HS : Hid (Sh ρ w g (.slice (some ⟨lb, 0, none⟩) S.length lc) n S) := h
  have HP : Hid (∀ wz, Calls Tryd.prog 19 #[.int .i64 on, .int .i64 S.length] wz fun e w' => ∃ j : Nat, j < S.length ∧ e = .returned (.int .i64 j) ∧ w' = wz) := fun wz => lpick_any on S.length wz hon hS (by omega)
  have HD : Hid (∀ j, j < S.length → ∀ wz, Below w.heap.size w wz → Calls Tryd.prog 28 #[.pointer (some ⟨(entAt S j).d, 0, none⟩)] wz fun e w' => e = .returned (.bool (stS (entAt S j).A.left (entAt S j).A.st)) ∧ ∃ ρ2, DAt ρ2 (j + 1) w' (entAt S j).d ((entAt S j).A) ∧ Stp (RDk (j + 1)) ρ ρ2 wz w') := fun j hj wz hb => by
    have k := h.below hb (Nat.le_refl _)
    obtain ⟨e1, _, e3⟩ := k.ents j hj
    have q1 := e3.n1
    have q2 := e3.n2
    have q3 := e3.n3
    have q4 := e3.lt
    obtain ⟨_, vs, vn, vl, hbk, _⟩ := e1
    exact (stopped_d wz _ vs vn vl _ _ hbk).mono (fun e w' hq => ⟨hq.1, ρ, by rw [hq.2]; exact (k.ents j hj).1, by rw [hq.2]; exact Stp.refl k.clean⟩)
  have HR : Hid (∀ j, j < S.length → ∀ wz w1 ρ2, Below w.heap.size w wz → Stp (RDk (j + 1)) ρ ρ2 wz w1 → Calls Tryd.prog 29 #[.pointer (some ⟨(entAt S j).r, 0, none⟩)] w1 fun e w' => e = .returned (.bool (stS (entAt S j).A.left (entAt S j).A.st)) ∧ ∃ ρ3, RAt ρ3 (j + 1) w' (entAt S j).r ((entAt S j).B) ∧ Stp (RRk (j + 1)) ρ2 ρ3 w1 w') := fun j hj wz w1 ρ2 hb hs => by
    have k := h.below hb (Nat.le_refl _)
    obtain ⟨e1, e2', e3⟩ := k.ents j hj
    have q1 := e3.n1
    have q2 := e3.n2
    have q3 := e3.n3
    have q4 : (entAt S j).B.left < 9223372036854775808 := by rw [← e3.left]; exact e3.lt
    have e2 := e2'.step hs (by unfold RDk; omega) (by unfold RDk; omega)
    obtain ⟨_, vp, hbk, _⟩ := id e2
    rw [e3.left, e3.st]
    exact (stopped_r w1 _ vp _ _ _ hbk).mono (fun e w' hq => ⟨hq.1, ρ2, by rw [hq.2]; exact e2, by rw [hq.2]; exact Stp.refl hs.clean⟩)
  have HE : Hid (∀ j, j < S.length → ∀ wz w2 w3 ρ2 ρ3, Below w.heap.size w wz → DAt ρ2 (j + 1) w2 (entAt S j).d ((entAt S j).A) → Stp (RDk (j + 1)) ρ ρ2 wz w2 → RAt ρ3 (j + 1) w3 (entAt S j).r ((entAt S j).B) → Stp (RRk (j + 1)) ρ2 ρ3 w2 w3 → ∃ ρ' vl' S', Sh ρ' w3 g vl' (n + 1) S' ∧ Stp (fun r => r ≠ 0) ρ ρ' w w3) := fun j hj wz w2 w3 ρ2 ρ3 hb hd s2 hr s3 =>
    act_end h hj hb hd s2 hr s3 ((h.ents j hj).2.2.mono (Nat.le_succ n))
  clear h hcells
  generalize L.length = ll
  generalize S.length = sl at *
  go_enter Tryd.func8, Tryd.ntmps8
  go_wp2_with fail
  obtain ⟨w0, hw0⟩ : ∃ w0, w0 = w.alloc (.cells #[.int .i64 6, .int .i64 on, .int .i64 a, .string s, .slice av ll cv] 37) := ⟨_, rfl⟩
  have o0 : w0.cell? ⟨w.heap.size, 0, none⟩ = some (.int .i64 6) := by rw [hw0]; simp [go_sem]
  have o1 : w0.cell? ⟨w.heap.size, 1, none⟩ = some (.int .i64 on) := by rw [hw0]; simp [go_sem]
  have o2 : w0.cell? ⟨w.heap.size, 2, none⟩ = some (.int .i64 a) := by rw [hw0]; simp [go_sem]
  have o3 : w0.cell? ⟨w.heap.size, 3, none⟩ = some (.string s) := by rw [hw0]; simp [go_sem]
  have o4 : w0.cell? ⟨w.heap.size, 4, none⟩ = some (.slice av ll cv) := by rw [hw0]; simp [go_sem]
  have hz0 : w0.heap.size = w.heap.size + 1 := by rw [hw0]; simp
  have HB0 : Hid (Below w.heap.size w w0) := by rw [hw0]; exact (Below.refl _ _).alloc (Nat.le_refl _) _
  have p0 : w0.cell? ⟨g, 0, none⟩ = some (.slice (some ⟨lb, 0, none⟩) sl lc) := (HB0.out.cell (p := ⟨g, 0, none⟩) gz).trans c0
  have HC0 : ∀ j, j < sl → w0.cell? ⟨lb, j * 2, none⟩ = some (.pointer (some ⟨(entAt S j).d, 0, none⟩)) := fun j hj => (HB0.out.cell (p := ⟨lb, j * 2, none⟩) hlb).trans (HC.out j hj).1
  have HC1 : ∀ j, j < sl → w0.cell? ⟨lb, j * 2 + 1, none⟩ = some (.pointer (some ⟨(entAt S j).r, 0, none⟩)) := fun j hj => (HB0.out.cell (p := ⟨lb, j * 2 + 1, none⟩) hlb).trans (HC.out j hj).2
  rw [← hw0]
  clear hw0 HC
  have gz0 : g < w0.heap.size := by omega
  have lz0 : lb < w0.heap.size := by omega
  have oz0 : w.heap.size < w0.heap.size := by omega
  go_region_held3 (fun w' => w'.cell? ⟨g, 0, none⟩ = some (.slice (some ⟨lb, 0, none⟩) sl lc) ∧ w'.cell? ⟨w.heap.size, 1, none⟩ = some (.int .i64 on) ∧ (∀ j, j < sl → w'.cell? ⟨lb, j * 2, none⟩ = some (.pointer (some ⟨(entAt S j).d, 0, none⟩))) ∧ (∀ j, j < sl → w'.cell? ⟨lb, j * 2 + 1, none⟩ = some (.pointer (some ⟨(entAt S j).r, 0, none⟩)))) (refine ⟨by go_keep, by go_keep, fun i hi => ?_, fun i hi => ?_⟩ <;> simp [*, go_sem]) (first | (go_at_call 19; refine (HP.out _).mono ?_; rintro e w1 ⟨j, hj, rfl, rfl⟩))
  all_goals (
    obtain ⟨wp, hwp⟩ : ∃ wp, wp = (w0.alloc (.cells #[.pointer (some ⟨(entAt S j).d, 0, none⟩), .pointer (some ⟨(entAt S j).r, 0, none⟩)] 56)).drew := ⟨_, rfl⟩
    have q0 : wp.cell? ⟨w.heap.size + 1, 0, none⟩ = some (.pointer (some ⟨(entAt S j).d, 0, none⟩)) := by rw [hwp, ← hz0]; simp [go_sem]
    have q1 : wp.cell? ⟨w.heap.size + 1, 1, none⟩ = some (.pointer (some ⟨(entAt S j).r, 0, none⟩)) := by rw [hwp, ← hz0]; simp [go_sem]
    have u0 : wp.cell? ⟨w.heap.size, 0, none⟩ = some (.int .i64 6) := by rw [hwp]; simp [go_sem, o0, oz0]
    have u2 : wp.cell? ⟨w.heap.size, 2, none⟩ = some (.int .i64 a) := by rw [hwp]; simp [go_sem, o2, oz0]
    have u3 : wp.cell? ⟨w.heap.size, 3, none⟩ = some (.string s) := by rw [hwp]; simp [go_sem, o3, oz0]
    have u4 : wp.cell? ⟨w.heap.size, 4, none⟩ = some (.slice av ll cv) := by rw [hwp]; simp [go_sem, o4, oz0]
    have hzp : wp.heap.size = w.heap.size + 2 := by rw [hwp]; simp [hz0]
    have HBp : Hid (Below w.heap.size w wp) := by rw [hwp]; exact (Below.alloc HB0.out HB0.out.size _).drew
    have oz : w.heap.size < wp.heap.size := by omega
    have pz : w.heap.size + 1 < wp.heap.size := by omega
    rw [← hwp]
    clear hwp o0 o1 o2 o3 o4 p0 HC0 HC1 HB0
    try clear hs_1
    try clear hs_2
    go_wp2_with (first
      | (go_at_call 28; refine (HD.out j hj _ HBp.out).mono ?_; rintro e w2 ⟨rfl, ρ2, hd2, hs2⟩; have r1 : w2.cell? ⟨w.heap.size + 1, 1, none⟩ = some (.pointer (some ⟨(entAt S j).r, 0, none⟩)) := ((hs2.cell0 (by unfold RDk; omega) (HS.out.clean (w.heap.size + 1) (by omega)) pz 1).trans q1); have v2 : w2.cell? ⟨w.heap.size, 2, none⟩ = some (.int .i64 a) := ((hs2.cell0 (by unfold RDk; omega) (HS.out.clean w.heap.size (by omega)) oz 2).trans u2); have v3 : w2.cell? ⟨w.heap.size, 3, none⟩ = some (.string s) := ((hs2.cell0 (by unfold RDk; omega) (HS.out.clean w.heap.size (by omega)) oz 3).trans u3); have v0 : w2.cell? ⟨w.heap.size, 0, none⟩ = some (.int .i64 6) := ((hs2.cell0 (by unfold RDk; omega) (HS.out.clean w.heap.size (by omega)) oz 0).trans u0); have HS2 : Hid (Stp (RDk (j + 1)) ρ ρ2 wp w2 ∧ DAt ρ2 (j + 1) w2 (entAt S j).d ((entAt S j).A)) := ⟨hs2, hd2⟩; clear hs2 hd2)
      | (go_at_call 29; refine (HR.out j hj _ _ _ HBp.out HS2.out.1).mono ?_; rintro e w3 ⟨rfl, ρ3, hr3, hs3⟩; have HS3 : Hid (Stp (RRk (j + 1)) ρ2 ρ3 w2 w3 ∧ RAt ρ3 (j + 1) w3 (entAt S j).r ((entAt S j).B)) := ⟨hs3, hr3⟩; clear hs3 hr3))
    go_ret
    exact ⟨by first | rfl | exact ret_bool (by simp), HE.out j hj _ _ _ _ _ HBp.out HS2.out.2 HS2.out.1 HS3.out.2 HS3.out.1⟩)
end Go.Proofs.YtjnhhnbgjjkkjaaDoor
