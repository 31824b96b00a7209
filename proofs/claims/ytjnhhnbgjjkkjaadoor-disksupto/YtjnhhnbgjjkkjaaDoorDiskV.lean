/-
  Disks: the act Crash.
-/
import Derived.Test.YtjnhhnbgjjkkjaaDoorDiskW
import Derived.Deep.RegionHeld3
namespace Go.Proofs.YtjnhhnbgjjkkjaaDoor
open Go.ChangeShapes Go.WideShapes Go.ChangeAt Go.RowKit
set_option linter.unusedVariables false
set_option linter.unusedSimpArgs false

set_option maxRecDepth 1000000 in
set_option maxHeartbeats 2000000 in
theorem act_crash (ρ : Nat → Nat) (w : World) (g : Nat) (vl : Value) (n : Nat) (S : List Ent) (on a : Int) (s : ByteArray) (v : Value) (L : List Int) (h : Sh ρ w g vl n S) (hI : IntsZ ρ w v L) (hn : n < 2097152) (hS : 0 < S.length) (hon : -9223372036854775808 ≤ on ∧ on ≤ 9223372036854775807) (ha : -9223372036854775808 ≤ a ∧ a ≤ 9223372036854775807) (hsz : s.size ≤ 2097152) (hLm : L.length ≤ 2097152) :
    Calls Tryd.prog 8 #[.pointer (some ⟨g, 0, none⟩), .agg #[.int .i64 7, .int .i64 on, .int .i64 a, .string s, v]] w (ActOk ρ w g n) := by
  have hI0 := hI
  obtain ⟨⟨av, cv, rfl, _, _, _⟩, _⟩ := hI
  obtain ⟨lb, lc, rfl, hc1, hc2, hlb, hcells⟩ := h.reads hS
  unfold maxLen at hc2
  have c0 : w.cell? ⟨g, 0, none⟩ = some (.slice (some ⟨lb, 0, none⟩) S.length lc) := h.blk.cell 0
  have gz : g < w.heap.size := h.blk.lt
  have hlen := h.len
  have HC : Hid (∀ j, j < S.length → w.cell? ⟨lb, j * 2, none⟩ = some (.pointer (some ⟨(entAt S j).d, 0, none⟩)) ∧ w.cell? ⟨lb, j * 2 + 1, none⟩ = some (.pointer (some ⟨(entAt S j).r, 0, none⟩))) := hcells
  have HS : Hid (Sh ρ w g (.slice (some ⟨lb, 0, none⟩) S.length lc) n S) := h
  have HP : Hid (∀ wz, Calls Tryd.prog 19 #[.int .i64 on, .int .i64 S.length] wz fun e w' => ∃ j : Nat, j < S.length ∧ e = .returned (.int .i64 j) ∧ w' = wz) := fun wz => lpick_any on S.length wz hon hS (by omega)
  have HNE : Hid (some g ≠ (Value.slice (some ⟨lb, 0, none⟩) S.length lc).ownBlock ∧ some w.heap.size ≠ (Value.slice (some ⟨lb, 0, none⟩) S.length lc).ownBlock) := ⟨fun e => by have := h.row g e.symm; have := h.role; omega, fun e => by simp [Value.ownBlock] at e; omega⟩
  have f0 : w.frozen? ⟨g, 0, none⟩ = false := h.blk.frozen 0
  have HL : Hid (∀ wz, Below w.heap.size w wz → Calls Tryd.prog 30 #[.slice av L.length cv] wz fun e w' => e = .returned (.slice (some ⟨wz.heap.size, 0, none⟩) (L.length + 1) (L.length + 1)) ∧ Blk w' wz.heap.size (lentRow L) 3 ∧ Below wz.heap.size wz w') := fun wz hb => lent_any _ L wz (hI0.1.mono hb) hLm
  have HD : Hid (∀ j, j < S.length → ∀ wp wl, Below w.heap.size w wp → Blk wl wp.heap.size (lentRow L) 3 → Below wp.heap.size wp wl → Calls Tryd.prog 31 #[.pointer (some ⟨(entAt S j).d, 0, none⟩), .slice (some ⟨wp.heap.size, 0, none⟩) L.length (L.length + 1)] wl fun e w' => e = .returned (.pointer (some ⟨wl.heap.size, 0, none⟩)) ∧ Below wl.heap.size wl w' ∧ CrD ρ S j L wp wl w') := fun j hj wp wl hb hB hl => cr_d h hI0 hj hb hB hl hLm (by omega)
  have HR : Hid (∀ j, j < S.length → ∀ wp wl w2, Below w.heap.size w wp → Blk wl wp.heap.size (lentRow L) 3 → Below wp.heap.size wp wl → CrD ρ S j L wp wl w2 → Calls Tryd.prog 32 #[.pointer (some ⟨(entAt S j).r, 0, none⟩), .slice av L.length cv] w2 fun e w' => e = .returned (.pointer (some ⟨w2.heap.size, 0, none⟩)) ∧ Below w2.heap.size w2 w' ∧ CrE ρ S j L wp wl w2 w') := fun j hj wp wl w2 hb hB hl hd => cr_r h hI0 hj hb hB hl hd hLm (by omega)
  have HO : Hid (∀ wz, Below w.heap.size w wz → wz.ownsRow 0 56 2 (.slice (some ⟨lb, 0, none⟩) S.length lc) S.length (pcs S)) := fun wz hb => (h.below hb (Nat.le_refl _)).own
  have HA : Hid (∀ j, j < S.length → ∀ wp wl w2 w3 wz w4 g3 cap3, Below w.heap.size w wp → Blk wl wp.heap.size (lentRow L) 3 → Below wp.heap.size wp wl → CrE ρ S j L wp wl w2 w3 → Below w3.heap.size w3 wz → w4.ownsRow 0 56 2 (.slice (some ⟨g3, 0, none⟩) (S.length + 1) cap3) (S.length + 1) (pcs S ++ [.pointer (some ⟨wl.heap.size, 0, none⟩), .pointer (some ⟨w2.heap.size, 0, none⟩)]) → wz.grownBy w4 (some lb) → (some lb = some g3 ∨ g3 = wz.heap.size) → g3 < w4.heap.size →
      Calls Tryd.prog 33 #[.slice (some ⟨wp.heap.size, 0, none⟩) (L.length + 1) (L.length + 1), .slice av L.length cv] (w4.setCell ⟨g, 0, none⟩ (.slice (some ⟨g3, 0, none⟩) (S.length + 1) cap3)) fun e w' => e = .returned (.bool true) ∧ ∃ ρ' vl' S', Sh ρ' w' g vl' (n + 1) S' ∧ Stp (fun r => r ≠ 0) ρ ρ' w w') := fun j hj wp wl w2 w3 wz w4 g3 cap3 hb hB hl he hz ho hg hat hlt => cr_back h hI0 hj hb hB hl he hz ho hg hat hlt hLm
  clear h hcells
  generalize L.length = ll at *
  obtain ⟨l1, hl1⟩ : ∃ l1, l1 = ll + 1 := ⟨_, rfl⟩
  rw [← hl1] at HL HD HA
  have hl2 : (ll : Int) ≤ (l1 : Int) := by omega
  have hl3 : (0 : Int) ≤ (ll : Int) := by omega
  clear hl1
  generalize S.length = sl at *
  go_enter Tryd.func8, Tryd.ntmps8
  go_wp2_with fail
  obtain ⟨w0, hw0⟩ : ∃ w0, w0 = w.alloc (.cells #[.int .i64 7, .int .i64 on, .int .i64 a, .string s, .slice av ll cv] 37) := ⟨_, rfl⟩
  have o0 : w0.cell? ⟨w.heap.size, 0, none⟩ = some (.int .i64 7) := by rw [hw0]; simp [go_sem]
  have o1 : w0.cell? ⟨w.heap.size, 1, none⟩ = some (.int .i64 on) := by rw [hw0]; simp [go_sem]
  have o2 : w0.cell? ⟨w.heap.size, 2, none⟩ = some (.int .i64 a) := by rw [hw0]; simp [go_sem]
  have o3 : w0.cell? ⟨w.heap.size, 3, none⟩ = some (.string s) := by rw [hw0]; simp [go_sem]
  have o4 : w0.cell? ⟨w.heap.size, 4, none⟩ = some (.slice av ll cv) := by rw [hw0]; simp [go_sem]
  have hz0 : w0.heap.size = w.heap.size + 1 := by rw [hw0]; simp
  have HB0 : Hid (Below w.heap.size w w0) := by rw [hw0]; exact (Below.refl _ _).alloc (Nat.le_refl _) _
  have p0 : w0.cell? ⟨g, 0, none⟩ = some (.slice (some ⟨lb, 0, none⟩) sl lc) := (HB0.out.cell (p := ⟨g, 0, none⟩) gz).trans c0
  have HC0 : ∀ j, j < sl → w0.cell? ⟨lb, j * 2, none⟩ = some (.pointer (some ⟨(entAt S j).d, 0, none⟩)) := fun j hj => (HB0.out.cell (p := ⟨lb, j * 2, none⟩) hlb).trans (HC.out j hj).1
  have HC1 : ∀ j, j < sl → w0.cell? ⟨lb, j * 2 + 1, none⟩ = some (.pointer (some ⟨(entAt S j).r, 0, none⟩)) := fun j hj => (HB0.out.cell (p := ⟨lb, j * 2 + 1, none⟩) hlb).trans (HC.out j hj).2
  rw [← hw0]
  clear hw0 HC
  have gz0 : g < w0.heap.size := by omega
  have lz0 : lb < w0.heap.size := by omega
  have oz0 : w.heap.size < w0.heap.size := by omega
  go_region_held3 (fun w' => w'.cell? ⟨g, 0, none⟩ = some (.slice (some ⟨lb, 0, none⟩) sl lc) ∧ w'.cell? ⟨w.heap.size, 1, none⟩ = some (.int .i64 on) ∧ (∀ j, j < sl → w'.cell? ⟨lb, j * 2, none⟩ = some (.pointer (some ⟨(entAt S j).d, 0, none⟩))) ∧ (∀ j, j < sl → w'.cell? ⟨lb, j * 2 + 1, none⟩ = some (.pointer (some ⟨(entAt S j).r, 0, none⟩)))) (refine ⟨by go_keep, by go_keep, fun i hi => ?_, fun i hi => ?_⟩ <;> simp [*, go_sem]) (first | (go_at_call 19; refine (HP.out _).mono ?_; rintro e w1 ⟨j, hj, rfl, rfl⟩))
  all_goals (
    obtain ⟨wp, hwp⟩ : ∃ wp, wp = (w0.alloc (.cells #[.pointer (some ⟨(entAt S j).d, 0, none⟩), .pointer (some ⟨(entAt S j).r, 0, none⟩)] 56)).drew := ⟨_, rfl⟩
    have q0 : wp.cell? ⟨w.heap.size + 1, 0, none⟩ = some (.pointer (some ⟨(entAt S j).d, 0, none⟩)) := by rw [hwp, ← hz0]; simp [go_sem]
    have q1 : wp.cell? ⟨w.heap.size + 1, 1, none⟩ = some (.pointer (some ⟨(entAt S j).r, 0, none⟩)) := by rw [hwp, ← hz0]; simp [go_sem]
    have u0 : wp.cell? ⟨w.heap.size, 0, none⟩ = some (.int .i64 7) := by rw [hwp]; simp [go_sem, o0, oz0]
    have u2 : wp.cell? ⟨w.heap.size, 2, none⟩ = some (.int .i64 a) := by rw [hwp]; simp [go_sem, o2, oz0]
    have u3 : wp.cell? ⟨w.heap.size, 3, none⟩ = some (.string s) := by rw [hwp]; simp [go_sem, o3, oz0]
    have u4 : wp.cell? ⟨w.heap.size, 4, none⟩ = some (.slice av ll cv) := by rw [hwp]; simp [go_sem, o4, oz0]
    have hzp : wp.heap.size = w.heap.size + 2 := by rw [hwp]; simp [hz0]
    have HBp : Hid (Below w.heap.size w wp) := by rw [hwp]; exact (Below.alloc HB0.out HB0.out.size _).drew
    have oz : w.heap.size < wp.heap.size := by omega
    have pz : w.heap.size + 1 < wp.heap.size := by omega
    rw [← hwp]
    clear hwp o0 o1 o2 o3 o4 p0 HC0 HC1 HB0
    try clear hs_1
    try clear hs_2
    clear hzp
    obtain ⟨i0, hi, hi0, hi1, hi2⟩ := info_parts infoQ
    have gzp : g < wp.heap.size := by omega
    have g0 : wp.cell? ⟨g, 0, none⟩ = some (.slice (some ⟨lb, 0, none⟩) sl lc) := (HBp.out.cell (p := ⟨g, 0, none⟩) gz).trans c0
    have gf : wp.frozen? ⟨g, 0, none⟩ = false := (HBp.out.frozen (p := ⟨g, 0, none⟩) gz).trans f0
    go_wp2_with (go_at_call 30; refine (HL.out _ HBp.out).mono ?_; rintro e wl ⟨rfl, hBl, hbl⟩; have hlz : wp.heap.size ≤ wl.heap.size := hbl.size; have x0 : wl.cell? ⟨w.heap.size + 1, 0, none⟩ = some (.pointer (some ⟨(entAt S j).d, 0, none⟩)) := ((hbl.cell (p := ⟨w.heap.size + 1, 0, none⟩) pz).trans q0); have x1 : wl.cell? ⟨w.heap.size + 1, 1, none⟩ = some (.pointer (some ⟨(entAt S j).r, 0, none⟩)) := ((hbl.cell (p := ⟨w.heap.size + 1, 1, none⟩) pz).trans q1); have x4 : wl.cell? ⟨w.heap.size, 4, none⟩ = some (.slice av ll cv) := ((hbl.cell (p := ⟨w.heap.size, 4, none⟩) oz).trans u4); have xg : wl.cell? ⟨g, 0, none⟩ = some (.slice (some ⟨lb, 0, none⟩) sl lc) := ((hbl.cell (p := ⟨g, 0, none⟩) gzp).trans g0); have xf : wl.frozen? ⟨g, 0, none⟩ = false := ((hbl.frozen (p := ⟨g, 0, none⟩) gzp).trans gf); have HW : Hid (Blk wl wp.heap.size (lentRow L) 3 ∧ Below wp.heap.size wp wl) := ⟨hBl, hbl⟩; clear hBl hbl)
    clear q0 q1 u0 u2 u3 u4 g0 gf
    have HWd : Hid (Blk wl.drew wp.heap.size (lentRow L) 3 ∧ Below wp.heap.size wp wl.drew) := ⟨HW.out.1.drew, HW.out.2.drew⟩
    have ez : wl.drew.heap.size = wl.heap.size := rfl
    go_region_held3 (fun w' => w'.cell? ⟨w.heap.size + 1, 0, none⟩ = some (.pointer (some ⟨(entAt S j).d, 0, none⟩)) ∧ w'.cell? ⟨w.heap.size, 4, none⟩ = some (.slice av ll cv)) (go_keep) (first | (go_at_call 31; refine (HD.out j hj _ _ HBp.out HWd.out.1 HWd.out.2).mono ?_; rintro e w2 ⟨rfl, hb2, hd2⟩; have h2z : wl.heap.size ≤ w2.heap.size := hb2.size; have y0 : w2.cell? ⟨w.heap.size + 1, 0, none⟩ = some (.pointer (some ⟨(entAt S j).d, 0, none⟩)) := ((hb2.cell (p := ⟨w.heap.size + 1, 0, none⟩) (by simp; omega)).trans x0); have y1 : w2.cell? ⟨w.heap.size + 1, 1, none⟩ = some (.pointer (some ⟨(entAt S j).r, 0, none⟩)) := ((hb2.cell (p := ⟨w.heap.size + 1, 1, none⟩) (by simp; omega)).trans x1); have y4 : w2.cell? ⟨w.heap.size, 4, none⟩ = some (.slice av ll cv) := ((hb2.cell (p := ⟨w.heap.size, 4, none⟩) (by simp; omega)).trans x4); have yg : w2.cell? ⟨g, 0, none⟩ = some (.slice (some ⟨lb, 0, none⟩) sl lc) := ((hb2.cell (p := ⟨g, 0, none⟩) (by simp; omega)).trans xg); have yf : w2.frozen? ⟨g, 0, none⟩ = false := ((hb2.frozen (p := ⟨g, 0, none⟩) (by simp; omega)).trans xf); have HY : Hid (Below wl.drew.heap.size wl.drew w2 ∧ CrD ρ S j L wp wl.drew w2) := ⟨hb2, hd2⟩; clear hb2 hd2))
    clear x0 x1 x4 xg xf HW HL HD
    go_wp2_with (first
      | (go_at_call 32; refine (HR.out j hj _ _ _ HBp.out HWd.out.1 HWd.out.2 HY.out.2).mono ?_; rintro e w3 ⟨rfl, hb3, he3⟩; have h3z : w2.heap.size ≤ w3.heap.size := hb3.size; have z4 : w3.cell? ⟨w.heap.size, 4, none⟩ = some (.slice av ll cv) := ((hb3.cell (p := ⟨w.heap.size, 4, none⟩) (by simp; omega)).trans y4); have zg : w3.cell? ⟨g, 0, none⟩ = some (.slice (some ⟨lb, 0, none⟩) sl lc) := ((hb3.cell (p := ⟨g, 0, none⟩) (by simp; omega)).trans yg); have zf : w3.frozen? ⟨g, 0, none⟩ = false := ((hb3.frozen (p := ⟨g, 0, none⟩) (by simp; omega)).trans yf); have gz3 : g < w3.heap.size := (by omega); have oz3 : w.heap.size < w3.heap.size := (by omega); have HE3 : Hid (CrE ρ S j L wp wl.drew w2 w3) := he3; have HB3 : Hid (Below w.heap.size w w3) := ((HBp.out.trans (HWd.out.2.mono HBp.out.size)).trans ((HY.out.1.mono (by have := HBp.out.size; simp; omega)).trans (hb3.mono (by have := HBp.out.size; omega)))); clear hb3 he3)
      | (at_builtin; refine wpList_append_lies _ rfl _ _ 31 rfl 0 56 i0 _ 2 16 Tryd.underlying31 hi hi0 hi1 hi2 rfl (by decide) (.slice (some ⟨lb, 0, none⟩) sl lc) sl (pcs S) rfl (HO.out _ (Below.alloc HB3.out HB3.out.size _)) ⟨w3.heap.size, 0, none⟩ 1 1 [.pointer (some ⟨wl.heap.size, 0, none⟩), .pointer (some ⟨w2.heap.size, 0, none⟩)] rfl rfl (newcellsP (by simp [go_sem]) (by simp [go_sem])) (two_oneP _ _) (by omega) (by unfold maxLen; omega) (by omega) (by omega) (w3.heap.size + 1) (by simp) ?_; intro g3 cap3 w4 hown4 hgrow4 hat4 hlt4; have c42 : w4.cell? ⟨g, 0, none⟩ = some (.slice (some ⟨lb, 0, none⟩) sl lc) := (by rw [hgrow4.cell_far ⟨g, 0, none⟩ (by simp; omega) HNE.out.1]; simp [go_sem, zg, gz3]); have f42 : w4.frozen? ⟨g, 0, none⟩ = false := (by rw [hgrow4.frozen_far ⟨g, 0, none⟩ (by simp; omega) HNE.out.1]; simp [go_sem, zf, gz3]); have a42 : w4.cell? ⟨w.heap.size, 4, none⟩ = some (.slice av ll cv) := (by rw [hgrow4.cell_far ⟨w.heap.size, 4, none⟩ (by simp; omega) HNE.out.2]; simp [go_sem, z4, oz3]))
      | (go_at_call 33; refine (HA.out j hj _ _ _ _ _ _ _ _ HBp.out HWd.out.1 HWd.out.2 HE3.out ((Below.refl _ _).alloc (Nat.le_refl _) _) hown4 hgrow4 (or_of hat4 (fun h => by rw [h]; simp)) hlt4).mono ?_; rintro e w6 ⟨rfl, hfin⟩; have HF : Hid (∃ ρ' vl' S', Sh ρ' w6 g vl' (n + 1) S' ∧ Stp (fun r => r ≠ 0) ρ ρ' w w6) := hfin; clear hfin))
    go_ret
    exact ⟨rfl, HF.out⟩)
end Go.Proofs.YtjnhhnbgjjkkjaaDoor
