/-
  Disks: the document's Read and Write.
-/
import Derived.Test.YtjnhhnbgjjkkjaaDoorDiskE
namespace Go.Proofs.YtjnhhnbgjjkkjaaDoor
open Go.ChangeShapes Go.WideShapes Go.ChangeAt Go.RowKit
set_option linter.unusedVariables false
set_option linter.unusedSimpArgs false

/-- what the last write of a sector has left -/
def lookR (l : List (Int × ByteArray)) (s : Int) : ByteArray := l.foldl (fun a c => if c.1 = s then c.2 else a) (zb 64)
theorem lookR_snoc (l : List (Int × ByteArray)) (c : Int × ByteArray) (s : Int) : lookR (l ++ [c]) s = if c.1 = s then c.2 else lookR l s := by simp [lookR]
theorem fulB_nil : fulB ⟨#[]⟩ = zb 64 := by
  unfold fulB
  rw [show (⟨#[]⟩ : ByteArray) = bs [] from rfl]
  unfold zb
  rw [bs_append]
  rfl
theorem lookR_hit {l : List (Int × ByteArray)} {k : Nat} {s : Int} (hk : k < l.length) (h : (cAt l k).1 = s) : (cAt l k).2 = lookR (l.take (k + 1)) s := by
  rw [take_succ_cAt l k hk, lookR_snoc, if_pos h]
theorem lookR_miss {l : List (Int × ByteArray)} {k : Nat} {s : Int} (hk : k < l.length) (h : (cAt l k).1 ≠ s) : lookR (l.take k) s = lookR (l.take (k + 1)) s := by
  rw [take_succ_cAt l k hk, lookR_snoc, if_neg h]

set_option maxRecDepth 1000000 in
set_option maxHeartbeats 1000000 in
theorem read_r (ρ : Nat → Nat) (k : Nat) (w : World) (g : Nat) (B : RD) (s : Int) (hl : B.puts.length ≤ 2097152) (h : RAt ρ k w g B) :
    Calls Tryd.prog 25 #[.pointer (some ⟨g, 0, none⟩), .int .i64 s] w fun e w' => e = .returned (.string (lookR B.puts s)) ∧ Below w.heap.size w w' := by
  obtain ⟨hr, vp, hb, hv⟩ := h
  have hrd : Reads w vp B.puts := reads_of_owns hv.1
  have c0 : w.cell? ⟨g, 0, none⟩ = some vp := hb.cell 0
  have gz : g < w.heap.size := hb.lt
  clear hb hv hr
  obtain ⟨puts, safe, left, st⟩ := B
  simp only [] at *
  obtain ⟨a, cap, rfl, h1, h2, h3⟩ := hrd
  unfold maxLen at h2
  have H3 : Hid (puts ≠ [] → ∃ g, a = some ⟨g, 0, none⟩ ∧ g < w.heap.size ∧ ∀ j, j < puts.length → w.cell? ⟨g, j * 2, none⟩ = some (.int .i64 (cAt puts j).1) ∧ w.cell? ⟨g, j * 2 + 1, none⟩ = some (.string (cAt puts j).2)) := h3
  clear h3
  go_enter Tryd.func25, Tryd.ntmps25
  go_wp2_with (go_at_call 48; refine (full_any _ _ (by decide)).mono ?_; rintro e w1 ⟨rfl, hb1⟩)
  go_loopw [5, 6] (fun t i wr => ∃ n : Nat, n ≤ puts.length ∧ i = .int .i64 n ∧ t = .string (lookR (puts.take n) s) ∧ Below w.heap.size w wr) (fun _ i _ => puts.length - (intOf i).toNat)
  case atStart => exact ⟨0, by omega, rfl, by rw [fulB_nil]; rfl, hb1⟩
  case round =>
    obtain ⟨n, hn, rfl, rfl, hb⟩ := hrel
    have r0 := (hb.cell (p := ⟨g, 0, none⟩) gz).trans c0
    by_cases hlt : n < puts.length
    · obtain ⟨q, rfl, hq, hc⟩ := H3.out (by intro e; rw [e] at hlt; simp at hlt)
      have d0 := (hb.cell (p := ⟨q, n * 2, none⟩) hq).trans (hc n hlt).1
      have d1 := (hb.cell (p := ⟨q, n * 2 + 1, none⟩) hq).trans (hc n hlt).2
      clear hc
      by_cases hs : (cAt puts n).1 = s
      · have hs' : ((cAt puts n).1 == s) = true := by simpa using hs
        have HL : Hid ((cAt puts n).2 = lookR (puts.take (n + 1)) s) := lookR_hit hlt hs
        clear hs
        generalize (cAt puts n).1 = x at d0 hs'
        go_wp2
        go_roundw
        case rel => exact ⟨n + 1, by omega, by go_num, by rw [HL.out], hb⟩
        case measure => simp [intOf]; omega
      · have hs' : ((cAt puts n).1 == s) = false := by simpa using hs
        have HL : Hid (lookR (puts.take n) s = lookR (puts.take (n + 1)) s) := lookR_miss hlt hs
        clear hs
        generalize (cAt puts n).1 = x at d0 hs'
        go_wp2
        go_roundw
        case rel => exact ⟨n + 1, by omega, by go_num, by rw [HL.out], hb⟩
        case measure => simp [intOf]; omega
    · obtain rfl : n = puts.length := by omega
      have HL : Hid (puts.take puts.length = puts) := List.take_length
      go_wp2
      go_ret
      exact ⟨ret_str (by rw [HL.out]), hb⟩

theorem infoP : (Tryd.prog.info? 89).map (fun i => (i.zero, i.size, i.bytes)) = some (some (.agg #[.int .i64 0, .string ByteArray.empty]), 2, 24) := by kernel_rfl

/-- a put more -/
theorem put_r_end {ρ : Nat → Nat} {k g : Nat} {w wz w3 : World} {vp : Value} {B : RD} {s : Int} {f : ByteArray} {g3 cap : Nat}
    (hc : Clean ρ w) (h : RPt ρ k w g vp B) (hz : Below w.heap.size w wz)
    (o3 : w3.ownsRow 0 89 2 (.slice (some ⟨g3, 0, none⟩) (B.puts.length + 1) cap) (B.puts.length + 1) (cvs B.puts ++ [.int .i64 s, .string f]))
    (hg3 : wz.grownBy w3 vp.ownBlock) (hat : vp.ownBlock = some g3 ∨ g3 = wz.heap.size) (hlt : g3 < w3.heap.size) :
    ∃ ρ', RPt ρ' k (w3.setCell ⟨g, 0, none⟩ (.slice (some ⟨g3, 0, none⟩) (B.puts.length + 1) cap)) g (.slice (some ⟨g3, 0, none⟩) (B.puts.length + 1) cap) { B with puts := B.puts ++ [(s, f)] } ∧
      Stp (RRk k) ρ ρ' w (w3.setCell ⟨g, 0, none⟩ (.slice (some ⟨g3, 0, none⟩) (B.puts.length + 1) cap)) := by
  obtain ⟨hr, hb, hl⟩ := h
  have S4 : Stp (fun _ => False) ρ ρ w wz := Stp.below hc hz
  have B4 : Blk wz g (rB vp B.safe B.left B.st) 83 := hb.step S4 (fun h => h)
  have S5 : Stp (fun r => r = 4 * k + 4) ρ (ru ρ g3 (4 * k + 4)) wz w3 := Stp.grown S4.clean hg3 hl.2 rfl hat hlt
  have hr5 : ru ρ g3 (4 * k + 4) g = 4 * k + 2 := (S5.role g B4.lt).trans hr
  have S6 : Stp (fun r => r = 4 * k + 2) (ru ρ g3 (4 * k + 4)) (ru ρ g3 (4 * k + 4)) w3 (w3.setCell ⟨g, 0, none⟩ (.slice (some ⟨g3, 0, none⟩) (B.puts.length + 1) cap)) := Stp.set S5.clean hr5 0 _
  have F1 : ∀ r, (fun r => r = 4 * k + 2) r → RRk k r := fun r h => .inl h
  have F3 : ∀ r, (fun r => r = 4 * k + 4) r → RRk k r := fun r h => .inr h
  refine ⟨ru ρ g3 (4 * k + 4), ⟨hr5, ?_, ?_⟩, ?_⟩
  · exact (B4.step S5 (by rw [hr]; omega)).set 0 _
  · have e : B.puts.length + 1 = (B.puts ++ [(s, f)]).length := by simp
    have o4 : Own (ru ρ g3 (4 * k + 4)) (4 * k + 4) w3 89 (.slice (some ⟨g3, 0, none⟩) (B.puts.length + 1) cap) (B.puts ++ [(s, f)]) := by
      refine ⟨?_, fun b hb => ?_⟩
      · rw [← e, ← cvs_snoc]; exact o3
      · obtain rfl : g3 = b := by simpa [Value.ownBlock] using hb
        exact ru_at _ _ _
    exact o4.step S6 (by omega)
  · exact ((S4.mono (fun _ h => h.elim)).trans (S5.mono F3)).trans (S6.mono F1)

set_option maxRecDepth 1000000 in
set_option maxHeartbeats 1000000 in
theorem write_r (ρ : Nat → Nat) (k : Nat) (w : World) (g : Nat) (B : RD) (s : Int) (d : ByteArray) (hc : Clean ρ w) (h1 : B.left < 9223372036854775808) (hlo : B.puts.length ≤ 2097152) (hdm : d.size ≤ 2097152) (h : RAt ρ k w g B) :
    Calls Tryd.prog 21 #[.pointer (some ⟨g, 0, none⟩), .int .i64 s, .string d] w fun e w' => e = .returned (.bool (wOk B.left B.st s d)) ∧ ∃ ρ', RAt ρ' k w' g (writeR B s d) ∧ Stp (RRk k) ρ ρ' w w' := by
  obtain ⟨hr, vp, hb, hl⟩ := h
  have hst : Hid (Calls Tryd.prog 47 #[.pointer (some ⟨g, 0, none⟩)] w fun e w' => e = .returned (.bool (okS B.left B.st)) ∧ Upd w w' g (rB vp B.safe (leftS B.left B.st) (stS B.left B.st)) 83) := step_r w g vp B.safe B.left B.st h1 hb
  have hgR : RRk k (ρ g) := .inl hr
  have hfin0 : Hid (∀ w', Upd w w' g (rB vp B.safe (leftS B.left B.st) (stS B.left B.st)) 83 → RPt ρ k w' g vp { B with left := leftS B.left B.st, st := stS B.left B.st } ∧ Stp (RRk k) ρ ρ w w') := fun w' hu => by
    have S : Stp (RRk k) ρ ρ w w' := Stp.upd hc hu hgR
    have S3 : Stp (fun r => r = 4 * k + 2) ρ ρ w w' := Stp.upd hc hu hr
    exact ⟨⟨hr, hu.blk, hl.step S3 (by omega)⟩, S⟩
  rcases hw : wOk B.left B.st s d with _ | _
  · have e : writeR B s d = { B with left := leftS B.left B.st, st := stS B.left B.st } := by unfold writeR; rw [hw]; rfl
    rw [e]
    have hfin : Hid (∀ w', Upd w w' g (rB vp B.safe (leftS B.left B.st) (stS B.left B.st)) 83 → ∃ ρ', RAt ρ' k w' g { B with left := leftS B.left B.st, st := stS B.left B.st } ∧ Stp (RRk k) ρ ρ' w w') := fun w' hu => ⟨ρ, (hfin0.out w' hu).1.at, (hfin0.out w' hu).2⟩
    clear hb hl e
    rcases hok : okS B.left B.st with _ | _
    · rw [hok] at hst
      go_enter Tryd.func21, Tryd.ntmps21
      go_wp2_with (go_at_call 47; refine hst.out.mono ?_; rintro e w1 ⟨rfl, hu⟩; have HU : Hid (Upd w w1 g (rB vp B.safe (leftS B.left B.st) (stS B.left B.st)) 83) := hu; clear hu)
      go_ret
      exact ⟨rfl, hfin.out _ HU.out⟩
    · rw [hok] at hst
      have hw' : ¬ (0 ≤ s ∧ s < 256 ∧ d.size ≤ 64) := by intro ⟨a, b, c⟩; simp [wOk, hok, a, b, c] at hw
      by_cases s0 : s < 0
      · go_enter Tryd.func21, Tryd.ntmps21
        go_wp2_with (go_at_call 47; refine hst.out.mono ?_; rintro e w1 ⟨rfl, hu⟩; have HU : Hid (Upd w w1 g (rB vp B.safe (leftS B.left B.st) (stS B.left B.st)) 83) := hu; clear hu)
        go_ret
        exact ⟨rfl, hfin.out _ HU.out⟩
      · by_cases s1 : 256 ≤ s
        · go_enter Tryd.func21, Tryd.ntmps21
          go_wp2_with (go_at_call 47; refine hst.out.mono ?_; rintro e w1 ⟨rfl, hu⟩; have HU : Hid (Upd w w1 g (rB vp B.safe (leftS B.left B.st) (stS B.left B.st)) 83) := hu; clear hu)
          go_ret
          exact ⟨rfl, hfin.out _ HU.out⟩
        · have s2 : 64 < d.size := by omega
          clear hw'
          go_enter Tryd.func21, Tryd.ntmps21
          go_wp2_with (go_at_call 47; refine hst.out.mono ?_; rintro e w1 ⟨rfl, hu⟩; have HU : Hid (Upd w w1 g (rB vp B.safe (leftS B.left B.st) (stS B.left B.st)) 83) := hu; clear hu)
          go_ret
          exact ⟨rfl, hfin.out _ HU.out⟩
  · have hq : okS B.left B.st = true ∧ 0 ≤ s ∧ s < 256 ∧ d.size ≤ 64 := by simpa [wOk] using hw
    obtain ⟨hok, s0, s1, hd⟩ := hq
    have e : writeR B s d = { B with puts := B.puts ++ [(s, fulB d)], left := leftS B.left B.st, st := stS B.left B.st } := by unfold writeR; rw [hw]; rfl
    rw [e]
    rw [hok] at hst
    obtain ⟨i0, hi, hz0, hz1, hz2⟩ := info_parts infoP
    have hfu : Hid (∀ w, Calls Tryd.prog 48 #[.string d] w fun e w' => e = .returned (.string (fulB d)) ∧ Below w.heap.size w w') := fun w => full_any d w hd
    have HN : Hid (some g ≠ vp.ownBlock) := fun e => by have := hl.2 g e.symm; omega
    have HO : Hid (∀ w1 wz, Upd w w1 g (rB vp B.safe (leftS B.left B.st) (stS B.left B.st)) 83 → Below w1.heap.size w1 wz → wz.ownsRow 0 89 2 vp B.puts.length (cvs B.puts)) := fun w1 wz hu hz => by
      obtain ⟨hp, hS⟩ := hfin0.out w1 hu
      exact (hp.2.2.step (R := fun _ => False) (Stp.below hS.clean hz) (fun h => h)).1
    clear hw e hb hl
    go_enter Tryd.func21, Tryd.ntmps21
    go_wp2_with (first
      | (go_at_call 47; refine hst.out.mono ?_; rintro e w1 ⟨rfl, hu⟩; have HU : Hid (Upd w w1 g (rB vp B.safe (leftS B.left B.st) (stS B.left B.st)) 83) := hu; have c0 : w1.cell? ⟨g, 0, none⟩ = some vp := (hu.blk.cell 0); have f0 : w1.frozen? ⟨g, 0, none⟩ = false := (hu.blk.frozen 0); have gz : g < w1.heap.size := hu.blk.lt; clear hu)
      | (go_at_call 48; refine (hfu.out _).mono ?_; rintro e w2 ⟨rfl, hb2⟩; have d0 : w2.cell? ⟨g, 0, none⟩ = some vp := (by rw [hb2.cell (p := ⟨g, 0, none⟩) gz]; exact c0); have e0 : w2.frozen? ⟨g, 0, none⟩ = false := (by rw [hb2.frozen (p := ⟨g, 0, none⟩) gz]; exact f0); have gz2 : g < w2.heap.size := (by have := hb2.size; omega); clear c0 f0; have H2 : Hid (Below w1.heap.size w1 w2) := hb2; clear hb2)
      | (at_builtin; refine wpList_append_lies _ rfl _ _ 81 rfl 0 89 i0 _ 2 24 Tryd.underlying81 hi hz0 hz1 hz2 rfl (by decide) vp B.puts.length (cvs B.puts) rfl (HO.out w1 _ HU.out (Below.alloc H2.out (by have := H2.out.size; omega) _)) ⟨w2.heap.size, 0, none⟩ 1 1 [.int .i64 s, .string (fulB d)] rfl rfl (newcells (by simp [go_sem]) (by simp [go_sem])) (two_one _ _) (by omega) (by unfold maxLen; omega) (by omega) (by omega) (w2.heap.size + 1) (by simp) ?_; intro g3 cap3 w3 hown3 hgrow3 hat3 hlt3; have c32 : w3.cell? ⟨g, 0, none⟩ = some vp := (by rw [hgrow3.cell_far ⟨g, 0, none⟩ (by simp; omega) HN.out]; simp [go_sem, d0, gz2]); have f32 : w3.frozen? ⟨g, 0, none⟩ = false := (by rw [hgrow3.frozen_far ⟨g, 0, none⟩ (by simp; omega) HN.out]; simp [go_sem, e0, gz2])))
    go_ret
    refine ⟨rfl, ?_⟩
    obtain ⟨hp, hS⟩ := hfin0.out w1 HU.out
    obtain ⟨ρ', q1, q2⟩ := put_r_end hS.clean hp (Below.alloc H2.out (by have := H2.out.size; omega) _) hown3 hgrow3 (or_of hat3 (fun h => by rw [h]; simp)) hlt3
    exact ⟨ρ', q1.at, hS.trans q2⟩
end Go.Proofs.YtjnhhnbgjjkkjaaDoor
