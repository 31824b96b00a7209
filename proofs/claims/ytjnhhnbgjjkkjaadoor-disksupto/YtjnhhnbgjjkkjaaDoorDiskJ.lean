/-
  Disks: which disk; numbers that are lent and given back.
-/
import Derived.Test.YtjnhhnbgjjkkjaaDoorDiskP
import Derived.Laws.CopyOwn
import Derived.BigQuiet
namespace Go.Proofs.YtjnhhnbgjjkkjaaDoor
open Go.ChangeShapes Go.WideShapes Go.ChangeAt Go.RowKit
set_option linter.unusedVariables false
set_option linter.unusedSimpArgs false

theorem lpick_any (c : Int) (n : Nat) (w : World) (hc : -9223372036854775808 ≤ c ∧ c ≤ 9223372036854775807) (h0 : 0 < n) (h1 : n ≤ 4194304) :
    Calls Tryd.prog 19 #[.int .i64 c, .int .i64 n] w fun e w' => ∃ j : Nat, j < n ∧ e = .returned (.int .i64 j) ∧ w' = w := by
  obtain ⟨g0, g1⟩ := hc
  have h0' : (0 : Int) < n := by omega
  have h1' : (n : Int) ≤ 4194304 := by omega
  by_cases h : c < 0
  · have e : Hid (∃ j : Nat, j < n ∧ -(c + 1).tmod n = (j : Nat)) := by
      refine ⟨(-(c + 1).tmod n).toNat, ?_, ?_⟩
      · have := Int.tmod_lt_of_pos (-(c + 1)) h0'
        rw [Int.neg_tmod] at this
        have := Int.tmod_nonneg (n : Int) (show 0 ≤ -(c + 1) by omega)
        rw [Int.neg_tmod] at this
        omega
      · have := Int.tmod_nonneg (n : Int) (show 0 ≤ -(c + 1) by omega)
        rw [Int.neg_tmod] at this
        omega
    go_enter Tryd.func19, Tryd.ntmps19
    go_wp2
    go_ret
    obtain ⟨j, hj, ej⟩ := e.out
    exact ⟨j, hj, ret_int ej, rfl⟩
  · have e : Hid (∃ j : Nat, j < n ∧ c % n = (j : Nat)) := by
      refine ⟨(c % n).toNat, ?_, ?_⟩
      · have := Int.emod_lt_of_pos c h0'
        have := Int.emod_nonneg c (show (n : Int) ≠ 0 by omega)
        omega
      · have := Int.emod_nonneg c (show (n : Int) ≠ 0 by omega)
        omega
    go_enter Tryd.func19, Tryd.ntmps19
    go_wp2
    go_ret
    obtain ⟨j, hj, ej⟩ := e.out
    exact ⟨j, hj, ret_int ej, rfl⟩

theorem infoI : (Tryd.prog.info? 3).map (fun i => (i.zero, i.size, i.bytes)) = some (some (.int .i64 0), 1, 8) := by kernel_rfl
/-- numbers as the memory holds them -/
def ivs (L : List Int) : List Value := L.map (Value.int .i64 ·)
theorem ivs_length (L : List Int) : (ivs L).length = L.length := by simp [ivs]
theorem ivs_at (L : List Int) (j : Nat) (hj : j < L.length) : (ivs L)[j]? = some (.int .i64 (L.getD j 0)) := by simp [ivs, hj]
theorem ivs_one (L : List Int) : ∀ u ∈ ivs L, u.oneCell' = true := by
  intro u hu
  obtain ⟨x, _, rfl⟩ := List.mem_map.1 hu
  rfl
def lentRow (L : List Int) : Array Value := (ivs L ++ [Value.int .i64 (-77)]).toArray
theorem lent_mid (L : List Int) : (splice (List.replicate (L.length + 1) (Value.int .i64 0)) 0 (ivs L)).toArray[L.length]? = some (.int .i64 0) := by
  unfold splice
  rw [ivs_length, List.drop_replicate]
  simp [ivs_length]
theorem lentRow_eq (L : List Int) : (splice (List.replicate (L.length + 1) (Value.int .i64 0)) 0 (ivs L)).toArray.setIfInBounds L.length (.int .i64 (-77)) = lentRow L := by
  unfold splice lentRow
  have e : ivs L ++ List.drop L.length (List.replicate (L.length + 1) (Value.int .i64 0)) = ivs L ++ [Value.int .i64 0] := by rw [List.drop_replicate, show L.length + 1 - L.length = 1 by omega]; rfl
  rw [ivs_length, Nat.zero_add, e]
  simp [List.set_append, ivs_length]

set_option maxRecDepth 1000000 in
set_option maxHeartbeats 1000000 in
theorem lent_any (v : Value) (L : List Int) (w : World) (hL : IntsAt w v L) (hm : L.length ≤ 2097152) :
    Calls Tryd.prog 30 #[v] w fun e w' => e = .returned (.slice (some ⟨w.heap.size, 0, none⟩) (L.length + 1) (L.length + 1)) ∧ Blk w' w.heap.size (lentRow L) 3 ∧ Below w.heap.size w w' := by
  obtain ⟨i0, hi, hz0, hz1, hz2⟩ := info_parts infoI
  have hsz : (Tryd.prog.info? 3).map (·.size) = some 1 := by rw [hi]; simp [hz1]
  obtain ⟨a, c, rfl, h1, h2, h3⟩ := hL
  unfold maxLen at h2
  have H3 : Hid (L ≠ [] → ∃ b o, a = some ⟨b, o, none⟩ ∧ b < w.heap.size ∧ ∀ j, j < L.length → w.cell? ⟨b, o + j, none⟩ = some (.int .i64 (L.getD j 0))) := h3
  clear h3
  have HG0 : Hid ((w.alloc (.cells (madeCells #[Value.int .i64 0] (L.length + 1)) 3)).heap[w.heap.size]? = some (.cells (List.replicate (L.length + 1) (Value.int .i64 0)).toArray 3 (0, 0))) := by
    show _ = _
    rw [heap_alloc_new, ← toList_madeCells_one]
  have HN0 : Hid ((ivs L).length = Nat.min L.length (L.length + 1)) := by
    show _ = _
    rw [ivs_length]; exact (Nat.min_eq_left (by omega)).symm
  have HP0 : Hid (0 < (ivs L).length → ∃ ad, a = some ad ∧ ∀ j u, (ivs L)[j]? = some u → (w.alloc (.cells (madeCells #[Value.int .i64 0] (L.length + 1)) 3)).cell? (ad.add j) = some u) := by
    intro h0
    rw [ivs_length] at h0
    obtain ⟨b, o, rfl, hb, hc⟩ := H3.out (by intro e; rw [e] at h0; simp at h0)
    refine ⟨⟨b, o, none⟩, rfl, fun j u hj => ?_⟩
    have hjl : j < L.length := by
      have := (List.getElem?_eq_some_iff.1 hj).1
      rwa [ivs_length] at this
    rw [ivs_at L j hjl] at hj
    rw [show (⟨b, o, none⟩ : Addr).add j = ⟨b, o + j, none⟩ by simp only [Addr.add]; split <;> simp_all, World.cell?_alloc_lt _ _ _ hb, hc j hjl, hj]
  clear H3
  go_enter Tryd.func30, Tryd.ntmps30
  go_wp2_with (first
    | (at_make; refine wpList_make_row _ rfl _ _ 35 rfl 3 i0 _ Tryd.underlying35 hi hz0 hz1 rfl .i64 .i64 (L.length + 1) rfl rfl (by rw [hz2]; omega) (by omega) ?_)
    | (refine wpList_copy_splice rfl _ _ 35 35 rfl 3 Tryd.underlying35 hsz _ _ _ _ _ _ rfl rfl w.heap.size 0 (List.replicate (L.length + 1) (.int .i64 0)) 3 HG0.out (ivs L) HN0.out (fun h => ⟨rfl, HP0.out h⟩) (by simp [ivs_length]) (ivs_one L) w.heap.size w ((Below.refl _ _).alloc (Nat.le_refl _) _) (Nat.le_refl _) ?_; intro w2 HG hB2; have k0 : w2.cell? ⟨w.heap.size, L.length, none⟩ = some (.int .i64 0) := (by rw [cell_of_row _ w.heap.size L.length _ _ _ HG.out]; exact lent_mid L); have f0 : w2.frozen? ⟨w.heap.size, L.length, none⟩ = false := Blk.frozen HG.out _)
    | go_in)
  go_ret
  exact ⟨rfl, by rw [← lentRow_eq]; exact Blk.set HG.out _ _, hB2.setCell (p := ⟨w.heap.size, L.length, none⟩) (Nat.le_refl _) _⟩

theorem Upd.drewN {w w' : World} {g : Nat} {cs : Array Value} {t : TypeId} (h : Upd w w' g cs t) {n : Nat} : Upd w (w'.drewN n) g cs t := ⟨h.os, h.tape, h.output, h.size, h.other, h.blk⟩
def backRow (L : List Int) (n : Nat) : Array Value := (List.replicate n (Value.int .i64 1) ++ ((ivs L).drop n ++ [Value.int .i64 (-77)])).toArray
theorem backRow_zero (L : List Int) : backRow L 0 = lentRow L := by simp [backRow, lentRow]
theorem backRow_set (L : List Int) (n : Nat) (hn : n < L.length) : (backRow L n).setIfInBounds n (.int .i64 1) = backRow L (n + 1) := by
  unfold backRow
  have hd : (ivs L).drop n = Value.int .i64 (L.getD n 0) :: (ivs L).drop (n + 1) := by
    rw [List.drop_eq_getElem_cons (by rw [ivs_length]; exact hn)]
    have := ivs_at L n hn
    rw [List.getElem?_eq_getElem (by rw [ivs_length]; exact hn)] at this
    rw [Option.some.inj this]
  rw [hd]
  simp [List.set_append, List.replicate_succ']
theorem backRow_at (L : List Int) (n : Nat) (hn : n < L.length) : (backRow L n)[n]? = some (.int .i64 (L.getD n 0)) := by
  unfold backRow
  rw [List.getElem?_toArray, List.getElem?_append_right (by simp), List.getElem?_append_left (by simp [ivs_length]; omega)]
  simp [ivs_at L n hn]
theorem backRow_end (L : List Int) (n : Nat) (hn : n ≤ L.length) : (backRow L n)[L.length]? = some (.int .i64 (-77)) := by
  unfold backRow
  rw [List.getElem?_toArray, List.getElem?_append_right (by simp; omega), List.getElem?_append_right (by simp [ivs_length])]
  simp [ivs_length]

set_option maxRecDepth 1000000 in
set_option maxHeartbeats 1000000 in
theorem back_any (v : Value) (L : List Int) (g : Nat) (w : World) (hL : IntsAt w v L) (hne : L ≠ [] → ∀ b, v.ownBlock = some b → b ≠ g) (hm : L.length ≤ 2097152) (hB : Blk w g (lentRow L) 3) :
    Calls Tryd.prog 33 #[.slice (some ⟨g, 0, none⟩) (L.length + 1) (L.length + 1), v] w fun e w' => e = .returned (.bool true) ∧ ∃ cs, Upd w w' g cs 3 := by
  obtain ⟨a, c, rfl, h1, h2, h3⟩ := hL
  unfold maxLen at h2
  have H3 : Hid (L ≠ [] → ∃ b o, a = some ⟨b, o, none⟩ ∧ b < w.heap.size ∧ b ≠ g ∧ ∀ j, j < L.length → w.cell? ⟨b, o + j, none⟩ = some (.int .i64 (L.getD j 0))) := fun hl => by
    obtain ⟨b, o, rfl, hb, hc⟩ := h3 hl
    exact ⟨b, o, rfl, hb, hne hl b rfl, hc⟩
  have c0 : w.cell? ⟨g, L.length, none⟩ = some (.int .i64 (-77)) := by
    rw [hB.cell, ← backRow_zero]
    exact backRow_end L 0 (by omega)
  have hU : Hid (Upd w w g (backRow L 0) 3) := by rw [backRow_zero]; exact Upd.refl hB
  clear h3 hB hne
  go_enter Tryd.func33, Tryd.ntmps33
  go_wp2
  go_loopw [5, 6] (fun ok i wr => ∃ n : Nat, n ≤ L.length ∧ i = .int .i64 n ∧ ok = .bool true ∧ Upd w wr g (backRow L n) 3) (fun _ i _ => L.length - (intOf i).toNat)
  case atStart => exact ⟨0, by omega, rfl, rfl, hU.out⟩
  case round =>
    obtain ⟨n, hn, rfl, rfl, hu⟩ := hrel
    have HU : Hid (Upd w wr g (backRow L n) 3) := hu
    have f0 : wr.frozen? ⟨g, n, none⟩ = false := hu.blk.frozen n
    by_cases hlt : n < L.length
    · have k0 : wr.cell? ⟨g, n, none⟩ = some (.int .i64 (L.getD n 0)) := (hu.blk.cell n).trans (backRow_at L n hlt)
      obtain ⟨b, o, rfl, hb, hbg, hcc⟩ := H3.out (by intro e; rw [e] at hlt; simp at hlt)
      have k1 : wr.cell? ⟨b, o + n, none⟩ = some (.int .i64 (L.getD n 0)) := (World.cell?_of_block (a := ⟨b, o + n, none⟩) (hu.other b hbg)).trans (hcc n hlt)
      clear hcc hu
      generalize L.getD n 0 = x at k0 k1
      go_wp2
      go_quiet (fail)
      go_wp2
      go_roundw
      case rel => exact ⟨n + 1, by omega, by go_num, rfl, HU.out.drewN.set n _ (backRow_set L n hlt)⟩
      case measure => simp [intOf]; omega
    · have k0 : wr.cell? ⟨g, L.length, none⟩ = some (.int .i64 (-77)) := (hu.blk.cell _).trans (backRow_end L n hn)
      have f1 : wr.frozen? ⟨g, L.length, none⟩ = false := hu.blk.frozen _
      clear hu
      go_wp2
      go_ret
      exact ⟨rfl, _, HU.out.set L.length _ rfl⟩
end Go.Proofs.YtjnhhnbgjjkkjaaDoor
