/-
  Package disk (given): what 'get' tells of a list of cells.
-/
import Derived.Test.YtjnhhnbgjjkkjaaDoorTextRef
import Derived.Laws.MakeOwn
import Derived.Laws.OwnMore
import Derived.Deep.OwnRows
import Derived.OwnWalk
namespace Go.Proofs.YtjnhhnbgjjkkjaaDoor
open Go.ChangeShapes Go.WideShapes Go.ChangeAt Go.RowKit
set_option linter.unusedVariables false
set_option linter.unusedSimpArgs false

/-- n noughts -/
def zb (n : Nat) : ByteArray := bs (List.replicate n 0)
/-- what stands in a sector -/
def look (l : List (Int × ByteArray)) (s : Int) : ByteArray := match l.find? (fun c => c.1 == s) with | some c => c.2 | none => zb 64
def cAt (l : List (Int × ByteArray)) (j : Nat) : Int × ByteArray := l.getD j (0, ByteArray.empty)
/-- a slice of cells that reads so -/
def Reads (w : World) (v : Value) (l : List (Int × ByteArray)) : Prop :=
  ∃ a cap, v = .slice a l.length cap ∧ l.length ≤ cap ∧ cap ≤ maxLen ∧ (l ≠ [] → ∃ g, a = some ⟨g, 0, none⟩ ∧ g < w.heap.size ∧ ∀ j, j < l.length → w.cell? ⟨g, j * 2, none⟩ = some (.int .i64 (cAt l j).1) ∧ w.cell? ⟨g, j * 2 + 1, none⟩ = some (.string (cAt l j).2))
theorem Reads.mono {w w' : World} {v : Value} {l : List (Int × ByteArray)} (h : Reads w v l) (hb : Below w.heap.size w w') : Reads w' v l := by
  obtain ⟨a, cap, rfl, h1, h2, h3⟩ := h
  refine ⟨a, cap, rfl, h1, h2, fun hl => ?_⟩
  obtain ⟨g, rfl, hg, hc⟩ := h3 hl
  exact ⟨g, rfl, Nat.lt_of_lt_of_le hg hb.size, fun j hj => ⟨(hb.cell (p := ⟨g, j * 2, none⟩) hg).trans (hc j hj).1, (hb.cell (p := ⟨g, j * 2 + 1, none⟩) hg).trans (hc j hj).2⟩⟩
theorem add_at (H j : Nat) : (⟨H, 0, none⟩ : Addr).add j = ⟨H, j, none⟩ := by
  simp only [Addr.add]; split <;> simp_all
theorem look_hit {l : List (Int × ByteArray)} {k : Nat} {s : Int} (hk : k < l.length) (hno : ∀ j, j < k → (cAt l j).1 ≠ s) (hs : (cAt l k).1 = s) : (cAt l k).2 = look l s := by
  have hf : l.find? (fun c => c.1 == s) = some (cAt l k) := by
    rw [List.find?_eq_some_iff_getElem]
    refine ⟨by simpa using hs, k, hk, by simp [cAt, List.getD, List.getElem?_eq_getElem hk], fun j hj => ?_⟩
    have := hno j hj
    simp only [cAt, List.getD, List.getElem?_eq_getElem (show j < l.length by omega), Option.getD_some] at this
    simpa using this
  unfold look; rw [hf]
theorem look_miss {l : List (Int × ByteArray)} {s : Int} (hno : ∀ j, j < l.length → (cAt l j).1 ≠ s) : zb 64 = look l s := by
  have hf : l.find? (fun c => c.1 == s) = none := by
    rw [List.find?_eq_none]
    intro c hc
    obtain ⟨j, hj, rfl⟩ := List.getElem_of_mem hc
    have := hno j hj
    simp only [cAt, List.getD, List.getElem?_eq_getElem hj, Option.getD_some] at this
    simpa using this
  unfold look; rw [hf]
theorem infoB : (Tryd.prog.info? 5).map (fun i => (i.zero, i.size, i.bytes)) = some (some (.int .u8 0), 1, 1) := by kernel_rfl
/-- 'string(make([]byte, n))' -/
theorem conv_zero (n : Nat) (w : World) :
    (convert 71 9 (.slice (some ⟨w.heap.size, 0, none⟩) n n)).run Tryd.prog (w.alloc (.cells (madeCells #[.int .u8 0] n) 5)) = .ok (.string (zb n)) (w.alloc (.cells (madeCells #[.int .u8 0] n) 5)) := by
  have h := run_convert_bytes_back (P := Tryd.prog) (w.alloc (.cells (madeCells #[.int .u8 0] n) 5)) 71 9 5 ⟨w.heap.size, 0, none⟩ n (List.replicate n 0) Tryd.underlying71 Tryd.underlying5 Tryd.underlying9 (fun j hj => by
    simp only [List.length_replicate] at hj
    rw [add_at, World.cell?_alloc_at _ _ _ _ rfl]
    simp [madeCells, hj, Nat.mod_one])
  simpa [zb, bs] using h

set_option maxRecDepth 1000000 in
set_option maxHeartbeats 1000000 in
theorem get_any (v : Value) (l : List (Int × ByteArray)) (s : Int) (w : World) (hl : l.length ≤ 2097152) (hr : Reads w v l) :
    Calls Tryd.prog 49 #[v, .int .i64 s] w fun e w' => e = .returned (.string (look l s)) ∧ Below w.heap.size w w' := by
  have hmk : ∀ w, (Instr.makeSlice 71 (.int .i64 64) (.int .i64 64)).run Tryd.prog w = .ok (.slice (some ⟨w.heap.size, 0, none⟩) 64 64) (w.alloc (.cells (madeCells #[.int .u8 0] 64) 5)) := fun w => run_make_row' (P := Tryd.prog) 71 5 (.int .u8 0) 1 Tryd.underlying71 infoB rfl .i64 .i64 64 (by omega) (by omega) w
  have hcv := conv_zero 64
  have HR : Hid (Reads w v l) := hr
  obtain ⟨a, cap, rfl, h1, h2, h3⟩ := hr
  unfold maxLen at h2
  have H3 : Hid (l ≠ [] → ∃ g, a = some ⟨g, 0, none⟩ ∧ g < w.heap.size ∧ ∀ j, j < l.length → w.cell? ⟨g, j * 2, none⟩ = some (.int .i64 (cAt l j).1) ∧ w.cell? ⟨g, j * 2 + 1, none⟩ = some (.string (cAt l j).2)) := h3
  clear h3
  go_enter Tryd.func49, Tryd.ntmps49
  go_wp2
  go_loopw [9] (fun i wr => ∃ k : Nat, k ≤ l.length ∧ i = .int .i64 k ∧ Below w.heap.size w wr ∧ Hid (∀ j, j < k → (cAt l j).1 ≠ s)) (fun i _ => l.length - (intOf i).toNat)
  case atStart => exact ⟨0, by omega, rfl, Below.refl _ _, fun j hj => by omega⟩
  case round =>
    obtain ⟨k, hk, rfl, hb, hno⟩ := hrel
    by_cases hlt : k < l.length
    · obtain ⟨g, rfl, hg, hc⟩ := H3.out (by intro e; rw [e] at hlt; simp at hlt)
      have c0 := (hb.cell (p := ⟨g, k * 2, none⟩) hg).trans (hc k hlt).1
      have c1 := (hb.cell (p := ⟨g, k * 2 + 1, none⟩) hg).trans (hc k hlt).2
      clear hc
      by_cases hs : (cAt l k).1 = s
      · have hs' : ((cAt l k).1 == s) = true := by simpa using hs
        have hlk := look_hit hlt hno.out hs
        have HL : Hid ((cAt l k).2 = look l s) := hlk
        clear hs hlk
        generalize (cAt l k).1 = x at c0 hs'
        go_wp2
        go_ret
        exact ⟨ret_str HL.out, Below.alloc hb hb.size _⟩
      · have hs' : ((cAt l k).1 == s) = false := by simpa using hs
        have hno2 : Hid (∀ j, j < k + 1 → (cAt l j).1 ≠ s) := fun j hj => by
          by_cases e : j < k
          · exact hno.out j e
          · obtain rfl : j = k := by omega
            exact hs
        clear hs hno
        generalize (cAt l k).1 = x at c0 hs'
        go_wp2
        go_roundw
        case rel => exact ⟨k + 1, by omega, by go_num, Below.alloc hb hb.size _, hno2⟩
        case measure => simp [intOf]; omega
    · have hlk := look_miss (l := l) (s := s) (fun j hj => hno.out j (by omega))
      have HL : Hid (zb 64 = look l s) := hlk
      clear hlk
      go_wp2
      go_ret
      exact ⟨ret_str HL.out, Below.alloc hb hb.size _⟩
end Go.Proofs.YtjnhhnbgjjkkjaaDoor
