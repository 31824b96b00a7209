/-
  Disks: the program's Crash.
-/
import Derived.Test.YtjnhhnbgjjkkjaaDoorDiskF
namespace Go.Proofs.YtjnhhnbgjjkkjaaDoor
open Go.ChangeShapes Go.WideShapes Go.ChangeAt Go.RowKit
set_option linter.unusedVariables false
set_option linter.unusedSimpArgs false

/-- a slice of numbers -/
def IntsAt (w : World) (v : Value) (L : List Int) : Prop :=
  ∃ a c, v = .slice a L.length c ∧ L.length ≤ c ∧ c ≤ maxLen ∧ (L ≠ [] → ∃ b o, a = some ⟨b, o, none⟩ ∧ b < w.heap.size ∧ ∀ j, j < L.length → w.cell? ⟨b, o + j, none⟩ = some (.int .i64 (L.getD j 0)))
theorem IntsAt.mono {w w' : World} {v : Value} {L : List Int} (h : IntsAt w v L) (hb : Below w.heap.size w w') : IntsAt w' v L := by
  obtain ⟨a, c, rfl, h1, h2, h3⟩ := h
  refine ⟨a, c, rfl, h1, h2, fun hl => ?_⟩
  obtain ⟨b, o, rfl, hg, hc⟩ := h3 hl
  exact ⟨b, o, rfl, Nat.lt_of_lt_of_le hg hb.size, fun j hj => (hb.cell (p := ⟨b, o + j, none⟩) hg).trans (hc j hj)⟩

/-- how many bytes of a write are left -/
def clampN (x : Int) : Nat := (min (max x 0) 64).toNat
def mixB (n : Nat) (d y : ByteArray) : ByteArray := d.extract 0 n ++ y.extract n y.size
def crStep (n : Nat) (S : List (Int × ByteArray)) (c : Int × ByteArray) : List (Int × ByteArray) := if 0 < n then putL S (c.1, mixB n c.2 (look S c.1)) else S
def crD (L : List Int) (S0 loose : List (Int × ByteArray)) : Nat → List (Int × ByteArray)
  | 0 => S0
  | k + 1 => crStep (clampN (L.getD (k % L.length) 0)) (crD L S0 loose k) (cAt loose k)
/-- all sectors are whole -/
def Whole64 (l : List (Int × ByteArray)) : Prop := ∀ c ∈ l, c.2.size = 64
theorem putL_len (l : List (Int × ByteArray)) (c : Int × ByteArray) : (putL l c).length ≤ l.length + 1 := by unfold putL; split <;> simp
theorem Whole64.put {l : List (Int × ByteArray)} (h : Whole64 l) {c : Int × ByteArray} (hc : c.2.size = 64) : Whole64 (putL l c) := by
  have hm : ∀ x ∈ l.map (rep c), x.2.size = 64 := by
    intro x hx
    obtain ⟨y, hy, rfl⟩ := List.mem_map.1 hx
    unfold rep
    split
    · exact hc
    · exact h y hy
  unfold putL
  split
  · exact hm
  · intro x hx
    rcases List.mem_append.1 hx with hx | hx
    · exact hm x hx
    · simp at hx; subst hx; exact hc
theorem look_size {l : List (Int × ByteArray)} (h : Whole64 l) (s : Int) : (look l s).size = 64 := by
  unfold look
  split
  · rename_i c hc
    exact h c (List.mem_of_find?_eq_some hc)
  · simp [zb, bs_size]
theorem cAt_mem {l : List (Int × ByteArray)} {k : Nat} (hk : k < l.length) : cAt l k ∈ l := by
  simp [cAt, List.getD, List.getElem?_eq_getElem hk]
theorem clampN_le (x : Int) : clampN x ≤ 64 := by unfold clampN; omega
theorem mixB_size {n : Nat} {d y : ByteArray} (hn : n ≤ 64) (hd : d.size = 64) (hy : y.size = 64) : (mixB n d y).size = 64 := by
  simp [mixB, ByteArray.size_append, ByteArray.size_extract, hd, hy]; omega
theorem crD_facts (L : List Int) (S0 loose : List (Int × ByteArray)) (h0 : Whole64 S0) (hl : Whole64 loose) (k : Nat) (hk : k ≤ loose.length) : Whole64 (crD L S0 loose k) ∧ (crD L S0 loose k).length ≤ S0.length + k := by
  induction k with
  | zero => exact ⟨h0, Nat.le_refl _⟩
  | succ k ih =>
    obtain ⟨h1, h2⟩ := ih (by omega)
    simp only [crD, crStep]
    split
    · refine ⟨h1.put (mixB_size (clampN_le _) (hl _ (cAt_mem (by omega))) (look_size h1 _)), ?_⟩
      have := putL_len (crD L S0 loose k) ((cAt loose k).1, mixB (clampN (L.getD (k % L.length) 0)) (cAt loose k).2 (look (crD L S0 loose k) (cAt loose k).1))
      omega
    · exact ⟨h1, by omega⟩
theorem crD_nil (S0 loose : List (Int × ByteArray)) (k : Nat) : crD [] S0 loose k = S0 := by
  induction k with
  | zero => rfl
  | succ k ih => simp only [crD, ih]; rfl

/-- what a crash leaves, so far -/
def CrR (ρ' : Nat → Nat) (w : World) (wr : World) (S : List (Int × ByteArray)) : Prop :=
  Below w.heap.size w wr ∧ ∃ vs, Blk wr w.heap.size (dB vs (.slice none 0 0) (.slice none 0 0) (-1) false) 80 ∧ RdZ ρ' wr vs S
theorem CrR.below {ρ' : Nat → Nat} {w wr wz : World} {S : List (Int × ByteArray)} (h : CrR ρ' w wr S) (hc : Clean ρ' wr) (hb : Below wr.heap.size wr wz) : CrR ρ' w wz S := by
  obtain ⟨h1, vs, h2, h3⟩ := h
  have St : Stp (fun _ => False) ρ' ρ' wr wz := Stp.below hc hb
  exact ⟨h1.trans (hb.mono h1.size), vs, h2.step St (fun h => h), h3.step St (fun h => h)⟩
theorem CrR.put {ρ' : Nat → Nat} {w wr wz w3 : World} {S S' : List (Int × ByteArray)} {kn : Nat} {v : Value} (h : CrR ρ' w wr S) (hr : ρ' w.heap.size = 4 * kn + 1) (hc : Clean ρ' wr) (hb : Below wr.heap.size wr wz) (h3 : Below wz.heap.size wz w3)
    (o3 : w3.ownsRow wz.heap.size 85 2 v S'.length (cvs S')) : CrR ρ' w (w3.setCell ⟨w.heap.size, 0, none⟩ v) S' := by
  obtain ⟨h1, vs, h2, _⟩ := h
  have hcz : Clean ρ' wz := fun b h => hc b (Nat.le_trans hb.size h)
  have S1 : Stp (fun _ => False) ρ' ρ' wr w3 := (Stp.below hc hb).trans (Stp.below hcz h3)
  have S2 : Stp (fun r => r = 4 * kn + 1) ρ' ρ' w3 (w3.setCell ⟨w.heap.size, 0, none⟩ v) := Stp.set S1.clean hr 0 v
  refine ⟨?_, v, (h2.step S1 (fun h => h)).set 0 v, ?_⟩
  · exact ((h1.trans (hb.mono h1.size)).trans (h3.mono (Nat.le_trans h1.size hb.size))).setCell (Nat.le_refl _) v
  · exact (RdZ.made hcz o3).step S2 (by omega)
end Go.Proofs.YtjnhhnbgjjkkjaaDoor
