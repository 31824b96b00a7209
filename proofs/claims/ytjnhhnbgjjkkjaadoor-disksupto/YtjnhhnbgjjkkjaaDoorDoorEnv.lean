/-
  What the listed variables give: the library's table and its two errors; the world's shape gives its length. The witness: a world in which all that is listed lies.
-/
import Derived.Test.YtjnhhnbgjjkkjaaDoorCards
import Derived.Test.YtjnhhnbgjjkkjaaDoorTie
import Derived.Test.YtjnhhnbgjjkkjaaDoorTextCode
import Derived.Deep.DeepHandedRow
import Derived.Lib.LaidTab
import Derived.Stop.LaidErr
import Derived.Lay
namespace Go.Proofs.YtjnhhnbgjjkkjaaDoor
open Go.ChangeShapes Go.WideShapes Go.ChangeAt Go.RowKit
set_option linter.unusedVariables false

def laidAt : List (String × DataW Unit) := [("math/bits.deBruijn32tab", Rows.laid_math_bits_deBruijn32tab), ("math/bits.deBruijn64tab", Rows.laid_math_bits_deBruijn64tab), ("internal/strconv.uint64pow10", Rows.laid_internal_strconv_uint64pow10), ("unicode/utf8.acceptRanges", Rows.laid_unicode_utf8_acceptRanges), ("strconv.ErrRange", Rows.laid_strconv_ErrRange), ("strconv.ErrSyntax", Rows.laid_strconv_ErrSyntax), ("unicode/utf8.first", Rows.laid_unicode_utf8_first)]
theorem own : ownKnob Tryd.prog.godebug = none := by kernel_rfl
theorem tSyn : (Tryd.prog.globals[2]?).map (·.type) = some 100 := by kernel_rfl
theorem tRng : (Tryd.prog.globals[3]?).map (·.type) = some 100 := by kernel_rfl
theorem tTab : (Tryd.prog.globals[1]?).map (·.type) = some 132 := by kernel_rfl
theorem cellsTab : Tryd.prog.cellsOf 132 = 20 := by kernel_rfl
theorem cellsU64 : Tryd.prog.cellsOf 113 = 1 := by kernel_rfl
theorem cellsErr : Tryd.prog.cellsOf 150 = 1 := by kernel_rfl
theorem cellsStr : Tryd.prog.cellsOf 9 = 1 := by kernel_rfl
theorem tabEq : (Rows.laid_internal_strconv_uint64pow10 : DataW Unit) = Lib.tabData .u64 Lib.pow10Tab := by kernel_rfl
theorem var_lt {W : World} {n : String} {g : Nat} {cs : Array Value} (hg : Tryd.prog.globalNamed n = some g) (h : W.var? Tryd.prog n = some cs) : g < W.heap.size := by
  unfold World.var? at h
  simp only [hg, Option.bind_some] at h
  rcases Nat.lt_or_ge g W.heap.size with e | e
  · exact e
  · rw [Array.getElem?_eq_none e] at h; cases h
theorem star : "*" ++ "errors.errorString" = "*errors.errorString" := by decide
theorem rowErr (u : TypeId) (h : Tryd.prog.typeName? 3 u = some "*errors.errorString") : u = 148 :=
  typeName_ptr_named (nm := "errors.errorString") (by rw [star]; kernel_rfl) (by kernel_rfl) (by decide) u (by rw [star]; exact h)

/-- WHAT THE ROW's LIST AND THE WORLD's SHAPE GIVE -/
theorem env_of_laid {W : World} (h : laidMetH Tryd.prog laidAt W) (hsh : W.ShapedOpen Tryd.prog) : Env W := by
  rw [MakeChecks.laidMetH_plain _ _ _ (by kernel_rfl)] at h
  have h2 := h.tail.tail
  have ht : Lib.TabIs Tryd.prog W "internal/strconv.uint64pow10" .u64 Lib.pow10Tab := by
    have h3 := h2
    rw [tabEq] at h3
    exact Lib.tabIs_of_head gTab tTab Tryd.underlying132 Tryd.underlying113 cellsU64 cellsTab h3
  obtain ⟨a1, s1, hv1, _, _, _⟩ := laid_sentinel h2.tail.tail gRng tRng Tryd.underlying100 rowErr Tryd.underlying148 Tryd.underlying150 rfl rfl Tryd.underlying9 cellsErr cellsStr
  obtain ⟨a2, s2, hv2, _, _, _⟩ := laid_sentinel h2.tail.tail.tail gSyn tSyn Tryd.underlying100 rowErr Tryd.underlying148 Tryd.underlying150 rfl rfl Tryd.underlying9 cellsErr cellsStr
  obtain ⟨m, hm⟩ := Tryd.laysM147.s1_3 W hsh
  exact {
    lo := ⟨block_lt_of_cell hm, var_lt gSyn hv2, var_lt gRng hv1, var_lt gTab ht⟩
    mx := ⟨m, hm⟩
    syn := ⟨_, _, hv2⟩
    rng := ⟨_, _, hv1⟩
    tab := ht }
theorem laid_met (os : Os) (args : Array Value) : laidMetH Tryd.prog laidAt ((World.laidAll Tryd.prog os laidAt).forCall (fun _ _ => 0) ⟨#[], args, []⟩).memory := by
  rw [MakeChecks.laidMetH_plain _ _ _ (by kernel_rfl)]
  exact laidMet_laidAll _ (by kernel_rfl) (by kernel_rfl)
end Go.Proofs.YtjnhhnbgjjkkjaaDoor
