/-
  Disks: every act.
-/
import Derived.Test.YtjnhhnbgjjkkjaaDoorDiskN
import Derived.Test.YtjnhhnbgjjkkjaaDoorDiskO
import Derived.Test.YtjnhhnbgjjkkjaaDoorDiskQ
import Derived.Test.YtjnhhnbgjjkkjaaDoorDiskR
import Derived.Test.YtjnhhnbgjjkkjaaDoorDiskS
import Derived.Test.YtjnhhnbgjjkkjaaDoorDiskU
import Derived.Test.YtjnhhnbgjjkkjaaDoorDiskV
namespace Go.Proofs.YtjnhhnbgjjkkjaaDoor
open Go.ChangeShapes Go.WideShapes Go.ChangeAt Go.RowKit
set_option linter.unusedVariables false
set_option linter.unusedSimpArgs false

set_option maxRecDepth 1000000 in
set_option maxHeartbeats 1000000 in
theorem act_none (ρ : Nat → Nat) (w : World) (g : Nat) (vl : Value) (n : Nat) (S : List Ent) (kind on a : Int) (s : ByteArray) (v : Value) (L : List Int) (h : Sh ρ w g vl n S) (hI : IntsZ ρ w v L) (hS : S.length = 0) (k1 : kind ≠ 1) :
    Calls Tryd.prog 8 #[.pointer (some ⟨g, 0, none⟩), .agg #[.int .i64 kind, .int .i64 on, .int .i64 a, .string s, v]] w (ActOk ρ w g n) := by
  obtain ⟨⟨av, cv, rfl, _, _, _⟩, _⟩ := hI
  have hvl : ∃ x c, vl = .slice x 0 c := by
    obtain ⟨_, ⟨rfl, hn⟩ | ⟨b, cap, cur, rfl, _⟩⟩ := h.own
    · exact ⟨_, _, rfl⟩
    · exact ⟨_, _, by rw [hS]⟩
  obtain ⟨lx, lc, rfl⟩ := hvl
  have c0 : w.cell? ⟨g, 0, none⟩ = some (.slice lx 0 lc) := h.blk.cell 0
  have gz : g < w.heap.size := h.blk.lt
  have j1 : (kind == 1) = false := by simpa using k1
  have HS : Hid (Sh ρ w g (.slice lx 0 lc) n S) := h
  clear h
  generalize L.length = ll
  go_enter Tryd.func8, Tryd.ntmps8
  go_wp2
  go_ret
  have hb : Below w.heap.size w (w.alloc (.cells #[.int .i64 kind, .int .i64 on, .int .i64 a, .string s, .slice av ll cv] 37)) := (Below.refl _ _).alloc (Nat.le_refl _) _
  exact ⟨rfl, ρ, _, S, HS.out.below hb (Nat.le_succ n), Stp.below HS.out.clean hb⟩

theorem act_any (ρ : Nat → Nat) (w : World) (g : Nat) (vl : Value) (n : Nat) (S : List Ent) (kind on a : Int) (s : ByteArray) (v : Value) (L : List Int) (h : Sh ρ w g vl n S) (hI : IntsZ ρ w v L) (hn : n < 2097152) (hon : -9223372036854775808 ≤ on ∧ on ≤ 9223372036854775807) (ha : -9223372036854775808 ≤ a ∧ a ≤ 9223372036854775807) (hsz : s.size ≤ 2097152) (hLm : L.length ≤ 2097152) :
    Calls Tryd.prog 8 #[.pointer (some ⟨g, 0, none⟩), .agg #[.int .i64 kind, .int .i64 on, .int .i64 a, .string s, v]] w (ActOk ρ w g n) := by
  by_cases k1 : kind = 1
  · subst k1; exact act_new ρ w g vl n S on a s v L h hI hn
  by_cases hS : S.length = 0
  · exact act_none ρ w g vl n S kind on a s v L h hI hS k1
  have hS : 0 < S.length := by omega
  by_cases k2 : kind = 2
  · subst k2; exact act_write ρ w g vl n S on a s v L h hI hn hS hon ha hsz
  by_cases k3 : kind = 3
  · subst k3; exact act_sync ρ w g vl n S on a s v L h hI hn hS hon ha hsz
  by_cases k4 : kind = 4
  · subst k4; exact act_read ρ w g vl n S on a s v L h hI hn hS hon ha hsz
  by_cases k5 : kind = 5
  · subst k5; exact act_stop ρ w g vl n S on a s v L h hI hn hS hon ha hsz
  by_cases k6 : kind = 6
  · subst k6; exact act_stands ρ w g vl n S on a s v L h hI hn hS hon ha hsz
  by_cases k7 : kind = 7
  · subst k7; exact act_crash ρ w g vl n S on a s v L h hI hn hS hon ha hsz hLm
  exact act_other ρ w g vl n S kind on a s v L h hI hn hS hon ha hsz k1 k2 k3 k4 k5 k6 k7
end Go.Proofs.YtjnhhnbgjjkkjaaDoor
