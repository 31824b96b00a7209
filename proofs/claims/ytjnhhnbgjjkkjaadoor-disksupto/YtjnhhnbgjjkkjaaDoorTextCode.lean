/-
  The contracts of the code's readers and writers of texts (package blocks), over the library's contracts.
-/
import Derived.Test.YtjnhhnbgjjkkjaaDoorShelf
import Derived.Test.YtjnhhnbgjjkkjaaDoorTextRefD
import Derived.Test.YtjnhhnbgjjkkjaaDoorTextRefE
import Derived.Lib.LaidTab
import Derived.Lib.AppendIntMem
import Derived.WalkSmall
namespace Go.Proofs.YtjnhhnbgjjkkjaaDoor
open Go.ChangeShapes Go.WideShapes Go.ChangeAt Go.RowKit
set_option linter.unusedVariables false
set_option linter.unusedSimpArgs false

/-- what of the library's variables the library's functions read -/
structure Env (w : World) : Prop where
  lo : 0 < w.heap.size ∧ 2 < w.heap.size ∧ 3 < w.heap.size ∧ 1 < w.heap.size
  mx : ∃ m, w.cell? ⟨0, 0, none⟩ = some (.int .i64 m)
  syn : ∃ tp p, w.var? Tryd.prog "strconv.ErrSyntax" = some #[.iface tp p]
  rng : ∃ tp p, w.var? Tryd.prog "strconv.ErrRange" = some #[.iface tp p]
  tab : Lib.TabIs Tryd.prog w "internal/strconv.uint64pow10" .u64 Lib.pow10Tab
theorem gSyn : Tryd.prog.globalNamed "strconv.ErrSyntax" = some 2 := by kernel_rfl
theorem gRng : Tryd.prog.globalNamed "strconv.ErrRange" = some 3 := by kernel_rfl
theorem gTab : Tryd.prog.globalNamed "internal/strconv.uint64pow10" = some 1 := by kernel_rfl
theorem Env.mono {w w' : World} (h : Env w) (hb : Below w.heap.size w w') : Env w' where
  lo := by have := h.lo; have := hb.size; omega
  mx := by obtain ⟨m, e⟩ := h.mx; exact ⟨m, (hb.cell (p := ⟨0, 0, none⟩) h.lo.1).trans e⟩
  syn := by obtain ⟨tp, p, e⟩ := h.syn; exact ⟨tp, p, var?_below hb gSyn h.lo.2.1 e⟩
  rng := by obtain ⟨tp, p, e⟩ := h.rng; exact ⟨tp, p, var?_below hb gRng h.lo.2.2.1 e⟩
  tab := var?_below hb gTab h.lo.2.2.2 h.tab

theorem atoi_ok (s : ByteArray) (w : World) (hs : s.size ≤ 2097152) (v : Int) (h : Lib.atoiAll s.data.toList = .ok v) :
    Calls Tryd.prog 63 #[.string s] w fun e w' => e = .returned (.tuple #[.int .i64 v, .nilIface]) ∧ Below w.heap.size w w' := by
  refine (Tryd.strconv_Atoi_ok s (by omega) v h w).mono ?_
  rintro e w' ⟨rfl, rfl | ⟨t, rfl⟩⟩
  · exact ⟨rfl, Below.refl _ _⟩
  · exact ⟨rfl, Lib.bytesWorld_below w _ t⟩
theorem atoi_err (s : ByteArray) (w : World) (E : Env w) (hs : s.size ≤ 2097152) (h : ∀ v, Lib.atoiAll s.data.toList ≠ .ok v) :
    Calls Tryd.prog 63 #[.string s] w fun e w' => ∃ x N, e = .returned (.tuple #[.int .i64 x, .iface 125 (.pointer (some ⟨N, 0, none⟩))]) ∧ Below w.heap.size w w' := by
  rcases e : Lib.atoiAll s.data.toList with v | _ | _
  · exact absurd e (h v)
  · obtain ⟨tp, p, hv⟩ := E.syn
    refine (Any.strconv_Atoi_syntax_var Tryd.laysC172 s (by omega) e tp p w hv).mono ?_
    rintro e w' ⟨N, rfl, _, _, hb⟩
    exact ⟨_, N, rfl, hb⟩
  · obtain ⟨tp, p, hv⟩ := E.rng
    refine (Any.strconv_Atoi_range_var Tryd.laysC172 s (by omega) e tp p w hv).mono ?_
    rintro e w' ⟨N, rfl, _, _, hb⟩
    exact ⟨_, N, rfl, hb⟩
theorem itoa_any (n : Int) (w : World) (E : Env w) (h0 : -9223372036854775808 ≤ n) (h1 : n ≤ 9223372036854775807) :
    Calls Tryd.prog 53 #[.int .i64 n] w fun e w' => e = .returned (.string (bs (Lib.itoa n))) ∧ Below w.heap.size w w' := by
  refine (Tryd.strconv_Itoa n h0 h1 w E.tab).mono ?_
  rintro e w' ⟨rfl, k, os, rfl⟩
  exact ⟨rfl, Lib.below_grow _ w (Nat.le_refl _) k os⟩

/-- what readNumber answers -/
def nB (l : List UInt8) (m : Nat) : Int := match num l m with | some n => (n : Int) | none => 0
def nOk (l : List UInt8) (m : Nat) : Bool := (num l m).isSome
theorem n_none {l : List UInt8} {m : Nat} (h : num l m = none) : nB l m = 0 ∧ nOk l m = false := by simp [nB, nOk, h]
theorem n_some {l : List UInt8} {m n : Nat} (h : num l m = some n) : nB l m = n ∧ nOk l m = true := by simp [nB, nOk, h]
set_option maxHeartbeats 400000 in
theorem rn_err (s : ByteArray) (m : Int) (w : World) (E : Hid (Env w)) (hs : s.size ≤ 2097152) (h : Hid (∀ v, Lib.atoiAll s.data.toList ≠ .ok v)) :
    Calls Tryd.prog 57 #[.string s, .int .i64 m] w fun e w' => e = .returned (.tuple #[.int .i64 0, .bool false]) ∧ Below w.heap.size w w' := by
  go_enter Tryd.func57, Tryd.ntmps57
  go_wp2_with (go_at_call 63; refine (atoi_err s _ E.out hs h.out).mono ?_; rintro e w1 ⟨x, N, rfl, hb1⟩)
  go_ret2
  exact ⟨rfl, hb1⟩
set_option maxHeartbeats 400000 in
theorem rn_low (s : ByteArray) (m v : Int) (w : World) (hs : s.size ≤ 2097152) (h : Hid (Lib.atoiAll s.data.toList = .ok v)) (hv : v < 0) :
    Calls Tryd.prog 57 #[.string s, .int .i64 m] w fun e w' => e = .returned (.tuple #[.int .i64 0, .bool false]) ∧ Below w.heap.size w w' := by
  go_enter Tryd.func57, Tryd.ntmps57
  go_wp2_with (go_at_call 63; refine (atoi_ok s _ hs v h.out).mono ?_; rintro e w1 ⟨rfl, hb1⟩)
  go_ret2
  exact ⟨rfl, hb1⟩
set_option maxHeartbeats 400000 in
theorem rn_high (s : ByteArray) (m v : Int) (w : World) (hs : s.size ≤ 2097152) (h : Hid (Lib.atoiAll s.data.toList = .ok v)) (hv : ¬ v < 0) (hm : m < v) :
    Calls Tryd.prog 57 #[.string s, .int .i64 m] w fun e w' => e = .returned (.tuple #[.int .i64 0, .bool false]) ∧ Below w.heap.size w w' := by
  go_enter Tryd.func57, Tryd.ntmps57
  go_wp2_with (go_at_call 63; refine (atoi_ok s _ hs v h.out).mono ?_; rintro e w1 ⟨rfl, hb1⟩)
  go_ret2
  exact ⟨rfl, hb1⟩
set_option maxHeartbeats 400000 in
theorem rn_in (s t : ByteArray) (m v : Int) (w : World) (E : Hid (Env w)) (hs : s.size ≤ 2097152) (h : Hid (Lib.atoiAll s.data.toList = .ok v)) (hv : ¬ v < 0) (hm : ¬ m < v) (hm1 : m ≤ 255) (ht : Hid (t = bs (Lib.itoa v))) (b : Bool) (hb : (t.toList == s.toList) = b) :
    Calls Tryd.prog 57 #[.string s, .int .i64 m] w fun e w' => e = .returned (.tuple #[.int .i64 (if b then v else 0), .bool b]) ∧ Below w.heap.size w w' := by
  have hi : Hid (∀ w, Env w → Calls Tryd.prog 53 #[.int .i64 v] w fun e w' => e = .returned (.string t) ∧ Below w.heap.size w w') := fun w E => by
    rw [ht.out]; exact itoa_any v w E (by omega) (by omega)
  cases b
  · go_enter Tryd.func57, Tryd.ntmps57
    go_wp2_with (first | (go_at_call 63; refine (atoi_ok s _ hs v h.out).mono ?_; rintro e w1 ⟨rfl, hb1⟩) | (go_at_call 53; refine (hi.out _ (E.out.mono hb1)).mono ?_; rintro e w2 ⟨rfl, hb2⟩))
    go_ret2
    exact ⟨rfl, hb1.trans (hb2.mono hb1.size)⟩
  · go_enter Tryd.func57, Tryd.ntmps57
    go_wp2_with (first | (go_at_call 63; refine (atoi_ok s _ hs v h.out).mono ?_; rintro e w1 ⟨rfl, hb1⟩) | (go_at_call 53; refine (hi.out _ (E.out.mono hb1)).mono ?_; rintro e w2 ⟨rfl, hb2⟩))
    go_ret2
    exact ⟨rfl, hb1.trans (hb2.mono hb1.size)⟩
theorem rn_any (s : ByteArray) (m : Int) (w : World) (E : Env w) (hs : s.size ≤ 2097152) (h0 : 0 ≤ m) (h1 : m ≤ 255) :
    Calls Tryd.prog 57 #[.string s, .int .i64 m] w fun e w' => e = .returned (.tuple #[.int .i64 (nB s.data.toList m.toNat), .bool (nOk s.data.toList m.toNat)]) ∧ Below w.heap.size w w' := by
  have hm : m.toNat ≤ 255 := by omega
  by_cases hok : ∃ v, Lib.atoiAll s.data.toList = .ok v
  · obtain ⟨v, hv⟩ := hok
    by_cases hlo : v < 0
    · obtain ⟨q1, q2⟩ := n_none (num_off hm (l := s.data.toList) fun n hn e => by rw [hv] at e; cases e; omega)
      rw [q1, q2]
      exact rn_low s m v w hs hv hlo
    · by_cases hhi : m < v
      · obtain ⟨q1, q2⟩ := n_none (num_off hm (l := s.data.toList) fun n hn e => by rw [hv] at e; cases e; omega)
        rw [q1, q2]
        exact rn_high s m v w hs hv hlo hhi
      · have h := rn_in s (bs (Lib.itoa v)) m v w E hs hv hlo hhi h1 rfl _ rfl
        rw [bs_toList, Lib.toList_data] at h
        rcases hb : (Lib.itoa v == s.data.toList) with _ | _
        · rw [hb] at h
          rw [beq_eq_false_iff_ne] at hb
          obtain ⟨q1, q2⟩ := n_none (num_off hm (l := s.data.toList) fun n hn e => by rw [hv] at e; cases e; exact hb)
          rw [q1, q2]; exact h
        · rw [hb] at h
          rw [beq_iff_eq] at hb
          obtain ⟨q1, q2⟩ := n_some (num_of_atoi hm hv (by omega) (by omega) hb)
          rw [q1, q2, show ((v.toNat : Nat) : Int) = v by omega]; exact h
  · have hno : ∀ v, Lib.atoiAll s.data.toList ≠ .ok v := fun v e => hok ⟨v, e⟩
    obtain ⟨q1, q2⟩ := n_none (num_off hm (l := s.data.toList) fun n hn e => absurd e (hno _))
    rw [q1, q2]
    exact rn_err s m w E hs hno
theorem rbits_any (s : ByteArray) (w : World) (E0 : Env w) (hs : s.size ≤ 2097152) :
    Calls Tryd.prog 43 #[.string s] w fun e w' => e = .returned (.tuple #[.int .i64 (nB s.data.toList 32), .bool (nOk s.data.toList 32)]) ∧ Below w.heap.size w w' := by
  have hn : Hid (Calls Tryd.prog 57 #[.string s, .int .i64 32] w fun e w' => e = .returned (.tuple #[.int .i64 (nB s.data.toList 32), .bool (nOk s.data.toList 32)]) ∧ Below w.heap.size w w') := rn_any s 32 w E0 hs (by omega) (by omega)
  generalize nB s.data.toList 32 = y at hn ⊢
  generalize nOk s.data.toList 32 = b at hn ⊢
  clear E0
  go_enter Tryd.func43, Tryd.ntmps43
  go_wp2_with (go_at_call 57; refine hn.out.mono ?_; rintro e w1 ⟨rfl, hb1⟩)
  go_ret2
  exact ⟨rfl, hb1⟩
end Go.Proofs.YtjnhhnbgjjkkjaaDoor
