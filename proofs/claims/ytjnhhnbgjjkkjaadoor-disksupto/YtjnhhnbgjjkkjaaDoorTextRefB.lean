/-
  The contract of the document's Parts (package acreref): a text cut at each byte of a kind.
-/
import Derived.Test.YtjnhhnbgjjkkjaaDoorTextRef
import Derived.OwnWalk
import Derived.Laws.OwnMore
namespace Go.Proofs.YtjnhhnbgjjkkjaaDoor
open Go.ChangeShapes Go.WideShapes Go.ChangeAt Go.RowKit
set_option linter.unusedVariables false
set_option linter.unusedSimpArgs false

theorem infoStr : (Tryd.prog.info? 9).map (fun i => (i.zero, i.size, i.bytes)) = some (some (.string ByteArray.empty), 1, 16) := by kernel_rfl
/-- texts as cells -/
def strs (ls : List (List UInt8)) : List Value := ls.map fun l => Value.string (bs l)
theorem strs_length (ls : List (List UInt8)) : (strs ls).length = ls.length := by simp [strs]
theorem strs_snoc (ls : List (List UInt8)) (l : List UInt8) : strs ls ++ [.string (bs l)] = strs (ls ++ [l]) := by simp [strs]
theorem take_snoc (s : ByteArray) (k : Nat) (h : k < s.size) : s.data.toList.take (k + 1) = s.data.toList.take k ++ [s[k]] := by
  rw [List.take_succ_eq_append_getElem (by simpa using h)]; rfl
theorem cut_snoc (c : UInt8) (l : List UInt8) (x : UInt8) : cutAll c ([], []) (l ++ [x]) = cutStep c (cutAll c ([], []) l) x := by simp [cutAll]
/-- cut_len: no more pieces than bytes -/
theorem cut_len (c : UInt8) (l : List UInt8) : ∀ s, (cutAll c s l).1.length ≤ s.1.length + l.length := by
  induction l with
  | nil => intro s; simp [cutAll]
  | cons x r ih =>
    intro s
    have := ih (cutStep c s x)
    have h2 : (cutStep c s x).1.length ≤ s.1.length + 1 := by unfold cutStep; split <;> simp
    simp only [cutAll, List.foldl_cons, List.length_cons] at this ⊢
    omega
theorem ext_bs (s : ByteArray) (a b : Nat) : s.extract a b = bs ((s.data.toList.take b).drop a) := by
  apply ByteArray.ext
  apply Array.ext'
  rw [bs_data, Lib.extract_data, List.drop_take]

theorem parts_hit (s : ByteArray) (c : Int) (cb : UInt8) (k g : Nat) (F : List (List UInt8)) (hlt : k < s.size) (hg : g ≤ k) (hc : c = cb.toNat) (hx : (((s[k].toNat : Nat) : Int) == c) = true)
    (h : cutAll cb ([], []) (s.data.toList.take k) = (F, (s.data.toList.take k).drop g)) : cutAll cb ([], []) (s.data.toList.take (k + 1)) = (F ++ [(s.data.toList.take k).drop g], (s.data.toList.take (k + 1)).drop (k + 1)) := by
  have e : s[k] = cb := by
    rw [beq_iff_eq, hc] at hx
    exact UInt8.toNat_inj.1 (by omega)
  rw [take_snoc s k hlt, cut_snoc, h, cutStep, if_pos e, ← take_snoc s k hlt]
  congr 1
  rw [List.drop_of_length_le (by simp; omega)]
theorem parts_miss (s : ByteArray) (c : Int) (cb : UInt8) (k g : Nat) (F : List (List UInt8)) (hlt : k < s.size) (hg : g ≤ k) (hc : c = cb.toNat) (hx : (((s[k].toNat : Nat) : Int) == c) = false)
    (h : cutAll cb ([], []) (s.data.toList.take k) = (F, (s.data.toList.take k).drop g)) : cutAll cb ([], []) (s.data.toList.take (k + 1)) = (F, (s.data.toList.take (k + 1)).drop g) := by
  have e : ¬ s[k] = cb := by
    rw [beq_eq_false_iff_ne, hc] at hx
    intro e; rw [e] at hx; exact hx rfl
  have hl : g ≤ (s.data.toList.take k).length := by
    have := Lib.size_eq s
    simp; omega
  rw [take_snoc s k hlt, cut_snoc, h, cutStep, if_neg e, List.drop_append_of_le_length hl]
theorem parts_end (s : ByteArray) (cb : UInt8) (k g : Nat) (F : List (List UInt8)) (hk : k = s.size)
    (h : cutAll cb ([], []) (s.data.toList.take k) = (F, (s.data.toList.take k).drop g)) : parts cb s.data.toList = F ++ [(s.data.toList.take k).drop g] := by
  have e : s.data.toList.take k = s.data.toList := List.take_of_length_le (by have := Lib.size_eq s; omega)
  rw [e] at h ⊢
  unfold parts; rw [h]

set_option maxRecDepth 1000000 in
set_option maxHeartbeats 1000000 in
theorem rparts_any (s : ByteArray) (c : Int) (cb : UInt8) (w : World) (hc : c = cb.toNat) (hs : s.size ≤ 2097152) :
    Calls Tryd.prog 34 #[.string s, .int .u8 c] w fun e w' => ∃ v, e = .returned v ∧ w'.ownsRow w.heap.size 9 1 v (parts cb s.data.toList).length (strs (parts cb s.data.toList)) ∧ Below w.heap.size w w' := by
  obtain ⟨i0, hi, hz0, hz1, hz2⟩ := info_parts infoStr
  have HC : Hid (c = cb.toNat) := hc
  clear hc
  go_enter Tryd.func34, Tryd.ntmps34
  go_wp2
  go_loopw [5, 6, 7] (fun v f i wr => ∃ (k g : Nat) (F : List (List UInt8)), k ≤ s.size ∧ g ≤ k ∧ i = .int .i64 k ∧ f = .int .i64 g ∧ wr.ownsRow w.heap.size 9 1 v F.length (strs F) ∧ Below w.heap.size w wr ∧ Hid (cutAll cb ([], []) (s.data.toList.take k) = (F, (s.data.toList.take k).drop g)))
    (fun _ _ i _ => s.size - (intOf i).toNat)
  case atStart => exact ⟨0, 0, [], Nat.zero_le _, Nat.le_refl _, rfl, rfl, World.ownsRow_nil _ _ _ _, Below.refl _ _, rfl⟩
  case round =>
    obtain ⟨k, g, F, hk, hg, rfl, rfl, hown, hb, hcut⟩ := hrel
    have hF : F.length ≤ k := by
      have := cut_len cb (s.data.toList.take k) ([], [])
      rw [hcut.out] at this
      simp at this
      omega
    by_cases hlt : k < s.size
    · go_wp2_with (first
        | (at_builtin; refine wpList_append_own _ rfl _ _ 64 rfl w.heap.size 9 i0 (.string ByteArray.empty) 1 16 Tryd.underlying64 hi hz0 hz1 hz2 rfl (by decide) _ _ _ rfl (hown.alloc _) ⟨wr.heap.size, 0, none⟩ 1 1 [.string (s.extract g k)] rfl rfl ?c1 ?c2 ?c3 ?c4 ?c5 ?_)
        | go_in)
      case c1 =>
        intro j u hj
        match j, hj with
        | 0, hj => simp at hj; subst hj; simp [Addr.add]
      case c2 => intro u hu; simp at hu; subst hu; rfl
      case c3 => unfold maxLen; omega
      case c4 => omega
      case c5 => have := hb.size; simp; omega
      · intro v' w1 hown' hgrow _
        have hx := ‹(↑s[k].toNat == c) = true›
        have R := parts_hit s c cb k g F hlt hg HC.out hx hcut.out
        rw [ext_bs] at hown'
        have hown2 : w1.ownsRow w.heap.size 9 1 v' (F ++ [(s.data.toList.take k).drop g]).length (strs (F ++ [(s.data.toList.take k).drop g])) := by
          rw [strs_snoc] at hown'; simpa using hown'
        have hb2 : Below w.heap.size w w1 := (hb.alloc hb.size _).grown hgrow (by have := hb.size; simp; omega) (fun r hr => (hown.lt r hr).1)
        clear hown' hgrow hown hx
        go_wp2
        go_roundw
        case rel => exact ⟨k + 1, k + 1, _, by omega, by omega, by go_num, by go_num, hown2, hb2, R⟩
        case measure => simp [intOf]; omega
      · have hx := ‹(↑s[k].toNat == c) = false›
        have R := parts_miss s c cb k g F hlt hg HC.out hx hcut.out
        clear hx
        go_roundw
        case rel => exact ⟨k + 1, g, F, by omega, by omega, by go_num, rfl, hown, hb, R⟩
        case measure => simp [intOf]; omega
    · have hk' : k = s.size := by omega
      have R := parts_end s cb k g F hk' hcut.out
      have HK : Hid (k = s.size) := hk'
      clear hk'
      go_wp2_with (first
        | (at_builtin; refine wpList_append_own _ rfl _ _ 64 rfl w.heap.size 9 i0 (.string ByteArray.empty) 1 16 Tryd.underlying64 hi hz0 hz1 hz2 rfl (by decide) _ _ _ rfl (hown.alloc _) ⟨wr.heap.size, 0, none⟩ 1 1 [.string (s.extract g s.size)] rfl rfl ?c1 ?c2 ?c3 ?c4 ?c5 ?_)
        | go_in)
      case c1 =>
        intro j u hj
        match j, hj with
        | 0, hj => simp at hj; subst hj; simp [Addr.add]
      case c2 => intro u hu; simp at hu; subst hu; rfl
      case c3 => unfold maxLen; omega
      case c4 => omega
      case c5 => have := hb.size; simp; omega
      intro v' w1 hown' hgrow _
      rw [ext_bs, strs_snoc] at hown'
      have hown2 : w1.ownsRow w.heap.size 9 1 v' (parts cb s.data.toList).length (strs (parts cb s.data.toList)) := by
        rw [R]; rw [HK.out]; simpa using hown'
      have hb2 : Below w.heap.size w w1 := (hb.alloc hb.size _).grown hgrow (by have := hb.size; simp; omega) (fun r hr => (hown.lt r hr).1)
      clear hown' hgrow hown R
      go_wp2
      go_ret
      exact ⟨_, rfl, hown2, hb2⟩
end Go.Proofs.YtjnhhnbgjjkkjaaDoor
