/-
  TextRefB, TextRefC, TextRefD
-/
import Derived.OwnWalk
import Derived.Laws.OwnMore
import Derived.Test.YtlikdnmikdldfaaGreatDoorLeasedPAE
namespace Go.Proofs.YtlikdnmikdldfaaGreatDoor
open Go.ChangeShapes Go.WideShapes Go.ChangeAt Go.RowKit
set_option linter.unusedVariables false
set_option linter.unusedSimpArgs false

theorem infoStr : (Tryz.prog.info? 9).map (fun i => (i.zero, i.size, i.bytes)) = some (some (.string ByteArray.empty), 1, 16) := by kernel_rfl
/-- texts as cells -/
def strs (ls : List (List UInt8)) : List Value := ls.map fun l => Value.string (bs l)
theorem strs_length (ls : List (List UInt8)) : (strs ls).length = ls.length := by simp [strs]
theorem strs_snoc (ls : List (List UInt8)) (l : List UInt8) : strs ls ++ [.string (bs l)] = strs (ls ++ [l]) := by simp [strs]
theorem take_snoc (s : ByteArray) (k : Nat) (h : k < s.size) : s.data.toList.take (k + 1) = s.data.toList.take k ++ [s[k]] := by
  rw [List.take_succ_eq_append_getElem (by simpa using h)]; rfl
theorem cut_snoc (c : UInt8) (l : List UInt8) (x : UInt8) : cutAll c ([], []) (l ++ [x]) = cutStep c (cutAll c ([], []) l) x := by simp [cutAll]
/-- cut_len: no more pieces than bytes -/
theorem cut_len (c : UInt8) (l : List UInt8) : ∀ s, (cutAll c s l).1.length ≤ s.1.length + l.length := by
  induction l with
  | nil => intro s; simp [cutAll]
  | cons x r ih =>
    intro s
    have := ih (cutStep c s x)
    have h2 : (cutStep c s x).1.length ≤ s.1.length + 1 := by unfold cutStep; split <;> simp
    simp only [cutAll, List.foldl_cons, List.length_cons] at this ⊢
    omega
theorem ext_bs (s : ByteArray) (a b : Nat) : s.extract a b = bs ((s.data.toList.take b).drop a) := by
  apply ByteArray.ext
  apply Array.ext'
  rw [bs_data, Lib.extract_data, List.drop_take]

theorem parts_hit (s : ByteArray) (c : Int) (cb : UInt8) (k g : Nat) (F : List (List UInt8)) (hlt : k < s.size) (hg : g ≤ k) (hc : c = cb.toNat) (hx : (((s[k].toNat : Nat) : Int) == c) = true)
    (h : cutAll cb ([], []) (s.data.toList.take k) = (F, (s.data.toList.take k).drop g)) : cutAll cb ([], []) (s.data.toList.take (k + 1)) = (F ++ [(s.data.toList.take k).drop g], (s.data.toList.take (k + 1)).drop (k + 1)) := by
  have e : s[k] = cb := by
    rw [beq_iff_eq, hc] at hx
    exact UInt8.toNat_inj.1 (by omega)
  rw [take_snoc s k hlt, cut_snoc, h, cutStep, if_pos e, ← take_snoc s k hlt]
  congr 1
  rw [List.drop_of_length_le (by simp; omega)]
theorem parts_miss (s : ByteArray) (c : Int) (cb : UInt8) (k g : Nat) (F : List (List UInt8)) (hlt : k < s.size) (hg : g ≤ k) (hc : c = cb.toNat) (hx : (((s[k].toNat : Nat) : Int) == c) = false)
    (h : cutAll cb ([], []) (s.data.toList.take k) = (F, (s.data.toList.take k).drop g)) : cutAll cb ([], []) (s.data.toList.take (k + 1)) = (F, (s.data.toList.take (k + 1)).drop g) := by
  have e : ¬ s[k] = cb := by
    rw [beq_eq_false_iff_ne, hc] at hx
    intro e; rw [e] at hx; exact hx rfl
  have hl : g ≤ (s.data.toList.take k).length := by
    have := Lib.size_eq s
    simp; omega
  rw [take_snoc s k hlt, cut_snoc, h, cutStep, if_neg e, List.drop_append_of_le_length hl]
theorem parts_end (s : ByteArray) (cb : UInt8) (k g : Nat) (F : List (List UInt8)) (hk : k = s.size)
    (h : cutAll cb ([], []) (s.data.toList.take k) = (F, (s.data.toList.take k).drop g)) : parts cb s.data.toList = F ++ [(s.data.toList.take k).drop g] := by
  have e : s.data.toList.take k = s.data.toList := List.take_of_length_le (by have := Lib.size_eq s; omega)
  rw [e] at h ⊢
  unfold parts; rw [h]

set_option maxRecDepth 1000000 in
set_option maxHeartbeats 1000000 in
theorem rparts_any (s : ByteArray) (c : Int) (cb : UInt8) (w : World) (hc : c = cb.toNat) (hs : s.size ≤ 2097152) :
    Calls Tryz.prog 105 #[.string s, .int .u8 c] w fun e w' => ∃ v, e = .returned v ∧ w'.ownsRow w.heap.size 9 1 v (parts cb s.data.toList).length (strs (parts cb s.data.toList)) ∧ Below w.heap.size w w' := by
  obtain ⟨i0, hi, hz0, hz1, hz2⟩ := info_parts infoStr
  have HC : Hid (c = cb.toNat) := hc
  clear hc
  go_enter Tryz.func105, Tryz.ntmps105
  go_wp2
  go_loopw [5, 6, 7] (fun v f i wr => ∃ (k g : Nat) (F : List (List UInt8)), k ≤ s.size ∧ g ≤ k ∧ i = .int .i64 k ∧ f = .int .i64 g ∧ wr.ownsRow w.heap.size 9 1 v F.length (strs F) ∧ Below w.heap.size w wr ∧ Hid (cutAll cb ([], []) (s.data.toList.take k) = (F, (s.data.toList.take k).drop g)))
    (fun _ _ i _ => s.size - (intOf i).toNat)
  case atStart => exact ⟨0, 0, [], Nat.zero_le _, Nat.le_refl _, rfl, rfl, World.ownsRow_nil _ _ _ _, Below.refl _ _, rfl⟩
  case round =>
    obtain ⟨k, g, F, hk, hg, rfl, rfl, hown, hb, hcut⟩ := hrel
    have hF : F.length ≤ k := by
      have := cut_len cb (s.data.toList.take k) ([], [])
      rw [hcut.out] at this
      simp at this
      omega
    by_cases hlt : k < s.size
    · go_wp2_with (first
        | (at_builtin; refine wpList_append_own _ rfl _ _ 31 rfl w.heap.size 9 i0 (.string ByteArray.empty) 1 16 Tryz.underlying31 hi hz0 hz1 hz2 rfl (by decide) _ _ _ rfl (hown.alloc _) ⟨wr.heap.size, 0, none⟩ 1 1 [.string (s.extract g k)] rfl rfl ?c1 ?c2 ?c3 ?c4 ?c5 ?_)
        | go_in)
      case c1 =>
        intro j u hj
        match j, hj with
        | 0, hj => simp at hj; subst hj; simp [Addr.add]
      case c2 => intro u hu; simp at hu; subst hu; rfl
      case c3 => unfold maxLen; omega
      case c4 => omega
      case c5 => have := hb.size; simp; omega
      · intro v' w1 hown' hgrow _
        have hx := ‹(↑s[k].toNat == c) = true›
        have R := parts_hit s c cb k g F hlt hg HC.out hx hcut.out
        rw [ext_bs] at hown'
        have hown2 : w1.ownsRow w.heap.size 9 1 v' (F ++ [(s.data.toList.take k).drop g]).length (strs (F ++ [(s.data.toList.take k).drop g])) := by
          rw [strs_snoc] at hown'; simpa using hown'
        have hb2 : Below w.heap.size w w1 := (hb.alloc hb.size _).grown hgrow (by have := hb.size; simp; omega) (fun r hr => (hown.lt r hr).1)
        clear hown' hgrow hown hx
        go_wp2
        go_roundw
        case rel => exact ⟨k + 1, k + 1, _, by omega, by omega, by go_num, by go_num, hown2, hb2, R⟩
        case measure => simp [intOf]; omega
      · have hx := ‹(↑s[k].toNat == c) = false›
        have R := parts_miss s c cb k g F hlt hg HC.out hx hcut.out
        clear hx
        go_roundw
        case rel => exact ⟨k + 1, g, F, by omega, by omega, by go_num, rfl, hown, hb, R⟩
        case measure => simp [intOf]; omega
    · have hk' : k = s.size := by omega
      have R := parts_end s cb k g F hk' hcut.out
      have HK : Hid (k = s.size) := hk'
      clear hk'
      go_wp2_with (first
        | (at_builtin; refine wpList_append_own _ rfl _ _ 31 rfl w.heap.size 9 i0 (.string ByteArray.empty) 1 16 Tryz.underlying31 hi hz0 hz1 hz2 rfl (by decide) _ _ _ rfl (hown.alloc _) ⟨wr.heap.size, 0, none⟩ 1 1 [.string (s.extract g s.size)] rfl rfl ?c1 ?c2 ?c3 ?c4 ?c5 ?_)
        | go_in)
      case c1 =>
        intro j u hj
        match j, hj with
        | 0, hj => simp at hj; subst hj; simp [Addr.add]
      case c2 => intro u hu; simp at hu; subst hu; rfl
      case c3 => unfold maxLen; omega
      case c4 => omega
      case c5 => have := hb.size; simp; omega
      intro v' w1 hown' hgrow _
      rw [ext_bs, strs_snoc] at hown'
      have hown2 : w1.ownsRow w.heap.size 9 1 v' (parts cb s.data.toList).length (strs (parts cb s.data.toList)) := by
        rw [R]; rw [HK.out]; simpa using hown'
      have hb2 : Below w.heap.size w w1 := (hb.alloc hb.size _).grown hgrow (by have := hb.size; simp; omega) (fun r hr => (hown.lt r hr).1)
      clear hown' hgrow hown R
      go_wp2
      go_ret
      exact ⟨_, rfl, hown2, hb2⟩
end Go.Proofs.YtlikdnmikdldfaaGreatDoor
namespace Go.Proofs.YtlikdnmikdldfaaGreatDoor
open Go.ChangeShapes Go.WideShapes Go.ChangeAt Go.RowKit
set_option linter.unusedVariables false
set_option linter.unusedSimpArgs false

def addrI (l : List UInt8) : Int := match addr l with | some a => (a : Int) | none => -1
/-- what has been read of an address behind k of its numbers -/
def acc (X : Nat → Int) : Nat → Int
  | 0 => 0
  | k + 1 => 256 * acc X k + X k
theorem acc_bd (X : Nat → Int) (k : Nat) (hk : k ≤ 4) (h : ∀ j, j < k → 0 ≤ X j ∧ X j ≤ 255) : 0 ≤ acc X k ∧ acc X k ≤ 256 ^ k - 1 := by
  induction k with
  | zero => simp [acc]
  | succ k ih =>
    have := ih (by omega) (fun j hj => h j (by omega))
    have hx := h k (by omega)
    rw [acc, Int.pow_succ]; omega
theorem numI_cases (l : List UInt8) (m : Nat) : (numI l m = -1 ∧ num l m = none) ∨ (∃ n : Nat, numI l m = n ∧ n ≤ m ∧ num l m = some n) := by
  unfold numI
  rcases h : num l m with _ | n
  · exact .inl ⟨rfl, rfl⟩
  · exact .inr ⟨n, rfl, (num_some.1 h).1, rfl⟩
/-- the slice that holds so many texts, written out -/
theorem owns_form {w : World} {base : Nat} {v : Value} {ls : List (List UInt8)} (h : w.ownsRow base 9 1 v ls.length (strs ls)) (hl : 1 ≤ ls.length) :
    ∃ g cap, v = .slice (some ⟨g, 0, none⟩) ls.length cap ∧ base ≤ g ∧ g < w.heap.size ∧ ls.length ≤ cap ∧ cap ≤ maxLen ∧ ∀ j, j < ls.length → w.cell? ⟨g, j, none⟩ = some (.string (bs (ls.getD j []))) := by
  have h0 := h
  obtain ⟨_, ⟨_, hn⟩ | ⟨g, cap, cur, rfl, hg, hblk, hc, hm, hsz, htk⟩⟩ := h
  · omega
  · have hlt : g < w.heap.size := by
      rcases Nat.lt_or_ge g w.heap.size with h | h
      · exact h
      · rw [Array.getElem?_eq_none h] at hblk; cases hblk
    refine ⟨g, cap, rfl, hg, hlt, hc, hm, fun j hj => ?_⟩
    rw [h0.cellAt j (by omega)]
    unfold strs
    rw [List.getElem?_map, List.getElem?_eq_getElem hj]
    simp [List.getD, List.getElem?_eq_getElem hj]
theorem len_four {ls : List (List UInt8)} (h : ls.length = 4) : ls = [ls.getD 0 [], ls.getD 1 [], ls.getD 2 [], ls.getD 3 []] := by
  match ls, h with
  | [a, b, c, d], _ => rfl
theorem addr_off {l : List UInt8} (h : (parts 46 l).length ≠ 4) : addrI l = -1 := by
  unfold addrI addr
  split
  · rename_i a ha
    split at ha
    · rename_i p0 p1 p2 p3 e
      rw [e] at h; simp at h
    · cases ha
  · rfl
theorem addr_bad {l : List UInt8} {k : Nat} (h : (parts 46 l).length = 4) (hk : k < 4) (hb : num ((parts 46 l).getD k []) 255 = none) : addrI l = -1 := by
  unfold addrI addr
  rw [len_four h]
  simp only []
  unfold four
  have : k = 0 ∨ k = 1 ∨ k = 2 ∨ k = 3 := by omega
  rcases this with rfl | rfl | rfl | rfl <;> rw [hb] <;> (split <;> first | rfl | (rename_i e; split at e <;> simp_all))
theorem addr_good {l : List UInt8} (h : (parts 46 l).length = 4) (hg : ∀ j, j < 4 → num ((parts 46 l).getD j []) 255 ≠ none) :
    acc (fun j => numI ((parts 46 l).getD j []) 255) 4 = addrI l := by
  unfold addrI addr
  rw [len_four h]
  simp only []
  have n0 := hg 0 (by omega)
  have n1 := hg 1 (by omega)
  have n2 := hg 2 (by omega)
  have n3 := hg 3 (by omega)
  rcases e0 : num ((parts 46 l).getD 0 []) 255 with _ | a0
  · exact absurd e0 n0
  rcases e1 : num ((parts 46 l).getD 1 []) 255 with _ | a1
  · exact absurd e1 n1
  rcases e2 : num ((parts 46 l).getD 2 []) 255 with _ | a2
  · exact absurd e2 n2
  rcases e3 : num ((parts 46 l).getD 3 []) 255 with _ | a3
  · exact absurd e3 n3
  simp only [List.getD_cons_zero, List.getD_cons_succ, acc, numI, four, e0, e1, e2, e3]
  omega
theorem bcell' {B : Nat} {W w1 : World} (hb : Below B W w1) {g j : Nat} {v : Value} (hg : g < B) (h : W.cell? ⟨g, j, none⟩ = some v) : w1.cell? ⟨g, j, none⟩ = some v :=
  (hb.cell (p := ⟨g, j, none⟩) hg).trans h

set_option maxRecDepth 1000000 in
set_option maxHeartbeats 1000000 in
theorem raddress_any (s : ByteArray) (w : World) (hs : s.size ≤ 2097152) :
    Calls Tryz.prog 149 #[.string s] w fun e w' => e = .returned (.int .i64 (addrI s.data.toList)) ∧ Below w.heap.size w w' := by
  have hp := parts_pos 46 s.data.toList
  obtain ⟨ls, HL⟩ : ∃ ls, ls = parts 46 s.data.toList := ⟨_, rfl⟩
  rw [← HL] at hp
  have HP : Hid (ls = parts 46 s.data.toList) := HL
  have hc : Hid (∀ w, Calls Tryz.prog 105 #[.string s, .int .u8 46] w fun e w' => ∃ v, e = .returned v ∧ w'.ownsRow w.heap.size 9 1 v ls.length (strs ls) ∧ Below w.heap.size w w') := by
    subst HL; exact fun w => rparts_any s 46 46 w rfl hs
  clear HL
  by_cases h4 : ls.length = 4
  · have hl4 : ((ls.length : Int) == 4) = true := by simp; omega
    go_enter Tryz.func149, Tryz.ntmps149
    go_wp2_with (go_at_call 105; refine (hc.out _).mono ?_; rintro e w1 ⟨v, rfl, hown, hb1⟩; obtain ⟨g, cap, hv, hg1, hg2, hg3, hg4, hcell⟩ := owns_form hown hp; rw [hv]; clear hv hown)
    have HX : Hid (∀ j, j < 4 → w1.cell? ⟨g, j, none⟩ = some (.string (bs (ls.getD j [])))) := fun j hj => hcell j (by omega)
    clear hcell
    go_loopw [4, 5] (fun a i wr => ∃ k : Nat, k ≤ 4 ∧ i = .int .i64 k ∧ a = .int .i64 (acc (fun j => numI (ls.getD j []) 255) k) ∧ Below w1.heap.size w1 wr ∧ Hid (∀ j, j < k → num (ls.getD j []) 255 ≠ none)) (fun _ i _ => 4 - (intOf i).toNat)
    case atStart => exact ⟨0, by omega, rfl, rfl, Below.refl _ _, fun j hj => by omega⟩
    case round =>
      obtain ⟨k, hk, rfl, rfl, hb, hgood⟩ := hrel
      have hbd := acc_bd (fun j => numI (ls.getD j []) 255) k hk (fun j hj => by
        rcases numI_cases (ls.getD j []) 255 with ⟨_, e⟩ | ⟨n, e, h, _⟩
        · exact absurd e (hgood.out j hj)
        · simp only [e]; omega)
      have hpw : (256 : Int) ^ k ≤ 4294967296 := by
        have : k = 0 ∨ k = 1 ∨ k = 2 ∨ k = 3 ∨ k = 4 := by omega
        rcases this with rfl | rfl | rfl | rfl | rfl <;> decide
      obtain ⟨a, ha⟩ : ∃ a, a = acc (fun j => numI (ls.getD j []) 255) k := ⟨_, rfl⟩
      rw [← ha] at hbd
      have b0 : 0 ≤ a := hbd.1
      have b1 : a ≤ 4294967295 := by omega
      have HA : Hid (a = acc (fun j => numI (ls.getD j []) 255) k) := ha
      rw [← ha]
      clear ha hbd hpw
      by_cases hlt : k < 4
      · have hce : wr.cell? ⟨g, k, none⟩ = some (.string (bs (ls.getD k []))) := bcell' hb hg2 (HX.out k hlt)
        obtain ⟨x, hx⟩ : ∃ x, x = numI (ls.getD k []) 255 := ⟨_, rfl⟩
        have hn : Hid (∀ w, Calls Tryz.prog 150 #[.string (bs (ls.getD k [])), .int .i64 255] w fun e w' => e = .returned (.int .i64 x) ∧ Below w.heap.size w w') := by
          rw [hx]; intro w; have := rnumber_any (bs (ls.getD k [])) 255 w (by omega) (by omega); rw [bs_data] at this; exact this
        have HN : Hid (x = numI (ls.getD k []) 255) := hx
        clear hx
        generalize hst : bs (ls.getD k []) = st at hce hn
        clear hst
        by_cases hneg : x < 0
        · go_wp2_with (go_at_call 150; refine (hn.out _).mono ?_; rintro e w2 ⟨rfl, hb2⟩)
          go_ret
          refine ⟨ret_int ?_, ?_⟩
          · have := addr_bad (l := s.data.toList) (k := k) (by rw [← HP.out]; exact h4) hlt (by
              rw [← HP.out]
              rcases numI_cases (ls.getD k []) 255 with ⟨_, e⟩ | ⟨n, e, h, _⟩
              · exact e
              · have := HN.out; omega)
            exact this.symm
          · exact (hb1.trans (hb.mono hb1.size)).trans (hb2.mono (Nat.le_trans hb1.size hb.size))
        · have hxb : x ≤ 255 := by
            rcases numI_cases (ls.getD k []) 255 with ⟨e, _⟩ | ⟨n, e, h, _⟩
            · have := HN.out; omega
            · have := HN.out; omega
          have hgood2 : Hid (∀ j, j < k + 1 → num (ls.getD j []) 255 ≠ none) := fun j hj => by
            by_cases e : j < k
            · exact hgood.out j e
            · obtain rfl : j = k := by omega
              rcases numI_cases (ls.getD j []) 255 with ⟨e, _⟩ | ⟨n, _, _, e⟩
              · have := HN.out; omega
              · rw [e]; simp
          clear hgood
          go_wp2_with (go_at_call 150; refine (hn.out _).mono ?_; rintro e w2 ⟨rfl, hb2⟩)
          go_roundw
          case rel => exact ⟨k + 1, by omega, by go_num, by rw [acc, ← HA.out, ← HN.out], hb.trans (hb2.mono hb.size), hgood2⟩
          case measure => simp [intOf]; omega
      · obtain rfl : k = 4 := by omega
        go_wp2
        go_ret
        refine ⟨ret_int ?_, hb1.trans (hb.mono hb1.size)⟩
        have h := addr_good (l := s.data.toList) (by rw [← HP.out]; exact h4) (by rw [← HP.out]; exact hgood.out)
        rw [← HP.out] at h
        rw [HA.out]; exact h
  · have hl4 : ((ls.length : Int) == 4) = false := by simp; omega
    go_enter Tryz.func149, Tryz.ntmps149
    go_wp2_with (go_at_call 105; refine (hc.out _).mono ?_; rintro e w1 ⟨v, rfl, hown, hb1⟩; obtain ⟨g, cap, hv, hg1, hg2, hg3, hg4, hcell⟩ := owns_form hown hp; rw [hv]; clear hv hown hcell)
    go_ret
    exact ⟨ret_int (addr_off (by rw [← HP.out]; exact h4)).symm, hb1⟩
end Go.Proofs.YtlikdnmikdldfaaGreatDoor
namespace Go.Proofs.YtlikdnmikdldfaaGreatDoor
open Go.ChangeShapes Go.WideShapes Go.ChangeAt Go.RowKit
set_option linter.unusedVariables false
set_option linter.unusedSimpArgs false

def rdB (l : List UInt8) : Int := match rd l with | some p => p.1 | none => 0
def rdN (l : List UInt8) : Int := match rd l with | some p => p.2 | none => 0
def rdE (l : List UInt8) : Int := match rd l with | some _ => 0 | none => 1
theorem rd_none {l : List UInt8} (h : rd l = none) : rdB l = 0 ∧ rdN l = 0 ∧ rdE l = 1 := by simp [rdB, rdN, rdE, h]
theorem rd_some {l : List UInt8} {a n : Int} (h : rd l = some (a, n)) : rdB l = a ∧ rdN l = n ∧ rdE l = 0 := by simp [rdB, rdN, rdE, h]
theorem len_two {ls : List (List UInt8)} (h : ls.length = 2) : ls = [ls.getD 0 [], ls.getD 1 []] := by
  match ls, h with
  | [a, b], _ => rfl
theorem rd_off {l : List UInt8} (h : (parts 47 l).length ≠ 2) : rd l = none := by
  unfold rd
  split
  · rename_i x y e; rw [e] at h; simp at h
  · rfl
theorem addrI_cases (l : List UInt8) : (addrI l = -1 ∧ addr l = none) ∨ (∃ a : Nat, addrI l = a ∧ addr l = some a) := by
  unfold addrI
  rcases h : addr l with _ | a
  · exact .inl ⟨rfl, rfl⟩
  · exact .inr ⟨a, rfl, rfl⟩
theorem four_lt {p0 p1 p2 p3 : List UInt8} {a : Nat} (h : four p0 p1 p2 p3 = some a) : a < 4294967296 := by
  unfold four at h
  split at h
  · rename_i a0 a1 a2 a3 e0 e1 e2 e3
    have h0 := (num_some.1 e0).1
    have h1 := (num_some.1 e1).1
    have h2 := (num_some.1 e2).1
    have h3 := (num_some.1 e3).1
    simp at h; omega
  · cases h
theorem addr_lt {l : List UInt8} {a : Nat} (h : addr l = some a) : a < 4294967296 := by
  unfold addr at h
  split at h
  · exact four_lt h
  · cases h
theorem rd_two {l : List UInt8} (h : (parts 47 l).length = 2) : rd l = (match addr ((parts 47 l).getD 0 []), num ((parts 47 l).getD 1 []) 32 with
    | some a, some n => if rt a n then some ((a : Int), (n : Int)) else none
    | _, _ => none) := by
  conv => lhs; unfold rd
  rw [len_two h]
  rfl
theorem cut_part (c : UInt8) (l : List UInt8) : ∀ s : List (List UInt8) × List UInt8, ∀ B, (∀ p ∈ s.1, p.length ≤ B) → s.2.length + l.length ≤ B → (∀ p ∈ (cutAll c s l).1, p.length ≤ B) ∧ (cutAll c s l).2.length ≤ B := by
  induction l with
  | nil => intro s B h1 h2; simp [cutAll]; exact ⟨h1, by simpa using h2⟩
  | cons x r ih =>
    intro s B h1 h2
    simp only [List.length_cons] at h2
    have := ih (cutStep c s x) B (by
      unfold cutStep; split
      · intro p hp; simp at hp; rcases hp with hp | rfl
        · exact h1 p hp
        · omega
      · exact h1) (by unfold cutStep; split <;> simp <;> omega)
    simpa [cutAll] using this
theorem part_len (c : UInt8) (l : List UInt8) (j : Nat) : ((parts c l).getD j []).length ≤ l.length := by
  obtain ⟨h1, h2⟩ := cut_part c l ([], []) l.length (by simp) (by simp)
  by_cases h : j < (parts c l).length
  · have hm : (parts c l).getD j [] ∈ parts c l := by
      simp [List.getD, List.getElem?_eq_getElem h]
    unfold parts at hm ⊢
    rw [List.mem_append, List.mem_singleton] at hm
    rcases hm with hm | hm
    · exact h1 _ hm
    · rw [hm]; exact h2
  · simp [List.getD, List.getElem?_eq_none (Nat.le_of_not_lt h)]
theorem addrI_lt (l : List UInt8) : addrI l < 4294967296 := by
  rcases addrI_cases l with ⟨e, _⟩ | ⟨a, e, h⟩
  · omega
  · have := addr_lt h; omega

set_option maxRecDepth 1000000 in
set_option maxHeartbeats 1000000 in
theorem rread_len (s : ByteArray) (w : World) (ls : List (List UInt8)) (x y : Int) (p0 p1 : ByteArray) (hp : 1 ≤ ls.length)
    (hc : Hid (∀ w, Calls Tryz.prog 105 #[.string s, .int .u8 47] w fun e w' => ∃ v, e = .returned v ∧ w'.ownsRow w.heap.size 9 1 v ls.length (strs ls) ∧ Below w.heap.size w w'))
    (hp0 : Hid (bs (ls.getD 0 []) = p0)) (hp1 : Hid (bs (ls.getD 1 []) = p1))
    (ca : Hid (∀ w, Calls Tryz.prog 149 #[.string p0] w fun e w' => e = .returned (.int .i64 x) ∧ Below w.heap.size w w'))
    (cn : Hid (∀ w, Calls Tryz.prog 150 #[.string p1, .int .i64 32] w fun e w' => e = .returned (.int .i64 y) ∧ Below w.heap.size w w')) (h : ((ls.length : Int) == 2) = false) :
    Calls Tryz.prog 146 #[.string s] w fun e w' => e = .returned (.tuple #[.agg #[.int .u32 (0), .int .i64 (0)], .int .i64 (1)]) ∧ Below w.heap.size w w' := by
  go_enter Tryz.func146, Tryz.ntmps146
  go_wp2_with (first | (go_at_call 105; refine (hc.out _).mono ?_; rintro e w1 ⟨v, rfl, hown, hb1⟩; obtain ⟨g, cap, hv, hg1, hg2, hg3, hg4, hcell⟩ := owns_form hown hp; rw [hv]; clear hv hown; have hg5 : w.heap.size < g := (by simp at hg1; omega); obtain ⟨hc, hf⟩ := bcell hb1; have c1_0_0 : w1.cell? ⟨w.heap.size, 0, none⟩ = some (.int .u32 0) := (by rw [hc _ _ (by first | omega | (simp; done) | (simp; omega))]; first | assumption | (rw [World.cell?_alloc_past _ _ _ (by omega)]; assumption) | (simp [go_sem, *]; done)); have f1_0_0 : w1.frozen? ⟨w.heap.size, 0, none⟩ = false := (by rw [hf _ _ (by first | omega | (simp; done) | (simp; omega))]; first | assumption | (rw [World.frozen?_alloc_past _ _ _ (by omega)]; assumption) | (simp [go_sem, *]; done)); have c1_0_1 : w1.cell? ⟨w.heap.size, 1, none⟩ = some (.int .i64 0) := (by rw [hc _ _ (by first | omega | (simp; done) | (simp; omega))]; first | assumption | (rw [World.cell?_alloc_past _ _ _ (by omega)]; assumption) | (simp [go_sem, *]; done)); have f1_0_1 : w1.frozen? ⟨w.heap.size, 1, none⟩ = false := (by rw [hf _ _ (by first | omega | (simp; done) | (simp; omega))]; first | assumption | (rw [World.frozen?_alloc_past _ _ _ (by omega)]; assumption) | (simp [go_sem, *]; done)); have z1_0 : w.heap.size < w1.heap.size := (by have := hb1.size; (try simp at this); omega); clear hc hf; clear hcell hg1))
  exact bodyPost_ret (v := .tuple #[.agg #[.int .u32 (0), .int .i64 (0)], .int .i64 (1)]) (by simp [results, Tryz.results146, go_sem, c1_0_0, c1_0_1, f1_0_0, f1_0_1, World.cell?_alloc_lt, z1_0, Nat.lt_succ_of_lt z1_0]) rfl ⟨rfl, (by have hq := hb1.mono (B' := w.heap.size) (by first | omega | (simp; done) | (simp; omega)); have hq2 := Below.trans (B := w.heap.size) (a := w) (by repeat' (first | with_reducible assumption | with_reducible exact Below.refl _ _ | with_reducible apply Below.drew | with_reducible apply below_drewN | with_reducible apply Below.setCell | with_reducible apply Below.alloc | omega | (simp; done) | (simp; omega))) hq; clear hq; have s1 := hq2.size; repeat' (first | with_reducible assumption | with_reducible exact Below.refl _ _ | with_reducible apply Below.drew | with_reducible apply below_drewN | with_reducible apply Below.setCell | with_reducible apply Below.alloc | omega | (simp; done) | (simp; omega)))⟩

set_option maxRecDepth 1000000 in
set_option maxHeartbeats 1000000 in
theorem rread_addr (s : ByteArray) (w : World) (ls : List (List UInt8)) (x y : Int) (p0 p1 : ByteArray) (hp : 1 ≤ ls.length)
    (hc : Hid (∀ w, Calls Tryz.prog 105 #[.string s, .int .u8 47] w fun e w' => ∃ v, e = .returned v ∧ w'.ownsRow w.heap.size 9 1 v ls.length (strs ls) ∧ Below w.heap.size w w'))
    (hp0 : Hid (bs (ls.getD 0 []) = p0)) (hp1 : Hid (bs (ls.getD 1 []) = p1))
    (ca : Hid (∀ w, Calls Tryz.prog 149 #[.string p0] w fun e w' => e = .returned (.int .i64 x) ∧ Below w.heap.size w w'))
    (cn : Hid (∀ w, Calls Tryz.prog 150 #[.string p1, .int .i64 32] w fun e w' => e = .returned (.int .i64 y) ∧ Below w.heap.size w w')) (h2 : ls.length = 2) (hx : x < 0) :
    Calls Tryz.prog 146 #[.string s] w fun e w' => e = .returned (.tuple #[.agg #[.int .u32 (0), .int .i64 (0)], .int .i64 (1)]) ∧ Below w.heap.size w w' := by
  have h : ((ls.length : Int) == 2) = true := by simp; omega
  go_enter Tryz.func146, Tryz.ntmps146
  go_wp2_with (first | (go_at_call 105; refine (hc.out _).mono ?_; rintro e w1 ⟨v, rfl, hown, hb1⟩; obtain ⟨g, cap, hv, hg1, hg2, hg3, hg4, hcell⟩ := owns_form hown hp; rw [hv]; clear hv hown; have hg5 : w.heap.size < g := (by simp at hg1; omega); have c1_1_0 : w1.cell? ⟨g, 0, none⟩ = some (.string p0) := (by rw [hcell 0 (by omega), hp0.out]); have c1_1_1 : w1.cell? ⟨g, 1, none⟩ = some (.string p1) := (by rw [hcell 1 (by omega), hp1.out]); obtain ⟨hc, hf⟩ := bcell hb1; have c1_0_0 : w1.cell? ⟨w.heap.size, 0, none⟩ = some (.int .u32 0) := (by rw [hc _ _ (by first | omega | (simp; done) | (simp; omega))]; first | assumption | (rw [World.cell?_alloc_past _ _ _ (by omega)]; assumption) | (simp [go_sem, *]; done)); have f1_0_0 : w1.frozen? ⟨w.heap.size, 0, none⟩ = false := (by rw [hf _ _ (by first | omega | (simp; done) | (simp; omega))]; first | assumption | (rw [World.frozen?_alloc_past _ _ _ (by omega)]; assumption) | (simp [go_sem, *]; done)); have c1_0_1 : w1.cell? ⟨w.heap.size, 1, none⟩ = some (.int .i64 0) := (by rw [hc _ _ (by first | omega | (simp; done) | (simp; omega))]; first | assumption | (rw [World.cell?_alloc_past _ _ _ (by omega)]; assumption) | (simp [go_sem, *]; done)); have f1_0_1 : w1.frozen? ⟨w.heap.size, 1, none⟩ = false := (by rw [hf _ _ (by first | omega | (simp; done) | (simp; omega))]; first | assumption | (rw [World.frozen?_alloc_past _ _ _ (by omega)]; assumption) | (simp [go_sem, *]; done)); have z1_0 : w.heap.size < w1.heap.size := (by have := hb1.size; (try simp at this); omega); clear hc hf; clear hcell hg1) | (go_at_call 149; refine (ca.out _).mono ?_; rintro e w2 ⟨rfl, hb2⟩; obtain ⟨hc, hf⟩ := bcell hb2; have c2_0_0 : w2.cell? ⟨w.heap.size, 0, none⟩ = some (.int .u32 0) := (by rw [hc _ _ (by first | omega | (simp; done) | (simp; omega))]; first | assumption | (rw [World.cell?_alloc_past _ _ _ (by omega)]; assumption) | (simp [go_sem, *]; done)); have f2_0_0 : w2.frozen? ⟨w.heap.size, 0, none⟩ = false := (by rw [hf _ _ (by first | omega | (simp; done) | (simp; omega))]; first | assumption | (rw [World.frozen?_alloc_past _ _ _ (by omega)]; assumption) | (simp [go_sem, *]; done)); have c2_0_1 : w2.cell? ⟨w.heap.size, 1, none⟩ = some (.int .i64 0) := (by rw [hc _ _ (by first | omega | (simp; done) | (simp; omega))]; first | assumption | (rw [World.cell?_alloc_past _ _ _ (by omega)]; assumption) | (simp [go_sem, *]; done)); have f2_0_1 : w2.frozen? ⟨w.heap.size, 1, none⟩ = false := (by rw [hf _ _ (by first | omega | (simp; done) | (simp; omega))]; first | assumption | (rw [World.frozen?_alloc_past _ _ _ (by omega)]; assumption) | (simp [go_sem, *]; done)); have c2_1_0 : w2.cell? ⟨g, 0, none⟩ = some (.string p0) := (by rw [hc _ _ (by first | omega | (simp; done) | (simp; omega))]; first | assumption | (rw [World.cell?_alloc_past _ _ _ (by omega)]; assumption) | (simp [go_sem, *]; done)); have c2_1_1 : w2.cell? ⟨g, 1, none⟩ = some (.string p1) := (by rw [hc _ _ (by first | omega | (simp; done) | (simp; omega))]; first | assumption | (rw [World.cell?_alloc_past _ _ _ (by omega)]; assumption) | (simp [go_sem, *]; done)); have z2_0 : w.heap.size < w2.heap.size := (by have := hb2.size; (try simp at this); omega); have z2_1 : g < w2.heap.size := (by have := hb2.size; (try simp at this); omega); clear hc hf; clear c1_0_0 c1_0_1 f1_0_0 f1_0_1 z1_0 c1_1_0 c1_1_1) | (go_at_call 150; refine (cn.out _).mono ?_; rintro e w3 ⟨rfl, hb3⟩; obtain ⟨hc, hf⟩ := bcell hb3; have c3_0_0 : w3.cell? ⟨w.heap.size, 0, none⟩ = some (.int .u32 0) := (by rw [hc _ _ (by first | omega | (simp; done) | (simp; omega))]; first | assumption | (rw [World.cell?_alloc_past _ _ _ (by omega)]; assumption) | (simp [go_sem, *]; done)); have f3_0_0 : w3.frozen? ⟨w.heap.size, 0, none⟩ = false := (by rw [hf _ _ (by first | omega | (simp; done) | (simp; omega))]; first | assumption | (rw [World.frozen?_alloc_past _ _ _ (by omega)]; assumption) | (simp [go_sem, *]; done)); have c3_0_1 : w3.cell? ⟨w.heap.size, 1, none⟩ = some (.int .i64 0) := (by rw [hc _ _ (by first | omega | (simp; done) | (simp; omega))]; first | assumption | (rw [World.cell?_alloc_past _ _ _ (by omega)]; assumption) | (simp [go_sem, *]; done)); have f3_0_1 : w3.frozen? ⟨w.heap.size, 1, none⟩ = false := (by rw [hf _ _ (by first | omega | (simp; done) | (simp; omega))]; first | assumption | (rw [World.frozen?_alloc_past _ _ _ (by omega)]; assumption) | (simp [go_sem, *]; done)); have z3_0 : w.heap.size < w3.heap.size := (by have := hb3.size; (try simp at this); omega); clear hc hf; clear c2_0_0 c2_0_1 f2_0_0 f2_0_1 z2_0 c2_1_0 c2_1_1 z2_1))
  exact bodyPost_ret (v := .tuple #[.agg #[.int .u32 (0), .int .i64 (0)], .int .i64 (1)]) (by simp [results, Tryz.results146, go_sem, c3_0_0, c3_0_1, f3_0_0, f3_0_1, World.cell?_alloc_lt, z3_0, Nat.lt_succ_of_lt z3_0]) rfl ⟨rfl, (by have hq := hb1.mono (B' := w.heap.size) (by first | omega | (simp; done) | (simp; omega)); have hq2 := Below.trans (B := w.heap.size) (a := w) (by repeat' (first | with_reducible assumption | with_reducible exact Below.refl _ _ | with_reducible apply Below.drew | with_reducible apply below_drewN | with_reducible apply Below.setCell | with_reducible apply Below.alloc | omega | (simp; done) | (simp; omega))) hq; clear hq; have s1 := hq2.size; have hq3 := Below.trans (B := w.heap.size) (a := w) (by repeat' (first | with_reducible assumption | with_reducible exact Below.refl _ _ | with_reducible apply Below.drew | with_reducible apply below_drewN | with_reducible apply Below.setCell | with_reducible apply Below.alloc | omega | (simp; done) | (simp; omega))) (hb2.mono (B' := w.heap.size) (by first | omega | (simp; done) | (simp; omega))); have s2 := hq3.size; clear hq2; have hq4 := Below.trans (B := w.heap.size) (a := w) (by repeat' (first | with_reducible assumption | with_reducible exact Below.refl _ _ | with_reducible apply Below.drew | with_reducible apply below_drewN | with_reducible apply Below.setCell | with_reducible apply Below.alloc | omega | (simp; done) | (simp; omega))) (hb3.mono (B' := w.heap.size) (by first | omega | (simp; done) | (simp; omega))); have s3 := hq4.size; clear hq3; repeat' (first | with_reducible assumption | with_reducible exact Below.refl _ _ | with_reducible apply Below.drew | with_reducible apply below_drewN | with_reducible apply Below.setCell | with_reducible apply Below.alloc | omega | (simp; done) | (simp; omega)))⟩

set_option maxRecDepth 1000000 in
set_option maxHeartbeats 1000000 in
theorem rread_num (s : ByteArray) (w : World) (ls : List (List UInt8)) (x y : Int) (p0 p1 : ByteArray) (hp : 1 ≤ ls.length)
    (hc : Hid (∀ w, Calls Tryz.prog 105 #[.string s, .int .u8 47] w fun e w' => ∃ v, e = .returned v ∧ w'.ownsRow w.heap.size 9 1 v ls.length (strs ls) ∧ Below w.heap.size w w'))
    (hp0 : Hid (bs (ls.getD 0 []) = p0)) (hp1 : Hid (bs (ls.getD 1 []) = p1))
    (ca : Hid (∀ w, Calls Tryz.prog 149 #[.string p0] w fun e w' => e = .returned (.int .i64 x) ∧ Below w.heap.size w w'))
    (cn : Hid (∀ w, Calls Tryz.prog 150 #[.string p1, .int .i64 32] w fun e w' => e = .returned (.int .i64 y) ∧ Below w.heap.size w w')) (h2 : ls.length = 2) (hx : ¬ x < 0) (hy : y < 0) :
    Calls Tryz.prog 146 #[.string s] w fun e w' => e = .returned (.tuple #[.agg #[.int .u32 (0), .int .i64 (0)], .int .i64 (1)]) ∧ Below w.heap.size w w' := by
  have h : ((ls.length : Int) == 2) = true := by simp; omega
  go_enter Tryz.func146, Tryz.ntmps146
  go_wp2_with (first | (go_at_call 105; refine (hc.out _).mono ?_; rintro e w1 ⟨v, rfl, hown, hb1⟩; obtain ⟨g, cap, hv, hg1, hg2, hg3, hg4, hcell⟩ := owns_form hown hp; rw [hv]; clear hv hown; have hg5 : w.heap.size < g := (by simp at hg1; omega); have c1_1_0 : w1.cell? ⟨g, 0, none⟩ = some (.string p0) := (by rw [hcell 0 (by omega), hp0.out]); have c1_1_1 : w1.cell? ⟨g, 1, none⟩ = some (.string p1) := (by rw [hcell 1 (by omega), hp1.out]); obtain ⟨hc, hf⟩ := bcell hb1; have c1_0_0 : w1.cell? ⟨w.heap.size, 0, none⟩ = some (.int .u32 0) := (by rw [hc _ _ (by first | omega | (simp; done) | (simp; omega))]; first | assumption | (rw [World.cell?_alloc_past _ _ _ (by omega)]; assumption) | (simp [go_sem, *]; done)); have f1_0_0 : w1.frozen? ⟨w.heap.size, 0, none⟩ = false := (by rw [hf _ _ (by first | omega | (simp; done) | (simp; omega))]; first | assumption | (rw [World.frozen?_alloc_past _ _ _ (by omega)]; assumption) | (simp [go_sem, *]; done)); have c1_0_1 : w1.cell? ⟨w.heap.size, 1, none⟩ = some (.int .i64 0) := (by rw [hc _ _ (by first | omega | (simp; done) | (simp; omega))]; first | assumption | (rw [World.cell?_alloc_past _ _ _ (by omega)]; assumption) | (simp [go_sem, *]; done)); have f1_0_1 : w1.frozen? ⟨w.heap.size, 1, none⟩ = false := (by rw [hf _ _ (by first | omega | (simp; done) | (simp; omega))]; first | assumption | (rw [World.frozen?_alloc_past _ _ _ (by omega)]; assumption) | (simp [go_sem, *]; done)); have z1_0 : w.heap.size < w1.heap.size := (by have := hb1.size; (try simp at this); omega); clear hc hf; clear hcell hg1) | (go_at_call 149; refine (ca.out _).mono ?_; rintro e w2 ⟨rfl, hb2⟩; obtain ⟨hc, hf⟩ := bcell hb2; have c2_0_0 : w2.cell? ⟨w.heap.size, 0, none⟩ = some (.int .u32 0) := (by rw [hc _ _ (by first | omega | (simp; done) | (simp; omega))]; first | assumption | (rw [World.cell?_alloc_past _ _ _ (by omega)]; assumption) | (simp [go_sem, *]; done)); have f2_0_0 : w2.frozen? ⟨w.heap.size, 0, none⟩ = false := (by rw [hf _ _ (by first | omega | (simp; done) | (simp; omega))]; first | assumption | (rw [World.frozen?_alloc_past _ _ _ (by omega)]; assumption) | (simp [go_sem, *]; done)); have c2_0_1 : w2.cell? ⟨w.heap.size, 1, none⟩ = some (.int .i64 0) := (by rw [hc _ _ (by first | omega | (simp; done) | (simp; omega))]; first | assumption | (rw [World.cell?_alloc_past _ _ _ (by omega)]; assumption) | (simp [go_sem, *]; done)); have f2_0_1 : w2.frozen? ⟨w.heap.size, 1, none⟩ = false := (by rw [hf _ _ (by first | omega | (simp; done) | (simp; omega))]; first | assumption | (rw [World.frozen?_alloc_past _ _ _ (by omega)]; assumption) | (simp [go_sem, *]; done)); have c2_1_0 : w2.cell? ⟨g, 0, none⟩ = some (.string p0) := (by rw [hc _ _ (by first | omega | (simp; done) | (simp; omega))]; first | assumption | (rw [World.cell?_alloc_past _ _ _ (by omega)]; assumption) | (simp [go_sem, *]; done)); have c2_1_1 : w2.cell? ⟨g, 1, none⟩ = some (.string p1) := (by rw [hc _ _ (by first | omega | (simp; done) | (simp; omega))]; first | assumption | (rw [World.cell?_alloc_past _ _ _ (by omega)]; assumption) | (simp [go_sem, *]; done)); have z2_0 : w.heap.size < w2.heap.size := (by have := hb2.size; (try simp at this); omega); have z2_1 : g < w2.heap.size := (by have := hb2.size; (try simp at this); omega); clear hc hf; clear c1_0_0 c1_0_1 f1_0_0 f1_0_1 z1_0 c1_1_0 c1_1_1) | (go_at_call 150; refine (cn.out _).mono ?_; rintro e w3 ⟨rfl, hb3⟩; obtain ⟨hc, hf⟩ := bcell hb3; have c3_0_0 : w3.cell? ⟨w.heap.size, 0, none⟩ = some (.int .u32 0) := (by rw [hc _ _ (by first | omega | (simp; done) | (simp; omega))]; first | assumption | (rw [World.cell?_alloc_past _ _ _ (by omega)]; assumption) | (simp [go_sem, *]; done)); have f3_0_0 : w3.frozen? ⟨w.heap.size, 0, none⟩ = false := (by rw [hf _ _ (by first | omega | (simp; done) | (simp; omega))]; first | assumption | (rw [World.frozen?_alloc_past _ _ _ (by omega)]; assumption) | (simp [go_sem, *]; done)); have c3_0_1 : w3.cell? ⟨w.heap.size, 1, none⟩ = some (.int .i64 0) := (by rw [hc _ _ (by first | omega | (simp; done) | (simp; omega))]; first | assumption | (rw [World.cell?_alloc_past _ _ _ (by omega)]; assumption) | (simp [go_sem, *]; done)); have f3_0_1 : w3.frozen? ⟨w.heap.size, 1, none⟩ = false := (by rw [hf _ _ (by first | omega | (simp; done) | (simp; omega))]; first | assumption | (rw [World.frozen?_alloc_past _ _ _ (by omega)]; assumption) | (simp [go_sem, *]; done)); have z3_0 : w.heap.size < w3.heap.size := (by have := hb3.size; (try simp at this); omega); clear hc hf; clear c2_0_0 c2_0_1 f2_0_0 f2_0_1 z2_0 c2_1_0 c2_1_1 z2_1))
  exact bodyPost_ret (v := .tuple #[.agg #[.int .u32 (0), .int .i64 (0)], .int .i64 (1)]) (by simp [results, Tryz.results146, go_sem, c3_0_0, c3_0_1, f3_0_0, f3_0_1, World.cell?_alloc_lt, z3_0, Nat.lt_succ_of_lt z3_0]) rfl ⟨rfl, (by have hq := hb1.mono (B' := w.heap.size) (by first | omega | (simp; done) | (simp; omega)); have hq2 := Below.trans (B := w.heap.size) (a := w) (by repeat' (first | with_reducible assumption | with_reducible exact Below.refl _ _ | with_reducible apply Below.drew | with_reducible apply below_drewN | with_reducible apply Below.setCell | with_reducible apply Below.alloc | omega | (simp; done) | (simp; omega))) hq; clear hq; have s1 := hq2.size; have hq3 := Below.trans (B := w.heap.size) (a := w) (by repeat' (first | with_reducible assumption | with_reducible exact Below.refl _ _ | with_reducible apply Below.drew | with_reducible apply below_drewN | with_reducible apply Below.setCell | with_reducible apply Below.alloc | omega | (simp; done) | (simp; omega))) (hb2.mono (B' := w.heap.size) (by first | omega | (simp; done) | (simp; omega))); have s2 := hq3.size; clear hq2; have hq4 := Below.trans (B := w.heap.size) (a := w) (by repeat' (first | with_reducible assumption | with_reducible exact Below.refl _ _ | with_reducible apply Below.drew | with_reducible apply below_drewN | with_reducible apply Below.setCell | with_reducible apply Below.alloc | omega | (simp; done) | (simp; omega))) (hb3.mono (B' := w.heap.size) (by first | omega | (simp; done) | (simp; omega))); have s3 := hq4.size; clear hq3; repeat' (first | with_reducible assumption | with_reducible exact Below.refl _ _ | with_reducible apply Below.drew | with_reducible apply below_drewN | with_reducible apply Below.setCell | with_reducible apply Below.alloc | omega | (simp; done) | (simp; omega)))⟩

set_option maxRecDepth 1000000 in
set_option maxHeartbeats 1000000 in
theorem rread_not (s : ByteArray) (w : World) (ls : List (List UInt8)) (x y : Int) (p0 p1 : ByteArray) (hp : 1 ≤ ls.length)
    (hc : Hid (∀ w, Calls Tryz.prog 105 #[.string s, .int .u8 47] w fun e w' => ∃ v, e = .returned v ∧ w'.ownsRow w.heap.size 9 1 v ls.length (strs ls) ∧ Below w.heap.size w w'))
    (hp0 : Hid (bs (ls.getD 0 []) = p0)) (hp1 : Hid (bs (ls.getD 1 []) = p1))
    (ca : Hid (∀ w, Calls Tryz.prog 149 #[.string p0] w fun e w' => e = .returned (.int .i64 x) ∧ Below w.heap.size w w'))
    (cn : Hid (∀ w, Calls Tryz.prog 150 #[.string p1, .int .i64 32] w fun e w' => e = .returned (.int .i64 y) ∧ Below w.heap.size w w')) (h2 : ls.length = 2) (hx : ¬ x < 0) (hy : ¬ y < 0) (x0 : 0 ≤ x) (x1 : x < 4294967296) (hr : rt x y = false) :
    Calls Tryz.prog 146 #[.string s] w fun e w' => e = .returned (.tuple #[.agg #[.int .u32 (0), .int .i64 (0)], .int .i64 (1)]) ∧ Below w.heap.size w w' := by
  have h : ((ls.length : Int) == 2) = true := by simp; omega
  go_enter Tryz.func146, Tryz.ntmps146
  go_wp2_with (first | (go_at_call 105; refine (hc.out _).mono ?_; rintro e w1 ⟨v, rfl, hown, hb1⟩; obtain ⟨g, cap, hv, hg1, hg2, hg3, hg4, hcell⟩ := owns_form hown hp; rw [hv]; clear hv hown; have hg5 : w.heap.size < g := (by simp at hg1; omega); have c1_1_0 : w1.cell? ⟨g, 0, none⟩ = some (.string p0) := (by rw [hcell 0 (by omega), hp0.out]); have c1_1_1 : w1.cell? ⟨g, 1, none⟩ = some (.string p1) := (by rw [hcell 1 (by omega), hp1.out]); obtain ⟨hc, hf⟩ := bcell hb1; have c1_0_0 : w1.cell? ⟨w.heap.size, 0, none⟩ = some (.int .u32 0) := (by rw [hc _ _ (by first | omega | (simp; done) | (simp; omega))]; first | assumption | (rw [World.cell?_alloc_past _ _ _ (by omega)]; assumption) | (simp [go_sem, *]; done)); have f1_0_0 : w1.frozen? ⟨w.heap.size, 0, none⟩ = false := (by rw [hf _ _ (by first | omega | (simp; done) | (simp; omega))]; first | assumption | (rw [World.frozen?_alloc_past _ _ _ (by omega)]; assumption) | (simp [go_sem, *]; done)); have c1_0_1 : w1.cell? ⟨w.heap.size, 1, none⟩ = some (.int .i64 0) := (by rw [hc _ _ (by first | omega | (simp; done) | (simp; omega))]; first | assumption | (rw [World.cell?_alloc_past _ _ _ (by omega)]; assumption) | (simp [go_sem, *]; done)); have f1_0_1 : w1.frozen? ⟨w.heap.size, 1, none⟩ = false := (by rw [hf _ _ (by first | omega | (simp; done) | (simp; omega))]; first | assumption | (rw [World.frozen?_alloc_past _ _ _ (by omega)]; assumption) | (simp [go_sem, *]; done)); have z1_0 : w.heap.size < w1.heap.size := (by have := hb1.size; (try simp at this); omega); clear hc hf; clear hcell hg1) | (go_at_call 149; refine (ca.out _).mono ?_; rintro e w2 ⟨rfl, hb2⟩; obtain ⟨hc, hf⟩ := bcell hb2; have c2_0_0 : w2.cell? ⟨w.heap.size, 0, none⟩ = some (.int .u32 0) := (by rw [hc _ _ (by first | omega | (simp; done) | (simp; omega))]; first | assumption | (rw [World.cell?_alloc_past _ _ _ (by omega)]; assumption) | (simp [go_sem, *]; done)); have f2_0_0 : w2.frozen? ⟨w.heap.size, 0, none⟩ = false := (by rw [hf _ _ (by first | omega | (simp; done) | (simp; omega))]; first | assumption | (rw [World.frozen?_alloc_past _ _ _ (by omega)]; assumption) | (simp [go_sem, *]; done)); have c2_0_1 : w2.cell? ⟨w.heap.size, 1, none⟩ = some (.int .i64 0) := (by rw [hc _ _ (by first | omega | (simp; done) | (simp; omega))]; first | assumption | (rw [World.cell?_alloc_past _ _ _ (by omega)]; assumption) | (simp [go_sem, *]; done)); have f2_0_1 : w2.frozen? ⟨w.heap.size, 1, none⟩ = false := (by rw [hf _ _ (by first | omega | (simp; done) | (simp; omega))]; first | assumption | (rw [World.frozen?_alloc_past _ _ _ (by omega)]; assumption) | (simp [go_sem, *]; done)); have c2_1_0 : w2.cell? ⟨g, 0, none⟩ = some (.string p0) := (by rw [hc _ _ (by first | omega | (simp; done) | (simp; omega))]; first | assumption | (rw [World.cell?_alloc_past _ _ _ (by omega)]; assumption) | (simp [go_sem, *]; done)); have c2_1_1 : w2.cell? ⟨g, 1, none⟩ = some (.string p1) := (by rw [hc _ _ (by first | omega | (simp; done) | (simp; omega))]; first | assumption | (rw [World.cell?_alloc_past _ _ _ (by omega)]; assumption) | (simp [go_sem, *]; done)); have z2_0 : w.heap.size < w2.heap.size := (by have := hb2.size; (try simp at this); omega); have z2_1 : g < w2.heap.size := (by have := hb2.size; (try simp at this); omega); clear hc hf; clear c1_0_0 c1_0_1 f1_0_0 f1_0_1 z1_0 c1_1_0 c1_1_1) | (go_at_call 150; refine (cn.out _).mono ?_; rintro e w3 ⟨rfl, hb3⟩; obtain ⟨hc, hf⟩ := bcell hb3; have c3_0_0 : w3.cell? ⟨w.heap.size, 0, none⟩ = some (.int .u32 0) := (by rw [hc _ _ (by first | omega | (simp; done) | (simp; omega))]; first | assumption | (rw [World.cell?_alloc_past _ _ _ (by omega)]; assumption) | (simp [go_sem, *]; done)); have f3_0_0 : w3.frozen? ⟨w.heap.size, 0, none⟩ = false := (by rw [hf _ _ (by first | omega | (simp; done) | (simp; omega))]; first | assumption | (rw [World.frozen?_alloc_past _ _ _ (by omega)]; assumption) | (simp [go_sem, *]; done)); have c3_0_1 : w3.cell? ⟨w.heap.size, 1, none⟩ = some (.int .i64 0) := (by rw [hc _ _ (by first | omega | (simp; done) | (simp; omega))]; first | assumption | (rw [World.cell?_alloc_past _ _ _ (by omega)]; assumption) | (simp [go_sem, *]; done)); have f3_0_1 : w3.frozen? ⟨w.heap.size, 1, none⟩ = false := (by rw [hf _ _ (by first | omega | (simp; done) | (simp; omega))]; first | assumption | (rw [World.frozen?_alloc_past _ _ _ (by omega)]; assumption) | (simp [go_sem, *]; done)); have z3_0 : w.heap.size < w3.heap.size := (by have := hb3.size; (try simp at this); omega); clear hc hf; clear c2_0_0 c2_0_1 f2_0_0 f2_0_1 z2_0 c2_1_0 c2_1_1 z2_1) | (go_at_call 184; refine (rright_any _ _ _ x0 x1).mono ?_; rintro e w4 ⟨rfl, hb4⟩; obtain ⟨hc, hf⟩ := bcell hb4; have c4_0_0 : w4.cell? ⟨w.heap.size, 0, none⟩ = some (.int .u32 0) := (by rw [hc _ _ (by first | omega | (simp; done) | (simp; omega))]; first | assumption | (rw [World.cell?_alloc_past _ _ _ (by omega)]; assumption) | (simp [go_sem, *]; done)); have f4_0_0 : w4.frozen? ⟨w.heap.size, 0, none⟩ = false := (by rw [hf _ _ (by first | omega | (simp; done) | (simp; omega))]; first | assumption | (rw [World.frozen?_alloc_past _ _ _ (by omega)]; assumption) | (simp [go_sem, *]; done)); have c4_0_1 : w4.cell? ⟨w.heap.size, 1, none⟩ = some (.int .i64 0) := (by rw [hc _ _ (by first | omega | (simp; done) | (simp; omega))]; first | assumption | (rw [World.cell?_alloc_past _ _ _ (by omega)]; assumption) | (simp [go_sem, *]; done)); have f4_0_1 : w4.frozen? ⟨w.heap.size, 1, none⟩ = false := (by rw [hf _ _ (by first | omega | (simp; done) | (simp; omega))]; first | assumption | (rw [World.frozen?_alloc_past _ _ _ (by omega)]; assumption) | (simp [go_sem, *]; done)); have c4_1_0 : w4.cell? ⟨w3.heap.size, 0, none⟩ = some (.int .u32 x) := (by rw [hc _ _ (by first | omega | (simp; done) | (simp; omega))]; first | assumption | (rw [World.cell?_alloc_past _ _ _ (by omega)]; assumption) | (simp [go_sem, *]; done)); have c4_1_1 : w4.cell? ⟨w3.heap.size, 1, none⟩ = some (.int .i64 y) := (by rw [hc _ _ (by first | omega | (simp; done) | (simp; omega))]; first | assumption | (rw [World.cell?_alloc_past _ _ _ (by omega)]; assumption) | (simp [go_sem, *]; done)); have z4_0 : w.heap.size < w4.heap.size := (by have := hb4.size; (try simp at this); omega); have z4_1 : w3.heap.size < w4.heap.size := (by have := hb4.size; (try simp at this); omega); clear hc hf; clear c3_0_0 c3_0_1 f3_0_0 f3_0_1 z3_0))
  exact bodyPost_ret (v := .tuple #[.agg #[.int .u32 (0), .int .i64 (0)], .int .i64 (1)]) (by simp [results, Tryz.results146, go_sem, c4_0_0, c4_0_1, f4_0_0, f4_0_1, World.cell?_alloc_lt, z4_0, Nat.lt_succ_of_lt z4_0]) rfl ⟨rfl, (by have hq := hb1.mono (B' := w.heap.size) (by first | omega | (simp; done) | (simp; omega)); have hq2 := Below.trans (B := w.heap.size) (a := w) (by repeat' (first | with_reducible assumption | with_reducible exact Below.refl _ _ | with_reducible apply Below.drew | with_reducible apply below_drewN | with_reducible apply Below.setCell | with_reducible apply Below.alloc | omega | (simp; done) | (simp; omega))) hq; clear hq; have s1 := hq2.size; have hq3 := Below.trans (B := w.heap.size) (a := w) (by repeat' (first | with_reducible assumption | with_reducible exact Below.refl _ _ | with_reducible apply Below.drew | with_reducible apply below_drewN | with_reducible apply Below.setCell | with_reducible apply Below.alloc | omega | (simp; done) | (simp; omega))) (hb2.mono (B' := w.heap.size) (by first | omega | (simp; done) | (simp; omega))); have s2 := hq3.size; clear hq2; have hq4 := Below.trans (B := w.heap.size) (a := w) (by repeat' (first | with_reducible assumption | with_reducible exact Below.refl _ _ | with_reducible apply Below.drew | with_reducible apply below_drewN | with_reducible apply Below.setCell | with_reducible apply Below.alloc | omega | (simp; done) | (simp; omega))) (hb3.mono (B' := w.heap.size) (by first | omega | (simp; done) | (simp; omega))); have s3 := hq4.size; clear hq3; have hq5 := Below.trans (B := w.heap.size) (a := w) (by repeat' (first | with_reducible assumption | with_reducible exact Below.refl _ _ | with_reducible apply Below.drew | with_reducible apply below_drewN | with_reducible apply Below.setCell | with_reducible apply Below.alloc | omega | (simp; done) | (simp; omega))) (hb4.mono (B' := w.heap.size) (by first | omega | (simp; done) | (simp; omega))); have s4 := hq5.size; clear hq4; repeat' (first | with_reducible assumption | with_reducible exact Below.refl _ _ | with_reducible apply Below.drew | with_reducible apply below_drewN | with_reducible apply Below.setCell | with_reducible apply Below.alloc | omega | (simp; done) | (simp; omega)))⟩

set_option maxRecDepth 1000000 in
set_option maxHeartbeats 1000000 in
theorem rread_ok (s : ByteArray) (w : World) (ls : List (List UInt8)) (x y : Int) (p0 p1 : ByteArray) (hp : 1 ≤ ls.length)
    (hc : Hid (∀ w, Calls Tryz.prog 105 #[.string s, .int .u8 47] w fun e w' => ∃ v, e = .returned v ∧ w'.ownsRow w.heap.size 9 1 v ls.length (strs ls) ∧ Below w.heap.size w w'))
    (hp0 : Hid (bs (ls.getD 0 []) = p0)) (hp1 : Hid (bs (ls.getD 1 []) = p1))
    (ca : Hid (∀ w, Calls Tryz.prog 149 #[.string p0] w fun e w' => e = .returned (.int .i64 x) ∧ Below w.heap.size w w'))
    (cn : Hid (∀ w, Calls Tryz.prog 150 #[.string p1, .int .i64 32] w fun e w' => e = .returned (.int .i64 y) ∧ Below w.heap.size w w')) (h2 : ls.length = 2) (hx : ¬ x < 0) (hy : ¬ y < 0) (x0 : 0 ≤ x) (x1 : x < 4294967296) (hr : rt x y = true) :
    Calls Tryz.prog 146 #[.string s] w fun e w' => e = .returned (.tuple #[.agg #[.int .u32 (x), .int .i64 (y)], .int .i64 (0)]) ∧ Below w.heap.size w w' := by
  have h : ((ls.length : Int) == 2) = true := by simp; omega
  go_enter Tryz.func146, Tryz.ntmps146
  go_wp2_with (first | (go_at_call 105; refine (hc.out _).mono ?_; rintro e w1 ⟨v, rfl, hown, hb1⟩; obtain ⟨g, cap, hv, hg1, hg2, hg3, hg4, hcell⟩ := owns_form hown hp; rw [hv]; clear hv hown; have hg5 : w.heap.size < g := (by simp at hg1; omega); have c1_1_0 : w1.cell? ⟨g, 0, none⟩ = some (.string p0) := (by rw [hcell 0 (by omega), hp0.out]); have c1_1_1 : w1.cell? ⟨g, 1, none⟩ = some (.string p1) := (by rw [hcell 1 (by omega), hp1.out]); obtain ⟨hc, hf⟩ := bcell hb1; have c1_0_0 : w1.cell? ⟨w.heap.size, 0, none⟩ = some (.int .u32 0) := (by rw [hc _ _ (by first | omega | (simp; done) | (simp; omega))]; first | assumption | (rw [World.cell?_alloc_past _ _ _ (by omega)]; assumption) | (simp [go_sem, *]; done)); have f1_0_0 : w1.frozen? ⟨w.heap.size, 0, none⟩ = false := (by rw [hf _ _ (by first | omega | (simp; done) | (simp; omega))]; first | assumption | (rw [World.frozen?_alloc_past _ _ _ (by omega)]; assumption) | (simp [go_sem, *]; done)); have c1_0_1 : w1.cell? ⟨w.heap.size, 1, none⟩ = some (.int .i64 0) := (by rw [hc _ _ (by first | omega | (simp; done) | (simp; omega))]; first | assumption | (rw [World.cell?_alloc_past _ _ _ (by omega)]; assumption) | (simp [go_sem, *]; done)); have f1_0_1 : w1.frozen? ⟨w.heap.size, 1, none⟩ = false := (by rw [hf _ _ (by first | omega | (simp; done) | (simp; omega))]; first | assumption | (rw [World.frozen?_alloc_past _ _ _ (by omega)]; assumption) | (simp [go_sem, *]; done)); have z1_0 : w.heap.size < w1.heap.size := (by have := hb1.size; (try simp at this); omega); clear hc hf; clear hcell hg1) | (go_at_call 149; refine (ca.out _).mono ?_; rintro e w2 ⟨rfl, hb2⟩; obtain ⟨hc, hf⟩ := bcell hb2; have c2_0_0 : w2.cell? ⟨w.heap.size, 0, none⟩ = some (.int .u32 0) := (by rw [hc _ _ (by first | omega | (simp; done) | (simp; omega))]; first | assumption | (rw [World.cell?_alloc_past _ _ _ (by omega)]; assumption) | (simp [go_sem, *]; done)); have f2_0_0 : w2.frozen? ⟨w.heap.size, 0, none⟩ = false := (by rw [hf _ _ (by first | omega | (simp; done) | (simp; omega))]; first | assumption | (rw [World.frozen?_alloc_past _ _ _ (by omega)]; assumption) | (simp [go_sem, *]; done)); have c2_0_1 : w2.cell? ⟨w.heap.size, 1, none⟩ = some (.int .i64 0) := (by rw [hc _ _ (by first | omega | (simp; done) | (simp; omega))]; first | assumption | (rw [World.cell?_alloc_past _ _ _ (by omega)]; assumption) | (simp [go_sem, *]; done)); have f2_0_1 : w2.frozen? ⟨w.heap.size, 1, none⟩ = false := (by rw [hf _ _ (by first | omega | (simp; done) | (simp; omega))]; first | assumption | (rw [World.frozen?_alloc_past _ _ _ (by omega)]; assumption) | (simp [go_sem, *]; done)); have c2_1_0 : w2.cell? ⟨g, 0, none⟩ = some (.string p0) := (by rw [hc _ _ (by first | omega | (simp; done) | (simp; omega))]; first | assumption | (rw [World.cell?_alloc_past _ _ _ (by omega)]; assumption) | (simp [go_sem, *]; done)); have c2_1_1 : w2.cell? ⟨g, 1, none⟩ = some (.string p1) := (by rw [hc _ _ (by first | omega | (simp; done) | (simp; omega))]; first | assumption | (rw [World.cell?_alloc_past _ _ _ (by omega)]; assumption) | (simp [go_sem, *]; done)); have z2_0 : w.heap.size < w2.heap.size := (by have := hb2.size; (try simp at this); omega); have z2_1 : g < w2.heap.size := (by have := hb2.size; (try simp at this); omega); clear hc hf; clear c1_0_0 c1_0_1 f1_0_0 f1_0_1 z1_0 c1_1_0 c1_1_1) | (go_at_call 150; refine (cn.out _).mono ?_; rintro e w3 ⟨rfl, hb3⟩; obtain ⟨hc, hf⟩ := bcell hb3; have c3_0_0 : w3.cell? ⟨w.heap.size, 0, none⟩ = some (.int .u32 0) := (by rw [hc _ _ (by first | omega | (simp; done) | (simp; omega))]; first | assumption | (rw [World.cell?_alloc_past _ _ _ (by omega)]; assumption) | (simp [go_sem, *]; done)); have f3_0_0 : w3.frozen? ⟨w.heap.size, 0, none⟩ = false := (by rw [hf _ _ (by first | omega | (simp; done) | (simp; omega))]; first | assumption | (rw [World.frozen?_alloc_past _ _ _ (by omega)]; assumption) | (simp [go_sem, *]; done)); have c3_0_1 : w3.cell? ⟨w.heap.size, 1, none⟩ = some (.int .i64 0) := (by rw [hc _ _ (by first | omega | (simp; done) | (simp; omega))]; first | assumption | (rw [World.cell?_alloc_past _ _ _ (by omega)]; assumption) | (simp [go_sem, *]; done)); have f3_0_1 : w3.frozen? ⟨w.heap.size, 1, none⟩ = false := (by rw [hf _ _ (by first | omega | (simp; done) | (simp; omega))]; first | assumption | (rw [World.frozen?_alloc_past _ _ _ (by omega)]; assumption) | (simp [go_sem, *]; done)); have z3_0 : w.heap.size < w3.heap.size := (by have := hb3.size; (try simp at this); omega); clear hc hf; clear c2_0_0 c2_0_1 f2_0_0 f2_0_1 z2_0 c2_1_0 c2_1_1 z2_1) | (go_at_call 184; refine (rright_any _ _ _ x0 x1).mono ?_; rintro e w4 ⟨rfl, hb4⟩; obtain ⟨hc, hf⟩ := bcell hb4; have c4_0_0 : w4.cell? ⟨w.heap.size, 0, none⟩ = some (.int .u32 0) := (by rw [hc _ _ (by first | omega | (simp; done) | (simp; omega))]; first | assumption | (rw [World.cell?_alloc_past _ _ _ (by omega)]; assumption) | (simp [go_sem, *]; done)); have f4_0_0 : w4.frozen? ⟨w.heap.size, 0, none⟩ = false := (by rw [hf _ _ (by first | omega | (simp; done) | (simp; omega))]; first | assumption | (rw [World.frozen?_alloc_past _ _ _ (by omega)]; assumption) | (simp [go_sem, *]; done)); have c4_0_1 : w4.cell? ⟨w.heap.size, 1, none⟩ = some (.int .i64 0) := (by rw [hc _ _ (by first | omega | (simp; done) | (simp; omega))]; first | assumption | (rw [World.cell?_alloc_past _ _ _ (by omega)]; assumption) | (simp [go_sem, *]; done)); have f4_0_1 : w4.frozen? ⟨w.heap.size, 1, none⟩ = false := (by rw [hf _ _ (by first | omega | (simp; done) | (simp; omega))]; first | assumption | (rw [World.frozen?_alloc_past _ _ _ (by omega)]; assumption) | (simp [go_sem, *]; done)); have c4_1_0 : w4.cell? ⟨w3.heap.size, 0, none⟩ = some (.int .u32 x) := (by rw [hc _ _ (by first | omega | (simp; done) | (simp; omega))]; first | assumption | (rw [World.cell?_alloc_past _ _ _ (by omega)]; assumption) | (simp [go_sem, *]; done)); have c4_1_1 : w4.cell? ⟨w3.heap.size, 1, none⟩ = some (.int .i64 y) := (by rw [hc _ _ (by first | omega | (simp; done) | (simp; omega))]; first | assumption | (rw [World.cell?_alloc_past _ _ _ (by omega)]; assumption) | (simp [go_sem, *]; done)); have z4_0 : w.heap.size < w4.heap.size := (by have := hb4.size; (try simp at this); omega); have z4_1 : w3.heap.size < w4.heap.size := (by have := hb4.size; (try simp at this); omega); clear hc hf; clear c3_0_0 c3_0_1 f3_0_0 f3_0_1 z3_0))
  exact bodyPost_ret (v := .tuple #[.agg #[.int .u32 (x), .int .i64 (y)], .int .i64 (0)]) (by simp [results, Tryz.results146, go_sem, c4_0_0, c4_0_1, f4_0_0, f4_0_1, World.cell?_alloc_lt, z4_0, Nat.lt_succ_of_lt z4_0]) rfl ⟨rfl, (by have hq := hb1.mono (B' := w.heap.size) (by first | omega | (simp; done) | (simp; omega)); have hq2 := Below.trans (B := w.heap.size) (a := w) (by repeat' (first | with_reducible assumption | with_reducible exact Below.refl _ _ | with_reducible apply Below.drew | with_reducible apply below_drewN | with_reducible apply Below.setCell | with_reducible apply Below.alloc | omega | (simp; done) | (simp; omega))) hq; clear hq; have s1 := hq2.size; have hq3 := Below.trans (B := w.heap.size) (a := w) (by repeat' (first | with_reducible assumption | with_reducible exact Below.refl _ _ | with_reducible apply Below.drew | with_reducible apply below_drewN | with_reducible apply Below.setCell | with_reducible apply Below.alloc | omega | (simp; done) | (simp; omega))) (hb2.mono (B' := w.heap.size) (by first | omega | (simp; done) | (simp; omega))); have s2 := hq3.size; clear hq2; have hq4 := Below.trans (B := w.heap.size) (a := w) (by repeat' (first | with_reducible assumption | with_reducible exact Below.refl _ _ | with_reducible apply Below.drew | with_reducible apply below_drewN | with_reducible apply Below.setCell | with_reducible apply Below.alloc | omega | (simp; done) | (simp; omega))) (hb3.mono (B' := w.heap.size) (by first | omega | (simp; done) | (simp; omega))); have s3 := hq4.size; clear hq3; have hq5 := Below.trans (B := w.heap.size) (a := w) (by repeat' (first | with_reducible assumption | with_reducible exact Below.refl _ _ | with_reducible apply Below.drew | with_reducible apply below_drewN | with_reducible apply Below.setCell | with_reducible apply Below.alloc | omega | (simp; done) | (simp; omega))) (hb4.mono (B' := w.heap.size) (by first | omega | (simp; done) | (simp; omega))); have s4 := hq5.size; clear hq4; repeat' (first | with_reducible assumption | with_reducible exact Below.refl _ _ | with_reducible apply Below.drew | with_reducible apply below_drewN | with_reducible apply Below.setCell | with_reducible apply Below.alloc | omega | (simp; done) | (simp; omega)))⟩

theorem rread_any (s : ByteArray) (w : World) (hs : s.size ≤ 2097152) :
    Calls Tryz.prog 146 #[.string s] w fun e w' => e = .returned (.tuple #[.agg #[.int .u32 (rdB s.data.toList), .int .i64 (rdN s.data.toList)], .int .i64 (rdE s.data.toList)]) ∧ Below w.heap.size w w' := by
  have hp := parts_pos 47 s.data.toList
  have hc : ∀ w, Calls Tryz.prog 105 #[.string s, .int .u8 47] w fun e w' => ∃ v, e = .returned v ∧ w'.ownsRow w.heap.size 9 1 v (parts 47 s.data.toList).length (strs (parts 47 s.data.toList)) ∧ Below w.heap.size w w' := fun w => rparts_any s 47 47 w rfl hs
  have hsz : ∀ j, (bs ((parts 47 s.data.toList).getD j [])).size ≤ 2097152 := fun j => by
    rw [bs_size]
    have h1 := part_len 47 s.data.toList j
    have h2 := Lib.size_eq s
    omega
  have ca : ∀ w, Calls Tryz.prog 149 #[.string (bs ((parts 47 s.data.toList).getD 0 []))] w fun e w' => e = .returned (.int .i64 (addrI ((parts 47 s.data.toList).getD 0 []))) ∧ Below w.heap.size w w' := fun w => by
    have h := raddress_any (bs ((parts 47 s.data.toList).getD 0 [])) w (hsz 0)
    rw [bs_data] at h; exact h
  have cn : ∀ w, Calls Tryz.prog 150 #[.string (bs ((parts 47 s.data.toList).getD 1 [])), .int .i64 32] w fun e w' => e = .returned (.int .i64 (numI ((parts 47 s.data.toList).getD 1 []) 32)) ∧ Below w.heap.size w w' := fun w => by
    have h := rnumber_any (bs ((parts 47 s.data.toList).getD 1 [])) 32 w (by omega) (by omega)
    rw [bs_data] at h; exact h
  by_cases h2 : (parts 47 s.data.toList).length = 2
  · have hrd := rd_two h2
    rcases addrI_cases ((parts 47 s.data.toList).getD 0 []) with ⟨e0, e1⟩ | ⟨a, e0, e1⟩
    · rw [e1] at hrd
      obtain ⟨q1, q2, q3⟩ := rd_none hrd
      rw [q1, q2, q3]
      exact rread_addr s w _ _ _ _ _ hp hc rfl rfl ca cn h2 (by omega)
    · have hlt := addr_lt e1
      rcases numI_cases ((parts 47 s.data.toList).getD 1 []) 32 with ⟨m0, m1⟩ | ⟨n, m0, m2, m1⟩
      · rw [e1, m1] at hrd
        obtain ⟨q1, q2, q3⟩ := rd_none hrd
        rw [q1, q2, q3]
        exact rread_num s w _ _ _ _ _ hp hc rfl rfl ca cn h2 (by omega) (by omega)
      · rw [e1, m1] at hrd
        rw [e0] at ca
        rw [m0] at cn
        rcases hr : rt (a : Int) (n : Int) with _ | _
        · simp only [hr] at hrd
          obtain ⟨q1, q2, q3⟩ := rd_none hrd
          rw [q1, q2, q3]
          exact rread_not s w _ _ _ _ _ hp hc rfl rfl ca cn h2 (by omega) (by omega) (by omega) (by omega) hr
        · simp only [hr] at hrd
          obtain ⟨q1, q2, q3⟩ := rd_some hrd
          rw [q1, q2, q3]
          exact rread_ok s w _ _ _ _ _ hp hc rfl rfl ca cn h2 (by omega) (by omega) (by omega) (by omega) hr
  · obtain ⟨q1, q2, q3⟩ := rd_none (rd_off h2)
    rw [q1, q2, q3]
    exact rread_len s w _ _ _ _ _ hp hc rfl rfl ca cn (by simp; omega)
end Go.Proofs.YtlikdnmikdldfaaGreatDoor
