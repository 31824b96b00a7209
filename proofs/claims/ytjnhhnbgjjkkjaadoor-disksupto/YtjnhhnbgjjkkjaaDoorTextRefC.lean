/-
  The contracts of the document's ReadAddress and Read (package acreref).
-/
import Derived.Test.YtjnhhnbgjjkkjaaDoorTextRefB
namespace Go.Proofs.YtjnhhnbgjjkkjaaDoor
open Go.ChangeShapes Go.WideShapes Go.ChangeAt Go.RowKit
set_option linter.unusedVariables false
set_option linter.unusedSimpArgs false

def addrI (l : List UInt8) : Int := match addr l with | some a => (a : Int) | none => -1
/-- what has been read of an address behind k of its numbers -/
def acc (X : Nat → Int) : Nat → Int
  | 0 => 0
  | k + 1 => 256 * acc X k + X k
theorem acc_bd (X : Nat → Int) (k : Nat) (hk : k ≤ 4) (h : ∀ j, j < k → 0 ≤ X j ∧ X j ≤ 255) : 0 ≤ acc X k ∧ acc X k ≤ 256 ^ k - 1 := by
  induction k with
  | zero => simp [acc]
  | succ k ih =>
    have := ih (by omega) (fun j hj => h j (by omega))
    have hx := h k (by omega)
    rw [acc, Int.pow_succ]; omega
theorem numI_cases (l : List UInt8) (m : Nat) : (numI l m = -1 ∧ num l m = none) ∨ (∃ n : Nat, numI l m = n ∧ n ≤ m ∧ num l m = some n) := by
  unfold numI
  rcases h : num l m with _ | n
  · exact .inl ⟨rfl, rfl⟩
  · exact .inr ⟨n, rfl, (num_some.1 h).1, rfl⟩
/-- the slice that holds so many texts, written out -/
theorem owns_form {w : World} {base : Nat} {v : Value} {ls : List (List UInt8)} (h : w.ownsRow base 9 1 v ls.length (strs ls)) (hl : 1 ≤ ls.length) :
    ∃ g cap, v = .slice (some ⟨g, 0, none⟩) ls.length cap ∧ base ≤ g ∧ g < w.heap.size ∧ ls.length ≤ cap ∧ cap ≤ maxLen ∧ ∀ j, j < ls.length → w.cell? ⟨g, j, none⟩ = some (.string (bs (ls.getD j []))) := by
  have h0 := h
  obtain ⟨_, ⟨_, hn⟩ | ⟨g, cap, cur, rfl, hg, hblk, hc, hm, hsz, htk⟩⟩ := h
  · omega
  · have hlt : g < w.heap.size := by
      rcases Nat.lt_or_ge g w.heap.size with h | h
      · exact h
      · rw [Array.getElem?_eq_none h] at hblk; cases hblk
    refine ⟨g, cap, rfl, hg, hlt, hc, hm, fun j hj => ?_⟩
    rw [h0.cellAt j (by omega)]
    unfold strs
    rw [List.getElem?_map, List.getElem?_eq_getElem hj]
    simp [List.getD, List.getElem?_eq_getElem hj]
theorem len_four {ls : List (List UInt8)} (h : ls.length = 4) : ls = [ls.getD 0 [], ls.getD 1 [], ls.getD 2 [], ls.getD 3 []] := by
  match ls, h with
  | [a, b, c, d], _ => rfl
theorem addr_off {l : List UInt8} (h : (parts 46 l).length ≠ 4) : addrI l = -1 := by
  unfold addrI addr
  split
  · rename_i a ha
    split at ha
    · rename_i p0 p1 p2 p3 e
      rw [e] at h; simp at h
    · cases ha
  · rfl
theorem addr_bad {l : List UInt8} {k : Nat} (h : (parts 46 l).length = 4) (hk : k < 4) (hb : num ((parts 46 l).getD k []) 255 = none) : addrI l = -1 := by
  unfold addrI addr
  rw [len_four h]
  simp only []
  unfold four
  have : k = 0 ∨ k = 1 ∨ k = 2 ∨ k = 3 := by omega
  rcases this with rfl | rfl | rfl | rfl <;> rw [hb] <;> (split <;> first | rfl | (rename_i e; split at e <;> simp_all))
theorem addr_good {l : List UInt8} (h : (parts 46 l).length = 4) (hg : ∀ j, j < 4 → num ((parts 46 l).getD j []) 255 ≠ none) :
    acc (fun j => numI ((parts 46 l).getD j []) 255) 4 = addrI l := by
  unfold addrI addr
  rw [len_four h]
  simp only []
  have n0 := hg 0 (by omega)
  have n1 := hg 1 (by omega)
  have n2 := hg 2 (by omega)
  have n3 := hg 3 (by omega)
  rcases e0 : num ((parts 46 l).getD 0 []) 255 with _ | a0
  · exact absurd e0 n0
  rcases e1 : num ((parts 46 l).getD 1 []) 255 with _ | a1
  · exact absurd e1 n1
  rcases e2 : num ((parts 46 l).getD 2 []) 255 with _ | a2
  · exact absurd e2 n2
  rcases e3 : num ((parts 46 l).getD 3 []) 255 with _ | a3
  · exact absurd e3 n3
  simp only [List.getD_cons_zero, List.getD_cons_succ, acc, numI, four, e0, e1, e2, e3]
  omega
theorem bcell' {B : Nat} {W w1 : World} (hb : Below B W w1) {g j : Nat} {v : Value} (hg : g < B) (h : W.cell? ⟨g, j, none⟩ = some v) : w1.cell? ⟨g, j, none⟩ = some v :=
  (hb.cell (p := ⟨g, j, none⟩) hg).trans h

set_option maxRecDepth 1000000 in
set_option maxHeartbeats 1000000 in
theorem raddress_any (s : ByteArray) (w : World) (hs : s.size ≤ 2097152) :
    Calls Tryd.prog 35 #[.string s] w fun e w' => e = .returned (.int .i64 (addrI s.data.toList)) ∧ Below w.heap.size w w' := by
  have hp := parts_pos 46 s.data.toList
  obtain ⟨ls, HL⟩ : ∃ ls, ls = parts 46 s.data.toList := ⟨_, rfl⟩
  rw [← HL] at hp
  have HP : Hid (ls = parts 46 s.data.toList) := HL
  have hc : Hid (∀ w, Calls Tryd.prog 34 #[.string s, .int .u8 46] w fun e w' => ∃ v, e = .returned v ∧ w'.ownsRow w.heap.size 9 1 v ls.length (strs ls) ∧ Below w.heap.size w w') := by
    subst HL; exact fun w => rparts_any s 46 46 w rfl hs
  clear HL
  by_cases h4 : ls.length = 4
  · have hl4 : ((ls.length : Int) == 4) = true := by simp; omega
    go_enter Tryd.func35, Tryd.ntmps35
    go_wp2_with (go_at_call 34; refine (hc.out _).mono ?_; rintro e w1 ⟨v, rfl, hown, hb1⟩; obtain ⟨g, cap, hv, hg1, hg2, hg3, hg4, hcell⟩ := owns_form hown hp; rw [hv]; clear hv hown)
    have HX : Hid (∀ j, j < 4 → w1.cell? ⟨g, j, none⟩ = some (.string (bs (ls.getD j [])))) := fun j hj => hcell j (by omega)
    clear hcell
    go_loopw [4, 5] (fun a i wr => ∃ k : Nat, k ≤ 4 ∧ i = .int .i64 k ∧ a = .int .i64 (acc (fun j => numI (ls.getD j []) 255) k) ∧ Below w1.heap.size w1 wr ∧ Hid (∀ j, j < k → num (ls.getD j []) 255 ≠ none)) (fun _ i _ => 4 - (intOf i).toNat)
    case atStart => exact ⟨0, by omega, rfl, rfl, Below.refl _ _, fun j hj => by omega⟩
    case round =>
      obtain ⟨k, hk, rfl, rfl, hb, hgood⟩ := hrel
      have hbd := acc_bd (fun j => numI (ls.getD j []) 255) k hk (fun j hj => by
        rcases numI_cases (ls.getD j []) 255 with ⟨_, e⟩ | ⟨n, e, h, _⟩
        · exact absurd e (hgood.out j hj)
        · simp only [e]; omega)
      have hpw : (256 : Int) ^ k ≤ 4294967296 := by
        have : k = 0 ∨ k = 1 ∨ k = 2 ∨ k = 3 ∨ k = 4 := by omega
        rcases this with rfl | rfl | rfl | rfl | rfl <;> decide
      obtain ⟨a, ha⟩ : ∃ a, a = acc (fun j => numI (ls.getD j []) 255) k := ⟨_, rfl⟩
      rw [← ha] at hbd
      have b0 : 0 ≤ a := hbd.1
      have b1 : a ≤ 4294967295 := by omega
      have HA : Hid (a = acc (fun j => numI (ls.getD j []) 255) k) := ha
      rw [← ha]
      clear ha hbd hpw
      by_cases hlt : k < 4
      · have hce : wr.cell? ⟨g, k, none⟩ = some (.string (bs (ls.getD k []))) := bcell' hb hg2 (HX.out k hlt)
        obtain ⟨x, hx⟩ : ∃ x, x = numI (ls.getD k []) 255 := ⟨_, rfl⟩
        have hn : Hid (∀ w, Calls Tryd.prog 36 #[.string (bs (ls.getD k [])), .int .i64 255] w fun e w' => e = .returned (.int .i64 x) ∧ Below w.heap.size w w') := by
          rw [hx]; intro w; have := rnumber_any (bs (ls.getD k [])) 255 w (by omega) (by omega); rw [bs_data] at this; exact this
        have HN : Hid (x = numI (ls.getD k []) 255) := hx
        clear hx
        generalize hst : bs (ls.getD k []) = st at hce hn
        clear hst
        by_cases hneg : x < 0
        · go_wp2_with (go_at_call 36; refine (hn.out _).mono ?_; rintro e w2 ⟨rfl, hb2⟩)
          go_ret
          refine ⟨ret_int ?_, ?_⟩
          · have := addr_bad (l := s.data.toList) (k := k) (by rw [← HP.out]; exact h4) hlt (by
              rw [← HP.out]
              rcases numI_cases (ls.getD k []) 255 with ⟨_, e⟩ | ⟨n, e, h, _⟩
              · exact e
              · have := HN.out; omega)
            exact this.symm
          · exact (hb1.trans (hb.mono hb1.size)).trans (hb2.mono (Nat.le_trans hb1.size hb.size))
        · have hxb : x ≤ 255 := by
            rcases numI_cases (ls.getD k []) 255 with ⟨e, _⟩ | ⟨n, e, h, _⟩
            · have := HN.out; omega
            · have := HN.out; omega
          have hgood2 : Hid (∀ j, j < k + 1 → num (ls.getD j []) 255 ≠ none) := fun j hj => by
            by_cases e : j < k
            · exact hgood.out j e
            · obtain rfl : j = k := by omega
              rcases numI_cases (ls.getD j []) 255 with ⟨e, _⟩ | ⟨n, _, _, e⟩
              · have := HN.out; omega
              · rw [e]; simp
          clear hgood
          go_wp2_with (go_at_call 36; refine (hn.out _).mono ?_; rintro e w2 ⟨rfl, hb2⟩)
          go_roundw
          case rel => exact ⟨k + 1, by omega, by go_num, by rw [acc, ← HA.out, ← HN.out], hb.trans (hb2.mono hb.size), hgood2⟩
          case measure => simp [intOf]; omega
      · obtain rfl : k = 4 := by omega
        go_wp2
        go_ret
        refine ⟨ret_int ?_, hb1.trans (hb.mono hb1.size)⟩
        have h := addr_good (l := s.data.toList) (by rw [← HP.out]; exact h4) (by rw [← HP.out]; exact hgood.out)
        rw [← HP.out] at h
        rw [HA.out]; exact h
  · have hl4 : ((ls.length : Int) == 4) = false := by simp; omega
    go_enter Tryd.func35, Tryd.ntmps35
    go_wp2_with (go_at_call 34; refine (hc.out _).mono ?_; rintro e w1 ⟨v, rfl, hown, hb1⟩; obtain ⟨g, cap, hv, hg1, hg2, hg3, hg4, hcell⟩ := owns_form hown hp; rw [hv]; clear hv hown hcell)
    go_ret
    exact ⟨ret_int (addr_off (by rw [← HP.out]; exact h4)).symm, hb1⟩
end Go.Proofs.YtjnhhnbgjjkkjaaDoor
