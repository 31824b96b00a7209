/-
  The contract of the code's readAddress (package blocks).
-/
import Derived.Test.YtjnhhnbgjjkkjaaDoorTextCode
import Derived.Test.YtjnhhnbgjjkkjaaDoorTextCut
namespace Go.Proofs.YtjnhhnbgjjkkjaaDoor
open Go.ChangeShapes Go.WideShapes Go.ChangeAt Go.RowKit
set_option linter.unusedVariables false
set_option linter.unusedSimpArgs false

def aB (l : List UInt8) : Int := match addr l with | some a => (a : Int) | none => 0
def aOk (l : List UInt8) : Bool := (addr l).isSome
theorem a_none {l : List UInt8} (h : addr l = none) : aB l = 0 ∧ aOk l = false := by simp [aB, aOk, h]
theorem a_some {l : List UInt8} {a : Nat} (h : addr l = some a) : aB l = a ∧ aOk l = true := by simp [aB, aOk, h]
theorem addr_off' {l : List UInt8} (h : (parts 46 l).length ≠ 4) : addr l = none := by
  rcases addrI_cases l with ⟨_, e⟩ | ⟨a, e, _⟩
  · exact e
  · have := addr_off h; omega
/-- SplitN at five, as the walk wants it: a slice of so many texts in a new block -/
theorem splitn_any (s : ByteArray) (w : World) (E : Env w) (hs : s.size ≤ 2097152) :
    Calls Tryd.prog 56 #[.string s, .string ⟨#[46]⟩, .int .i64 5] w fun e w' => ∃ (n cap : Nat) (P : Nat → ByteArray),
      e = .returned (.slice (some ⟨w.heap.size, 0, none⟩) n cap) ∧ n ≤ cap ∧ cap ≤ 5 ∧ (n = 4 ↔ (parts 46 s.data.toList).length = 4) ∧ (n = 4 → ∀ j, j < 4 → w'.cell? ⟨w.heap.size, j, none⟩ = some (.string (P j)) ∧ P j = bs ((parts 46 s.data.toList).getD j [])) ∧ w.heap.size < w'.heap.size ∧ Below w.heap.size w w' := by
  obtain ⟨m, hm⟩ := E.mx
  refine (Tryd.strings_SplitN s ⟨#[46]⟩ 5 m w (by omega) hm (by decide) (by omega) (by omega)).mono ?_
  rintro e w' ⟨rfl, rfl⟩
  have hd := Lib.splitB_data ⟨#[46]⟩ 0 (min 5 (s.size + 1) - 1) s
  have hlen := Lib.splitB_length_le ⟨#[46]⟩ 0 (min 5 (s.size + 1) - 1) s
  obtain ⟨L, hL⟩ : ∃ L, L = Lib.splitB ⟨#[46]⟩ 0 (min 5 (s.size + 1) - 1) s := ⟨_, rfl⟩
  rw [← hL] at hd hlen ⊢
  rw [show (⟨#[46]⟩ : ByteArray).data.toList = [46] from rfl, Lib.size_eq s] at hd
  obtain ⟨f1, f2⟩ := split_five s.data.toList
  rw [← hd] at f1 f2
  refine ⟨L.length, _, fun j => L.getD j ByteArray.empty, rfl, by omega, by omega, by simpa using f1, ?_, by simp, (Below.refl _ _).alloc (Nat.le_refl _) _⟩
  intro h4 j hj
  have hj' : j < L.length := by omega
  refine ⟨?_, ?_⟩
  · rw [World.cell?_alloc_at _ _ _ _ rfl]
    unfold Lib.cellsOf
    simp [List.getElem?_append, hj', List.getD, List.getElem?_eq_getElem hj']
  · rw [← f2 (f1.1 (by simpa using h4))]
    simp [List.getD, List.getElem?_eq_getElem hj']
    exact (bs_of _).symm
/-- the accumulated address, by shifts -/
theorem shl_or (a x : Int) (h0 : 0 ≤ a) (h1 : a < 16777216) (x0 : 0 ≤ x) (x1 : x ≤ 255) : bits .or .u32 (a * 256) x = 256 * a + x := by
  rw [u32_or (a * 256) x (by omega) (by omega) x0 (by omega), nat_join 8 _ _ (by omega) (by omega)]; omega

theorem acc_lt {l : List UInt8} {a : Int} {k : Nat} (ha : a = acc (fun j => numI ((parts 46 l).getD j []) 255) k) (hk : k < 4) (h : ∀ j, j < k → num ((parts 46 l).getD j []) 255 ≠ none) : a < 16777216 := by
  have hbd := acc_bd (fun j => numI ((parts 46 l).getD j []) 255) k (by omega) (fun j hj => by
    rcases numI_cases ((parts 46 l).getD j []) 255 with ⟨_, e⟩ | ⟨n, e, h', _⟩
    · exact absurd e (h j hj)
    · simp only [e]; omega)
  have hpw : (256 : Int) ^ k ≤ 16777216 := by
    have : k = 0 ∨ k = 1 ∨ k = 2 ∨ k = 3 := by omega
    rcases this with rfl | rfl | rfl | rfl <;> decide
  rw [ha]; omega

set_option maxRecDepth 1000000 in
set_option maxHeartbeats 1000000 in
theorem ra_any (s : ByteArray) (w : World) (E0 : Env w) (hs : s.size ≤ 2097152) :
    Calls Tryd.prog 42 #[.string s] w fun e w' => e = .returned (.tuple #[.int .u32 (aB s.data.toList), .bool (aOk s.data.toList)]) ∧ Below w.heap.size w w' := by
  have E : Hid (Env w) := E0
  clear E0
  by_cases h4 : (parts 46 s.data.toList).length = 4
  · go_enter Tryd.func42, Tryd.ntmps42
    go_wp2_with (go_at_call 56; refine (splitn_any s _ E.out hs).mono ?_; rintro e w1 ⟨n, cap, P, rfl, hnc, hcap, hn4, hcell, hsz1, hb1⟩; obtain rfl := hn4.2 h4; have HX : Hid (∀ j, j < 4 → w1.cell? ⟨w.heap.size, j, none⟩ = some (.string (P j)) ∧ P j = bs ((parts 46 s.data.toList).getD j [])) := hcell rfl; clear hcell hn4)
    go_loopw [5, 17] (fun t i wr => ∃ (k : Nat) (a : Int), k ≤ 4 ∧ 0 ≤ a ∧ a < 4294967296 ∧ i = .int .i64 k ∧ t = .int .u32 a ∧ Below w1.heap.size w1 wr ∧ Hid (a = acc (fun j => numI ((parts 46 s.data.toList).getD j []) 255) k ∧ (∀ j, j < k → num ((parts 46 s.data.toList).getD j []) 255 ≠ none))) (fun _ i _ => 4 - (intOf i).toNat)
    case atStart => exact ⟨0, 0, by omega, by omega, by omega, rfl, rfl, Below.refl _ _, rfl, fun j hj => by omega⟩
    case round =>
      obtain ⟨k, a, hk, a0, a1, rfl, rfl, hb, H⟩ := hrel
      by_cases hlt : k < 4
      · have ha2 : a < 16777216 := acc_lt H.out.1 hlt H.out.2
        have hce : wr.cell? ⟨w.heap.size, k, none⟩ = some (.string (P k)) := bcell' hb hsz1 (HX.out k hlt).1
        have E1 : Hid (Env wr) := (E.out.mono hb1).mono hb
        have hPs : (P k).size ≤ 2097152 := by
          rw [(HX.out k hlt).2, bs_size]
          have := part_len 46 s.data.toList k
          have := Lib.size_eq s
          omega
        have hPd : (P k).data.toList = (parts 46 s.data.toList).getD k [] := by rw [(HX.out k hlt).2, bs_data]
        rcases hnum : num ((parts 46 s.data.toList).getD k []) 255 with _ | n
        · have hn : Hid (Calls Tryd.prog 57 #[.string (P k), .int .i64 255] wr fun e w' => e = .returned (.tuple #[.int .i64 0, .bool false]) ∧ Below wr.heap.size wr w') := by
            have h := rn_any (P k) 255 wr E1.out hPs (by omega) (by omega)
            rw [hPd] at h
            obtain ⟨q1, q2⟩ := n_none hnum
            rw [show (255 : Int).toNat = 255 from rfl, q1, q2] at h; exact h
          have hno : Hid (addr s.data.toList = none) := by
            rcases addrI_cases s.data.toList with ⟨_, e⟩ | ⟨x, e, _⟩
            · exact e
            · have := addr_bad h4 hlt hnum; omega
          clear hnum hPd
          go_wp2_with (go_at_call 57; refine hn.out.mono ?_; rintro e w2 ⟨rfl, hb2⟩)
          go_ret2
          obtain ⟨q1, q2⟩ := a_none hno.out
          rw [q1, q2]
          exact ⟨rfl, (hb1.trans (hb.mono (Nat.le_of_lt hsz1))).trans (hb2.mono (Nat.le_trans (Nat.le_of_lt hsz1) hb.size))⟩
        · have hnx : n ≤ 255 := (num_some.1 hnum).1
          obtain ⟨x, hx⟩ : ∃ x : Int, x = n := ⟨_, rfl⟩
          have x0 : 0 ≤ x := by omega
          have x1 : x ≤ 255 := by omega
          have hn : Hid (Calls Tryd.prog 57 #[.string (P k), .int .i64 255] wr fun e w' => e = .returned (.tuple #[.int .i64 x, .bool true]) ∧ Below wr.heap.size wr w') := by
            have h := rn_any (P k) 255 wr E1.out hPs (by omega) (by omega)
            rw [hPd] at h
            obtain ⟨q1, q2⟩ := n_some hnum
            rw [show (255 : Int).toNat = 255 from rfl, q1, q2, ← hx] at h; exact h
          have H2 : Hid (256 * a + x = acc (fun j => numI ((parts 46 s.data.toList).getD j []) 255) (k + 1) ∧ (∀ j, j < k + 1 → num ((parts 46 s.data.toList).getD j []) 255 ≠ none)) := by
            refine ⟨?_, fun j hj => ?_⟩
            · rw [acc, ← H.out.1]; simp only [numI, hnum]; omega
            · by_cases e : j < k
              · exact H.out.2 j e
              · obtain rfl : j = k := by omega
                rw [hnum]; simp
          have hor := shl_or a x a0 ha2 x0 x1
          clear hnum hPd hx hnx H
          go_wp2_with (go_at_call 57; refine hn.out.mono ?_; rintro e w2 ⟨rfl, hb2⟩)
          go_roundw
          case rel => exact ⟨k + 1, 256 * a + x, by omega, by omega, by omega, by go_num, rfl, hb.trans (hb2.mono hb.size), H2⟩
          case measure => simp [intOf]; omega
      · obtain rfl : k = 4 := by omega
        go_wp2
        go_ret2
        have hg := addr_good h4 H.out.2
        rw [← H.out.1] at hg
        have hs4 : addr s.data.toList = some a.toNat := by
          rcases addrI_cases s.data.toList with ⟨e, _⟩ | ⟨x, e, e2⟩
          · omega
          · rw [e2]; congr 1; omega
        obtain ⟨q1, q2⟩ := a_some hs4
        rw [q1, q2, show ((a.toNat : Nat) : Int) = a by omega]
        exact ⟨rfl, hb1.trans (hb.mono (Nat.le_of_lt hsz1))⟩
  · obtain ⟨q1, q2⟩ := a_none (addr_off' h4)
    rw [q1, q2]
    clear q1 q2
    go_enter Tryd.func42, Tryd.ntmps42
    go_wp2_with (go_at_call 56; refine (splitn_any s _ E.out hs).mono ?_; rintro e w1 ⟨n, cap, P, rfl, hnc, hcap, hn4, hcell, hsz1, hb1⟩; have hne : ((n : Int) == 4) = false := (by simp; intro e; exact h4 (hn4.1 (by omega))); clear hcell hn4)
    go_ret2
    exact ⟨rfl, hb1⟩
end Go.Proofs.YtjnhhnbgjjkkjaaDoor
