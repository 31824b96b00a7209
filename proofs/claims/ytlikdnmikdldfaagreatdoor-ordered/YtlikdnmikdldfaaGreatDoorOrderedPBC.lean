/-
  TextCodeB, TextCodeC, BkSp, TextBack, BkRd
-/
import Derived.Test.YtlikdnmikdldfaaGreatDoorOrderedPAX
import Derived.Test.YtlikdnmikdldfaaGreatDoorOrderedPBB
import Derived.Test.YtlikdnmikdldfaaGreatDoorOrderedPAT
import Derived.Test.YtlikdnmikdldfaaGreatDoorOrderedPAA
import Derived.Test.YtlikdnmikdldfaaGreatDoorOrderedPAB
namespace Go.Proofs.YtlikdnmikdldfaaGreatDoor
open Go.ChangeShapes Go.WideShapes Go.ChangeAt Go.RowKit
set_option linter.unusedVariables false
set_option linter.unusedSimpArgs false

def aB (l : List UInt8) : Int := match addr l with | some a => (a : Int) | none => 0
def aOk (l : List UInt8) : Bool := (addr l).isSome
theorem a_none {l : List UInt8} (h : addr l = none) : aB l = 0 ∧ aOk l = false := by simp [aB, aOk, h]
theorem a_some {l : List UInt8} {a : Nat} (h : addr l = some a) : aB l = a ∧ aOk l = true := by simp [aB, aOk, h]
theorem addr_off' {l : List UInt8} (h : (parts 46 l).length ≠ 4) : addr l = none := by
  rcases addrI_cases l with ⟨_, e⟩ | ⟨a, e, _⟩
  · exact e
  · have := addr_off h; omega
/-- SplitN at five, as the walk wants it: a slice of so many texts in a new block -/
theorem splitn_any (s : ByteArray) (w : World) (E : Env w) (hs : s.size ≤ 2097152) :
    Calls Tryz.prog 166 #[.string s, .string ⟨#[46]⟩, .int .i64 5] w fun e w' => ∃ (n cap : Nat) (P : Nat → ByteArray),
      e = .returned (.slice (some ⟨w.heap.size, 0, none⟩) n cap) ∧ n ≤ cap ∧ cap ≤ 5 ∧ (n = 4 ↔ (parts 46 s.data.toList).length = 4) ∧ (n = 4 → ∀ j, j < 4 → w'.cell? ⟨w.heap.size, j, none⟩ = some (.string (P j)) ∧ P j = bs ((parts 46 s.data.toList).getD j [])) ∧ w.heap.size < w'.heap.size ∧ Below w.heap.size w w' := by
  obtain ⟨m, hm⟩ := E.mx
  refine (Tryz.strings_SplitN s ⟨#[46]⟩ 5 m w (by omega) hm (by decide) (by omega) (by omega)).mono ?_
  rintro e w' ⟨rfl, rfl⟩
  have hd := Lib.splitB_data ⟨#[46]⟩ 0 (min 5 (s.size + 1) - 1) s
  have hlen := Lib.splitB_length_le ⟨#[46]⟩ 0 (min 5 (s.size + 1) - 1) s
  obtain ⟨L, hL⟩ : ∃ L, L = Lib.splitB ⟨#[46]⟩ 0 (min 5 (s.size + 1) - 1) s := ⟨_, rfl⟩
  rw [← hL] at hd hlen ⊢
  rw [show (⟨#[46]⟩ : ByteArray).data.toList = [46] from rfl, Lib.size_eq s] at hd
  obtain ⟨f1, f2⟩ := split_five s.data.toList
  rw [← hd] at f1 f2
  refine ⟨L.length, _, fun j => L.getD j ByteArray.empty, rfl, by omega, by omega, by simpa using f1, ?_, by simp, (Below.refl _ _).alloc (Nat.le_refl _) _⟩
  intro h4 j hj
  have hj' : j < L.length := by omega
  refine ⟨?_, ?_⟩
  · rw [World.cell?_alloc_at _ _ _ _ rfl]
    unfold Lib.cellsOf
    simp [List.getElem?_append, hj', List.getD, List.getElem?_eq_getElem hj']
  · rw [← f2 (f1.1 (by simpa using h4))]
    simp [List.getD, List.getElem?_eq_getElem hj']
    exact (bs_of _).symm
/-- the accumulated address, by shifts -/
theorem shl_or (a x : Int) (h0 : 0 ≤ a) (h1 : a < 16777216) (x0 : 0 ≤ x) (x1 : x ≤ 255) : bits .or .u32 (a * 256) x = 256 * a + x := by
  rw [u32_or (a * 256) x (by omega) (by omega) x0 (by omega), nat_join 8 _ _ (by omega) (by omega)]; omega

theorem acc_lt {l : List UInt8} {a : Int} {k : Nat} (ha : a = acc (fun j => numI ((parts 46 l).getD j []) 255) k) (hk : k < 4) (h : ∀ j, j < k → num ((parts 46 l).getD j []) 255 ≠ none) : a < 16777216 := by
  have hbd := acc_bd (fun j => numI ((parts 46 l).getD j []) 255) k (by omega) (fun j hj => by
    rcases numI_cases ((parts 46 l).getD j []) 255 with ⟨_, e⟩ | ⟨n, e, h', _⟩
    · exact absurd e (h j hj)
    · simp only [e]; omega)
  have hpw : (256 : Int) ^ k ≤ 16777216 := by
    have : k = 0 ∨ k = 1 ∨ k = 2 ∨ k = 3 := by omega
    rcases this with rfl | rfl | rfl | rfl <;> decide
  rw [ha]; omega

set_option maxRecDepth 1000000 in
set_option maxHeartbeats 1000000 in
theorem ra_any (s : ByteArray) (w : World) (E0 : Env w) (hs : s.size ≤ 2097152) :
    Calls Tryz.prog 116 #[.string s] w fun e w' => e = .returned (.tuple #[.int .u32 (aB s.data.toList), .bool (aOk s.data.toList)]) ∧ Below w.heap.size w w' := by
  have E : Hid (Env w) := E0
  clear E0
  by_cases h4 : (parts 46 s.data.toList).length = 4
  · go_enter Tryz.func116, Tryz.ntmps116
    go_wp2_with (go_at_call 166; refine (splitn_any s _ E.out hs).mono ?_; rintro e w1 ⟨n, cap, P, rfl, hnc, hcap, hn4, hcell, hsz1, hb1⟩; obtain rfl := hn4.2 h4; have HX : Hid (∀ j, j < 4 → w1.cell? ⟨w.heap.size, j, none⟩ = some (.string (P j)) ∧ P j = bs ((parts 46 s.data.toList).getD j [])) := hcell rfl; clear hcell hn4)
    go_loopw [5, 17] (fun t i wr => ∃ (k : Nat) (a : Int), k ≤ 4 ∧ 0 ≤ a ∧ a < 4294967296 ∧ i = .int .i64 k ∧ t = .int .u32 a ∧ Below w1.heap.size w1 wr ∧ Hid (a = acc (fun j => numI ((parts 46 s.data.toList).getD j []) 255) k ∧ (∀ j, j < k → num ((parts 46 s.data.toList).getD j []) 255 ≠ none))) (fun _ i _ => 4 - (intOf i).toNat)
    case atStart => exact ⟨0, 0, by omega, by omega, by omega, rfl, rfl, Below.refl _ _, rfl, fun j hj => by omega⟩
    case round =>
      obtain ⟨k, a, hk, a0, a1, rfl, rfl, hb, H⟩ := hrel
      by_cases hlt : k < 4
      · have ha2 : a < 16777216 := acc_lt H.out.1 hlt H.out.2
        have hce : wr.cell? ⟨w.heap.size, k, none⟩ = some (.string (P k)) := bcell' hb hsz1 (HX.out k hlt).1
        have E1 : Hid (Env wr) := (E.out.mono hb1).mono hb
        have hPs : (P k).size ≤ 2097152 := by
          rw [(HX.out k hlt).2, bs_size]
          have := part_len 46 s.data.toList k
          have := Lib.size_eq s
          omega
        have hPd : (P k).data.toList = (parts 46 s.data.toList).getD k [] := by rw [(HX.out k hlt).2, bs_data]
        rcases hnum : num ((parts 46 s.data.toList).getD k []) 255 with _ | n
        · have hn : Hid (Calls Tryz.prog 167 #[.string (P k), .int .i64 255] wr fun e w' => e = .returned (.tuple #[.int .i64 0, .bool false]) ∧ Below wr.heap.size wr w') := by
            have h := rn_any (P k) 255 wr E1.out hPs (by omega) (by omega)
            rw [hPd] at h
            obtain ⟨q1, q2⟩ := n_none hnum
            rw [show (255 : Int).toNat = 255 from rfl, q1, q2] at h; exact h
          have hno : Hid (addr s.data.toList = none) := by
            rcases addrI_cases s.data.toList with ⟨_, e⟩ | ⟨x, e, _⟩
            · exact e
            · have := addr_bad h4 hlt hnum; omega
          clear hnum hPd
          go_wp2_with (go_at_call 167; refine hn.out.mono ?_; rintro e w2 ⟨rfl, hb2⟩)
          go_ret2
          obtain ⟨q1, q2⟩ := a_none hno.out
          rw [q1, q2]
          exact ⟨rfl, (hb1.trans (hb.mono (Nat.le_of_lt hsz1))).trans (hb2.mono (Nat.le_trans (Nat.le_of_lt hsz1) hb.size))⟩
        · have hnx : n ≤ 255 := (num_some.1 hnum).1
          obtain ⟨x, hx⟩ : ∃ x : Int, x = n := ⟨_, rfl⟩
          have x0 : 0 ≤ x := by omega
          have x1 : x ≤ 255 := by omega
          have hn : Hid (Calls Tryz.prog 167 #[.string (P k), .int .i64 255] wr fun e w' => e = .returned (.tuple #[.int .i64 x, .bool true]) ∧ Below wr.heap.size wr w') := by
            have h := rn_any (P k) 255 wr E1.out hPs (by omega) (by omega)
            rw [hPd] at h
            obtain ⟨q1, q2⟩ := n_some hnum
            rw [show (255 : Int).toNat = 255 from rfl, q1, q2, ← hx] at h; exact h
          have H2 : Hid (256 * a + x = acc (fun j => numI ((parts 46 s.data.toList).getD j []) 255) (k + 1) ∧ (∀ j, j < k + 1 → num ((parts 46 s.data.toList).getD j []) 255 ≠ none)) := by
            refine ⟨?_, fun j hj => ?_⟩
            · rw [acc, ← H.out.1]; simp only [numI, hnum]; omega
            · by_cases e : j < k
              · exact H.out.2 j e
              · obtain rfl : j = k := by omega
                rw [hnum]; simp
          have hor := shl_or a x a0 ha2 x0 x1
          clear hnum hPd hx hnx H
          go_wp2_with (go_at_call 167; refine hn.out.mono ?_; rintro e w2 ⟨rfl, hb2⟩)
          go_roundw
          case rel => exact ⟨k + 1, 256 * a + x, by omega, by omega, by omega, by go_num, rfl, hb.trans (hb2.mono hb.size), H2⟩
          case measure => simp [intOf]; omega
      · obtain rfl : k = 4 := by omega
        go_wp2
        go_ret2
        have hg := addr_good h4 H.out.2
        rw [← H.out.1] at hg
        have hs4 : addr s.data.toList = some a.toNat := by
          rcases addrI_cases s.data.toList with ⟨e, _⟩ | ⟨x, e, e2⟩
          · omega
          · rw [e2]; congr 1; omega
        obtain ⟨q1, q2⟩ := a_some hs4
        rw [q1, q2, show ((a.toNat : Nat) : Int) = a by omega]
        exact ⟨rfl, hb1.trans (hb.mono (Nat.le_of_lt hsz1))⟩
  · obtain ⟨q1, q2⟩ := a_none (addr_off' h4)
    rw [q1, q2]
    clear q1 q2
    go_enter Tryz.func116, Tryz.ntmps116
    go_wp2_with (go_at_call 166; refine (splitn_any s _ E.out hs).mono ?_; rintro e w1 ⟨n, cap, P, rfl, hnc, hcap, hn4, hcell, hsz1, hb1⟩; have hne : ((n : Int) == 4) = false := (by simp; intro e; exact h4 (hn4.1 (by omega))); clear hcell hn4)
    go_ret2
    exact ⟨rfl, hb1⟩
end Go.Proofs.YtlikdnmikdldfaaGreatDoor
namespace Go.Proofs.YtlikdnmikdldfaaGreatDoor
open Go.ChangeShapes Go.WideShapes Go.ChangeAt Go.RowKit
set_option linter.unusedVariables false
set_option linter.unusedSimpArgs false

theorem drew_below {w w' : World} (h : ∃ n, w' = w.drewN n) : Below w.heap.size w w' := by
  obtain ⟨n, rfl⟩ := h; exact below_drewN (Below.refl _ _) n
theorem cut_any (s : ByteArray) (w : World) (E : Env w) (hs : s.size ≤ 2097152) (a b : List UInt8) (f : Bool) (h : Lib.cut s.data.toList [47] = (a, b, f)) :
    Calls Tryz.prog 164 #[.string s, .string ⟨#[47]⟩] w fun e w' => e = .returned (.tuple #[.string (bs a), .string (bs b), .bool f]) ∧ Below w.heap.size w w' := by
  obtain ⟨m, hm⟩ := E.mx
  refine (Tryz.strings_Cut s ⟨#[47]⟩ m w (by omega) hm).mono ?_
  rintro e w' ⟨rfl, hd⟩
  rw [show (⟨#[47]⟩ : ByteArray).data.toList = [47] from rfl, h]
  exact ⟨rfl, drew_below hd⟩
theorem rd_noslash {l : List UInt8} (h : 47 ∉ l) : rd l = none := rd_off (by rw [parts_none 47 l h]; simp)
theorem rd_cut {a b : List UInt8} (h : 47 ∉ a) : rd (a ++ 47 :: b) = (match addr a, num b 32 with
    | some x, some n => if rt x n then some ((x : Int), (n : Int)) else none
    | _, _ => none) := by
  rcases first_cut 47 b with hb | ⟨c, d, rfl, hc⟩
  · have hp : parts 47 (a ++ 47 :: b) = [a, b] := by rw [parts_cons 47 a b h, parts_none 47 b hb]
    unfold rd; rw [hp]; rfl
  · have hn : num (c ++ 47 :: d) 32 = none := num_none.2 fun n hn e => by
      have := dec_no 47 (by decide) n
      rw [e] at this; simp at this
    rw [hn]
    have hoff : rd (a ++ 47 :: (c ++ 47 :: d)) = none := rd_off (by
      rw [parts_cons 47 a _ h, parts_cons 47 c d hc]
      have := parts_pos 47 d
      rw [List.length_cons, List.length_cons]; omega)
    rw [hoff]
    cases addr a <;> rfl

set_option maxRecDepth 1000000 in
set_option maxHeartbeats 1000000 in
theorem bread_none (s : ByteArray) (w : World) (t0 t1 : ByteArray) (f okA okN : Bool) (x y : Int) (E : Hid (Env w))
    (cc : Hid (∀ w, Env w → Calls Tryz.prog 164 #[.string s, .string ⟨#[47]⟩] w fun e w' => e = .returned (.tuple #[.string t0, .string t1, .bool f]) ∧ Below w.heap.size w w'))
    (ca : Hid (∀ w, Env w → Calls Tryz.prog 116 #[.string t0] w fun e w' => e = .returned (.tuple #[.int .u32 x, .bool okA]) ∧ Below w.heap.size w w'))
    (cn : Hid (∀ w, Env w → Calls Tryz.prog 117 #[.string t1] w fun e w' => e = .returned (.tuple #[.int .i64 y, .bool okN]) ∧ Below w.heap.size w w')) (h : f = false) :
    Calls Tryz.prog 115 #[.string s] w fun e w' => e = .returned (.tuple #[.agg #[.int .u32 (0), .int .i64 (0)], .int .i64 (1)]) ∧ Below w.heap.size w w' := by
  go_enter Tryz.func115, Tryz.ntmps115
  go_wp2_with (first | (go_at_call 164; refine (cc.out _ (E.out.mono (by repeat' (first | with_reducible assumption | with_reducible exact Below.refl _ _ | with_reducible apply Below.drew | with_reducible apply below_drewN | with_reducible apply Below.setCell | with_reducible apply Below.alloc | omega | (simp; done) | (simp; omega))))).mono ?_; rintro e w1 ⟨rfl, hb1⟩; obtain ⟨hc, hf⟩ := bcell hb1; have c1_0_0 : w1.cell? ⟨w.heap.size, 0, none⟩ = some (.int .u32 0) := (by rw [hc _ _ (by first | omega | (simp; done) | (simp; omega))]; first | assumption | (rw [World.cell?_alloc_past _ _ _ (by omega)]; assumption) | (simp [go_sem, *]; done)); have f1_0_0 : w1.frozen? ⟨w.heap.size, 0, none⟩ = false := (by rw [hf _ _ (by first | omega | (simp; done) | (simp; omega))]; first | assumption | (rw [World.frozen?_alloc_past _ _ _ (by omega)]; assumption) | (simp [go_sem, *]; done)); have c1_0_1 : w1.cell? ⟨w.heap.size, 1, none⟩ = some (.int .i64 0) := (by rw [hc _ _ (by first | omega | (simp; done) | (simp; omega))]; first | assumption | (rw [World.cell?_alloc_past _ _ _ (by omega)]; assumption) | (simp [go_sem, *]; done)); have f1_0_1 : w1.frozen? ⟨w.heap.size, 1, none⟩ = false := (by rw [hf _ _ (by first | omega | (simp; done) | (simp; omega))]; first | assumption | (rw [World.frozen?_alloc_past _ _ _ (by omega)]; assumption) | (simp [go_sem, *]; done)); have z1_0 : w.heap.size < w1.heap.size := (by have := hb1.size; (try simp at this); omega); clear hc hf; have E1 : Hid (Env w1) := (E.out.mono (by repeat' (first | with_reducible assumption | with_reducible exact Below.refl _ _ | with_reducible apply Below.drew | with_reducible apply below_drewN | with_reducible apply Below.setCell | with_reducible apply Below.alloc | omega | (simp; done) | (simp; omega)))).mono hb1) | (go_at_call 116; refine (ca.out _ E1.out).mono ?_; rintro e w2 ⟨rfl, hb2⟩; obtain ⟨hc, hf⟩ := bcell hb2; have c2_0_0 : w2.cell? ⟨w.heap.size, 0, none⟩ = some (.int .u32 0) := (by rw [hc _ _ (by first | omega | (simp; done) | (simp; omega))]; first | assumption | (rw [World.cell?_alloc_past _ _ _ (by omega)]; assumption) | (simp [go_sem, *]; done)); have f2_0_0 : w2.frozen? ⟨w.heap.size, 0, none⟩ = false := (by rw [hf _ _ (by first | omega | (simp; done) | (simp; omega))]; first | assumption | (rw [World.frozen?_alloc_past _ _ _ (by omega)]; assumption) | (simp [go_sem, *]; done)); have c2_0_1 : w2.cell? ⟨w.heap.size, 1, none⟩ = some (.int .i64 0) := (by rw [hc _ _ (by first | omega | (simp; done) | (simp; omega))]; first | assumption | (rw [World.cell?_alloc_past _ _ _ (by omega)]; assumption) | (simp [go_sem, *]; done)); have f2_0_1 : w2.frozen? ⟨w.heap.size, 1, none⟩ = false := (by rw [hf _ _ (by first | omega | (simp; done) | (simp; omega))]; first | assumption | (rw [World.frozen?_alloc_past _ _ _ (by omega)]; assumption) | (simp [go_sem, *]; done)); have z2_0 : w.heap.size < w2.heap.size := (by have := hb2.size; (try simp at this); omega); clear hc hf; have E2 : Hid (Env w2) := E1.out.mono hb2; clear c1_0_0 c1_0_1 f1_0_0 f1_0_1 z1_0) | (go_at_call 117; refine (cn.out _ E2.out).mono ?_; rintro e w3 ⟨rfl, hb3⟩; obtain ⟨hc, hf⟩ := bcell hb3; have c3_0_0 : w3.cell? ⟨w.heap.size, 0, none⟩ = some (.int .u32 0) := (by rw [hc _ _ (by first | omega | (simp; done) | (simp; omega))]; first | assumption | (rw [World.cell?_alloc_past _ _ _ (by omega)]; assumption) | (simp [go_sem, *]; done)); have f3_0_0 : w3.frozen? ⟨w.heap.size, 0, none⟩ = false := (by rw [hf _ _ (by first | omega | (simp; done) | (simp; omega))]; first | assumption | (rw [World.frozen?_alloc_past _ _ _ (by omega)]; assumption) | (simp [go_sem, *]; done)); have c3_0_1 : w3.cell? ⟨w.heap.size, 1, none⟩ = some (.int .i64 0) := (by rw [hc _ _ (by first | omega | (simp; done) | (simp; omega))]; first | assumption | (rw [World.cell?_alloc_past _ _ _ (by omega)]; assumption) | (simp [go_sem, *]; done)); have f3_0_1 : w3.frozen? ⟨w.heap.size, 1, none⟩ = false := (by rw [hf _ _ (by first | omega | (simp; done) | (simp; omega))]; first | assumption | (rw [World.frozen?_alloc_past _ _ _ (by omega)]; assumption) | (simp [go_sem, *]; done)); have z3_0 : w.heap.size < w3.heap.size := (by have := hb3.size; (try simp at this); omega); clear hc hf; clear c2_0_0 c2_0_1 f2_0_0 f2_0_1 z2_0))
  exact bodyPost_ret (v := .tuple #[.agg #[.int .u32 (0), .int .i64 (0)], .int .i64 (1)]) (by simp [results, Tryz.results115, go_sem, c3_0_0, c3_0_1, f3_0_0, f3_0_1, World.cell?_alloc_lt, z3_0, Nat.lt_succ_of_lt z3_0]) rfl ⟨rfl, (by have hq := hb1.mono (B' := w.heap.size) (by first | omega | (simp; done) | (simp; omega)); have hq2 := Below.trans (B := w.heap.size) (a := w) (by repeat' (first | with_reducible assumption | with_reducible exact Below.refl _ _ | with_reducible apply Below.drew | with_reducible apply below_drewN | with_reducible apply Below.setCell | with_reducible apply Below.alloc | omega | (simp; done) | (simp; omega))) hq; clear hq; have s1 := hq2.size; have hq3 := Below.trans (B := w.heap.size) (a := w) (by repeat' (first | with_reducible assumption | with_reducible exact Below.refl _ _ | with_reducible apply Below.drew | with_reducible apply below_drewN | with_reducible apply Below.setCell | with_reducible apply Below.alloc | omega | (simp; done) | (simp; omega))) (hb2.mono (B' := w.heap.size) (by first | omega | (simp; done) | (simp; omega))); have s2 := hq3.size; clear hq2; have hq4 := Below.trans (B := w.heap.size) (a := w) (by repeat' (first | with_reducible assumption | with_reducible exact Below.refl _ _ | with_reducible apply Below.drew | with_reducible apply below_drewN | with_reducible apply Below.setCell | with_reducible apply Below.alloc | omega | (simp; done) | (simp; omega))) (hb3.mono (B' := w.heap.size) (by first | omega | (simp; done) | (simp; omega))); have s3 := hq4.size; clear hq3; repeat' (first | with_reducible assumption | with_reducible exact Below.refl _ _ | with_reducible apply Below.drew | with_reducible apply below_drewN | with_reducible apply Below.setCell | with_reducible apply Below.alloc | omega | (simp; done) | (simp; omega)))⟩

set_option maxRecDepth 1000000 in
set_option maxHeartbeats 1000000 in
theorem bread_addr (s : ByteArray) (w : World) (t0 t1 : ByteArray) (f okA okN : Bool) (x y : Int) (E : Hid (Env w))
    (cc : Hid (∀ w, Env w → Calls Tryz.prog 164 #[.string s, .string ⟨#[47]⟩] w fun e w' => e = .returned (.tuple #[.string t0, .string t1, .bool f]) ∧ Below w.heap.size w w'))
    (ca : Hid (∀ w, Env w → Calls Tryz.prog 116 #[.string t0] w fun e w' => e = .returned (.tuple #[.int .u32 x, .bool okA]) ∧ Below w.heap.size w w'))
    (cn : Hid (∀ w, Env w → Calls Tryz.prog 117 #[.string t1] w fun e w' => e = .returned (.tuple #[.int .i64 y, .bool okN]) ∧ Below w.heap.size w w')) (h : f = true) (ha : okA = false) :
    Calls Tryz.prog 115 #[.string s] w fun e w' => e = .returned (.tuple #[.agg #[.int .u32 (0), .int .i64 (0)], .int .i64 (1)]) ∧ Below w.heap.size w w' := by
  go_enter Tryz.func115, Tryz.ntmps115
  go_wp2_with (first | (go_at_call 164; refine (cc.out _ (E.out.mono (by repeat' (first | with_reducible assumption | with_reducible exact Below.refl _ _ | with_reducible apply Below.drew | with_reducible apply below_drewN | with_reducible apply Below.setCell | with_reducible apply Below.alloc | omega | (simp; done) | (simp; omega))))).mono ?_; rintro e w1 ⟨rfl, hb1⟩; obtain ⟨hc, hf⟩ := bcell hb1; have c1_0_0 : w1.cell? ⟨w.heap.size, 0, none⟩ = some (.int .u32 0) := (by rw [hc _ _ (by first | omega | (simp; done) | (simp; omega))]; first | assumption | (rw [World.cell?_alloc_past _ _ _ (by omega)]; assumption) | (simp [go_sem, *]; done)); have f1_0_0 : w1.frozen? ⟨w.heap.size, 0, none⟩ = false := (by rw [hf _ _ (by first | omega | (simp; done) | (simp; omega))]; first | assumption | (rw [World.frozen?_alloc_past _ _ _ (by omega)]; assumption) | (simp [go_sem, *]; done)); have c1_0_1 : w1.cell? ⟨w.heap.size, 1, none⟩ = some (.int .i64 0) := (by rw [hc _ _ (by first | omega | (simp; done) | (simp; omega))]; first | assumption | (rw [World.cell?_alloc_past _ _ _ (by omega)]; assumption) | (simp [go_sem, *]; done)); have f1_0_1 : w1.frozen? ⟨w.heap.size, 1, none⟩ = false := (by rw [hf _ _ (by first | omega | (simp; done) | (simp; omega))]; first | assumption | (rw [World.frozen?_alloc_past _ _ _ (by omega)]; assumption) | (simp [go_sem, *]; done)); have z1_0 : w.heap.size < w1.heap.size := (by have := hb1.size; (try simp at this); omega); clear hc hf; have E1 : Hid (Env w1) := (E.out.mono (by repeat' (first | with_reducible assumption | with_reducible exact Below.refl _ _ | with_reducible apply Below.drew | with_reducible apply below_drewN | with_reducible apply Below.setCell | with_reducible apply Below.alloc | omega | (simp; done) | (simp; omega)))).mono hb1) | (go_at_call 116; refine (ca.out _ E1.out).mono ?_; rintro e w2 ⟨rfl, hb2⟩; obtain ⟨hc, hf⟩ := bcell hb2; have c2_0_0 : w2.cell? ⟨w.heap.size, 0, none⟩ = some (.int .u32 0) := (by rw [hc _ _ (by first | omega | (simp; done) | (simp; omega))]; first | assumption | (rw [World.cell?_alloc_past _ _ _ (by omega)]; assumption) | (simp [go_sem, *]; done)); have f2_0_0 : w2.frozen? ⟨w.heap.size, 0, none⟩ = false := (by rw [hf _ _ (by first | omega | (simp; done) | (simp; omega))]; first | assumption | (rw [World.frozen?_alloc_past _ _ _ (by omega)]; assumption) | (simp [go_sem, *]; done)); have c2_0_1 : w2.cell? ⟨w.heap.size, 1, none⟩ = some (.int .i64 0) := (by rw [hc _ _ (by first | omega | (simp; done) | (simp; omega))]; first | assumption | (rw [World.cell?_alloc_past _ _ _ (by omega)]; assumption) | (simp [go_sem, *]; done)); have f2_0_1 : w2.frozen? ⟨w.heap.size, 1, none⟩ = false := (by rw [hf _ _ (by first | omega | (simp; done) | (simp; omega))]; first | assumption | (rw [World.frozen?_alloc_past _ _ _ (by omega)]; assumption) | (simp [go_sem, *]; done)); have z2_0 : w.heap.size < w2.heap.size := (by have := hb2.size; (try simp at this); omega); clear hc hf; have E2 : Hid (Env w2) := E1.out.mono hb2; clear c1_0_0 c1_0_1 f1_0_0 f1_0_1 z1_0) | (go_at_call 117; refine (cn.out _ E2.out).mono ?_; rintro e w3 ⟨rfl, hb3⟩; obtain ⟨hc, hf⟩ := bcell hb3; have c3_0_0 : w3.cell? ⟨w.heap.size, 0, none⟩ = some (.int .u32 0) := (by rw [hc _ _ (by first | omega | (simp; done) | (simp; omega))]; first | assumption | (rw [World.cell?_alloc_past _ _ _ (by omega)]; assumption) | (simp [go_sem, *]; done)); have f3_0_0 : w3.frozen? ⟨w.heap.size, 0, none⟩ = false := (by rw [hf _ _ (by first | omega | (simp; done) | (simp; omega))]; first | assumption | (rw [World.frozen?_alloc_past _ _ _ (by omega)]; assumption) | (simp [go_sem, *]; done)); have c3_0_1 : w3.cell? ⟨w.heap.size, 1, none⟩ = some (.int .i64 0) := (by rw [hc _ _ (by first | omega | (simp; done) | (simp; omega))]; first | assumption | (rw [World.cell?_alloc_past _ _ _ (by omega)]; assumption) | (simp [go_sem, *]; done)); have f3_0_1 : w3.frozen? ⟨w.heap.size, 1, none⟩ = false := (by rw [hf _ _ (by first | omega | (simp; done) | (simp; omega))]; first | assumption | (rw [World.frozen?_alloc_past _ _ _ (by omega)]; assumption) | (simp [go_sem, *]; done)); have z3_0 : w.heap.size < w3.heap.size := (by have := hb3.size; (try simp at this); omega); clear hc hf; clear c2_0_0 c2_0_1 f2_0_0 f2_0_1 z2_0))
  exact bodyPost_ret (v := .tuple #[.agg #[.int .u32 (0), .int .i64 (0)], .int .i64 (1)]) (by simp [results, Tryz.results115, go_sem, c3_0_0, c3_0_1, f3_0_0, f3_0_1, World.cell?_alloc_lt, z3_0, Nat.lt_succ_of_lt z3_0]) rfl ⟨rfl, (by have hq := hb1.mono (B' := w.heap.size) (by first | omega | (simp; done) | (simp; omega)); have hq2 := Below.trans (B := w.heap.size) (a := w) (by repeat' (first | with_reducible assumption | with_reducible exact Below.refl _ _ | with_reducible apply Below.drew | with_reducible apply below_drewN | with_reducible apply Below.setCell | with_reducible apply Below.alloc | omega | (simp; done) | (simp; omega))) hq; clear hq; have s1 := hq2.size; have hq3 := Below.trans (B := w.heap.size) (a := w) (by repeat' (first | with_reducible assumption | with_reducible exact Below.refl _ _ | with_reducible apply Below.drew | with_reducible apply below_drewN | with_reducible apply Below.setCell | with_reducible apply Below.alloc | omega | (simp; done) | (simp; omega))) (hb2.mono (B' := w.heap.size) (by first | omega | (simp; done) | (simp; omega))); have s2 := hq3.size; clear hq2; have hq4 := Below.trans (B := w.heap.size) (a := w) (by repeat' (first | with_reducible assumption | with_reducible exact Below.refl _ _ | with_reducible apply Below.drew | with_reducible apply below_drewN | with_reducible apply Below.setCell | with_reducible apply Below.alloc | omega | (simp; done) | (simp; omega))) (hb3.mono (B' := w.heap.size) (by first | omega | (simp; done) | (simp; omega))); have s3 := hq4.size; clear hq3; repeat' (first | with_reducible assumption | with_reducible exact Below.refl _ _ | with_reducible apply Below.drew | with_reducible apply below_drewN | with_reducible apply Below.setCell | with_reducible apply Below.alloc | omega | (simp; done) | (simp; omega)))⟩

set_option maxRecDepth 1000000 in
set_option maxHeartbeats 1000000 in
theorem bread_num (s : ByteArray) (w : World) (t0 t1 : ByteArray) (f okA okN : Bool) (x y : Int) (E : Hid (Env w))
    (cc : Hid (∀ w, Env w → Calls Tryz.prog 164 #[.string s, .string ⟨#[47]⟩] w fun e w' => e = .returned (.tuple #[.string t0, .string t1, .bool f]) ∧ Below w.heap.size w w'))
    (ca : Hid (∀ w, Env w → Calls Tryz.prog 116 #[.string t0] w fun e w' => e = .returned (.tuple #[.int .u32 x, .bool okA]) ∧ Below w.heap.size w w'))
    (cn : Hid (∀ w, Env w → Calls Tryz.prog 117 #[.string t1] w fun e w' => e = .returned (.tuple #[.int .i64 y, .bool okN]) ∧ Below w.heap.size w w')) (h : f = true) (ha : okA = true) (hn : okN = false) :
    Calls Tryz.prog 115 #[.string s] w fun e w' => e = .returned (.tuple #[.agg #[.int .u32 (0), .int .i64 (0)], .int .i64 (1)]) ∧ Below w.heap.size w w' := by
  go_enter Tryz.func115, Tryz.ntmps115
  go_wp2_with (first | (go_at_call 164; refine (cc.out _ (E.out.mono (by repeat' (first | with_reducible assumption | with_reducible exact Below.refl _ _ | with_reducible apply Below.drew | with_reducible apply below_drewN | with_reducible apply Below.setCell | with_reducible apply Below.alloc | omega | (simp; done) | (simp; omega))))).mono ?_; rintro e w1 ⟨rfl, hb1⟩; obtain ⟨hc, hf⟩ := bcell hb1; have c1_0_0 : w1.cell? ⟨w.heap.size, 0, none⟩ = some (.int .u32 0) := (by rw [hc _ _ (by first | omega | (simp; done) | (simp; omega))]; first | assumption | (rw [World.cell?_alloc_past _ _ _ (by omega)]; assumption) | (simp [go_sem, *]; done)); have f1_0_0 : w1.frozen? ⟨w.heap.size, 0, none⟩ = false := (by rw [hf _ _ (by first | omega | (simp; done) | (simp; omega))]; first | assumption | (rw [World.frozen?_alloc_past _ _ _ (by omega)]; assumption) | (simp [go_sem, *]; done)); have c1_0_1 : w1.cell? ⟨w.heap.size, 1, none⟩ = some (.int .i64 0) := (by rw [hc _ _ (by first | omega | (simp; done) | (simp; omega))]; first | assumption | (rw [World.cell?_alloc_past _ _ _ (by omega)]; assumption) | (simp [go_sem, *]; done)); have f1_0_1 : w1.frozen? ⟨w.heap.size, 1, none⟩ = false := (by rw [hf _ _ (by first | omega | (simp; done) | (simp; omega))]; first | assumption | (rw [World.frozen?_alloc_past _ _ _ (by omega)]; assumption) | (simp [go_sem, *]; done)); have z1_0 : w.heap.size < w1.heap.size := (by have := hb1.size; (try simp at this); omega); clear hc hf; have E1 : Hid (Env w1) := (E.out.mono (by repeat' (first | with_reducible assumption | with_reducible exact Below.refl _ _ | with_reducible apply Below.drew | with_reducible apply below_drewN | with_reducible apply Below.setCell | with_reducible apply Below.alloc | omega | (simp; done) | (simp; omega)))).mono hb1) | (go_at_call 116; refine (ca.out _ E1.out).mono ?_; rintro e w2 ⟨rfl, hb2⟩; obtain ⟨hc, hf⟩ := bcell hb2; have c2_0_0 : w2.cell? ⟨w.heap.size, 0, none⟩ = some (.int .u32 0) := (by rw [hc _ _ (by first | omega | (simp; done) | (simp; omega))]; first | assumption | (rw [World.cell?_alloc_past _ _ _ (by omega)]; assumption) | (simp [go_sem, *]; done)); have f2_0_0 : w2.frozen? ⟨w.heap.size, 0, none⟩ = false := (by rw [hf _ _ (by first | omega | (simp; done) | (simp; omega))]; first | assumption | (rw [World.frozen?_alloc_past _ _ _ (by omega)]; assumption) | (simp [go_sem, *]; done)); have c2_0_1 : w2.cell? ⟨w.heap.size, 1, none⟩ = some (.int .i64 0) := (by rw [hc _ _ (by first | omega | (simp; done) | (simp; omega))]; first | assumption | (rw [World.cell?_alloc_past _ _ _ (by omega)]; assumption) | (simp [go_sem, *]; done)); have f2_0_1 : w2.frozen? ⟨w.heap.size, 1, none⟩ = false := (by rw [hf _ _ (by first | omega | (simp; done) | (simp; omega))]; first | assumption | (rw [World.frozen?_alloc_past _ _ _ (by omega)]; assumption) | (simp [go_sem, *]; done)); have z2_0 : w.heap.size < w2.heap.size := (by have := hb2.size; (try simp at this); omega); clear hc hf; have E2 : Hid (Env w2) := E1.out.mono hb2; clear c1_0_0 c1_0_1 f1_0_0 f1_0_1 z1_0) | (go_at_call 117; refine (cn.out _ E2.out).mono ?_; rintro e w3 ⟨rfl, hb3⟩; obtain ⟨hc, hf⟩ := bcell hb3; have c3_0_0 : w3.cell? ⟨w.heap.size, 0, none⟩ = some (.int .u32 0) := (by rw [hc _ _ (by first | omega | (simp; done) | (simp; omega))]; first | assumption | (rw [World.cell?_alloc_past _ _ _ (by omega)]; assumption) | (simp [go_sem, *]; done)); have f3_0_0 : w3.frozen? ⟨w.heap.size, 0, none⟩ = false := (by rw [hf _ _ (by first | omega | (simp; done) | (simp; omega))]; first | assumption | (rw [World.frozen?_alloc_past _ _ _ (by omega)]; assumption) | (simp [go_sem, *]; done)); have c3_0_1 : w3.cell? ⟨w.heap.size, 1, none⟩ = some (.int .i64 0) := (by rw [hc _ _ (by first | omega | (simp; done) | (simp; omega))]; first | assumption | (rw [World.cell?_alloc_past _ _ _ (by omega)]; assumption) | (simp [go_sem, *]; done)); have f3_0_1 : w3.frozen? ⟨w.heap.size, 1, none⟩ = false := (by rw [hf _ _ (by first | omega | (simp; done) | (simp; omega))]; first | assumption | (rw [World.frozen?_alloc_past _ _ _ (by omega)]; assumption) | (simp [go_sem, *]; done)); have z3_0 : w.heap.size < w3.heap.size := (by have := hb3.size; (try simp at this); omega); clear hc hf; clear c2_0_0 c2_0_1 f2_0_0 f2_0_1 z2_0))
  exact bodyPost_ret (v := .tuple #[.agg #[.int .u32 (0), .int .i64 (0)], .int .i64 (1)]) (by simp [results, Tryz.results115, go_sem, c3_0_0, c3_0_1, f3_0_0, f3_0_1, World.cell?_alloc_lt, z3_0, Nat.lt_succ_of_lt z3_0]) rfl ⟨rfl, (by have hq := hb1.mono (B' := w.heap.size) (by first | omega | (simp; done) | (simp; omega)); have hq2 := Below.trans (B := w.heap.size) (a := w) (by repeat' (first | with_reducible assumption | with_reducible exact Below.refl _ _ | with_reducible apply Below.drew | with_reducible apply below_drewN | with_reducible apply Below.setCell | with_reducible apply Below.alloc | omega | (simp; done) | (simp; omega))) hq; clear hq; have s1 := hq2.size; have hq3 := Below.trans (B := w.heap.size) (a := w) (by repeat' (first | with_reducible assumption | with_reducible exact Below.refl _ _ | with_reducible apply Below.drew | with_reducible apply below_drewN | with_reducible apply Below.setCell | with_reducible apply Below.alloc | omega | (simp; done) | (simp; omega))) (hb2.mono (B' := w.heap.size) (by first | omega | (simp; done) | (simp; omega))); have s2 := hq3.size; clear hq2; have hq4 := Below.trans (B := w.heap.size) (a := w) (by repeat' (first | with_reducible assumption | with_reducible exact Below.refl _ _ | with_reducible apply Below.drew | with_reducible apply below_drewN | with_reducible apply Below.setCell | with_reducible apply Below.alloc | omega | (simp; done) | (simp; omega))) (hb3.mono (B' := w.heap.size) (by first | omega | (simp; done) | (simp; omega))); have s3 := hq4.size; clear hq3; repeat' (first | with_reducible assumption | with_reducible exact Below.refl _ _ | with_reducible apply Below.drew | with_reducible apply below_drewN | with_reducible apply Below.setCell | with_reducible apply Below.alloc | omega | (simp; done) | (simp; omega)))⟩

set_option maxRecDepth 1000000 in
set_option maxHeartbeats 1000000 in
theorem bread_not (s : ByteArray) (w : World) (t0 t1 : ByteArray) (f okA okN : Bool) (x y : Int) (E : Hid (Env w))
    (cc : Hid (∀ w, Env w → Calls Tryz.prog 164 #[.string s, .string ⟨#[47]⟩] w fun e w' => e = .returned (.tuple #[.string t0, .string t1, .bool f]) ∧ Below w.heap.size w w'))
    (ca : Hid (∀ w, Env w → Calls Tryz.prog 116 #[.string t0] w fun e w' => e = .returned (.tuple #[.int .u32 x, .bool okA]) ∧ Below w.heap.size w w'))
    (cn : Hid (∀ w, Env w → Calls Tryz.prog 117 #[.string t1] w fun e w' => e = .returned (.tuple #[.int .i64 y, .bool okN]) ∧ Below w.heap.size w w')) (h : f = true) (ha : okA = true) (hn : okN = true) (x0 : 0 ≤ x) (x1 : x < 4294967296) (hr : rt x y = false) :
    Calls Tryz.prog 115 #[.string s] w fun e w' => e = .returned (.tuple #[.agg #[.int .u32 (0), .int .i64 (0)], .int .i64 (1)]) ∧ Below w.heap.size w w' := by
  go_enter Tryz.func115, Tryz.ntmps115
  go_wp2_with (first | (go_at_call 164; refine (cc.out _ (E.out.mono (by repeat' (first | with_reducible assumption | with_reducible exact Below.refl _ _ | with_reducible apply Below.drew | with_reducible apply below_drewN | with_reducible apply Below.setCell | with_reducible apply Below.alloc | omega | (simp; done) | (simp; omega))))).mono ?_; rintro e w1 ⟨rfl, hb1⟩; obtain ⟨hc, hf⟩ := bcell hb1; have c1_0_0 : w1.cell? ⟨w.heap.size, 0, none⟩ = some (.int .u32 0) := (by rw [hc _ _ (by first | omega | (simp; done) | (simp; omega))]; first | assumption | (rw [World.cell?_alloc_past _ _ _ (by omega)]; assumption) | (simp [go_sem, *]; done)); have f1_0_0 : w1.frozen? ⟨w.heap.size, 0, none⟩ = false := (by rw [hf _ _ (by first | omega | (simp; done) | (simp; omega))]; first | assumption | (rw [World.frozen?_alloc_past _ _ _ (by omega)]; assumption) | (simp [go_sem, *]; done)); have c1_0_1 : w1.cell? ⟨w.heap.size, 1, none⟩ = some (.int .i64 0) := (by rw [hc _ _ (by first | omega | (simp; done) | (simp; omega))]; first | assumption | (rw [World.cell?_alloc_past _ _ _ (by omega)]; assumption) | (simp [go_sem, *]; done)); have f1_0_1 : w1.frozen? ⟨w.heap.size, 1, none⟩ = false := (by rw [hf _ _ (by first | omega | (simp; done) | (simp; omega))]; first | assumption | (rw [World.frozen?_alloc_past _ _ _ (by omega)]; assumption) | (simp [go_sem, *]; done)); have z1_0 : w.heap.size < w1.heap.size := (by have := hb1.size; (try simp at this); omega); clear hc hf; have E1 : Hid (Env w1) := (E.out.mono (by repeat' (first | with_reducible assumption | with_reducible exact Below.refl _ _ | with_reducible apply Below.drew | with_reducible apply below_drewN | with_reducible apply Below.setCell | with_reducible apply Below.alloc | omega | (simp; done) | (simp; omega)))).mono hb1) | (go_at_call 116; refine (ca.out _ E1.out).mono ?_; rintro e w2 ⟨rfl, hb2⟩; obtain ⟨hc, hf⟩ := bcell hb2; have c2_0_0 : w2.cell? ⟨w.heap.size, 0, none⟩ = some (.int .u32 0) := (by rw [hc _ _ (by first | omega | (simp; done) | (simp; omega))]; first | assumption | (rw [World.cell?_alloc_past _ _ _ (by omega)]; assumption) | (simp [go_sem, *]; done)); have f2_0_0 : w2.frozen? ⟨w.heap.size, 0, none⟩ = false := (by rw [hf _ _ (by first | omega | (simp; done) | (simp; omega))]; first | assumption | (rw [World.frozen?_alloc_past _ _ _ (by omega)]; assumption) | (simp [go_sem, *]; done)); have c2_0_1 : w2.cell? ⟨w.heap.size, 1, none⟩ = some (.int .i64 0) := (by rw [hc _ _ (by first | omega | (simp; done) | (simp; omega))]; first | assumption | (rw [World.cell?_alloc_past _ _ _ (by omega)]; assumption) | (simp [go_sem, *]; done)); have f2_0_1 : w2.frozen? ⟨w.heap.size, 1, none⟩ = false := (by rw [hf _ _ (by first | omega | (simp; done) | (simp; omega))]; first | assumption | (rw [World.frozen?_alloc_past _ _ _ (by omega)]; assumption) | (simp [go_sem, *]; done)); have z2_0 : w.heap.size < w2.heap.size := (by have := hb2.size; (try simp at this); omega); clear hc hf; have E2 : Hid (Env w2) := E1.out.mono hb2; clear c1_0_0 c1_0_1 f1_0_0 f1_0_1 z1_0) | (go_at_call 117; refine (cn.out _ E2.out).mono ?_; rintro e w3 ⟨rfl, hb3⟩; obtain ⟨hc, hf⟩ := bcell hb3; have c3_0_0 : w3.cell? ⟨w.heap.size, 0, none⟩ = some (.int .u32 0) := (by rw [hc _ _ (by first | omega | (simp; done) | (simp; omega))]; first | assumption | (rw [World.cell?_alloc_past _ _ _ (by omega)]; assumption) | (simp [go_sem, *]; done)); have f3_0_0 : w3.frozen? ⟨w.heap.size, 0, none⟩ = false := (by rw [hf _ _ (by first | omega | (simp; done) | (simp; omega))]; first | assumption | (rw [World.frozen?_alloc_past _ _ _ (by omega)]; assumption) | (simp [go_sem, *]; done)); have c3_0_1 : w3.cell? ⟨w.heap.size, 1, none⟩ = some (.int .i64 0) := (by rw [hc _ _ (by first | omega | (simp; done) | (simp; omega))]; first | assumption | (rw [World.cell?_alloc_past _ _ _ (by omega)]; assumption) | (simp [go_sem, *]; done)); have f3_0_1 : w3.frozen? ⟨w.heap.size, 1, none⟩ = false := (by rw [hf _ _ (by first | omega | (simp; done) | (simp; omega))]; first | assumption | (rw [World.frozen?_alloc_past _ _ _ (by omega)]; assumption) | (simp [go_sem, *]; done)); have z3_0 : w.heap.size < w3.heap.size := (by have := hb3.size; (try simp at this); omega); clear hc hf; clear c2_0_0 c2_0_1 f2_0_0 f2_0_1 z2_0) | (go_at_call 165; refine (right_any _ _ _ x0 x1).mono ?_; rintro e w4 ⟨rfl, hb4⟩; obtain ⟨hc, hf⟩ := bcell hb4; have c4_0_0 : w4.cell? ⟨w.heap.size, 0, none⟩ = some (.int .u32 0) := (by rw [hc _ _ (by first | omega | (simp; done) | (simp; omega))]; first | assumption | (rw [World.cell?_alloc_past _ _ _ (by omega)]; assumption) | (simp [go_sem, *]; done)); have f4_0_0 : w4.frozen? ⟨w.heap.size, 0, none⟩ = false := (by rw [hf _ _ (by first | omega | (simp; done) | (simp; omega))]; first | assumption | (rw [World.frozen?_alloc_past _ _ _ (by omega)]; assumption) | (simp [go_sem, *]; done)); have c4_0_1 : w4.cell? ⟨w.heap.size, 1, none⟩ = some (.int .i64 0) := (by rw [hc _ _ (by first | omega | (simp; done) | (simp; omega))]; first | assumption | (rw [World.cell?_alloc_past _ _ _ (by omega)]; assumption) | (simp [go_sem, *]; done)); have f4_0_1 : w4.frozen? ⟨w.heap.size, 1, none⟩ = false := (by rw [hf _ _ (by first | omega | (simp; done) | (simp; omega))]; first | assumption | (rw [World.frozen?_alloc_past _ _ _ (by omega)]; assumption) | (simp [go_sem, *]; done)); have c4_1_0 : w4.cell? ⟨w3.heap.size, 0, none⟩ = some (.int .u32 x) := (by rw [hc _ _ (by first | omega | (simp; done) | (simp; omega))]; first | assumption | (rw [World.cell?_alloc_past _ _ _ (by omega)]; assumption) | (simp [go_sem, *]; done)); have c4_1_1 : w4.cell? ⟨w3.heap.size, 1, none⟩ = some (.int .i64 y) := (by rw [hc _ _ (by first | omega | (simp; done) | (simp; omega))]; first | assumption | (rw [World.cell?_alloc_past _ _ _ (by omega)]; assumption) | (simp [go_sem, *]; done)); have z4_0 : w.heap.size < w4.heap.size := (by have := hb4.size; (try simp at this); omega); have z4_1 : w3.heap.size < w4.heap.size := (by have := hb4.size; (try simp at this); omega); clear hc hf; clear c3_0_0 c3_0_1 f3_0_0 f3_0_1 z3_0))
  exact bodyPost_ret (v := .tuple #[.agg #[.int .u32 (0), .int .i64 (0)], .int .i64 (1)]) (by simp [results, Tryz.results115, go_sem, c4_0_0, c4_0_1, f4_0_0, f4_0_1, World.cell?_alloc_lt, z4_0, Nat.lt_succ_of_lt z4_0]) rfl ⟨rfl, (by have hq := hb1.mono (B' := w.heap.size) (by first | omega | (simp; done) | (simp; omega)); have hq2 := Below.trans (B := w.heap.size) (a := w) (by repeat' (first | with_reducible assumption | with_reducible exact Below.refl _ _ | with_reducible apply Below.drew | with_reducible apply below_drewN | with_reducible apply Below.setCell | with_reducible apply Below.alloc | omega | (simp; done) | (simp; omega))) hq; clear hq; have s1 := hq2.size; have hq3 := Below.trans (B := w.heap.size) (a := w) (by repeat' (first | with_reducible assumption | with_reducible exact Below.refl _ _ | with_reducible apply Below.drew | with_reducible apply below_drewN | with_reducible apply Below.setCell | with_reducible apply Below.alloc | omega | (simp; done) | (simp; omega))) (hb2.mono (B' := w.heap.size) (by first | omega | (simp; done) | (simp; omega))); have s2 := hq3.size; clear hq2; have hq4 := Below.trans (B := w.heap.size) (a := w) (by repeat' (first | with_reducible assumption | with_reducible exact Below.refl _ _ | with_reducible apply Below.drew | with_reducible apply below_drewN | with_reducible apply Below.setCell | with_reducible apply Below.alloc | omega | (simp; done) | (simp; omega))) (hb3.mono (B' := w.heap.size) (by first | omega | (simp; done) | (simp; omega))); have s3 := hq4.size; clear hq3; have hq5 := Below.trans (B := w.heap.size) (a := w) (by repeat' (first | with_reducible assumption | with_reducible exact Below.refl _ _ | with_reducible apply Below.drew | with_reducible apply below_drewN | with_reducible apply Below.setCell | with_reducible apply Below.alloc | omega | (simp; done) | (simp; omega))) (hb4.mono (B' := w.heap.size) (by first | omega | (simp; done) | (simp; omega))); have s4 := hq5.size; clear hq4; repeat' (first | with_reducible assumption | with_reducible exact Below.refl _ _ | with_reducible apply Below.drew | with_reducible apply below_drewN | with_reducible apply Below.setCell | with_reducible apply Below.alloc | omega | (simp; done) | (simp; omega)))⟩

set_option maxRecDepth 1000000 in
set_option maxHeartbeats 1000000 in
theorem bread_ok (s : ByteArray) (w : World) (t0 t1 : ByteArray) (f okA okN : Bool) (x y : Int) (E : Hid (Env w))
    (cc : Hid (∀ w, Env w → Calls Tryz.prog 164 #[.string s, .string ⟨#[47]⟩] w fun e w' => e = .returned (.tuple #[.string t0, .string t1, .bool f]) ∧ Below w.heap.size w w'))
    (ca : Hid (∀ w, Env w → Calls Tryz.prog 116 #[.string t0] w fun e w' => e = .returned (.tuple #[.int .u32 x, .bool okA]) ∧ Below w.heap.size w w'))
    (cn : Hid (∀ w, Env w → Calls Tryz.prog 117 #[.string t1] w fun e w' => e = .returned (.tuple #[.int .i64 y, .bool okN]) ∧ Below w.heap.size w w')) (h : f = true) (ha : okA = true) (hn : okN = true) (x0 : 0 ≤ x) (x1 : x < 4294967296) (hr : rt x y = true) :
    Calls Tryz.prog 115 #[.string s] w fun e w' => e = .returned (.tuple #[.agg #[.int .u32 (x), .int .i64 (y)], .int .i64 (0)]) ∧ Below w.heap.size w w' := by
  go_enter Tryz.func115, Tryz.ntmps115
  go_wp2_with (first | (go_at_call 164; refine (cc.out _ (E.out.mono (by repeat' (first | with_reducible assumption | with_reducible exact Below.refl _ _ | with_reducible apply Below.drew | with_reducible apply below_drewN | with_reducible apply Below.setCell | with_reducible apply Below.alloc | omega | (simp; done) | (simp; omega))))).mono ?_; rintro e w1 ⟨rfl, hb1⟩; obtain ⟨hc, hf⟩ := bcell hb1; have c1_0_0 : w1.cell? ⟨w.heap.size, 0, none⟩ = some (.int .u32 0) := (by rw [hc _ _ (by first | omega | (simp; done) | (simp; omega))]; first | assumption | (rw [World.cell?_alloc_past _ _ _ (by omega)]; assumption) | (simp [go_sem, *]; done)); have f1_0_0 : w1.frozen? ⟨w.heap.size, 0, none⟩ = false := (by rw [hf _ _ (by first | omega | (simp; done) | (simp; omega))]; first | assumption | (rw [World.frozen?_alloc_past _ _ _ (by omega)]; assumption) | (simp [go_sem, *]; done)); have c1_0_1 : w1.cell? ⟨w.heap.size, 1, none⟩ = some (.int .i64 0) := (by rw [hc _ _ (by first | omega | (simp; done) | (simp; omega))]; first | assumption | (rw [World.cell?_alloc_past _ _ _ (by omega)]; assumption) | (simp [go_sem, *]; done)); have f1_0_1 : w1.frozen? ⟨w.heap.size, 1, none⟩ = false := (by rw [hf _ _ (by first | omega | (simp; done) | (simp; omega))]; first | assumption | (rw [World.frozen?_alloc_past _ _ _ (by omega)]; assumption) | (simp [go_sem, *]; done)); have z1_0 : w.heap.size < w1.heap.size := (by have := hb1.size; (try simp at this); omega); clear hc hf; have E1 : Hid (Env w1) := (E.out.mono (by repeat' (first | with_reducible assumption | with_reducible exact Below.refl _ _ | with_reducible apply Below.drew | with_reducible apply below_drewN | with_reducible apply Below.setCell | with_reducible apply Below.alloc | omega | (simp; done) | (simp; omega)))).mono hb1) | (go_at_call 116; refine (ca.out _ E1.out).mono ?_; rintro e w2 ⟨rfl, hb2⟩; obtain ⟨hc, hf⟩ := bcell hb2; have c2_0_0 : w2.cell? ⟨w.heap.size, 0, none⟩ = some (.int .u32 0) := (by rw [hc _ _ (by first | omega | (simp; done) | (simp; omega))]; first | assumption | (rw [World.cell?_alloc_past _ _ _ (by omega)]; assumption) | (simp [go_sem, *]; done)); have f2_0_0 : w2.frozen? ⟨w.heap.size, 0, none⟩ = false := (by rw [hf _ _ (by first | omega | (simp; done) | (simp; omega))]; first | assumption | (rw [World.frozen?_alloc_past _ _ _ (by omega)]; assumption) | (simp [go_sem, *]; done)); have c2_0_1 : w2.cell? ⟨w.heap.size, 1, none⟩ = some (.int .i64 0) := (by rw [hc _ _ (by first | omega | (simp; done) | (simp; omega))]; first | assumption | (rw [World.cell?_alloc_past _ _ _ (by omega)]; assumption) | (simp [go_sem, *]; done)); have f2_0_1 : w2.frozen? ⟨w.heap.size, 1, none⟩ = false := (by rw [hf _ _ (by first | omega | (simp; done) | (simp; omega))]; first | assumption | (rw [World.frozen?_alloc_past _ _ _ (by omega)]; assumption) | (simp [go_sem, *]; done)); have z2_0 : w.heap.size < w2.heap.size := (by have := hb2.size; (try simp at this); omega); clear hc hf; have E2 : Hid (Env w2) := E1.out.mono hb2; clear c1_0_0 c1_0_1 f1_0_0 f1_0_1 z1_0) | (go_at_call 117; refine (cn.out _ E2.out).mono ?_; rintro e w3 ⟨rfl, hb3⟩; obtain ⟨hc, hf⟩ := bcell hb3; have c3_0_0 : w3.cell? ⟨w.heap.size, 0, none⟩ = some (.int .u32 0) := (by rw [hc _ _ (by first | omega | (simp; done) | (simp; omega))]; first | assumption | (rw [World.cell?_alloc_past _ _ _ (by omega)]; assumption) | (simp [go_sem, *]; done)); have f3_0_0 : w3.frozen? ⟨w.heap.size, 0, none⟩ = false := (by rw [hf _ _ (by first | omega | (simp; done) | (simp; omega))]; first | assumption | (rw [World.frozen?_alloc_past _ _ _ (by omega)]; assumption) | (simp [go_sem, *]; done)); have c3_0_1 : w3.cell? ⟨w.heap.size, 1, none⟩ = some (.int .i64 0) := (by rw [hc _ _ (by first | omega | (simp; done) | (simp; omega))]; first | assumption | (rw [World.cell?_alloc_past _ _ _ (by omega)]; assumption) | (simp [go_sem, *]; done)); have f3_0_1 : w3.frozen? ⟨w.heap.size, 1, none⟩ = false := (by rw [hf _ _ (by first | omega | (simp; done) | (simp; omega))]; first | assumption | (rw [World.frozen?_alloc_past _ _ _ (by omega)]; assumption) | (simp [go_sem, *]; done)); have z3_0 : w.heap.size < w3.heap.size := (by have := hb3.size; (try simp at this); omega); clear hc hf; clear c2_0_0 c2_0_1 f2_0_0 f2_0_1 z2_0) | (go_at_call 165; refine (right_any _ _ _ x0 x1).mono ?_; rintro e w4 ⟨rfl, hb4⟩; obtain ⟨hc, hf⟩ := bcell hb4; have c4_0_0 : w4.cell? ⟨w.heap.size, 0, none⟩ = some (.int .u32 0) := (by rw [hc _ _ (by first | omega | (simp; done) | (simp; omega))]; first | assumption | (rw [World.cell?_alloc_past _ _ _ (by omega)]; assumption) | (simp [go_sem, *]; done)); have f4_0_0 : w4.frozen? ⟨w.heap.size, 0, none⟩ = false := (by rw [hf _ _ (by first | omega | (simp; done) | (simp; omega))]; first | assumption | (rw [World.frozen?_alloc_past _ _ _ (by omega)]; assumption) | (simp [go_sem, *]; done)); have c4_0_1 : w4.cell? ⟨w.heap.size, 1, none⟩ = some (.int .i64 0) := (by rw [hc _ _ (by first | omega | (simp; done) | (simp; omega))]; first | assumption | (rw [World.cell?_alloc_past _ _ _ (by omega)]; assumption) | (simp [go_sem, *]; done)); have f4_0_1 : w4.frozen? ⟨w.heap.size, 1, none⟩ = false := (by rw [hf _ _ (by first | omega | (simp; done) | (simp; omega))]; first | assumption | (rw [World.frozen?_alloc_past _ _ _ (by omega)]; assumption) | (simp [go_sem, *]; done)); have c4_1_0 : w4.cell? ⟨w3.heap.size, 0, none⟩ = some (.int .u32 x) := (by rw [hc _ _ (by first | omega | (simp; done) | (simp; omega))]; first | assumption | (rw [World.cell?_alloc_past _ _ _ (by omega)]; assumption) | (simp [go_sem, *]; done)); have c4_1_1 : w4.cell? ⟨w3.heap.size, 1, none⟩ = some (.int .i64 y) := (by rw [hc _ _ (by first | omega | (simp; done) | (simp; omega))]; first | assumption | (rw [World.cell?_alloc_past _ _ _ (by omega)]; assumption) | (simp [go_sem, *]; done)); have z4_0 : w.heap.size < w4.heap.size := (by have := hb4.size; (try simp at this); omega); have z4_1 : w3.heap.size < w4.heap.size := (by have := hb4.size; (try simp at this); omega); clear hc hf; clear c3_0_0 c3_0_1 f3_0_0 f3_0_1 z3_0))
  exact bodyPost_ret (v := .tuple #[.agg #[.int .u32 (x), .int .i64 (y)], .int .i64 (0)]) (by simp [results, Tryz.results115, go_sem, c4_0_0, c4_0_1, f4_0_0, f4_0_1, World.cell?_alloc_lt, z4_0, Nat.lt_succ_of_lt z4_0]) rfl ⟨rfl, (by have hq := hb1.mono (B' := w.heap.size) (by first | omega | (simp; done) | (simp; omega)); have hq2 := Below.trans (B := w.heap.size) (a := w) (by repeat' (first | with_reducible assumption | with_reducible exact Below.refl _ _ | with_reducible apply Below.drew | with_reducible apply below_drewN | with_reducible apply Below.setCell | with_reducible apply Below.alloc | omega | (simp; done) | (simp; omega))) hq; clear hq; have s1 := hq2.size; have hq3 := Below.trans (B := w.heap.size) (a := w) (by repeat' (first | with_reducible assumption | with_reducible exact Below.refl _ _ | with_reducible apply Below.drew | with_reducible apply below_drewN | with_reducible apply Below.setCell | with_reducible apply Below.alloc | omega | (simp; done) | (simp; omega))) (hb2.mono (B' := w.heap.size) (by first | omega | (simp; done) | (simp; omega))); have s2 := hq3.size; clear hq2; have hq4 := Below.trans (B := w.heap.size) (a := w) (by repeat' (first | with_reducible assumption | with_reducible exact Below.refl _ _ | with_reducible apply Below.drew | with_reducible apply below_drewN | with_reducible apply Below.setCell | with_reducible apply Below.alloc | omega | (simp; done) | (simp; omega))) (hb3.mono (B' := w.heap.size) (by first | omega | (simp; done) | (simp; omega))); have s3 := hq4.size; clear hq3; have hq5 := Below.trans (B := w.heap.size) (a := w) (by repeat' (first | with_reducible assumption | with_reducible exact Below.refl _ _ | with_reducible apply Below.drew | with_reducible apply below_drewN | with_reducible apply Below.setCell | with_reducible apply Below.alloc | omega | (simp; done) | (simp; omega))) (hb4.mono (B' := w.heap.size) (by first | omega | (simp; done) | (simp; omega))); have s4 := hq5.size; clear hq4; repeat' (first | with_reducible assumption | with_reducible exact Below.refl _ _ | with_reducible apply Below.drew | with_reducible apply below_drewN | with_reducible apply Below.setCell | with_reducible apply Below.alloc | omega | (simp; done) | (simp; omega)))⟩

theorem bread_any (s : ByteArray) (w : World) (E : Env w) (hs : s.size ≤ 2097152) :
    Calls Tryz.prog 115 #[.string s] w fun e w' => e = .returned (.tuple #[.agg #[.int .u32 (rdB s.data.toList), .int .i64 (rdN s.data.toList)], .int .i64 (rdE s.data.toList)]) ∧ Below w.heap.size w w' := by
  have hl := Lib.size_eq s
  have ca : ∀ l : List UInt8, l.length ≤ s.size → ∀ w, Env w → Calls Tryz.prog 116 #[.string (bs l)] w fun e w' => e = .returned (.tuple #[.int .u32 (aB l), .bool (aOk l)]) ∧ Below w.heap.size w w' := fun l h w E => by
    have := ra_any (bs l) w E (by rw [bs_size]; omega)
    rw [bs_data] at this; exact this
  have cn : ∀ l : List UInt8, l.length ≤ s.size → ∀ w, Env w → Calls Tryz.prog 117 #[.string (bs l)] w fun e w' => e = .returned (.tuple #[.int .i64 (nB l 32), .bool (nOk l 32)]) ∧ Below w.heap.size w w' := fun l h w E => by
    have := rbits_any (bs l) w E (by rw [bs_size]; omega)
    rw [bs_data] at this; exact this
  rcases first_cut 47 s.data.toList with h | ⟨a, b, hab, h⟩
  · obtain ⟨q1, q2, q3⟩ := rd_none (rd_noslash h)
    rw [q1, q2, q3]
    exact bread_none s w _ _ _ _ _ _ _ E (fun w E => cut_any s w E hs _ _ _ (cut_no 47 _ h)) (ca _ (by omega)) (cn _ (by simp)) rfl
  · have hrd := rd_cut (b := b) h
    rw [← hab] at hrd
    have la : a.length ≤ s.size := by rw [hl, hab]; simp
    have lb : b.length ≤ s.size := by rw [hl, hab]; simp; omega
    have cc : ∀ w, Env w → Calls Tryz.prog 164 #[.string s, .string ⟨#[47]⟩] w fun e w' => e = .returned (.tuple #[.string (bs a), .string (bs b), .bool true]) ∧ Below w.heap.size w w' := fun w E => cut_any s w E hs _ _ _ (by rw [hab]; exact cut_at 47 a b h)
    have ca := ca a la
    have cn := cn b lb
    rcases ea : addr a with _ | x
    · rw [ea] at hrd
      obtain ⟨q1, q2, q3⟩ := rd_none hrd
      rw [q1, q2, q3]
      exact bread_addr s w _ _ _ _ _ _ _ E cc ca cn rfl (a_none ea).2
    · have hx := addr_lt ea
      obtain ⟨r1, r2⟩ := a_some ea
      rw [r1, r2] at ca
      rcases en : num b 32 with _ | n
      · rw [ea, en] at hrd
        obtain ⟨q1, q2, q3⟩ := rd_none hrd
        rw [q1, q2, q3]
        exact bread_num s w _ _ _ _ _ _ _ E cc ca cn rfl rfl (n_none en).2
      · rw [ea, en] at hrd
        obtain ⟨r3, r4⟩ := n_some en
        rw [r3, r4] at cn
        rcases hr : rt (x : Int) (n : Int) with _ | _
        · simp only [hr] at hrd
          obtain ⟨q1, q2, q3⟩ := rd_none hrd
          rw [q1, q2, q3]
          exact bread_not s w _ _ _ _ _ _ _ E cc ca cn rfl rfl rfl (by omega) (by omega) hr
        · simp only [hr] at hrd
          obtain ⟨q1, q2, q3⟩ := rd_some hrd
          rw [q1, q2, q3]
          exact bread_ok s w _ _ _ _ _ _ _ E cc ca cn rfl rfl rfl (by omega) (by omega) hr

end Go.Proofs.YtlikdnmikdldfaaGreatDoor
namespace Go.Proofs.YtlikdnmikdldfaaGreatDoor
open Go.ChangeShapes Go.WideShapes Go.ChangeAt Go.RowKit
set_option linter.unusedVariables false
set_option linter.unusedSimpArgs false

theorem split_all (c : UInt8) (n : Nat) : ∀ l : List UInt8, l.length ≤ n → Lib.splitK [c] 0 (Lib.count l [c]) l = parts c l := by
  induction n with
  | zero =>
    intro l hl
    obtain rfl : l = [] := List.eq_nil_of_length_eq_zero (by omega)
    rw [Lib.count_miss (index_no c [] (by simp)), parts_none c [] (by simp)]; rfl
  | succ n ih =>
    intro l hl
    rcases first_cut c l with h | ⟨a, b, rfl, h⟩
    · rw [Lib.count_miss (index_no c l h), parts_none c l h]; rfl
    · have hc := Lib.count_hit (s := a ++ c :: b) (sub := [c]) (by simp) (index_at c a b h)
      have hd : (a ++ c :: b).drop (a.length + [c].length) = b := by simp [List.drop_append]
      rw [hd] at hc
      rw [hc, Nat.add_comm, split_at c _ a b h, ih b (by simp at hl; omega), parts_cons c a b h]
theorem split_any (s : ByteArray) (w : World) (E : Env w) (hs : s.size ≤ 2097152) :
    Calls Tryz.prog 49 #[.string s, .string ⟨#[32]⟩] w fun e w' => ∃ L : List ByteArray, L.map (fun x => x.data.toList) = parts 32 s.data.toList ∧ e = .returned (.slice (some ⟨w.heap.size, 0, none⟩) L.length L.length) ∧ w' = w.alloc (.cells (L.map Value.string).toArray 9) := by
  obtain ⟨m, hm⟩ := E.mx
  refine (Tryz.strings_Split s ⟨#[32]⟩ m w (by omega) hm (by decide)).mono ?_
  rintro e w' ⟨rfl, rfl⟩
  have hlen := Lib.splitB_all ⟨#[32]⟩ (by decide) 0 _ s rfl
  have hd := Lib.splitB_data ⟨#[32]⟩ 0 (Lib.countB s ⟨#[32]⟩) s
  have ha := split_all 32 _ s.data.toList (Nat.le_refl _)
  exact ⟨Lib.splitB ⟨#[32]⟩ 0 (Lib.countB s ⟨#[32]⟩) s, hd.trans ha, by rw [hlen], rfl⟩
end Go.Proofs.YtlikdnmikdldfaaGreatDoor
namespace Go.Proofs.YtlikdnmikdldfaaGreatDoor
open Go.RowKit
set_option linter.unusedVariables false

/-- pieces, with the byte between them -/
def glue (c : UInt8) : List (List UInt8) → List UInt8
  | [] => []
  | [p] => p
  | p :: r => p ++ c :: glue c r
theorem glue_parts (c : UInt8) (n : Nat) : ∀ l : List UInt8, l.length ≤ n → glue c (parts c l) = l := by
  induction n with
  | zero =>
    intro l hl
    obtain rfl : l = [] := List.eq_nil_of_length_eq_zero (by omega)
    rfl
  | succ n ih =>
    intro l hl
    rcases first_cut c l with h | ⟨a, b, rfl, h⟩
    · rw [parts_none c l h]; rfl
    · rw [parts_cons c a b h]
      have hb := ih b (by simp at hl; omega)
      have hp := parts_pos c b
      rcases e : parts c b with _ | ⟨q, r⟩
      · rw [e] at hp; simp at hp
      · rw [e] at hb
        show a ++ c :: glue c (q :: r) = _
        rw [hb]
theorem four_text {p0 p1 p2 p3 : List UInt8} {a : Nat} (h : four p0 p1 p2 p3 = some a) : glue 46 [p0, p1, p2, p3] = dot a := by
  unfold four at h
  split at h
  · rename_i a0 a1 a2 a3 e0 e1 e2 e3
    obtain ⟨h0, rfl⟩ := num_some.1 e0
    obtain ⟨h1, rfl⟩ := num_some.1 e1
    obtain ⟨h2, rfl⟩ := num_some.1 e2
    obtain ⟨h3, rfl⟩ := num_some.1 e3
    simp at h
    subst h
    unfold dot
    rw [show (((a0 * 256 + a1) * 256 + a2) * 256 + a3) / 16777216 = a0 by omega, show (((a0 * 256 + a1) * 256 + a2) * 256 + a3) / 65536 % 256 = a1 by omega, show (((a0 * 256 + a1) * 256 + a2) * 256 + a3) / 256 % 256 = a2 by omega, show (((a0 * 256 + a1) * 256 + a2) * 256 + a3) % 256 = a3 by omega]
    rfl
  · cases h
theorem addr_text {l : List UInt8} {a : Nat} (h : addr l = some a) : l = dot a := by
  have hg := glue_parts 46 l.length l (Nat.le_refl _)
  unfold addr at h
  split at h
  · rename_i p0 p1 p2 p3 e
    rw [e] at hg
    rw [← hg]; exact four_text h
  · cases h
/-- a text that is a block at all is the text of it -/
theorem rd_text {l : List UInt8} {a n : Int} (h : rd l = some (a, n)) : l = wr a.toNat n.toNat ∧ rt a n = true ∧ 0 ≤ a ∧ a < 4294967296 ∧ 0 ≤ n ∧ n ≤ 32 := by
  have hg := glue_parts 47 l.length l (Nat.le_refl _)
  unfold rd at h
  split at h
  · rename_i x y e
    split at h
    · rename_i A N ea en
      split at h
      · rename_i hr
        simp at h
        obtain ⟨rfl, rfl⟩ := h
        have h1 := addr_text ea
        have h2 := addr_lt ea
        obtain ⟨h3, h4⟩ := num_some.1 en
        rw [e] at hg
        refine ⟨?_, hr, by omega, by omega, by omega, by omega⟩
        rw [← hg]
        show x ++ 47 :: y = _
        rw [h1, ← h4]
        simp [wr]
      · cases h
    · cases h
  · cases h
theorem dot_no (c : UInt8) (hc : c.toNat < 46 ∨ c.toNat = 47 ∨ 57 < c.toNat) (a : Nat) : c ∉ dot a := by
  have h := fun n => dec_no c (by omega) n
  have h46 : c ≠ 46 := fun e => by rw [e] at hc; revert hc; decide
  unfold dot
  simp only [List.mem_append, List.mem_cons]
  intro e
  rcases e with e | e | e | e | e | e | e
  · exact h _ e
  · exact h46 e
  · exact h _ e
  · exact h46 e
  · exact h _ e
  · exact h46 e
  · exact h _ e
theorem num_dec (n m : Nat) (h : n ≤ m) : num (dec n) m = some n := num_some.2 ⟨h, rfl⟩
theorem addr_dot (a : Nat) (h : a < 4294967296) : addr (dot a) = some a := by
  have hd := fun n => dec_no 46 (by decide) n
  have hp : parts 46 (dot a) = [dec (a / 16777216), dec (a / 65536 % 256), dec (a / 256 % 256), dec (a % 256)] := by
    unfold dot
    rw [parts_cons 46 _ _ (hd _), parts_cons 46 _ _ (hd _), parts_cons 46 _ _ (hd _), parts_none 46 _ (hd _)]
  unfold addr
  rw [hp]
  simp only [four]
  rw [num_dec _ _ (by omega), num_dec _ _ (by omega), num_dec _ _ (by omega), num_dec _ _ (by omega)]
  simp only [Option.some.injEq]
  omega
/-- a right block comes back out of its text -/
theorem rd_wr {a n : Int} (h0 : 0 ≤ a) (h1 : a < 4294967296) (hr : rt a n = true) : rd (wr a.toNat n.toNat) = some (a, n) := by
  obtain ⟨n0, n1, _⟩ := rt_iff.1 hr
  have hc := rd_cut (b := dec n.toNat) (dot_no 47 (by decide) a.toNat)
  unfold wr
  rw [hc, addr_dot _ (by omega), num_dec _ _ (by omega)]
  simp only []
  rw [show ((a.toNat : Nat) : Int) = a by omega, show ((n.toNat : Nat) : Int) = n by omega, if_pos hr]
end Go.Proofs.YtlikdnmikdldfaaGreatDoor
namespace Go.Proofs.YtlikdnmikdldfaaGreatDoor
open Go.RowKit
set_option linter.unusedVariables false
set_option linter.unusedSimpArgs false

def verb (k : Nat) : List UInt8 := verbT.getD k []
theorem verb_fin : ∀ k : Fin 11, fi (fun v => v == verb k) verbT = ((k : Nat) : Int) := by decide +kernel
theorem verb_fi (k : Nat) (h : k < 11) : fi (fun v => v == verb k) verbT = (k : Int) := verb_fin ⟨k, h⟩
theorem verb_nof : ∀ k : Fin 11, (32 : UInt8) ∉ verb k ∧ (verb k).length ≤ 5 := by decide +kernel
theorem verb_no (k : Nat) (h : k < 11) : (32 : UInt8) ∉ verb k ∧ (verb k).length ≤ 5 := verb_nof ⟨k, h⟩
theorem name_all {l : List UInt8} (h : isName l = true) : 0 < l.length ∧ l.length ≤ 8 ∧ ∀ c, c ∈ l → (97 ≤ c.toNat ∧ c.toNat ≤ 122) ∨ (48 ≤ c.toNat ∧ c.toNat ≤ 57) := by
  unfold isName at h
  simp only [Bool.and_eq_true, decide_eq_true_eq, List.all_eq_true, Bool.or_eq_true] at h
  exact ⟨h.1.1, h.1.2, h.2⟩
theorem name_no {l : List UInt8} (h : isName l = true) : (32 : UInt8) ∉ l := fun q => by
  have := (name_all h).2.2 32 q
  revert this; decide
theorem dec_lenB {n : Nat} (h : n < 1000) : 1 ≤ (dec n).length ∧ (dec n).length ≤ 3 := by
  rw [dec_3 n h]; unfold dec3
  split
  · simp
  · split <;> simp
theorem dot_lenB (a : Nat) (h : a < 4294967296) : 7 ≤ (dot a).length ∧ (dot a).length ≤ 15 := by
  have h0 := dec_lenB (n := a / 16777216) (by omega)
  have h1 := dec_lenB (n := a / 65536 % 256) (by omega)
  have h2 := dec_lenB (n := a / 256 % 256) (by omega)
  have h3 := dec_lenB (n := a % 256) (by omega)
  unfold dot
  simp only [List.length_append, List.length_cons]
  omega
theorem dec_len2 {n : Nat} (h : n < 100) : (dec n).length ≤ 2 := by
  rw [dec_3 n (by omega)]; unfold dec3
  split
  · simp
  · simp
theorem wr_len (a n : Nat) (h : a < 4294967296) (hn : n ≤ 32) : (wr a n).length ≤ 18 := by
  have h0 := dot_lenB a h
  have h1 := dec_len2 (n := n) (by omega)
  unfold wr
  simp only [List.length_append, List.length_cons]
  omega
theorem wr_no (c : UInt8) (hc : c.toNat < 46 ∨ 57 < c.toNat) (a n : Nat) : c ∉ wr a n := by
  unfold wr
  intro q
  rcases List.mem_append.1 q with q | q
  · exact dot_no c (by omega) a q
  · rcases List.mem_cons.1 q with q | q
    · rw [q] at hc; revert hc; decide
    · exact dec_no c (by omega) n q

theorem rdLine_of {s : List UInt8} {k : Nat} {ws : List (List UInt8)} (hs : s.length ≤ 100) (hk : k < 11) (hp : parts 32 s = verb k :: ws) : rdLine s = rdParts (ln0 k) (form k) ws := by
  unfold rdLine
  rw [if_pos hs, hp]
  simp only []
  rw [verb_fi k hk, if_neg (by omega), Int.toNat_natCast]
def lnB (k : Nat) (t o : List UInt8) (a n : Int) : Ln := ⟨k, ⟨t.toArray⟩, ⟨o.toArray⟩, a, n, 0, 0⟩
/-- NETS, USED -/
theorem read_ask {k : Nat} {a n : Int} (hk : k = 9 ∨ k = 10) (h0 : 0 ≤ a) (h1 : a < 4294967296) (hr : rt a n = true) :
    rdLine (verb k ++ 32 :: wr a.toNat n.toNat) = some (lnB k [] [] a n) := by
  obtain ⟨n0, n1, _⟩ := rt_iff.1 hr
  obtain ⟨v1, v2⟩ := verb_no k (by omega)
  have hl := wr_len a.toNat n.toNat (by omega) (by omega)
  have hp : parts 32 (verb k ++ 32 :: wr a.toNat n.toNat) = [verb k, wr a.toNat n.toNat] := by
    rw [parts_cons 32 _ _ v1, parts_none 32 _ (wr_no 32 (by decide) a.toNat n.toNat)]
  rw [rdLine_of (by simp only [List.length_append, List.length_cons]; omega) (by omega) hp]
  have hf : form k = [3] := by rcases hk with rfl | rfl <;> rfl
  rw [hf]
  simp only [rdParts, rdPart, rd_wr h0 h1 hr, if_pos, if_true, Nat.reduceEqDiff, if_false, ite_true]
  rfl
/-- POOLS -/
theorem read_pools : rdLine (verb 8) = some (ln0 8) := by
  obtain ⟨v1, v2⟩ := verb_no 8 (by omega)
  rw [rdLine_of (by omega) (by omega) (parts_none 32 _ v1)]
  rfl

/-! ### what an answer tells -/
theorem parts_told : ∀ (w : List UInt8) (l : List (List UInt8)), (32 : UInt8) ∉ w → (∀ x, x ∈ l → (32 : UInt8) ∉ x) → parts 32 (w ++ l.flatMap (fun t => 32 :: t)) = w :: l
  | w, [], hw, _ => by simp [parts_none 32 w hw]
  | w, x :: r, hw, h => by
    rw [List.flatMap_cons, List.cons_append, parts_cons 32 w _ hw, parts_told x r (h x (by simp)) (fun y hy => h y (by simp [hy]))]
theorem hText_no {h : Hd} (ho : isName h.o.data.toList = true) : (32 : UInt8) ∉ hText h := by
  unfold hText bText
  intro q
  rcases List.mem_append.1 q with q | q
  · exact wr_no 32 (by decide) _ _ q
  · rcases List.mem_cons.1 q with q | q
    · revert q; decide
    · exact name_no ho q
theorem lText_no {h : Ls} (ho : isName h.o.data.toList = true) : (32 : UInt8) ∉ lText h := by
  unfold lText
  intro q
  rcases List.mem_append.1 q with q | q
  · exact dot_no 32 (by decide) _ q
  · rcases List.mem_cons.1 q with q | q
    · revert q; decide
    · exact name_no ho q
end Go.Proofs.YtlikdnmikdldfaaGreatDoor
