/-
  The contracts of the document's readers and writers of texts (package acreref).
-/
import Derived.Test.YtjnhhnbgjjkkjaaDoorWalkA
import Derived.Test.YtjnhhnbgjjkkjaaDoorTextPlain
import Derived.PlainAid
namespace Go.Proofs.YtjnhhnbgjjkkjaaDoor
open Go.ChangeShapes Go.WideShapes Go.ChangeAt Go.RowKit
set_option linter.unusedVariables false
set_option linter.unusedSimpArgs false

/-- a text as the model holds it -/
def bs (l : List UInt8) : ByteArray := ⟨l.toArray⟩

def one (b : Int) : ByteArray := ByteArray.empty.push (UInt8.ofNat b.toNat)
theorem one_bs (b : Int) : one b = bs [UInt8.ofNat b.toNat] := rfl
/-- 'string([]byte{b})' -/
theorem conv_one (b : Int) (w : World) :
    (convert 71 9 (.slice (some ⟨w.heap.size, 0, none⟩) 1 1)).run Tryd.prog (w.alloc (.cells #[.int .u8 b] 5)) = .ok (.string (one b)) (w.alloc (.cells #[.int .u8 b] 5)) := by
  rw [run_convert_bytes_string _ _ _ 5 _ _ _ Tryd.underlying71 Tryd.underlying5 Tryd.underlying9]
  have hl := run_loadCells_list (P := Tryd.prog) (w.alloc (.cells #[.int .u8 b] 5)) ⟨w.heap.size, 0, none⟩ [.int .u8 b] (fun j v hj => by
    match j, hj with
    | 0, hj => simp at hj; subst hj; simp [Addr.add]
    | j + 1, hj => simp at hj)
  exact run_bytesToString _ _ 1 1 [b] (by simpa using hl)

theorem ret_str {a b : ByteArray} (h : a = b) : Ending.returned (.string a) = .returned (.string b) := by rw [h]
theorem bs_size (l : List UInt8) : (bs l).size = l.length := by simp [bs, ByteArray.size]
theorem one_size (b : Int) : (one b).size = 1 := by rw [one_bs, bs_size]; rfl
theorem cat_ok (a b : ByteArray) (h : a.size + b.size ≤ 9223372036854775807) : ¬ 9223372036854775807 < a.size + b.size := by omega
theorem dec_len (n : Nat) : (dec n).length ≤ n + 1 := by
  induction n using Nat.strongRecOn with
  | ind n ih =>
    unfold dec
    rw [Lib.decDigits]
    split
    · simp
    · have := ih (n / 10) (by omega)
      unfold dec at this
      simp; omega
theorem bs_append (a b : List UInt8) : bs a ++ bs b = bs (a ++ b) := by
  apply ByteArray.ext; simp [bs]
theorem bs_data (l : List UInt8) : (bs l).data.toList = l := by simp [bs]
theorem bs_of (s : ByteArray) : bs s.data.toList = s := by cases s; simp [bs]
theorem bs_inj {a b : List UInt8} (h : bs a = bs b) : a = b := by rw [← bs_data a, ← bs_data b, h]
theorem dec_small (x : Int) (h0 : 0 ≤ x) (h1 : x < 10) : one (48 + x % 10) = bs (dec x.toNat) := by
  rw [one_bs, dec, Lib.decDigits_one (by omega), show (48 + x % 10).toNat = 48 + x.toNat by omega]
theorem dec_big (x : Int) (h0 : 0 ≤ x) (h1 : ¬ x < 10) : bs (dec (x / 10).toNat) ++ one (48 + x % 10) = bs (dec x.toNat) := by
  rw [one_bs, bs_append]
  congr 1
  unfold dec
  have e : Lib.decDigits x.toNat = Lib.decDigits (x.toNat / 10) ++ [UInt8.ofNat (48 + x.toNat % 10)] := by rw [Lib.decDigits, dif_neg (by omega)]
  rw [e, show (x / 10).toNat = x.toNat / 10 by omega, show (48 + x % 10).toNat = 48 + x.toNat % 10 by omega]

set_option maxHeartbeats 400000 in
theorem rdigits_ind (k : Nat) : ∀ (x : Int) (w : World), 0 ≤ x → x < k → x ≤ 4294967296 →
    Calls Tryd.prog 50 #[.int .i64 x] w fun e w' => e = .returned (.string (bs (dec x.toNat))) ∧ Below w.heap.size w w' := by
  induction k with
  | zero => intro x w h0 h; omega
  | succ k ih =>
    intro x w h0 h hk
    obtain ⟨IH, H⟩ : Hid (∀ (x : Int) (w : World), 0 ≤ x → x < k → x ≤ 4294967296 →
    Calls Tryd.prog 50 #[.int .i64 x] w fun e w' => e = .returned (.string (bs (dec x.toNat))) ∧ Below w.heap.size w w') ∧ Hid (x < (k + 1 : Nat)) := ⟨ih, h⟩
    clear h ih
    have hcv := conv_one (48 + x % 10)
    by_cases h1 : x < 10
    · go_enter Tryd.func50, Tryd.ntmps50
      go_wp2
      go_ret
      exact ⟨ret_str (dec_small x h0 h1), (by repeat' (first | with_reducible assumption | with_reducible exact Below.refl _ _ | with_reducible apply Below.drew | with_reducible apply below_drewN | with_reducible apply Below.setCell | with_reducible apply Below.alloc | omega | (simp; done) | (simp; omega)))⟩
    · have hsz := cat_ok (bs (dec (x / 10).toNat)) (one (48 + x % 10)) (by rw [bs_size, one_size]; have := dec_len (x / 10).toNat; omega)
      go_enter Tryd.func50, Tryd.ntmps50
      go_wp2_with (go_at_call 50; refine (IH.out _ _ (by omega) (by have := H.out; omega) (by omega)).mono ?_; rintro e w1 ⟨rfl, hb1⟩)
      go_ret
      exact ⟨ret_str (dec_big x h0 (by omega)), (by have hq := hb1.mono (B' := w.heap.size) (by first | omega | (simp; done) | (simp; omega)); have hq2 := Below.trans (B := w.heap.size) (a := w) (by repeat' (first | with_reducible assumption | with_reducible exact Below.refl _ _ | with_reducible apply Below.drew | with_reducible apply below_drewN | with_reducible apply Below.setCell | with_reducible apply Below.alloc | omega | (simp; done) | (simp; omega))) hq; clear hq; repeat' (first | with_reducible assumption | with_reducible exact Below.refl _ _ | with_reducible apply Below.drew | with_reducible apply below_drewN | with_reducible apply Below.setCell | with_reducible apply Below.alloc | omega | (simp; done) | (simp; omega)))⟩
theorem rdigits_any (x : Int) (w : World) (h0 : 0 ≤ x) (h1 : x ≤ 4294967296) :
    Calls Tryd.prog 50 #[.int .i64 x] w fun e w' => e = .returned (.string (bs (dec x.toNat))) ∧ Below w.heap.size w w' :=
  rdigits_ind (x.toNat + 1) x w h0 (by omega) h1

/-- Number: the number up to most that is written so; -1: none is -/
def numI (l : List UInt8) (most : Nat) : Int := match num l most with | some n => (n : Int) | none => -1
theorem bs_toList (l : List UInt8) : (bs l).toList = l := by rw [Lib.toList_data, bs_data]
theorem hit {k m : Int} {s : ByteArray} (hk0 : 0 ≤ k) (hk1 : k ≤ m) (h : ((bs (dec k.toNat)).toList == s.toList) = true) : k = numI s.data.toList m.toNat := by
  rw [bs_toList, Lib.toList_data, beq_iff_eq] at h
  unfold numI
  rw [num_some.2 ⟨show k.toNat ≤ m.toNat by omega, h⟩]
  show k = (k.toNat : Int)
  omega
theorem miss {k : Int} {s : ByteArray} (hk0 : 0 ≤ k) (hall : ∀ n : Nat, (n : Int) < k → dec n ≠ s.data.toList) (h : ((bs (dec k.toNat)).toList == s.toList) = false) : ∀ n : Nat, (n : Int) < k + 1 → dec n ≠ s.data.toList := by
  rw [bs_toList, Lib.toList_data, beq_eq_false_iff_ne] at h
  intro n hn
  by_cases e : (n : Int) < k
  · exact hall n e
  · have : n = k.toNat := by omega
    rw [this]; exact h
theorem ended {k m : Int} {s : ByteArray} (hm : 0 ≤ m) (hk : m < k) (hall : ∀ n : Nat, (n : Int) < k → dec n ≠ s.data.toList) : (-1 : Int) = numI s.data.toList m.toNat := by
  unfold numI
  rw [num_none.2 fun n hn => hall n (by omega)]
set_option maxHeartbeats 400000 in
theorem rnumber_any (s : ByteArray) (m : Int) (w : World) (h0 : 0 ≤ m) (h1 : m ≤ 255) :
    Calls Tryd.prog 36 #[.string s, .int .i64 m] w fun e w' => e = .returned (.int .i64 (numI s.data.toList m.toNat)) ∧ Below w.heap.size w w' := by
  go_enter Tryd.func36, Tryd.ntmps36
  go_wp2
  go_loopw [5] (fun i wr => ∃ k : Int, 0 ≤ k ∧ k ≤ m + 1 ∧ i = .int .i64 k ∧ Below w.heap.size w wr ∧ Hid (∀ n : Nat, (n : Int) < k → dec n ≠ s.data.toList)) (fun i _ => (m + 1 - intOf i).toNat)
  case atStart => exact ⟨0, by omega, by omega, rfl, Below.refl _ _, fun n hn => by omega⟩
  case round =>
    obtain ⟨k, hk0, hk1, rfl, hb, hall⟩ := hrel
    by_cases hlt : k ≤ m
    · go_wp2_with (go_at_call 50; refine (rdigits_any _ _ hk0 (by omega)).mono ?_; rintro e w1 ⟨rfl, hb1⟩)
      · go_ret
        exact ⟨ret_int (hit hk0 hlt ‹_›), hb.trans (hb1.mono hb.size)⟩
      · go_roundw
        case rel => exact ⟨k + 1, by omega, by omega, rfl, hb.trans (hb1.mono hb.size), miss hk0 hall.out ‹_›⟩
        case measure => simp [intOf]; omega
    · go_wp2
      go_ret
      exact ⟨ret_int (ended h0 (by omega) hall.out), hb⟩
end Go.Proofs.YtjnhhnbgjjkkjaaDoor
