/-
  The law Disks, walked.
-/
import Derived.Test.YtjnhhnbgjjkkjaaDoorDiskX
import Derived.Test.YtjnhhnbgjjkkjaaDoorDiskY
import Derived.Test.YtjnhhnbgjjkkjaaDoorTextCodeC
namespace Go.Proofs.YtjnhhnbgjjkkjaaDoor
open Go.ChangeShapes Go.WideShapes Go.ChangeAt Go.RowKit
set_option linter.unusedVariables false
set_option linter.unusedSimpArgs false

theorem dnum_any (x : Int) (w : World) :
    Calls Tryd.prog 7 #[.int .i64 x] w fun e w' => e = .returned (.int .i64 x) ∧ w' = w := by
  go_enter Tryd.func7, Tryd.ntmps7
  go_wp2
  go_ret
  exact ⟨rfl, rfl⟩
def ten : ByteArray := ⟨#[49, 48, 46, 48, 46, 48, 46, 48, 47, 56]⟩
theorem rd_ten : rd ten.data.toList = some (167772160, 8) := by kernel_rfl

/-- what holds ahead of act k -/
def DLoop (W : World) (g k : Nat) (wr : World) : Prop := Below W.heap.size W wr ∧ ∃ ρ vl S, Sh ρ wr g vl k S ∧ ∀ b, b < W.heap.size → ρ b = 0
theorem dloop_start {W w1 : World} (h : Below W.heap.size W w1) : DLoop W w1.heap.size 0 (w1.alloc (.cells #[.slice none 0 0] 33)) := by
  have hz := h.size
  refine ⟨Below.alloc h hz _, ru (fun _ => 0) w1.heap.size 1, .slice none 0 0, [], ⟨fun b hb => ?_, fun b => ?_, ru_at _ _ _, Blk.new _ _ _, World.ownsRow_nil _ 0 _ 2, fun b e => by simp [Value.ownBlock] at e, fun j hj => by simp at hj, Nat.le_refl _⟩, fun b hb => ru_ne _ _ _ (by omega)⟩
  · have hb' : w1.heap.size + 1 ≤ b := by simpa using hb
    rw [ru_ne _ _ _ (by omega)]
  · unfold ru
    split <;> simp
theorem dloop_next {W wr w' : World} {g k : Nat} (hb : Below W.heap.size W wr) {ρ : Nat → Nat} {vl : Value} {S : List Ent} (h : Sh ρ wr g vl k S) (h0 : ∀ b, b < W.heap.size → ρ b = 0) (hq : ∃ ρ' vl' S', Sh ρ' w' g vl' (k + 1) S' ∧ Stp (fun r => r ≠ 0) ρ ρ' wr w') : DLoop W g (k + 1) w' := by
  obtain ⟨ρ', vl', S', q1, q2⟩ := hq
  exact ⟨hb.trans (q2.toBelow hb.size (fun b hb h => h (h0 b hb))), ρ', vl', S', q1, fun b hb' => (q2.role b (Nat.lt_of_lt_of_le hb' hb.size)).trans (h0 b hb')⟩
theorem dloop_ints {W wr : World} {ρ : Nat → Nat} {v : Value} {L : List Int} (hb : Below W.heap.size W wr) (h0 : ∀ b, b < W.heap.size → ρ b = 0) (h : IntsAt W v L) : IntsZ ρ wr v L := by
  refine ⟨h.mono hb, fun hl => ?_⟩
  obtain ⟨a, c, rfl, _, _, h3⟩ := h
  obtain ⟨b, o, rfl, hlt, _⟩ := h3 hl
  exact ⟨b, rfl, Nat.lt_of_lt_of_le hlt hb.size, h0 b hlt⟩

set_option maxRecDepth 1000000 in
set_option maxHeartbeats 2000000 in
theorem disks_walk (v : Value) (n : Nat) (f : Nat → AV) (w : World) (E0 : Env w) (hS : ScrAt w v n f) (hn : n ≤ 1048576) :
    Calls Tryd.prog 3 #[v] w fun e w' => e = .returned (.bool true) ∧ Below w.heap.size w w' := by
  have E : Hid (Env w) := E0
  clear E0
  obtain ⟨av, cv, rfl, h1, h2, h3⟩ := hS
  unfold maxLen at h2
  have H3 : Hid (0 < n → ∃ b o, av = some ⟨b, o, none⟩ ∧ b < w.heap.size ∧ ∀ i, i < n → ActAt w b (o + i * 5) (f i)) := h3
  have HRd : Hid (∀ wz, Env wz → Calls Tryd.prog 6 #[.string ten] wz fun e w' => e = .returned (.tuple #[.agg #[.int .u32 167772160, .int .i64 8], .int .i64 0]) ∧ Below wz.heap.size wz w') := fun wz hE => by
    have h := aread_any ten wz hE (by decide)
    unfold rdB rdN rdE at h
    rw [rd_ten] at h
    exact h
  unfold ten at HRd
  clear h3
  go_enter Tryd.func3, Tryd.ntmps3
  go_wp2_with (first
    | (go_at_call 6; refine (HRd.out _ E.out).mono ?_; rintro e w1 ⟨rfl, hb1⟩; have HB1 : Hid (Below w.heap.size w w1) := hb1; clear hb1)
    | (go_at_call 7; refine (dnum_any _ _).mono ?_; rintro e w' ⟨rfl, rfl⟩))
  have H0 : Hid (DLoop w (w1.heap.size + 1) 0 ((w1.alloc (.cells #[.int .u32 167772160, .int .i64 8] 25)).alloc (.cells #[.slice none 0 0] 33))) := by
    have h := dloop_start (Below.alloc HB1.out HB1.out.size (.cells #[.int .u32 167772160, .int .i64 8] 25))
    rw [show (w1.alloc (.cells #[.int .u32 167772160, .int .i64 8] 25)).heap.size = w1.heap.size + 1 by simp] at h
    exact h
  obtain ⟨g, hg⟩ : ∃ g, g = w1.heap.size + 1 := ⟨_, rfl⟩
  rw [← hg] at H0 ⊢
  clear hg HRd
  go_loopw [5, 7] (fun ok i wr => ∃ k : Nat, k ≤ n ∧ i = .int .i64 k ∧ ok = .bool true ∧ DLoop w g k wr) (fun _ i _ => n - (intOf i).toNat)
  case atStart => exact ⟨0, by omega, rfl, rfl, H0.out⟩
  case round =>
    obtain ⟨k, hk, rfl, rfl, hd⟩ := hrel
    obtain ⟨hb, ρ, vl, S, hsh, h0⟩ := hd
    clear H0
    by_cases hlt : k < n
    · obtain ⟨b, o, rfl, hbz, hact⟩ := H3.out (by omega)
      have A := hact k hlt
      obtain ⟨a0, c0, ev, _, _, _⟩ := A.ints
      have k0 := (hb.cell (p := ⟨b, o + k * 5, none⟩) hbz).trans A.c0
      have k1 := (hb.cell (p := ⟨b, o + k * 5 + 1, none⟩) hbz).trans A.c1
      have k2 := (hb.cell (p := ⟨b, o + k * 5 + 2, none⟩) hbz).trans A.c2
      have k3 := (hb.cell (p := ⟨b, o + k * 5 + 3, none⟩) hbz).trans A.c3
      have k4 := (hb.cell (p := ⟨b, o + k * 5 + 4, none⟩) hbz).trans A.c4
      have HA : Hid (Calls Tryd.prog 8 #[.pointer (some ⟨g, 0, none⟩), .agg #[.int .i64 (f k).kind, .int .i64 (f k).on, .int .i64 (f k).a, .string (f k).s, (f k).v]] wr (ActOk ρ wr g k)) :=
        act_any ρ wr g vl k S _ _ _ _ _ _ hsh (dloop_ints hb h0 A.ints) (by omega) A.on1 A.a1 A.s1 A.l1
      have HX : Hid (∀ w', (∃ ρ' vl' S', Sh ρ' w' g vl' (k + 1) S' ∧ Stp (fun r => r ≠ 0) ρ ρ' wr w') → DLoop w g (k + 1) w') := fun w' hq => dloop_next hb hsh h0 hq
      rw [ev] at k4 HA
      generalize (f k).kind = kd at k0 HA
      generalize (f k).on = on at k1 HA
      generalize (f k).a = aa at k2 HA
      generalize (f k).s = ss at k3 HA
      generalize (f k).L.length = ll at k4 HA
      clear A ev hact hsh h0 hb H3
      go_wp2_with (go_at_call 8; refine HA.out.mono ?_; rintro e w2 ⟨rfl, hq⟩; have HQ : Hid (∃ ρ' vl' S', Sh ρ' w2 g vl' (k + 1) S' ∧ Stp (fun r => r ≠ 0) ρ ρ' wr w2) := hq; clear hq)
      go_roundw
      case rel => exact ⟨k + 1, by omega, by go_num, rfl, HX.out _ HQ.out⟩
      case measure => simp [intOf]; omega
    · have HB : Hid (Below w.heap.size w wr) := hb
      clear hsh h0 hb H3
      go_wp2
      go_ret
      exact ⟨rfl, HB.out⟩
end Go.Proofs.YtjnhhnbgjjkkjaaDoor
