/-
  Disks: what the act Crash leaves.
-/
import Derived.Test.YtjnhhnbgjjkkjaaDoorDiskM
namespace Go.Proofs.YtjnhhnbgjjkkjaaDoor
open Go.ChangeShapes Go.WideShapes Go.ChangeAt Go.RowKit
set_option linter.unusedVariables false
set_option linter.unusedSimpArgs false

def crA (A : PD) (L : List Int) : PD := ⟨crD L A.safe A.loose A.loose.length, crD L A.safe A.loose A.loose.length, [], -1, false⟩
def crB (B : RD) (L : List Int) : RD := ⟨crR L B.safe B.puts B.puts.length, (crR L B.safe B.puts B.puts.length).length, -1, false⟩
/-- behind the program's Crash -/
def CrD (ρ : Nat → Nat) (S : List Ent) (j : Nat) (L : List Int) (wp wl w2 : World) : Prop :=
  ∃ ρ1, DAt ρ1 (S.length + 1) w2 wl.heap.size (crA (entAt S j).A L) ∧ Stp (fun _ => False) (ru ρ wp.heap.size 2) ρ1 wl w2 ∧ ∀ b, ¬ RRk (S.length + 1) (ρ1 b)
/-- behind the document's Crash -/
def CrE (ρ : Nat → Nat) (S : List Ent) (j : Nat) (L : List Int) (wp wl w2 w3 : World) : Prop :=
  ∃ ρ2, DAt ρ2 (S.length + 1) w3 wl.heap.size (crA (entAt S j).A L) ∧ RAt ρ2 (S.length + 1) w3 w2.heap.size (crB (entAt S j).B L) ∧ Stp (fun _ => False) (ru ρ wp.heap.size 2) ρ2 wl w3
theorem Stp.nobody {ρ ρ' : Nat → Nat} {w w' : World} (h : Stp (fun _ => False) ρ ρ' w w') : Below w.heap.size w w' := h.toBelow (Nat.le_refl _) (fun _ _ h => h)
theorem cr_lent {ρ : Nat → Nat} {w wp wl : World} {g : Nat} {vl v : Value} {n : Nat} {S : List Ent} {L : List Int} (h : Sh ρ w g vl n S) (hI : IntsZ ρ w v L) (hb : Below w.heap.size w wp) (hB : Blk wl wp.heap.size (lentRow L) 3) (hl : Below wp.heap.size wp wl) :
    Sh (ru ρ wp.heap.size 2) wl g vl n S ∧ Stp (fun _ => False) ρ (ru ρ wp.heap.size 2) w wl ∧ IntsZ (ru ρ wp.heap.size 2) wl v L := by
  have hbl : Below w.heap.size w wl := hb.trans (hl.mono hb.size)
  have hz := hb.size
  have hlt := hB.lt
  have T : Stp (fun _ => False) ρ (ru ρ wp.heap.size 2) w wl :=
    ⟨hbl.os, hbl.tape, hbl.output, hbl.size, fun b hb => ru_ne _ _ _ (by omega), fun b hb _ => hbl.block b hb, fun b hb => by rw [ru_ne _ _ _ (by omega)]; exact h.clean b (by omega)⟩
  refine ⟨h.keep T (fun _ h => h.elim) (fun b => ?_) (Nat.le_refl _), T, hI.step T (fun h => h)⟩
  by_cases e : b = wp.heap.size
  · rw [e, ru_at]; omega
  · rw [ru_ne _ _ _ e]; exact h.bound b
theorem lent_ints {w : World} {g : Nat} {L : List Int} (hB : Blk w g (lentRow L) 3) (hm : L.length ≤ 2097152) : IntsAt w (.slice (some ⟨g, 0, none⟩) L.length (L.length + 1)) L := by
  refine ⟨_, _, rfl, by omega, by unfold maxLen; omega, fun _ => ⟨g, 0, rfl, hB.lt, fun j hj => ?_⟩⟩
  rw [hB.cell, Nat.zero_add]
  unfold lentRow
  rw [List.getElem?_toArray, List.getElem?_append_left (by rw [ivs_length]; exact hj)]
  exact ivs_at L j hj
theorem cr_d {ρ : Nat → Nat} {w wp wl : World} {g : Nat} {vl v : Value} {n j : Nat} {S : List Ent} {L : List Int} (h : Sh ρ w g vl n S) (hI : IntsZ ρ w v L) (hj : j < S.length) (hb : Below w.heap.size w wp) (hB : Blk wl wp.heap.size (lentRow L) 3) (hl : Below wp.heap.size wp wl) (hLm : L.length ≤ 2097152) (hn : n ≤ 2097152) :
    Calls Tryd.prog 31 #[.pointer (some ⟨(entAt S j).d, 0, none⟩), .slice (some ⟨wp.heap.size, 0, none⟩) L.length (L.length + 1)] wl fun e w' => e = .returned (.pointer (some ⟨wl.heap.size, 0, none⟩)) ∧ Below wl.heap.size wl w' ∧ CrD ρ S j L wp wl w' := by
  obtain ⟨k, T, _⟩ := cr_lent h hI hb hB hl
  obtain ⟨e1, _, e3⟩ := k.ents j hj
  have hw : Whole64 (entAt S j).A.loose := by rw [e3.loose]; exact fun c hc => e3.wP c (List.mem_of_mem_drop hc)
  have q1 := e3.n1
  refine (crash_d _ (j + 1) (S.length + 1) wl _ _ _ L k.clean e1 (lent_ints hB hLm) hLm e3.wS hw (by omega)).mono (fun e w' hq => ⟨hq.1, hq.2.2.nobody, _, hq.2.1, hq.2.2, fun b hr => ?_⟩)
  unfold RRk at hr
  by_cases e : b = wl.heap.size
  · rw [e, ru_at] at hr; omega
  · rw [ru_ne _ _ _ e] at hr
    have := k.bound b
    omega
theorem cr_r {ρ : Nat → Nat} {w wp wl w2 : World} {g : Nat} {vl v : Value} {n j : Nat} {S : List Ent} {L : List Int} (h : Sh ρ w g vl n S) (hI : IntsZ ρ w v L) (hj : j < S.length) (hb : Below w.heap.size w wp) (hB : Blk wl wp.heap.size (lentRow L) 3) (hl : Below wp.heap.size wp wl) (hd : CrD ρ S j L wp wl w2) (hLm : L.length ≤ 2097152) (hn : n ≤ 2097152) :
    Calls Tryd.prog 32 #[.pointer (some ⟨(entAt S j).r, 0, none⟩), v] w2 fun e w' => e = .returned (.pointer (some ⟨w2.heap.size, 0, none⟩)) ∧ Below w2.heap.size w2 w' ∧ CrE ρ S j L wp wl w2 w' := by
  obtain ⟨k, T, kI⟩ := cr_lent h hI hb hB hl
  obtain ⟨ρ1, d1, S1, hnr⟩ := hd
  obtain ⟨_, e2, e3⟩ := k.ents j hj
  have q3 := e3.n3
  refine (crash_r ρ1 (j + 1) (S.length + 1) w2 _ _ v L S1.clean hnr (e2.step S1 (fun h => h) (fun h => h)) (kI.step S1 (fun h => h)).1 hLm e3.wP (by omega) e3.safe).mono (fun e w' hq => ?_)
  obtain ⟨hq1, ρ2, r2, S2⟩ := hq
  exact ⟨hq1, S2.nobody, ρ2, d1.step S2 (fun h => h) (fun h => h) (fun h => h), r2, S1.trans S2⟩
theorem cr_back {ρ : Nat → Nat} {w wp wl w2 w3 wz w4 : World} {g : Nat} {v : Value} {n j lb lc : Nat} {S : List Ent} {L : List Int} {g3 cap : Nat} (h : Sh ρ w g (.slice (some ⟨lb, 0, none⟩) S.length lc) n S) (hI : IntsZ ρ w v L) (hj : j < S.length) (hb : Below w.heap.size w wp) (hB : Blk wl wp.heap.size (lentRow L) 3) (hl : Below wp.heap.size wp wl) (he : CrE ρ S j L wp wl w2 w3)
    (hz : Below w3.heap.size w3 wz) (ho : w4.ownsRow 0 56 2 (.slice (some ⟨g3, 0, none⟩) (S.length + 1) cap) (S.length + 1) (pcs S ++ [.pointer (some ⟨wl.heap.size, 0, none⟩), .pointer (some ⟨w2.heap.size, 0, none⟩)])) (hg : wz.grownBy w4 (some lb)) (hat : some lb = some g3 ∨ g3 = wz.heap.size) (hlt : g3 < w4.heap.size) (hLm : L.length ≤ 2097152) :
    Calls Tryd.prog 33 #[.slice (some ⟨wp.heap.size, 0, none⟩) (L.length + 1) (L.length + 1), v] (w4.setCell ⟨g, 0, none⟩ (.slice (some ⟨g3, 0, none⟩) (S.length + 1) cap)) fun e w' => e = .returned (.bool true) ∧ ∃ ρ' vl' S', Sh ρ' w' g vl' (n + 1) S' ∧ Stp (fun r => r ≠ 0) ρ ρ' w w' := by
  obtain ⟨k, T, kI⟩ := cr_lent h hI hb hB hl
  obtain ⟨ρ2, d2, r2, S2⟩ := he
  have hs : Sim (n + 1) (crA (entAt S j).A L) (crB (entAt S j).B L) := ((k.ents j hj).2.2.crash L).mono (Nat.le_succ n)
  obtain ⟨ρ3, S', m1, m2, m3⟩ := k.more S2 d2 r2 hs (Nat.le_refl (n + 1)) hz ho hg hat hlt
  have hB3 := hB.step m3 (by rw [ru_at]; omega)
  have hr3 : ρ3 wp.heap.size = 2 := (m3.role _ hB.lt).trans (ru_at _ _ _)
  have kI3 := kI.step m3 (by omega)
  refine (back_any v L wp.heap.size _ kI3.1 (fun hL b e => ?_) hLm hB3).mono (fun e w' hq => ?_)
  · intro eb
    subst eb
    obtain ⟨b', e', _, hr'⟩ := kI3.2 hL
    rw [e] at e'
    simp at e'
    rw [← e'] at hr'
    omega
  · obtain ⟨hq1, cs, hu⟩ := hq
    have S5 : Stp (fun r => r = 2) ρ3 ρ3 _ w' := Stp.upd m1.clean hu hr3
    refine ⟨hq1, ρ3, _, S', m1.keep S5 (fun _ h => h) m1.bound (Nat.le_refl _), ?_⟩
    exact ((T.mono (fun _ h => h.elim)).trans (m3.mono (fun r h => by omega))).trans (S5.mono (fun r h => by omega))
end Go.Proofs.YtjnhhnbgjjkkjaaDoor
