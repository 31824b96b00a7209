/-
  Disks: all disks of a shelf.
-/
import Derived.Test.YtjnhhnbgjjkkjaaDoorDiskJ
import Derived.Test.YtjnhhnbgjjkkjaaDoorDiskH
namespace Go.Proofs.YtjnhhnbgjjkkjaaDoor
open Go.ChangeShapes Go.WideShapes Go.ChangeAt Go.RowKit
set_option linter.unusedVariables false
set_option linter.unusedSimpArgs false

/-- roles that nobody asks for are struck -/
def nrm (k : Nat) (ρ ρ' : Nat → Nat) (w : World) : Nat → Nat := fun b => if b < w.heap.size then ρ b else if 4 * k + 1 ≤ ρ' b ∧ ρ' b ≤ 4 * k + 4 then ρ' b else 0
def Rk (k r : Nat) : Prop := 4 * k + 1 ≤ r ∧ r ≤ 4 * k + 4
theorem nrm_keep {R : Nat → Prop} {k : Nat} {ρ ρ' : Nat → Nat} {w w' : World} (s : Stp R ρ ρ' w w') {b r : Nat} (h : ρ' b = r) (hp : r = 0 ∨ Rk k r) : nrm k ρ ρ' w b = r := by
  unfold nrm
  split
  · rename_i hb
    rw [← s.role b hb]; exact h
  · split
    · exact h
    · rename_i hn
      rcases hp with rfl | hp
      · rfl
      · exact absurd (by rw [h]; exact hp) hn
theorem nrm_cases (k : Nat) (ρ ρ' : Nat → Nat) (w : World) (b : Nat) : nrm k ρ ρ' w b = ρ b ∨ nrm k ρ ρ' w b = 0 ∨ Rk k (nrm k ρ ρ' w b) := by
  unfold nrm
  split
  · exact .inl rfl
  · split
    · rename_i h; exact .inr (.inr h)
    · exact .inr (.inl rfl)
theorem Stp.nrm {R : Nat → Prop} {ρ ρ' : Nat → Nat} {w w' : World} (s : Stp R ρ ρ' w w') (k : Nat) : Stp R ρ (nrm k ρ ρ' w) w w' :=
  ⟨s.os, s.tape, s.output, s.size, fun b hb => by simp [Proofs.YtjnhhnbgjjkkjaaDoor.nrm, hb], s.block, fun b hb => nrm_keep s (s.clean b hb) (.inl rfl)⟩
theorem DAt.roles {ρ ρ' : Nat → Nat} {k : Nat} {w : World} {g : Nat} {A : PD} (h : DAt ρ k w g A) (hk : ∀ b r, ρ b = r → (r = 0 ∨ (4 * k + 1 ≤ r ∧ r ≤ 4 * k + 4)) → ρ' b = r) : DAt ρ' k w g A := by
  obtain ⟨hr, vs, vn, vl, hb, hs, hn, hl⟩ := h
  refine ⟨hk g _ hr (.inr ⟨by omega, by omega⟩), vs, vn, vl, hb, ⟨hs.1, fun e => ?_⟩, ⟨hn.1, fun e => ?_⟩, hl.1, fun b e => hk b _ (hl.2 b e) (.inr ⟨by omega, by omega⟩)⟩
  · obtain ⟨b, e1, e2⟩ := hs.2 e
    exact ⟨b, e1, hk b 0 e2 (.inl rfl)⟩
  · obtain ⟨b, e1, e2⟩ := hn.2 e
    exact ⟨b, e1, hk b 0 e2 (.inl rfl)⟩
theorem RAt.roles {ρ ρ' : Nat → Nat} {k : Nat} {w : World} {g : Nat} {B : RD} (h : RAt ρ k w g B) (hk : ∀ b r, ρ b = r → (r = 0 ∨ (4 * k + 1 ≤ r ∧ r ≤ 4 * k + 4)) → ρ' b = r) : RAt ρ' k w g B := by
  obtain ⟨hr, vp, hb, hl⟩ := h
  exact ⟨hk g _ hr (.inr ⟨by omega, by omega⟩), vp, hb, hl.1, fun b e => hk b _ (hl.2 b e) (.inr ⟨by omega, by omega⟩)⟩
theorem owns_step {R : Nat → Prop} {ρ ρ' : Nat → Nat} {w w' : World} {r : Nat} {t : TypeId} {z : Nat} {v : Value} {n : Nat} {xs : List Value} (h : w.ownsRow 0 t z v n xs) (h2 : ∀ b, v.ownBlock = some b → ρ b = r) (s : Stp R ρ ρ' w w') (hr : ¬ R r) : w'.ownsRow 0 t z v n xs ∧ ∀ b, v.ownBlock = some b → ρ' b = r := by
  have hlt := h.lt
  refine ⟨⟨h.1, ?_⟩, fun b hb => (s.role b (hlt b hb).2).trans (h2 b hb)⟩
  rcases h.2 with hn | ⟨g, cap, cur, rfl, hb, hg, rest⟩
  · exact .inl hn
  · refine .inr ⟨g, cap, cur, rfl, hb, ?_, rest⟩
    rw [s.block g (hlt g rfl).2 (by rw [h2 g rfl]; exact hr)]
    exact hg

/-- a disk of the program and the document's beside it: where they lie, what they hold -/
structure Ent where
  d : Nat
  r : Nat
  A : PD
  B : RD
def entAt (S : List Ent) (j : Nat) : Ent := S.getD j ⟨0, 0, ⟨[], [], [], 0, false⟩, ⟨[], 0, 0, false⟩⟩
def pcs (S : List Ent) : List Value := S.flatMap fun e => [.pointer (some ⟨e.d, 0, none⟩), .pointer (some ⟨e.r, 0, none⟩)]
theorem pcs_snoc (S : List Ent) (e : Ent) : pcs S ++ [.pointer (some ⟨e.d, 0, none⟩), .pointer (some ⟨e.r, 0, none⟩)] = pcs (S ++ [e]) := by simp [pcs]
theorem pcs_at (S : List Ent) (j : Nat) (hj : j < S.length) : (pcs S)[j * 2]? = some (.pointer (some ⟨(entAt S j).d, 0, none⟩)) ∧ (pcs S)[j * 2 + 1]? = some (.pointer (some ⟨(entAt S j).r, 0, none⟩)) := by
  induction S generalizing j with
  | nil => simp at hj
  | cons c r ih =>
    cases j with
    | zero => simp [pcs, entAt]
    | succ j =>
      have := ih j (by simpa using hj)
      have e : pcs (c :: r) = .pointer (some ⟨c.d, 0, none⟩) :: .pointer (some ⟨c.r, 0, none⟩) :: pcs r := rfl
      rw [e, show (j + 1) * 2 = j * 2 + 2 by omega, show j * 2 + 2 + 1 = j * 2 + 1 + 2 by omega]
      simpa [entAt] using this
theorem pcs_set (S : List Ent) (j : Nat) (A : PD) (B : RD) : pcs (S.set j ⟨(entAt S j).d, (entAt S j).r, A, B⟩) = pcs S := by
  induction S generalizing j with
  | nil => rfl
  | cons c r ih =>
    cases j with
    | zero => simp [pcs, entAt]
    | succ j =>
      have := ih j
      have e : pcs (c :: r) = .pointer (some ⟨c.d, 0, none⟩) :: .pointer (some ⟨c.r, 0, none⟩) :: pcs r := rfl
      rw [e, ← this]
      simp [pcs, entAt]
theorem ent_set (S : List Ent) (i j : Nat) (e : Ent) (hj : j < S.length) : entAt (S.set j e) i = if i = j then e else entAt S i := by
  unfold entAt
  simp only [List.getD]
  by_cases h : i = j
  · subst h
    rw [List.getElem?_set_self (by exact hj), if_pos rfl]; rfl
  · rw [List.getElem?_set_ne (fun e => h e.symm), if_neg h]
theorem ent_snoc (S : List Ent) (i : Nat) (e : Ent) (hi : i < S.length + 1) : entAt (S ++ [e]) i = if i = S.length then e else entAt S i := by
  unfold entAt
  simp only [List.getD]
  by_cases h : i = S.length
  · subst h
    rw [if_pos rfl]; simp
  · rw [if_neg h, List.getElem?_append_left (by omega)]

/-- the shelf -/
structure Sh (ρ : Nat → Nat) (w : World) (g : Nat) (vl : Value) (n : Nat) (S : List Ent) : Prop where
  clean : Clean ρ w
  bound : ∀ b, ρ b < 4 * (S.length + 1) + 1
  role : ρ g = 1
  blk : Blk w g #[vl] 33
  own : w.ownsRow 0 56 2 vl S.length (pcs S)
  row : ∀ b, vl.ownBlock = some b → ρ b = 3
  ents : ∀ j, j < S.length → DAt ρ (j + 1) w (entAt S j).d (entAt S j).A ∧ RAt ρ (j + 1) w (entAt S j).r (entAt S j).B ∧ Sim n (entAt S j).A (entAt S j).B
  len : S.length ≤ n
theorem Sh.keep {R : Nat → Prop} {ρ ρ' : Nat → Nat} {w w' : World} {g : Nat} {vl : Value} {n m : Nat} {S : List Ent} (h : Sh ρ w g vl n S) (s : Stp R ρ ρ' w w') (hR : ∀ r, R r → r = 2) (hb : ∀ b, ρ' b < 4 * (S.length + 1) + 1) (hm : n ≤ m) : Sh ρ' w' g vl m S := by
  obtain ⟨o1, o2⟩ := owns_step h.own h.row s (fun h => by have := hR _ h; omega)
  refine ⟨s.clean, hb, (s.role g h.blk.lt).trans h.role, h.blk.step s (fun h2 => by have := hR _ h2; rw [h.role] at this; omega), o1, o2, fun j hj => ?_, Nat.le_trans h.len hm⟩
  obtain ⟨e1, e2, e3⟩ := h.ents j hj
  exact ⟨e1.step s (fun h => by have := hR _ h; omega) (fun h => by have := hR _ h; omega) (fun h => by have := hR _ h; omega), e2.step s (fun h => by have := hR _ h; omega) (fun h => by have := hR _ h; omega), e3.mono hm⟩
theorem Sh.below {ρ : Nat → Nat} {w w' : World} {g : Nat} {vl : Value} {n m : Nat} {S : List Ent} (h : Sh ρ w g vl n S) (hb : Below w.heap.size w w') (hm : n ≤ m) : Sh ρ w' g vl m S :=
  h.keep (R := fun _ => False) (Stp.below h.clean hb) (fun _ h => h.elim) h.bound hm
/-- one disk has turned -/
theorem Sh.turn {ρ ρ' : Nat → Nat} {w w' : World} {g : Nat} {vl : Value} {n m j : Nat} {S : List Ent} {A : PD} {B : RD} (h : Sh ρ w g vl n S) (hj : j < S.length) (hS : Stp (Rk (j + 1)) ρ ρ' w w') (hd : DAt ρ' (j + 1) w' (entAt S j).d A) (hr : RAt ρ' (j + 1) w' (entAt S j).r B) (hs : Sim m A B) (hm : n ≤ m) :
    ∃ ρ'' vl' S', Sh ρ'' w' g vl' m S' ∧ Stp (fun r => r ≠ 0) ρ ρ'' w w' := by
  have T : Stp (Rk (j + 1)) ρ (nrm (j + 1) ρ ρ' w) w w' := hS.nrm _
  obtain ⟨o1, o2⟩ := owns_step h.own h.row T (fun h => by unfold Rk at h; omega)
  refine ⟨_, vl, S.set j ⟨(entAt S j).d, (entAt S j).r, A, B⟩, ⟨T.clean, fun b => ?_, (T.role g h.blk.lt).trans h.role, h.blk.step T (fun h2 => by rw [h.role] at h2; unfold Rk at h2; omega), ?_, o2, fun i hi => ?_, ?_⟩, T.mono (fun r h e => by unfold Rk at h; omega)⟩
  · rw [List.length_set]
    have h1 := h.bound b
    rcases nrm_cases (j + 1) ρ ρ' w b with e | e | e
    · rw [e]; exact h1
    · rw [e]; omega
    · obtain ⟨e1, e2⟩ := e; omega
  · rw [List.length_set, pcs_set]; exact o1
  · rw [List.length_set] at hi
    rw [ent_set S i j _ hj]
    by_cases e : i = j
    · subst e
      rw [if_pos rfl]
      exact ⟨hd.roles (fun b r hb hr => nrm_keep hS hb hr), hr.roles (fun b r hb hr => nrm_keep hS hb hr), hs⟩
    · rw [if_neg e]
      obtain ⟨e1, e2, e3⟩ := h.ents i hi
      exact ⟨e1.step T (fun h => by unfold Rk at h; omega) (fun h => by unfold Rk at h; omega) (fun h => by unfold Rk at h; omega), e2.step T (fun h => by unfold Rk at h; omega) (fun h => by unfold Rk at h; omega), e3.mono hm⟩
  · rw [List.length_set]; exact Nat.le_trans h.len hm
/-- one disk more -/
theorem Sh.more {ρ ρ' : Nat → Nat} {w w' wz w3 : World} {g d r : Nat} {vl : Value} {n m : Nat} {S : List Ent} {A : PD} {B : RD} {g3 cap : Nat} (h : Sh ρ w g vl n S) (hS : Stp (fun _ => False) ρ ρ' w w') (hd : DAt ρ' (S.length + 1) w' d A) (hr : RAt ρ' (S.length + 1) w' r B) (hs : Sim m A B) (hm : n + 1 ≤ m)
    (hz : Below w'.heap.size w' wz) (o3 : w3.ownsRow 0 56 2 (.slice (some ⟨g3, 0, none⟩) (S.length + 1) cap) (S.length + 1) (pcs S ++ [.pointer (some ⟨d, 0, none⟩), .pointer (some ⟨r, 0, none⟩)]))
    (hg3 : wz.grownBy w3 vl.ownBlock) (hat : vl.ownBlock = some g3 ∨ g3 = wz.heap.size) (hlt : g3 < w3.heap.size) :
    ∃ ρ'' S', Sh ρ'' (w3.setCell ⟨g, 0, none⟩ (.slice (some ⟨g3, 0, none⟩) (S.length + 1) cap)) g (.slice (some ⟨g3, 0, none⟩) (S.length + 1) cap) m S' ∧ S'.length = S.length + 1 ∧
      Stp (fun r => r = 1 ∨ r = 3) ρ ρ'' w (w3.setCell ⟨g, 0, none⟩ (.slice (some ⟨g3, 0, none⟩) (S.length + 1) cap)) := by
  have T1 : Stp (fun _ => False) ρ (nrm (S.length + 1) ρ ρ' w) w w' := hS.nrm _
  have hd1 : DAt (nrm (S.length + 1) ρ ρ' w) (S.length + 1) w' d A := hd.roles (fun b r hb hr => nrm_keep hS hb hr)
  have hr1 : RAt (nrm (S.length + 1) ρ ρ' w) (S.length + 1) w' r B := hr.roles (fun b r hb hr => nrm_keep hS hb hr)
  have hbd : ∀ b, nrm (S.length + 1) ρ ρ' w b < 4 * (S.length + 1 + 1) + 1 := fun b => by
    have h1 := h.bound b
    rcases nrm_cases (S.length + 1) ρ ρ' w b with e | e | e
    · rw [e]; omega
    · rw [e]; omega
    · obtain ⟨e1, e2⟩ := e; omega
  generalize nrm (S.length + 1) ρ ρ' w = ρ1 at *
  have S2 : Stp (fun _ => False) ρ1 ρ1 w' wz := Stp.below T1.clean hz
  have T2 : Stp (fun _ => False) ρ ρ1 w wz := T1.trans S2
  obtain ⟨_, o2⟩ := owns_step h.own h.row T2 (fun h => h)
  have S3 : Stp (fun r => r = 3) ρ1 (ru ρ1 g3 3) wz w3 := Stp.grown T2.clean hg3 o2 rfl hat hlt
  have b2 : Blk wz g #[vl] 33 := h.blk.step T2 (fun h => h)
  have r2 : ρ1 g = 1 := (T2.role g h.blk.lt).trans h.role
  have b3 : Blk w3 g #[vl] 33 := b2.step S3 (by rw [r2]; omega)
  have r3 : ru ρ1 g3 3 g = 1 := (S3.role g b2.lt).trans r2
  have S4 : Stp (fun r => r = 1) (ru ρ1 g3 3) (ru ρ1 g3 3) w3 (w3.setCell ⟨g, 0, none⟩ (.slice (some ⟨g3, 0, none⟩) (S.length + 1) cap)) := Stp.set S3.clean r3 0 _
  have V : Stp (fun r => r = 1 ∨ r = 3) ρ1 (ru ρ1 g3 3) w' (w3.setCell ⟨g, 0, none⟩ (.slice (some ⟨g3, 0, none⟩) (S.length + 1) cap)) := ((S2.mono (fun _ h => h.elim)).trans (S3.mono (fun _ h => .inr h))).trans (S4.mono (fun _ h => .inl h))
  have U : Stp (fun r => r = 1 ∨ r = 3) ρ (ru ρ1 g3 3) w (w3.setCell ⟨g, 0, none⟩ (.slice (some ⟨g3, 0, none⟩) (S.length + 1) cap)) := (T1.mono (fun _ h => h.elim)).trans V
  have row : ∀ b, (Value.slice (some ⟨g3, 0, none⟩) (S.length + 1) cap).ownBlock = some b → ru ρ1 g3 3 b = 3 := fun b e => by
    obtain rfl : g3 = b := by simpa [Value.ownBlock] using e
    exact ru_at _ _ _
  have e : (S ++ [(⟨d, r, A, B⟩ : Ent)]).length = S.length + 1 := by simp
  refine ⟨_, S ++ [⟨d, r, A, B⟩], ⟨S4.clean, fun b => ?_, r3, b3.set 0 _, ?_, row, fun j hj => ?_, ?_⟩, e, U⟩
  · rw [e]
    by_cases hb : b = g3
    · subst hb; rw [ru_at]; omega
    · rw [ru_ne _ _ _ hb]; exact hbd b
  · rw [e, ← pcs_snoc]
    exact (owns_step o3 row S4 (by omega)).1
  · rw [e] at hj
    rw [ent_snoc S j _ hj]
    by_cases hj2 : j = S.length
    · subst hj2
      rw [if_pos rfl]
      exact ⟨hd1.step V (by omega) (by omega) (by omega), hr1.step V (by omega) (by omega), hs⟩
    · rw [if_neg hj2]
      obtain ⟨e1, e2, e3⟩ := h.ents j (by omega)
      exact ⟨e1.step U (by omega) (by omega) (by omega), e2.step U (by omega) (by omega), e3.mono (by omega)⟩
  · rw [e]; have := h.len; omega
/-- what the list of disks reads -/
theorem Sh.reads {ρ : Nat → Nat} {w : World} {g : Nat} {vl : Value} {n : Nat} {S : List Ent} (h : Sh ρ w g vl n S) (hne : 0 < S.length) :
    ∃ b cap, vl = .slice (some ⟨b, 0, none⟩) S.length cap ∧ S.length ≤ cap ∧ cap ≤ maxLen ∧ b < w.heap.size ∧ ∀ j, j < S.length → w.cell? ⟨b, j * 2, none⟩ = some (.pointer (some ⟨(entAt S j).d, 0, none⟩)) ∧ w.cell? ⟨b, j * 2 + 1, none⟩ = some (.pointer (some ⟨(entAt S j).r, 0, none⟩)) := by
  have h0 := h.own
  obtain ⟨_, ⟨rfl, hn⟩ | ⟨b, cap, cur, rfl, hg, hblk, hc, hm, hsz, htk⟩⟩ := h.own
  · omega
  · refine ⟨b, cap, rfl, hc, hm, (Array.getElem?_eq_some_iff.1 hblk).1, fun j hj => ?_⟩
    rw [h0.cellAt (j * 2) (by omega), h0.cellAt (j * 2 + 1) (by omega)]
    exact pcs_at S j hj
/-- a slice of numbers that nobody writes -/
def IntsZ (ρ : Nat → Nat) (w : World) (v : Value) (L : List Int) : Prop := IntsAt w v L ∧ (L ≠ [] → ∃ b, v.ownBlock = some b ∧ b < w.heap.size ∧ ρ b = 0)
theorem IntsZ.step {R : Nat → Prop} {ρ ρ' : Nat → Nat} {w w' : World} {v : Value} {L : List Int} (h : IntsZ ρ w v L) (s : Stp R ρ ρ' w w') (h0 : ¬ R 0) : IntsZ ρ' w' v L := by
  obtain ⟨⟨a, c, rfl, h1, h2, h3⟩, h4⟩ := h
  refine ⟨⟨a, c, rfl, h1, h2, fun hl => ?_⟩, fun hl => ?_⟩
  · obtain ⟨b, o, rfl, hb, hc⟩ := h3 hl
    obtain ⟨b', e, hlt, hr⟩ := h4 hl
    obtain rfl : b = b' := by simpa [Value.ownBlock] using e
    exact ⟨b, o, rfl, Nat.lt_of_lt_of_le hb s.size, fun j hj => (World.cell?_of_block (a := ⟨b, o + j, none⟩) (s.block b hb (by rw [hr]; exact h0))).trans (hc j hj)⟩
  · obtain ⟨b, e, hlt, hr⟩ := h4 hl
    exact ⟨b, e, Nat.lt_of_lt_of_le hlt s.size, (s.role b hlt).trans hr⟩
theorem Stp.cell0 {R : Nat → Prop} {ρ ρ' : Nat → Nat} {w w' : World} (s : Stp R ρ ρ' w w') (h0 : ¬ R 0) {b : Nat} (hr : ρ b = 0) (hb : b < w.heap.size) (i : Nat) : w'.cell? ⟨b, i, none⟩ = w.cell? ⟨b, i, none⟩ :=
  World.cell?_of_block (a := ⟨b, i, none⟩) (s.block b hb (by rw [hr]; exact h0))
theorem infoQ : (Tryd.prog.info? 56).map (fun i => (i.zero, i.size, i.bytes)) = some (some (.agg #[.pointer none, .pointer none]), 2, 16) := by kernel_rfl
theorem newcellsP {w : World} {h : Nat} {a b : Value} (h0 : w.cell? ⟨h, 0, none⟩ = some a) (h1 : w.cell? ⟨h, 1, none⟩ = some b) :
    ∀ j u, [a, b][j]? = some u → w.cell? ((⟨h, 0, none⟩ : Addr).add j) = some u := by
  intro j u hj
  rw [add_at]
  match j, hj with
  | 0, hj => simp at hj; subst hj; exact h0
  | 1, hj => simp at hj; subst hj; exact h1
theorem two_oneP (a b : Option Addr) : ∀ u ∈ [Value.pointer a, Value.pointer b], u.oneCell' = true := by
  intro u hu
  simp at hu
  rcases hu with rfl | rfl <;> rfl
end Go.Proofs.YtjnhhnbgjjkkjaaDoor
