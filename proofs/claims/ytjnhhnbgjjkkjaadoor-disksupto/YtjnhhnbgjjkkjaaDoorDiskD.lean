/-
  Disks: whose a block is; New, Sync, Read of both packages; the document's 'full'.
-/
import Derived.Test.YtjnhhnbgjjkkjaaDoorDiskC
import Derived.Lib.BufferWrite
namespace Go.Proofs.YtjnhhnbgjjkkjaaDoor
open Go.ChangeShapes Go.WideShapes Go.ChangeAt Go.RowKit
set_option linter.unusedVariables false
set_option linter.unusedSimpArgs false

/-- above the heap all is nobody's -/
def Clean (ρ : Nat → Nat) (w : World) : Prop := ∀ b, w.heap.size ≤ b → ρ b = 0
/-- from w to w' only blocks whose role R names are written; a block keeps its role -/
structure Stp (R : Nat → Prop) (ρ ρ' : Nat → Nat) (w w' : World) : Prop where
  os : w'.os = w.os
  tape : w'.tape = w.tape
  output : w'.output = w.output
  size : w.heap.size ≤ w'.heap.size
  role : ∀ b, b < w.heap.size → ρ' b = ρ b
  block : ∀ b, b < w.heap.size → ¬ R (ρ b) → w'.heap[b]? = w.heap[b]?
  clean : Clean ρ' w'
theorem Stp.trans {R : Nat → Prop} {ρ ρ' ρ'' : Nat → Nat} {w w' w'' : World} (h : Stp R ρ ρ' w w') (k : Stp R ρ' ρ'' w' w'') : Stp R ρ ρ'' w w'' :=
  ⟨k.os.trans h.os, k.tape.trans h.tape, k.output.trans h.output, Nat.le_trans h.size k.size, fun b hb => (k.role b (Nat.lt_of_lt_of_le hb h.size)).trans (h.role b hb),
    fun b hb hr => (k.block b (Nat.lt_of_lt_of_le hb h.size) (by rw [h.role b hb]; exact hr)).trans (h.block b hb hr), k.clean⟩
theorem Stp.mono {R R' : Nat → Prop} {ρ ρ' : Nat → Nat} {w w' : World} (h : Stp R ρ ρ' w w') (hR : ∀ r, R r → R' r) : Stp R' ρ ρ' w w' :=
  ⟨h.os, h.tape, h.output, h.size, h.role, fun b hb hr => h.block b hb (fun c => hr (hR _ c)), h.clean⟩
theorem Stp.refl {R : Nat → Prop} {ρ : Nat → Nat} {w : World} (hc : Clean ρ w) : Stp R ρ ρ w w := ⟨rfl, rfl, rfl, Nat.le_refl _, fun _ _ => rfl, fun _ _ _ => rfl, hc⟩
theorem Stp.below {R : Nat → Prop} {ρ : Nat → Nat} {w w' : World} (hc : Clean ρ w) (hb : Below w.heap.size w w') : Stp R ρ ρ w w' :=
  ⟨hb.os, hb.tape, hb.output, hb.size, fun _ _ => rfl, fun b h _ => hb.block b h, fun b h => hc b (Nat.le_trans hb.size h)⟩
theorem Stp.upd {R : Nat → Prop} {ρ : Nat → Nat} {w w' : World} {g : Nat} {cs : Array Value} {t : TypeId} (hc : Clean ρ w) (hu : Upd w w' g cs t) (hg : R (ρ g)) : Stp R ρ ρ w w' :=
  ⟨hu.os, hu.tape, hu.output, by rw [hu.size]; exact Nat.le_refl _, fun _ _ => rfl, fun b _ hr => hu.other b (fun e => hr (e ▸ hg)), fun b h => hc b (by rw [← hu.size]; exact h)⟩
/-- a role is given -/
def ru (ρ : Nat → Nat) (b r : Nat) : Nat → Nat := fun x => if x = b then r else ρ x
theorem ru_at (ρ : Nat → Nat) (b r : Nat) : ru ρ b r b = r := by simp [ru]
theorem ru_ne (ρ : Nat → Nat) (b r : Nat) {x : Nat} (h : x ≠ b) : ru ρ b r x = ρ x := by simp [ru, h]
theorem Stp.alloc {R : Nat → Prop} {ρ : Nat → Nat} {w : World} (hc : Clean ρ w) (o : Obj) (r : Nat) : Stp R ρ (ru ρ w.heap.size r) w (w.alloc o) :=
  ⟨rfl, rfl, rfl, by simp, fun b hb => ru_ne _ _ _ (by omega), fun b hb _ => Below.heap_alloc w o b hb, fun b hb => by
    have hb' : w.heap.size + 1 ≤ b := by simpa using hb
    rw [ru_ne _ _ _ (by omega)]; exact hc b (by omega)⟩
theorem Stp.alloc0 {R : Nat → Prop} {ρ : Nat → Nat} {w : World} (hc : Clean ρ w) (o : Obj) : Stp R ρ ρ w (w.alloc o) := Stp.below hc ((Below.refl _ _).alloc (Nat.le_refl _) o)
theorem Stp.drew {R : Nat → Prop} {ρ ρ' : Nat → Nat} {w w' : World} (h : Stp R ρ ρ' w w') : Stp R ρ ρ' w w'.drew := ⟨h.os, h.tape, h.output, h.size, h.role, h.block, h.clean⟩
theorem Stp.toBelow {ρ ρ' : Nat → Nat} {w w' : World} {R : Nat → Prop} (h : Stp R ρ ρ' w w') {B : Nat} (hB : B ≤ w.heap.size) (hR : ∀ b, b < B → ¬ R (ρ b)) : Below B w w' :=
  ⟨h.os, h.tape, h.output, h.size, fun b hb => h.block b (by omega) (hR b hb)⟩
theorem Blk.step {R : Nat → Prop} {ρ ρ' : Nat → Nat} {w w' : World} {g : Nat} {cs : Array Value} {t : TypeId} (h : Blk w g cs t) (s : Stp R ρ ρ' w w') (hr : ¬ R (ρ g)) : Blk w' g cs t := (s.block g h.lt hr).trans h

/-- a list that nobody writes again -/
def RdZ (ρ : Nat → Nat) (w : World) (v : Value) (l : List (Int × ByteArray)) : Prop := Reads w v l ∧ (l ≠ [] → ∃ b, v.ownBlock = some b ∧ ρ b = 0)
/-- a list that is one owner's -/
def Own (ρ : Nat → Nat) (r : Nat) (w : World) (t : TypeId) (v : Value) (l : List (Int × ByteArray)) : Prop := w.ownsRow 0 t 2 v l.length (cvs l) ∧ ∀ b, v.ownBlock = some b → ρ b = r
theorem RdZ.step {R : Nat → Prop} {ρ ρ' : Nat → Nat} {w w' : World} {v : Value} {l : List (Int × ByteArray)} (h : RdZ ρ w v l) (s : Stp R ρ ρ' w w') (h0 : ¬ R 0) : RdZ ρ' w' v l := by
  obtain ⟨⟨a, cap, rfl, h1, h2, h3⟩, h4⟩ := h
  refine ⟨⟨a, cap, rfl, h1, h2, fun hl => ?_⟩, fun hl => ?_⟩
  · obtain ⟨g, rfl, hg, hc⟩ := h3 hl
    obtain ⟨b, hb, hr⟩ := h4 hl
    obtain rfl : g = b := by simpa [Value.ownBlock] using hb
    have hk := s.block g hg (by rw [hr]; exact h0)
    exact ⟨g, rfl, Nat.lt_of_lt_of_le hg s.size, fun j hj => ⟨(World.cell?_of_block (a := ⟨g, j * 2, none⟩) hk).trans (hc j hj).1, (World.cell?_of_block (a := ⟨g, j * 2 + 1, none⟩) hk).trans (hc j hj).2⟩⟩
  · obtain ⟨g, rfl, hg, hc⟩ := h3 hl
    obtain ⟨b, hb, hr⟩ := h4 hl
    obtain rfl : g = b := by simpa [Value.ownBlock] using hb
    exact ⟨g, rfl, (s.role g hg).trans hr⟩
theorem Own.step {R : Nat → Prop} {ρ ρ' : Nat → Nat} {w w' : World} {r : Nat} {t : TypeId} {v : Value} {l : List (Int × ByteArray)} (h : Own ρ r w t v l) (s : Stp R ρ ρ' w w') (hr : ¬ R r) : Own ρ' r w' t v l := by
  obtain ⟨h1, h2⟩ := h
  have hlt := h1.lt
  refine ⟨⟨h1.1, ?_⟩, fun b hb => (s.role b (hlt b hb).2).trans (h2 b hb)⟩
  rcases h1.2 with hn | ⟨g, cap, cur, rfl, hb, hg, rest⟩
  · exact .inl hn
  · refine .inr ⟨g, cap, cur, rfl, hb, ?_, rest⟩
    rw [s.block g (hlt g rfl).2 (by rw [h2 g rfl]; exact hr)]
    exact hg
theorem RdZ.nil (ρ : Nat → Nat) (w : World) : RdZ ρ w (.slice none 0 0) [] := ⟨⟨none, 0, rfl, Nat.le_refl _, by unfold maxLen; omega, fun h => absurd rfl h⟩, fun h => absurd rfl h⟩
theorem Own.nil (ρ : Nat → Nat) (r : Nat) (w : World) (t : TypeId) : Own ρ r w t (.slice none 0 0) [] := ⟨World.ownsRow_nil w 0 t 2, fun b h => by simp [Value.ownBlock] at h⟩
/-- what a call has laid for itself is nobody's -/
theorem RdZ.made {ρ : Nat → Nat} {w w' : World} {t : TypeId} {v : Value} {l : List (Int × ByteArray)} (hc : Clean ρ w) (h : w'.ownsRow w.heap.size t 2 v l.length (cvs l)) : RdZ ρ w' v l := by
  refine ⟨reads_of_owns h, fun hl => ?_⟩
  obtain ⟨g, cap, rfl, hb, _⟩ := h.form (by cases l with | nil => exact absurd rfl hl | cons _ _ => simp)
  exact ⟨g, rfl, hc g hb⟩

theorem RdZ.slice {ρ : Nat → Nat} {w : World} {v : Value} {l : List (Int × ByteArray)} (h : RdZ ρ w v l) : ∃ a c, v = .slice a l.length c ∧ l.length ≤ c ∧ c ≤ maxLen := by
  obtain ⟨⟨a, cap, rfl, h1, h2, _⟩, _⟩ := h
  exact ⟨a, cap, rfl, h1, h2⟩
theorem Own.slice {ρ : Nat → Nat} {r : Nat} {w : World} {t : TypeId} {v : Value} {l : List (Int × ByteArray)} (h : Own ρ r w t v l) : ∃ a c, v = .slice a l.length c ∧ l.length ≤ c ∧ c ≤ maxLen := by
  rcases h.1.2 with ⟨rfl, e⟩ | ⟨g, cap, cur, rfl, _, _, h1, h2, _⟩
  · exact ⟨none, 0, by rw [e], by omega, by unfold maxLen; omega⟩
  · exact ⟨_, cap, rfl, h1, h2⟩

/-- a disk of the program; a disk of the document -/
structure PD where
  safe : List (Int × ByteArray)
  now : List (Int × ByteArray)
  loose : List (Int × ByteArray)
  left : Int
  st : Bool
structure RD where
  puts : List (Int × ByteArray)
  safe : Nat
  left : Int
  st : Bool
def DAt (ρ : Nat → Nat) (k : Nat) (w : World) (g : Nat) (A : PD) : Prop :=
  ρ g = 4 * k + 1 ∧ ∃ vs vn vl, Blk w g (dB vs vn vl A.left A.st) 80 ∧ RdZ ρ w vs A.safe ∧ RdZ ρ w vn A.now ∧ Own ρ (4 * k + 3) w 85 vl A.loose
def RAt (ρ : Nat → Nat) (k : Nat) (w : World) (g : Nat) (B : RD) : Prop :=
  ρ g = 4 * k + 2 ∧ ∃ vp, Blk w g (rB vp B.safe B.left B.st) 83 ∧ Own ρ (4 * k + 4) w 89 vp B.puts
theorem DAt.step {R : Nat → Prop} {ρ ρ' : Nat → Nat} {w w' : World} {k g : Nat} {A : PD} (h : DAt ρ k w g A) (s : Stp R ρ ρ' w w') (h0 : ¬ R 0) (h1 : ¬ R (4 * k + 1)) (h3 : ¬ R (4 * k + 3)) : DAt ρ' k w' g A := by
  obtain ⟨hr, vs, vn, vl, hb, hs, hn, hl⟩ := h
  exact ⟨(s.role g hb.lt).trans hr, vs, vn, vl, hb.step s (by rw [hr]; exact h1), hs.step s h0, hn.step s h0, hl.step s h3⟩
theorem RAt.step {R : Nat → Prop} {ρ ρ' : Nat → Nat} {w w' : World} {k g : Nat} {B : RD} (h : RAt ρ k w g B) (s : Stp R ρ ρ' w w') (h1 : ¬ R (4 * k + 2)) (h3 : ¬ R (4 * k + 4)) : RAt ρ' k w' g B := by
  obtain ⟨hr, vp, hb, hl⟩ := h
  exact ⟨(s.role g hb.lt).trans hr, vp, hb.step s (by rw [hr]; exact h1), hl.step s h3⟩
/-- whose writes a disk's calls may do -/
def RDk (k r : Nat) : Prop := r = 4 * k + 1 ∨ r = 4 * k + 3
def RRk (k r : Nat) : Prop := r = 4 * k + 2 ∨ r = 4 * k + 4

theorem new_d (w : World) : Calls Tryd.prog 17 #[] w fun e w' => e = .returned (.pointer (some ⟨w.heap.size, 0, none⟩)) ∧ w' = w.alloc (.cells (dB (.slice none 0 0) (.slice none 0 0) (.slice none 0 0) (-1) false) 80) := by
  go_enter Tryd.func17, Tryd.ntmps17
  go_wp2
  go_ret
  exact ⟨rfl, rfl⟩
theorem new_r (w : World) : Calls Tryd.prog 18 #[] w fun e w' => e = .returned (.pointer (some ⟨w.heap.size, 0, none⟩)) ∧ w' = w.alloc (.cells (rB (.slice none 0 0) 0 (-1) false) 83) := by
  go_enter Tryd.func18, Tryd.ntmps18
  go_wp2
  go_ret
  exact ⟨rfl, rfl⟩

/-- what Sync leaves -/
def syncD (A : PD) : PD := if okS A.left A.st then { A with safe := A.now, loose := [], left := leftS A.left A.st, st := stS A.left A.st } else { A with left := leftS A.left A.st, st := stS A.left A.st }
def syncR (B : RD) : RD := if okS B.left B.st then { B with safe := B.puts.length, left := leftS B.left B.st, st := stS B.left B.st } else { B with left := leftS B.left B.st, st := stS B.left B.st }

set_option maxHeartbeats 400000 in
theorem sync_d (ρ : Nat → Nat) (k : Nat) (w : World) (g : Nat) (A : PD) (hc : Clean ρ w) (h1 : A.left < 9223372036854775808) (h : DAt ρ k w g A) :
    Calls Tryd.prog 22 #[.pointer (some ⟨g, 0, none⟩)] w fun e w' => e = .returned (.bool (okS A.left A.st)) ∧ DAt ρ k w' g (syncD A) ∧ Stp (RDk k) ρ ρ w w' := by
  obtain ⟨hr, vs, vn, vl, hb, hs, hn, hl⟩ := h
  have hst : Hid (Calls Tryd.prog 45 #[.pointer (some ⟨g, 0, none⟩)] w fun e w' => e = .returned (.bool (okS A.left A.st)) ∧ Upd w w' g (dB vs vn vl (leftS A.left A.st) (stS A.left A.st)) 80) := step_d w g vs vn vl A.left A.st h1 hb
  have hgR : RDk k (ρ g) := .inl hr
  have h0R : ¬ RDk k 0 := by unfold RDk; omega
  rcases hok : okS A.left A.st with _ | _
  · have e : syncD A = { A with left := leftS A.left A.st, st := stS A.left A.st } := by unfold syncD; rw [hok]; rfl
    rw [e]
    rw [hok] at hst
    have hfin : Hid (∀ w', Upd w w' g (dB vs vn vl (leftS A.left A.st) (stS A.left A.st)) 80 → DAt ρ k w' g { A with left := leftS A.left A.st, st := stS A.left A.st } ∧ Stp (RDk k) ρ ρ w w') := fun w' hu => by
      have S : Stp (RDk k) ρ ρ w w' := Stp.upd hc hu hgR
      have S3 : Stp (fun r => r = 4 * k + 1) ρ ρ w w' := Stp.upd hc hu hr
      exact ⟨⟨hr, vs, vn, vl, hu.blk, hs.step S h0R, hn.step S h0R, hl.step S3 (by omega)⟩, S⟩
    clear hb hs hn hl e
    go_enter Tryd.func22, Tryd.ntmps22
    go_wp2_with (go_at_call 45; refine hst.out.mono ?_; rintro e w1 ⟨rfl, hu⟩; have HU : Hid (Upd w w1 g (dB vs vn vl (leftS A.left A.st) (stS A.left A.st)) 80) := hu; clear hu)
    go_ret
    exact ⟨rfl, hfin.out _ HU.out⟩
  · have e : syncD A = { A with safe := A.now, loose := [], left := leftS A.left A.st, st := stS A.left A.st } := by unfold syncD; rw [hok]; rfl
    rw [e]
    rw [hok] at hst
    have hfin : Hid (∀ w', Upd w w' g (dB vn vn (.slice none 0 0) (leftS A.left A.st) (stS A.left A.st)) 80 → DAt ρ k w' g { A with safe := A.now, loose := [], left := leftS A.left A.st, st := stS A.left A.st } ∧ Stp (RDk k) ρ ρ w w') := fun w' hu => by
      have S : Stp (RDk k) ρ ρ w w' := Stp.upd hc hu hgR
      exact ⟨⟨hr, vn, vn, .slice none 0 0, hu.blk, hn.step S h0R, hn.step S h0R, Own.nil _ _ _ _⟩, S⟩
    obtain ⟨an, cn, rfl, _, _⟩ := hn.slice
    clear hb hs hn hl e
    generalize A.now.length = ln at *
    go_enter Tryd.func22, Tryd.ntmps22
    go_wp2_with (go_at_call 45; refine hst.out.mono ?_; rintro e w1 ⟨rfl, hu⟩; have HU : Hid (Upd w w1 g (dB vs (.slice an ln cn) vl (leftS A.left A.st) (stS A.left A.st)) 80) := hu; have c0 : w1.cell? ⟨g, 0, none⟩ = some vs := (hu.blk.cell 0); have c1 : w1.cell? ⟨g, 1, none⟩ = some (.slice an ln cn) := (hu.blk.cell 1); have c2 : w1.cell? ⟨g, 2, none⟩ = some vl := (hu.blk.cell 2); have f0 : w1.frozen? ⟨g, 0, none⟩ = false := (hu.blk.frozen 0); have f2 : w1.frozen? ⟨g, 2, none⟩ = false := (hu.blk.frozen 2); clear hu)
    go_ret
    exact ⟨rfl, hfin.out _ ((HU.out.set 0 _ rfl).set 2 _ rfl)⟩

set_option maxHeartbeats 400000 in
theorem sync_r (ρ : Nat → Nat) (k : Nat) (w : World) (g : Nat) (B : RD) (hc : Clean ρ w) (h1 : B.left < 9223372036854775808) (h : RAt ρ k w g B) :
    Calls Tryd.prog 23 #[.pointer (some ⟨g, 0, none⟩)] w fun e w' => e = .returned (.bool (okS B.left B.st)) ∧ RAt ρ k w' g (syncR B) ∧ Stp (RRk k) ρ ρ w w' := by
  obtain ⟨hr, vp, hb, hl⟩ := h
  have hst : Hid (Calls Tryd.prog 47 #[.pointer (some ⟨g, 0, none⟩)] w fun e w' => e = .returned (.bool (okS B.left B.st)) ∧ Upd w w' g (rB vp B.safe (leftS B.left B.st) (stS B.left B.st)) 83) := step_r w g vp B.safe B.left B.st h1 hb
  have hgR : RRk k (ρ g) := .inl hr
  rcases hok : okS B.left B.st with _ | _
  · have e : syncR B = { B with left := leftS B.left B.st, st := stS B.left B.st } := by unfold syncR; rw [hok]; rfl
    rw [e]
    rw [hok] at hst
    have hfin : Hid (∀ w', Upd w w' g (rB vp B.safe (leftS B.left B.st) (stS B.left B.st)) 83 → RAt ρ k w' g { B with left := leftS B.left B.st, st := stS B.left B.st } ∧ Stp (RRk k) ρ ρ w w') := fun w' hu => by
      have S : Stp (RRk k) ρ ρ w w' := Stp.upd hc hu hgR
      have S3 : Stp (fun r => r = 4 * k + 2) ρ ρ w w' := Stp.upd hc hu hr
      exact ⟨⟨hr, vp, hu.blk, hl.step S3 (by omega)⟩, S⟩
    clear hb hl e
    go_enter Tryd.func23, Tryd.ntmps23
    go_wp2_with (go_at_call 47; refine hst.out.mono ?_; rintro e w1 ⟨rfl, hu⟩; have HU : Hid (Upd w w1 g (rB vp B.safe (leftS B.left B.st) (stS B.left B.st)) 83) := hu; clear hu)
    go_ret
    exact ⟨rfl, hfin.out _ HU.out⟩
  · have e : syncR B = { B with safe := B.puts.length, left := leftS B.left B.st, st := stS B.left B.st } := by unfold syncR; rw [hok]; rfl
    rw [e]
    rw [hok] at hst
    have hfin : Hid (∀ w', Upd w w' g (rB vp B.puts.length (leftS B.left B.st) (stS B.left B.st)) 83 → RAt ρ k w' g { B with safe := B.puts.length, left := leftS B.left B.st, st := stS B.left B.st } ∧ Stp (RRk k) ρ ρ w w') := fun w' hu => by
      have S : Stp (RRk k) ρ ρ w w' := Stp.upd hc hu hgR
      have S3 : Stp (fun r => r = 4 * k + 2) ρ ρ w w' := Stp.upd hc hu hr
      exact ⟨⟨hr, vp, hu.blk, hl.step S3 (by omega)⟩, S⟩
    obtain ⟨an, cn, rfl, _, _⟩ := hl.slice
    clear hb hl e
    generalize B.puts.length = ln at *
    go_enter Tryd.func23, Tryd.ntmps23
    go_wp2_with (go_at_call 47; refine hst.out.mono ?_; rintro e w1 ⟨rfl, hu⟩; have HU : Hid (Upd w w1 g (rB (.slice an ln cn) B.safe (leftS B.left B.st) (stS B.left B.st)) 83) := hu; have c0 : w1.cell? ⟨g, 0, none⟩ = some (.slice an ln cn) := (hu.blk.cell 0); have c1 : w1.cell? ⟨g, 1, none⟩ = some (.int .i64 B.safe) := (hu.blk.cell 1); have f1 : w1.frozen? ⟨g, 1, none⟩ = false := (hu.blk.frozen 1); clear hu)
    go_ret
    exact ⟨rfl, hfin.out _ (HU.out.set 1 _ rfl)⟩

theorem read_d (ρ : Nat → Nat) (k : Nat) (w : World) (g : Nat) (A : PD) (s : Int) (hn : A.now.length ≤ 2097152) (h : DAt ρ k w g A) :
    Calls Tryd.prog 24 #[.pointer (some ⟨g, 0, none⟩), .int .i64 s] w fun e w' => e = .returned (.string (look A.now s)) ∧ Below w.heap.size w w' := by
  obtain ⟨hr, vs, vn, vl, hb, _, hv, _⟩ := h
  have c1 : w.cell? ⟨g, 1, none⟩ = some vn := hb.cell 1
  have hg : Hid (Calls Tryd.prog 49 #[vn, .int .i64 s] w fun e w' => e = .returned (.string (look A.now s)) ∧ Below w.heap.size w w') := get_any vn A.now s w hn hv.1
  obtain ⟨an, cn, rfl, _, _⟩ := hv.slice
  clear hb hv
  generalize A.now.length = ln at *
  go_enter Tryd.func24, Tryd.ntmps24
  go_wp2_with (go_at_call 49; refine hg.out.mono ?_; rintro e w1 ⟨rfl, hb1⟩)
  go_ret
  exact ⟨rfl, hb1⟩

/-- bytes with noughts behind them -/
def fulB (d : ByteArray) : ByteArray := d ++ zb (64 - d.size)
theorem wpList_copy_str {P : Program} (w : World) {ops : Array Oper} {rest : List Oper} {o : Oper} {a : Act} {Q : Exit → Act → World → Prop} (hgd : o.guard = none) (d s : Operand) (t t' : TypeId)
    (ho : o.op = .call { callee := .builtin .copy, args := #[d, s], argTypes := #[t, t'] }) (v u : Value) (hd : a.eval d = v) (hs : a.eval s = u) {v' : Value} {w' : World}
    (hr : (Builtin.copy_ #[t, t'] o.type #[v, u]).run P w = .ok v' w') (h : wpList P ops Q rest (a.put o.dst v') w') : wpList P ops Q (o :: rest) a w := by
  refine wpList_plain hgd fun K hK => ?_
  unfold Oper.wp
  simp [execOp, ho, resolve, invoke, builtin, hd, hs, hr, Result.andThen]
  exact hK _ _ h
/-- 64 bytes of which the first are written -/
def rowF (d : ByteArray) : Array Value := ((madeCells #[.int .u8 0] 64).toList.take 0 ++ Lib.byteCells d.data.toList ++ (madeCells #[.int .u8 0] 64).toList.drop (0 + d.size)).toArray
theorem rowF_at (d : ByteArray) (hd : d.size ≤ 64) (j : Nat) (hj : j < 64) : (rowF d)[j]? = some (.int .u8 ((fulB d).data.toList.getD j 0).toNat) := by
  have hl : (Lib.byteCells d.data.toList).length = d.size := by rw [Lib.byteCells_length, ← Lib.size_eq]
  have hf : (fulB d).data.toList = d.data.toList ++ List.replicate (64 - d.size) 0 := by simp [fulB, zb, bs]
  have hm : (madeCells #[.int .u8 0] 64).toList = List.replicate 64 (Value.int .u8 0) := toList_madeCells_one _ _
  have hsz : d.data.toList.length = d.size := (Lib.size_eq d).symm
  unfold rowF
  rw [hf, hm]
  simp only [List.take_zero, List.nil_append, Nat.zero_add, List.drop_replicate, List.getElem?_toArray]
  by_cases h : j < d.size
  · rw [List.getElem?_append_left (by omega)]
    simp only [Lib.byteCells, List.getElem?_map, List.getD, List.getElem?_append_left (show j < d.data.toList.length by omega)]
    rw [List.getElem?_eq_getElem (by omega)]
    rfl
  · rw [List.getElem?_append_right (by omega), hl]
    simp only [List.getD, List.getElem?_append_right (show d.data.toList.length ≤ j by omega), hsz]
    rw [List.getElem?_replicate, List.getElem?_replicate, if_pos (by omega), if_pos (by omega)]
    rfl
theorem fulB_size (d : ByteArray) (hd : d.size ≤ 64) : (fulB d).size = 64 := by
  simp [fulB, zb, ByteArray.size_append, bs_size]; omega

set_option maxRecDepth 1000000 in
set_option maxHeartbeats 400000 in
theorem full_any (d : ByteArray) (w : World) (hd : d.size ≤ 64) :
    Calls Tryd.prog 48 #[.string d] w fun e w' => e = .returned (.string (fulB d)) ∧ Below w.heap.size w w' := by
  have hmk : ∀ w, (Instr.makeSlice 71 (.int .i64 64) (.int .i64 64)).run Tryd.prog w = .ok (.slice (some ⟨w.heap.size, 0, none⟩) 64 64) (w.alloc (.cells (madeCells #[.int .u8 0] 64) 5)) := fun w => run_make_row' (P := Tryd.prog) 71 5 (.int .u8 0) 1 Tryd.underlying71 infoB rfl .i64 .i64 64 (by omega) (by omega) w
  have hcp := Lib.run_copy_row_string (P := Tryd.prog) (w.alloc (.cells (madeCells #[.int .u8 0] 64) 5)) 71 9 3 5 w.heap.size 0 64 64 d (madeCells #[.int .u8 0] 64) 5 Tryd.underlying71 (by kernel_rfl) (heap_alloc_new w _) hd (by simp [size_madeCells]; omega)
  have HC : Hid ((Builtin.copy_ #[71, 9] 3 #[.slice (some ⟨w.heap.size, 0, none⟩) 64 64, .string d]).run Tryd.prog (w.alloc (.cells (madeCells #[.int .u8 0] 64) 5)) = .ok (goInt d.size) ((w.alloc (.cells (madeCells #[.int .u8 0] 64) 5)).setRow w.heap.size (rowF d))) := hcp
  clear hcp
  obtain ⟨w1, HW⟩ : ∃ w1, w1 = (w.alloc (.cells (madeCells #[.int .u8 0] 64) 5)).setRow w.heap.size (rowF d) := ⟨_, rfl⟩
  rw [← HW] at HC
  have hb1 : Below w.heap.size w w1 := by
    rw [HW]
    exact ((Below.refl _ _).alloc (Nat.le_refl _) _).trans ⟨rfl, rfl, rfl, by simp [World.setRow], fun b hb => setRow_other _ _ _ _ (by omega)⟩
  have hcv : (convert 71 9 (.slice (some ⟨w.heap.size, 0, none⟩) 64 64)).run Tryd.prog w1 = .ok (.string (fulB d)) w1 := by
    have h := run_convert_bytes_back (P := Tryd.prog) w1 71 9 5 ⟨w.heap.size, 0, none⟩ 64 (fulB d).data.toList Tryd.underlying71 Tryd.underlying5 Tryd.underlying9 (fun j hj => by
      have hj' : j < 64 := by have := fulB_size d hd; have e := Lib.size_eq (fulB d); omega
      rw [add_at, HW, cell_of_row _ w.heap.size j (rowF d) _ _ (setRow_heap _ _ _ _ _ _ (heap_alloc_new w _)), rowF_at d hd j hj']
      simp [List.getD, List.getElem?_eq_getElem hj])
    have e : (fulB d).data.toList.length = 64 := by have := fulB_size d hd; have e := Lib.size_eq (fulB d); omega
    rw [e] at h
    simpa using h
  clear HW
  go_enter Tryd.func48, Tryd.ntmps48
  go_wp2_with (refine wpList_copy_str _ rfl _ _ 71 9 rfl _ _ rfl rfl HC.out ?_)
  go_ret
  exact ⟨rfl, hb1⟩
end Go.Proofs.YtjnhhnbgjjkkjaaDoor
