/-
  Disks: what a disk of the program and one of the document have in common.
-/
import Derived.Test.YtjnhhnbgjjkkjaaDoorDiskI
namespace Go.Proofs.YtjnhhnbgjjkkjaaDoor
open Go.ChangeShapes Go.WideShapes Go.ChangeAt Go.RowKit
set_option linter.unusedVariables false
set_option linter.unusedSimpArgs false

theorem find_map_rep (l : List (Int × ByteArray)) (c : Int × ByteArray) (s : Int) :
    (l.map (rep c)).find? (fun x => x.1 == s) = if c.1 = s then (if has l c then some c else none) else l.find? (fun x => x.1 == s) := by
  induction l with
  | nil => simp [has]
  | cons x r ih =>
    by_cases hx : x.1 = c.1
    · have e : rep c x = c := by simp [rep, hx]
      by_cases hs : c.1 = s
      · simp [List.map_cons, e, List.find?_cons, hs, has, hx]
      · have hs' : (c.1 == s) = false := by simpa using hs
        rw [List.map_cons, e, List.find?_cons, hs', ih, if_neg hs, if_neg hs, List.find?_cons, show (x.1 == s) = false by rw [hx]; exact hs']
    · have e : rep c x = x := by simp [rep, hx]
      have hh : has (x :: r) c = has r c := by simp [has, hx]
      by_cases hs : c.1 = s
      · have hs' : (x.1 == s) = false := by rw [← hs]; simpa using hx
        rw [List.map_cons, e, List.find?_cons, hs', hh, if_pos hs]
        simp only []
        rw [ih, if_pos hs]
      · rw [List.map_cons, e, List.find?_cons, ih, if_neg hs, if_neg hs, List.find?_cons]
theorem look_putL (l : List (Int × ByteArray)) (c : Int × ByteArray) (s : Int) : look (putL l c) s = if c.1 = s then c.2 else look l s := by
  unfold look putL
  by_cases hh : has l c = true
  · rw [if_pos hh, find_map_rep, hh]
    by_cases hs : c.1 = s
    · rw [if_pos hs, if_pos hs]; rfl
    · rw [if_neg hs, if_neg hs]
  · have hf : has l c = false := by simpa using hh
    rw [if_neg hh, List.find?_append, find_map_rep, hf]
    by_cases hs : c.1 = s
    · rw [if_pos hs, if_pos hs]; simp [hs]
    · have hs' : (c.1 == s) = false := by simpa using hs
      rw [if_neg hs, if_neg hs]
      simp [List.find?_cons, hs']

/-- the same disk; n: how many calls there were -/
structure Sim (n : Nat) (A : PD) (B : RD) : Prop where
  left : A.left = B.left
  st : A.st = B.st
  lt : A.left < 9223372036854775808
  safe : B.safe ≤ B.puts.length
  loose : A.loose = B.puts.drop B.safe
  now : ∀ s, look A.now s = lookR B.puts s
  kept : ∀ s, look A.safe s = lookR (B.puts.take B.safe) s
  wS : Whole64 A.safe
  wN : Whole64 A.now
  wP : Whole64 B.puts
  n1 : A.safe.length + A.loose.length ≤ n
  n2 : A.now.length ≤ n
  n3 : B.puts.length ≤ n
theorem Sim.mono {n m : Nat} {A : PD} {B : RD} (h : Sim n A B) (hm : n ≤ m) : Sim m A B := { h with n1 := Nat.le_trans h.n1 hm, n2 := Nat.le_trans h.n2 hm, n3 := Nat.le_trans h.n3 hm }
theorem leftS_lt {left : Int} {st : Bool} (h : left < 9223372036854775808) : leftS left st < 9223372036854775808 := by 
  unfold leftS
  split
  · omega
  · exact h
theorem Whole64.nil : Whole64 [] := fun c h => by cases h
theorem Sim.new : Sim 0 ⟨[], [], [], -1, false⟩ ⟨[], 0, -1, false⟩ :=
  ⟨rfl, rfl, by decide, Nat.le_refl _, rfl, fun s => rfl, fun s => rfl, Whole64.nil, Whole64.nil, Whole64.nil, Nat.le_refl _, Nat.le_refl _, Nat.le_refl _⟩
theorem Sim.step {n : Nat} {A : PD} {B : RD} (h : Sim n A B) : Sim n { A with left := leftS A.left A.st, st := stS A.left A.st } { B with left := leftS B.left B.st, st := stS B.left B.st } :=
  ⟨by simp only [h.left, h.st], by simp only [h.left, h.st], leftS_lt h.lt, h.safe, h.loose, h.now, h.kept, h.wS, h.wN, h.wP, h.n1, h.n2, h.n3⟩
theorem Sim.stop {n : Nat} {A : PD} {B : RD} (h : Sim n A B) {x : Int} (hx : x < 9223372036854775808) : Sim n { A with left := leftP A.left A.st x } { B with left := leftP B.left B.st x } :=
  ⟨by simp only [h.left, h.st], h.st, by have := h.lt; show leftP _ _ _ < _; unfold leftP; split <;> (try split) <;> omega, h.safe, h.loose, h.now, h.kept, h.wS, h.wN, h.wP, h.n1, h.n2, h.n3⟩
theorem Sim.ok {n : Nat} {A : PD} {B : RD} (h : Sim n A B) : okS A.left A.st = okS B.left B.st := by rw [h.left, h.st]
theorem Sim.wok {n : Nat} {A : PD} {B : RD} (h : Sim n A B) (s : Int) (d : ByteArray) : wOk A.left A.st s d = wOk B.left B.st s d := by rw [h.left, h.st]
theorem Sim.sync {n : Nat} {A : PD} {B : RD} (h : Sim n A B) : Sim n (syncD A) (syncR B) := by
  unfold syncD syncR
  rw [← h.ok]
  split
  · have k := h.step
    exact ⟨k.left, k.st, k.lt, Nat.le_refl _, by simp, h.now, fun s => by simpa using h.now s, h.wN, h.wN, h.wP, by simpa using h.n2, h.n2, h.n3⟩
  · exact h.step
theorem Sim.write {n : Nat} {A : PD} {B : RD} (h : Sim n A B) (s : Int) (d : ByteArray) : Sim (n + 1) (writeD A s d) (writeR B s d) := by
  unfold writeD writeR
  rw [← h.wok]
  split
  · rename_i hw
    have hd : d.size ≤ 64 := by
      have : okS A.left A.st = true ∧ 0 ≤ s ∧ s < 256 ∧ d.size ≤ 64 := by simpa [wOk] using hw
      exact this.2.2.2
    have hf := fulB_size d hd
    have k := h.step
    have q1 := h.n1
    have q2 := h.n2
    have q3 := h.n3
    have q4 := putL_len A.now (s, fulB d)
    refine ⟨k.left, k.st, k.lt, ?_, ?_, ?_, ?_, h.wS, h.wN.put hf, ?_, ?_, ?_, ?_⟩
    · show B.safe ≤ (B.puts ++ [(s, fulB d)]).length
      have := h.safe
      simp; omega
    · show A.loose ++ [(s, fulB d)] = (B.puts ++ [(s, fulB d)]).drop B.safe
      rw [List.drop_append_of_le_length h.safe, h.loose]
    · intro x
      show look (putL A.now (s, fulB d)) x = lookR (B.puts ++ [(s, fulB d)]) x
      rw [look_putL, lookR_snoc, h.now]
    · intro x
      show look A.safe x = lookR ((B.puts ++ [(s, fulB d)]).take B.safe) x
      rw [List.take_append_of_le_length h.safe]
      exact h.kept x
    · intro c hc
      rcases List.mem_append.1 hc with hc | hc
      · exact h.wP c hc
      · simp at hc; subst hc; exact hf
    · show A.safe.length + (A.loose ++ [(s, fulB d)]).length ≤ n + 1
      simp; omega
    · show (putL A.now (s, fulB d)).length ≤ n + 1
      omega
    · show (B.puts ++ [(s, fulB d)]).length ≤ n + 1
      simp; omega
  · exact h.step.mono (by omega)
theorem mixB_all {d y : ByteArray} (hd : d.size = 64) (hy : y.size = 64) : mixB 64 d y = d := by
  unfold mixB
  rw [hy, show y.extract 64 64 = ByteArray.empty by simp, ByteArray.append_empty, ← hd]
  simp
theorem crR_safe (L : List Int) (safe : Nat) (puts : List (Int × ByteArray)) (hp : Whole64 puts) (k : Nat) (hk : k ≤ safe) (hk2 : k ≤ puts.length) : crR L safe puts k = puts.take k := by
  induction k with
  | zero => simp [crR]
  | succ k ih =>
    have e : xR L safe k = 64 := by unfold xR; rw [if_pos (by omega)]
    have e2 : clampN 64 = 64 := by decide
    have hw : Whole64 (puts.take k) := fun c hc => hp c (List.mem_of_mem_take hc)
    simp only [crR]
    rw [e, e2, if_pos (by omega), ih (by omega) (by omega), mixB_all (hp _ (cAt_mem (by omega))) (lookR_size hw _), take_succ_cAt puts k (by omega)]
theorem cAt_drop (l : List (Int × ByteArray)) (a k : Nat) : cAt (l.drop a) k = cAt l (a + k) := by simp [cAt, List.getD, List.getElem?_drop]
theorem cr_same {n : Nat} {A : PD} {B : RD} (h : Sim n A B) (L : List Int) (k : Nat) (hk : k ≤ A.loose.length) : ∀ s, look (crD L A.safe A.loose k) s = lookR (crR L B.safe B.puts (B.safe + k)) s := by
  have hlen : A.loose.length = B.puts.length - B.safe := by rw [h.loose]; simp
  induction k with
  | zero =>
    intro s
    show look A.safe s = _
    rw [crR_safe L B.safe B.puts h.wP _ (by omega) (by have := h.safe; omega)]
    exact h.kept s
  | succ k ih =>
    intro s
    have ih' := ih (by omega)
    have e : xR L B.safe (B.safe + k) = L.getD (k % L.length) 0 := by unfold xR; rw [if_neg (by omega), show B.safe + k - B.safe = k by omega]
    have ec : cAt A.loose k = cAt B.puts (B.safe + k) := by rw [h.loose, cAt_drop]
    show look (crStep (clampN (L.getD (k % L.length) 0)) (crD L A.safe A.loose k) (cAt A.loose k)) s = lookR (crR L B.safe B.puts (B.safe + k + 1)) s
    simp only [crR, crStep]
    rw [e, ec]
    split
    · rw [look_putL, lookR_snoc, ih', ih']
    · exact ih' s
theorem Sim.crash {n : Nat} {A : PD} {B : RD} (h : Sim n A B) (L : List Int) :
    Sim n ⟨crD L A.safe A.loose A.loose.length, crD L A.safe A.loose A.loose.length, [], -1, false⟩ ⟨crR L B.safe B.puts B.puts.length, (crR L B.safe B.puts B.puts.length).length, -1, false⟩ := by
  have hlen : A.loose.length = B.puts.length - B.safe := by rw [h.loose]; simp
  have hw : Whole64 A.loose := by rw [h.loose]; exact fun c hc => h.wP c (List.mem_of_mem_drop hc)
  have hs := cr_same h L A.loose.length (Nat.le_refl _)
  rw [show B.safe + A.loose.length = B.puts.length by have := h.safe; omega] at hs
  obtain ⟨d1, d2⟩ := crD_facts L A.safe A.loose h.wS hw A.loose.length (Nat.le_refl _)
  obtain ⟨r1, r2⟩ := crR_facts L B.safe B.puts h.wP B.puts.length (Nat.le_refl _)
  have q1 := h.n1
  have q3 := h.n3
  exact ⟨rfl, rfl, by show (-1 : Int) < _; omega, Nat.le_refl _, by simp, hs, fun s => by simpa using hs s, d1, d1, r1, by simp; omega, Nat.le_trans d2 q1, Nat.le_trans r2 q3⟩
end Go.Proofs.YtjnhhnbgjjkkjaaDoor
