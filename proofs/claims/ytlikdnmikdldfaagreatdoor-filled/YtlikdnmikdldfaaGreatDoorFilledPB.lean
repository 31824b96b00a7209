/-
  TextRefD, TextRefE, TextCode, TextCut, TextCodeB, TextCodeC, TextBack, BkRd, BkFill, BkFillB, WalkS, TextKeep, BkFy, BkEnv, WalkB
-/
import Derived.Lib.LaidTab
import Derived.Lib.AppendIntMem
import Derived.WalkSmall
import Derived.Lib.IndexBytes
import Derived.Test.YtlikdnmikdldfaaGreatDoorFilledPA
namespace Go.Proofs.YtlikdnmikdldfaaGreatDoor
open Go.ChangeShapes Go.WideShapes Go.ChangeAt Go.RowKit
set_option linter.unusedVariables false
set_option linter.unusedSimpArgs false

def rdB (l : List UInt8) : Int := match rd l with | some p => p.1 | none => 0
def rdN (l : List UInt8) : Int := match rd l with | some p => p.2 | none => 0
def rdE (l : List UInt8) : Int := match rd l with | some _ => 0 | none => 1
theorem rd_none {l : List UInt8} (h : rd l = none) : rdB l = 0 ∧ rdN l = 0 ∧ rdE l = 1 := by simp [rdB, rdN, rdE, h]
theorem rd_some {l : List UInt8} {a n : Int} (h : rd l = some (a, n)) : rdB l = a ∧ rdN l = n ∧ rdE l = 0 := by simp [rdB, rdN, rdE, h]
theorem len_two {ls : List (List UInt8)} (h : ls.length = 2) : ls = [ls.getD 0 [], ls.getD 1 []] := by
  match ls, h with
  | [a, b], _ => rfl
theorem rd_off {l : List UInt8} (h : (parts 47 l).length ≠ 2) : rd l = none := by
  unfold rd
  split
  · rename_i x y e; rw [e] at h; simp at h
  · rfl
theorem addrI_cases (l : List UInt8) : (addrI l = -1 ∧ addr l = none) ∨ (∃ a : Nat, addrI l = a ∧ addr l = some a) := by
  unfold addrI
  rcases h : addr l with _ | a
  · exact .inl ⟨rfl, rfl⟩
  · exact .inr ⟨a, rfl, rfl⟩
theorem four_lt {p0 p1 p2 p3 : List UInt8} {a : Nat} (h : four p0 p1 p2 p3 = some a) : a < 4294967296 := by
  unfold four at h
  split at h
  · rename_i a0 a1 a2 a3 e0 e1 e2 e3
    have h0 := (num_some.1 e0).1
    have h1 := (num_some.1 e1).1
    have h2 := (num_some.1 e2).1
    have h3 := (num_some.1 e3).1
    simp at h; omega
  · cases h
theorem addr_lt {l : List UInt8} {a : Nat} (h : addr l = some a) : a < 4294967296 := by
  unfold addr at h
  split at h
  · exact four_lt h
  · cases h
theorem rd_two {l : List UInt8} (h : (parts 47 l).length = 2) : rd l = (match addr ((parts 47 l).getD 0 []), num ((parts 47 l).getD 1 []) 32 with
    | some a, some n => if rt a n then some ((a : Int), (n : Int)) else none
    | _, _ => none) := by
  conv => lhs; unfold rd
  rw [len_two h]
  rfl
theorem cut_part (c : UInt8) (l : List UInt8) : ∀ s : List (List UInt8) × List UInt8, ∀ B, (∀ p ∈ s.1, p.length ≤ B) → s.2.length + l.length ≤ B → (∀ p ∈ (cutAll c s l).1, p.length ≤ B) ∧ (cutAll c s l).2.length ≤ B := by
  induction l with
  | nil => intro s B h1 h2; simp [cutAll]; exact ⟨h1, by simpa using h2⟩
  | cons x r ih =>
    intro s B h1 h2
    simp only [List.length_cons] at h2
    have := ih (cutStep c s x) B (by
      unfold cutStep; split
      · intro p hp; simp at hp; rcases hp with hp | rfl
        · exact h1 p hp
        · omega
      · exact h1) (by unfold cutStep; split <;> simp <;> omega)
    simpa [cutAll] using this
theorem part_len (c : UInt8) (l : List UInt8) (j : Nat) : ((parts c l).getD j []).length ≤ l.length := by
  obtain ⟨h1, h2⟩ := cut_part c l ([], []) l.length (by simp) (by simp)
  by_cases h : j < (parts c l).length
  · have hm : (parts c l).getD j [] ∈ parts c l := by
      simp [List.getD, List.getElem?_eq_getElem h]
    unfold parts at hm ⊢
    rw [List.mem_append, List.mem_singleton] at hm
    rcases hm with hm | hm
    · exact h1 _ hm
    · rw [hm]; exact h2
  · simp [List.getD, List.getElem?_eq_none (Nat.le_of_not_lt h)]
theorem addrI_lt (l : List UInt8) : addrI l < 4294967296 := by
  rcases addrI_cases l with ⟨e, _⟩ | ⟨a, e, h⟩
  · omega
  · have := addr_lt h; omega

set_option maxRecDepth 1000000 in
set_option maxHeartbeats 1000000 in
theorem rread_len (s : ByteArray) (w : World) (ls : List (List UInt8)) (x y : Int) (p0 p1 : ByteArray) (hp : 1 ≤ ls.length)
    (hc : Hid (∀ w, Calls Tryz.prog 105 #[.string s, .int .u8 47] w fun e w' => ∃ v, e = .returned v ∧ w'.ownsRow w.heap.size 9 1 v ls.length (strs ls) ∧ Below w.heap.size w w'))
    (hp0 : Hid (bs (ls.getD 0 []) = p0)) (hp1 : Hid (bs (ls.getD 1 []) = p1))
    (ca : Hid (∀ w, Calls Tryz.prog 149 #[.string p0] w fun e w' => e = .returned (.int .i64 x) ∧ Below w.heap.size w w'))
    (cn : Hid (∀ w, Calls Tryz.prog 150 #[.string p1, .int .i64 32] w fun e w' => e = .returned (.int .i64 y) ∧ Below w.heap.size w w')) (h : ((ls.length : Int) == 2) = false) :
    Calls Tryz.prog 146 #[.string s] w fun e w' => e = .returned (.tuple #[.agg #[.int .u32 (0), .int .i64 (0)], .int .i64 (1)]) ∧ Below w.heap.size w w' := by
  go_enter Tryz.func146, Tryz.ntmps146
  go_wp2_with (first | (go_at_call 105; refine (hc.out _).mono ?_; rintro e w1 ⟨v, rfl, hown, hb1⟩; obtain ⟨g, cap, hv, hg1, hg2, hg3, hg4, hcell⟩ := owns_form hown hp; rw [hv]; clear hv hown; have hg5 : w.heap.size < g := (by simp at hg1; omega); obtain ⟨hc, hf⟩ := bcell hb1; have c1_0_0 : w1.cell? ⟨w.heap.size, 0, none⟩ = some (.int .u32 0) := (by rw [hc _ _ (by first | omega | (simp; done) | (simp; omega))]; first | assumption | (rw [World.cell?_alloc_past _ _ _ (by omega)]; assumption) | (simp [go_sem, *]; done)); have f1_0_0 : w1.frozen? ⟨w.heap.size, 0, none⟩ = false := (by rw [hf _ _ (by first | omega | (simp; done) | (simp; omega))]; first | assumption | (rw [World.frozen?_alloc_past _ _ _ (by omega)]; assumption) | (simp [go_sem, *]; done)); have c1_0_1 : w1.cell? ⟨w.heap.size, 1, none⟩ = some (.int .i64 0) := (by rw [hc _ _ (by first | omega | (simp; done) | (simp; omega))]; first | assumption | (rw [World.cell?_alloc_past _ _ _ (by omega)]; assumption) | (simp [go_sem, *]; done)); have f1_0_1 : w1.frozen? ⟨w.heap.size, 1, none⟩ = false := (by rw [hf _ _ (by first | omega | (simp; done) | (simp; omega))]; first | assumption | (rw [World.frozen?_alloc_past _ _ _ (by omega)]; assumption) | (simp [go_sem, *]; done)); have z1_0 : w.heap.size < w1.heap.size := (by have := hb1.size; (try simp at this); omega); clear hc hf; clear hcell hg1))
  exact bodyPost_ret (v := .tuple #[.agg #[.int .u32 (0), .int .i64 (0)], .int .i64 (1)]) (by simp [results, Tryz.results146, go_sem, c1_0_0, c1_0_1, f1_0_0, f1_0_1, World.cell?_alloc_lt, z1_0, Nat.lt_succ_of_lt z1_0]) rfl ⟨rfl, (by have hq := hb1.mono (B' := w.heap.size) (by first | omega | (simp; done) | (simp; omega)); have hq2 := Below.trans (B := w.heap.size) (a := w) (by repeat' (first | with_reducible assumption | with_reducible exact Below.refl _ _ | with_reducible apply Below.drew | with_reducible apply below_drewN | with_reducible apply Below.setCell | with_reducible apply Below.alloc | omega | (simp; done) | (simp; omega))) hq; clear hq; have s1 := hq2.size; repeat' (first | with_reducible assumption | with_reducible exact Below.refl _ _ | with_reducible apply Below.drew | with_reducible apply below_drewN | with_reducible apply Below.setCell | with_reducible apply Below.alloc | omega | (simp; done) | (simp; omega)))⟩

set_option maxRecDepth 1000000 in
set_option maxHeartbeats 1000000 in
theorem rread_addr (s : ByteArray) (w : World) (ls : List (List UInt8)) (x y : Int) (p0 p1 : ByteArray) (hp : 1 ≤ ls.length)
    (hc : Hid (∀ w, Calls Tryz.prog 105 #[.string s, .int .u8 47] w fun e w' => ∃ v, e = .returned v ∧ w'.ownsRow w.heap.size 9 1 v ls.length (strs ls) ∧ Below w.heap.size w w'))
    (hp0 : Hid (bs (ls.getD 0 []) = p0)) (hp1 : Hid (bs (ls.getD 1 []) = p1))
    (ca : Hid (∀ w, Calls Tryz.prog 149 #[.string p0] w fun e w' => e = .returned (.int .i64 x) ∧ Below w.heap.size w w'))
    (cn : Hid (∀ w, Calls Tryz.prog 150 #[.string p1, .int .i64 32] w fun e w' => e = .returned (.int .i64 y) ∧ Below w.heap.size w w')) (h2 : ls.length = 2) (hx : x < 0) :
    Calls Tryz.prog 146 #[.string s] w fun e w' => e = .returned (.tuple #[.agg #[.int .u32 (0), .int .i64 (0)], .int .i64 (1)]) ∧ Below w.heap.size w w' := by
  have h : ((ls.length : Int) == 2) = true := by simp; omega
  go_enter Tryz.func146, Tryz.ntmps146
  go_wp2_with (first | (go_at_call 105; refine (hc.out _).mono ?_; rintro e w1 ⟨v, rfl, hown, hb1⟩; obtain ⟨g, cap, hv, hg1, hg2, hg3, hg4, hcell⟩ := owns_form hown hp; rw [hv]; clear hv hown; have hg5 : w.heap.size < g := (by simp at hg1; omega); have c1_1_0 : w1.cell? ⟨g, 0, none⟩ = some (.string p0) := (by rw [hcell 0 (by omega), hp0.out]); have c1_1_1 : w1.cell? ⟨g, 1, none⟩ = some (.string p1) := (by rw [hcell 1 (by omega), hp1.out]); obtain ⟨hc, hf⟩ := bcell hb1; have c1_0_0 : w1.cell? ⟨w.heap.size, 0, none⟩ = some (.int .u32 0) := (by rw [hc _ _ (by first | omega | (simp; done) | (simp; omega))]; first | assumption | (rw [World.cell?_alloc_past _ _ _ (by omega)]; assumption) | (simp [go_sem, *]; done)); have f1_0_0 : w1.frozen? ⟨w.heap.size, 0, none⟩ = false := (by rw [hf _ _ (by first | omega | (simp; done) | (simp; omega))]; first | assumption | (rw [World.frozen?_alloc_past _ _ _ (by omega)]; assumption) | (simp [go_sem, *]; done)); have c1_0_1 : w1.cell? ⟨w.heap.size, 1, none⟩ = some (.int .i64 0) := (by rw [hc _ _ (by first | omega | (simp; done) | (simp; omega))]; first | assumption | (rw [World.cell?_alloc_past _ _ _ (by omega)]; assumption) | (simp [go_sem, *]; done)); have f1_0_1 : w1.frozen? ⟨w.heap.size, 1, none⟩ = false := (by rw [hf _ _ (by first | omega | (simp; done) | (simp; omega))]; first | assumption | (rw [World.frozen?_alloc_past _ _ _ (by omega)]; assumption) | (simp [go_sem, *]; done)); have z1_0 : w.heap.size < w1.heap.size := (by have := hb1.size; (try simp at this); omega); clear hc hf; clear hcell hg1) | (go_at_call 149; refine (ca.out _).mono ?_; rintro e w2 ⟨rfl, hb2⟩; obtain ⟨hc, hf⟩ := bcell hb2; have c2_0_0 : w2.cell? ⟨w.heap.size, 0, none⟩ = some (.int .u32 0) := (by rw [hc _ _ (by first | omega | (simp; done) | (simp; omega))]; first | assumption | (rw [World.cell?_alloc_past _ _ _ (by omega)]; assumption) | (simp [go_sem, *]; done)); have f2_0_0 : w2.frozen? ⟨w.heap.size, 0, none⟩ = false := (by rw [hf _ _ (by first | omega | (simp; done) | (simp; omega))]; first | assumption | (rw [World.frozen?_alloc_past _ _ _ (by omega)]; assumption) | (simp [go_sem, *]; done)); have c2_0_1 : w2.cell? ⟨w.heap.size, 1, none⟩ = some (.int .i64 0) := (by rw [hc _ _ (by first | omega | (simp; done) | (simp; omega))]; first | assumption | (rw [World.cell?_alloc_past _ _ _ (by omega)]; assumption) | (simp [go_sem, *]; done)); have f2_0_1 : w2.frozen? ⟨w.heap.size, 1, none⟩ = false := (by rw [hf _ _ (by first | omega | (simp; done) | (simp; omega))]; first | assumption | (rw [World.frozen?_alloc_past _ _ _ (by omega)]; assumption) | (simp [go_sem, *]; done)); have c2_1_0 : w2.cell? ⟨g, 0, none⟩ = some (.string p0) := (by rw [hc _ _ (by first | omega | (simp; done) | (simp; omega))]; first | assumption | (rw [World.cell?_alloc_past _ _ _ (by omega)]; assumption) | (simp [go_sem, *]; done)); have c2_1_1 : w2.cell? ⟨g, 1, none⟩ = some (.string p1) := (by rw [hc _ _ (by first | omega | (simp; done) | (simp; omega))]; first | assumption | (rw [World.cell?_alloc_past _ _ _ (by omega)]; assumption) | (simp [go_sem, *]; done)); have z2_0 : w.heap.size < w2.heap.size := (by have := hb2.size; (try simp at this); omega); have z2_1 : g < w2.heap.size := (by have := hb2.size; (try simp at this); omega); clear hc hf; clear c1_0_0 c1_0_1 f1_0_0 f1_0_1 z1_0 c1_1_0 c1_1_1) | (go_at_call 150; refine (cn.out _).mono ?_; rintro e w3 ⟨rfl, hb3⟩; obtain ⟨hc, hf⟩ := bcell hb3; have c3_0_0 : w3.cell? ⟨w.heap.size, 0, none⟩ = some (.int .u32 0) := (by rw [hc _ _ (by first | omega | (simp; done) | (simp; omega))]; first | assumption | (rw [World.cell?_alloc_past _ _ _ (by omega)]; assumption) | (simp [go_sem, *]; done)); have f3_0_0 : w3.frozen? ⟨w.heap.size, 0, none⟩ = false := (by rw [hf _ _ (by first | omega | (simp; done) | (simp; omega))]; first | assumption | (rw [World.frozen?_alloc_past _ _ _ (by omega)]; assumption) | (simp [go_sem, *]; done)); have c3_0_1 : w3.cell? ⟨w.heap.size, 1, none⟩ = some (.int .i64 0) := (by rw [hc _ _ (by first | omega | (simp; done) | (simp; omega))]; first | assumption | (rw [World.cell?_alloc_past _ _ _ (by omega)]; assumption) | (simp [go_sem, *]; done)); have f3_0_1 : w3.frozen? ⟨w.heap.size, 1, none⟩ = false := (by rw [hf _ _ (by first | omega | (simp; done) | (simp; omega))]; first | assumption | (rw [World.frozen?_alloc_past _ _ _ (by omega)]; assumption) | (simp [go_sem, *]; done)); have z3_0 : w.heap.size < w3.heap.size := (by have := hb3.size; (try simp at this); omega); clear hc hf; clear c2_0_0 c2_0_1 f2_0_0 f2_0_1 z2_0 c2_1_0 c2_1_1 z2_1))
  exact bodyPost_ret (v := .tuple #[.agg #[.int .u32 (0), .int .i64 (0)], .int .i64 (1)]) (by simp [results, Tryz.results146, go_sem, c3_0_0, c3_0_1, f3_0_0, f3_0_1, World.cell?_alloc_lt, z3_0, Nat.lt_succ_of_lt z3_0]) rfl ⟨rfl, (by have hq := hb1.mono (B' := w.heap.size) (by first | omega | (simp; done) | (simp; omega)); have hq2 := Below.trans (B := w.heap.size) (a := w) (by repeat' (first | with_reducible assumption | with_reducible exact Below.refl _ _ | with_reducible apply Below.drew | with_reducible apply below_drewN | with_reducible apply Below.setCell | with_reducible apply Below.alloc | omega | (simp; done) | (simp; omega))) hq; clear hq; have s1 := hq2.size; have hq3 := Below.trans (B := w.heap.size) (a := w) (by repeat' (first | with_reducible assumption | with_reducible exact Below.refl _ _ | with_reducible apply Below.drew | with_reducible apply below_drewN | with_reducible apply Below.setCell | with_reducible apply Below.alloc | omega | (simp; done) | (simp; omega))) (hb2.mono (B' := w.heap.size) (by first | omega | (simp; done) | (simp; omega))); have s2 := hq3.size; clear hq2; have hq4 := Below.trans (B := w.heap.size) (a := w) (by repeat' (first | with_reducible assumption | with_reducible exact Below.refl _ _ | with_reducible apply Below.drew | with_reducible apply below_drewN | with_reducible apply Below.setCell | with_reducible apply Below.alloc | omega | (simp; done) | (simp; omega))) (hb3.mono (B' := w.heap.size) (by first | omega | (simp; done) | (simp; omega))); have s3 := hq4.size; clear hq3; repeat' (first | with_reducible assumption | with_reducible exact Below.refl _ _ | with_reducible apply Below.drew | with_reducible apply below_drewN | with_reducible apply Below.setCell | with_reducible apply Below.alloc | omega | (simp; done) | (simp; omega)))⟩

set_option maxRecDepth 1000000 in
set_option maxHeartbeats 1000000 in
theorem rread_num (s : ByteArray) (w : World) (ls : List (List UInt8)) (x y : Int) (p0 p1 : ByteArray) (hp : 1 ≤ ls.length)
    (hc : Hid (∀ w, Calls Tryz.prog 105 #[.string s, .int .u8 47] w fun e w' => ∃ v, e = .returned v ∧ w'.ownsRow w.heap.size 9 1 v ls.length (strs ls) ∧ Below w.heap.size w w'))
    (hp0 : Hid (bs (ls.getD 0 []) = p0)) (hp1 : Hid (bs (ls.getD 1 []) = p1))
    (ca : Hid (∀ w, Calls Tryz.prog 149 #[.string p0] w fun e w' => e = .returned (.int .i64 x) ∧ Below w.heap.size w w'))
    (cn : Hid (∀ w, Calls Tryz.prog 150 #[.string p1, .int .i64 32] w fun e w' => e = .returned (.int .i64 y) ∧ Below w.heap.size w w')) (h2 : ls.length = 2) (hx : ¬ x < 0) (hy : y < 0) :
    Calls Tryz.prog 146 #[.string s] w fun e w' => e = .returned (.tuple #[.agg #[.int .u32 (0), .int .i64 (0)], .int .i64 (1)]) ∧ Below w.heap.size w w' := by
  have h : ((ls.length : Int) == 2) = true := by simp; omega
  go_enter Tryz.func146, Tryz.ntmps146
  go_wp2_with (first | (go_at_call 105; refine (hc.out _).mono ?_; rintro e w1 ⟨v, rfl, hown, hb1⟩; obtain ⟨g, cap, hv, hg1, hg2, hg3, hg4, hcell⟩ := owns_form hown hp; rw [hv]; clear hv hown; have hg5 : w.heap.size < g := (by simp at hg1; omega); have c1_1_0 : w1.cell? ⟨g, 0, none⟩ = some (.string p0) := (by rw [hcell 0 (by omega), hp0.out]); have c1_1_1 : w1.cell? ⟨g, 1, none⟩ = some (.string p1) := (by rw [hcell 1 (by omega), hp1.out]); obtain ⟨hc, hf⟩ := bcell hb1; have c1_0_0 : w1.cell? ⟨w.heap.size, 0, none⟩ = some (.int .u32 0) := (by rw [hc _ _ (by first | omega | (simp; done) | (simp; omega))]; first | assumption | (rw [World.cell?_alloc_past _ _ _ (by omega)]; assumption) | (simp [go_sem, *]; done)); have f1_0_0 : w1.frozen? ⟨w.heap.size, 0, none⟩ = false := (by rw [hf _ _ (by first | omega | (simp; done) | (simp; omega))]; first | assumption | (rw [World.frozen?_alloc_past _ _ _ (by omega)]; assumption) | (simp [go_sem, *]; done)); have c1_0_1 : w1.cell? ⟨w.heap.size, 1, none⟩ = some (.int .i64 0) := (by rw [hc _ _ (by first | omega | (simp; done) | (simp; omega))]; first | assumption | (rw [World.cell?_alloc_past _ _ _ (by omega)]; assumption) | (simp [go_sem, *]; done)); have f1_0_1 : w1.frozen? ⟨w.heap.size, 1, none⟩ = false := (by rw [hf _ _ (by first | omega | (simp; done) | (simp; omega))]; first | assumption | (rw [World.frozen?_alloc_past _ _ _ (by omega)]; assumption) | (simp [go_sem, *]; done)); have z1_0 : w.heap.size < w1.heap.size := (by have := hb1.size; (try simp at this); omega); clear hc hf; clear hcell hg1) | (go_at_call 149; refine (ca.out _).mono ?_; rintro e w2 ⟨rfl, hb2⟩; obtain ⟨hc, hf⟩ := bcell hb2; have c2_0_0 : w2.cell? ⟨w.heap.size, 0, none⟩ = some (.int .u32 0) := (by rw [hc _ _ (by first | omega | (simp; done) | (simp; omega))]; first | assumption | (rw [World.cell?_alloc_past _ _ _ (by omega)]; assumption) | (simp [go_sem, *]; done)); have f2_0_0 : w2.frozen? ⟨w.heap.size, 0, none⟩ = false := (by rw [hf _ _ (by first | omega | (simp; done) | (simp; omega))]; first | assumption | (rw [World.frozen?_alloc_past _ _ _ (by omega)]; assumption) | (simp [go_sem, *]; done)); have c2_0_1 : w2.cell? ⟨w.heap.size, 1, none⟩ = some (.int .i64 0) := (by rw [hc _ _ (by first | omega | (simp; done) | (simp; omega))]; first | assumption | (rw [World.cell?_alloc_past _ _ _ (by omega)]; assumption) | (simp [go_sem, *]; done)); have f2_0_1 : w2.frozen? ⟨w.heap.size, 1, none⟩ = false := (by rw [hf _ _ (by first | omega | (simp; done) | (simp; omega))]; first | assumption | (rw [World.frozen?_alloc_past _ _ _ (by omega)]; assumption) | (simp [go_sem, *]; done)); have c2_1_0 : w2.cell? ⟨g, 0, none⟩ = some (.string p0) := (by rw [hc _ _ (by first | omega | (simp; done) | (simp; omega))]; first | assumption | (rw [World.cell?_alloc_past _ _ _ (by omega)]; assumption) | (simp [go_sem, *]; done)); have c2_1_1 : w2.cell? ⟨g, 1, none⟩ = some (.string p1) := (by rw [hc _ _ (by first | omega | (simp; done) | (simp; omega))]; first | assumption | (rw [World.cell?_alloc_past _ _ _ (by omega)]; assumption) | (simp [go_sem, *]; done)); have z2_0 : w.heap.size < w2.heap.size := (by have := hb2.size; (try simp at this); omega); have z2_1 : g < w2.heap.size := (by have := hb2.size; (try simp at this); omega); clear hc hf; clear c1_0_0 c1_0_1 f1_0_0 f1_0_1 z1_0 c1_1_0 c1_1_1) | (go_at_call 150; refine (cn.out _).mono ?_; rintro e w3 ⟨rfl, hb3⟩; obtain ⟨hc, hf⟩ := bcell hb3; have c3_0_0 : w3.cell? ⟨w.heap.size, 0, none⟩ = some (.int .u32 0) := (by rw [hc _ _ (by first | omega | (simp; done) | (simp; omega))]; first | assumption | (rw [World.cell?_alloc_past _ _ _ (by omega)]; assumption) | (simp [go_sem, *]; done)); have f3_0_0 : w3.frozen? ⟨w.heap.size, 0, none⟩ = false := (by rw [hf _ _ (by first | omega | (simp; done) | (simp; omega))]; first | assumption | (rw [World.frozen?_alloc_past _ _ _ (by omega)]; assumption) | (simp [go_sem, *]; done)); have c3_0_1 : w3.cell? ⟨w.heap.size, 1, none⟩ = some (.int .i64 0) := (by rw [hc _ _ (by first | omega | (simp; done) | (simp; omega))]; first | assumption | (rw [World.cell?_alloc_past _ _ _ (by omega)]; assumption) | (simp [go_sem, *]; done)); have f3_0_1 : w3.frozen? ⟨w.heap.size, 1, none⟩ = false := (by rw [hf _ _ (by first | omega | (simp; done) | (simp; omega))]; first | assumption | (rw [World.frozen?_alloc_past _ _ _ (by omega)]; assumption) | (simp [go_sem, *]; done)); have z3_0 : w.heap.size < w3.heap.size := (by have := hb3.size; (try simp at this); omega); clear hc hf; clear c2_0_0 c2_0_1 f2_0_0 f2_0_1 z2_0 c2_1_0 c2_1_1 z2_1))
  exact bodyPost_ret (v := .tuple #[.agg #[.int .u32 (0), .int .i64 (0)], .int .i64 (1)]) (by simp [results, Tryz.results146, go_sem, c3_0_0, c3_0_1, f3_0_0, f3_0_1, World.cell?_alloc_lt, z3_0, Nat.lt_succ_of_lt z3_0]) rfl ⟨rfl, (by have hq := hb1.mono (B' := w.heap.size) (by first | omega | (simp; done) | (simp; omega)); have hq2 := Below.trans (B := w.heap.size) (a := w) (by repeat' (first | with_reducible assumption | with_reducible exact Below.refl _ _ | with_reducible apply Below.drew | with_reducible apply below_drewN | with_reducible apply Below.setCell | with_reducible apply Below.alloc | omega | (simp; done) | (simp; omega))) hq; clear hq; have s1 := hq2.size; have hq3 := Below.trans (B := w.heap.size) (a := w) (by repeat' (first | with_reducible assumption | with_reducible exact Below.refl _ _ | with_reducible apply Below.drew | with_reducible apply below_drewN | with_reducible apply Below.setCell | with_reducible apply Below.alloc | omega | (simp; done) | (simp; omega))) (hb2.mono (B' := w.heap.size) (by first | omega | (simp; done) | (simp; omega))); have s2 := hq3.size; clear hq2; have hq4 := Below.trans (B := w.heap.size) (a := w) (by repeat' (first | with_reducible assumption | with_reducible exact Below.refl _ _ | with_reducible apply Below.drew | with_reducible apply below_drewN | with_reducible apply Below.setCell | with_reducible apply Below.alloc | omega | (simp; done) | (simp; omega))) (hb3.mono (B' := w.heap.size) (by first | omega | (simp; done) | (simp; omega))); have s3 := hq4.size; clear hq3; repeat' (first | with_reducible assumption | with_reducible exact Below.refl _ _ | with_reducible apply Below.drew | with_reducible apply below_drewN | with_reducible apply Below.setCell | with_reducible apply Below.alloc | omega | (simp; done) | (simp; omega)))⟩

set_option maxRecDepth 1000000 in
set_option maxHeartbeats 1000000 in
theorem rread_not (s : ByteArray) (w : World) (ls : List (List UInt8)) (x y : Int) (p0 p1 : ByteArray) (hp : 1 ≤ ls.length)
    (hc : Hid (∀ w, Calls Tryz.prog 105 #[.string s, .int .u8 47] w fun e w' => ∃ v, e = .returned v ∧ w'.ownsRow w.heap.size 9 1 v ls.length (strs ls) ∧ Below w.heap.size w w'))
    (hp0 : Hid (bs (ls.getD 0 []) = p0)) (hp1 : Hid (bs (ls.getD 1 []) = p1))
    (ca : Hid (∀ w, Calls Tryz.prog 149 #[.string p0] w fun e w' => e = .returned (.int .i64 x) ∧ Below w.heap.size w w'))
    (cn : Hid (∀ w, Calls Tryz.prog 150 #[.string p1, .int .i64 32] w fun e w' => e = .returned (.int .i64 y) ∧ Below w.heap.size w w')) (h2 : ls.length = 2) (hx : ¬ x < 0) (hy : ¬ y < 0) (x0 : 0 ≤ x) (x1 : x < 4294967296) (hr : rt x y = false) :
    Calls Tryz.prog 146 #[.string s] w fun e w' => e = .returned (.tuple #[.agg #[.int .u32 (0), .int .i64 (0)], .int .i64 (1)]) ∧ Below w.heap.size w w' := by
  have h : ((ls.length : Int) == 2) = true := by simp; omega
  go_enter Tryz.func146, Tryz.ntmps146
  go_wp2_with (first | (go_at_call 105; refine (hc.out _).mono ?_; rintro e w1 ⟨v, rfl, hown, hb1⟩; obtain ⟨g, cap, hv, hg1, hg2, hg3, hg4, hcell⟩ := owns_form hown hp; rw [hv]; clear hv hown; have hg5 : w.heap.size < g := (by simp at hg1; omega); have c1_1_0 : w1.cell? ⟨g, 0, none⟩ = some (.string p0) := (by rw [hcell 0 (by omega), hp0.out]); have c1_1_1 : w1.cell? ⟨g, 1, none⟩ = some (.string p1) := (by rw [hcell 1 (by omega), hp1.out]); obtain ⟨hc, hf⟩ := bcell hb1; have c1_0_0 : w1.cell? ⟨w.heap.size, 0, none⟩ = some (.int .u32 0) := (by rw [hc _ _ (by first | omega | (simp; done) | (simp; omega))]; first | assumption | (rw [World.cell?_alloc_past _ _ _ (by omega)]; assumption) | (simp [go_sem, *]; done)); have f1_0_0 : w1.frozen? ⟨w.heap.size, 0, none⟩ = false := (by rw [hf _ _ (by first | omega | (simp; done) | (simp; omega))]; first | assumption | (rw [World.frozen?_alloc_past _ _ _ (by omega)]; assumption) | (simp [go_sem, *]; done)); have c1_0_1 : w1.cell? ⟨w.heap.size, 1, none⟩ = some (.int .i64 0) := (by rw [hc _ _ (by first | omega | (simp; done) | (simp; omega))]; first | assumption | (rw [World.cell?_alloc_past _ _ _ (by omega)]; assumption) | (simp [go_sem, *]; done)); have f1_0_1 : w1.frozen? ⟨w.heap.size, 1, none⟩ = false := (by rw [hf _ _ (by first | omega | (simp; done) | (simp; omega))]; first | assumption | (rw [World.frozen?_alloc_past _ _ _ (by omega)]; assumption) | (simp [go_sem, *]; done)); have z1_0 : w.heap.size < w1.heap.size := (by have := hb1.size; (try simp at this); omega); clear hc hf; clear hcell hg1) | (go_at_call 149; refine (ca.out _).mono ?_; rintro e w2 ⟨rfl, hb2⟩; obtain ⟨hc, hf⟩ := bcell hb2; have c2_0_0 : w2.cell? ⟨w.heap.size, 0, none⟩ = some (.int .u32 0) := (by rw [hc _ _ (by first | omega | (simp; done) | (simp; omega))]; first | assumption | (rw [World.cell?_alloc_past _ _ _ (by omega)]; assumption) | (simp [go_sem, *]; done)); have f2_0_0 : w2.frozen? ⟨w.heap.size, 0, none⟩ = false := (by rw [hf _ _ (by first | omega | (simp; done) | (simp; omega))]; first | assumption | (rw [World.frozen?_alloc_past _ _ _ (by omega)]; assumption) | (simp [go_sem, *]; done)); have c2_0_1 : w2.cell? ⟨w.heap.size, 1, none⟩ = some (.int .i64 0) := (by rw [hc _ _ (by first | omega | (simp; done) | (simp; omega))]; first | assumption | (rw [World.cell?_alloc_past _ _ _ (by omega)]; assumption) | (simp [go_sem, *]; done)); have f2_0_1 : w2.frozen? ⟨w.heap.size, 1, none⟩ = false := (by rw [hf _ _ (by first | omega | (simp; done) | (simp; omega))]; first | assumption | (rw [World.frozen?_alloc_past _ _ _ (by omega)]; assumption) | (simp [go_sem, *]; done)); have c2_1_0 : w2.cell? ⟨g, 0, none⟩ = some (.string p0) := (by rw [hc _ _ (by first | omega | (simp; done) | (simp; omega))]; first | assumption | (rw [World.cell?_alloc_past _ _ _ (by omega)]; assumption) | (simp [go_sem, *]; done)); have c2_1_1 : w2.cell? ⟨g, 1, none⟩ = some (.string p1) := (by rw [hc _ _ (by first | omega | (simp; done) | (simp; omega))]; first | assumption | (rw [World.cell?_alloc_past _ _ _ (by omega)]; assumption) | (simp [go_sem, *]; done)); have z2_0 : w.heap.size < w2.heap.size := (by have := hb2.size; (try simp at this); omega); have z2_1 : g < w2.heap.size := (by have := hb2.size; (try simp at this); omega); clear hc hf; clear c1_0_0 c1_0_1 f1_0_0 f1_0_1 z1_0 c1_1_0 c1_1_1) | (go_at_call 150; refine (cn.out _).mono ?_; rintro e w3 ⟨rfl, hb3⟩; obtain ⟨hc, hf⟩ := bcell hb3; have c3_0_0 : w3.cell? ⟨w.heap.size, 0, none⟩ = some (.int .u32 0) := (by rw [hc _ _ (by first | omega | (simp; done) | (simp; omega))]; first | assumption | (rw [World.cell?_alloc_past _ _ _ (by omega)]; assumption) | (simp [go_sem, *]; done)); have f3_0_0 : w3.frozen? ⟨w.heap.size, 0, none⟩ = false := (by rw [hf _ _ (by first | omega | (simp; done) | (simp; omega))]; first | assumption | (rw [World.frozen?_alloc_past _ _ _ (by omega)]; assumption) | (simp [go_sem, *]; done)); have c3_0_1 : w3.cell? ⟨w.heap.size, 1, none⟩ = some (.int .i64 0) := (by rw [hc _ _ (by first | omega | (simp; done) | (simp; omega))]; first | assumption | (rw [World.cell?_alloc_past _ _ _ (by omega)]; assumption) | (simp [go_sem, *]; done)); have f3_0_1 : w3.frozen? ⟨w.heap.size, 1, none⟩ = false := (by rw [hf _ _ (by first | omega | (simp; done) | (simp; omega))]; first | assumption | (rw [World.frozen?_alloc_past _ _ _ (by omega)]; assumption) | (simp [go_sem, *]; done)); have z3_0 : w.heap.size < w3.heap.size := (by have := hb3.size; (try simp at this); omega); clear hc hf; clear c2_0_0 c2_0_1 f2_0_0 f2_0_1 z2_0 c2_1_0 c2_1_1 z2_1) | (go_at_call 184; refine (rright_any _ _ _ x0 x1).mono ?_; rintro e w4 ⟨rfl, hb4⟩; obtain ⟨hc, hf⟩ := bcell hb4; have c4_0_0 : w4.cell? ⟨w.heap.size, 0, none⟩ = some (.int .u32 0) := (by rw [hc _ _ (by first | omega | (simp; done) | (simp; omega))]; first | assumption | (rw [World.cell?_alloc_past _ _ _ (by omega)]; assumption) | (simp [go_sem, *]; done)); have f4_0_0 : w4.frozen? ⟨w.heap.size, 0, none⟩ = false := (by rw [hf _ _ (by first | omega | (simp; done) | (simp; omega))]; first | assumption | (rw [World.frozen?_alloc_past _ _ _ (by omega)]; assumption) | (simp [go_sem, *]; done)); have c4_0_1 : w4.cell? ⟨w.heap.size, 1, none⟩ = some (.int .i64 0) := (by rw [hc _ _ (by first | omega | (simp; done) | (simp; omega))]; first | assumption | (rw [World.cell?_alloc_past _ _ _ (by omega)]; assumption) | (simp [go_sem, *]; done)); have f4_0_1 : w4.frozen? ⟨w.heap.size, 1, none⟩ = false := (by rw [hf _ _ (by first | omega | (simp; done) | (simp; omega))]; first | assumption | (rw [World.frozen?_alloc_past _ _ _ (by omega)]; assumption) | (simp [go_sem, *]; done)); have c4_1_0 : w4.cell? ⟨w3.heap.size, 0, none⟩ = some (.int .u32 x) := (by rw [hc _ _ (by first | omega | (simp; done) | (simp; omega))]; first | assumption | (rw [World.cell?_alloc_past _ _ _ (by omega)]; assumption) | (simp [go_sem, *]; done)); have c4_1_1 : w4.cell? ⟨w3.heap.size, 1, none⟩ = some (.int .i64 y) := (by rw [hc _ _ (by first | omega | (simp; done) | (simp; omega))]; first | assumption | (rw [World.cell?_alloc_past _ _ _ (by omega)]; assumption) | (simp [go_sem, *]; done)); have z4_0 : w.heap.size < w4.heap.size := (by have := hb4.size; (try simp at this); omega); have z4_1 : w3.heap.size < w4.heap.size := (by have := hb4.size; (try simp at this); omega); clear hc hf; clear c3_0_0 c3_0_1 f3_0_0 f3_0_1 z3_0))
  exact bodyPost_ret (v := .tuple #[.agg #[.int .u32 (0), .int .i64 (0)], .int .i64 (1)]) (by simp [results, Tryz.results146, go_sem, c4_0_0, c4_0_1, f4_0_0, f4_0_1, World.cell?_alloc_lt, z4_0, Nat.lt_succ_of_lt z4_0]) rfl ⟨rfl, (by have hq := hb1.mono (B' := w.heap.size) (by first | omega | (simp; done) | (simp; omega)); have hq2 := Below.trans (B := w.heap.size) (a := w) (by repeat' (first | with_reducible assumption | with_reducible exact Below.refl _ _ | with_reducible apply Below.drew | with_reducible apply below_drewN | with_reducible apply Below.setCell | with_reducible apply Below.alloc | omega | (simp; done) | (simp; omega))) hq; clear hq; have s1 := hq2.size; have hq3 := Below.trans (B := w.heap.size) (a := w) (by repeat' (first | with_reducible assumption | with_reducible exact Below.refl _ _ | with_reducible apply Below.drew | with_reducible apply below_drewN | with_reducible apply Below.setCell | with_reducible apply Below.alloc | omega | (simp; done) | (simp; omega))) (hb2.mono (B' := w.heap.size) (by first | omega | (simp; done) | (simp; omega))); have s2 := hq3.size; clear hq2; have hq4 := Below.trans (B := w.heap.size) (a := w) (by repeat' (first | with_reducible assumption | with_reducible exact Below.refl _ _ | with_reducible apply Below.drew | with_reducible apply below_drewN | with_reducible apply Below.setCell | with_reducible apply Below.alloc | omega | (simp; done) | (simp; omega))) (hb3.mono (B' := w.heap.size) (by first | omega | (simp; done) | (simp; omega))); have s3 := hq4.size; clear hq3; have hq5 := Below.trans (B := w.heap.size) (a := w) (by repeat' (first | with_reducible assumption | with_reducible exact Below.refl _ _ | with_reducible apply Below.drew | with_reducible apply below_drewN | with_reducible apply Below.setCell | with_reducible apply Below.alloc | omega | (simp; done) | (simp; omega))) (hb4.mono (B' := w.heap.size) (by first | omega | (simp; done) | (simp; omega))); have s4 := hq5.size; clear hq4; repeat' (first | with_reducible assumption | with_reducible exact Below.refl _ _ | with_reducible apply Below.drew | with_reducible apply below_drewN | with_reducible apply Below.setCell | with_reducible apply Below.alloc | omega | (simp; done) | (simp; omega)))⟩

set_option maxRecDepth 1000000 in
set_option maxHeartbeats 1000000 in
theorem rread_ok (s : ByteArray) (w : World) (ls : List (List UInt8)) (x y : Int) (p0 p1 : ByteArray) (hp : 1 ≤ ls.length)
    (hc : Hid (∀ w, Calls Tryz.prog 105 #[.string s, .int .u8 47] w fun e w' => ∃ v, e = .returned v ∧ w'.ownsRow w.heap.size 9 1 v ls.length (strs ls) ∧ Below w.heap.size w w'))
    (hp0 : Hid (bs (ls.getD 0 []) = p0)) (hp1 : Hid (bs (ls.getD 1 []) = p1))
    (ca : Hid (∀ w, Calls Tryz.prog 149 #[.string p0] w fun e w' => e = .returned (.int .i64 x) ∧ Below w.heap.size w w'))
    (cn : Hid (∀ w, Calls Tryz.prog 150 #[.string p1, .int .i64 32] w fun e w' => e = .returned (.int .i64 y) ∧ Below w.heap.size w w')) (h2 : ls.length = 2) (hx : ¬ x < 0) (hy : ¬ y < 0) (x0 : 0 ≤ x) (x1 : x < 4294967296) (hr : rt x y = true) :
    Calls Tryz.prog 146 #[.string s] w fun e w' => e = .returned (.tuple #[.agg #[.int .u32 (x), .int .i64 (y)], .int .i64 (0)]) ∧ Below w.heap.size w w' := by
  have h : ((ls.length : Int) == 2) = true := by simp; omega
  go_enter Tryz.func146, Tryz.ntmps146
  go_wp2_with (first | (go_at_call 105; refine (hc.out _).mono ?_; rintro e w1 ⟨v, rfl, hown, hb1⟩; obtain ⟨g, cap, hv, hg1, hg2, hg3, hg4, hcell⟩ := owns_form hown hp; rw [hv]; clear hv hown; have hg5 : w.heap.size < g := (by simp at hg1; omega); have c1_1_0 : w1.cell? ⟨g, 0, none⟩ = some (.string p0) := (by rw [hcell 0 (by omega), hp0.out]); have c1_1_1 : w1.cell? ⟨g, 1, none⟩ = some (.string p1) := (by rw [hcell 1 (by omega), hp1.out]); obtain ⟨hc, hf⟩ := bcell hb1; have c1_0_0 : w1.cell? ⟨w.heap.size, 0, none⟩ = some (.int .u32 0) := (by rw [hc _ _ (by first | omega | (simp; done) | (simp; omega))]; first | assumption | (rw [World.cell?_alloc_past _ _ _ (by omega)]; assumption) | (simp [go_sem, *]; done)); have f1_0_0 : w1.frozen? ⟨w.heap.size, 0, none⟩ = false := (by rw [hf _ _ (by first | omega | (simp; done) | (simp; omega))]; first | assumption | (rw [World.frozen?_alloc_past _ _ _ (by omega)]; assumption) | (simp [go_sem, *]; done)); have c1_0_1 : w1.cell? ⟨w.heap.size, 1, none⟩ = some (.int .i64 0) := (by rw [hc _ _ (by first | omega | (simp; done) | (simp; omega))]; first | assumption | (rw [World.cell?_alloc_past _ _ _ (by omega)]; assumption) | (simp [go_sem, *]; done)); have f1_0_1 : w1.frozen? ⟨w.heap.size, 1, none⟩ = false := (by rw [hf _ _ (by first | omega | (simp; done) | (simp; omega))]; first | assumption | (rw [World.frozen?_alloc_past _ _ _ (by omega)]; assumption) | (simp [go_sem, *]; done)); have z1_0 : w.heap.size < w1.heap.size := (by have := hb1.size; (try simp at this); omega); clear hc hf; clear hcell hg1) | (go_at_call 149; refine (ca.out _).mono ?_; rintro e w2 ⟨rfl, hb2⟩; obtain ⟨hc, hf⟩ := bcell hb2; have c2_0_0 : w2.cell? ⟨w.heap.size, 0, none⟩ = some (.int .u32 0) := (by rw [hc _ _ (by first | omega | (simp; done) | (simp; omega))]; first | assumption | (rw [World.cell?_alloc_past _ _ _ (by omega)]; assumption) | (simp [go_sem, *]; done)); have f2_0_0 : w2.frozen? ⟨w.heap.size, 0, none⟩ = false := (by rw [hf _ _ (by first | omega | (simp; done) | (simp; omega))]; first | assumption | (rw [World.frozen?_alloc_past _ _ _ (by omega)]; assumption) | (simp [go_sem, *]; done)); have c2_0_1 : w2.cell? ⟨w.heap.size, 1, none⟩ = some (.int .i64 0) := (by rw [hc _ _ (by first | omega | (simp; done) | (simp; omega))]; first | assumption | (rw [World.cell?_alloc_past _ _ _ (by omega)]; assumption) | (simp [go_sem, *]; done)); have f2_0_1 : w2.frozen? ⟨w.heap.size, 1, none⟩ = false := (by rw [hf _ _ (by first | omega | (simp; done) | (simp; omega))]; first | assumption | (rw [World.frozen?_alloc_past _ _ _ (by omega)]; assumption) | (simp [go_sem, *]; done)); have c2_1_0 : w2.cell? ⟨g, 0, none⟩ = some (.string p0) := (by rw [hc _ _ (by first | omega | (simp; done) | (simp; omega))]; first | assumption | (rw [World.cell?_alloc_past _ _ _ (by omega)]; assumption) | (simp [go_sem, *]; done)); have c2_1_1 : w2.cell? ⟨g, 1, none⟩ = some (.string p1) := (by rw [hc _ _ (by first | omega | (simp; done) | (simp; omega))]; first | assumption | (rw [World.cell?_alloc_past _ _ _ (by omega)]; assumption) | (simp [go_sem, *]; done)); have z2_0 : w.heap.size < w2.heap.size := (by have := hb2.size; (try simp at this); omega); have z2_1 : g < w2.heap.size := (by have := hb2.size; (try simp at this); omega); clear hc hf; clear c1_0_0 c1_0_1 f1_0_0 f1_0_1 z1_0 c1_1_0 c1_1_1) | (go_at_call 150; refine (cn.out _).mono ?_; rintro e w3 ⟨rfl, hb3⟩; obtain ⟨hc, hf⟩ := bcell hb3; have c3_0_0 : w3.cell? ⟨w.heap.size, 0, none⟩ = some (.int .u32 0) := (by rw [hc _ _ (by first | omega | (simp; done) | (simp; omega))]; first | assumption | (rw [World.cell?_alloc_past _ _ _ (by omega)]; assumption) | (simp [go_sem, *]; done)); have f3_0_0 : w3.frozen? ⟨w.heap.size, 0, none⟩ = false := (by rw [hf _ _ (by first | omega | (simp; done) | (simp; omega))]; first | assumption | (rw [World.frozen?_alloc_past _ _ _ (by omega)]; assumption) | (simp [go_sem, *]; done)); have c3_0_1 : w3.cell? ⟨w.heap.size, 1, none⟩ = some (.int .i64 0) := (by rw [hc _ _ (by first | omega | (simp; done) | (simp; omega))]; first | assumption | (rw [World.cell?_alloc_past _ _ _ (by omega)]; assumption) | (simp [go_sem, *]; done)); have f3_0_1 : w3.frozen? ⟨w.heap.size, 1, none⟩ = false := (by rw [hf _ _ (by first | omega | (simp; done) | (simp; omega))]; first | assumption | (rw [World.frozen?_alloc_past _ _ _ (by omega)]; assumption) | (simp [go_sem, *]; done)); have z3_0 : w.heap.size < w3.heap.size := (by have := hb3.size; (try simp at this); omega); clear hc hf; clear c2_0_0 c2_0_1 f2_0_0 f2_0_1 z2_0 c2_1_0 c2_1_1 z2_1) | (go_at_call 184; refine (rright_any _ _ _ x0 x1).mono ?_; rintro e w4 ⟨rfl, hb4⟩; obtain ⟨hc, hf⟩ := bcell hb4; have c4_0_0 : w4.cell? ⟨w.heap.size, 0, none⟩ = some (.int .u32 0) := (by rw [hc _ _ (by first | omega | (simp; done) | (simp; omega))]; first | assumption | (rw [World.cell?_alloc_past _ _ _ (by omega)]; assumption) | (simp [go_sem, *]; done)); have f4_0_0 : w4.frozen? ⟨w.heap.size, 0, none⟩ = false := (by rw [hf _ _ (by first | omega | (simp; done) | (simp; omega))]; first | assumption | (rw [World.frozen?_alloc_past _ _ _ (by omega)]; assumption) | (simp [go_sem, *]; done)); have c4_0_1 : w4.cell? ⟨w.heap.size, 1, none⟩ = some (.int .i64 0) := (by rw [hc _ _ (by first | omega | (simp; done) | (simp; omega))]; first | assumption | (rw [World.cell?_alloc_past _ _ _ (by omega)]; assumption) | (simp [go_sem, *]; done)); have f4_0_1 : w4.frozen? ⟨w.heap.size, 1, none⟩ = false := (by rw [hf _ _ (by first | omega | (simp; done) | (simp; omega))]; first | assumption | (rw [World.frozen?_alloc_past _ _ _ (by omega)]; assumption) | (simp [go_sem, *]; done)); have c4_1_0 : w4.cell? ⟨w3.heap.size, 0, none⟩ = some (.int .u32 x) := (by rw [hc _ _ (by first | omega | (simp; done) | (simp; omega))]; first | assumption | (rw [World.cell?_alloc_past _ _ _ (by omega)]; assumption) | (simp [go_sem, *]; done)); have c4_1_1 : w4.cell? ⟨w3.heap.size, 1, none⟩ = some (.int .i64 y) := (by rw [hc _ _ (by first | omega | (simp; done) | (simp; omega))]; first | assumption | (rw [World.cell?_alloc_past _ _ _ (by omega)]; assumption) | (simp [go_sem, *]; done)); have z4_0 : w.heap.size < w4.heap.size := (by have := hb4.size; (try simp at this); omega); have z4_1 : w3.heap.size < w4.heap.size := (by have := hb4.size; (try simp at this); omega); clear hc hf; clear c3_0_0 c3_0_1 f3_0_0 f3_0_1 z3_0))
  exact bodyPost_ret (v := .tuple #[.agg #[.int .u32 (x), .int .i64 (y)], .int .i64 (0)]) (by simp [results, Tryz.results146, go_sem, c4_0_0, c4_0_1, f4_0_0, f4_0_1, World.cell?_alloc_lt, z4_0, Nat.lt_succ_of_lt z4_0]) rfl ⟨rfl, (by have hq := hb1.mono (B' := w.heap.size) (by first | omega | (simp; done) | (simp; omega)); have hq2 := Below.trans (B := w.heap.size) (a := w) (by repeat' (first | with_reducible assumption | with_reducible exact Below.refl _ _ | with_reducible apply Below.drew | with_reducible apply below_drewN | with_reducible apply Below.setCell | with_reducible apply Below.alloc | omega | (simp; done) | (simp; omega))) hq; clear hq; have s1 := hq2.size; have hq3 := Below.trans (B := w.heap.size) (a := w) (by repeat' (first | with_reducible assumption | with_reducible exact Below.refl _ _ | with_reducible apply Below.drew | with_reducible apply below_drewN | with_reducible apply Below.setCell | with_reducible apply Below.alloc | omega | (simp; done) | (simp; omega))) (hb2.mono (B' := w.heap.size) (by first | omega | (simp; done) | (simp; omega))); have s2 := hq3.size; clear hq2; have hq4 := Below.trans (B := w.heap.size) (a := w) (by repeat' (first | with_reducible assumption | with_reducible exact Below.refl _ _ | with_reducible apply Below.drew | with_reducible apply below_drewN | with_reducible apply Below.setCell | with_reducible apply Below.alloc | omega | (simp; done) | (simp; omega))) (hb3.mono (B' := w.heap.size) (by first | omega | (simp; done) | (simp; omega))); have s3 := hq4.size; clear hq3; have hq5 := Below.trans (B := w.heap.size) (a := w) (by repeat' (first | with_reducible assumption | with_reducible exact Below.refl _ _ | with_reducible apply Below.drew | with_reducible apply below_drewN | with_reducible apply Below.setCell | with_reducible apply Below.alloc | omega | (simp; done) | (simp; omega))) (hb4.mono (B' := w.heap.size) (by first | omega | (simp; done) | (simp; omega))); have s4 := hq5.size; clear hq4; repeat' (first | with_reducible assumption | with_reducible exact Below.refl _ _ | with_reducible apply Below.drew | with_reducible apply below_drewN | with_reducible apply Below.setCell | with_reducible apply Below.alloc | omega | (simp; done) | (simp; omega)))⟩

theorem rread_any (s : ByteArray) (w : World) (hs : s.size ≤ 2097152) :
    Calls Tryz.prog 146 #[.string s] w fun e w' => e = .returned (.tuple #[.agg #[.int .u32 (rdB s.data.toList), .int .i64 (rdN s.data.toList)], .int .i64 (rdE s.data.toList)]) ∧ Below w.heap.size w w' := by
  have hp := parts_pos 47 s.data.toList
  have hc : ∀ w, Calls Tryz.prog 105 #[.string s, .int .u8 47] w fun e w' => ∃ v, e = .returned v ∧ w'.ownsRow w.heap.size 9 1 v (parts 47 s.data.toList).length (strs (parts 47 s.data.toList)) ∧ Below w.heap.size w w' := fun w => rparts_any s 47 47 w rfl hs
  have hsz : ∀ j, (bs ((parts 47 s.data.toList).getD j [])).size ≤ 2097152 := fun j => by
    rw [bs_size]
    have h1 := part_len 47 s.data.toList j
    have h2 := Lib.size_eq s
    omega
  have ca : ∀ w, Calls Tryz.prog 149 #[.string (bs ((parts 47 s.data.toList).getD 0 []))] w fun e w' => e = .returned (.int .i64 (addrI ((parts 47 s.data.toList).getD 0 []))) ∧ Below w.heap.size w w' := fun w => by
    have h := raddress_any (bs ((parts 47 s.data.toList).getD 0 [])) w (hsz 0)
    rw [bs_data] at h; exact h
  have cn : ∀ w, Calls Tryz.prog 150 #[.string (bs ((parts 47 s.data.toList).getD 1 [])), .int .i64 32] w fun e w' => e = .returned (.int .i64 (numI ((parts 47 s.data.toList).getD 1 []) 32)) ∧ Below w.heap.size w w' := fun w => by
    have h := rnumber_any (bs ((parts 47 s.data.toList).getD 1 [])) 32 w (by omega) (by omega)
    rw [bs_data] at h; exact h
  by_cases h2 : (parts 47 s.data.toList).length = 2
  · have hrd := rd_two h2
    rcases addrI_cases ((parts 47 s.data.toList).getD 0 []) with ⟨e0, e1⟩ | ⟨a, e0, e1⟩
    · rw [e1] at hrd
      obtain ⟨q1, q2, q3⟩ := rd_none hrd
      rw [q1, q2, q3]
      exact rread_addr s w _ _ _ _ _ hp hc rfl rfl ca cn h2 (by omega)
    · have hlt := addr_lt e1
      rcases numI_cases ((parts 47 s.data.toList).getD 1 []) 32 with ⟨m0, m1⟩ | ⟨n, m0, m2, m1⟩
      · rw [e1, m1] at hrd
        obtain ⟨q1, q2, q3⟩ := rd_none hrd
        rw [q1, q2, q3]
        exact rread_num s w _ _ _ _ _ hp hc rfl rfl ca cn h2 (by omega) (by omega)
      · rw [e1, m1] at hrd
        rw [e0] at ca
        rw [m0] at cn
        rcases hr : rt (a : Int) (n : Int) with _ | _
        · simp only [hr] at hrd
          obtain ⟨q1, q2, q3⟩ := rd_none hrd
          rw [q1, q2, q3]
          exact rread_not s w _ _ _ _ _ hp hc rfl rfl ca cn h2 (by omega) (by omega) (by omega) (by omega) hr
        · simp only [hr] at hrd
          obtain ⟨q1, q2, q3⟩ := rd_some hrd
          rw [q1, q2, q3]
          exact rread_ok s w _ _ _ _ _ hp hc rfl rfl ca cn h2 (by omega) (by omega) (by omega) (by omega) hr
  · obtain ⟨q1, q2, q3⟩ := rd_none (rd_off h2)
    rw [q1, q2, q3]
    exact rread_len s w _ _ _ _ _ hp hc rfl rfl ca cn (by simp; omega)
end Go.Proofs.YtlikdnmikdldfaaGreatDoor
namespace Go.Proofs.YtlikdnmikdldfaaGreatDoor
open Go.ChangeShapes Go.WideShapes Go.ChangeAt Go.RowKit
set_option linter.unusedVariables false
set_option linter.unusedSimpArgs false

/-- the last k + 1 numbers of an address, as they are written -/
def tl (a : Nat) : Nat → List UInt8
  | 0 => dec (a % 256)
  | k + 1 => dec (a / 256 ^ (k + 1) % 256) ++ 46 :: tl a k
theorem dec_len3 (n : Nat) (h : n < 1000) : (dec n).length ≤ 3 := by
  rw [dec_3 n h]; unfold dec3; split
  · simp
  · split <;> simp
theorem tl_len (a k : Nat) : (tl a k).length ≤ 4 * k + 3 := by
  induction k with
  | zero => exact dec_len3 _ (by omega)
  | succ k ih =>
    have := dec_len3 (a / 256 ^ (k + 1) % 256) (by omega)
    simp only [tl, List.length_append, List.length_cons]; omega
theorem tl_dot (a : Nat) (h : a < 4294967296) : tl a 3 = dot a := by
  simp only [tl, dot]
  rw [show a / 256 ^ (2 + 1) % 256 = a / 16777216 by omega, show a / 256 ^ (1 + 1) % 256 = a / 65536 % 256 by omega, show a / 256 ^ (0 + 1) % 256 = a / 256 % 256 by omega]
def dotB : ByteArray := ⟨#[46]⟩
def slashB : ByteArray := ⟨#[47]⟩

theorem tl_step (a x : Int) (st : ByteArray) (k : Nat) (h0 : 0 ≤ a) (hx : x = a / 256 ^ k) (hs : st = bs (tl a.toNat k)) :
    x / 256 = a / 256 ^ (k + 1) ∧ bs (dec (x / 256 % 256).toNat) ++ (⟨#[46]⟩ : ByteArray) ++ st = bs (tl a.toNat (k + 1)) := by
  have e : x / 256 = a / 256 ^ (k + 1) := by rw [hx, Int.pow_succ, Int.ediv_ediv_of_nonneg (Int.pow_nonneg (by decide))]
  refine ⟨e, ?_⟩
  have e2 : (x / 256 % 256).toNat = a.toNat / 256 ^ (k + 1) % 256 := by
    rw [e]
    have ha : a = (a.toNat : Int) := by omega
    have hp : ((256 : Int) ^ (k + 1)) = ((256 ^ (k + 1) : Nat) : Int) := by simp
    rw [ha, hp, ← Int.natCast_ediv]
    simp only [Int.toNat_natCast]
    omega
  rw [e2, hs, show (⟨#[46]⟩ : ByteArray) = bs [46] from rfl, bs_append, bs_append]
  simp [tl]
theorem wr_cat (a n : Nat) : bs (dot a) ++ (⟨#[47]⟩ : ByteArray) ++ bs (dec n) = bs (wr a n) := by
  rw [show (⟨#[47]⟩ : ByteArray) = bs [47] from rfl, bs_append, bs_append]
  simp [wr]

set_option maxRecDepth 1000000 in
set_option maxHeartbeats 1000000 in
theorem raddr_text (a : Int) (w : World) (h0 : 0 ≤ a) (h1 : a < 4294967296) :
    Calls Tryz.prog 183 #[.int .u32 a] w fun e w' => e = .returned (.string (bs (dot a.toNat))) ∧ Below w.heap.size w w' := by
  go_enter Tryz.func183, Tryz.ntmps183
  go_wp2_with (go_at_call 185; refine (rdigits_any _ _ (by omega) (by omega)).mono ?_; rintro e w1 ⟨rfl, hb1⟩)
  go_loopw [3, 4, 5] (fun m t i wr => ∃ (k : Nat) (x : Int) (st : ByteArray), k ≤ 3 ∧ 0 ≤ x ∧ x ≤ 4294967295 ∧ m = .int .i64 x ∧ t = .string st ∧ i = .int .i64 k ∧ Hid (x = a / 256 ^ k ∧ st = bs (tl a.toNat k)) ∧ Below w.heap.size w wr) (fun _ _ i _ => 3 - (intOf i).toNat)
  case atStart => exact ⟨0, a, _, by omega, h0, by omega, rfl, rfl, rfl, ⟨by simp, by simp only [tl]; congr 2; omega⟩, hb1⟩
  case round =>
    obtain ⟨k, x, st, hk, hx0, hx1, rfl, rfl, rfl, H, hb⟩ := hrel
    have hst : st.size ≤ 100 := by rw [H.out.2, bs_size]; have := tl_len a.toNat k; omega
    by_cases hlt : k < 3
    · have hd : (bs (dec (x / 256 % 256).toNat)).size ≤ 3 := by rw [bs_size]; exact dec_len3 _ (by omega)
      go_wp2_with (go_at_call 185; refine (rdigits_any _ _ (by omega) (by omega)).mono ?_; rintro e w2 ⟨rfl, hb2⟩)
      go_roundw
      case rel => exact ⟨k + 1, x / 256, _, by omega, by omega, by omega, rfl, rfl, by go_num, tl_step a x st k h0 H.out.1 H.out.2, hb.trans (hb2.mono hb.size)⟩
      case measure => simp [intOf]; omega
    · obtain rfl : k = 3 := by omega
      go_wp2
      go_ret
      exact ⟨ret_str (by rw [H.out.2, tl_dot _ (by omega)]), hb⟩

set_option maxHeartbeats 400000 in
theorem rtext_any (a n : Int) (w : World) (h0 : 0 ≤ a) (h1 : a < 4294967296) (n0 : 0 ≤ n) (n1 : n ≤ 32) :
    Calls Tryz.prog 182 #[.agg #[.int .u32 a, .int .i64 n]] w fun e w' => e = .returned (.string (bs (wr a.toNat n.toNat))) ∧ Below w.heap.size w w' := by
  have hd : (bs (dot a.toNat)).size ≤ 100 := by rw [bs_size, ← tl_dot _ (by omega)]; have := tl_len a.toNat 3; omega
  have hn : (bs (dec n.toNat)).size ≤ 3 := by rw [bs_size]; exact dec_len3 _ (by omega)
  have hq : Hid (bs (dot a.toNat) ++ (⟨#[47]⟩ : ByteArray) ++ bs (dec n.toNat) = bs (wr a.toNat n.toNat)) := wr_cat _ _
  go_enter Tryz.func182, Tryz.ntmps182
  go_wp2_with (first | (go_at_call 183; refine (raddr_text _ _ h0 h1).mono ?_; rintro e w1 ⟨rfl, hb1⟩; obtain ⟨hc, hf⟩ := bcell hb1; have hk0 : w1.cell? ⟨w.heap.size, 0, none⟩ = some (.int .u32 a) := (by simp [hc, go_sem]); have hk1 : w1.cell? ⟨w.heap.size, 1, none⟩ = some (.int .i64 n) := (by simp [hc, go_sem]); have hz0 : w.heap.size < w1.heap.size := (by have := hb1.size; (try simp at this); omega); clear hc hf) | (go_at_call 185; refine (rdigits_any _ _ n0 (by omega)).mono ?_; rintro e w2 ⟨rfl, hb2⟩))
  go_ret
  exact ⟨ret_str hq.out, (by have hq := hb1.mono (B' := w.heap.size) (by first | omega | (simp; done) | (simp; omega)); have hq2 := Below.trans (B := w.heap.size) (a := w) (by repeat' (first | with_reducible assumption | with_reducible exact Below.refl _ _ | with_reducible apply Below.drew | with_reducible apply below_drewN | with_reducible apply Below.setCell | with_reducible apply Below.alloc | omega | (simp; done) | (simp; omega))) hq; clear hq; have hq3 := Below.trans (B := w.heap.size) (a := w) (by repeat' (first | with_reducible assumption | with_reducible exact Below.refl _ _ | with_reducible apply Below.drew | with_reducible apply below_drewN | with_reducible apply Below.setCell | with_reducible apply Below.alloc | omega | (simp; done) | (simp; omega))) (hb2.mono (B' := w.heap.size) (by first | omega | (simp; done) | (simp; omega))); clear hq2; repeat' (first | with_reducible assumption | with_reducible exact Below.refl _ _ | with_reducible apply Below.drew | with_reducible apply below_drewN | with_reducible apply Below.setCell | with_reducible apply Below.alloc | omega | (simp; done) | (simp; omega)))⟩

/-- what Write answers -/
def wrS (a n : Int) : ByteArray := if rt a n then bs (wr a.toNat n.toNat) else ⟨#[]⟩
def wrE (a n : Int) : Int := if rt a n then 0 else 2
end Go.Proofs.YtlikdnmikdldfaaGreatDoor
namespace Go.Proofs.YtlikdnmikdldfaaGreatDoor
open Go.ChangeShapes Go.WideShapes Go.ChangeAt Go.RowKit
set_option linter.unusedVariables false
set_option linter.unusedSimpArgs false

/-- what of the library's variables the library's functions read -/
structure Env (w : World) : Prop where
  lo : 2 < w.heap.size ∧ 6 < w.heap.size ∧ 7 < w.heap.size ∧ 5 < w.heap.size
  mx : ∃ m, w.cell? ⟨2, 0, none⟩ = some (.int .i64 m)
  syn : ∃ tp p, w.var? Tryz.prog "strconv.ErrSyntax" = some #[.iface tp p]
  rng : ∃ tp p, w.var? Tryz.prog "strconv.ErrRange" = some #[.iface tp p]
  tab : Lib.TabIs Tryz.prog w "internal/strconv.uint64pow10" .u64 Lib.pow10Tab
theorem gSyn : Tryz.prog.globalNamed "strconv.ErrSyntax" = some 6 := by kernel_rfl
theorem gRng : Tryz.prog.globalNamed "strconv.ErrRange" = some 7 := by kernel_rfl
theorem gTab : Tryz.prog.globalNamed "internal/strconv.uint64pow10" = some 5 := by kernel_rfl
theorem Env.mono {w w' : World} (h : Env w) (hb : Below w.heap.size w w') : Env w' where
  lo := by have := h.lo; have := hb.size; omega
  mx := by obtain ⟨m, e⟩ := h.mx; exact ⟨m, (hb.cell (p := ⟨2, 0, none⟩) h.lo.1).trans e⟩
  syn := by obtain ⟨tp, p, e⟩ := h.syn; exact ⟨tp, p, var?_below hb gSyn h.lo.2.1 e⟩
  rng := by obtain ⟨tp, p, e⟩ := h.rng; exact ⟨tp, p, var?_below hb gRng h.lo.2.2.1 e⟩
  tab := var?_below hb gTab h.lo.2.2.2 h.tab

theorem atoi_ok (s : ByteArray) (w : World) (hs : s.size ≤ 2097152) (v : Int) (h : Lib.atoiAll s.data.toList = .ok v) :
    Calls Tryz.prog 201 #[.string s] w fun e w' => e = .returned (.tuple #[.int .i64 v, .nilIface]) ∧ Below w.heap.size w w' := by
  refine (Tryz.strconv_Atoi_ok s (by omega) v h w).mono ?_
  rintro e w' ⟨rfl, rfl | ⟨t, rfl⟩⟩
  · exact ⟨rfl, Below.refl _ _⟩
  · exact ⟨rfl, Lib.bytesWorld_below w _ t⟩
theorem atoi_err (s : ByteArray) (w : World) (E : Env w) (hs : s.size ≤ 2097152) (h : ∀ v, Lib.atoiAll s.data.toList ≠ .ok v) :
    Calls Tryz.prog 201 #[.string s] w fun e w' => ∃ x N, e = .returned (.tuple #[.int .i64 x, .iface 280 (.pointer (some ⟨N, 0, none⟩))]) ∧ Below w.heap.size w w' := by
  rcases e : Lib.atoiAll s.data.toList with v | _ | _
  · exact absurd e (h v)
  · obtain ⟨tp, p, hv⟩ := E.syn
    refine (Any.strconv_Atoi_syntax_var Tryz.laysC172 s (by omega) e tp p w hv).mono ?_
    rintro e w' ⟨N, rfl, _, _, hb⟩
    exact ⟨_, N, rfl, hb⟩
  · obtain ⟨tp, p, hv⟩ := E.rng
    refine (Any.strconv_Atoi_range_var Tryz.laysC172 s (by omega) e tp p w hv).mono ?_
    rintro e w' ⟨N, rfl, _, _, hb⟩
    exact ⟨_, N, rfl, hb⟩
theorem itoa_any (n : Int) (w : World) (E : Env w) (h0 : -9223372036854775808 ≤ n) (h1 : n ≤ 9223372036854775807) :
    Calls Tryz.prog 138 #[.int .i64 n] w fun e w' => e = .returned (.string (bs (Lib.itoa n))) ∧ Below w.heap.size w w' := by
  refine (Tryz.strconv_Itoa n h0 h1 w E.tab).mono ?_
  rintro e w' ⟨rfl, k, os, rfl⟩
  exact ⟨rfl, Lib.below_grow _ w (Nat.le_refl _) k os⟩

/-- what readNumber answers -/
def nB (l : List UInt8) (m : Nat) : Int := match num l m with | some n => (n : Int) | none => 0
def nOk (l : List UInt8) (m : Nat) : Bool := (num l m).isSome
theorem n_none {l : List UInt8} {m : Nat} (h : num l m = none) : nB l m = 0 ∧ nOk l m = false := by simp [nB, nOk, h]
theorem n_some {l : List UInt8} {m n : Nat} (h : num l m = some n) : nB l m = n ∧ nOk l m = true := by simp [nB, nOk, h]
set_option maxHeartbeats 400000 in
theorem rn_err (s : ByteArray) (m : Int) (w : World) (E : Hid (Env w)) (hs : s.size ≤ 2097152) (h : Hid (∀ v, Lib.atoiAll s.data.toList ≠ .ok v)) :
    Calls Tryz.prog 167 #[.string s, .int .i64 m] w fun e w' => e = .returned (.tuple #[.int .i64 0, .bool false]) ∧ Below w.heap.size w w' := by
  go_enter Tryz.func167, Tryz.ntmps167
  go_wp2_with (go_at_call 201; refine (atoi_err s _ E.out hs h.out).mono ?_; rintro e w1 ⟨x, N, rfl, hb1⟩)
  go_ret2
  exact ⟨rfl, hb1⟩
set_option maxHeartbeats 400000 in
theorem rn_low (s : ByteArray) (m v : Int) (w : World) (hs : s.size ≤ 2097152) (h : Hid (Lib.atoiAll s.data.toList = .ok v)) (hv : v < 0) :
    Calls Tryz.prog 167 #[.string s, .int .i64 m] w fun e w' => e = .returned (.tuple #[.int .i64 0, .bool false]) ∧ Below w.heap.size w w' := by
  go_enter Tryz.func167, Tryz.ntmps167
  go_wp2_with (go_at_call 201; refine (atoi_ok s _ hs v h.out).mono ?_; rintro e w1 ⟨rfl, hb1⟩)
  go_ret2
  exact ⟨rfl, hb1⟩
set_option maxHeartbeats 400000 in
theorem rn_high (s : ByteArray) (m v : Int) (w : World) (hs : s.size ≤ 2097152) (h : Hid (Lib.atoiAll s.data.toList = .ok v)) (hv : ¬ v < 0) (hm : m < v) :
    Calls Tryz.prog 167 #[.string s, .int .i64 m] w fun e w' => e = .returned (.tuple #[.int .i64 0, .bool false]) ∧ Below w.heap.size w w' := by
  go_enter Tryz.func167, Tryz.ntmps167
  go_wp2_with (go_at_call 201; refine (atoi_ok s _ hs v h.out).mono ?_; rintro e w1 ⟨rfl, hb1⟩)
  go_ret2
  exact ⟨rfl, hb1⟩
set_option maxHeartbeats 400000 in
theorem rn_in (s t : ByteArray) (m v : Int) (w : World) (E : Hid (Env w)) (hs : s.size ≤ 2097152) (h : Hid (Lib.atoiAll s.data.toList = .ok v)) (hv : ¬ v < 0) (hm : ¬ m < v) (hm1 : m ≤ 255) (ht : Hid (t = bs (Lib.itoa v))) (b : Bool) (hb : (t.toList == s.toList) = b) :
    Calls Tryz.prog 167 #[.string s, .int .i64 m] w fun e w' => e = .returned (.tuple #[.int .i64 (if b then v else 0), .bool b]) ∧ Below w.heap.size w w' := by
  have hi : Hid (∀ w, Env w → Calls Tryz.prog 138 #[.int .i64 v] w fun e w' => e = .returned (.string t) ∧ Below w.heap.size w w') := fun w E => by
    rw [ht.out]; exact itoa_any v w E (by omega) (by omega)
  cases b
  · go_enter Tryz.func167, Tryz.ntmps167
    go_wp2_with (first | (go_at_call 201; refine (atoi_ok s _ hs v h.out).mono ?_; rintro e w1 ⟨rfl, hb1⟩) | (go_at_call 138; refine (hi.out _ (E.out.mono hb1)).mono ?_; rintro e w2 ⟨rfl, hb2⟩))
    go_ret2
    exact ⟨rfl, hb1.trans (hb2.mono hb1.size)⟩
  · go_enter Tryz.func167, Tryz.ntmps167
    go_wp2_with (first | (go_at_call 201; refine (atoi_ok s _ hs v h.out).mono ?_; rintro e w1 ⟨rfl, hb1⟩) | (go_at_call 138; refine (hi.out _ (E.out.mono hb1)).mono ?_; rintro e w2 ⟨rfl, hb2⟩))
    go_ret2
    exact ⟨rfl, hb1.trans (hb2.mono hb1.size)⟩
theorem rn_any (s : ByteArray) (m : Int) (w : World) (E : Env w) (hs : s.size ≤ 2097152) (h0 : 0 ≤ m) (h1 : m ≤ 255) :
    Calls Tryz.prog 167 #[.string s, .int .i64 m] w fun e w' => e = .returned (.tuple #[.int .i64 (nB s.data.toList m.toNat), .bool (nOk s.data.toList m.toNat)]) ∧ Below w.heap.size w w' := by
  have hm : m.toNat ≤ 255 := by omega
  by_cases hok : ∃ v, Lib.atoiAll s.data.toList = .ok v
  · obtain ⟨v, hv⟩ := hok
    by_cases hlo : v < 0
    · obtain ⟨q1, q2⟩ := n_none (num_off hm (l := s.data.toList) fun n hn e => by rw [hv] at e; cases e; omega)
      rw [q1, q2]
      exact rn_low s m v w hs hv hlo
    · by_cases hhi : m < v
      · obtain ⟨q1, q2⟩ := n_none (num_off hm (l := s.data.toList) fun n hn e => by rw [hv] at e; cases e; omega)
        rw [q1, q2]
        exact rn_high s m v w hs hv hlo hhi
      · have h := rn_in s (bs (Lib.itoa v)) m v w E hs hv hlo hhi h1 rfl _ rfl
        rw [bs_toList, Lib.toList_data] at h
        rcases hb : (Lib.itoa v == s.data.toList) with _ | _
        · rw [hb] at h
          rw [beq_eq_false_iff_ne] at hb
          obtain ⟨q1, q2⟩ := n_none (num_off hm (l := s.data.toList) fun n hn e => by rw [hv] at e; cases e; exact hb)
          rw [q1, q2]; exact h
        · rw [hb] at h
          rw [beq_iff_eq] at hb
          obtain ⟨q1, q2⟩ := n_some (num_of_atoi hm hv (by omega) (by omega) hb)
          rw [q1, q2, show ((v.toNat : Nat) : Int) = v by omega]; exact h
  · have hno : ∀ v, Lib.atoiAll s.data.toList ≠ .ok v := fun v e => hok ⟨v, e⟩
    obtain ⟨q1, q2⟩ := n_none (num_off hm (l := s.data.toList) fun n hn e => absurd e (hno _))
    rw [q1, q2]
    exact rn_err s m w E hs hno
theorem rbits_any (s : ByteArray) (w : World) (E0 : Env w) (hs : s.size ≤ 2097152) :
    Calls Tryz.prog 117 #[.string s] w fun e w' => e = .returned (.tuple #[.int .i64 (nB s.data.toList 32), .bool (nOk s.data.toList 32)]) ∧ Below w.heap.size w w' := by
  have hn : Hid (Calls Tryz.prog 167 #[.string s, .int .i64 32] w fun e w' => e = .returned (.tuple #[.int .i64 (nB s.data.toList 32), .bool (nOk s.data.toList 32)]) ∧ Below w.heap.size w w') := rn_any s 32 w E0 hs (by omega) (by omega)
  generalize nB s.data.toList 32 = y at hn ⊢
  generalize nOk s.data.toList 32 = b at hn ⊢
  clear E0
  go_enter Tryz.func117, Tryz.ntmps117
  go_wp2_with (go_at_call 167; refine hn.out.mono ?_; rintro e w1 ⟨rfl, hb1⟩)
  go_ret2
  exact ⟨rfl, hb1⟩
end Go.Proofs.YtlikdnmikdldfaaGreatDoor
namespace Go.Proofs.YtlikdnmikdldfaaGreatDoor
open Go.RowKit
set_option linter.unusedVariables false

theorem index_no (c : UInt8) (l : List UInt8) (h : c ∉ l) : Lib.index l [c] = -1 := by
  rw [Lib.index_one]
  induction l with
  | nil => rfl
  | cons x r ih =>
    have hx : (x == c) = false := by simpa using fun e : x = c => h (by simp [e])
    have hr : c ∉ r := fun e => h (by simp [e])
    unfold Lib.indexByte
    rw [hx, ih hr]; rfl
theorem index_at (c : UInt8) (a b : List UInt8) (h : c ∉ a) : Lib.index (a ++ c :: b) [c] = a.length := by
  rw [Lib.index_one]
  induction a with
  | nil => simp [Lib.indexByte]
  | cons x r ih =>
    have hx : (x == c) = false := by simpa using fun e : x = c => h (by simp [e])
    have hr : c ∉ r := fun e => h (by simp [e])
    rw [List.cons_append]
    unfold Lib.indexByte
    rw [hx, ih hr]
    have : ¬ (((r.length : Nat) : Int) == -1) = true := by simp
    rw [if_neg (by simp), if_neg this]
    simp
theorem cut_no (c : UInt8) (l : List UInt8) (h : c ∉ l) : Lib.cut l [c] = (l, [], false) := by
  unfold Lib.cut; rw [index_no c l h]; rfl
theorem cut_at (c : UInt8) (a b : List UInt8) (h : c ∉ a) : Lib.cut (a ++ c :: b) [c] = (a, b, true) := by
  unfold Lib.cut
  rw [index_at c a b h, if_pos (by omega)]
  simp
theorem split_at (c : UInt8) (k : Nat) (a b : List UInt8) (h : c ∉ a) : Lib.splitK [c] 0 (k + 1) (a ++ c :: b) = a :: Lib.splitK [c] 0 k b := by
  have e : Lib.splitK [c] 0 (k + 1) (a ++ c :: b) = if Lib.index (a ++ c :: b) [c] == -1 then [a ++ c :: b] else (a ++ c :: b).take ((Lib.index (a ++ c :: b) [c]).toNat + 0) :: Lib.splitK [c] 0 k ((a ++ c :: b).drop ((Lib.index (a ++ c :: b) [c]).toNat + [c].length)) := rfl
  have : ¬ (((a.length : Nat) : Int) == -1) = true := by simp
  rw [e, index_at c a b h, if_neg this]
  simp
theorem split_no (c : UInt8) (k : Nat) (l : List UInt8) (h : c ∉ l) : Lib.splitK [c] 0 k l = [l] := by
  cases k with
  | zero => rfl
  | succ k => unfold Lib.splitK; rw [index_no c l h]; rfl
theorem split_parts (c : UInt8) (k : Nat) : ∀ l : List UInt8, ((parts c l).length ≤ k + 1 → Lib.splitK [c] 0 k l = parts c l) ∧ (k + 1 < (parts c l).length → (Lib.splitK [c] 0 k l).length = k + 1) := by
  induction k with
  | zero =>
    intro l
    rcases first_cut c l with h | ⟨a, b, rfl, h⟩
    · rw [parts_none c l h]; exact ⟨fun _ => rfl, fun e => by simp at e⟩
    · rw [parts_cons c a b h]
      have := parts_pos c b
      exact ⟨fun e => by rw [List.length_cons] at e; omega, fun _ => rfl⟩
  | succ k ih =>
    intro l
    rcases first_cut c l with h | ⟨a, b, rfl, h⟩
    · rw [parts_none c l h, split_no c _ l h]; exact ⟨fun _ => rfl, fun e => by simp at e⟩
    · rw [parts_cons c a b h, split_at c k a b h]
      obtain ⟨h1, h2⟩ := ih b
      exact ⟨fun e => by rw [h1 (by rw [List.length_cons] at e; omega)], fun e => by rw [List.length_cons] at e ⊢; rw [h2 (by omega)]⟩
theorem parts_le (c : UInt8) (l : List UInt8) : (parts c l).length ≤ l.length + 1 := by
  have := cut_len c l ([], [])
  unfold parts
  simp at this ⊢; exact this
/-- cut into at most five: four pieces are all of them -/
theorem split_five (l : List UInt8) : ((Lib.splitK [46] 0 (min 5 (l.length + 1) - 1) l).length = 4 ↔ (parts 46 l).length = 4) ∧ ((parts 46 l).length = 4 → Lib.splitK [46] 0 (min 5 (l.length + 1) - 1) l = parts 46 l) := by
  obtain ⟨h1, h2⟩ := split_parts 46 (min 5 (l.length + 1) - 1) l
  have h3 := parts_le 46 l
  by_cases h : (parts 46 l).length ≤ min 5 (l.length + 1) - 1 + 1
  · rw [h1 h]; exact ⟨Iff.rfl, fun _ => rfl⟩
  · have := h2 (by omega)
    exact ⟨⟨fun e => by omega, fun e => by omega⟩, fun e => by omega⟩
end Go.Proofs.YtlikdnmikdldfaaGreatDoor
namespace Go.Proofs.YtlikdnmikdldfaaGreatDoor
open Go.ChangeShapes Go.WideShapes Go.ChangeAt Go.RowKit
set_option linter.unusedVariables false
set_option linter.unusedSimpArgs false

def aB (l : List UInt8) : Int := match addr l with | some a => (a : Int) | none => 0
def aOk (l : List UInt8) : Bool := (addr l).isSome
theorem a_none {l : List UInt8} (h : addr l = none) : aB l = 0 ∧ aOk l = false := by simp [aB, aOk, h]
theorem a_some {l : List UInt8} {a : Nat} (h : addr l = some a) : aB l = a ∧ aOk l = true := by simp [aB, aOk, h]
theorem addr_off' {l : List UInt8} (h : (parts 46 l).length ≠ 4) : addr l = none := by
  rcases addrI_cases l with ⟨_, e⟩ | ⟨a, e, _⟩
  · exact e
  · have := addr_off h; omega
/-- SplitN at five, as the walk wants it: a slice of so many texts in a new block -/
theorem splitn_any (s : ByteArray) (w : World) (E : Env w) (hs : s.size ≤ 2097152) :
    Calls Tryz.prog 166 #[.string s, .string ⟨#[46]⟩, .int .i64 5] w fun e w' => ∃ (n cap : Nat) (P : Nat → ByteArray),
      e = .returned (.slice (some ⟨w.heap.size, 0, none⟩) n cap) ∧ n ≤ cap ∧ cap ≤ 5 ∧ (n = 4 ↔ (parts 46 s.data.toList).length = 4) ∧ (n = 4 → ∀ j, j < 4 → w'.cell? ⟨w.heap.size, j, none⟩ = some (.string (P j)) ∧ P j = bs ((parts 46 s.data.toList).getD j [])) ∧ w.heap.size < w'.heap.size ∧ Below w.heap.size w w' := by
  obtain ⟨m, hm⟩ := E.mx
  refine (Tryz.strings_SplitN s ⟨#[46]⟩ 5 m w (by omega) hm (by decide) (by omega) (by omega)).mono ?_
  rintro e w' ⟨rfl, rfl⟩
  have hd := Lib.splitB_data ⟨#[46]⟩ 0 (min 5 (s.size + 1) - 1) s
  have hlen := Lib.splitB_length_le ⟨#[46]⟩ 0 (min 5 (s.size + 1) - 1) s
  obtain ⟨L, hL⟩ : ∃ L, L = Lib.splitB ⟨#[46]⟩ 0 (min 5 (s.size + 1) - 1) s := ⟨_, rfl⟩
  rw [← hL] at hd hlen ⊢
  rw [show (⟨#[46]⟩ : ByteArray).data.toList = [46] from rfl, Lib.size_eq s] at hd
  obtain ⟨f1, f2⟩ := split_five s.data.toList
  rw [← hd] at f1 f2
  refine ⟨L.length, _, fun j => L.getD j ByteArray.empty, rfl, by omega, by omega, by simpa using f1, ?_, by simp, (Below.refl _ _).alloc (Nat.le_refl _) _⟩
  intro h4 j hj
  have hj' : j < L.length := by omega
  refine ⟨?_, ?_⟩
  · rw [World.cell?_alloc_at _ _ _ _ rfl]
    unfold Lib.cellsOf
    simp [List.getElem?_append, hj', List.getD, List.getElem?_eq_getElem hj']
  · rw [← f2 (f1.1 (by simpa using h4))]
    simp [List.getD, List.getElem?_eq_getElem hj']
    exact (bs_of _).symm
/-- the accumulated address, by shifts -/
theorem shl_or (a x : Int) (h0 : 0 ≤ a) (h1 : a < 16777216) (x0 : 0 ≤ x) (x1 : x ≤ 255) : bits .or .u32 (a * 256) x = 256 * a + x := by
  rw [u32_or (a * 256) x (by omega) (by omega) x0 (by omega), nat_join 8 _ _ (by omega) (by omega)]; omega

theorem acc_lt {l : List UInt8} {a : Int} {k : Nat} (ha : a = acc (fun j => numI ((parts 46 l).getD j []) 255) k) (hk : k < 4) (h : ∀ j, j < k → num ((parts 46 l).getD j []) 255 ≠ none) : a < 16777216 := by
  have hbd := acc_bd (fun j => numI ((parts 46 l).getD j []) 255) k (by omega) (fun j hj => by
    rcases numI_cases ((parts 46 l).getD j []) 255 with ⟨_, e⟩ | ⟨n, e, h', _⟩
    · exact absurd e (h j hj)
    · simp only [e]; omega)
  have hpw : (256 : Int) ^ k ≤ 16777216 := by
    have : k = 0 ∨ k = 1 ∨ k = 2 ∨ k = 3 := by omega
    rcases this with rfl | rfl | rfl | rfl <;> decide
  rw [ha]; omega

set_option maxRecDepth 1000000 in
set_option maxHeartbeats 1000000 in
theorem ra_any (s : ByteArray) (w : World) (E0 : Env w) (hs : s.size ≤ 2097152) :
    Calls Tryz.prog 116 #[.string s] w fun e w' => e = .returned (.tuple #[.int .u32 (aB s.data.toList), .bool (aOk s.data.toList)]) ∧ Below w.heap.size w w' := by
  have E : Hid (Env w) := E0
  clear E0
  by_cases h4 : (parts 46 s.data.toList).length = 4
  · go_enter Tryz.func116, Tryz.ntmps116
    go_wp2_with (go_at_call 166; refine (splitn_any s _ E.out hs).mono ?_; rintro e w1 ⟨n, cap, P, rfl, hnc, hcap, hn4, hcell, hsz1, hb1⟩; obtain rfl := hn4.2 h4; have HX : Hid (∀ j, j < 4 → w1.cell? ⟨w.heap.size, j, none⟩ = some (.string (P j)) ∧ P j = bs ((parts 46 s.data.toList).getD j [])) := hcell rfl; clear hcell hn4)
    go_loopw [5, 17] (fun t i wr => ∃ (k : Nat) (a : Int), k ≤ 4 ∧ 0 ≤ a ∧ a < 4294967296 ∧ i = .int .i64 k ∧ t = .int .u32 a ∧ Below w1.heap.size w1 wr ∧ Hid (a = acc (fun j => numI ((parts 46 s.data.toList).getD j []) 255) k ∧ (∀ j, j < k → num ((parts 46 s.data.toList).getD j []) 255 ≠ none))) (fun _ i _ => 4 - (intOf i).toNat)
    case atStart => exact ⟨0, 0, by omega, by omega, by omega, rfl, rfl, Below.refl _ _, rfl, fun j hj => by omega⟩
    case round =>
      obtain ⟨k, a, hk, a0, a1, rfl, rfl, hb, H⟩ := hrel
      by_cases hlt : k < 4
      · have ha2 : a < 16777216 := acc_lt H.out.1 hlt H.out.2
        have hce : wr.cell? ⟨w.heap.size, k, none⟩ = some (.string (P k)) := bcell' hb hsz1 (HX.out k hlt).1
        have E1 : Hid (Env wr) := (E.out.mono hb1).mono hb
        have hPs : (P k).size ≤ 2097152 := by
          rw [(HX.out k hlt).2, bs_size]
          have := part_len 46 s.data.toList k
          have := Lib.size_eq s
          omega
        have hPd : (P k).data.toList = (parts 46 s.data.toList).getD k [] := by rw [(HX.out k hlt).2, bs_data]
        rcases hnum : num ((parts 46 s.data.toList).getD k []) 255 with _ | n
        · have hn : Hid (Calls Tryz.prog 167 #[.string (P k), .int .i64 255] wr fun e w' => e = .returned (.tuple #[.int .i64 0, .bool false]) ∧ Below wr.heap.size wr w') := by
            have h := rn_any (P k) 255 wr E1.out hPs (by omega) (by omega)
            rw [hPd] at h
            obtain ⟨q1, q2⟩ := n_none hnum
            rw [show (255 : Int).toNat = 255 from rfl, q1, q2] at h; exact h
          have hno : Hid (addr s.data.toList = none) := by
            rcases addrI_cases s.data.toList with ⟨_, e⟩ | ⟨x, e, _⟩
            · exact e
            · have := addr_bad h4 hlt hnum; omega
          clear hnum hPd
          go_wp2_with (go_at_call 167; refine hn.out.mono ?_; rintro e w2 ⟨rfl, hb2⟩)
          go_ret2
          obtain ⟨q1, q2⟩ := a_none hno.out
          rw [q1, q2]
          exact ⟨rfl, (hb1.trans (hb.mono (Nat.le_of_lt hsz1))).trans (hb2.mono (Nat.le_trans (Nat.le_of_lt hsz1) hb.size))⟩
        · have hnx : n ≤ 255 := (num_some.1 hnum).1
          obtain ⟨x, hx⟩ : ∃ x : Int, x = n := ⟨_, rfl⟩
          have x0 : 0 ≤ x := by omega
          have x1 : x ≤ 255 := by omega
          have hn : Hid (Calls Tryz.prog 167 #[.string (P k), .int .i64 255] wr fun e w' => e = .returned (.tuple #[.int .i64 x, .bool true]) ∧ Below wr.heap.size wr w') := by
            have h := rn_any (P k) 255 wr E1.out hPs (by omega) (by omega)
            rw [hPd] at h
            obtain ⟨q1, q2⟩ := n_some hnum
            rw [show (255 : Int).toNat = 255 from rfl, q1, q2, ← hx] at h; exact h
          have H2 : Hid (256 * a + x = acc (fun j => numI ((parts 46 s.data.toList).getD j []) 255) (k + 1) ∧ (∀ j, j < k + 1 → num ((parts 46 s.data.toList).getD j []) 255 ≠ none)) := by
            refine ⟨?_, fun j hj => ?_⟩
            · rw [acc, ← H.out.1]; simp only [numI, hnum]; omega
            · by_cases e : j < k
              · exact H.out.2 j e
              · obtain rfl : j = k := by omega
                rw [hnum]; simp
          have hor := shl_or a x a0 ha2 x0 x1
          clear hnum hPd hx hnx H
          go_wp2_with (go_at_call 167; refine hn.out.mono ?_; rintro e w2 ⟨rfl, hb2⟩)
          go_roundw
          case rel => exact ⟨k + 1, 256 * a + x, by omega, by omega, by omega, by go_num, rfl, hb.trans (hb2.mono hb.size), H2⟩
          case measure => simp [intOf]; omega
      · obtain rfl : k = 4 := by omega
        go_wp2
        go_ret2
        have hg := addr_good h4 H.out.2
        rw [← H.out.1] at hg
        have hs4 : addr s.data.toList = some a.toNat := by
          rcases addrI_cases s.data.toList with ⟨e, _⟩ | ⟨x, e, e2⟩
          · omega
          · rw [e2]; congr 1; omega
        obtain ⟨q1, q2⟩ := a_some hs4
        rw [q1, q2, show ((a.toNat : Nat) : Int) = a by omega]
        exact ⟨rfl, hb1.trans (hb.mono (Nat.le_of_lt hsz1))⟩
  · obtain ⟨q1, q2⟩ := a_none (addr_off' h4)
    rw [q1, q2]
    clear q1 q2
    go_enter Tryz.func116, Tryz.ntmps116
    go_wp2_with (go_at_call 166; refine (splitn_any s _ E.out hs).mono ?_; rintro e w1 ⟨n, cap, P, rfl, hnc, hcap, hn4, hcell, hsz1, hb1⟩; have hne : ((n : Int) == 4) = false := (by simp; intro e; exact h4 (hn4.1 (by omega))); clear hcell hn4)
    go_ret2
    exact ⟨rfl, hb1⟩
end Go.Proofs.YtlikdnmikdldfaaGreatDoor
namespace Go.Proofs.YtlikdnmikdldfaaGreatDoor
open Go.ChangeShapes Go.WideShapes Go.ChangeAt Go.RowKit
set_option linter.unusedVariables false
set_option linter.unusedSimpArgs false

theorem drew_below {w w' : World} (h : ∃ n, w' = w.drewN n) : Below w.heap.size w w' := by
  obtain ⟨n, rfl⟩ := h; exact below_drewN (Below.refl _ _) n
theorem cut_any (s : ByteArray) (w : World) (E : Env w) (hs : s.size ≤ 2097152) (a b : List UInt8) (f : Bool) (h : Lib.cut s.data.toList [47] = (a, b, f)) :
    Calls Tryz.prog 164 #[.string s, .string ⟨#[47]⟩] w fun e w' => e = .returned (.tuple #[.string (bs a), .string (bs b), .bool f]) ∧ Below w.heap.size w w' := by
  obtain ⟨m, hm⟩ := E.mx
  refine (Tryz.strings_Cut s ⟨#[47]⟩ m w (by omega) hm).mono ?_
  rintro e w' ⟨rfl, hd⟩
  rw [show (⟨#[47]⟩ : ByteArray).data.toList = [47] from rfl, h]
  exact ⟨rfl, drew_below hd⟩
theorem rd_noslash {l : List UInt8} (h : 47 ∉ l) : rd l = none := rd_off (by rw [parts_none 47 l h]; simp)
theorem rd_cut {a b : List UInt8} (h : 47 ∉ a) : rd (a ++ 47 :: b) = (match addr a, num b 32 with
    | some x, some n => if rt x n then some ((x : Int), (n : Int)) else none
    | _, _ => none) := by
  rcases first_cut 47 b with hb | ⟨c, d, rfl, hc⟩
  · have hp : parts 47 (a ++ 47 :: b) = [a, b] := by rw [parts_cons 47 a b h, parts_none 47 b hb]
    unfold rd; rw [hp]; rfl
  · have hn : num (c ++ 47 :: d) 32 = none := num_none.2 fun n hn e => by
      have := dec_no 47 (by decide) n
      rw [e] at this; simp at this
    rw [hn]
    have hoff : rd (a ++ 47 :: (c ++ 47 :: d)) = none := rd_off (by
      rw [parts_cons 47 a _ h, parts_cons 47 c d hc]
      have := parts_pos 47 d
      rw [List.length_cons, List.length_cons]; omega)
    rw [hoff]
    cases addr a <;> rfl

set_option maxRecDepth 1000000 in
set_option maxHeartbeats 1000000 in
theorem bread_none (s : ByteArray) (w : World) (t0 t1 : ByteArray) (f okA okN : Bool) (x y : Int) (E : Hid (Env w))
    (cc : Hid (∀ w, Env w → Calls Tryz.prog 164 #[.string s, .string ⟨#[47]⟩] w fun e w' => e = .returned (.tuple #[.string t0, .string t1, .bool f]) ∧ Below w.heap.size w w'))
    (ca : Hid (∀ w, Env w → Calls Tryz.prog 116 #[.string t0] w fun e w' => e = .returned (.tuple #[.int .u32 x, .bool okA]) ∧ Below w.heap.size w w'))
    (cn : Hid (∀ w, Env w → Calls Tryz.prog 117 #[.string t1] w fun e w' => e = .returned (.tuple #[.int .i64 y, .bool okN]) ∧ Below w.heap.size w w')) (h : f = false) :
    Calls Tryz.prog 115 #[.string s] w fun e w' => e = .returned (.tuple #[.agg #[.int .u32 (0), .int .i64 (0)], .int .i64 (1)]) ∧ Below w.heap.size w w' := by
  go_enter Tryz.func115, Tryz.ntmps115
  go_wp2_with (first | (go_at_call 164; refine (cc.out _ (E.out.mono (by repeat' (first | with_reducible assumption | with_reducible exact Below.refl _ _ | with_reducible apply Below.drew | with_reducible apply below_drewN | with_reducible apply Below.setCell | with_reducible apply Below.alloc | omega | (simp; done) | (simp; omega))))).mono ?_; rintro e w1 ⟨rfl, hb1⟩; obtain ⟨hc, hf⟩ := bcell hb1; have c1_0_0 : w1.cell? ⟨w.heap.size, 0, none⟩ = some (.int .u32 0) := (by rw [hc _ _ (by first | omega | (simp; done) | (simp; omega))]; first | assumption | (rw [World.cell?_alloc_past _ _ _ (by omega)]; assumption) | (simp [go_sem, *]; done)); have f1_0_0 : w1.frozen? ⟨w.heap.size, 0, none⟩ = false := (by rw [hf _ _ (by first | omega | (simp; done) | (simp; omega))]; first | assumption | (rw [World.frozen?_alloc_past _ _ _ (by omega)]; assumption) | (simp [go_sem, *]; done)); have c1_0_1 : w1.cell? ⟨w.heap.size, 1, none⟩ = some (.int .i64 0) := (by rw [hc _ _ (by first | omega | (simp; done) | (simp; omega))]; first | assumption | (rw [World.cell?_alloc_past _ _ _ (by omega)]; assumption) | (simp [go_sem, *]; done)); have f1_0_1 : w1.frozen? ⟨w.heap.size, 1, none⟩ = false := (by rw [hf _ _ (by first | omega | (simp; done) | (simp; omega))]; first | assumption | (rw [World.frozen?_alloc_past _ _ _ (by omega)]; assumption) | (simp [go_sem, *]; done)); have z1_0 : w.heap.size < w1.heap.size := (by have := hb1.size; (try simp at this); omega); clear hc hf; have E1 : Hid (Env w1) := (E.out.mono (by repeat' (first | with_reducible assumption | with_reducible exact Below.refl _ _ | with_reducible apply Below.drew | with_reducible apply below_drewN | with_reducible apply Below.setCell | with_reducible apply Below.alloc | omega | (simp; done) | (simp; omega)))).mono hb1) | (go_at_call 116; refine (ca.out _ E1.out).mono ?_; rintro e w2 ⟨rfl, hb2⟩; obtain ⟨hc, hf⟩ := bcell hb2; have c2_0_0 : w2.cell? ⟨w.heap.size, 0, none⟩ = some (.int .u32 0) := (by rw [hc _ _ (by first | omega | (simp; done) | (simp; omega))]; first | assumption | (rw [World.cell?_alloc_past _ _ _ (by omega)]; assumption) | (simp [go_sem, *]; done)); have f2_0_0 : w2.frozen? ⟨w.heap.size, 0, none⟩ = false := (by rw [hf _ _ (by first | omega | (simp; done) | (simp; omega))]; first | assumption | (rw [World.frozen?_alloc_past _ _ _ (by omega)]; assumption) | (simp [go_sem, *]; done)); have c2_0_1 : w2.cell? ⟨w.heap.size, 1, none⟩ = some (.int .i64 0) := (by rw [hc _ _ (by first | omega | (simp; done) | (simp; omega))]; first | assumption | (rw [World.cell?_alloc_past _ _ _ (by omega)]; assumption) | (simp [go_sem, *]; done)); have f2_0_1 : w2.frozen? ⟨w.heap.size, 1, none⟩ = false := (by rw [hf _ _ (by first | omega | (simp; done) | (simp; omega))]; first | assumption | (rw [World.frozen?_alloc_past _ _ _ (by omega)]; assumption) | (simp [go_sem, *]; done)); have z2_0 : w.heap.size < w2.heap.size := (by have := hb2.size; (try simp at this); omega); clear hc hf; have E2 : Hid (Env w2) := E1.out.mono hb2; clear c1_0_0 c1_0_1 f1_0_0 f1_0_1 z1_0) | (go_at_call 117; refine (cn.out _ E2.out).mono ?_; rintro e w3 ⟨rfl, hb3⟩; obtain ⟨hc, hf⟩ := bcell hb3; have c3_0_0 : w3.cell? ⟨w.heap.size, 0, none⟩ = some (.int .u32 0) := (by rw [hc _ _ (by first | omega | (simp; done) | (simp; omega))]; first | assumption | (rw [World.cell?_alloc_past _ _ _ (by omega)]; assumption) | (simp [go_sem, *]; done)); have f3_0_0 : w3.frozen? ⟨w.heap.size, 0, none⟩ = false := (by rw [hf _ _ (by first | omega | (simp; done) | (simp; omega))]; first | assumption | (rw [World.frozen?_alloc_past _ _ _ (by omega)]; assumption) | (simp [go_sem, *]; done)); have c3_0_1 : w3.cell? ⟨w.heap.size, 1, none⟩ = some (.int .i64 0) := (by rw [hc _ _ (by first | omega | (simp; done) | (simp; omega))]; first | assumption | (rw [World.cell?_alloc_past _ _ _ (by omega)]; assumption) | (simp [go_sem, *]; done)); have f3_0_1 : w3.frozen? ⟨w.heap.size, 1, none⟩ = false := (by rw [hf _ _ (by first | omega | (simp; done) | (simp; omega))]; first | assumption | (rw [World.frozen?_alloc_past _ _ _ (by omega)]; assumption) | (simp [go_sem, *]; done)); have z3_0 : w.heap.size < w3.heap.size := (by have := hb3.size; (try simp at this); omega); clear hc hf; clear c2_0_0 c2_0_1 f2_0_0 f2_0_1 z2_0))
  exact bodyPost_ret (v := .tuple #[.agg #[.int .u32 (0), .int .i64 (0)], .int .i64 (1)]) (by simp [results, Tryz.results115, go_sem, c3_0_0, c3_0_1, f3_0_0, f3_0_1, World.cell?_alloc_lt, z3_0, Nat.lt_succ_of_lt z3_0]) rfl ⟨rfl, (by have hq := hb1.mono (B' := w.heap.size) (by first | omega | (simp; done) | (simp; omega)); have hq2 := Below.trans (B := w.heap.size) (a := w) (by repeat' (first | with_reducible assumption | with_reducible exact Below.refl _ _ | with_reducible apply Below.drew | with_reducible apply below_drewN | with_reducible apply Below.setCell | with_reducible apply Below.alloc | omega | (simp; done) | (simp; omega))) hq; clear hq; have s1 := hq2.size; have hq3 := Below.trans (B := w.heap.size) (a := w) (by repeat' (first | with_reducible assumption | with_reducible exact Below.refl _ _ | with_reducible apply Below.drew | with_reducible apply below_drewN | with_reducible apply Below.setCell | with_reducible apply Below.alloc | omega | (simp; done) | (simp; omega))) (hb2.mono (B' := w.heap.size) (by first | omega | (simp; done) | (simp; omega))); have s2 := hq3.size; clear hq2; have hq4 := Below.trans (B := w.heap.size) (a := w) (by repeat' (first | with_reducible assumption | with_reducible exact Below.refl _ _ | with_reducible apply Below.drew | with_reducible apply below_drewN | with_reducible apply Below.setCell | with_reducible apply Below.alloc | omega | (simp; done) | (simp; omega))) (hb3.mono (B' := w.heap.size) (by first | omega | (simp; done) | (simp; omega))); have s3 := hq4.size; clear hq3; repeat' (first | with_reducible assumption | with_reducible exact Below.refl _ _ | with_reducible apply Below.drew | with_reducible apply below_drewN | with_reducible apply Below.setCell | with_reducible apply Below.alloc | omega | (simp; done) | (simp; omega)))⟩

set_option maxRecDepth 1000000 in
set_option maxHeartbeats 1000000 in
theorem bread_addr (s : ByteArray) (w : World) (t0 t1 : ByteArray) (f okA okN : Bool) (x y : Int) (E : Hid (Env w))
    (cc : Hid (∀ w, Env w → Calls Tryz.prog 164 #[.string s, .string ⟨#[47]⟩] w fun e w' => e = .returned (.tuple #[.string t0, .string t1, .bool f]) ∧ Below w.heap.size w w'))
    (ca : Hid (∀ w, Env w → Calls Tryz.prog 116 #[.string t0] w fun e w' => e = .returned (.tuple #[.int .u32 x, .bool okA]) ∧ Below w.heap.size w w'))
    (cn : Hid (∀ w, Env w → Calls Tryz.prog 117 #[.string t1] w fun e w' => e = .returned (.tuple #[.int .i64 y, .bool okN]) ∧ Below w.heap.size w w')) (h : f = true) (ha : okA = false) :
    Calls Tryz.prog 115 #[.string s] w fun e w' => e = .returned (.tuple #[.agg #[.int .u32 (0), .int .i64 (0)], .int .i64 (1)]) ∧ Below w.heap.size w w' := by
  go_enter Tryz.func115, Tryz.ntmps115
  go_wp2_with (first | (go_at_call 164; refine (cc.out _ (E.out.mono (by repeat' (first | with_reducible assumption | with_reducible exact Below.refl _ _ | with_reducible apply Below.drew | with_reducible apply below_drewN | with_reducible apply Below.setCell | with_reducible apply Below.alloc | omega | (simp; done) | (simp; omega))))).mono ?_; rintro e w1 ⟨rfl, hb1⟩; obtain ⟨hc, hf⟩ := bcell hb1; have c1_0_0 : w1.cell? ⟨w.heap.size, 0, none⟩ = some (.int .u32 0) := (by rw [hc _ _ (by first | omega | (simp; done) | (simp; omega))]; first | assumption | (rw [World.cell?_alloc_past _ _ _ (by omega)]; assumption) | (simp [go_sem, *]; done)); have f1_0_0 : w1.frozen? ⟨w.heap.size, 0, none⟩ = false := (by rw [hf _ _ (by first | omega | (simp; done) | (simp; omega))]; first | assumption | (rw [World.frozen?_alloc_past _ _ _ (by omega)]; assumption) | (simp [go_sem, *]; done)); have c1_0_1 : w1.cell? ⟨w.heap.size, 1, none⟩ = some (.int .i64 0) := (by rw [hc _ _ (by first | omega | (simp; done) | (simp; omega))]; first | assumption | (rw [World.cell?_alloc_past _ _ _ (by omega)]; assumption) | (simp [go_sem, *]; done)); have f1_0_1 : w1.frozen? ⟨w.heap.size, 1, none⟩ = false := (by rw [hf _ _ (by first | omega | (simp; done) | (simp; omega))]; first | assumption | (rw [World.frozen?_alloc_past _ _ _ (by omega)]; assumption) | (simp [go_sem, *]; done)); have z1_0 : w.heap.size < w1.heap.size := (by have := hb1.size; (try simp at this); omega); clear hc hf; have E1 : Hid (Env w1) := (E.out.mono (by repeat' (first | with_reducible assumption | with_reducible exact Below.refl _ _ | with_reducible apply Below.drew | with_reducible apply below_drewN | with_reducible apply Below.setCell | with_reducible apply Below.alloc | omega | (simp; done) | (simp; omega)))).mono hb1) | (go_at_call 116; refine (ca.out _ E1.out).mono ?_; rintro e w2 ⟨rfl, hb2⟩; obtain ⟨hc, hf⟩ := bcell hb2; have c2_0_0 : w2.cell? ⟨w.heap.size, 0, none⟩ = some (.int .u32 0) := (by rw [hc _ _ (by first | omega | (simp; done) | (simp; omega))]; first | assumption | (rw [World.cell?_alloc_past _ _ _ (by omega)]; assumption) | (simp [go_sem, *]; done)); have f2_0_0 : w2.frozen? ⟨w.heap.size, 0, none⟩ = false := (by rw [hf _ _ (by first | omega | (simp; done) | (simp; omega))]; first | assumption | (rw [World.frozen?_alloc_past _ _ _ (by omega)]; assumption) | (simp [go_sem, *]; done)); have c2_0_1 : w2.cell? ⟨w.heap.size, 1, none⟩ = some (.int .i64 0) := (by rw [hc _ _ (by first | omega | (simp; done) | (simp; omega))]; first | assumption | (rw [World.cell?_alloc_past _ _ _ (by omega)]; assumption) | (simp [go_sem, *]; done)); have f2_0_1 : w2.frozen? ⟨w.heap.size, 1, none⟩ = false := (by rw [hf _ _ (by first | omega | (simp; done) | (simp; omega))]; first | assumption | (rw [World.frozen?_alloc_past _ _ _ (by omega)]; assumption) | (simp [go_sem, *]; done)); have z2_0 : w.heap.size < w2.heap.size := (by have := hb2.size; (try simp at this); omega); clear hc hf; have E2 : Hid (Env w2) := E1.out.mono hb2; clear c1_0_0 c1_0_1 f1_0_0 f1_0_1 z1_0) | (go_at_call 117; refine (cn.out _ E2.out).mono ?_; rintro e w3 ⟨rfl, hb3⟩; obtain ⟨hc, hf⟩ := bcell hb3; have c3_0_0 : w3.cell? ⟨w.heap.size, 0, none⟩ = some (.int .u32 0) := (by rw [hc _ _ (by first | omega | (simp; done) | (simp; omega))]; first | assumption | (rw [World.cell?_alloc_past _ _ _ (by omega)]; assumption) | (simp [go_sem, *]; done)); have f3_0_0 : w3.frozen? ⟨w.heap.size, 0, none⟩ = false := (by rw [hf _ _ (by first | omega | (simp; done) | (simp; omega))]; first | assumption | (rw [World.frozen?_alloc_past _ _ _ (by omega)]; assumption) | (simp [go_sem, *]; done)); have c3_0_1 : w3.cell? ⟨w.heap.size, 1, none⟩ = some (.int .i64 0) := (by rw [hc _ _ (by first | omega | (simp; done) | (simp; omega))]; first | assumption | (rw [World.cell?_alloc_past _ _ _ (by omega)]; assumption) | (simp [go_sem, *]; done)); have f3_0_1 : w3.frozen? ⟨w.heap.size, 1, none⟩ = false := (by rw [hf _ _ (by first | omega | (simp; done) | (simp; omega))]; first | assumption | (rw [World.frozen?_alloc_past _ _ _ (by omega)]; assumption) | (simp [go_sem, *]; done)); have z3_0 : w.heap.size < w3.heap.size := (by have := hb3.size; (try simp at this); omega); clear hc hf; clear c2_0_0 c2_0_1 f2_0_0 f2_0_1 z2_0))
  exact bodyPost_ret (v := .tuple #[.agg #[.int .u32 (0), .int .i64 (0)], .int .i64 (1)]) (by simp [results, Tryz.results115, go_sem, c3_0_0, c3_0_1, f3_0_0, f3_0_1, World.cell?_alloc_lt, z3_0, Nat.lt_succ_of_lt z3_0]) rfl ⟨rfl, (by have hq := hb1.mono (B' := w.heap.size) (by first | omega | (simp; done) | (simp; omega)); have hq2 := Below.trans (B := w.heap.size) (a := w) (by repeat' (first | with_reducible assumption | with_reducible exact Below.refl _ _ | with_reducible apply Below.drew | with_reducible apply below_drewN | with_reducible apply Below.setCell | with_reducible apply Below.alloc | omega | (simp; done) | (simp; omega))) hq; clear hq; have s1 := hq2.size; have hq3 := Below.trans (B := w.heap.size) (a := w) (by repeat' (first | with_reducible assumption | with_reducible exact Below.refl _ _ | with_reducible apply Below.drew | with_reducible apply below_drewN | with_reducible apply Below.setCell | with_reducible apply Below.alloc | omega | (simp; done) | (simp; omega))) (hb2.mono (B' := w.heap.size) (by first | omega | (simp; done) | (simp; omega))); have s2 := hq3.size; clear hq2; have hq4 := Below.trans (B := w.heap.size) (a := w) (by repeat' (first | with_reducible assumption | with_reducible exact Below.refl _ _ | with_reducible apply Below.drew | with_reducible apply below_drewN | with_reducible apply Below.setCell | with_reducible apply Below.alloc | omega | (simp; done) | (simp; omega))) (hb3.mono (B' := w.heap.size) (by first | omega | (simp; done) | (simp; omega))); have s3 := hq4.size; clear hq3; repeat' (first | with_reducible assumption | with_reducible exact Below.refl _ _ | with_reducible apply Below.drew | with_reducible apply below_drewN | with_reducible apply Below.setCell | with_reducible apply Below.alloc | omega | (simp; done) | (simp; omega)))⟩

set_option maxRecDepth 1000000 in
set_option maxHeartbeats 1000000 in
theorem bread_num (s : ByteArray) (w : World) (t0 t1 : ByteArray) (f okA okN : Bool) (x y : Int) (E : Hid (Env w))
    (cc : Hid (∀ w, Env w → Calls Tryz.prog 164 #[.string s, .string ⟨#[47]⟩] w fun e w' => e = .returned (.tuple #[.string t0, .string t1, .bool f]) ∧ Below w.heap.size w w'))
    (ca : Hid (∀ w, Env w → Calls Tryz.prog 116 #[.string t0] w fun e w' => e = .returned (.tuple #[.int .u32 x, .bool okA]) ∧ Below w.heap.size w w'))
    (cn : Hid (∀ w, Env w → Calls Tryz.prog 117 #[.string t1] w fun e w' => e = .returned (.tuple #[.int .i64 y, .bool okN]) ∧ Below w.heap.size w w')) (h : f = true) (ha : okA = true) (hn : okN = false) :
    Calls Tryz.prog 115 #[.string s] w fun e w' => e = .returned (.tuple #[.agg #[.int .u32 (0), .int .i64 (0)], .int .i64 (1)]) ∧ Below w.heap.size w w' := by
  go_enter Tryz.func115, Tryz.ntmps115
  go_wp2_with (first | (go_at_call 164; refine (cc.out _ (E.out.mono (by repeat' (first | with_reducible assumption | with_reducible exact Below.refl _ _ | with_reducible apply Below.drew | with_reducible apply below_drewN | with_reducible apply Below.setCell | with_reducible apply Below.alloc | omega | (simp; done) | (simp; omega))))).mono ?_; rintro e w1 ⟨rfl, hb1⟩; obtain ⟨hc, hf⟩ := bcell hb1; have c1_0_0 : w1.cell? ⟨w.heap.size, 0, none⟩ = some (.int .u32 0) := (by rw [hc _ _ (by first | omega | (simp; done) | (simp; omega))]; first | assumption | (rw [World.cell?_alloc_past _ _ _ (by omega)]; assumption) | (simp [go_sem, *]; done)); have f1_0_0 : w1.frozen? ⟨w.heap.size, 0, none⟩ = false := (by rw [hf _ _ (by first | omega | (simp; done) | (simp; omega))]; first | assumption | (rw [World.frozen?_alloc_past _ _ _ (by omega)]; assumption) | (simp [go_sem, *]; done)); have c1_0_1 : w1.cell? ⟨w.heap.size, 1, none⟩ = some (.int .i64 0) := (by rw [hc _ _ (by first | omega | (simp; done) | (simp; omega))]; first | assumption | (rw [World.cell?_alloc_past _ _ _ (by omega)]; assumption) | (simp [go_sem, *]; done)); have f1_0_1 : w1.frozen? ⟨w.heap.size, 1, none⟩ = false := (by rw [hf _ _ (by first | omega | (simp; done) | (simp; omega))]; first | assumption | (rw [World.frozen?_alloc_past _ _ _ (by omega)]; assumption) | (simp [go_sem, *]; done)); have z1_0 : w.heap.size < w1.heap.size := (by have := hb1.size; (try simp at this); omega); clear hc hf; have E1 : Hid (Env w1) := (E.out.mono (by repeat' (first | with_reducible assumption | with_reducible exact Below.refl _ _ | with_reducible apply Below.drew | with_reducible apply below_drewN | with_reducible apply Below.setCell | with_reducible apply Below.alloc | omega | (simp; done) | (simp; omega)))).mono hb1) | (go_at_call 116; refine (ca.out _ E1.out).mono ?_; rintro e w2 ⟨rfl, hb2⟩; obtain ⟨hc, hf⟩ := bcell hb2; have c2_0_0 : w2.cell? ⟨w.heap.size, 0, none⟩ = some (.int .u32 0) := (by rw [hc _ _ (by first | omega | (simp; done) | (simp; omega))]; first | assumption | (rw [World.cell?_alloc_past _ _ _ (by omega)]; assumption) | (simp [go_sem, *]; done)); have f2_0_0 : w2.frozen? ⟨w.heap.size, 0, none⟩ = false := (by rw [hf _ _ (by first | omega | (simp; done) | (simp; omega))]; first | assumption | (rw [World.frozen?_alloc_past _ _ _ (by omega)]; assumption) | (simp [go_sem, *]; done)); have c2_0_1 : w2.cell? ⟨w.heap.size, 1, none⟩ = some (.int .i64 0) := (by rw [hc _ _ (by first | omega | (simp; done) | (simp; omega))]; first | assumption | (rw [World.cell?_alloc_past _ _ _ (by omega)]; assumption) | (simp [go_sem, *]; done)); have f2_0_1 : w2.frozen? ⟨w.heap.size, 1, none⟩ = false := (by rw [hf _ _ (by first | omega | (simp; done) | (simp; omega))]; first | assumption | (rw [World.frozen?_alloc_past _ _ _ (by omega)]; assumption) | (simp [go_sem, *]; done)); have z2_0 : w.heap.size < w2.heap.size := (by have := hb2.size; (try simp at this); omega); clear hc hf; have E2 : Hid (Env w2) := E1.out.mono hb2; clear c1_0_0 c1_0_1 f1_0_0 f1_0_1 z1_0) | (go_at_call 117; refine (cn.out _ E2.out).mono ?_; rintro e w3 ⟨rfl, hb3⟩; obtain ⟨hc, hf⟩ := bcell hb3; have c3_0_0 : w3.cell? ⟨w.heap.size, 0, none⟩ = some (.int .u32 0) := (by rw [hc _ _ (by first | omega | (simp; done) | (simp; omega))]; first | assumption | (rw [World.cell?_alloc_past _ _ _ (by omega)]; assumption) | (simp [go_sem, *]; done)); have f3_0_0 : w3.frozen? ⟨w.heap.size, 0, none⟩ = false := (by rw [hf _ _ (by first | omega | (simp; done) | (simp; omega))]; first | assumption | (rw [World.frozen?_alloc_past _ _ _ (by omega)]; assumption) | (simp [go_sem, *]; done)); have c3_0_1 : w3.cell? ⟨w.heap.size, 1, none⟩ = some (.int .i64 0) := (by rw [hc _ _ (by first | omega | (simp; done) | (simp; omega))]; first | assumption | (rw [World.cell?_alloc_past _ _ _ (by omega)]; assumption) | (simp [go_sem, *]; done)); have f3_0_1 : w3.frozen? ⟨w.heap.size, 1, none⟩ = false := (by rw [hf _ _ (by first | omega | (simp; done) | (simp; omega))]; first | assumption | (rw [World.frozen?_alloc_past _ _ _ (by omega)]; assumption) | (simp [go_sem, *]; done)); have z3_0 : w.heap.size < w3.heap.size := (by have := hb3.size; (try simp at this); omega); clear hc hf; clear c2_0_0 c2_0_1 f2_0_0 f2_0_1 z2_0))
  exact bodyPost_ret (v := .tuple #[.agg #[.int .u32 (0), .int .i64 (0)], .int .i64 (1)]) (by simp [results, Tryz.results115, go_sem, c3_0_0, c3_0_1, f3_0_0, f3_0_1, World.cell?_alloc_lt, z3_0, Nat.lt_succ_of_lt z3_0]) rfl ⟨rfl, (by have hq := hb1.mono (B' := w.heap.size) (by first | omega | (simp; done) | (simp; omega)); have hq2 := Below.trans (B := w.heap.size) (a := w) (by repeat' (first | with_reducible assumption | with_reducible exact Below.refl _ _ | with_reducible apply Below.drew | with_reducible apply below_drewN | with_reducible apply Below.setCell | with_reducible apply Below.alloc | omega | (simp; done) | (simp; omega))) hq; clear hq; have s1 := hq2.size; have hq3 := Below.trans (B := w.heap.size) (a := w) (by repeat' (first | with_reducible assumption | with_reducible exact Below.refl _ _ | with_reducible apply Below.drew | with_reducible apply below_drewN | with_reducible apply Below.setCell | with_reducible apply Below.alloc | omega | (simp; done) | (simp; omega))) (hb2.mono (B' := w.heap.size) (by first | omega | (simp; done) | (simp; omega))); have s2 := hq3.size; clear hq2; have hq4 := Below.trans (B := w.heap.size) (a := w) (by repeat' (first | with_reducible assumption | with_reducible exact Below.refl _ _ | with_reducible apply Below.drew | with_reducible apply below_drewN | with_reducible apply Below.setCell | with_reducible apply Below.alloc | omega | (simp; done) | (simp; omega))) (hb3.mono (B' := w.heap.size) (by first | omega | (simp; done) | (simp; omega))); have s3 := hq4.size; clear hq3; repeat' (first | with_reducible assumption | with_reducible exact Below.refl _ _ | with_reducible apply Below.drew | with_reducible apply below_drewN | with_reducible apply Below.setCell | with_reducible apply Below.alloc | omega | (simp; done) | (simp; omega)))⟩

set_option maxRecDepth 1000000 in
set_option maxHeartbeats 1000000 in
theorem bread_not (s : ByteArray) (w : World) (t0 t1 : ByteArray) (f okA okN : Bool) (x y : Int) (E : Hid (Env w))
    (cc : Hid (∀ w, Env w → Calls Tryz.prog 164 #[.string s, .string ⟨#[47]⟩] w fun e w' => e = .returned (.tuple #[.string t0, .string t1, .bool f]) ∧ Below w.heap.size w w'))
    (ca : Hid (∀ w, Env w → Calls Tryz.prog 116 #[.string t0] w fun e w' => e = .returned (.tuple #[.int .u32 x, .bool okA]) ∧ Below w.heap.size w w'))
    (cn : Hid (∀ w, Env w → Calls Tryz.prog 117 #[.string t1] w fun e w' => e = .returned (.tuple #[.int .i64 y, .bool okN]) ∧ Below w.heap.size w w')) (h : f = true) (ha : okA = true) (hn : okN = true) (x0 : 0 ≤ x) (x1 : x < 4294967296) (hr : rt x y = false) :
    Calls Tryz.prog 115 #[.string s] w fun e w' => e = .returned (.tuple #[.agg #[.int .u32 (0), .int .i64 (0)], .int .i64 (1)]) ∧ Below w.heap.size w w' := by
  go_enter Tryz.func115, Tryz.ntmps115
  go_wp2_with (first | (go_at_call 164; refine (cc.out _ (E.out.mono (by repeat' (first | with_reducible assumption | with_reducible exact Below.refl _ _ | with_reducible apply Below.drew | with_reducible apply below_drewN | with_reducible apply Below.setCell | with_reducible apply Below.alloc | omega | (simp; done) | (simp; omega))))).mono ?_; rintro e w1 ⟨rfl, hb1⟩; obtain ⟨hc, hf⟩ := bcell hb1; have c1_0_0 : w1.cell? ⟨w.heap.size, 0, none⟩ = some (.int .u32 0) := (by rw [hc _ _ (by first | omega | (simp; done) | (simp; omega))]; first | assumption | (rw [World.cell?_alloc_past _ _ _ (by omega)]; assumption) | (simp [go_sem, *]; done)); have f1_0_0 : w1.frozen? ⟨w.heap.size, 0, none⟩ = false := (by rw [hf _ _ (by first | omega | (simp; done) | (simp; omega))]; first | assumption | (rw [World.frozen?_alloc_past _ _ _ (by omega)]; assumption) | (simp [go_sem, *]; done)); have c1_0_1 : w1.cell? ⟨w.heap.size, 1, none⟩ = some (.int .i64 0) := (by rw [hc _ _ (by first | omega | (simp; done) | (simp; omega))]; first | assumption | (rw [World.cell?_alloc_past _ _ _ (by omega)]; assumption) | (simp [go_sem, *]; done)); have f1_0_1 : w1.frozen? ⟨w.heap.size, 1, none⟩ = false := (by rw [hf _ _ (by first | omega | (simp; done) | (simp; omega))]; first | assumption | (rw [World.frozen?_alloc_past _ _ _ (by omega)]; assumption) | (simp [go_sem, *]; done)); have z1_0 : w.heap.size < w1.heap.size := (by have := hb1.size; (try simp at this); omega); clear hc hf; have E1 : Hid (Env w1) := (E.out.mono (by repeat' (first | with_reducible assumption | with_reducible exact Below.refl _ _ | with_reducible apply Below.drew | with_reducible apply below_drewN | with_reducible apply Below.setCell | with_reducible apply Below.alloc | omega | (simp; done) | (simp; omega)))).mono hb1) | (go_at_call 116; refine (ca.out _ E1.out).mono ?_; rintro e w2 ⟨rfl, hb2⟩; obtain ⟨hc, hf⟩ := bcell hb2; have c2_0_0 : w2.cell? ⟨w.heap.size, 0, none⟩ = some (.int .u32 0) := (by rw [hc _ _ (by first | omega | (simp; done) | (simp; omega))]; first | assumption | (rw [World.cell?_alloc_past _ _ _ (by omega)]; assumption) | (simp [go_sem, *]; done)); have f2_0_0 : w2.frozen? ⟨w.heap.size, 0, none⟩ = false := (by rw [hf _ _ (by first | omega | (simp; done) | (simp; omega))]; first | assumption | (rw [World.frozen?_alloc_past _ _ _ (by omega)]; assumption) | (simp [go_sem, *]; done)); have c2_0_1 : w2.cell? ⟨w.heap.size, 1, none⟩ = some (.int .i64 0) := (by rw [hc _ _ (by first | omega | (simp; done) | (simp; omega))]; first | assumption | (rw [World.cell?_alloc_past _ _ _ (by omega)]; assumption) | (simp [go_sem, *]; done)); have f2_0_1 : w2.frozen? ⟨w.heap.size, 1, none⟩ = false := (by rw [hf _ _ (by first | omega | (simp; done) | (simp; omega))]; first | assumption | (rw [World.frozen?_alloc_past _ _ _ (by omega)]; assumption) | (simp [go_sem, *]; done)); have z2_0 : w.heap.size < w2.heap.size := (by have := hb2.size; (try simp at this); omega); clear hc hf; have E2 : Hid (Env w2) := E1.out.mono hb2; clear c1_0_0 c1_0_1 f1_0_0 f1_0_1 z1_0) | (go_at_call 117; refine (cn.out _ E2.out).mono ?_; rintro e w3 ⟨rfl, hb3⟩; obtain ⟨hc, hf⟩ := bcell hb3; have c3_0_0 : w3.cell? ⟨w.heap.size, 0, none⟩ = some (.int .u32 0) := (by rw [hc _ _ (by first | omega | (simp; done) | (simp; omega))]; first | assumption | (rw [World.cell?_alloc_past _ _ _ (by omega)]; assumption) | (simp [go_sem, *]; done)); have f3_0_0 : w3.frozen? ⟨w.heap.size, 0, none⟩ = false := (by rw [hf _ _ (by first | omega | (simp; done) | (simp; omega))]; first | assumption | (rw [World.frozen?_alloc_past _ _ _ (by omega)]; assumption) | (simp [go_sem, *]; done)); have c3_0_1 : w3.cell? ⟨w.heap.size, 1, none⟩ = some (.int .i64 0) := (by rw [hc _ _ (by first | omega | (simp; done) | (simp; omega))]; first | assumption | (rw [World.cell?_alloc_past _ _ _ (by omega)]; assumption) | (simp [go_sem, *]; done)); have f3_0_1 : w3.frozen? ⟨w.heap.size, 1, none⟩ = false := (by rw [hf _ _ (by first | omega | (simp; done) | (simp; omega))]; first | assumption | (rw [World.frozen?_alloc_past _ _ _ (by omega)]; assumption) | (simp [go_sem, *]; done)); have z3_0 : w.heap.size < w3.heap.size := (by have := hb3.size; (try simp at this); omega); clear hc hf; clear c2_0_0 c2_0_1 f2_0_0 f2_0_1 z2_0) | (go_at_call 165; refine (right_any _ _ _ x0 x1).mono ?_; rintro e w4 ⟨rfl, hb4⟩; obtain ⟨hc, hf⟩ := bcell hb4; have c4_0_0 : w4.cell? ⟨w.heap.size, 0, none⟩ = some (.int .u32 0) := (by rw [hc _ _ (by first | omega | (simp; done) | (simp; omega))]; first | assumption | (rw [World.cell?_alloc_past _ _ _ (by omega)]; assumption) | (simp [go_sem, *]; done)); have f4_0_0 : w4.frozen? ⟨w.heap.size, 0, none⟩ = false := (by rw [hf _ _ (by first | omega | (simp; done) | (simp; omega))]; first | assumption | (rw [World.frozen?_alloc_past _ _ _ (by omega)]; assumption) | (simp [go_sem, *]; done)); have c4_0_1 : w4.cell? ⟨w.heap.size, 1, none⟩ = some (.int .i64 0) := (by rw [hc _ _ (by first | omega | (simp; done) | (simp; omega))]; first | assumption | (rw [World.cell?_alloc_past _ _ _ (by omega)]; assumption) | (simp [go_sem, *]; done)); have f4_0_1 : w4.frozen? ⟨w.heap.size, 1, none⟩ = false := (by rw [hf _ _ (by first | omega | (simp; done) | (simp; omega))]; first | assumption | (rw [World.frozen?_alloc_past _ _ _ (by omega)]; assumption) | (simp [go_sem, *]; done)); have c4_1_0 : w4.cell? ⟨w3.heap.size, 0, none⟩ = some (.int .u32 x) := (by rw [hc _ _ (by first | omega | (simp; done) | (simp; omega))]; first | assumption | (rw [World.cell?_alloc_past _ _ _ (by omega)]; assumption) | (simp [go_sem, *]; done)); have c4_1_1 : w4.cell? ⟨w3.heap.size, 1, none⟩ = some (.int .i64 y) := (by rw [hc _ _ (by first | omega | (simp; done) | (simp; omega))]; first | assumption | (rw [World.cell?_alloc_past _ _ _ (by omega)]; assumption) | (simp [go_sem, *]; done)); have z4_0 : w.heap.size < w4.heap.size := (by have := hb4.size; (try simp at this); omega); have z4_1 : w3.heap.size < w4.heap.size := (by have := hb4.size; (try simp at this); omega); clear hc hf; clear c3_0_0 c3_0_1 f3_0_0 f3_0_1 z3_0))
  exact bodyPost_ret (v := .tuple #[.agg #[.int .u32 (0), .int .i64 (0)], .int .i64 (1)]) (by simp [results, Tryz.results115, go_sem, c4_0_0, c4_0_1, f4_0_0, f4_0_1, World.cell?_alloc_lt, z4_0, Nat.lt_succ_of_lt z4_0]) rfl ⟨rfl, (by have hq := hb1.mono (B' := w.heap.size) (by first | omega | (simp; done) | (simp; omega)); have hq2 := Below.trans (B := w.heap.size) (a := w) (by repeat' (first | with_reducible assumption | with_reducible exact Below.refl _ _ | with_reducible apply Below.drew | with_reducible apply below_drewN | with_reducible apply Below.setCell | with_reducible apply Below.alloc | omega | (simp; done) | (simp; omega))) hq; clear hq; have s1 := hq2.size; have hq3 := Below.trans (B := w.heap.size) (a := w) (by repeat' (first | with_reducible assumption | with_reducible exact Below.refl _ _ | with_reducible apply Below.drew | with_reducible apply below_drewN | with_reducible apply Below.setCell | with_reducible apply Below.alloc | omega | (simp; done) | (simp; omega))) (hb2.mono (B' := w.heap.size) (by first | omega | (simp; done) | (simp; omega))); have s2 := hq3.size; clear hq2; have hq4 := Below.trans (B := w.heap.size) (a := w) (by repeat' (first | with_reducible assumption | with_reducible exact Below.refl _ _ | with_reducible apply Below.drew | with_reducible apply below_drewN | with_reducible apply Below.setCell | with_reducible apply Below.alloc | omega | (simp; done) | (simp; omega))) (hb3.mono (B' := w.heap.size) (by first | omega | (simp; done) | (simp; omega))); have s3 := hq4.size; clear hq3; have hq5 := Below.trans (B := w.heap.size) (a := w) (by repeat' (first | with_reducible assumption | with_reducible exact Below.refl _ _ | with_reducible apply Below.drew | with_reducible apply below_drewN | with_reducible apply Below.setCell | with_reducible apply Below.alloc | omega | (simp; done) | (simp; omega))) (hb4.mono (B' := w.heap.size) (by first | omega | (simp; done) | (simp; omega))); have s4 := hq5.size; clear hq4; repeat' (first | with_reducible assumption | with_reducible exact Below.refl _ _ | with_reducible apply Below.drew | with_reducible apply below_drewN | with_reducible apply Below.setCell | with_reducible apply Below.alloc | omega | (simp; done) | (simp; omega)))⟩

set_option maxRecDepth 1000000 in
set_option maxHeartbeats 1000000 in
theorem bread_ok (s : ByteArray) (w : World) (t0 t1 : ByteArray) (f okA okN : Bool) (x y : Int) (E : Hid (Env w))
    (cc : Hid (∀ w, Env w → Calls Tryz.prog 164 #[.string s, .string ⟨#[47]⟩] w fun e w' => e = .returned (.tuple #[.string t0, .string t1, .bool f]) ∧ Below w.heap.size w w'))
    (ca : Hid (∀ w, Env w → Calls Tryz.prog 116 #[.string t0] w fun e w' => e = .returned (.tuple #[.int .u32 x, .bool okA]) ∧ Below w.heap.size w w'))
    (cn : Hid (∀ w, Env w → Calls Tryz.prog 117 #[.string t1] w fun e w' => e = .returned (.tuple #[.int .i64 y, .bool okN]) ∧ Below w.heap.size w w')) (h : f = true) (ha : okA = true) (hn : okN = true) (x0 : 0 ≤ x) (x1 : x < 4294967296) (hr : rt x y = true) :
    Calls Tryz.prog 115 #[.string s] w fun e w' => e = .returned (.tuple #[.agg #[.int .u32 (x), .int .i64 (y)], .int .i64 (0)]) ∧ Below w.heap.size w w' := by
  go_enter Tryz.func115, Tryz.ntmps115
  go_wp2_with (first | (go_at_call 164; refine (cc.out _ (E.out.mono (by repeat' (first | with_reducible assumption | with_reducible exact Below.refl _ _ | with_reducible apply Below.drew | with_reducible apply below_drewN | with_reducible apply Below.setCell | with_reducible apply Below.alloc | omega | (simp; done) | (simp; omega))))).mono ?_; rintro e w1 ⟨rfl, hb1⟩; obtain ⟨hc, hf⟩ := bcell hb1; have c1_0_0 : w1.cell? ⟨w.heap.size, 0, none⟩ = some (.int .u32 0) := (by rw [hc _ _ (by first | omega | (simp; done) | (simp; omega))]; first | assumption | (rw [World.cell?_alloc_past _ _ _ (by omega)]; assumption) | (simp [go_sem, *]; done)); have f1_0_0 : w1.frozen? ⟨w.heap.size, 0, none⟩ = false := (by rw [hf _ _ (by first | omega | (simp; done) | (simp; omega))]; first | assumption | (rw [World.frozen?_alloc_past _ _ _ (by omega)]; assumption) | (simp [go_sem, *]; done)); have c1_0_1 : w1.cell? ⟨w.heap.size, 1, none⟩ = some (.int .i64 0) := (by rw [hc _ _ (by first | omega | (simp; done) | (simp; omega))]; first | assumption | (rw [World.cell?_alloc_past _ _ _ (by omega)]; assumption) | (simp [go_sem, *]; done)); have f1_0_1 : w1.frozen? ⟨w.heap.size, 1, none⟩ = false := (by rw [hf _ _ (by first | omega | (simp; done) | (simp; omega))]; first | assumption | (rw [World.frozen?_alloc_past _ _ _ (by omega)]; assumption) | (simp [go_sem, *]; done)); have z1_0 : w.heap.size < w1.heap.size := (by have := hb1.size; (try simp at this); omega); clear hc hf; have E1 : Hid (Env w1) := (E.out.mono (by repeat' (first | with_reducible assumption | with_reducible exact Below.refl _ _ | with_reducible apply Below.drew | with_reducible apply below_drewN | with_reducible apply Below.setCell | with_reducible apply Below.alloc | omega | (simp; done) | (simp; omega)))).mono hb1) | (go_at_call 116; refine (ca.out _ E1.out).mono ?_; rintro e w2 ⟨rfl, hb2⟩; obtain ⟨hc, hf⟩ := bcell hb2; have c2_0_0 : w2.cell? ⟨w.heap.size, 0, none⟩ = some (.int .u32 0) := (by rw [hc _ _ (by first | omega | (simp; done) | (simp; omega))]; first | assumption | (rw [World.cell?_alloc_past _ _ _ (by omega)]; assumption) | (simp [go_sem, *]; done)); have f2_0_0 : w2.frozen? ⟨w.heap.size, 0, none⟩ = false := (by rw [hf _ _ (by first | omega | (simp; done) | (simp; omega))]; first | assumption | (rw [World.frozen?_alloc_past _ _ _ (by omega)]; assumption) | (simp [go_sem, *]; done)); have c2_0_1 : w2.cell? ⟨w.heap.size, 1, none⟩ = some (.int .i64 0) := (by rw [hc _ _ (by first | omega | (simp; done) | (simp; omega))]; first | assumption | (rw [World.cell?_alloc_past _ _ _ (by omega)]; assumption) | (simp [go_sem, *]; done)); have f2_0_1 : w2.frozen? ⟨w.heap.size, 1, none⟩ = false := (by rw [hf _ _ (by first | omega | (simp; done) | (simp; omega))]; first | assumption | (rw [World.frozen?_alloc_past _ _ _ (by omega)]; assumption) | (simp [go_sem, *]; done)); have z2_0 : w.heap.size < w2.heap.size := (by have := hb2.size; (try simp at this); omega); clear hc hf; have E2 : Hid (Env w2) := E1.out.mono hb2; clear c1_0_0 c1_0_1 f1_0_0 f1_0_1 z1_0) | (go_at_call 117; refine (cn.out _ E2.out).mono ?_; rintro e w3 ⟨rfl, hb3⟩; obtain ⟨hc, hf⟩ := bcell hb3; have c3_0_0 : w3.cell? ⟨w.heap.size, 0, none⟩ = some (.int .u32 0) := (by rw [hc _ _ (by first | omega | (simp; done) | (simp; omega))]; first | assumption | (rw [World.cell?_alloc_past _ _ _ (by omega)]; assumption) | (simp [go_sem, *]; done)); have f3_0_0 : w3.frozen? ⟨w.heap.size, 0, none⟩ = false := (by rw [hf _ _ (by first | omega | (simp; done) | (simp; omega))]; first | assumption | (rw [World.frozen?_alloc_past _ _ _ (by omega)]; assumption) | (simp [go_sem, *]; done)); have c3_0_1 : w3.cell? ⟨w.heap.size, 1, none⟩ = some (.int .i64 0) := (by rw [hc _ _ (by first | omega | (simp; done) | (simp; omega))]; first | assumption | (rw [World.cell?_alloc_past _ _ _ (by omega)]; assumption) | (simp [go_sem, *]; done)); have f3_0_1 : w3.frozen? ⟨w.heap.size, 1, none⟩ = false := (by rw [hf _ _ (by first | omega | (simp; done) | (simp; omega))]; first | assumption | (rw [World.frozen?_alloc_past _ _ _ (by omega)]; assumption) | (simp [go_sem, *]; done)); have z3_0 : w.heap.size < w3.heap.size := (by have := hb3.size; (try simp at this); omega); clear hc hf; clear c2_0_0 c2_0_1 f2_0_0 f2_0_1 z2_0) | (go_at_call 165; refine (right_any _ _ _ x0 x1).mono ?_; rintro e w4 ⟨rfl, hb4⟩; obtain ⟨hc, hf⟩ := bcell hb4; have c4_0_0 : w4.cell? ⟨w.heap.size, 0, none⟩ = some (.int .u32 0) := (by rw [hc _ _ (by first | omega | (simp; done) | (simp; omega))]; first | assumption | (rw [World.cell?_alloc_past _ _ _ (by omega)]; assumption) | (simp [go_sem, *]; done)); have f4_0_0 : w4.frozen? ⟨w.heap.size, 0, none⟩ = false := (by rw [hf _ _ (by first | omega | (simp; done) | (simp; omega))]; first | assumption | (rw [World.frozen?_alloc_past _ _ _ (by omega)]; assumption) | (simp [go_sem, *]; done)); have c4_0_1 : w4.cell? ⟨w.heap.size, 1, none⟩ = some (.int .i64 0) := (by rw [hc _ _ (by first | omega | (simp; done) | (simp; omega))]; first | assumption | (rw [World.cell?_alloc_past _ _ _ (by omega)]; assumption) | (simp [go_sem, *]; done)); have f4_0_1 : w4.frozen? ⟨w.heap.size, 1, none⟩ = false := (by rw [hf _ _ (by first | omega | (simp; done) | (simp; omega))]; first | assumption | (rw [World.frozen?_alloc_past _ _ _ (by omega)]; assumption) | (simp [go_sem, *]; done)); have c4_1_0 : w4.cell? ⟨w3.heap.size, 0, none⟩ = some (.int .u32 x) := (by rw [hc _ _ (by first | omega | (simp; done) | (simp; omega))]; first | assumption | (rw [World.cell?_alloc_past _ _ _ (by omega)]; assumption) | (simp [go_sem, *]; done)); have c4_1_1 : w4.cell? ⟨w3.heap.size, 1, none⟩ = some (.int .i64 y) := (by rw [hc _ _ (by first | omega | (simp; done) | (simp; omega))]; first | assumption | (rw [World.cell?_alloc_past _ _ _ (by omega)]; assumption) | (simp [go_sem, *]; done)); have z4_0 : w.heap.size < w4.heap.size := (by have := hb4.size; (try simp at this); omega); have z4_1 : w3.heap.size < w4.heap.size := (by have := hb4.size; (try simp at this); omega); clear hc hf; clear c3_0_0 c3_0_1 f3_0_0 f3_0_1 z3_0))
  exact bodyPost_ret (v := .tuple #[.agg #[.int .u32 (x), .int .i64 (y)], .int .i64 (0)]) (by simp [results, Tryz.results115, go_sem, c4_0_0, c4_0_1, f4_0_0, f4_0_1, World.cell?_alloc_lt, z4_0, Nat.lt_succ_of_lt z4_0]) rfl ⟨rfl, (by have hq := hb1.mono (B' := w.heap.size) (by first | omega | (simp; done) | (simp; omega)); have hq2 := Below.trans (B := w.heap.size) (a := w) (by repeat' (first | with_reducible assumption | with_reducible exact Below.refl _ _ | with_reducible apply Below.drew | with_reducible apply below_drewN | with_reducible apply Below.setCell | with_reducible apply Below.alloc | omega | (simp; done) | (simp; omega))) hq; clear hq; have s1 := hq2.size; have hq3 := Below.trans (B := w.heap.size) (a := w) (by repeat' (first | with_reducible assumption | with_reducible exact Below.refl _ _ | with_reducible apply Below.drew | with_reducible apply below_drewN | with_reducible apply Below.setCell | with_reducible apply Below.alloc | omega | (simp; done) | (simp; omega))) (hb2.mono (B' := w.heap.size) (by first | omega | (simp; done) | (simp; omega))); have s2 := hq3.size; clear hq2; have hq4 := Below.trans (B := w.heap.size) (a := w) (by repeat' (first | with_reducible assumption | with_reducible exact Below.refl _ _ | with_reducible apply Below.drew | with_reducible apply below_drewN | with_reducible apply Below.setCell | with_reducible apply Below.alloc | omega | (simp; done) | (simp; omega))) (hb3.mono (B' := w.heap.size) (by first | omega | (simp; done) | (simp; omega))); have s3 := hq4.size; clear hq3; have hq5 := Below.trans (B := w.heap.size) (a := w) (by repeat' (first | with_reducible assumption | with_reducible exact Below.refl _ _ | with_reducible apply Below.drew | with_reducible apply below_drewN | with_reducible apply Below.setCell | with_reducible apply Below.alloc | omega | (simp; done) | (simp; omega))) (hb4.mono (B' := w.heap.size) (by first | omega | (simp; done) | (simp; omega))); have s4 := hq5.size; clear hq4; repeat' (first | with_reducible assumption | with_reducible exact Below.refl _ _ | with_reducible apply Below.drew | with_reducible apply below_drewN | with_reducible apply Below.setCell | with_reducible apply Below.alloc | omega | (simp; done) | (simp; omega)))⟩

theorem bread_any (s : ByteArray) (w : World) (E : Env w) (hs : s.size ≤ 2097152) :
    Calls Tryz.prog 115 #[.string s] w fun e w' => e = .returned (.tuple #[.agg #[.int .u32 (rdB s.data.toList), .int .i64 (rdN s.data.toList)], .int .i64 (rdE s.data.toList)]) ∧ Below w.heap.size w w' := by
  have hl := Lib.size_eq s
  have ca : ∀ l : List UInt8, l.length ≤ s.size → ∀ w, Env w → Calls Tryz.prog 116 #[.string (bs l)] w fun e w' => e = .returned (.tuple #[.int .u32 (aB l), .bool (aOk l)]) ∧ Below w.heap.size w w' := fun l h w E => by
    have := ra_any (bs l) w E (by rw [bs_size]; omega)
    rw [bs_data] at this; exact this
  have cn : ∀ l : List UInt8, l.length ≤ s.size → ∀ w, Env w → Calls Tryz.prog 117 #[.string (bs l)] w fun e w' => e = .returned (.tuple #[.int .i64 (nB l 32), .bool (nOk l 32)]) ∧ Below w.heap.size w w' := fun l h w E => by
    have := rbits_any (bs l) w E (by rw [bs_size]; omega)
    rw [bs_data] at this; exact this
  rcases first_cut 47 s.data.toList with h | ⟨a, b, hab, h⟩
  · obtain ⟨q1, q2, q3⟩ := rd_none (rd_noslash h)
    rw [q1, q2, q3]
    exact bread_none s w _ _ _ _ _ _ _ E (fun w E => cut_any s w E hs _ _ _ (cut_no 47 _ h)) (ca _ (by omega)) (cn _ (by simp)) rfl
  · have hrd := rd_cut (b := b) h
    rw [← hab] at hrd
    have la : a.length ≤ s.size := by rw [hl, hab]; simp
    have lb : b.length ≤ s.size := by rw [hl, hab]; simp; omega
    have cc : ∀ w, Env w → Calls Tryz.prog 164 #[.string s, .string ⟨#[47]⟩] w fun e w' => e = .returned (.tuple #[.string (bs a), .string (bs b), .bool true]) ∧ Below w.heap.size w w' := fun w E => cut_any s w E hs _ _ _ (by rw [hab]; exact cut_at 47 a b h)
    have ca := ca a la
    have cn := cn b lb
    rcases ea : addr a with _ | x
    · rw [ea] at hrd
      obtain ⟨q1, q2, q3⟩ := rd_none hrd
      rw [q1, q2, q3]
      exact bread_addr s w _ _ _ _ _ _ _ E cc ca cn rfl (a_none ea).2
    · have hx := addr_lt ea
      obtain ⟨r1, r2⟩ := a_some ea
      rw [r1, r2] at ca
      rcases en : num b 32 with _ | n
      · rw [ea, en] at hrd
        obtain ⟨q1, q2, q3⟩ := rd_none hrd
        rw [q1, q2, q3]
        exact bread_num s w _ _ _ _ _ _ _ E cc ca cn rfl rfl (n_none en).2
      · rw [ea, en] at hrd
        obtain ⟨r3, r4⟩ := n_some en
        rw [r3, r4] at cn
        rcases hr : rt (x : Int) (n : Int) with _ | _
        · simp only [hr] at hrd
          obtain ⟨q1, q2, q3⟩ := rd_none hrd
          rw [q1, q2, q3]
          exact bread_not s w _ _ _ _ _ _ _ E cc ca cn rfl rfl rfl (by omega) (by omega) hr
        · simp only [hr] at hrd
          obtain ⟨q1, q2, q3⟩ := rd_some hrd
          rw [q1, q2, q3]
          exact bread_ok s w _ _ _ _ _ _ _ E cc ca cn rfl rfl rfl (by omega) (by omega) hr

end Go.Proofs.YtlikdnmikdldfaaGreatDoor
namespace Go.Proofs.YtlikdnmikdldfaaGreatDoor
open Go.RowKit
set_option linter.unusedVariables false

/-- pieces, with the byte between them -/
def glue (c : UInt8) : List (List UInt8) → List UInt8
  | [] => []
  | [p] => p
  | p :: r => p ++ c :: glue c r
theorem glue_parts (c : UInt8) (n : Nat) : ∀ l : List UInt8, l.length ≤ n → glue c (parts c l) = l := by
  induction n with
  | zero =>
    intro l hl
    obtain rfl : l = [] := List.eq_nil_of_length_eq_zero (by omega)
    rfl
  | succ n ih =>
    intro l hl
    rcases first_cut c l with h | ⟨a, b, rfl, h⟩
    · rw [parts_none c l h]; rfl
    · rw [parts_cons c a b h]
      have hb := ih b (by simp at hl; omega)
      have hp := parts_pos c b
      rcases e : parts c b with _ | ⟨q, r⟩
      · rw [e] at hp; simp at hp
      · rw [e] at hb
        show a ++ c :: glue c (q :: r) = _
        rw [hb]
theorem four_text {p0 p1 p2 p3 : List UInt8} {a : Nat} (h : four p0 p1 p2 p3 = some a) : glue 46 [p0, p1, p2, p3] = dot a := by
  unfold four at h
  split at h
  · rename_i a0 a1 a2 a3 e0 e1 e2 e3
    obtain ⟨h0, rfl⟩ := num_some.1 e0
    obtain ⟨h1, rfl⟩ := num_some.1 e1
    obtain ⟨h2, rfl⟩ := num_some.1 e2
    obtain ⟨h3, rfl⟩ := num_some.1 e3
    simp at h
    subst h
    unfold dot
    rw [show (((a0 * 256 + a1) * 256 + a2) * 256 + a3) / 16777216 = a0 by omega, show (((a0 * 256 + a1) * 256 + a2) * 256 + a3) / 65536 % 256 = a1 by omega, show (((a0 * 256 + a1) * 256 + a2) * 256 + a3) / 256 % 256 = a2 by omega, show (((a0 * 256 + a1) * 256 + a2) * 256 + a3) % 256 = a3 by omega]
    rfl
  · cases h
theorem addr_text {l : List UInt8} {a : Nat} (h : addr l = some a) : l = dot a := by
  have hg := glue_parts 46 l.length l (Nat.le_refl _)
  unfold addr at h
  split at h
  · rename_i p0 p1 p2 p3 e
    rw [e] at hg
    rw [← hg]; exact four_text h
  · cases h
/-- a text that is a block at all is the text of it -/
theorem rd_text {l : List UInt8} {a n : Int} (h : rd l = some (a, n)) : l = wr a.toNat n.toNat ∧ rt a n = true ∧ 0 ≤ a ∧ a < 4294967296 ∧ 0 ≤ n ∧ n ≤ 32 := by
  have hg := glue_parts 47 l.length l (Nat.le_refl _)
  unfold rd at h
  split at h
  · rename_i x y e
    split at h
    · rename_i A N ea en
      split at h
      · rename_i hr
        simp at h
        obtain ⟨rfl, rfl⟩ := h
        have h1 := addr_text ea
        have h2 := addr_lt ea
        obtain ⟨h3, h4⟩ := num_some.1 en
        rw [e] at hg
        refine ⟨?_, hr, by omega, by omega, by omega, by omega⟩
        rw [← hg]
        show x ++ 47 :: y = _
        rw [h1, ← h4]
        simp [wr]
      · cases h
    · cases h
  · cases h
theorem dot_no (c : UInt8) (hc : c.toNat < 46 ∨ c.toNat = 47 ∨ 57 < c.toNat) (a : Nat) : c ∉ dot a := by
  have h := fun n => dec_no c (by omega) n
  have h46 : c ≠ 46 := fun e => by rw [e] at hc; revert hc; decide
  unfold dot
  simp only [List.mem_append, List.mem_cons]
  intro e
  rcases e with e | e | e | e | e | e | e
  · exact h _ e
  · exact h46 e
  · exact h _ e
  · exact h46 e
  · exact h _ e
  · exact h46 e
  · exact h _ e
theorem num_dec (n m : Nat) (h : n ≤ m) : num (dec n) m = some n := num_some.2 ⟨h, rfl⟩
theorem addr_dot (a : Nat) (h : a < 4294967296) : addr (dot a) = some a := by
  have hd := fun n => dec_no 46 (by decide) n
  have hp : parts 46 (dot a) = [dec (a / 16777216), dec (a / 65536 % 256), dec (a / 256 % 256), dec (a % 256)] := by
    unfold dot
    rw [parts_cons 46 _ _ (hd _), parts_cons 46 _ _ (hd _), parts_cons 46 _ _ (hd _), parts_none 46 _ (hd _)]
  unfold addr
  rw [hp]
  simp only [four]
  rw [num_dec _ _ (by omega), num_dec _ _ (by omega), num_dec _ _ (by omega), num_dec _ _ (by omega)]
  simp only [Option.some.injEq]
  omega
/-- a right block comes back out of its text -/
theorem rd_wr {a n : Int} (h0 : 0 ≤ a) (h1 : a < 4294967296) (hr : rt a n = true) : rd (wr a.toNat n.toNat) = some (a, n) := by
  obtain ⟨n0, n1, _⟩ := rt_iff.1 hr
  have hc := rd_cut (b := dec n.toNat) (dot_no 47 (by decide) a.toNat)
  unfold wr
  rw [hc, addr_dot _ (by omega), num_dec _ _ (by omega)]
  simp only []
  rw [show ((a.toNat : Nat) : Int) = a by omega, show ((n.toNat : Nat) : Int) = n by omega, if_pos hr]
/-- with something behind it, it is none or another -/
theorem rd_more {a n : Int} {m : List UInt8} (h0 : 0 ≤ a) (h1 : a < 4294967296) (hr : rt a n = true) (h : rd (wr a.toNat n.toNat ++ m) = some (a, n)) : m = [] := by
  obtain ⟨e, _⟩ := rd_text h
  have := congrArg List.length e
  rw [List.length_append] at this
  exact List.eq_nil_of_length_eq_zero (by omega)
/-- one more: not right any more, but at 32 bits -/
theorem rt_next {a n : Int} (h0 : 0 ≤ a) (h1 : a < 4294967296) (hr : rt a n = true) (hn : n < 32) : rt (a + 1) n = false ∧ a + 1 < 4294967296 := by
  obtain ⟨n0, n1, n2⟩ := rt_iff.1 hr
  have he := end_le a n n0 n1 h0 h1 n2
  have hs := sz_succ n hn
  have hp := sz_pos (n + 1)
  have hz : (2 : Int) ≤ sz n := by omega
  refine ⟨?_, by omega⟩
  rw [rt_in n0 n1, Int.add_emod, n2, Int.zero_add, Int.emod_emod_of_dvd _ (Int.dvd_refl _), Int.emod_eq_of_lt (by omega) (by omega)]
  rfl
end Go.Proofs.YtlikdnmikdldfaaGreatDoor
namespace Go.Proofs.YtlikdnmikdldfaaGreatDoor
open Go.RowKit
set_option linter.unusedVariables false
set_option linter.unusedSimpArgs false

def verb (k : Nat) : List UInt8 := verbT.getD k []
theorem verb_fin : ∀ k : Fin 11, fi (fun v => v == verb k) verbT = ((k : Nat) : Int) := by decide +kernel
theorem verb_fi (k : Nat) (h : k < 11) : fi (fun v => v == verb k) verbT = (k : Int) := verb_fin ⟨k, h⟩
theorem verb_nof : ∀ k : Fin 11, (32 : UInt8) ∉ verb k ∧ (verb k).length ≤ 5 := by decide +kernel
theorem verb_no (k : Nat) (h : k < 11) : (32 : UInt8) ∉ verb k ∧ (verb k).length ≤ 5 := verb_nof ⟨k, h⟩
theorem name_all {l : List UInt8} (h : isName l = true) : 0 < l.length ∧ l.length ≤ 8 ∧ ∀ c, c ∈ l → (97 ≤ c.toNat ∧ c.toNat ≤ 122) ∨ (48 ≤ c.toNat ∧ c.toNat ≤ 57) := by
  unfold isName at h
  simp only [Bool.and_eq_true, decide_eq_true_eq, List.all_eq_true, Bool.or_eq_true] at h
  exact ⟨h.1.1, h.1.2, h.2⟩
theorem name_no {l : List UInt8} (h : isName l = true) : (32 : UInt8) ∉ l := fun q => by
  have := (name_all h).2.2 32 q
  revert this; decide
theorem dec_lenB {n : Nat} (h : n < 1000) : 1 ≤ (dec n).length ∧ (dec n).length ≤ 3 := by
  rw [dec_3 n h]; unfold dec3
  split
  · simp
  · split <;> simp
theorem dot_lenB (a : Nat) (h : a < 4294967296) : 7 ≤ (dot a).length ∧ (dot a).length ≤ 15 := by
  have h0 := dec_lenB (n := a / 16777216) (by omega)
  have h1 := dec_lenB (n := a / 65536 % 256) (by omega)
  have h2 := dec_lenB (n := a / 256 % 256) (by omega)
  have h3 := dec_lenB (n := a % 256) (by omega)
  unfold dot
  simp only [List.length_append, List.length_cons]
  omega
theorem dec_len2 {n : Nat} (h : n < 100) : (dec n).length ≤ 2 := by
  rw [dec_3 n (by omega)]; unfold dec3
  split
  · simp
  · simp
theorem wr_len (a n : Nat) (h : a < 4294967296) (hn : n ≤ 32) : (wr a n).length ≤ 18 := by
  have h0 := dot_lenB a h
  have h1 := dec_len2 (n := n) (by omega)
  unfold wr
  simp only [List.length_append, List.length_cons]
  omega
theorem wr_no (c : UInt8) (hc : c.toNat < 46 ∨ 57 < c.toNat) (a n : Nat) : c ∉ wr a n := by
  unfold wr
  intro q
  rcases List.mem_append.1 q with q | q
  · exact dot_no c (by omega) a q
  · rcases List.mem_cons.1 q with q | q
    · rw [q] at hc; revert hc; decide
    · exact dec_no c (by omega) n q

/-- a line of words -/
theorem parts_4 {v t o x : List UInt8} (hv : (32 : UInt8) ∉ v) (ht : (32 : UInt8) ∉ t) (ho : (32 : UInt8) ∉ o) (hx : (32 : UInt8) ∉ x) : parts 32 (v ++ 32 :: (t ++ 32 :: (o ++ 32 :: x))) = [v, t, o, x] := by
  rw [parts_cons 32 _ _ hv, parts_cons 32 _ _ ht, parts_cons 32 _ _ ho, parts_none 32 _ hx]
theorem parts_5 {v t o x y : List UInt8} (hv : (32 : UInt8) ∉ v) (ht : (32 : UInt8) ∉ t) (ho : (32 : UInt8) ∉ o) (hx : (32 : UInt8) ∉ x) (hy : (32 : UInt8) ∉ y) : parts 32 (v ++ 32 :: (t ++ 32 :: (o ++ 32 :: (x ++ 32 :: y)))) = [v, t, o, x, y] := by
  rw [parts_cons 32 _ _ hv, parts_cons 32 _ _ ht, parts_cons 32 _ _ ho, parts_cons 32 _ _ hx, parts_none 32 _ hy]
theorem rdLine_of {s : List UInt8} {k : Nat} {ws : List (List UInt8)} (hs : s.length ≤ 100) (hk : k < 11) (hp : parts 32 s = verb k :: ws) : rdLine s = rdParts (ln0 k) (form k) ws := by
  unfold rdLine
  rw [if_pos hs, hp]
  simp only []
  rw [verb_fi k hk, if_neg (by omega), Int.toNat_natCast]
def lnB (k : Nat) (t o : List UInt8) (a n : Int) : Ln := ⟨k, ⟨t.toArray⟩, ⟨o.toArray⟩, a, n, 0, 0⟩
/-- POOL, DROP, BLOCK, FREE, LEASE -/
theorem read_block {k : Nat} {t o : List UInt8} {a n : Int} (hk : k = 0 ∨ k = 1 ∨ k = 3 ∨ k = 4 ∨ k = 5) (ht : isName t = true) (ho : isName o = true) (h0 : 0 ≤ a) (h1 : a < 4294967296) (hr : rt a n = true) :
    rdLine (verb k ++ 32 :: (t ++ 32 :: (o ++ 32 :: wr a.toNat n.toNat))) = some (lnB k t o a n) := by
  obtain ⟨n0, n1, _⟩ := rt_iff.1 hr
  obtain ⟨v1, v2⟩ := verb_no k (by omega)
  obtain ⟨_, t2, _⟩ := name_all ht
  obtain ⟨_, o2, _⟩ := name_all ho
  have hl := wr_len a.toNat n.toNat (by omega) (by omega)
  have hp := parts_4 v1 (name_no ht) (name_no ho) (wr_no 32 (by decide) a.toNat n.toNat)
  rw [rdLine_of (by simp only [List.length_append, List.length_cons]; omega) (by omega) hp]
  have hf : form k = [1, 2, 3] := by rcases hk with rfl | rfl | rfl | rfl | rfl <;> rfl
  rw [hf]
  simp only [rdParts, rdPart, ht, ho, rd_wr h0 h1 hr, if_pos, if_true, Nat.reduceEqDiff, if_false, ite_true]
  rfl
/-- NET -/
theorem read_net {t o : List UInt8} {a n : Int} {g : Nat} (ht : isName t = true) (ho : isName o = true) (h0 : 0 ≤ a) (h1 : a < 4294967296) (hr : rt a n = true) (hg : g ≤ 32) :
    rdLine (verb 2 ++ 32 :: (t ++ 32 :: (o ++ 32 :: (wr a.toNat n.toNat ++ 32 :: dec g)))) = some { lnB 2 t o a n with g := g } := by
  obtain ⟨n0, n1, _⟩ := rt_iff.1 hr
  obtain ⟨v1, v2⟩ := verb_no 2 (by omega)
  obtain ⟨_, t2, _⟩ := name_all ht
  obtain ⟨_, o2, _⟩ := name_all ho
  have hl := wr_len a.toNat n.toNat (by omega) (by omega)
  have hd := dec_len2 (n := g) (by omega)
  have hp := parts_5 v1 (name_no ht) (name_no ho) (wr_no 32 (by decide) a.toNat n.toNat) (dec_no 32 (by decide) g)
  rw [rdLine_of (by simp only [List.length_append, List.length_cons]; omega) (by omega) hp]
  have hf : form 2 = [1, 2, 3, 5] := rfl
  rw [hf]
  simp only [rdParts, rdPart, ht, ho, rd_wr h0 h1 hr, num_dec g 32 hg, if_pos, if_true, Nat.reduceEqDiff, if_false, ite_true]
  rfl
/-- TAKE, GIVE -/
theorem read_addr {k : Nat} {t o : List UInt8} {d : Nat} (hk : k = 6 ∨ k = 7) (ht : isName t = true) (ho : isName o = true) (h1 : d < 4294967296) :
    rdLine (verb k ++ 32 :: (t ++ 32 :: (o ++ 32 :: dot d))) = some { lnB k t o 0 0 with d := d } := by
  obtain ⟨v1, v2⟩ := verb_no k (by omega)
  obtain ⟨_, t2, _⟩ := name_all ht
  obtain ⟨_, o2, _⟩ := name_all ho
  have hl := dot_lenB d h1
  have hp := parts_4 v1 (name_no ht) (name_no ho) (dot_no 32 (by decide) d)
  rw [rdLine_of (by simp only [List.length_append, List.length_cons]; omega) (by omega) hp]
  have hf : form k = [1, 2, 4] := by rcases hk with rfl | rfl <;> rfl
  rw [hf]
  simp only [rdParts, rdPart, ht, ho, addr_dot d h1, if_pos, if_true, Nat.reduceEqDiff, if_false, ite_true]
  rfl
/-- NETS, USED -/
theorem read_ask {k : Nat} {a n : Int} (hk : k = 9 ∨ k = 10) (h0 : 0 ≤ a) (h1 : a < 4294967296) (hr : rt a n = true) :
    rdLine (verb k ++ 32 :: wr a.toNat n.toNat) = some (lnB k [] [] a n) := by
  obtain ⟨n0, n1, _⟩ := rt_iff.1 hr
  obtain ⟨v1, v2⟩ := verb_no k (by omega)
  have hl := wr_len a.toNat n.toNat (by omega) (by omega)
  have hp : parts 32 (verb k ++ 32 :: wr a.toNat n.toNat) = [verb k, wr a.toNat n.toNat] := by
    rw [parts_cons 32 _ _ v1, parts_none 32 _ (wr_no 32 (by decide) a.toNat n.toNat)]
  rw [rdLine_of (by simp only [List.length_append, List.length_cons]; omega) (by omega) hp]
  have hf : form k = [3] := by rcases hk with rfl | rfl <;> rfl
  rw [hf]
  simp only [rdParts, rdPart, rd_wr h0 h1 hr, if_pos, if_true, Nat.reduceEqDiff, if_false, ite_true]
  rfl
/-- POOLS -/
theorem read_pools : rdLine (verb 8) = some (ln0 8) := by
  obtain ⟨v1, v2⟩ := verb_no 8 (by omega)
  rw [rdLine_of (by omega) (by omega) (parts_none 32 _ v1)]
  rfl

/-! ### what an answer tells -/
theorem parts_told : ∀ (w : List UInt8) (l : List (List UInt8)), (32 : UInt8) ∉ w → (∀ x, x ∈ l → (32 : UInt8) ∉ x) → parts 32 (w ++ l.flatMap (fun t => 32 :: t)) = w :: l
  | w, [], hw, _ => by simp [parts_none 32 w hw]
  | w, x :: r, hw, h => by
    rw [List.flatMap_cons, List.cons_append, parts_cons 32 w _ hw, parts_told x r (h x (by simp)) (fun y hy => h y (by simp [hy]))]
theorem hText_no {h : Hd} (ho : isName h.o.data.toList = true) : (32 : UInt8) ∉ hText h := by
  unfold hText bText
  intro q
  rcases List.mem_append.1 q with q | q
  · exact wr_no 32 (by decide) _ _ q
  · rcases List.mem_cons.1 q with q | q
    · revert q; decide
    · exact name_no ho q
theorem lText_no {h : Ls} (ho : isName h.o.data.toList = true) : (32 : UInt8) ∉ lText h := by
  unfold lText
  intro q
  rcases List.mem_append.1 q with q | q
  · exact dot_no 32 (by decide) _ q
  · rcases List.mem_cons.1 q with q | q
    · revert q; decide
    · exact name_no ho q
end Go.Proofs.YtlikdnmikdldfaaGreatDoor
namespace Go.Proofs.YtlikdnmikdldfaaGreatDoor
open Go.RowKit
set_option linter.unusedVariables false
set_option linter.unusedSimpArgs false

def B0 : Int := 167772160
def annT : List UInt8 := [97, 110, 110]
def bobT : List UInt8 := [98, 111, 98]
def cyT : List UInt8 := [99, 121]
def bA (l : List UInt8) : ByteArray := ⟨l.toArray⟩
/-- the first i blocks of m bits -/
def nat (m : Int) (i : Nat) : List Hd := (List.range i).map fun (j : Nat) => (⟨B0 + (j : Int) * sz m, m, bA annT⟩ : Hd)
def fP (n : Int) : List Hd := [⟨B0, n, bA annT⟩]
def fitN (n m : Int) : Nat := 2 ^ (m - n).toNat
def fullB (n m : Int) (l : List Hd) : Option (Int × Int) := best (frees 33 (netsOf l B0 n) B0 n) m
def has1 (o : Option (Int × Int)) (a : Int) : Bool := match o with | some b => decide (b.1 = a) | none => false
def eqH (x y : Hd) : Bool := decide (x.a = y.a) && decide (x.n = y.n) && decide (x.o = y.o)
def eqHs : List Hd → List Hd → Bool
  | [], [] => true
  | x :: r, y :: q => eqH x y && eqHs r q
  | _, _ => false
theorem eqH_eq {x y : Hd} (h : eqH x y = true) : x = y := by
  unfold eqH at h
  simp only [Bool.and_eq_true, decide_eq_true_eq] at h
  cases x; cases y; simp_all
theorem eqHs_eq : ∀ {l q : List Hd}, eqHs l q = true → l = q
  | [], [], _ => rfl
  | [], _ :: _, h => by simp [eqHs] at h
  | _ :: _, [], h => by simp [eqHs] at h
  | x :: r, y :: q, h => by
    simp only [eqHs, Bool.and_eq_true] at h
    rw [eqH_eq h.1, eqHs_eq h.2]
def chkNet (n m : Int) (i : Nat) : Bool := has1 (fullB n m (nat m i)) (B0 + (i : Int) * sz m) && eqHs (insH (nat m i) ⟨B0 + (i : Int) * sz m, m, bA annT⟩) (nat m (i + 1)) && decide ((nat m i).length < 24)
def chkBack (n m : Int) (k : Nat) : Bool :=
  decide (findH (nat m (fitN n m)) (B0 + (k : Int) * sz m) m = (k : Int)) && decide (((nat m (fitN n m)).getD k hd0).o = bA annT) &&
  has1 (fullB n m (delAt (nat m (fitN n m)) k)) (B0 + (k : Int) * sz m) && decide ((delAt (nat m (fitN n m)) k).length < 24) &&
  (fullB n m (insH (delAt (nat m (fitN n m)) k) ⟨B0 + (k : Int) * sz m, m, bA bobT⟩)).isNone
def chkAll (n m : Int) : Bool := (List.range (fitN n m)).all (fun i => chkNet n m i && chkBack n m i) && (fullB n m (nat m (fitN n m))).isNone && decide (findH (fP n) B0 n = 0) && decide (fitN n m ≤ 16)
def mOf (n d : Nat) : Int := if 32 < n + d then 32 else ((n + d : Nat) : Int)
set_option maxRecDepth 100000 in
theorem chk_fin : ∀ n : Fin 9, ∀ d : Fin 5, chkAll ((22 + (n : Nat) : Nat) : Int) (mOf (22 + (n : Nat)) d) = true := by decide +kernel
end Go.Proofs.YtlikdnmikdldfaaGreatDoor
namespace Go.Proofs.YtlikdnmikdldfaaGreatDoor
open Go.RowKit
set_option linter.unusedVariables false
set_option linter.unusedSimpArgs false

theorem has1_some {o : Option (Int × Int)} {a : Int} (h : has1 o a = true) : ∃ b, o = some b ∧ b.1 = a := by
  unfold has1 at h
  split at h
  · rename_i b; exact ⟨b, rfl, by simpa using h⟩
  · cases h
structure Fl (n m : Int) : Prop where
  net : ∀ i, i < fitN n m → (∃ b, fullB n m (nat m i) = some b ∧ b.1 = B0 + (i : Int) * sz m) ∧ insH (nat m i) ⟨B0 + (i : Int) * sz m, m, bA annT⟩ = nat m (i + 1) ∧ (nat m i).length < 24
  back : ∀ k, k < fitN n m → findH (nat m (fitN n m)) (B0 + (k : Int) * sz m) m = (k : Int) ∧ ((nat m (fitN n m)).getD k hd0).o = bA annT ∧ (∃ b, fullB n m (delAt (nat m (fitN n m)) k) = some b ∧ b.1 = B0 + (k : Int) * sz m) ∧ (delAt (nat m (fitN n m)) k).length < 24 ∧ fullB n m (insH (delAt (nat m (fitN n m)) k) ⟨B0 + (k : Int) * sz m, m, bA bobT⟩) = none
  full : fullB n m (nat m (fitN n m)) = none
  pool : findH (fP n) B0 n = 0
  le : fitN n m ≤ 16
theorem fl_of {n m : Int} (h : chkAll n m = true) : Fl n m := by
  unfold chkAll at h
  simp only [Bool.and_eq_true, decide_eq_true_eq, List.all_eq_true, List.mem_range, Option.isNone_iff_eq_none] at h
  obtain ⟨⟨⟨h1, h2⟩, h3⟩, h4⟩ := h
  refine ⟨fun i hi => ?_, fun k hk => ?_, h2, h3, h4⟩
  · have := (h1 i hi).1
    unfold chkNet at this
    simp only [Bool.and_eq_true, decide_eq_true_eq] at this
    exact ⟨has1_some this.1.1, eqHs_eq this.1.2, this.2⟩
  · have := (h1 k hk).2
    unfold chkBack at this
    simp only [Bool.and_eq_true, decide_eq_true_eq, Option.isNone_iff_eq_none] at this
    obtain ⟨⟨⟨⟨q1, q2⟩, q3⟩, q4⟩, q5⟩ := this
    exact ⟨q1, q2, has1_some q3, q4, q5⟩
theorem fl_any (n d : Nat) (hn : 22 ≤ n) (hn2 : n ≤ 30) (hd : d < 5) : Fl (n : Int) (mOf n d) := by
  have h := chk_fin ⟨n - 22, by omega⟩ ⟨d, hd⟩
  simp only [show 22 + (n - 22) = n by omega] at h
  exact fl_of h
theorem mOf_bd (n d : Nat) (hn : 22 ≤ n) (hn2 : n ≤ 30) : (n : Int) ≤ mOf n d ∧ mOf n d ≤ 32 ∧ 22 ≤ mOf n d := by
  unfold mOf; split <;> omega

/-- a command whose token is new, and that is done -/
theorem doAll_new {s : Bk} {line : ByteArray} {l : Ln} (hr : rdLine line.data.toList = some l) (hv : l.v < 8) (ht : findT s.toks l.t = none) {s' : Bk} {a : An} (hd : doLn s l = (s', a)) :
    doAll s line = (if a.e = 0 then { s' with toks := addT s'.toks ⟨l.t, line, bA (anText a)⟩ } else s', bA (anText a)) := by
  unfold doAll
  rw [hr]
  simp only []
  rw [if_pos hv, ht]
  simp only []
  rw [hd]
  split
  · rfl
  · rfl
theorem findT_none {l : List Tk} {t : ByteArray} (h : ∀ x, x ∈ l → x.t ≠ t) : findT l t = none := by
  unfold findT
  rw [List.filter_eq_nil_iff.2 (fun x hx => by simpa using h x hx)]
  rfl
theorem mem_addT {l : List Tk} {x y : Tk} (h : y ∈ addT l x) : y = x ∨ y ∈ l := by
  unfold addT at h
  rcases List.mem_append.1 h with h | h
  · split at h
    · exact .inr (List.mem_of_mem_drop h)
    · exact .inr h
  · exact .inl (by simpa using h)
theorem B0_rt (n : Int) (h0 : 8 ≤ n) (h1 : n ≤ 32) : rt B0 n = true := by
  have : ∀ k : Fin 25, rt B0 ((8 + (k : Nat) : Nat) : Int) = true := by decide +kernel
  have h := this ⟨(n - 8).toNat, by omega⟩
  rwa [show (((8 + ((n - 8).toNat)) : Nat) : Int) = n by omega] at h
theorem fill_pool (n : Int) (h0 : 8 ≤ n) (h1 : n ≤ 30) (t : List UInt8) (T : List Tk) : doLn ⟨[], [], [], T⟩ (lnB 0 t annT B0 n) = (⟨fP n, [], [], T⟩, okA) := by
  show doPool _ _ = _
  unfold doPool lnB
  dsimp only
  rw [if_neg (by omega)]
  rfl
theorem fill_net {n m : Int} (F : Fl n m) (hm : 22 ≤ m) (hnm : n ≤ m) (i : Nat) (hi : i < fitN n m) (t : List UInt8) (T : List Tk) : doLn ⟨fP n, nat m i, [], T⟩ { lnB 2 t annT B0 n with g := m } = (⟨fP n, nat m (i + 1), [], T⟩, tell1 (bA (bText (B0 + (i : Int) * sz m) m))) := by
  obtain ⟨⟨b, h1, h2⟩, h3, h4⟩ := F.net i hi
  show doNet _ _ = _
  unfold doNet lnB
  dsimp only
  unfold fullB at h1
  rw [F.pool, if_neg (by omega), if_neg (by omega), h1]
  dsimp only
  rw [if_neg (by omega), h2]
  show (Bk.mk _ (insH (nat m i) ⟨B0 + (i : Int) * sz m, m, bA annT⟩) _ _, _) = _
  rw [h3]; rfl
theorem fill_full {n m : Int} (hp : findH (fP n) B0 n = 0) (hm : 22 ≤ m) (hnm : n ≤ m) {N : List Hd} (h : fullB n m N = none) (t o : List UInt8) (T : List Tk) : doLn ⟨fP n, N, [], T⟩ { lnB 2 t o B0 n with g := m } = (⟨fP n, N, [], T⟩, ref 10) := by
  show doNet _ _ = _
  unfold doNet lnB
  dsimp only
  unfold fullB at h
  rw [hp, if_neg (by omega), if_neg (by omega), h]
theorem fill_free {n m : Int} (F : Fl n m) (k : Nat) (hk : k < fitN n m) (t : List UInt8) (T : List Tk) : doLn ⟨fP n, nat m (fitN n m), [], T⟩ (lnB 4 t annT (B0 + (k : Int) * sz m) m) = (⟨fP n, delAt (nat m (fitN n m)) k, [], T⟩, okA) := by
  obtain ⟨h1, h2, _⟩ := F.back k hk
  show doFree _ _ = _
  unfold doFree lnB
  dsimp only
  rw [h1, if_neg (by omega), Int.toNat_natCast, h2]
  simp [leasesOf, bA]
theorem fill_again {n m : Int} (F : Fl n m) (hm : 22 ≤ m) (hnm : n ≤ m) (k : Nat) (hk : k < fitN n m) (t : List UInt8) (T : List Tk) : doLn ⟨fP n, delAt (nat m (fitN n m)) k, [], T⟩ { lnB 2 t bobT B0 n with g := m } = (⟨fP n, insH (delAt (nat m (fitN n m)) k) ⟨B0 + (k : Int) * sz m, m, bA bobT⟩, [], T⟩, tell1 (bA (bText (B0 + (k : Int) * sz m) m))) := by
  obtain ⟨_, _, ⟨b, h1, h2⟩, h3, _⟩ := F.back k hk
  show doNet _ _ = _
  unfold doNet lnB
  dsimp only
  unfold fullB at h1
  rw [F.pool, if_neg (by omega), if_neg (by omega), h1]
  dsimp only
  rw [if_neg (by omega), h2]
  rfl
end Go.Proofs.YtlikdnmikdldfaaGreatDoor
namespace Go.Proofs.YtlikdnmikdldfaaGreatDoor
open Go.ChangeShapes Go.WideShapes Go.ChangeAt Go.RowKit
set_option linter.unusedVariables false
set_option linter.unusedSimpArgs false
attribute [local go_sem ↓] Go.wp_at_zero Go.wp_at_succ

theorem pick_any (c n : Int) (w : World) (hc : -9223372036854775808 ≤ c ∧ c ≤ 9223372036854775807) (h0 : 0 < n) (h1 : n ≤ 1000000) :
    Calls Tryz.prog 18 #[.int .i64 c, .int .i64 n] w fun e w' => e = .returned (.int .i64 (pk c n)) ∧ w' = w := by
  obtain ⟨g0, g1⟩ := hc
  by_cases h : c < 0
  · have e : Hid (-(c + 1).tmod n = pk c n) := pk_neg c n h
    go_enter Tryz.func18, Tryz.ntmps18
    go_wp2
    go_ret
    exact ⟨ret_int e.out, rfl⟩
  · have e : Hid (pk c n = c % n) := (by unfold pk; rw [if_neg h] : pk c n = c % n)
    go_enter Tryz.func18, Tryz.ntmps18
    go_wp2
    go_ret
    exact ⟨ret_int e.out.symm, rfl⟩

theorem ksize_any (n : Int) (w : World) (h0 : 0 ≤ n) (h1 : n ≤ 32) :
    Calls Tryz.prog 21 #[.int .i64 n] w fun e w' => e = .returned (.int .i64 (sz n)) ∧ w' = w := by
  go_enter Tryz.func21, Tryz.ntmps21
  go_wp2
  go_ret
  exact ⟨ret_int (ksize_eq n h0 h1), rfl⟩

end Go.Proofs.YtlikdnmikdldfaaGreatDoor
namespace Go.Proofs.YtlikdnmikdldfaaGreatDoor
open Go.ChangeShapes Go.WideShapes Go.ChangeAt Go.RowKit
set_option linter.unusedVariables false
set_option linter.unusedSimpArgs false

theorem kd_last {x m : Int} {l : List UInt8} (h0 : 0 ≤ m) (h1 : m < 10) (h : dec x.toNat = dec m.toNat ++ l) : one (48 + m % 10) ++ bs l = bs (dec x.toNat) := by
  rw [dec_small m h0 h1, bs_append, h]
theorem kd_more {x m : Int} {l : List UInt8} (h0 : 0 ≤ m) (h1 : ¬ m < 10) (h : dec x.toNat = dec m.toNat ++ l) : dec x.toNat = dec (m / 10).toNat ++ (UInt8.ofNat (48 + m % 10).toNat :: l) := by
  have := dec_big m h0 h1
  rw [one_bs, bs_append] at this
  rw [h, ← bs_inj this]; simp
set_option maxRecDepth 1000000 in
set_option maxHeartbeats 1000000 in
theorem kdigits_any (x : Int) (w : World) (h0 : 0 ≤ x) (h1 : x ≤ 4294967296) :
    Calls Tryz.prog 19 #[.int .i64 x] w fun e w' => e = .returned (.string (bs (dec x.toNat))) ∧ Below w.heap.size w w' := by
  go_enter Tryz.func19, Tryz.ntmps19
  go_wp2
  go_loopw [0, 3] (fun n t wr => ∃ (m : Int) (l : List UInt8) (st : ByteArray), 0 ≤ m ∧ m ≤ 4294967296 ∧ st.size ≤ 4294967297 ∧ n = .int .i64 m ∧ t = .string st ∧ Hid (st = bs l ∧ dec x.toNat = dec m.toNat ++ l) ∧ Below w.heap.size w wr) (fun n _ _ => (intOf n).toNat)
  case atStart => exact ⟨x, [], ⟨#[]⟩, h0, h1, Nat.zero_le _, rfl, rfl, ⟨rfl, by simp⟩, Below.refl _ _⟩
  case round =>
    obtain ⟨m, l, st, m0, m1, hst, rfl, rfl, H, hb⟩ := hrel
    have hcv := conv_one (48 + m % 10)
    have hos := one_size (48 + m % 10)
    have HO : Hid ((one (48 + m % 10)).size = 1) := hos
    have hsz := cat_ok (one (48 + m % 10)) st (by omega)
    clear hos
    by_cases hlt : m < 10
    · have hq : (m / 10 == 0) = true := by simp; omega
      go_wp2
      go_ret
      exact ⟨ret_str (by rw [H.out.1]; exact kd_last m0 hlt H.out.2), Below.alloc hb hb.size _⟩
    · have hq : (m / 10 == 0) = false := by simp; omega
      have hl2 := kd_more m0 hlt H.out.2
      have hs2 : Hid (one (48 + m % 10) ++ st = bs (UInt8.ofNat (48 + m % 10).toNat :: l)) := (by rw [H.out.1, one_bs, bs_append]; rfl : one (48 + m % 10) ++ st = bs (UInt8.ofNat (48 + m % 10).toNat :: l))
      have HL : Hid (dec x.toNat = dec (m / 10).toNat ++ (UInt8.ofNat (48 + m % 10).toNat :: l)) := hl2
      clear hl2
      have hsz2 : Hid ((one (48 + m % 10) ++ st).size ≤ 4294967297) := (by
        rw [hs2.out, bs_size]
        have h1 := dec_len x.toNat
        rw [HL.out, List.length_append] at h1
        omega : (one (48 + m % 10) ++ st).size ≤ 4294967297)
      go_wp2
      go_roundw
      case rel => exact ⟨m / 10, _, _, by omega, by omega, hsz2.out, rfl, rfl, ⟨hs2.out, HL.out⟩, Below.alloc hb hb.size _⟩
      case measure => simp [intOf]; omega

/-- what of an address is written behind k of its numbers, from the first on -/
def pr (a : Nat) : Nat → List UInt8
  | 0 => []
  | 1 => dec (a / 16777216) ++ [46]
  | 2 => dec (a / 16777216) ++ [46] ++ (dec (a / 65536 % 256) ++ [46])
  | 3 => dec (a / 16777216) ++ [46] ++ (dec (a / 65536 % 256) ++ [46]) ++ (dec (a / 256 % 256) ++ [46])
  | _ => dot a
theorem pr_len (a : Nat) (h : a < 4294967296) (k : Nat) : (pr a k).length ≤ 15 := by
  have h3 := dec_len3 (a / 16777216) (by omega)
  have h2 := dec_len3 (a / 65536 % 256) (by omega)
  have h1 := dec_len3 (a / 256 % 256) (by omega)
  have h0 : (dot a).length ≤ 15 := by rw [← tl_dot a h]; exact tl_len a 3
  unfold pr
  split <;> first | (simp only [List.length_append, List.length_cons, List.length_nil]; omega) | exact h0
theorem oct (a : Int) (h0 : 0 ≤ a) (h1 : a < 4294967296) : (a / 16777216 % 256).toNat = a.toNat / 16777216 ∧ (a / 65536 % 256).toNat = a.toNat / 65536 % 256 ∧ (a / 256 % 256).toNat = a.toNat / 256 % 256 ∧ (a % 256).toNat = a.toNat % 256 := by omega
theorem pr_0 (a : Int) (h0 : 0 ≤ a) (h1 : a < 4294967296) {st : ByteArray} (h : st = bs (pr a.toNat 0)) : st ++ bs (dec (a / 16777216 % 256).toNat) ++ (⟨#[46]⟩ : ByteArray) = bs (pr a.toNat 1) := by
  rw [h, (oct a h0 h1).1, show (⟨#[46]⟩ : ByteArray) = bs [46] from rfl, bs_append, bs_append]; simp [pr]
theorem pr_1 (a : Int) (h0 : 0 ≤ a) (h1 : a < 4294967296) {st : ByteArray} (h : st = bs (pr a.toNat 1)) : st ++ bs (dec (a / 65536 % 256).toNat) ++ (⟨#[46]⟩ : ByteArray) = bs (pr a.toNat 2) := by
  rw [h, (oct a h0 h1).2.1, show (⟨#[46]⟩ : ByteArray) = bs [46] from rfl, bs_append, bs_append]; simp [pr]
theorem pr_2 (a : Int) (h0 : 0 ≤ a) (h1 : a < 4294967296) {st : ByteArray} (h : st = bs (pr a.toNat 2)) : st ++ bs (dec (a / 256 % 256).toNat) ++ (⟨#[46]⟩ : ByteArray) = bs (pr a.toNat 3) := by
  rw [h, (oct a h0 h1).2.2.1, show (⟨#[46]⟩ : ByteArray) = bs [46] from rfl, bs_append, bs_append]; simp [pr]
theorem pr_3 (a : Int) (h0 : 0 ≤ a) (h1 : a < 4294967296) {st : ByteArray} (h : st = bs (pr a.toNat 3)) : st ++ bs (dec (a % 256).toNat) = bs (pr a.toNat 4) := by
  rw [h, (oct a h0 h1).2.2.2, bs_append]; simp [pr, dot]
set_option maxRecDepth 1000000 in
set_option maxHeartbeats 1000000 in
theorem kaddr_any (a : Int) (w : World) (h0 : 0 ≤ a) (h1 : a < 4294967296) :
    Calls Tryz.prog 20 #[.int .u32 a] w fun e w' => e = .returned (.string (bs (dot a.toNat))) ∧ Below w.heap.size w w' := by
  go_enter Tryz.func20, Tryz.ntmps20
  go_wp2
  go_loopw [3, 4] (fun t i wr => ∃ (k : Nat) (st : ByteArray), k ≤ 4 ∧ st.size ≤ 15 ∧ i = .int .i64 (3 - k) ∧ t = .string st ∧ Hid (st = bs (pr a.toNat k)) ∧ Below w.heap.size w wr) (fun _ i _ => (intOf i + 1).toNat)
  case atStart => exact ⟨0, ⟨#[]⟩, by omega, Nat.zero_le _, rfl, rfl, rfl, Below.refl _ _⟩
  case round =>
    obtain ⟨k, st, hk, hst, rfl, rfl, H, hb⟩ := hrel
    by_cases hlt : k < 4
    · have hk4 : k = 0 ∨ k = 1 ∨ k = 2 ∨ k = 3 := by omega
      have hw0 := wrap_small a h0 h1
      have hw1 := wrap_small (a / 256) (by omega) (by omega)
      have hw2 := wrap_small (a / 65536) (by omega) (by omega)
      have hw3 := wrap_small (a / 16777216) (by omega) (by omega)
      have hd0 : (bs (dec (a % 256).toNat)).size ≤ 3 := by rw [bs_size]; exact dec_len3 _ (by omega)
      have hd1 : (bs (dec (a / 256 % 256).toNat)).size ≤ 3 := by rw [bs_size]; exact dec_len3 _ (by omega)
      have hd2 : (bs (dec (a / 65536 % 256).toNat)).size ≤ 3 := by rw [bs_size]; exact dec_len3 _ (by omega)
      have hd3 : (bs (dec (a / 16777216 % 256).toNat)).size ≤ 3 := by rw [bs_size]; exact dec_len3 _ (by omega)
      rcases hk4 with rfl | rfl | rfl | rfl
      · have hs2 := pr_0 a h0 h1 (st := st) H.out
        revert hs2; intro hs2; have HS : Hid _ := hs2
        clear hs2
        go_wp2_with (go_at_call 19; refine (kdigits_any _ _ (by omega) (by omega)).mono ?_; rintro e w2 ⟨rfl, hb2⟩)
        go_roundw
        case rel => exact ⟨1, _, by omega, by rw [HS.out, bs_size]; exact pr_len _ (by omega) _, by rfl, rfl, HS.out, hb.trans (hb2.mono hb.size)⟩
        case measure => simp [intOf]
      · have hs2 := pr_1 a h0 h1 (st := st) H.out
        revert hs2; intro hs2; have HS : Hid _ := hs2
        clear hs2
        go_wp2_with (go_at_call 19; refine (kdigits_any _ _ (by omega) (by omega)).mono ?_; rintro e w2 ⟨rfl, hb2⟩)
        go_roundw
        case rel => exact ⟨2, _, by omega, by rw [HS.out, bs_size]; exact pr_len _ (by omega) _, by rfl, rfl, HS.out, hb.trans (hb2.mono hb.size)⟩
        case measure => simp [intOf]
      · have hs2 := pr_2 a h0 h1 (st := st) H.out
        revert hs2; intro hs2; have HS : Hid _ := hs2
        clear hs2
        go_wp2_with (go_at_call 19; refine (kdigits_any _ _ (by omega) (by omega)).mono ?_; rintro e w2 ⟨rfl, hb2⟩)
        go_roundw
        case rel => exact ⟨3, _, by omega, by rw [HS.out, bs_size]; exact pr_len _ (by omega) _, by rfl, rfl, HS.out, hb.trans (hb2.mono hb.size)⟩
        case measure => simp [intOf]
      · have hs2 := pr_3 a h0 h1 (st := st) H.out
        revert hs2; intro hs2; have HS : Hid _ := hs2
        clear hs2
        go_wp2_with (go_at_call 19; refine (kdigits_any _ _ (by omega) (by omega)).mono ?_; rintro e w2 ⟨rfl, hb2⟩)
        go_roundw
        case rel => exact ⟨4, _, by omega, by rw [HS.out, bs_size]; exact pr_len _ (by omega) _, by rfl, rfl, HS.out, hb.trans (hb2.mono hb.size)⟩
        case measure => simp [intOf]
    · obtain rfl : k = 4 := by omega
      go_wp2
      go_ret
      exact ⟨ret_str H.out, hb⟩
end Go.Proofs.YtlikdnmikdldfaaGreatDoor
namespace Go.Proofs.YtlikdnmikdldfaaGreatDoor
open Go.RowKit
set_option linter.unusedVariables false
set_option linter.unusedSimpArgs false

theorem dot10 : dot 167772160 = [49, 48, 46, 48, 46, 48, 46, 48] := by
  have h : ∀ k, k < 256 → dec k = dec3 k := fun k hk => dec_3 k (by omega)
  show dec 10 ++ 46 :: (dec 0 ++ 46 :: (dec 0 ++ 46 :: dec 0)) = _
  rw [h 10 (by decide), h 0 (by decide)]
  decide
theorem b0_nat : B0.toNat = 167772160 := by decide
theorem wr10 (n : Nat) : wr B0.toNat n = [49, 48, 46, 48, 46, 48, 46, 48, 47] ++ dec n := by unfold wr; rw [b0_nat, dot10]; rfl
theorem bA_bs (l : List UInt8) : bA l = bs l := rfl
theorem tok_ne {a b : List UInt8} (h : a ≠ b) : (⟨a.toArray⟩ : ByteArray) ≠ ⟨b.toArray⟩ := fun e => h (by simpa using congrArg (fun x : ByteArray => x.data.toList) e)
theorem name_n : ∀ i : Fin 32, isName (110 :: dec3 i) = true ∧ isName (108 :: dec3 i) = true := by decide +kernel
theorem nameN (i : Nat) (h : i < 32) : isName (110 :: dec i) = true := by rw [dec_3 i (by omega)]; exact (name_n ⟨i, h⟩).1
theorem nameL (i : Nat) (h : i < 32) : isName (108 :: dec i) = true := by rw [dec_3 i (by omega)]; exact (name_n ⟨i, h⟩).2
def okB : ByteArray := ⟨#[79, 75]⟩
theorem ok_text : bA (anText okA) = okB := by decide
theorem full_text : bA (anText (ref 10)) = (⟨#[69, 82, 82, 32, 70, 85, 76, 76]⟩ : ByteArray) := by decide
theorem tell_text (t : List UInt8) : bA (anText (tell1 (bA t))) = bs ([79, 75, 32] ++ t) := by
  unfold bA anText tell1 bs
  simp
/-- the state behind i subnets, and which tokens are in the table -/
def AtN (n m : Int) (i : Nat) (s : Bk) : Prop := ∃ T, s = ⟨fP n, nat m i, [], T⟩ ∧ ∀ x, x ∈ T → x.t = bA [112] ∨ ∃ j, j < i ∧ x.t = bA (110 :: dec j)
theorem step_pool {n : Nat} (h0 : 22 ≤ n) (h1 : n ≤ 30) (m : Int) : ∃ s, doAll bk0 (bs ([80, 79, 79, 76, 32, 112, 32, 97, 110, 110, 32] ++ ([49, 48, 46, 48, 46, 48, 46, 48, 47] ++ dec n))) = (s, okB) ∧ AtN n m 0 s := by
  have hr : rdLine (bs ([80, 79, 79, 76, 32, 112, 32, 97, 110, 110, 32] ++ ([49, 48, 46, 48, 46, 48, 46, 48, 47] ++ dec n))).data.toList = some (lnB 0 [112] annT B0 n) := by
    rw [bs_data]
    have := read_block (k := 0) (t := [112]) (o := annT) (a := B0) (n := n) (by omega) (by decide) (by decide) (by decide) (by decide) (B0_rt n (by omega) (by omega))
    rw [Int.toNat_natCast, wr10] at this
    exact this
  have hd := doAll_new (s := bk0) hr (by show 0 < 8; omega) rfl (fill_pool n (by omega) (by omega) [112] [])
  rw [if_pos (show okA.e = 0 from rfl)] at hd
  refine ⟨_, hd.trans (by rw [ok_text]; rfl), _, rfl, fun x hx => ?_⟩
  simp [addT] at hx
  exact .inl (by rw [hx]; rfl)
theorem step_net {n m : Nat} (F : Fl (n : Int) (m : Int)) (h0 : 22 ≤ n) (h1 : n ≤ 30) (hm : m ≤ 32) (hnm : n ≤ m) {i : Nat} (hi : i < fitN n m) (hi2 : i < 32) {s : Bk} (hs : AtN n m i s) :
    ∃ s', doAll s (bs ([78, 69, 84, 32, 110] ++ dec i ++ [32, 97, 110, 110, 32] ++ ([49, 48, 46, 48, 46, 48, 46, 48, 47] ++ dec n) ++ [32] ++ dec m)) = (s', bs ([79, 75, 32] ++ wr (B0 + (i : Int) * sz m).toNat m)) ∧ AtN n m (i + 1) s' := by
  obtain ⟨T, rfl, hT⟩ := hs
  have hr : rdLine (bs ([78, 69, 84, 32, 110] ++ dec i ++ [32, 97, 110, 110, 32] ++ ([49, 48, 46, 48, 46, 48, 46, 48, 47] ++ dec n) ++ [32] ++ dec m)).data.toList = some { lnB 2 (110 :: dec i) annT B0 n with g := m } := by
    rw [bs_data]
    have := read_net (t := 110 :: dec i) (o := annT) (a := B0) (n := n) (g := m) (nameN i hi2) (by decide) (by decide) (by decide) (B0_rt n (by omega) (by omega)) hm
    rw [Int.toNat_natCast, wr10] at this
    rw [← this]
    simp [verb, verbT, annT]
  have ht : findT T (bA (110 :: dec i)) = none := findT_none fun x hx => by
    rcases hT x hx with e | ⟨j, hj, e⟩
    · rw [e]; exact tok_ne (by simp)
    · rw [e]; exact tok_ne (fun q => by have := dec_inj (List.cons.inj q).2; omega)
  have hd := doAll_new (s := ⟨fP n, nat m i, [], T⟩) hr (by show 2 < 8; omega) ht (fill_net F (by omega) (by omega) i hi (110 :: dec i) T)
  rw [if_pos (show (tell1 (bA (bText (B0 + (i : Int) * sz m) m))).e = 0 from rfl)] at hd
  refine ⟨_, hd.trans (by rw [tell_text]; rfl), _, rfl, fun x hx => ?_⟩
  rcases mem_addT hx with e | e
  · exact .inr ⟨i, by omega, by rw [e]; rfl⟩
  · rcases hT x e with q | ⟨j, hj, q⟩
    · exact .inl q
    · exact .inr ⟨j, by omega, q⟩
theorem step_full {n m : Nat} (hp : findH (fP n) B0 n = 0) (h0 : 22 ≤ n) (h1 : n ≤ 30) (hm : m ≤ 32) (hnm : n ≤ m) {N : List Hd} (hN : fullB n m N = none) {T : List Tk} {t o : List UInt8} (hnt : isName t = true) (hno : isName o = true) (ht : ∀ x, x ∈ T → x.t ≠ bA t) {line : List UInt8} (hl : line = verb 2 ++ 32 :: (t ++ 32 :: (o ++ 32 :: (wr B0.toNat n ++ 32 :: dec m)))) :
    doAll ⟨fP n, N, [], T⟩ (bs line) = (⟨fP n, N, [], T⟩, (⟨#[69, 82, 82, 32, 70, 85, 76, 76]⟩ : ByteArray)) := by
  have hr : rdLine (bs line).data.toList = some { lnB 2 t o B0 n with g := m } := by
    rw [bs_data, hl]
    have := read_net (t := t) (o := o) (a := B0) (n := n) (g := m) hnt hno (by decide) (by decide) (B0_rt n (by omega) (by omega)) hm
    rwa [Int.toNat_natCast] at this
  have hd := doAll_new (s := ⟨fP n, N, [], T⟩) hr (by show 2 < 8; omega) (findT_none ht) (fill_full hp (by omega) (by omega) hN t o T)
  rw [hd, full_text]
  rfl
end Go.Proofs.YtlikdnmikdldfaaGreatDoor
namespace Go.Proofs.YtlikdnmikdldfaaGreatDoor
open Go.ChangeShapes Go.WideShapes Go.ChangeAt Go.RowKit
set_option linter.unusedVariables false
set_option linter.unusedSimpArgs false

def wordsC : Array Value := #[.string ⟨#[79, 75]⟩, .string ⟨#[69, 82, 82]⟩, .string ⟨#[76, 73, 78, 69]⟩, .string ⟨#[84, 79, 75, 69, 78]⟩, .string ⟨#[82, 65, 78, 71, 69]⟩, .string ⟨#[79, 86, 69, 82, 76, 65, 80]⟩, .string ⟨#[76, 73, 77, 73, 84]⟩, .string ⟨#[80, 79, 79, 76]⟩, .string ⟨#[79, 87, 78, 69, 82]⟩, .string ⟨#[66, 85, 83, 89]⟩, .string ⟨#[70, 85, 76, 76]⟩, .string ⟨#[78, 69, 84]⟩, .string ⟨#[65, 68, 68, 82]⟩, .string ⟨#[84, 65, 75, 69, 78]⟩]
def formsC : Array Value := #[.string ⟨#[80, 79, 79, 76]⟩, .int .i64 1, .int .i64 2, .int .i64 3, .int .i64 0, .string ⟨#[68, 82, 79, 80]⟩, .int .i64 1, .int .i64 2, .int .i64 3, .int .i64 0, .string ⟨#[78, 69, 84]⟩, .int .i64 1, .int .i64 2, .int .i64 3, .int .i64 5, .string ⟨#[66, 76, 79, 67, 75]⟩, .int .i64 1, .int .i64 2, .int .i64 3, .int .i64 0, .string ⟨#[70, 82, 69, 69]⟩, .int .i64 1, .int .i64 2, .int .i64 3, .int .i64 0, .string ⟨#[76, 69, 65, 83, 69]⟩, .int .i64 1, .int .i64 2, .int .i64 3, .int .i64 0, .string ⟨#[84, 65, 75, 69]⟩, .int .i64 1, .int .i64 2, .int .i64 4, .int .i64 0, .string ⟨#[71, 73, 86, 69]⟩, .int .i64 1, .int .i64 2, .int .i64 4, .int .i64 0, .string ⟨#[80, 79, 79, 76, 83]⟩, .int .i64 0, .int .i64 0, .int .i64 0, .int .i64 0, .string ⟨#[78, 69, 84, 83]⟩, .int .i64 3, .int .i64 0, .int .i64 0, .int .i64 0, .string ⟨#[85, 83, 69, 68]⟩, .int .i64 3, .int .i64 0, .int .i64 0, .int .i64 0]
structure EnvT (w : World) : Prop where
  env : Env w
  lw : 1 < w.heap.size
  lf : 0 < w.heap.size
  wd : ∀ (i : Nat) v, wordsC[i]? = some v → w.cell? ⟨1, i, none⟩ = some v
  fm : ∀ (i : Nat) v, formsC[i]? = some v → w.cell? ⟨0, i, none⟩ = some v
theorem EnvT.mono {w w' : World} (h : EnvT w) (hb : Below w.heap.size w w') : EnvT w' where
  env := h.env.mono hb
  lw := Nat.lt_of_lt_of_le h.lw hb.size
  lf := Nat.lt_of_lt_of_le h.lf hb.size
  wd := fun i v e => (hb.cell (p := ⟨1, i, none⟩) h.lw).trans (h.wd i v e)
  fm := fun i v e => (hb.cell (p := ⟨0, i, none⟩) h.lf).trans (h.fm i v e)
end Go.Proofs.YtlikdnmikdldfaaGreatDoor
namespace Go.Proofs.YtlikdnmikdldfaaGreatDoor
open Go.ChangeShapes Go.WideShapes Go.ChangeAt Go.RowKit
set_option linter.unusedVariables false
set_option linter.unusedSimpArgs false
attribute [local go_sem ↓] Go.wp_at_zero Go.wp_at_succ

theorem lastBit_any (n : Int) (w : World) (h0 : 1 ≤ n) (h1 : n ≤ 32) :
    Calls Tryz.prog 172 #[.int .i64 n] w fun e w' => e = .returned (.int .u32 (sz n)) ∧ w' = w := by
  go_enter Tryz.func172, Tryz.ntmps172
  go_wp2
  go_ret
  exact ⟨ret_int (bit_eq' n h0 h1), rfl⟩

set_option maxHeartbeats 400000 in
theorem bhalves_no (a n : Int) (w : World) (ha : 0 ≤ a) (hb : a < 4294967296) (h : rt a n = false ∨ n = 32) :
    Calls Tryz.prog 129 #[.agg #[.int .u32 a, .int .i64 n]] w fun e w' => e = .returned (.tuple #[.agg #[.int .u32 0, .int .i64 0], .agg #[.int .u32 0, .int .i64 0], .int .i64 2]) ∧ Below w.heap.size w w' := by
  by_cases hr : rt a n = false
  · go_enter Tryz.func129, Tryz.ntmps129
    go_wp2_with (go_at_call 165; refine (right_any _ _ _ ha hb).mono ?_; rintro e w1 ⟨rfl, hb1⟩; obtain ⟨hc, hf⟩ := bcell hb1; have hk0 : w1.cell? ⟨w.heap.size, 0, none⟩ = some (.int .u32 a) := (by simp [hc, go_sem]); have hk1 : w1.cell? ⟨w.heap.size, 1, none⟩ = some (.int .i64 n) := (by simp [hc, go_sem]); have hk2 : w1.cell? ⟨w.heap.size + 1, 0, none⟩ = some (.int .u32 0) := (by simp [hc, go_sem]); have hk3 : w1.cell? ⟨w.heap.size + 1, 1, none⟩ = some (.int .i64 0) := (by simp [hc, go_sem]); have hk4 : w1.cell? ⟨w.heap.size + 1 + 1, 0, none⟩ = some (.int .u32 0) := (by simp [hc, go_sem]); have hk5 : w1.cell? ⟨w.heap.size + 1 + 1, 1, none⟩ = some (.int .i64 0) := (by simp [hc, go_sem]); have hk6 : w1.frozen? ⟨w.heap.size + 1, 0, none⟩ = false := (by simp [hf, go_sem]); have hk7 : w1.frozen? ⟨w.heap.size + 1, 1, none⟩ = false := (by simp [hf, go_sem]); have hk8 : w1.frozen? ⟨w.heap.size + 1 + 1, 0, none⟩ = false := (by simp [hf, go_sem]); have hk9 : w1.frozen? ⟨w.heap.size + 1 + 1, 1, none⟩ = false := (by simp [hf, go_sem]); have hz : w.heap.size + 1 + 1 < w1.heap.size := (by have := hb1.size; (try simp at this); omega); have hz1 : w.heap.size + 1 < w1.heap.size := (by omega); have hz0 : w.heap.size < w1.heap.size := (by omega); clear hc hf)
    exact bodyPost_ret (v := .tuple #[.agg #[.int .u32 0, .int .i64 0], .agg #[.int .u32 0, .int .i64 0], .int .i64 2]) (by simp [results, Tryz.results129, go_sem, hk2, hk3, hk4, hk5, hk6, hk7, hk8, hk9]) rfl ⟨rfl, (by have hq := hb1.mono (B' := w.heap.size) (by first | omega | (simp; done) | (simp; omega)); have hq2 := Below.trans (B := w.heap.size) (a := w) (by repeat' (first | with_reducible assumption | with_reducible exact Below.refl _ _ | with_reducible apply Below.drew | with_reducible apply below_drewN | with_reducible apply Below.setCell | with_reducible apply Below.alloc | omega | (simp; done) | (simp; omega))) hq; clear hq; repeat' (first | with_reducible assumption | with_reducible exact Below.refl _ _ | with_reducible apply Below.drew | with_reducible apply below_drewN | with_reducible apply Below.setCell | with_reducible apply Below.alloc | omega | (simp; done) | (simp; omega)))⟩
  · have hr' : rt a n = true := by simpa using hr
    have hn : (n == 32) = true := (by simpa using h.resolve_left hr)
    go_enter Tryz.func129, Tryz.ntmps129
    go_wp2_with (go_at_call 165; refine (right_any _ _ _ ha hb).mono ?_; rintro e w1 ⟨rfl, hb1⟩; obtain ⟨hc, hf⟩ := bcell hb1; have hk0 : w1.cell? ⟨w.heap.size, 0, none⟩ = some (.int .u32 a) := (by simp [hc, go_sem]); have hk1 : w1.cell? ⟨w.heap.size, 1, none⟩ = some (.int .i64 n) := (by simp [hc, go_sem]); have hk2 : w1.cell? ⟨w.heap.size + 1, 0, none⟩ = some (.int .u32 0) := (by simp [hc, go_sem]); have hk3 : w1.cell? ⟨w.heap.size + 1, 1, none⟩ = some (.int .i64 0) := (by simp [hc, go_sem]); have hk4 : w1.cell? ⟨w.heap.size + 1 + 1, 0, none⟩ = some (.int .u32 0) := (by simp [hc, go_sem]); have hk5 : w1.cell? ⟨w.heap.size + 1 + 1, 1, none⟩ = some (.int .i64 0) := (by simp [hc, go_sem]); have hk6 : w1.frozen? ⟨w.heap.size + 1, 0, none⟩ = false := (by simp [hf, go_sem]); have hk7 : w1.frozen? ⟨w.heap.size + 1, 1, none⟩ = false := (by simp [hf, go_sem]); have hk8 : w1.frozen? ⟨w.heap.size + 1 + 1, 0, none⟩ = false := (by simp [hf, go_sem]); have hk9 : w1.frozen? ⟨w.heap.size + 1 + 1, 1, none⟩ = false := (by simp [hf, go_sem]); have hz : w.heap.size + 1 + 1 < w1.heap.size := (by have := hb1.size; (try simp at this); omega); have hz1 : w.heap.size + 1 < w1.heap.size := (by omega); have hz0 : w.heap.size < w1.heap.size := (by omega); clear hc hf)
    exact bodyPost_ret (v := .tuple #[.agg #[.int .u32 0, .int .i64 0], .agg #[.int .u32 0, .int .i64 0], .int .i64 2]) (by simp [results, Tryz.results129, go_sem, hk2, hk3, hk4, hk5, hk6, hk7, hk8, hk9]) rfl ⟨rfl, (by have hq := hb1.mono (B' := w.heap.size) (by first | omega | (simp; done) | (simp; omega)); have hq2 := Below.trans (B := w.heap.size) (a := w) (by repeat' (first | with_reducible assumption | with_reducible exact Below.refl _ _ | with_reducible apply Below.drew | with_reducible apply below_drewN | with_reducible apply Below.setCell | with_reducible apply Below.alloc | omega | (simp; done) | (simp; omega))) hq; clear hq; repeat' (first | with_reducible assumption | with_reducible exact Below.refl _ _ | with_reducible apply Below.drew | with_reducible apply below_drewN | with_reducible apply Below.setCell | with_reducible apply Below.alloc | omega | (simp; done) | (simp; omega)))⟩

set_option maxHeartbeats 400000 in
theorem bhalves_yes (a n : Int) (w : World) (ha : 0 ≤ a) (hb : a < 4294967296) (hr : rt a n = true) (h : n ≠ 32) :
    Calls Tryz.prog 129 #[.agg #[.int .u32 a, .int .i64 n]] w fun e w' => e = .returned (.tuple #[.agg #[.int .u32 a, .int .i64 (n + 1)], .agg #[.int .u32 (a + sz (n + 1)), .int .i64 (n + 1)], .int .i64 0]) ∧ Below w.heap.size w w' := by
  obtain ⟨h0, h1, h2⟩ := rt_iff.1 hr
  have hn : (n == 32) = false := by simpa using h
  have e := or_eq a n (by omega) (by omega) ha hb h2
  clear h2
  go_enter Tryz.func129, Tryz.ntmps129
  go_wp2_with (go_at_call 165; refine (right_any _ _ _ ha hb).mono ?_; rintro e w1 ⟨rfl, hb1⟩; obtain ⟨hc, hf⟩ := bcell hb1; have hk0 : w1.cell? ⟨w.heap.size, 0, none⟩ = some (.int .u32 a) := (by simp [hc, go_sem]); have hk1 : w1.cell? ⟨w.heap.size, 1, none⟩ = some (.int .i64 n) := (by simp [hc, go_sem]); have hk2 : w1.cell? ⟨w.heap.size + 1, 0, none⟩ = some (.int .u32 0) := (by simp [hc, go_sem]); have hk3 : w1.cell? ⟨w.heap.size + 1, 1, none⟩ = some (.int .i64 0) := (by simp [hc, go_sem]); have hk4 : w1.cell? ⟨w.heap.size + 1 + 1, 0, none⟩ = some (.int .u32 0) := (by simp [hc, go_sem]); have hk5 : w1.cell? ⟨w.heap.size + 1 + 1, 1, none⟩ = some (.int .i64 0) := (by simp [hc, go_sem]); have hk6 : w1.frozen? ⟨w.heap.size + 1, 0, none⟩ = false := (by simp [hf, go_sem]); have hk7 : w1.frozen? ⟨w.heap.size + 1, 1, none⟩ = false := (by simp [hf, go_sem]); have hk8 : w1.frozen? ⟨w.heap.size + 1 + 1, 0, none⟩ = false := (by simp [hf, go_sem]); have hk9 : w1.frozen? ⟨w.heap.size + 1 + 1, 1, none⟩ = false := (by simp [hf, go_sem]); have hz : w.heap.size + 1 + 1 < w1.heap.size := (by have := hb1.size; (try simp at this); omega); have hz1 : w.heap.size + 1 < w1.heap.size := (by omega); have hz0 : w.heap.size < w1.heap.size := (by omega); clear hc hf)
  go_region_held3 (fun w' => w'.cell? ⟨w.heap.size, 0, none⟩ = some (.int .u32 a) ∧ w'.cell? ⟨w.heap.size, 1, none⟩ = some (.int .i64 n)) (go_keep) ((go_at_call 172; refine (lastBit_any _ _ (by omega) (by omega)).mono ?_; rintro e w' ⟨rfl, rfl⟩))
  all_goals (go_wp2; go_region)
  all_goals (go_wp2; exact bodyPost_ret (v := .tuple #[.agg #[.int .u32 a, .int .i64 (n + 1)], .agg #[.int .u32 (a + sz (n + 1)), .int .i64 (n + 1)], .int .i64 0]) (by simp [results, Tryz.results129, go_sem, hk2, hk3, hk4, hk5, hk6, hk7, hk8, hk9, World.cell?_alloc_lt, hz, hz1, Nat.lt_succ_of_lt hz, Nat.lt_succ_of_lt hz1]) rfl ⟨rfl, (by have hq := hb1.mono (B' := w.heap.size) (by first | omega | (simp; done) | (simp; omega)); have hq2 := Below.trans (B := w.heap.size) (a := w) (by repeat' (first | with_reducible assumption | with_reducible exact Below.refl _ _ | with_reducible apply Below.drew | with_reducible apply below_drewN | with_reducible apply Below.setCell | with_reducible apply Below.alloc | omega | (simp; done) | (simp; omega))) hq; clear hq; repeat' (first | with_reducible assumption | with_reducible exact Below.refl _ _ | with_reducible apply Below.drew | with_reducible apply below_drewN | with_reducible apply Below.setCell | with_reducible apply Below.alloc | omega | (simp; done) | (simp; omega)))⟩)

end Go.Proofs.YtlikdnmikdldfaaGreatDoor
