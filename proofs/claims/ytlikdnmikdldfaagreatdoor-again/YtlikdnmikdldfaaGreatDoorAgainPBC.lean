/-
  BkDo, BkCm, BkCn, BkCo, BkCd, BkDd, BkDe, BkHb, BkTl, BkTw, BkTa, BkOw, BkKt, BkKn, BkAw
-/
import Derived.Conc.SmallLaws
import Derived.Test.YtlikdnmikdldfaaGreatDoorAgainPAT
import Derived.Test.YtlikdnmikdldfaaGreatDoorAgainPAY
import Derived.Test.YtlikdnmikdldfaaGreatDoorAgainPBA
import Derived.Test.YtlikdnmikdldfaaGreatDoorAgainPBB
import Derived.Test.YtlikdnmikdldfaaGreatDoorAgainPAX
import Derived.Test.YtlikdnmikdldfaaGreatDoorAgainPAZ
import Derived.Test.YtlikdnmikdldfaaGreatDoorAgainPAR
import Derived.Test.YtlikdnmikdldfaaGreatDoorAgainPAO
namespace Go.Proofs.YtlikdnmikdldfaaGreatDoor
open Go.Conc Go.ChangeShapes Go.WideShapes Go.ChangeAt Go.RowKit
set_option linter.unusedVariables false
set_option linter.unusedSimpArgs false
set_option maxRecDepth 100000 in
set_option maxHeartbeats 400000 in
theorem tnew_any (w : World) : Calls Tryz.prog 47 #[] w fun e w' => ∃ c, e = .returned (.agg #[.chan (some c)]) ∧ Ch w' c [] ∧ w.heap.size ≤ c ∧ Below w.heap.size w w' := by
  obtain ⟨i, hi, hib⟩ : ∃ i, Tryz.prog.info? 132 = some i ∧ i.bytes = 48 := by
    have h : (Tryz.prog.info? 132).map (·.bytes) = some 48 := by kernel_rfl
    rcases e : Tryz.prog.info? 132 with _ | i
    · rw [e] at h; cases h
    · rw [e] at h; exact ⟨i, rfl, by simpa using h⟩
  have hmk : ∀ w : World, (Instr.makeChan 88 (.int .i64 8)).run Tryz.prog w = .ok (.chan (some w.heap.size)) (w.alloc (.chan 8 #[] false 0 0 false)) := fun w => run_makeChan (P := Tryz.prog) (w := w) Tryz.underlying88 hi .i64 8 (by decide) (by rw [hib]; decide)
  clear hi hib
  go_enter Tryz.func47, Tryz.ntmps47
  go_wp2
  go_returns
  have hn := heap_alloc_new (w.alloc (.cells #[.chan (some (w.heap.size + 1))] 90)) (.chan 8 #[] false 0 0 false)
  rw [show (w.alloc (.cells #[.chan (some (w.heap.size + 1))] 90)).heap.size = w.heap.size + 1 by simp] at hn
  exact ⟨w.heap.size + 1, rfl, ⟨0, 0, hn⟩, by omega, (by repeat' (first | with_reducible assumption | with_reducible exact Below.refl _ _ | with_reducible apply Below.drew | with_reducible apply below_drewN | with_reducible apply Below.setCell | with_reducible apply Below.alloc | omega | (simp; done) | (simp; omega)))⟩
theorem isCmd_any (v : Int) (w : World) : Calls Tryz.prog 33 #[.int .i64 v] w fun e w' => e = .returned (.bool (decide (v ≤ 7))) ∧ Below w.heap.size w w' := by
  go_enter Tryz.func33, Tryz.ntmps33
  go_wp2
  go_ret
  exact ⟨rfl, Below.refl _ _⟩
/-- Refuse's answer is written -/
theorem reftext_any (k : Nat) (hk : k < 14) (w : World) (E : EnvT w) : Calls Tryz.prog 32 #[.agg #[.int .i64 k, .slice none 0 0]] w fun e w' => e = .returned (.string ⟨(anText (ref k)).toArray⟩) ∧ Below w.heap.size w w' :=
  atext_any (ref k) hk (by simp [ref]) (by simp [ref]) (.slice none 0 0) w E (rd_nil _ _ _ _)
set_option maxRecDepth 100000 in
set_option maxHeartbeats 400000 in
theorem again_any (x : Tk) (line r : ByteArray) (w : World) (E : Hid (EnvT w)) (HR : Hid (r = if x.l ≠ line then (⟨(anText (ref 3)).toArray⟩ : ByteArray) else x.r)) :
    Calls Tryz.prog 56 #[vT x, .string line] w fun e w' => e = .returned (.string r) ∧ Below w.heap.size w w' := by
  obtain ⟨xt, xl, xr⟩ := x
  unfold vT
  have HT : Hid (∀ W, Below w.heap.size w W → Calls Tryz.prog 32 #[.agg #[.int .i64 3, .slice none 0 0]] W fun e w' => e = .returned (.string ⟨(anText (ref 3)).toArray⟩) ∧ Below W.heap.size W w') := fun W hW => reftext_any 3 (by omega) W (E.out.mono hW)
  have HF : Hid (∀ W, Calls Tryz.prog 31 #[.int .i64 3] W fun e w' => e = .returned (.agg #[.int .i64 3, .slice none 0 0]) ∧ Below W.heap.size W w') := fun W => refuse_any 3 W
  generalize (⟨(anText (ref 3)).toArray⟩ : ByteArray) = t3 at HR HT
  by_cases h : xl = line
  · have hq := (Lib.bytes_beq_iff xl line).2 h
    have HR2 : Hid (r = xr) := by have := HR.out; rw [if_neg (by simp [h])] at this; exact this
    clear h HR
    go_enter Tryz.func56, Tryz.ntmps56
    go_wp2
    go_ret
    exact ⟨by rw [HR2.out]; rfl, (by repeat' (first | with_reducible assumption | with_reducible exact Below.refl _ _ | with_reducible apply Below.drew | with_reducible apply below_drewN | with_reducible apply Below.setCell | with_reducible apply Below.alloc | omega | (simp; done) | (simp; omega)))⟩
  · have hq := (Lib.bytes_beq_false_iff xl line).2 h
    have HR2 : Hid (r = t3) := by have := HR.out; rw [if_pos (by simp [h])] at this; exact this
    clear h HR
    go_enter Tryz.func56, Tryz.ntmps56
    go_wp2_with (first | (go_at_call 31; refine (HF.out _).mono ?_; rintro e w1 ⟨rfl, hq1⟩; have hb1 : Hid (Below w.heap.size w w1) := Below.trans (B := w.heap.size) (a := w) (by repeat' (first | with_reducible assumption | with_reducible exact Below.refl _ _ | with_reducible apply Below.drew | with_reducible apply below_drewN | with_reducible apply Below.setCell | with_reducible apply Below.alloc | omega | (simp; done) | (simp; omega))) (hq1.mono (by first | omega | (simp; done) | (simp; omega))); clear hq1) | (go_at_call 32; refine (HT.out _ hb1.out).mono ?_; rintro e w2 ⟨rfl, hq2⟩; have hb2 : Hid (Below w.heap.size w w2) := hb1.out.trans (hq2.mono hb1.out.size); clear hq2))
    go_ret
    exact ⟨by rw [HR2.out]; rfl, hb2.out⟩
set_option maxRecDepth 100000 in
set_option maxHeartbeats 400000 in
theorem open_any (d : Value) (w : World) : Calls Tryz.prog 26 #[d] w fun e w' => ∃ x S, e = .returned (.tuple #[.pointer (some ⟨x, 0, none⟩), .int .i64 0]) ∧ BkAt w' x S bk0 ∧ (∀ b, S b → w.heap.size ≤ b) ∧ Below w.heap.size w w' := by
  have HN : Hid (∀ W, Calls Tryz.prog 47 #[] W fun e w' => ∃ c, e = .returned (.agg #[.chan (some c)]) ∧ Ch w' c [] ∧ W.heap.size ≤ c ∧ Below W.heap.size W w') := fun W => tnew_any W
  go_enter Tryz.func26, Tryz.ntmps26
  go_wp2_with (go_at_call 47; refine (HN.out _).mono ?_; rintro e w1 ⟨c, rfl, hch, hc, hq1⟩)
  have hz1 := hq1.size
  have hcl := hch.lt
  have hB : Below w1.heap.size w1 (w1.alloc (.cells #[.slice none 0 0, .slice none 0 0, .slice none 0 0, .chan (some c)] 92)) := (by repeat' (first | with_reducible assumption | with_reducible exact Below.refl _ _ | with_reducible apply Below.drew | with_reducible apply below_drewN | with_reducible apply Below.setCell | with_reducible apply Below.alloc | omega | (simp; done) | (simp; omega)))
  have hfin : ∃ x S, Ending.returned (Value.tuple #[.pointer (some ⟨w1.heap.size, 0, none⟩), .int .i64 0]) = Ending.returned (.tuple #[.pointer (some ⟨x, 0, none⟩), .int .i64 0]) ∧ BkAt (w1.alloc (.cells #[.slice none 0 0, .slice none 0 0, .slice none 0 0, .chan (some c)] 92)) x S bk0 ∧ (∀ b, S b → w.heap.size ≤ b) ∧ Below w.heap.size w (w1.alloc (.cells #[.slice none 0 0, .slice none 0 0, .slice none 0 0, .chan (some c)] 92)) := by
    refine ⟨w1.heap.size, fun b => b = w1.heap.size ∨ b = c, rfl, ⟨.slice none 0 0, .slice none 0 0, .slice none 0 0, c, ?_⟩, ?_, (by repeat' (first | with_reducible assumption | with_reducible exact Below.refl _ _ | with_reducible apply Below.drew | with_reducible apply below_drewN | with_reducible apply Below.setCell | with_reducible apply Below.alloc | omega | (simp; done) | (simp; omega)))⟩
    · have hsz : ∀ b, (b = w1.heap.size ∨ b = c) → b < (w1.alloc (.cells #[.slice none 0 0, .slice none 0 0, .slice none 0 0, .chan (some c)] 92)).heap.size := fun b e => by
        have := hB.size
        rcases e with e | e
        · rw [e]; simp
        · rw [e]; omega
      exact { blk := Blk.new w1 _ _, ch := hch.same (hB.block c hcl), op := ⟨rfl, .inl ⟨rfl, rfl⟩⟩, on := ⟨rfl, .inl ⟨rfl, rfl⟩⟩, ol := ⟨rfl, .inl ⟨rfl, rfl⟩⟩, sx := .inl rfl, sc := .inr rfl, sp := fun b e => (by cases e), sn := fun b e => (by cases e), sl := fun b e => (by cases e), sz := hsz }
    · rintro b (rfl | rfl) <;> omega
  exact bodyPost_ret (v := .tuple #[.pointer (some ⟨w1.heap.size, 0, none⟩), .int .i64 0]) (by simp [results, Tryz.results26]) rfl hfin
end Go.Proofs.YtlikdnmikdldfaaGreatDoor
namespace Go.Proofs.YtlikdnmikdldfaaGreatDoor
open Go.Conc Go.ChangeShapes Go.WideShapes Go.ChangeAt Go.RowKit
set_option linter.unusedVariables false
set_option linter.unusedSimpArgs false

theorem new_at {w0 : World} {n : Nat} {cs : Array Value} {t : TypeId} (h : w0.heap.size = n) : Blk (w0.alloc (.cells cs t)) n cs t := by rw [← h]; exact Blk.new w0 cs t
/-- what of memory a command leans on: the book, and the line's own copy -/
def BkC (W : World) (x : Nat) (S : Nat → Prop) (c : Nat) (s : Bk) : Prop := ∃ vp vn vl, BA W x S vp vn vl c s
theorem BkC.bk {W : World} {x : Nat} {S : Nat → Prop} {c : Nat} {s : Bk} (h : BkC W x S c s) : BkAt W x S s := by obtain ⟨vp, vn, vl, B⟩ := h; exact ⟨vp, vn, vl, c, B⟩
theorem BkC.below {w w' : World} {x : Nat} {S : Nat → Prop} {c : Nat} {s : Bk} (h : BkC w x S c s) (hb : Below w.heap.size w w') : BkC w' x S c s := by obtain ⟨vp, vn, vl, B⟩ := h; exact ⟨vp, vn, vl, B.below hb⟩
def Adm (w : World) (x : Nat) (S : Nat → Prop) (c : Nat) (s : Bk) (l : Ln) (W : World) : Prop := BkC W x S c s ∧ Chg S w W ∧ Blk W w.heap.size (lnC l) 74
theorem BkAt.lt {w : World} {x : Nat} {S : Nat → Prop} {s : Bk} (h : BkAt w x S s) : ∀ b, S b → b < w.heap.size := by obtain ⟨_, _, _, _, B⟩ := h; exact B.sz
theorem Adm.below {w W W' : World} {x : Nat} {S : Nat → Prop} {c : Nat} {s : Bk} {l : Ln} (h : Adm w x S c s l W) (hb : Below W.heap.size W W') : Adm w x S c s l W' :=
  ⟨h.1.below hb, h.2.1.trans (Chg.below (S := S) hb) (fun b q => .inl q), h.2.2.below hb⟩
theorem Adm.alloc {w W : World} {x : Nat} {S : Nat → Prop} {c : Nat} {s : Bk} {l : Ln} {o : Obj} (h : Adm w x S c s l W) : Adm w x S c s l (W.alloc o) := h.below (Below.alloc (Below.refl _ _) (Nat.le_refl _) _)
theorem Adm.drew {w W : World} {x : Nat} {S : Nat → Prop} {c : Nat} {s : Bk} {l : Ln} (h : Adm w x S c s l W) : Adm w x S c s l W.drew := h.below (Below.drew (Below.refl _ _))
theorem Adm.set {w W : World} {x : Nat} {S : Nat → Prop} {c : Nat} {s : Bk} {l : Ln} (hS : ∀ b, S b → b < w.heap.size) {g i : Nat} {v : Value} (hg : w.heap.size < g) (h : Adm w x S c s l W) : Adm w x S c s l (W.setCell ⟨g, i, none⟩ v) := by
  have s1 := sets_other g [v] i W
  have hz : (W.setCell ⟨g, i, none⟩ v).heap.size = W.heap.size := s1.2.2.2.1
  have hb : ∀ k, k ≠ g → (W.setCell ⟨g, i, none⟩ v).heap[k]? = W.heap[k]? := s1.2.2.2.2
  refine ⟨?_, h.2.1.sets g i [v] (.inr (by omega)), (hb _ (by omega)).trans h.2.2⟩
  obtain ⟨vp, vn, vl, B⟩ := h.1
  exact ⟨vp, vn, vl, B.same (fun b q => hb b (by have := hS b q; omega)) (Nat.le_of_eq hz.symm)⟩
/-- the table was gone through, or has a command more -/
theorem BA.toks {w w' : World} {x : Nat} {S : Nat → Prop} {vp vn vl : Value} {c : Nat} {s : Bk} (h : BA w x S vp vn vl c s) (T : List Tk) (hch : Ch w' c T) (hg : w.grownBy w' (some c)) : BA w' x S vp vn vl c { s with toks := T } := by
  obtain ⟨a1, a2, a3⟩ := h.apart
  have hxc := h.xc
  have hx := h.blk.lt
  exact { blk := (hg.block x hx (by simp; omega)).trans h.blk, ch := hch, op := owns_same h.op (fun b e => hg.block b (h.sz b (h.sp b e)) (by have := (a1 b e).2.1; simp; omega)), on := owns_same h.on (fun b e => hg.block b (h.sz b (h.sn b e)) (by have := (a2 b e).2.1; simp; omega)), ol := owns_same h.ol (fun b e => hg.block b (h.sz b (h.sl b e)) (by have := (a3 b e).2.1; simp; omega)), sx := h.sx, sc := h.sc, sp := h.sp, sn := h.sn, sl := h.sl, sz := fun b q => Nat.lt_of_lt_of_le (h.sz b q) hg.size }
theorem three_set {w : World} {g : Nat} {t : TypeId} {u0 u1 u2 : Value} (h : Blk w g #[u0, u1, u2] t) (a0 a1 a2 : Value) : Blk (((w.setCell ⟨g, 0, none⟩ a0).setCell ⟨g, 1, none⟩ a1).setCell ⟨g, 2, none⟩ a2) g #[a0, a1, a2] t := by
  have h0 : Blk (w.setCell ⟨g, 0, none⟩ a0) g #[a0, u1, u2] t := (by simpa using h.set 0 a0)
  have h1 : Blk ((w.setCell ⟨g, 0, none⟩ a0).setCell ⟨g, 1, none⟩ a1) g #[a0, a1, u2] t := (by simpa using h0.set 1 a1)
  simpa using h1.set 2 a2
def DoR (w : World) (x : Nat) (S : Nat → Prop) (r : Bk × ByteArray) (e : Ending) (w' : World) : Prop := ∃ S', e = .returned (.string r.2) ∧ BkAt w' x S' r.1 ∧ (∀ b, S' b → S b ∨ w.heap.size ≤ b) ∧ Chg S w w'

set_option maxRecDepth 100000 in
set_option maxHeartbeats 1000000 in
theorem cmd_found (w : World) (x c : Nat) (S : Nat → Prop) (s : Bk) (l : Ln) (line : ByteArray) (tk : Tk) (r : ByteArray) (hx : x < w.heap.size) (hS : ∀ b, S b → b < w.heap.size) (H0 : Hid (BkC w x S c s)) (HX : Hid (∀ W, Adm w x S c s l W → W.cell? ⟨x, 3, none⟩ = some (.chan (some c))))
    (HF : Hid (∀ W, Adm w x S c s l W → Calls Tryz.prog 55 #[.agg #[.chan (some c)], .string l.t] W fun e w1 => e = .returned (.tuple #[.agg #[.string tk.t, .string tk.l, .string tk.r], .bool true]) ∧ Adm w x S c s l w1 ∧ ∀ g cs t, Blk W g cs t → w.heap.size ≤ g → Blk w1 g cs t))
    (HG : Hid (∀ W, Adm w x S c s l W → Calls Tryz.prog 56 #[.agg #[.string tk.t, .string tk.l, .string tk.r], .string line] W fun e w' => e = .returned (.string r) ∧ Below W.heap.size W w')) :
    Calls Tryz.prog 34 #[.pointer (some ⟨x, 0, none⟩), .agg (lnC l), .string line] w (DoR w x S (s, r)) := by
  have hA0 : Adm w x S c s l (w.alloc (.cells (lnC l) 74)) := ⟨H0.out.below (by repeat' (first | with_reducible assumption | with_reducible exact Below.refl _ _ | with_reducible apply Below.drew | with_reducible apply below_drewN | with_reducible apply Below.setCell | with_reducible apply Below.alloc | omega | (simp; done) | (simp; omega))), Chg.below (by repeat' (first | with_reducible assumption | with_reducible exact Below.refl _ _ | with_reducible apply Below.drew | with_reducible apply below_drewN | with_reducible apply Below.setCell | with_reducible apply Below.alloc | omega | (simp; done) | (simp; omega))), Blk.new w _ _⟩
  have HA0 : Hid (Adm w x S c s l (w.alloc (.cells #[.int .i64 l.v, .string l.t, .string l.o, .int .u32 l.a, .int .i64 l.n, .int .u32 l.d, .int .i64 l.g] 74))) := hA0
  have x3 : w.cell? ⟨x, 3, none⟩ = some (.chan (some c)) := by
    have h := HX.out _ hA0
    rwa [World.cell?_alloc_past _ _ _ hx] at h
  clear hA0
  have hxa : ¬ (x = w.heap.size + 1) := by omega
  have hxb : ¬ (w.heap.size + 1 = x) := by omega
  have hxc : ¬ (x = w.heap.size) := by omega
  have hxd : ¬ (w.heap.size = x) := by omega
  show Calls _ _ #[.pointer (some ⟨x, 0, none⟩), .agg #[.int .i64 l.v, .string l.t, .string l.o, .int .u32 l.a, .int .i64 l.n, .int .u32 l.d, .int .i64 l.g], .string line] _ _
  go_enter Tryz.func34, Tryz.ntmps34
  go_wp2
  rename_i K1 a1 K0 a0
  have HM : Hid (∀ (t1 t3 t5 t6 t9 t10 t11 t12 t13 t14 t15 t16 t17 t18 t19 t20 t21 t22 t23 t24 t25 t26 t27 t28 t29 t30 t31 t32 t33 t34 t35 t36 t37 t38 t39 t40 t41 t42 t43 t44 : Value) (D : Nat) (W : World), Adm w x S c s l W → Blk W D #[.string tk.t, .string tk.l, .string tk.r] 132 → K0 ⟨#[.pointer (some ⟨x, 0, none⟩), t1, .string line, t3, .pointer (some ⟨w.heap.size, 0, none⟩), t5, t6, .pointer (some ⟨D, 0, none⟩), .bool true, t9, t10, t11, t12, t13, t14, t15, t16, t17, t18, t19, t20, t21, t22, t23, t24, t25, t26, t27, t28, t29, t30, t31, t32, t33, t34, t35, t36, t37, t38, t39, t40, t41, t42, t43, t44], []⟩ W) := by
    intro t1 t3 t5 t6 t9 t10 t11 t12 t13 t14 t15 t16 t17 t18 t19 t20 t21 t22 t23 t24 t25 t26 t27 t28 t29 t30 t31 t32 t33 t34 t35 t36 t37 t38 t39 t40 t41 t42 t43 t44 D W hA hD
    have HA : Hid (Adm w x S c s l W) := hA
    have d0 := hD.cell 0
    have d1 := hD.cell 1
    have d2 := hD.cell 2
    clear hA hD HA0 HF HX x3
    refine a0 _ _ ?_
    go_wp2_with (go_at_call 56; refine (HG.out _ HA.out).mono ?_; rintro e w3 ⟨rfl, hq3⟩; replace hq3 : Hid (Below W.heap.size W w3) := hq3)
    go_ret
    have h3 := HA.out.below hq3.out
    exact ⟨S, rfl, h3.1.bk, fun b q => .inl q, h3.2.1⟩
  replace HM : Hid _ := HM
  clear a0 a1
  go_region_held3 (fun w' => w'.cell? ⟨x, 3, none⟩ = some (.chan (some c)) ∧ w'.cell? ⟨w.heap.size, 1, none⟩ = some (.string l.t)) (go_keep) (first | (go_at_call 55; refine (HF.out _ (by repeat' (first | exact HA0.out | apply Adm.alloc | apply Adm.drew))).mono ?_; rintro e w1 ⟨rfl, HA1, K1⟩; replace HA1 : Hid (Adm w x S c s l w1) := HA1; have e1 : w1.cell? ⟨x, 3, none⟩ = some (.chan (some c)) := HX.out w1 HA1.out; have e2 : w1.cell? ⟨w.heap.size, 1, none⟩ = some (.string l.t) := HA1.out.2.2.cell 1; have DB : Hid (Blk w1 (w.heap.size + 1) #[.string ⟨#[]⟩, .string ⟨#[]⟩, .string ⟨#[]⟩] 132) := K1 _ _ _ (new_at (by simp)) (by omega); clear K1; have d0 := DB.out.cell 0; have d1 := DB.out.cell 1; have d2 := DB.out.cell 2; have g0 := DB.out.frozen 0; have g1 := DB.out.frozen 1; have g2 := DB.out.frozen 2; have dz := DB.out.lt) | (go_at_call 55; refine (HF.out _ (by repeat' (first | exact HA0.out | apply Adm.alloc | apply Adm.drew))).mono ?_; rintro e w1 ⟨rfl, HA1, K1⟩; replace HA1 : Hid (Adm w x S c s l w1) := HA1; have e1 : w1.cell? ⟨x, 3, none⟩ = some (.chan (some c)) := HX.out w1 HA1.out; have e2 : w1.cell? ⟨w.heap.size, 1, none⟩ = some (.string l.t) := HA1.out.2.2.cell 1; clear K1))
  all_goals first
    | exact HM.out _ _ _ _ _ _ _ _ _ _ _ _ _ _ _ _ _ _ _ _ _ _ _ _ _ _ _ _ _ _ _ _ _ _ _ _ _ _ _ _ _ _ (by repeat' (first | with_reducible exact HA1.out | with_reducible apply Adm.alloc | with_reducible apply Adm.drew)) (Blk.new w1 _ _)
    | exact HM.out _ _ _ _ _ _ _ _ _ _ _ _ _ _ _ _ _ _ _ _ _ _ _ _ _ _ _ _ _ _ _ _ _ _ _ _ _ _ _ _ (w.heap.size + 1) _ (by repeat' (first | with_reducible exact HA1.out | with_reducible apply Adm.alloc | with_reducible apply Adm.drew | (with_reducible apply Adm.set hS (by omega)))) (three_set DB.out _ _ _)

/-- behind the doing: the book, the line's copy, what is told -/
def AdmX (w Wc : World) (x : Nat) (S : Nat → Prop) (l : Ln) (r : Bk × An) (v : Value) (W : World) : Prop := ∃ S', BkAt W x S' r.1 ∧ (∀ b, S' b → S b ∨ Wc.heap.size ≤ b) ∧ Chg S w W ∧ Blk W w.heap.size (lnC l) 74 ∧ Rd 1 encS ⟨#[]⟩ W v r.2.s
def Adm2 (w : World) (x : Nat) (S : Nat → Prop) (l : Ln) (r : Bk × An) (v : Value) (W : World) : Prop := ∃ S', BkAt W x S' r.1 ∧ (∀ b, S' b → S b ∨ w.heap.size < b) ∧ Chg S w W ∧ Blk W w.heap.size (lnC l) 74 ∧ Rd 1 encS ⟨#[]⟩ W v r.2.s
theorem AdmX.late {w Wc W W' : World} {x : Nat} {S : Nat → Prop} {l : Ln} {r : Bk × An} {v : Value} (h : AdmX w Wc x S l r v W) (hz : w.heap.size < Wc.heap.size) (hb : Below W.heap.size W W') : Adm2 w x S l r v W' := by
  obtain ⟨S', h1, h2, h3, h4, h5⟩ := h
  exact ⟨S', h1.below hb, fun b q => (h2 b q).imp id (fun k => by omega), h3.trans (Chg.below (S := S) hb) (fun b q => .inl q), h4.below hb, h5.below hb⟩
theorem AdmX.early {w Wc W : World} {x : Nat} {S : Nat → Prop} {l : Ln} {r : Bk × An} {v : Value} {A : Nat} {t : TypeId} (hS : ∀ b, S b → b < w.heap.size) (h : AdmX w Wc x S l r v W) (hz : w.heap.size < A) (hA : A < Wc.heap.size) (hB : Blk W A #[.int .i64 0, .slice none 0 0] t) (a b : Value) : Adm2 w x S l r v ((W.setCell ⟨A, 0, none⟩ a).setCell ⟨A, 1, none⟩ b) := by
  obtain ⟨S', h1, h2, h3, h4, h5⟩ := h
  have s1 := sets_other A [a, b] 0 W
  have hzz : ((W.setCell ⟨A, 0, none⟩ a).setCell ⟨A, 1, none⟩ b).heap.size = W.heap.size := s1.2.2.2.1
  have hbb : ∀ k, k ≠ A → ((W.setCell ⟨A, 0, none⟩ a).setCell ⟨A, 1, none⟩ b).heap[k]? = W.heap[k]? := s1.2.2.2.2
  have hn : ∀ k, S' k → k ≠ A := fun k q => by
    rcases h2 k q with e | e
    · have := hS k e; omega
    · omega
  refine ⟨S', ?_, fun k q => (h2 k q).imp id (fun e => by omega), h3.sets A 0 [a, b] (.inr (by omega)), (hbb _ (by omega)).trans h4, ?_⟩
  · obtain ⟨vp, vn, vl, c, B⟩ := h1
    exact ⟨vp, vn, vl, c, B.same (fun k q => hbb k (hn k q)) (Nat.le_of_eq hzz.symm)⟩
  · obtain ⟨bb, cap, rfl, k1, k2, k3⟩ := h5
    refine ⟨bb, cap, rfl, k1, k2, fun hne => ?_⟩
    obtain ⟨g, e2, hg, hcc⟩ := k3 hne
    have hgn : g ≠ A := fun q => by
      have c0 := hcc 0 (List.length_pos_iff.2 hne) 0 _ rfl
      rw [q] at c0
      have c1 := hB.cell 0
      rw [show (⟨A, 0 * 1 + 0, none⟩ : Addr) = ⟨A, 0, none⟩ from rfl, c1] at c0
      cases c0
    exact ⟨g, e2, by rw [hzz]; exact hg, fun j hj i u hu => (World.cell?_of_block (a := ⟨g, j * 1 + i, none⟩) (hbb g hgn)).trans (hcc j hj i u hu)⟩
theorem two_setB {w : World} {g : Nat} {t : TypeId} {u0 u1 : Value} (h : Blk w g #[u0, u1] t) (a0 a1 : Value) : Blk ((w.setCell ⟨g, 0, none⟩ a0).setCell ⟨g, 1, none⟩ a1) g #[a0, a1] t := by
  have h0 : Blk (w.setCell ⟨g, 0, none⟩ a0) g #[a0, u1] t := (by simpa using h.set 0 a0)
  simpa using h0.set 1 a1
end Go.Proofs.YtlikdnmikdldfaaGreatDoor
namespace Go.Proofs.YtlikdnmikdldfaaGreatDoor
open Go.Conc Go.ChangeShapes Go.WideShapes Go.ChangeAt Go.RowKit
set_option linter.unusedVariables false
set_option linter.unusedSimpArgs false
theorem AdmX.blk {w Wc : World} {x : Nat} {S : Nat → Prop} {l : Ln} {r : Bk × An} {v : Value} {W : World} (h : AdmX w Wc x S l r v W) : Blk W w.heap.size (lnC l) 74 := by obtain ⟨_, _, _, _, h, _⟩ := h; exact h

set_option maxRecDepth 100000 in
set_option maxHeartbeats 2000000 in
theorem cmd_refused (w : World) (x c : Nat) (S : Nat → Prop) (s : Bk) (l : Ln) (line : ByteArray) (tk : Tk) (r : Bk × An) (text : ByteArray) (he : ¬ r.2.e = 0) (hx : x < w.heap.size) (hS : ∀ b, S b → b < w.heap.size) (H0 : Hid (BkC w x S c s)) (HX : Hid (∀ W, Adm w x S c s l W → W.cell? ⟨x, 3, none⟩ = some (.chan (some c))))
    (HF : Hid (∀ W, Adm w x S c s l W → Calls Tryz.prog 55 #[.agg #[.chan (some c)], .string l.t] W fun e w1 => e = .returned (.tuple #[.agg #[.string tk.t, .string tk.l, .string tk.r], .bool false]) ∧ Adm w x S c s l w1 ∧ ∀ g cs t, Blk W g cs t → w.heap.size ≤ g → Blk w1 g cs t))
    (HD : Hid (∀ W, Adm w x S c s l W → Calls Tryz.prog 35 #[.pointer (some ⟨x, 0, none⟩), .agg #[.int .i64 l.v, .string l.t, .string l.o, .int .u32 l.a, .int .i64 l.n, .int .u32 l.d, .int .i64 l.g]] W fun e w2 => ∃ bt nt ct, e = .returned (.agg #[.int .i64 r.2.e, .slice bt nt ct]) ∧ AdmX w W x S l r (.slice bt nt ct) w2 ∧ ∀ g cs t, Blk W g cs t → w.heap.size ≤ g → Blk w2 g cs t))
    (HTT : Hid (∀ W bt nt ct, Chg S w W → Rd 1 encS ⟨#[]⟩ W (.slice bt nt ct) r.2.s → Calls Tryz.prog 32 #[.agg #[.int .i64 r.2.e, .slice bt nt ct]] W fun e w' => e = .returned (.string text) ∧ Below W.heap.size W w')) :
    Calls Tryz.prog 34 #[.pointer (some ⟨x, 0, none⟩), .agg (lnC l), .string line] w (DoR w x S (r.1, text)) := by
  have hA0 : Adm w x S c s l (w.alloc (.cells (lnC l) 74)) := ⟨H0.out.below (by repeat' (first | with_reducible assumption | with_reducible exact Below.refl _ _ | with_reducible apply Below.drew | with_reducible apply below_drewN | with_reducible apply Below.setCell | with_reducible apply Below.alloc | omega | (simp; done) | (simp; omega))), Chg.below (by repeat' (first | with_reducible assumption | with_reducible exact Below.refl _ _ | with_reducible apply Below.drew | with_reducible apply below_drewN | with_reducible apply Below.setCell | with_reducible apply Below.alloc | omega | (simp; done) | (simp; omega))), Blk.new w _ _⟩
  have HA0 : Hid (Adm w x S c s l (w.alloc (.cells #[.int .i64 l.v, .string l.t, .string l.o, .int .u32 l.a, .int .i64 l.n, .int .u32 l.d, .int .i64 l.g] 74))) := hA0
  have x3 : w.cell? ⟨x, 3, none⟩ = some (.chan (some c)) := by
    have h := HX.out _ hA0
    rwa [World.cell?_alloc_past _ _ _ hx] at h
  clear hA0
  have hxa : ¬ (x = w.heap.size + 1) := by omega
  have hxb : ¬ (w.heap.size + 1 = x) := by omega
  have hxc : ¬ (x = w.heap.size) := by omega
  have hxd : ¬ (w.heap.size = x) := by omega
  have HI : Hid (∀ bt nt ct W, Calls Tryz.prog 52 #[.agg #[.int .i64 r.2.e, .slice bt nt ct]] W fun e w' => e = .returned (.bool false) ∧ Below W.heap.size W w') := fun bt nt ct W => by
    have h := isOK_any r.2.e bt nt ct W
    rw [decide_eq_false he] at h
    exact h
  have HE : Hid (¬ r.2.e = 0) := he
  clear he
  show Calls _ _ #[.pointer (some ⟨x, 0, none⟩), .agg #[.int .i64 l.v, .string l.t, .string l.o, .int .u32 l.a, .int .i64 l.n, .int .u32 l.d, .int .i64 l.g], .string line] _ _
  go_enter Tryz.func34, Tryz.ntmps34
  go_wp2
  rename_i K1 a1 K0 a0
  have HM : Hid (∀ (t1 t3 t5 t6 t7 t9 t10 t11 t12 t13 t14 t15 t16 t17 t18 t19 t20 t21 t22 t23 t24 t25 t26 t27 t28 t29 t30 t31 t32 t33 t34 t35 t36 t37 t38 t39 t40 t41 t42 t43 t44 : Value) (W : World), Adm w x S c s l W → K0 ⟨#[.pointer (some ⟨x, 0, none⟩), t1, .string line, t3, .pointer (some ⟨w.heap.size, 0, none⟩), t5, t6, t7, .bool false, t9, t10, t11, t12, t13, t14, t15, t16, t17, t18, t19, t20, t21, t22, t23, t24, t25, t26, t27, t28, t29, t30, t31, t32, t33, t34, t35, t36, t37, t38, t39, t40, t41, t42, t43, t44], []⟩ W) := by
    intro t1 t3 t5 t6 t7 t9 t10 t11 t12 t13 t14 t15 t16 t17 t18 t19 t20 t21 t22 t23 t24 t25 t26 t27 t28 t29 t30 t31 t32 t33 t34 t35 t36 t37 t38 t39 t40 t41 t42 t43 t44 W hA
    have HA : Hid (Adm w x S c s l W) := hA
    have LW := hA.2.2
    have l0 : W.cell? ⟨w.heap.size, 0, none⟩ = some (.int .i64 l.v) := LW.cell 0
    have l1 : W.cell? ⟨w.heap.size, 1, none⟩ = some (.string l.t) := LW.cell 1
    have l2 : W.cell? ⟨w.heap.size, 2, none⟩ = some (.string l.o) := LW.cell 2
    have l3 : W.cell? ⟨w.heap.size, 3, none⟩ = some (.int .u32 l.a) := LW.cell 3
    have l4 : W.cell? ⟨w.heap.size, 4, none⟩ = some (.int .i64 l.n) := LW.cell 4
    have l5 : W.cell? ⟨w.heap.size, 5, none⟩ = some (.int .u32 l.d) := LW.cell 5
    have l6 : W.cell? ⟨w.heap.size, 6, none⟩ = some (.int .i64 l.g) := LW.cell 6
    have zW := LW.lt
    have zWx : x < W.heap.size := by omega
    have zW1 : ¬ (w.heap.size = W.heap.size) := by omega
    have zW2 : ¬ (W.heap.size = w.heap.size) := by omega
    clear hA LW HA0 HF HX x3
    refine a0 _ _ ?_
    go_wp2
    rename_i K3 a3
    have HM2 : Hid (∀ (u1 u3 u5 u6 u7 u8 u10 u11 u12 u13 u14 u15 u16 u17 u18 u19 u20 u21 u22 u23 u24 u25 u26 u27 u28 u29 u30 u31 u32 u33 u34 u35 u36 u37 u38 u39 u40 u41 u42 u43 u44 : Value) (A : Nat) (bt : Option Addr) (nt ct : Nat) (W2 : World), w.heap.size < A → Adm2 w x S l r (.slice bt nt ct) W2 → Blk W2 A #[.int .i64 r.2.e, .slice bt nt ct] 79 → K3 ⟨#[.pointer (some ⟨x, 0, none⟩), u1, .string line, u3, .pointer (some ⟨w.heap.size, 0, none⟩), u5, u6, u7, u8, .pointer (some ⟨A, 0, none⟩), u10, u11, u12, u13, u14, u15, u16, u17, u18, u19, u20, u21, u22, u23, u24, u25, u26, u27, u28, u29, u30, u31, u32, u33, u34, u35, u36, u37, u38, u39, u40, u41, u42, u43, u44], []⟩ W2) := by
      intro u1 u3 u5 u6 u7 u8 u10 u11 u12 u13 u14 u15 u16 u17 u18 u19 u20 u21 u22 u23 u24 u25 u26 u27 u28 u29 u30 u31 u32 u33 u34 u35 u36 u37 u38 u39 u40 u41 u42 u43 u44 A bt nt ct W2 hzA hA2 hB2
      obtain ⟨S', hbk, hS', hC2, hL2, hR2⟩ := hA2
      obtain ⟨vp, vn, vl, c2, BB⟩ := hbk
      have x32 : W2.cell? ⟨x, 3, none⟩ = some (.chan (some c2)) := BB.blk.cell 3
      have zx := BB.blk.lt
      have zl := hL2.lt
      have l1 : W2.cell? ⟨w.heap.size, 1, none⟩ = some (.string l.t) := hL2.cell 1
      have p0 := hB2.cell 0
      have p1 := hB2.cell 1
      have zA := hB2.lt
      have ncx : (some c2 : Option Nat) ≠ some x := fun e => BB.xc (by cases e; rfl)
      have ncl : (some c2 : Option Nat) ≠ some w.heap.size := fun e => by
        have h1 : c2 = w.heap.size := by cases e; rfl
        rcases hS' c2 BB.sc with q | q
        · have := hS c2 q; omega
        · omega
      have HC2 : Hid (Chg S w W2) := hC2
      have HRD : Hid (Rd 1 encS ⟨#[]⟩ W2 (.slice bt nt ct) r.2.s) := hR2
      have HR3 : Hid (BA W2 x S' vp vn vl c2 r.1 ∧ (∀ b, S' b → S b ∨ w.heap.size < b) ∧ Chg S w W2) := ⟨BB, hS', hC2⟩
      have HCH : Hid (∀ W, Below W2.heap.size W2 W → Ch W c2 r.1.toks) := fun W hW => BB.ch.same (hW.block c2 (BB.sz c2 BB.sc))
      replace ncx : (some x : Option Nat) ≠ some c2 := fun e => ncx e.symm
      replace ncl : (some w.heap.size : Option Nat) ≠ some c2 := fun e => ncl e.symm
      clear BB hS' hC2 hL2 hR2 hB2 HD HA l0 l2 l3 l4 l5 l6
      refine a3 _ _ ?_
      go_wp2_with (first | (go_at_call 32; refine (HTT.out W2 bt nt ct HC2.out HRD.out).mono ?_; rintro e w3 ⟨rfl, hq3⟩; replace hq3 : Hid (Below W2.heap.size W2 w3) := hq3; have b0 : w3.cell? ⟨A, 0, none⟩ = some (.int .i64 r.2.e) := (hq3.out.cell (p := ⟨A, 0, none⟩) zA).trans p0; have b1 : w3.cell? ⟨A, 1, none⟩ = some (.slice bt nt ct) := (hq3.out.cell (p := ⟨A, 1, none⟩) zA).trans p1) | (go_at_call 52; refine (HI.out bt nt ct _).mono ?_; rintro e w4 ⟨rfl, hq4⟩; have hb4 : Hid (Below W2.heap.size W2 w4) := hq3.out.trans (hq4.mono hq3.out.size); clear hq4))
      go_ret
      obtain ⟨hB, h2, h3⟩ := HR3.out
      exact ⟨S', rfl, ⟨_, _, _, _, hB.below hb4.out⟩, fun b q => (h2 b q).imp id (fun k => by omega), h3.trans (Chg.below (S := S) hb4.out) (fun b q => .inl q)⟩
    replace HM2 : Hid _ := HM2
    clear a3
    go_region_held3 (fun w' => w'.cell? ⟨w.heap.size, 0, none⟩ = some (.int .i64 l.v) ∧ w'.cell? ⟨w.heap.size, 1, none⟩ = some (.string l.t) ∧ w'.cell? ⟨w.heap.size, 2, none⟩ = some (.string l.o) ∧ w'.cell? ⟨w.heap.size, 3, none⟩ = some (.int .u32 l.a) ∧ w'.cell? ⟨w.heap.size, 4, none⟩ = some (.int .i64 l.n) ∧ w'.cell? ⟨w.heap.size, 5, none⟩ = some (.int .u32 l.d) ∧ w'.cell? ⟨w.heap.size, 6, none⟩ = some (.int .i64 l.g)) (go_keep) (first | (go_at_call 35; refine (HD.out _ (by repeat' (first | with_reducible exact HA.out | with_reducible apply Adm.alloc | with_reducible apply Adm.drew))).mono ?_; rintro e w2 ⟨bt, nt, ct, rfl, HX2, K2⟩; replace HX2 : Hid (AdmX w _ x S l r (.slice bt nt ct) w2) := HX2; have LB : Hid (Blk w2 w.heap.size #[.int .i64 l.v, .string l.t, .string l.o, .int .u32 l.a, .int .i64 l.n, .int .u32 l.d, .int .i64 l.g] 74) := HX2.out.blk; have m0 : w2.cell? ⟨w.heap.size, 0, none⟩ = some (.int .i64 l.v) := LB.out.cell 0; have m1 : w2.cell? ⟨w.heap.size, 1, none⟩ = some (.string l.t) := LB.out.cell 1; have m2 : w2.cell? ⟨w.heap.size, 2, none⟩ = some (.string l.o) := LB.out.cell 2; have m3 : w2.cell? ⟨w.heap.size, 3, none⟩ = some (.int .u32 l.a) := LB.out.cell 3; have m4 : w2.cell? ⟨w.heap.size, 4, none⟩ = some (.int .i64 l.n) := LB.out.cell 4; have m5 : w2.cell? ⟨w.heap.size, 5, none⟩ = some (.int .u32 l.d) := LB.out.cell 5; have m6 : w2.cell? ⟨w.heap.size, 6, none⟩ = some (.int .i64 l.g) := LB.out.cell 6; have mz := LB.out.lt; have AB : Hid (Blk w2 W.heap.size #[.int .i64 0, .slice none 0 0] 79) := K2 _ _ _ (new_at (by simp)) (by have := HA.out.2.2.lt; omega); clear K2; have d0 := AB.out.cell 0; have d1 := AB.out.cell 1; have g0 := AB.out.frozen 0; have g1 := AB.out.frozen 1; have dz := AB.out.lt) | (go_at_call 35; refine (HD.out _ (by repeat' (first | with_reducible exact HA.out | with_reducible apply Adm.alloc | with_reducible apply Adm.drew))).mono ?_; rintro e w2 ⟨bt, nt, ct, rfl, HX2, K2⟩; replace HX2 : Hid (AdmX w _ x S l r (.slice bt nt ct) w2) := HX2; have LB : Hid (Blk w2 w.heap.size #[.int .i64 l.v, .string l.t, .string l.o, .int .u32 l.a, .int .i64 l.n, .int .u32 l.d, .int .i64 l.g] 74) := HX2.out.blk; have m0 : w2.cell? ⟨w.heap.size, 0, none⟩ = some (.int .i64 l.v) := LB.out.cell 0; have m1 : w2.cell? ⟨w.heap.size, 1, none⟩ = some (.string l.t) := LB.out.cell 1; have m2 : w2.cell? ⟨w.heap.size, 2, none⟩ = some (.string l.o) := LB.out.cell 2; have m3 : w2.cell? ⟨w.heap.size, 3, none⟩ = some (.int .u32 l.a) := LB.out.cell 3; have m4 : w2.cell? ⟨w.heap.size, 4, none⟩ = some (.int .i64 l.n) := LB.out.cell 4; have m5 : w2.cell? ⟨w.heap.size, 5, none⟩ = some (.int .u32 l.d) := LB.out.cell 5; have m6 : w2.cell? ⟨w.heap.size, 6, none⟩ = some (.int .i64 l.g) := LB.out.cell 6; have mz := LB.out.lt; clear K2))
    all_goals first
      | exact HM2.out _ _ _ _ _ _ _ _ _ _ _ _ _ _ _ _ _ _ _ _ _ _ _ _ _ _ _ _ _ _ _ _ _ _ _ _ _ _ _ _ _ w2.heap.size _ _ _ _ (by omega) (HX2.out.late (by simp; omega) (by repeat' (first | with_reducible exact Below.refl _ _ | with_reducible apply Below.drew | with_reducible apply Below.alloc | omega | (simp; done)))) (Blk.new w2 _ _)
      | exact HM2.out _ _ _ _ _ _ _ _ _ _ _ _ _ _ _ _ _ _ _ _ _ _ _ _ _ _ _ _ _ _ _ _ _ _ _ _ _ _ _ _ _ W.heap.size _ _ _ _ (by omega) (AdmX.early hS HX2.out (by omega) (by simp) AB.out _ _) (two_setB AB.out _ _)
  replace HM : Hid _ := HM
  clear a0 a1
  go_region_held3 (fun w' => w'.cell? ⟨x, 3, none⟩ = some (.chan (some c)) ∧ w'.cell? ⟨w.heap.size, 1, none⟩ = some (.string l.t)) (go_keep) (first | (go_at_call 55; refine (HF.out _ (by repeat' (first | exact HA0.out | apply Adm.alloc | apply Adm.drew))).mono ?_; rintro e w1 ⟨rfl, HA1, K1⟩; replace HA1 : Hid (Adm w x S c s l w1) := HA1; have e1 : w1.cell? ⟨x, 3, none⟩ = some (.chan (some c)) := HX.out w1 HA1.out; have e2 : w1.cell? ⟨w.heap.size, 1, none⟩ = some (.string l.t) := HA1.out.2.2.cell 1; have DB : Hid (Blk w1 (w.heap.size + 1) #[.string ⟨#[]⟩, .string ⟨#[]⟩, .string ⟨#[]⟩] 132) := K1 _ _ _ (new_at (by simp)) (by omega); clear K1; have d0 := DB.out.cell 0; have d1 := DB.out.cell 1; have d2 := DB.out.cell 2; have g0 := DB.out.frozen 0; have g1 := DB.out.frozen 1; have g2 := DB.out.frozen 2; have dz := DB.out.lt) | (go_at_call 55; refine (HF.out _ (by repeat' (first | exact HA0.out | apply Adm.alloc | apply Adm.drew))).mono ?_; rintro e w1 ⟨rfl, HA1, K1⟩; replace HA1 : Hid (Adm w x S c s l w1) := HA1; have e1 : w1.cell? ⟨x, 3, none⟩ = some (.chan (some c)) := HX.out w1 HA1.out; have e2 : w1.cell? ⟨w.heap.size, 1, none⟩ = some (.string l.t) := HA1.out.2.2.cell 1; clear K1))
  all_goals first
    | exact HM.out _ _ _ _ _ _ _ _ _ _ _ _ _ _ _ _ _ _ _ _ _ _ _ _ _ _ _ _ _ _ _ _ _ _ _ _ _ _ _ _ _ _ (by repeat' (first | with_reducible exact HA1.out | with_reducible apply Adm.alloc | with_reducible apply Adm.drew | (with_reducible apply Adm.set hS (by omega))))
end Go.Proofs.YtlikdnmikdldfaaGreatDoor
namespace Go.Proofs.YtlikdnmikdldfaaGreatDoor
open Go.Conc Go.ChangeShapes Go.WideShapes Go.ChangeAt Go.RowKit
set_option linter.unusedVariables false
set_option linter.unusedSimpArgs false

set_option maxRecDepth 100000 in
set_option maxHeartbeats 2000000 in
theorem cmd_done (w : World) (x c : Nat) (S : Nat → Prop) (s : Bk) (l : Ln) (line : ByteArray) (tk : Tk) (r : Bk × An) (text : ByteArray) (he : r.2.e = 0) (hx : x < w.heap.size) (hS : ∀ b, S b → b < w.heap.size) (H0 : Hid (BkC w x S c s)) (HX : Hid (∀ W, Adm w x S c s l W → W.cell? ⟨x, 3, none⟩ = some (.chan (some c))))
    (HF : Hid (∀ W, Adm w x S c s l W → Calls Tryz.prog 55 #[.agg #[.chan (some c)], .string l.t] W fun e w1 => e = .returned (.tuple #[.agg #[.string tk.t, .string tk.l, .string tk.r], .bool false]) ∧ Adm w x S c s l w1 ∧ ∀ g cs t, Blk W g cs t → w.heap.size ≤ g → Blk w1 g cs t))
    (HD : Hid (∀ W, Adm w x S c s l W → Calls Tryz.prog 35 #[.pointer (some ⟨x, 0, none⟩), .agg #[.int .i64 l.v, .string l.t, .string l.o, .int .u32 l.a, .int .i64 l.n, .int .u32 l.d, .int .i64 l.g]] W fun e w2 => ∃ bt nt ct, e = .returned (.agg #[.int .i64 r.2.e, .slice bt nt ct]) ∧ AdmX w W x S l r (.slice bt nt ct) w2 ∧ ∀ g cs t, Blk W g cs t → w.heap.size ≤ g → Blk w2 g cs t))
    (HTT : Hid (∀ W bt nt ct, Chg S w W → Rd 1 encS ⟨#[]⟩ W (.slice bt nt ct) r.2.s → Calls Tryz.prog 32 #[.agg #[.int .i64 r.2.e, .slice bt nt ct]] W fun e w' => e = .returned (.string text) ∧ Below W.heap.size W w'))
    (HAD : Hid (∀ W c2, Ch W c2 r.1.toks → Calls Tryz.prog 57 #[.agg #[.chan (some c2)], .agg #[.string l.t, .string line, .string text]] W fun e w' => e = .returned (.tuple #[]) ∧ Ch w' c2 (addT r.1.toks ⟨l.t, line, text⟩) ∧ W.grownBy w' (some c2))) :
    Calls Tryz.prog 34 #[.pointer (some ⟨x, 0, none⟩), .agg (lnC l), .string line] w (DoR w x S ({ r.1 with toks := addT r.1.toks ⟨l.t, line, text⟩ }, text)) := by
  have hA0 : Adm w x S c s l (w.alloc (.cells (lnC l) 74)) := ⟨H0.out.below (by repeat' (first | with_reducible assumption | with_reducible exact Below.refl _ _ | with_reducible apply Below.drew | with_reducible apply below_drewN | with_reducible apply Below.setCell | with_reducible apply Below.alloc | omega | (simp; done) | (simp; omega))), Chg.below (by repeat' (first | with_reducible assumption | with_reducible exact Below.refl _ _ | with_reducible apply Below.drew | with_reducible apply below_drewN | with_reducible apply Below.setCell | with_reducible apply Below.alloc | omega | (simp; done) | (simp; omega))), Blk.new w _ _⟩
  have HA0 : Hid (Adm w x S c s l (w.alloc (.cells #[.int .i64 l.v, .string l.t, .string l.o, .int .u32 l.a, .int .i64 l.n, .int .u32 l.d, .int .i64 l.g] 74))) := hA0
  have x3 : w.cell? ⟨x, 3, none⟩ = some (.chan (some c)) := by
    have h := HX.out _ hA0
    rwa [World.cell?_alloc_past _ _ _ hx] at h
  clear hA0
  have hxa : ¬ (x = w.heap.size + 1) := by omega
  have hxb : ¬ (w.heap.size + 1 = x) := by omega
  have hxc : ¬ (x = w.heap.size) := by omega
  have hxd : ¬ (w.heap.size = x) := by omega
  have HI : Hid (∀ bt nt ct W, Calls Tryz.prog 52 #[.agg #[.int .i64 r.2.e, .slice bt nt ct]] W fun e w' => e = .returned (.bool true) ∧ Below W.heap.size W w') := fun bt nt ct W => by
    have h := isOK_any r.2.e bt nt ct W
    rw [decide_eq_true he] at h
    exact h
  have HE : Hid (r.2.e = 0) := he
  clear he
  show Calls _ _ #[.pointer (some ⟨x, 0, none⟩), .agg #[.int .i64 l.v, .string l.t, .string l.o, .int .u32 l.a, .int .i64 l.n, .int .u32 l.d, .int .i64 l.g], .string line] _ _
  go_enter Tryz.func34, Tryz.ntmps34
  go_wp2
  rename_i K1 a1 K0 a0
  have HM : Hid (∀ (t1 t3 t5 t6 t7 t9 t10 t11 t12 t13 t14 t15 t16 t17 t18 t19 t20 t21 t22 t23 t24 t25 t26 t27 t28 t29 t30 t31 t32 t33 t34 t35 t36 t37 t38 t39 t40 t41 t42 t43 t44 : Value) (W : World), Adm w x S c s l W → K0 ⟨#[.pointer (some ⟨x, 0, none⟩), t1, .string line, t3, .pointer (some ⟨w.heap.size, 0, none⟩), t5, t6, t7, .bool false, t9, t10, t11, t12, t13, t14, t15, t16, t17, t18, t19, t20, t21, t22, t23, t24, t25, t26, t27, t28, t29, t30, t31, t32, t33, t34, t35, t36, t37, t38, t39, t40, t41, t42, t43, t44], []⟩ W) := by
    intro t1 t3 t5 t6 t7 t9 t10 t11 t12 t13 t14 t15 t16 t17 t18 t19 t20 t21 t22 t23 t24 t25 t26 t27 t28 t29 t30 t31 t32 t33 t34 t35 t36 t37 t38 t39 t40 t41 t42 t43 t44 W hA
    have HA : Hid (Adm w x S c s l W) := hA
    have LW := hA.2.2
    have l0 : W.cell? ⟨w.heap.size, 0, none⟩ = some (.int .i64 l.v) := LW.cell 0
    have l1 : W.cell? ⟨w.heap.size, 1, none⟩ = some (.string l.t) := LW.cell 1
    have l2 : W.cell? ⟨w.heap.size, 2, none⟩ = some (.string l.o) := LW.cell 2
    have l3 : W.cell? ⟨w.heap.size, 3, none⟩ = some (.int .u32 l.a) := LW.cell 3
    have l4 : W.cell? ⟨w.heap.size, 4, none⟩ = some (.int .i64 l.n) := LW.cell 4
    have l5 : W.cell? ⟨w.heap.size, 5, none⟩ = some (.int .u32 l.d) := LW.cell 5
    have l6 : W.cell? ⟨w.heap.size, 6, none⟩ = some (.int .i64 l.g) := LW.cell 6
    have zW := LW.lt
    have zWx : x < W.heap.size := by omega
    have zW1 : ¬ (w.heap.size = W.heap.size) := by omega
    have zW2 : ¬ (W.heap.size = w.heap.size) := by omega
    clear hA LW HA0 HF HX x3
    refine a0 _ _ ?_
    go_wp2
    rename_i K3 a3
    have HM2 : Hid (∀ (u1 u3 u5 u6 u7 u8 u10 u11 u12 u13 u14 u15 u16 u17 u18 u19 u20 u21 u22 u23 u24 u25 u26 u27 u28 u29 u30 u31 u32 u33 u34 u35 u36 u37 u38 u39 u40 u41 u42 u43 u44 : Value) (A : Nat) (bt : Option Addr) (nt ct : Nat) (W2 : World), w.heap.size < A → Adm2 w x S l r (.slice bt nt ct) W2 → Blk W2 A #[.int .i64 r.2.e, .slice bt nt ct] 79 → K3 ⟨#[.pointer (some ⟨x, 0, none⟩), u1, .string line, u3, .pointer (some ⟨w.heap.size, 0, none⟩), u5, u6, u7, u8, .pointer (some ⟨A, 0, none⟩), u10, u11, u12, u13, u14, u15, u16, u17, u18, u19, u20, u21, u22, u23, u24, u25, u26, u27, u28, u29, u30, u31, u32, u33, u34, u35, u36, u37, u38, u39, u40, u41, u42, u43, u44], []⟩ W2) := by
      intro u1 u3 u5 u6 u7 u8 u10 u11 u12 u13 u14 u15 u16 u17 u18 u19 u20 u21 u22 u23 u24 u25 u26 u27 u28 u29 u30 u31 u32 u33 u34 u35 u36 u37 u38 u39 u40 u41 u42 u43 u44 A bt nt ct W2 hzA hA2 hB2
      obtain ⟨S', hbk, hS', hC2, hL2, hR2⟩ := hA2
      obtain ⟨vp, vn, vl, c2, BB⟩ := hbk
      have x32 : W2.cell? ⟨x, 3, none⟩ = some (.chan (some c2)) := BB.blk.cell 3
      have zx := BB.blk.lt
      have zl := hL2.lt
      have l1 : W2.cell? ⟨w.heap.size, 1, none⟩ = some (.string l.t) := hL2.cell 1
      have p0 := hB2.cell 0
      have p1 := hB2.cell 1
      have zA := hB2.lt
      have ncx : (some c2 : Option Nat) ≠ some x := fun e => BB.xc (by cases e; rfl)
      have ncl : (some c2 : Option Nat) ≠ some w.heap.size := fun e => by
        have h1 : c2 = w.heap.size := by cases e; rfl
        rcases hS' c2 BB.sc with q | q
        · have := hS c2 q; omega
        · omega
      have HC2 : Hid (Chg S w W2) := hC2
      have HRD : Hid (Rd 1 encS ⟨#[]⟩ W2 (.slice bt nt ct) r.2.s) := hR2
      have HR3 : Hid (BA W2 x S' vp vn vl c2 r.1 ∧ (∀ b, S' b → S b ∨ w.heap.size < b) ∧ Chg S w W2) := ⟨BB, hS', hC2⟩
      have HCH : Hid (∀ W, Below W2.heap.size W2 W → Ch W c2 r.1.toks) := fun W hW => BB.ch.same (hW.block c2 (BB.sz c2 BB.sc))
      replace ncx : (some x : Option Nat) ≠ some c2 := fun e => ncx e.symm
      replace ncl : (some w.heap.size : Option Nat) ≠ some c2 := fun e => ncl e.symm
      clear BB hS' hC2 hL2 hR2 hB2 HD HA l0 l2 l3 l4 l5 l6
      refine a3 _ _ ?_
      go_wp2_with (first | (go_at_call 32; refine (HTT.out W2 bt nt ct HC2.out HRD.out).mono ?_; rintro e w3 ⟨rfl, hq3⟩; replace hq3 : Hid (Below W2.heap.size W2 w3) := hq3; have b0 : w3.cell? ⟨A, 0, none⟩ = some (.int .i64 r.2.e) := (hq3.out.cell (p := ⟨A, 0, none⟩) zA).trans p0; have b1 : w3.cell? ⟨A, 1, none⟩ = some (.slice bt nt ct) := (hq3.out.cell (p := ⟨A, 1, none⟩) zA).trans p1) | (go_at_call 52; refine (HI.out bt nt ct _).mono ?_; rintro e w4 ⟨rfl, hq4⟩; have hb4 : Hid (Below W2.heap.size W2 w4) := hq3.out.trans (hq4.mono hq3.out.size); clear hq4; have y3 : w4.cell? ⟨x, 3, none⟩ = some (.chan (some c2)) := (hb4.out.cell (p := ⟨x, 3, none⟩) zx).trans x32; have y1 : w4.cell? ⟨w.heap.size, 1, none⟩ = some (.string l.t) := (hb4.out.cell (p := ⟨w.heap.size, 1, none⟩) zl).trans l1; have zx4 := Nat.lt_of_lt_of_le zx hb4.out.size; have zl4 := Nat.lt_of_lt_of_le zl hb4.out.size))
      go_region_held3 (fun w' => w'.cell? ⟨x, 3, none⟩ = some (.chan (some c2)) ∧ w'.cell? ⟨w.heap.size, 1, none⟩ = some (.string l.t)) (go_keep) (first | (go_at_call 57; refine (HAD.out _ c2 (HCH.out _ (by repeat' (first | with_reducible exact hb4.out | with_reducible apply Below.drew)))).mono ?_; rintro e w5 ⟨rfl, hch5, hg5⟩; replace hch5 : Hid (Ch w5 c2 (addT r.1.toks ⟨l.t, line, text⟩)) := hch5; replace hg5 : Hid (World.grownBy w4.drew w5 (some c2)) := hg5; have y35 : w5.cell? ⟨x, 3, none⟩ = some (.chan (some c2)) := (World.cell?_of_block (a := ⟨x, 3, none⟩) (hg5.out.block x zx4 ncx)).trans y3; have y15 : w5.cell? ⟨w.heap.size, 1, none⟩ = some (.string l.t) := (World.cell?_of_block (a := ⟨w.heap.size, 1, none⟩) (hg5.out.block w.heap.size zl4 ncl)).trans y1))
      all_goals (
        go_wp2
        go_ret
        obtain ⟨hB, h2, h3⟩ := HR3.out
        have hb5 : Below W2.heap.size W2 w4.drew := hb4.out.drew
        have hB5 := (hB.below hb5).toks _ hch5.out hg5.out
        exact ⟨S', rfl, ⟨_, _, _, _, hB5⟩, fun b q => (h2 b q).imp id (fun k => by omega), (h3.trans (Chg.below (S := S) hb5) (fun b q => .inl q)).trans (Chg.grown (S := S') hg5.out (fun b e => by cases e; exact hB.sc)) (fun b q => (h2 b q).imp id (fun k => by omega))⟩)
    replace HM2 : Hid _ := HM2
    clear a3
    go_region_held3 (fun w' => w'.cell? ⟨w.heap.size, 0, none⟩ = some (.int .i64 l.v) ∧ w'.cell? ⟨w.heap.size, 1, none⟩ = some (.string l.t) ∧ w'.cell? ⟨w.heap.size, 2, none⟩ = some (.string l.o) ∧ w'.cell? ⟨w.heap.size, 3, none⟩ = some (.int .u32 l.a) ∧ w'.cell? ⟨w.heap.size, 4, none⟩ = some (.int .i64 l.n) ∧ w'.cell? ⟨w.heap.size, 5, none⟩ = some (.int .u32 l.d) ∧ w'.cell? ⟨w.heap.size, 6, none⟩ = some (.int .i64 l.g)) (go_keep) (first | (go_at_call 35; refine (HD.out _ (by repeat' (first | with_reducible exact HA.out | with_reducible apply Adm.alloc | with_reducible apply Adm.drew))).mono ?_; rintro e w2 ⟨bt, nt, ct, rfl, HX2, K2⟩; replace HX2 : Hid (AdmX w _ x S l r (.slice bt nt ct) w2) := HX2; have LB : Hid (Blk w2 w.heap.size #[.int .i64 l.v, .string l.t, .string l.o, .int .u32 l.a, .int .i64 l.n, .int .u32 l.d, .int .i64 l.g] 74) := HX2.out.blk; have m0 : w2.cell? ⟨w.heap.size, 0, none⟩ = some (.int .i64 l.v) := LB.out.cell 0; have m1 : w2.cell? ⟨w.heap.size, 1, none⟩ = some (.string l.t) := LB.out.cell 1; have m2 : w2.cell? ⟨w.heap.size, 2, none⟩ = some (.string l.o) := LB.out.cell 2; have m3 : w2.cell? ⟨w.heap.size, 3, none⟩ = some (.int .u32 l.a) := LB.out.cell 3; have m4 : w2.cell? ⟨w.heap.size, 4, none⟩ = some (.int .i64 l.n) := LB.out.cell 4; have m5 : w2.cell? ⟨w.heap.size, 5, none⟩ = some (.int .u32 l.d) := LB.out.cell 5; have m6 : w2.cell? ⟨w.heap.size, 6, none⟩ = some (.int .i64 l.g) := LB.out.cell 6; have mz := LB.out.lt; have AB : Hid (Blk w2 W.heap.size #[.int .i64 0, .slice none 0 0] 79) := K2 _ _ _ (new_at (by simp)) (by have := HA.out.2.2.lt; omega); clear K2; have d0 := AB.out.cell 0; have d1 := AB.out.cell 1; have g0 := AB.out.frozen 0; have g1 := AB.out.frozen 1; have dz := AB.out.lt) | (go_at_call 35; refine (HD.out _ (by repeat' (first | with_reducible exact HA.out | with_reducible apply Adm.alloc | with_reducible apply Adm.drew))).mono ?_; rintro e w2 ⟨bt, nt, ct, rfl, HX2, K2⟩; replace HX2 : Hid (AdmX w _ x S l r (.slice bt nt ct) w2) := HX2; have LB : Hid (Blk w2 w.heap.size #[.int .i64 l.v, .string l.t, .string l.o, .int .u32 l.a, .int .i64 l.n, .int .u32 l.d, .int .i64 l.g] 74) := HX2.out.blk; have m0 : w2.cell? ⟨w.heap.size, 0, none⟩ = some (.int .i64 l.v) := LB.out.cell 0; have m1 : w2.cell? ⟨w.heap.size, 1, none⟩ = some (.string l.t) := LB.out.cell 1; have m2 : w2.cell? ⟨w.heap.size, 2, none⟩ = some (.string l.o) := LB.out.cell 2; have m3 : w2.cell? ⟨w.heap.size, 3, none⟩ = some (.int .u32 l.a) := LB.out.cell 3; have m4 : w2.cell? ⟨w.heap.size, 4, none⟩ = some (.int .i64 l.n) := LB.out.cell 4; have m5 : w2.cell? ⟨w.heap.size, 5, none⟩ = some (.int .u32 l.d) := LB.out.cell 5; have m6 : w2.cell? ⟨w.heap.size, 6, none⟩ = some (.int .i64 l.g) := LB.out.cell 6; have mz := LB.out.lt; clear K2))
    all_goals first
      | exact HM2.out _ _ _ _ _ _ _ _ _ _ _ _ _ _ _ _ _ _ _ _ _ _ _ _ _ _ _ _ _ _ _ _ _ _ _ _ _ _ _ _ _ w2.heap.size _ _ _ _ (by omega) (HX2.out.late (by simp; omega) (by repeat' (first | with_reducible exact Below.refl _ _ | with_reducible apply Below.drew | with_reducible apply Below.alloc | omega | (simp; done)))) (Blk.new w2 _ _)
      | exact HM2.out _ _ _ _ _ _ _ _ _ _ _ _ _ _ _ _ _ _ _ _ _ _ _ _ _ _ _ _ _ _ _ _ _ _ _ _ _ _ _ _ _ W.heap.size _ _ _ _ (by omega) (AdmX.early hS HX2.out (by omega) (by simp) AB.out _ _) (two_setB AB.out _ _)
  replace HM : Hid _ := HM
  clear a0 a1
  go_region_held3 (fun w' => w'.cell? ⟨x, 3, none⟩ = some (.chan (some c)) ∧ w'.cell? ⟨w.heap.size, 1, none⟩ = some (.string l.t)) (go_keep) (first | (go_at_call 55; refine (HF.out _ (by repeat' (first | exact HA0.out | apply Adm.alloc | apply Adm.drew))).mono ?_; rintro e w1 ⟨rfl, HA1, K1⟩; replace HA1 : Hid (Adm w x S c s l w1) := HA1; have e1 : w1.cell? ⟨x, 3, none⟩ = some (.chan (some c)) := HX.out w1 HA1.out; have e2 : w1.cell? ⟨w.heap.size, 1, none⟩ = some (.string l.t) := HA1.out.2.2.cell 1; have DB : Hid (Blk w1 (w.heap.size + 1) #[.string ⟨#[]⟩, .string ⟨#[]⟩, .string ⟨#[]⟩] 132) := K1 _ _ _ (new_at (by simp)) (by omega); clear K1; have d0 := DB.out.cell 0; have d1 := DB.out.cell 1; have d2 := DB.out.cell 2; have g0 := DB.out.frozen 0; have g1 := DB.out.frozen 1; have g2 := DB.out.frozen 2; have dz := DB.out.lt) | (go_at_call 55; refine (HF.out _ (by repeat' (first | exact HA0.out | apply Adm.alloc | apply Adm.drew))).mono ?_; rintro e w1 ⟨rfl, HA1, K1⟩; replace HA1 : Hid (Adm w x S c s l w1) := HA1; have e1 : w1.cell? ⟨x, 3, none⟩ = some (.chan (some c)) := HX.out w1 HA1.out; have e2 : w1.cell? ⟨w.heap.size, 1, none⟩ = some (.string l.t) := HA1.out.2.2.cell 1; clear K1))
  all_goals first
    | exact HM.out _ _ _ _ _ _ _ _ _ _ _ _ _ _ _ _ _ _ _ _ _ _ _ _ _ _ _ _ _ _ _ _ _ _ _ _ _ _ _ _ _ _ (by repeat' (first | with_reducible exact HA1.out | with_reducible apply Adm.alloc | with_reducible apply Adm.drew | (with_reducible apply Adm.set hS (by omega))))
end Go.Proofs.YtlikdnmikdldfaaGreatDoor
namespace Go.Proofs.YtlikdnmikdldfaaGreatDoor
open Go.Conc Go.ChangeShapes Go.WideShapes Go.ChangeAt Go.RowKit
set_option linter.unusedVariables false
set_option linter.unusedSimpArgs false

theorem EnvT.chg {w w' : World} {S : Nat → Prop} (h : EnvT w) (hc : Chg S w w') (hG : ∀ b, S b → 10 ≤ b) : EnvT w' where
  env := h.env.chg hc hG
  lw := Nat.lt_of_lt_of_le h.lw hc.size
  lf := Nat.lt_of_lt_of_le h.lf hc.size
  wd := fun i v e => (World.cell?_of_block (a := ⟨1, i, none⟩) (hc.block _ h.lw (fun q => absurd (hG _ q) (by show ¬ 10 ≤ (1 : Nat); decide)))).trans (h.wd i v e)
  fm := fun i v e => (World.cell?_of_block (a := ⟨0, i, none⟩) (hc.block _ h.lf (fun q => absurd (hG _ q) (by show ¬ 10 ≤ (0 : Nat); decide)))).trans (h.fm i v e)
theorem size_of (l : List UInt8) : (⟨l.toArray⟩ : ByteArray).size = l.length := by show l.toArray.size = _; simp
theorem bText_lenC {a n : Int} (ha : ad a) (hn : 0 ≤ n) (h1 : n ≤ 32) : (bText a n).length ≤ 18 := wr_len _ _ (by have := ha.1; have := ha.2; omega) (by omega)
theorem hText_len {h : Hd} (ha : ad h.a) (hr : rt h.a h.n = true) (ho : h.o.size ≤ 8) : (⟨(hText h).toArray⟩ : ByteArray).size ≤ 100 := by
  obtain ⟨n0, n1, _⟩ := rt_iff.1 hr
  have h1 := bText_lenC ha n0 n1
  have h2 := Lib.size_eq h.o
  rw [size_of]
  unfold hText
  simp only [List.length_append, List.length_cons]
  omega
theorem lText_len {h : Ls} (ha : ad h.a) (ho : h.o.size ≤ 8) : (⟨(lText h).toArray⟩ : ByteArray).size ≤ 100 := by
  have h1 := dot_lenB h.a.toNat (by have := ha.1; have := ha.2; omega)
  have h2 := Lib.size_eq h.o
  rw [size_of]
  unfold lText
  simp only [List.length_append, List.length_cons]
  omega
def AnOk (a : An) : Prop := a.e < 14 ∧ a.s.length ≤ 1000 ∧ ∀ t, t ∈ a.s → t.size ≤ 100
theorem ref_ok (k : Nat) (h : k < 14) : AnOk (ref k) := ⟨h, by simp [ref], by simp [ref]⟩
theorem okA_ok : AnOk okA := ⟨by decide, by simp [okA], by simp [okA]⟩
theorem tell1_ok (t : ByteArray) (h : t.size ≤ 100) : AnOk (tell1 t) := ⟨by simp [tell1], by simp [tell1], by simpa [tell1] using h⟩
theorem ans_ok {s : Bk} {l : Ln} (hI : Inv s) (hL : LnOk l) : AnOk (doLn s l).2 := by
  unfold doLn
  split
  · unfold doPool
    split; · exact ref_ok 4 (by omega)
    split; · exact ref_ok 5 (by omega)
    split; · exact ref_ok 6 (by omega)
    exact okA_ok
  · unfold doDrop
    split; · exact ref_ok 7 (by omega)
    split; · exact ref_ok 8 (by omega)
    split; · exact ref_ok 9 (by omega)
    exact okA_ok
  · unfold doNet
    split; · exact ref_ok 7 (by omega)
    split; · exact ref_ok 4 (by omega)
    rcases hb : best (frees 33 (netsOf s.nets l.a l.n) l.a l.n) l.g with _ | b
    · exact ref_ok 10 (by omega)
    · dsimp only
      split
      · exact ref_ok 6 (by omega)
      · refine tell1_ok _ ?_
        rw [size_of]
        rcases best_mem _ _ _ hb with ⟨q1, q2⟩ | q
        · have h1 := frees_rt (netsOf s.nets l.a l.n) (fun h hh => (rt_iff.1 (hI.na h (List.mem_filter.1 hh).1).2.1).2.1) 33 l.a l.n hL.a hL.r b q1
          have := bText_lenC (n := l.g) h1.1 hL.g0 hL.g1
          omega
        · cases q
  · unfold doBlock
    split; · exact ref_ok 4 (by omega)
    split; · exact ref_ok 7 (by omega)
    split; · exact ref_ok 5 (by omega)
    split; · exact ref_ok 6 (by omega)
    exact okA_ok
  · unfold doFree
    split; · exact ref_ok 11 (by omega)
    split; · exact ref_ok 8 (by omega)
    split; · exact ref_ok 9 (by omega)
    exact okA_ok
  · unfold doLease
    split; · exact ref_ok 11 (by omega)
    rcases hb : least s.leases l.a l.n with _ | d
    · exact ref_ok 10 (by omega)
    · dsimp only
      split
      · exact ref_ok 6 (by omega)
      · refine tell1_ok _ ?_
        have := least_ad hL.a hL.r hb
        have h2 := dot_lenB d.toNat (by have h3 := this.1; have h4 := this.2; omega)
        rw [size_of]; omega
  · unfold doTake
    split; · exact ref_ok 11 (by omega)
    split; · exact ref_ok 12 (by omega)
    split; · exact ref_ok 13 (by omega)
    split; · exact ref_ok 6 (by omega)
    exact okA_ok
  · unfold doGive
    split
    · split; · exact ref_ok 8 (by omega)
      exact okA_ok
    · exact ref_ok 12 (by omega)
  · refine ⟨by show 0 < 14; omega, by show (s.pools.map _).length ≤ 1000; rw [List.length_map]; have := hI.p; omega, fun t ht => ?_⟩
    obtain ⟨h, hh, rfl⟩ := List.mem_map.1 ht
    have := hI.pa h hh
    exact hText_len this.1 this.2.1 this.2.2.2.2
  · unfold doNets
    split
    · exact ref_ok 7 (by omega)
    · refine ⟨by show 0 < 14; omega, by show ((netsOf s.nets l.a l.n).map _).length ≤ 1000; rw [List.length_map]; have := hI.n; have := List.length_filter_le (fun h : Hd => inn h.a h.n l.a l.n) s.nets; unfold netsOf; omega, fun t ht => ?_⟩
      obtain ⟨h, hh, rfl⟩ := List.mem_map.1 ht
      have := hI.na h (List.mem_filter.1 hh).1
      exact hText_len this.1 this.2.1 this.2.2.2
  · unfold doUsed
    split
    · exact ref_ok 11 (by omega)
    · refine ⟨by show 0 < 14; omega, by show ((leasesOf s.leases l.a l.n).map _).length ≤ 1000; rw [List.length_map]; have := hI.l; have := List.length_filter_le (fun h : Ls => inn h.a 32 l.a l.n) s.leases; unfold leasesOf; omega, fun t ht => ?_⟩
      obtain ⟨h, hh, rfl⟩ := List.mem_map.1 ht
      have := hI.la h (List.mem_filter.1 hh).1
      exact lText_len this.1 this.2
  · exact ref_ok 2 (by omega)
theorem doLn_toks (s : Bk) (l : Ln) : (doLn s l).1.toks = s.toks := by
  unfold doLn doPool doDrop doNet doBlock doFree doLease doTake doGive
  repeat' (first | rfl | split)
/-- what a command does, as doAll says it -/
def doCmd (s : Bk) (l : Ln) (line : ByteArray) : Bk × ByteArray :=
  match findT s.toks l.t with
  | some x => if x.l ≠ line then (s, ⟨(anText (ref 3)).toArray⟩) else (s, x.r)
  | none => if (doLn s l).2.e = 0 then ({ (doLn s l).1 with toks := addT (doLn s l).1.toks ⟨l.t, line, ⟨(anText (doLn s l).2).toArray⟩⟩ }, ⟨(anText (doLn s l).2).toArray⟩) else ((doLn s l).1, ⟨(anText (doLn s l).2).toArray⟩)
theorem command_any (w : World) (x : Nat) (S : Nat → Prop) (s : Bk) (l : Ln) (line : ByteArray) (E : EnvT w) (hI : Inv s) (hL : LnOk l) (hv : l.v < 11) (h : BkAt w x S s) (hG : ∀ b, S b → 10 ≤ b) (hZ : 10 ≤ w.heap.size) (hs : line.size ≤ 281474976710656) :
    Calls Tryz.prog 34 #[.pointer (some ⟨x, 0, none⟩), .agg (lnC l), .string line] w (DoR w x S (doCmd s l line)) := by
  obtain ⟨vp, vn, vl, c, B⟩ := h
  have hx := B.blk.lt
  have hS := B.sz
  have hC : BkC w x S c s := ⟨vp, vn, vl, B⟩
  have HX : ∀ W, Adm w x S c s l W → W.cell? ⟨x, 3, none⟩ = some (.chan (some c)) := fun W hA => by
    obtain ⟨_, _, _, BW⟩ := hA.1
    exact BW.blk.cell 3
  have HF : ∀ W, Adm w x S c s l W → Calls Tryz.prog 55 #[.agg #[.chan (some c)], .string l.t] W fun e w1 => e = .returned (.tuple #[vT ((findT s.toks l.t).getD tk0), .bool (findT s.toks l.t).isSome]) ∧ Adm w x S c s l w1 ∧ ∀ g cs t, Blk W g cs t → w.heap.size ≤ g → Blk w1 g cs t := fun W hA => by
    obtain ⟨wp, wn, wl, BW⟩ := hA.1
    refine (tfind_any W c s.toks l.t BW.ch hI.t).mono ?_
    rintro e w1 ⟨rfl, hch, hg⟩
    have hc : c < w.heap.size := hS c B.sc
    refine ⟨rfl, ⟨⟨wp, wn, wl, ?_⟩, hA.2.1.trans (Chg.grown (S := S) hg (fun b e => by cases e; exact B.sc)) (fun b q => .inl q), (hg.block _ hA.2.2.lt (by simp; omega)).trans hA.2.2⟩, fun g cs t hB hgw => (hg.block g hB.lt (by simp; omega)).trans hB⟩
    exact BW.toks s.toks hch hg
  have HD : ∀ W, Adm w x S c s l W → Calls Tryz.prog 35 #[.pointer (some ⟨x, 0, none⟩), .agg (lnC l)] W fun e w2 => ∃ bt nt ct, e = .returned (.agg #[.int .i64 (doLn s l).2.e, .slice bt nt ct]) ∧ AdmX w W x S l (doLn s l) (.slice bt nt ct) w2 ∧ ∀ g cs t, Blk W g cs t → w.heap.size ≤ g → Blk w2 g cs t := fun W hA => by
    refine (bookDo_any W x S s l (E.env.chg hA.2.1 hG) hI hL hA.1.bk hG (Nat.le_trans hZ hA.2.1.size) hv).mono ?_
    rintro e w2 ⟨v, S', rfl, hrd, hb, hs', hc2⟩
    obtain ⟨bt, ct, rfl, k1, k2, k3⟩ := hrd
    have hk : ∀ g cs t, Blk W g cs t → w.heap.size ≤ g → Blk w2 g cs t := fun g cs t hB hgw => (hc2.block g hB.lt (fun q => by have := hS g q; omega)).trans hB
    exact ⟨bt, _, ct, rfl, ⟨S', hb, hs', hA.2.1.trans hc2 (fun b q => .inl q), hk _ _ _ hA.2.2 (Nat.le_refl _), ⟨bt, ct, rfl, k1, k2, k3⟩⟩, hk⟩
  obtain ⟨o1, o2, o3⟩ := ans_ok hI hL
  have HTT : ∀ W bt nt ct, Chg S w W → Rd 1 encS ⟨#[]⟩ W (.slice bt nt ct) (doLn s l).2.s → Calls Tryz.prog 32 #[.agg #[.int .i64 (doLn s l).2.e, .slice bt nt ct]] W fun e w' => e = .returned (.string ⟨(anText (doLn s l).2).toArray⟩) ∧ Below W.heap.size W w' := fun W bt nt ct hc hr =>
    atext_any (doLn s l).2 o1 o2 o3 _ W (E.chg hc hG) hr
  unfold doCmd
  rcases hf : findT s.toks l.t with _ | tk
  · rw [hf] at HF
    by_cases he : (doLn s l).2.e = 0
    · dsimp only
      rw [if_pos he]
      refine cmd_done w x c S s l line tk0 (doLn s l) _ he hx hS hC HX HF HD HTT fun W c2 hch => ?_
      refine tadd_any W c2 (doLn s l).1.toks ⟨l.t, line, ⟨(anText (doLn s l).2).toArray⟩⟩ hch ?_ hs
      rw [doLn_toks]; exact hI.t
    · dsimp only
      rw [if_neg he]
      exact cmd_refused w x c S s l line tk0 (doLn s l) _ he hx hS hC HX HF HD HTT
  · rw [hf] at HF
    have hgo := cmd_found w x c S s l line tk (if tk.l ≠ line then (⟨(anText (ref 3)).toArray⟩ : ByteArray) else tk.r) hx hS hC HX HF fun W hA => again_any tk line _ W (E.chg hA.2.1 hG) rfl
    dsimp only
    split
    · rename_i q; rw [if_pos q] at hgo; exact hgo
    · rename_i q; rw [if_neg q] at hgo; exact hgo
end Go.Proofs.YtlikdnmikdldfaaGreatDoor
namespace Go.Proofs.YtlikdnmikdldfaaGreatDoor
open Go.Conc Go.ChangeShapes Go.WideShapes Go.ChangeAt Go.RowKit
set_option linter.unusedVariables false
set_option linter.unusedSimpArgs false

set_option maxRecDepth 100000 in
set_option maxHeartbeats 1000000 in
theorem ado_none (w : World) (x : Nat) (line text : ByteArray) (HR : Hid (∀ W, Below w.heap.size w W → Calls Tryz.prog 30 #[.string line] W fun e w' => e = .returned (.tuple #[.agg #[.int .i64 0, .string ⟨#[]⟩, .string ⟨#[]⟩, .int .u32 0, .int .i64 0, .int .u32 0, .int .i64 0], .bool false]) ∧ Below W.heap.size W w'))
    (HF : Hid (∀ W, Calls Tryz.prog 31 #[.int .i64 2] W fun e w' => e = .returned (.agg #[.int .i64 2, .slice none 0 0]) ∧ Below W.heap.size W w'))
    (HT : Hid (∀ W, Below w.heap.size w W → Calls Tryz.prog 32 #[.agg #[.int .i64 2, .slice none 0 0]] W fun e w' => e = .returned (.string text) ∧ Below W.heap.size W w')) :
    Calls Tryz.prog 14 #[.pointer (some ⟨x, 0, none⟩), .string line] w fun e w' => e = .returned (.string text) ∧ Below w.heap.size w w' := by
  go_enter Tryz.func14, Tryz.ntmps14
  go_wp2_with (first | (go_at_call 30; refine (HR.out _ (by repeat' (first | with_reducible assumption | with_reducible exact Below.refl _ _ | with_reducible apply Below.drew | with_reducible apply below_drewN | with_reducible apply Below.setCell | with_reducible apply Below.alloc | omega | (simp; done) | (simp; omega)))).mono ?_; rintro e w1 ⟨rfl, hq1⟩; have hb1 : Hid (Below w.heap.size w w1) := Below.trans (B := w.heap.size) (a := w) (by repeat' (first | with_reducible assumption | with_reducible exact Below.refl _ _ | with_reducible apply Below.drew | with_reducible apply below_drewN | with_reducible apply Below.setCell | with_reducible apply Below.alloc | omega | (simp; done) | (simp; omega))) (hq1.mono (by first | omega | (simp; done) | (simp; omega))); clear hq1) | (go_at_call 31; refine (HF.out _).mono ?_; rintro e w2 ⟨rfl, hq2⟩; have hb2 : Hid (Below w.heap.size w w2) := Below.trans (B := w.heap.size) (a := w) (by have hh := hb1.out; have hz := hb1.out.size; repeat' (first | with_reducible assumption | with_reducible exact Below.refl _ _ | with_reducible apply Below.drew | with_reducible apply below_drewN | with_reducible apply Below.setCell | with_reducible apply Below.alloc | omega | (simp; done) | (simp; omega))) (hq2.mono (by have hz := hb1.out.size; first | omega | (simp; omega))); clear hq2) | (go_at_call 32; refine (HT.out _ hb2.out).mono ?_; rintro e w3 ⟨rfl, hq3⟩; have hb3 : Hid (Below w.heap.size w w3) := hb2.out.trans (hq3.mono hb2.out.size); clear hq3))
  go_ret
  exact ⟨rfl, hb3.out⟩
set_option maxRecDepth 100000 in
set_option maxHeartbeats 1000000 in
theorem ado_cmd (w : World) (x : Nat) (S : Nat → Prop) (l : Ln) (line : ByteArray) (r : Bk × ByteArray) (HR : Hid (∀ W, Below w.heap.size w W → Calls Tryz.prog 30 #[.string line] W fun e w' => e = .returned (.tuple #[.agg #[.int .i64 l.v, .string l.t, .string l.o, .int .u32 l.a, .int .i64 l.n, .int .u32 l.d, .int .i64 l.g], .bool true]) ∧ Below W.heap.size W w'))
    (HI : Hid (∀ W, Calls Tryz.prog 33 #[.int .i64 l.v] W fun e w' => e = .returned (.bool true) ∧ Below W.heap.size W w'))
    (HC : Hid (∀ W, Below w.heap.size w W → Calls Tryz.prog 34 #[.pointer (some ⟨x, 0, none⟩), .agg #[.int .i64 l.v, .string l.t, .string l.o, .int .u32 l.a, .int .i64 l.n, .int .u32 l.d, .int .i64 l.g], .string line] W (DoR W x S r))) :
    Calls Tryz.prog 14 #[.pointer (some ⟨x, 0, none⟩), .string line] w (DoR w x S r) := by
  go_enter Tryz.func14, Tryz.ntmps14
  go_wp2_with (first | (go_at_call 30; refine (HR.out _ (by repeat' (first | with_reducible assumption | with_reducible exact Below.refl _ _ | with_reducible apply Below.drew | with_reducible apply below_drewN | with_reducible apply Below.setCell | with_reducible apply Below.alloc | omega | (simp; done) | (simp; omega)))).mono ?_; rintro e w1 ⟨rfl, hq1⟩; have hb1 : Hid (Below w.heap.size w w1) := Below.trans (B := w.heap.size) (a := w) (by repeat' (first | with_reducible assumption | with_reducible exact Below.refl _ _ | with_reducible apply Below.drew | with_reducible apply below_drewN | with_reducible apply Below.setCell | with_reducible apply Below.alloc | omega | (simp; done) | (simp; omega))) (hq1.mono (by first | omega | (simp; done) | (simp; omega))); clear hq1) | (go_at_call 33; refine (HI.out _).mono ?_; rintro e w2 ⟨rfl, hq2⟩; have hb2 : Hid (Below w.heap.size w w2) := Below.trans (B := w.heap.size) (a := w) (by have hh := hb1.out; have hz := hb1.out.size; repeat' (first | with_reducible assumption | with_reducible exact Below.refl _ _ | with_reducible apply Below.drew | with_reducible apply below_drewN | with_reducible apply Below.setCell | with_reducible apply Below.alloc | omega | (simp; done) | (simp; omega))) (hq2.mono (by have hz := hb1.out.size; first | omega | (simp; omega))); have L2 : Hid (Blk w2 w1.heap.size #[.int .i64 l.v, .string l.t, .string l.o, .int .u32 l.a, .int .i64 l.n, .int .u32 l.d, .int .i64 l.g] 74) := (Blk.new w1 #[.int .i64 l.v, .string l.t, .string l.o, .int .u32 l.a, .int .i64 l.n, .int .u32 l.d, .int .i64 l.g] 74).below hq2; clear hq2; have m0 : w2.cell? ⟨w1.heap.size, 0, none⟩ = some (.int .i64 l.v) := L2.out.cell 0; have m1 : w2.cell? ⟨w1.heap.size, 1, none⟩ = some (.string l.t) := L2.out.cell 1; have m2 : w2.cell? ⟨w1.heap.size, 2, none⟩ = some (.string l.o) := L2.out.cell 2; have m3 : w2.cell? ⟨w1.heap.size, 3, none⟩ = some (.int .u32 l.a) := L2.out.cell 3; have m4 : w2.cell? ⟨w1.heap.size, 4, none⟩ = some (.int .i64 l.n) := L2.out.cell 4; have m5 : w2.cell? ⟨w1.heap.size, 5, none⟩ = some (.int .u32 l.d) := L2.out.cell 5; have m6 : w2.cell? ⟨w1.heap.size, 6, none⟩ = some (.int .i64 l.g) := L2.out.cell 6; have mz := L2.out.lt) | (go_at_call 34; refine (HC.out _ hb2.out).mono ?_; rintro e w3 ⟨S', rfl, h1, h2, h3⟩; replace h1 : Hid (BkAt w3 x S' r.1) := h1; replace h2 : Hid (∀ b, S' b → S b ∨ w2.heap.size ≤ b) := h2; replace h3 : Hid (Chg S w2 w3) := h3))
  go_ret
  have hz := hb2.out.size
  exact ⟨S', rfl, h1.out, fun b q => (h2.out b q).imp id (fun k => by omega), (Chg.below (S := S) hb2.out).trans h3.out (fun b q => .inl q)⟩
set_option maxRecDepth 100000 in
set_option maxHeartbeats 1000000 in
theorem ado_ask (w : World) (x : Nat) (l : Ln) (line text : ByteArray) (k : Nat) (L : List ByteArray) (HR : Hid (∀ W, Below w.heap.size w W → Calls Tryz.prog 30 #[.string line] W fun e w' => e = .returned (.tuple #[.agg #[.int .i64 l.v, .string l.t, .string l.o, .int .u32 l.a, .int .i64 l.n, .int .u32 l.d, .int .i64 l.g], .bool true]) ∧ Below W.heap.size W w'))
    (HI : Hid (∀ W, Calls Tryz.prog 33 #[.int .i64 l.v] W fun e w' => e = .returned (.bool false) ∧ Below W.heap.size W w'))
    (HD : Hid (∀ W, Below w.heap.size w W → Calls Tryz.prog 35 #[.pointer (some ⟨x, 0, none⟩), .agg #[.int .i64 l.v, .string l.t, .string l.o, .int .u32 l.a, .int .i64 l.n, .int .u32 l.d, .int .i64 l.g]] W fun e w3 => ∃ bt nt ct, e = .returned (.agg #[.int .i64 k, .slice bt nt ct]) ∧ Rd 1 encS ⟨#[]⟩ w3 (.slice bt nt ct) L ∧ Below W.heap.size W w3))
    (HT : Hid (∀ W bt nt ct, Below w.heap.size w W → Rd 1 encS ⟨#[]⟩ W (.slice bt nt ct) L → Calls Tryz.prog 32 #[.agg #[.int .i64 k, .slice bt nt ct]] W fun e w' => e = .returned (.string text) ∧ Below W.heap.size W w')) :
    Calls Tryz.prog 14 #[.pointer (some ⟨x, 0, none⟩), .string line] w fun e w' => e = .returned (.string text) ∧ Below w.heap.size w w' := by
  go_enter Tryz.func14, Tryz.ntmps14
  go_wp2_with (first | (go_at_call 30; refine (HR.out _ (by repeat' (first | with_reducible assumption | with_reducible exact Below.refl _ _ | with_reducible apply Below.drew | with_reducible apply below_drewN | with_reducible apply Below.setCell | with_reducible apply Below.alloc | omega | (simp; done) | (simp; omega)))).mono ?_; rintro e w1 ⟨rfl, hq1⟩; have hb1 : Hid (Below w.heap.size w w1) := Below.trans (B := w.heap.size) (a := w) (by repeat' (first | with_reducible assumption | with_reducible exact Below.refl _ _ | with_reducible apply Below.drew | with_reducible apply below_drewN | with_reducible apply Below.setCell | with_reducible apply Below.alloc | omega | (simp; done) | (simp; omega))) (hq1.mono (by first | omega | (simp; done) | (simp; omega))); clear hq1) | (go_at_call 33; refine (HI.out _).mono ?_; rintro e w2 ⟨rfl, hq2⟩; have hb2 : Hid (Below w.heap.size w w2) := Below.trans (B := w.heap.size) (a := w) (by have hh := hb1.out; have hz := hb1.out.size; repeat' (first | with_reducible assumption | with_reducible exact Below.refl _ _ | with_reducible apply Below.drew | with_reducible apply below_drewN | with_reducible apply Below.setCell | with_reducible apply Below.alloc | omega | (simp; done) | (simp; omega))) (hq2.mono (by have hz := hb1.out.size; first | omega | (simp; omega))); have L2 : Hid (Blk w2 w1.heap.size #[.int .i64 l.v, .string l.t, .string l.o, .int .u32 l.a, .int .i64 l.n, .int .u32 l.d, .int .i64 l.g] 74) := (Blk.new w1 #[.int .i64 l.v, .string l.t, .string l.o, .int .u32 l.a, .int .i64 l.n, .int .u32 l.d, .int .i64 l.g] 74).below hq2; clear hq2; have m0 : w2.cell? ⟨w1.heap.size, 0, none⟩ = some (.int .i64 l.v) := L2.out.cell 0; have m1 : w2.cell? ⟨w1.heap.size, 1, none⟩ = some (.string l.t) := L2.out.cell 1; have m2 : w2.cell? ⟨w1.heap.size, 2, none⟩ = some (.string l.o) := L2.out.cell 2; have m3 : w2.cell? ⟨w1.heap.size, 3, none⟩ = some (.int .u32 l.a) := L2.out.cell 3; have m4 : w2.cell? ⟨w1.heap.size, 4, none⟩ = some (.int .i64 l.n) := L2.out.cell 4; have m5 : w2.cell? ⟨w1.heap.size, 5, none⟩ = some (.int .u32 l.d) := L2.out.cell 5; have m6 : w2.cell? ⟨w1.heap.size, 6, none⟩ = some (.int .i64 l.g) := L2.out.cell 6; have mz := L2.out.lt))
  go_region_held3 (fun w' => w'.cell? ⟨w1.heap.size, 0, none⟩ = some (.int .i64 l.v) ∧ w'.cell? ⟨w1.heap.size, 1, none⟩ = some (.string l.t) ∧ w'.cell? ⟨w1.heap.size, 2, none⟩ = some (.string l.o) ∧ w'.cell? ⟨w1.heap.size, 3, none⟩ = some (.int .u32 l.a) ∧ w'.cell? ⟨w1.heap.size, 4, none⟩ = some (.int .i64 l.n) ∧ w'.cell? ⟨w1.heap.size, 5, none⟩ = some (.int .u32 l.d) ∧ w'.cell? ⟨w1.heap.size, 6, none⟩ = some (.int .i64 l.g)) (go_keep) (first | (go_at_call 35; refine (HD.out _ (by have hh := hb2.out; have hz := hb2.out.size; repeat' (first | with_reducible assumption | with_reducible exact Below.refl _ _ | with_reducible apply Below.drew | with_reducible apply below_drewN | with_reducible apply Below.setCell | with_reducible apply Below.alloc | omega | (simp; done) | (simp; omega)))).mono ?_; rintro e w3 ⟨bt, nt, ct, rfl, hr3, hq3⟩; have hb3 : Hid (Below w.heap.size w w3) := Below.trans (B := w.heap.size) (a := w) (by have hh := hb2.out; have hz := hb2.out.size; repeat' (first | with_reducible assumption | with_reducible exact Below.refl _ _ | with_reducible apply Below.drew | with_reducible apply below_drewN | with_reducible apply Below.setCell | with_reducible apply Below.alloc | omega | (simp; done) | (simp; omega))) (hq3.mono (by have hz := hb2.out.size; first | omega | (simp; omega))); have L3 : Hid (Blk w3 w1.heap.size #[.int .i64 l.v, .string l.t, .string l.o, .int .u32 l.a, .int .i64 l.n, .int .u32 l.d, .int .i64 l.g] 74) := (hq3.block w1.heap.size (by first | exact L2.out.lt | (simp; exact L2.out.lt))).trans L2.out; clear hq3; replace hr3 : Hid (Rd 1 encS ⟨#[]⟩ w3 (.slice bt nt ct) L) := hr3; have n0 : w3.cell? ⟨w1.heap.size, 0, none⟩ = some (.int .i64 l.v) := L3.out.cell 0; have n1 : w3.cell? ⟨w1.heap.size, 1, none⟩ = some (.string l.t) := L3.out.cell 1; have n2 : w3.cell? ⟨w1.heap.size, 2, none⟩ = some (.string l.o) := L3.out.cell 2; have n3 : w3.cell? ⟨w1.heap.size, 3, none⟩ = some (.int .u32 l.a) := L3.out.cell 3; have n4 : w3.cell? ⟨w1.heap.size, 4, none⟩ = some (.int .i64 l.n) := L3.out.cell 4; have n5 : w3.cell? ⟨w1.heap.size, 5, none⟩ = some (.int .u32 l.d) := L3.out.cell 5; have n6 : w3.cell? ⟨w1.heap.size, 6, none⟩ = some (.int .i64 l.g) := L3.out.cell 6) | (go_at_call 32; refine (HT.out _ bt nt ct hb3.out hr3.out).mono ?_; rintro e w4 ⟨rfl, hq4⟩; have hb4 : Hid (Below w.heap.size w w4) := hb3.out.trans (hq4.mono hb3.out.size); have L4 : Hid (Blk w4 w1.heap.size #[.int .i64 l.v, .string l.t, .string l.o, .int .u32 l.a, .int .i64 l.n, .int .u32 l.d, .int .i64 l.g] 74) := L3.out.below hq4; clear hq4; have o0 : w4.cell? ⟨w1.heap.size, 0, none⟩ = some (.int .i64 l.v) := L4.out.cell 0; have o1 : w4.cell? ⟨w1.heap.size, 1, none⟩ = some (.string l.t) := L4.out.cell 1; have o2 : w4.cell? ⟨w1.heap.size, 2, none⟩ = some (.string l.o) := L4.out.cell 2; have o3 : w4.cell? ⟨w1.heap.size, 3, none⟩ = some (.int .u32 l.a) := L4.out.cell 3; have o4 : w4.cell? ⟨w1.heap.size, 4, none⟩ = some (.int .i64 l.n) := L4.out.cell 4; have o5 : w4.cell? ⟨w1.heap.size, 5, none⟩ = some (.int .u32 l.d) := L4.out.cell 5; have o6 : w4.cell? ⟨w1.heap.size, 6, none⟩ = some (.int .i64 l.g) := L4.out.cell 6))
  all_goals (
    go_wp2
    go_ret
    exact ⟨rfl, hb4.out⟩)
end Go.Proofs.YtlikdnmikdldfaaGreatDoor
namespace Go.Proofs.YtlikdnmikdldfaaGreatDoor
open Go.Conc Go.ChangeShapes Go.WideShapes Go.ChangeAt Go.RowKit
set_option linter.unusedVariables false
set_option linter.unusedSimpArgs false

theorem addT_len {l : List Tk} (x : Tk) (h : l.length ≤ 8) : (addT l x).length ≤ 8 := by
  unfold addT
  split <;> simp <;> omega
theorem inv_toks {s : Bk} (h : Inv s) {T : List Tk} (hT : T.length ≤ 8) : Inv { s with toks := T } := ⟨h.p, h.n, h.l, hT, h.pa, h.na, h.la, h.pu, h.nu, h.lu⟩
theorem inv_all {s : Bk} (hI : Inv s) (line : ByteArray) : Inv (doAll s line).1 := by
  unfold doAll
  rcases e : rdLine line.data.toList with _ | l
  · exact hI
  · have hn := inv_ln hI (rdLine_ok e).1
    dsimp only
    split
    · split
      · split <;> exact hI
      · split
        · exact inv_toks hn (addT_len _ hn.t)
        · exact hn
    · exact hn
/-- what holds of every book that is met -/
def Ok (s : Bk) : Prop := Inv s ∧ Good s
theorem bk0_ok : Ok bk0 := ⟨⟨by simp [bk0], by simp [bk0], by simp [bk0], by simp [bk0], by simp [bk0], by simp [bk0], by simp [bk0], fun j k h1 h2 => by simp [bk0] at h2, fun j k h1 h2 => by simp [bk0] at h2, fun j k h1 h2 => by simp [bk0] at h2⟩, bk0_good⟩
theorem ok_all {s : Bk} (h : Ok s) (line : ByteArray) : Ok (doAll s line).1 := ⟨inv_all h.1 line, good_all h.2 line⟩
theorem doAll_cmd {s : Bk} {line : ByteArray} {l : Ln} (e : rdLine line.data.toList = some l) (hv : l.v < 8) : doAll s line = doCmd s l line := by
  unfold doAll doCmd
  rw [e]
  dsimp only
  rw [if_pos hv]
  rfl
theorem doAll_ask {s : Bk} {line : ByteArray} {l : Ln} (e : rdLine line.data.toList = some l) (hv : ¬ l.v < 8) : doAll s line = ((doLn s l).1, ⟨(anText (doLn s l).2).toArray⟩) := by
  unfold doAll
  rw [e]
  dsimp only
  rw [if_neg hv]
theorem doAll_none {s : Bk} {line : ByteArray} (e : rdLine line.data.toList = none) : doAll s line = (s, ⟨(anText (ref 2)).toArray⟩) := by
  unfold doAll
  rw [e]
theorem ask_same {s : Bk} {l : Ln} (h8 : ¬ l.v < 8) (hv : l.v < 11) : (doLn s l).1 = s := by
  have hc : l.v = 8 ∨ l.v = 9 ∨ l.v = 10 := by omega
  unfold doLn
  rcases hc with e | e | e <;> rw [e] <;> rfl
theorem hread {line : ByteArray} (w : World) (E : EnvT w) (hZ : 10 ≤ w.heap.size) : ∀ W, Below w.heap.size w W → Calls Tryz.prog 30 #[.string line] W fun e w' => e = .returned (.tuple #[.agg (lnC (rlC line)), .bool (rlOk line)]) ∧ Below W.heap.size W w' := fun W hW => lread_any line W (E.mono hW) (Nat.le_trans hZ hW.size)
/-- a line that is none, and a question: nothing is written -/
theorem ado_still (w : World) (x : Nat) (S : Nat → Prop) (s : Bk) (line : ByteArray) (E : EnvT w) (hI : Inv s) (h : BkAt w x S s) (hG : ∀ b, S b → 10 ≤ b) (hZ : 10 ≤ w.heap.size) (hq : ∀ l, rdLine line.data.toList = some l → ¬ l.v < 8) :
    Calls Tryz.prog 14 #[.pointer (some ⟨x, 0, none⟩), .string line] w fun e w' => e = .returned (.string (doAll s line).2) ∧ (doAll s line).1 = s ∧ Below w.heap.size w w' := by
  have HR := hread (line := line) w E hZ
  rcases e : rdLine line.data.toList with _ | l
  · rw [doAll_none e]
    have e1 : rlC line = ln0 0 := by unfold rlC; rw [e]; rfl
    have e2 : rlOk line = false := by unfold rlOk; rw [e]; rfl
    rw [e1, e2] at HR
    refine (ado_none w x line _ HR (fun W => refuse_any 2 W) (fun W hW => reftext_any 2 (by omega) W (E.mono hW))).mono ?_
    rintro e w' ⟨rfl, hb⟩
    exact ⟨rfl, rfl, hb⟩
  · have hv := hq l e
    obtain ⟨hL, h11⟩ := rdLine_ok e
    rw [doAll_ask e hv]
    have e1 : rlC line = l := by unfold rlC; rw [e]; rfl
    have e2 : rlOk line = true := by unfold rlOk; rw [e]; rfl
    rw [e1, e2] at HR
    obtain ⟨o1, o2, o3⟩ := ans_ok hI hL
    refine (ado_ask w x l line ⟨(anText (doLn s l).2).toArray⟩ (doLn s l).2.e (doLn s l).2.s HR (fun W => ?_) (fun W hW => ?_) (fun W bt nt ct hW hr => atext_any (doLn s l).2 o1 o2 o3 _ W (E.mono hW) hr)).mono ?_
    · have h := isCmd_any l.v W
      rw [decide_eq_false (by omega)] at h
      exact h
    · refine (bookAsk_any W x S s l (E.env.mono hW) hI hL (h.below hW) hG (Nat.le_trans hZ hW.size) (by omega) h11).mono ?_
      rintro e w3 ⟨⟨v, S', rfl, hrd, _⟩, hb⟩
      obtain ⟨bt, ct, rfl, k⟩ := hrd
      exact ⟨bt, _, ct, rfl, ⟨bt, ct, rfl, k⟩, hb⟩
    · rintro e w' ⟨rfl, hb⟩
      exact ⟨rfl, ask_same hv h11, hb⟩
/-- whatever the line is -/
theorem ado_any (w : World) (x : Nat) (S : Nat → Prop) (s : Bk) (line : ByteArray) (E : EnvT w) (hI : Inv s) (h : BkAt w x S s) (hG : ∀ b, S b → 10 ≤ b) (hZ : 10 ≤ w.heap.size) :
    Calls Tryz.prog 14 #[.pointer (some ⟨x, 0, none⟩), .string line] w (DoR w x S (doAll s line)) := by
  by_cases hq : ∀ l, rdLine line.data.toList = some l → ¬ l.v < 8
  · refine (ado_still w x S s line E hI h hG hZ hq).mono ?_
    rintro e w' ⟨rfl, hs, hb⟩
    exact ⟨S, rfl, by rw [hs]; exact h.below hb, fun b q => .inl q, Chg.below hb⟩
  · obtain ⟨l, e, hv⟩ : ∃ l, rdLine line.data.toList = some l ∧ l.v < 8 := by
      rcases e : rdLine line.data.toList with _ | l
      · exact absurd (fun l hl => by rw [e] at hl; cases hl) hq
      · by_cases hv : l.v < 8
        · exact ⟨l, rfl, hv⟩
        · exact absurd (fun l' hl => by rw [e] at hl; cases hl; exact hv) hq
    obtain ⟨hL, h11⟩ := rdLine_ok e
    rw [doAll_cmd e hv]
    have HR := hread (line := line) w E hZ
    have e1 : rlC line = l := by unfold rlC; rw [e]; rfl
    have e2 : rlOk line = true := by unfold rlOk; rw [e]; rfl
    rw [e1, e2] at HR
    have hs : line.size ≤ 100 := by
      have := Lib.size_eq line
      unfold rdLine at e
      split at e
      · omega
      · cases e
    refine ado_cmd w x S l line _ HR (fun W => ?_) (fun W hW => command_any W x S s l line (E.mono hW) hI hL h11 (h.below hW) hG (Nat.le_trans hZ hW.size) (by omega))
    have h := isCmd_any l.v W
    rw [decide_eq_true (by omega)] at h
    exact h
end Go.Proofs.YtlikdnmikdldfaaGreatDoor
namespace Go.Proofs.YtlikdnmikdldfaaGreatDoor
open Go.Conc Go.ChangeShapes Go.WideShapes Go.ChangeAt Go.RowKit
set_option linter.unusedVariables false
set_option linter.unusedSimpArgs false

/-- the book x is s; its blocks, and all that changed since w0, were made since w0; K: blocks of others that stay -/
def HB (w0 : World) (K : Nat → Prop) (x : Nat) (s : Bk) (W : World) : Prop := ∃ S, BkAt W x S s ∧ (∀ b, S b → w0.heap.size ≤ b ∧ ¬ K b) ∧ Below w0.heap.size w0 W
theorem HB.low {w0 W : World} {K : Nat → Prop} {x : Nat} {s : Bk} (h : HB w0 K x s W) : Below w0.heap.size w0 W := by obtain ⟨S, _, _, h⟩ := h; exact h
theorem HB.below {w0 W W' : World} {K : Nat → Prop} {x : Nat} {s : Bk} (h : HB w0 K x s W) (hb : Below W.heap.size W W') : HB w0 K x s W' := by
  obtain ⟨S, h1, h2, h3⟩ := h
  exact ⟨S, h1.below hb, h2, h3.trans (hb.mono h3.size)⟩
/-- other blocks may be kept, if they were made by now -/
theorem HB.keep {w0 W W' : World} {K : Nat → Prop} {x : Nat} {s : Bk} (K' : Nat → Prop) (h : HB w0 K x s W) (hb : Below W.heap.size W W') (hK : ∀ b, K' b → K b ∨ W.heap.size ≤ b) : HB w0 K' x s W' := by
  obtain ⟨S, h1, h2, h3⟩ := h
  refine ⟨S, h1.below hb, fun b q => ⟨(h2 b q).1, fun k => ?_⟩, h3.trans (hb.mono h3.size)⟩
  rcases hK b k with e | e
  · exact (h2 b q).2 e
  · have := h1.lt b q; omega
theorem HB.drew {w0 W : World} {K : Nat → Prop} {x : Nat} {s : Bk} (h : HB w0 K x s W) : HB w0 K x s W.drew := h.below (Below.drew (Below.refl _ _))
theorem HB.alloc {w0 W : World} {K : Nat → Prop} {x : Nat} {s : Bk} {o : Obj} (h : HB w0 K x s W) : HB w0 K x s (W.alloc o) := h.below (Below.alloc (Below.refl _ _) (Nat.le_refl _) _)
theorem hb_do (w0 : World) (K : Nat → Prop) (x : Nat) (s : Bk) (line : ByteArray) (E : EnvT w0) (hZ : 10 ≤ w0.heap.size) (hI : Inv s) (W : World) (h : HB w0 K x s W) (hK : ∀ b, K b → b < W.heap.size) :
    Calls Tryz.prog 14 #[.pointer (some ⟨x, 0, none⟩), .string line] W fun e W' => e = .returned (.string (doAll s line).2) ∧ HB w0 K x (doAll s line).1 W' ∧ (∀ b, K b → W'.heap[b]? = W.heap[b]?) ∧ W.heap.size ≤ W'.heap.size := by
  obtain ⟨S, h1, h2, h3⟩ := h
  refine (ado_any W x S s line (E.mono h3) hI h1 (fun b q => Nat.le_trans hZ (h2 b q).1) (Nat.le_trans hZ h3.size)).mono ?_
  rintro e W' ⟨S', rfl, b1, b2, b3⟩
  refine ⟨rfl, ⟨S', b1, fun b q => ?_, ?_⟩, fun b k => b3.block b (hK b k) (fun q => (h2 b q).2 k), b3.size⟩
  · rcases b2 b q with e | e
    · exact h2 b e
    · have := h3.size
      exact ⟨by omega, fun k => by have := hK b k; omega⟩
  · exact h3.trans ⟨b3.os, b3.tape, b3.output, b3.size, fun b hb => b3.block b (Nat.lt_of_lt_of_le hb h3.size) (fun q => by have := (h2 b q).1; omega)⟩
/-- a question, or no line -/
theorem hb_ask (w0 : World) (K : Nat → Prop) (x : Nat) (s : Bk) (line : ByteArray) (E : EnvT w0) (hZ : 10 ≤ w0.heap.size) (hI : Inv s) (hq : ∀ l, rdLine line.data.toList = some l → ¬ l.v < 8) (W : World) (h : HB w0 K x s W) :
    Calls Tryz.prog 14 #[.pointer (some ⟨x, 0, none⟩), .string line] W fun e W' => e = .returned (.string (doAll s line).2) ∧ Below W.heap.size W W' := by
  obtain ⟨S, h1, h2, h3⟩ := h
  refine (ado_still W x S s line (E.mono h3) hI h1 (fun b q => Nat.le_trans hZ (h2 b q).1) (Nat.le_trans hZ h3.size) hq).mono ?_
  rintro e W' ⟨rfl, _, hb⟩
  exact ⟨rfl, hb⟩
set_option maxRecDepth 100000 in
set_option maxHeartbeats 400000 in
theorem dnew_any (w : World) : Calls Tryz.prog 25 #[] w fun e w' => ∃ d, e = .returned (.pointer (some ⟨d, 0, none⟩)) ∧ Below w.heap.size w w' := by
  go_enter Tryz.func25, Tryz.ntmps25
  go_wp2
  go_returns
  exact ⟨_, rfl, (by repeat' (first | with_reducible assumption | with_reducible exact Below.refl _ _ | with_reducible apply Below.drew | with_reducible apply below_drewN | with_reducible apply Below.setCell | with_reducible apply Below.alloc | omega | (simp; done) | (simp; omega)))⟩
set_option maxRecDepth 100000 in
set_option maxHeartbeats 400000 in
/-- a book of a new disk -/
theorem opened_any (w0 w : World) (h : Below w0.heap.size w0 w) : Calls Tryz.prog 9 #[] w fun e w' => ∃ x d, e = .returned (.tuple #[.pointer (some ⟨x, 0, none⟩), .pointer (some ⟨d, 0, none⟩)]) ∧ HB w0 (fun _ => False) x bk0 w' ∧ Below w.heap.size w w' := by
  have HN : Hid (∀ W, Calls Tryz.prog 25 #[] W fun e w' => ∃ d, e = .returned (.pointer (some ⟨d, 0, none⟩)) ∧ Below W.heap.size W w') := fun W => dnew_any W
  have HO : Hid (∀ d W, Calls Tryz.prog 26 #[d] W fun e w' => ∃ x S, e = .returned (.tuple #[.pointer (some ⟨x, 0, none⟩), .int .i64 0]) ∧ BkAt w' x S bk0 ∧ (∀ b, S b → W.heap.size ≤ b) ∧ Below W.heap.size W w') := fun d W => open_any d W
  have H0 : Hid (Below w0.heap.size w0 w) := h
  clear h
  go_enter Tryz.func9, Tryz.ntmps9
  go_wp2_with (first | (go_at_call 25; refine (HN.out _).mono ?_; rintro e w1 ⟨d, rfl, hq1⟩; replace hq1 : Hid (Below w.heap.size w w1) := hq1) | (go_at_call 26; refine (HO.out _ _).mono ?_; rintro e w2 ⟨x, S, rfl, hbk, hS, hq2⟩; replace hbk : Hid (BkAt w2 x S bk0) := hbk; replace hS : Hid (∀ b, S b → w1.heap.size ≤ b) := hS; replace hq2 : Hid (Below w1.heap.size w1 w2) := hq2))
  have hb2 := hq1.out.trans (hq2.out.mono hq1.out.size)
  have hz := H0.out.size
  have hz1 := hq1.out.size
  have hfin : ∃ x' d', Ending.returned (Value.tuple #[.pointer (some ⟨x, 0, none⟩), .pointer (some ⟨d, 0, none⟩)]) = Ending.returned (.tuple #[.pointer (some ⟨x', 0, none⟩), .pointer (some ⟨d', 0, none⟩)]) ∧ HB w0 (fun _ => False) x' bk0 w2 ∧ Below w.heap.size w w2 :=
    ⟨x, d, rfl, ⟨S, hbk.out, fun b q => ⟨by have := hS.out b q; omega, fun k => k⟩, H0.out.trans (hb2.mono hz)⟩, hb2⟩
  exact bodyPost_ret (v := .tuple #[.pointer (some ⟨x, 0, none⟩), .pointer (some ⟨d, 0, none⟩)]) (by simp [results, Tryz.results9]) rfl hfin
end Go.Proofs.YtlikdnmikdldfaaGreatDoor
namespace Go.Proofs.YtlikdnmikdldfaaGreatDoor
open Go.Conc Go.ChangeShapes Go.WideShapes Go.ChangeAt Go.RowKit
set_option linter.unusedVariables false
set_option linter.unusedSimpArgs false

theorem eq_cut {a b : List UInt8} (h : (61 : UInt8) ∉ a) : eqA (a ++ 61 :: b) = a ∧ eqB (a ++ 61 :: b) = b ∧ hasEq (a ++ 61 :: b) = true := by
  have e : eqA (a ++ 61 :: b) = a := by
    unfold eqA
    rw [List.takeWhile_append_of_pos (by intro c hc; simp; intro q; exact h (q ▸ hc)), List.takeWhile_cons_of_neg (by simp)]
    simp
  refine ⟨e, ?_, ?_⟩
  · unfold eqB; rw [e]; simp
  · unfold hasEq; rw [e]; simp
theorem ent_h (l : List Hd) (ho : ∀ h, h ∈ l → isName h.o.data.toList = true) : entL (ansT (l.map hText)) = some (l.map fun h => (bText h.a h.n, h.o.data.toList)) := by
  have hc : ∀ h : Hd, eqA (hText h) = bText h.a h.n ∧ eqB (hText h) = h.o.data.toList ∧ hasEq (hText h) = true := fun h => eq_cut (wr_no 61 (by decide) _ _)
  unfold entL
  rw [parts_ans _ (hTs_no ho)]
  simp only [if_true]
  rw [if_pos (List.all_eq_true.2 fun y hy => by obtain ⟨h, _, rfl⟩ := List.mem_map.1 hy; exact (hc h).2.2)]
  unfold entsOf
  rw [List.map_map]
  congr 1
  exact List.map_congr_left fun h _ => by simp [(hc h).1, (hc h).2.1]
theorem ent_l (l : List Ls) (ho : ∀ h, h ∈ l → isName h.o.data.toList = true) : entL (ansT (l.map lText)) = some (l.map fun h => (dot h.a.toNat, h.o.data.toList)) := by
  have hc : ∀ h : Ls, eqA (lText h) = dot h.a.toNat ∧ eqB (lText h) = h.o.data.toList ∧ hasEq (lText h) = true := fun h => eq_cut (dot_no 61 (by decide) _)
  unfold entL
  rw [parts_ans _ (lTs_no ho)]
  simp only [if_true]
  rw [if_pos (List.all_eq_true.2 fun y hy => by obtain ⟨h, _, rfl⟩ := List.mem_map.1 hy; exact (hc h).2.2)]
  unfold entsOf
  rw [List.map_map]
  congr 1
  exact List.map_congr_left fun h _ => by simp [(hc h).1, (hc h).2.1]
/-- the questions -/
theorem ask_pools (s : Bk) : doAll s (bs (verb 8)) = (s, bs (poolsT s)) := by
  have e := read_pools
  rw [doAll_ask (l := ln0 8) (by rw [bs_data]; exact e) (by show ¬ 8 < 8; omega)]
  show (s, (⟨(anText ⟨0, s.pools.map fun h => ⟨(hText h).toArray⟩⟩).toArray⟩ : ByteArray)) = _
  rw [anText_ok hText]; rfl
theorem find_in {l : List Hd} {h : Hd} (hh : h ∈ l) : ¬ findH l h.a h.n < 0 := by
  unfold findH
  rcases fi_cases (isH h.a h.n) l hd0 with ⟨_, q⟩ | ⟨k, _, e, _⟩
  · have := q h hh; simp [isH] at this
  · rw [e]; omega
theorem ask_nets {s : Bk} (G : Good s) {p : Hd} (hp : p ∈ s.pools) : doAll s (bs (verb 9 ++ 32 :: bText p.a p.n)) = (s, bs (netsT s p)) := by
  obtain ⟨h0, h1, hr⟩ := G.pr p hp
  have e := read_ask (k := 9) (a := p.a) (n := p.n) (by omega) h0 h1 hr
  rw [doAll_ask (l := lnB 9 [] [] p.a p.n) (by rw [bs_data]; exact e) (by show ¬ 9 < 8; omega)]
  show (s, (⟨(anText (doNets s (lnB 9 [] [] p.a p.n))).toArray⟩ : ByteArray)) = _
  have e2 : doNets s (lnB 9 [] [] p.a p.n) = ⟨0, (netsOf s.nets p.a p.n).map fun h => ⟨(hText h).toArray⟩⟩ := if_neg (find_in hp)
  rw [e2, anText_ok hText]; rfl
theorem ask_used {s : Bk} (G : Good s) {p : Hd} (hp : p ∈ s.nets) : doAll s (bs (verb 10 ++ 32 :: bText p.a p.n)) = (s, bs (usedT s p)) := by
  obtain ⟨h0, h1, hr, _⟩ := G.nr p hp
  have e := read_ask (k := 10) (a := p.a) (n := p.n) (by omega) h0 h1 hr
  rw [doAll_ask (l := lnB 10 [] [] p.a p.n) (by rw [bs_data]; exact e) (by show ¬ 10 < 8; omega)]
  show (s, (⟨(anText (doUsed s (lnB 10 [] [] p.a p.n))).toArray⟩ : ByteArray)) = _
  have e2 : doUsed s (lnB 10 [] [] p.a p.n) = ⟨0, (leasesOf s.leases p.a p.n).map fun h => ⟨(lText h).toArray⟩⟩ := if_neg (find_in hp)
  rw [e2, anText_ok lText]; rfl
end Go.Proofs.YtlikdnmikdldfaaGreatDoor
namespace Go.Proofs.YtlikdnmikdldfaaGreatDoor
open Go.Conc Go.ChangeShapes Go.WideShapes Go.ChangeAt Go.RowKit
set_option linter.unusedVariables false
set_option linter.unusedSimpArgs false

theorem owns_other {W W' : World} {B B' : Nat} {t t' : TypeId} {k k' : Nat} {v v' : Value} {n n' : Nat} {xs xs' : List Value} (h : W.ownsRow B t k v n xs) (h' : W.ownsRow B' t' k' v' n' xs') (ht : t ≠ t') (g : W.grownBy W' v'.ownBlock) : W'.ownsRow B t k v n xs :=
  owns_same h fun b e => by
    obtain ⟨b1, c1, e1⟩ := owns_lt h b e
    refine g.block b b1 fun q => ?_
    obtain ⟨_, c2, e2⟩ := owns_lt h' b q.symm
    rw [e1] at e2
    injection e2 with e2
    injection e2 with _ e3 _
    exact ht e3
theorem owns_ent {W : World} {B : Nat} {t : TypeId} {v : Value} {l : List (List UInt8 × List UInt8)} (h : W.ownsRow B t 2 v l.length (l.flatMap encE)) (k : Nat) (hk : k < l.length) : ∃ g cap, v = .slice (some ⟨g, 0, none⟩) l.length cap ∧ W.cell? ⟨g, k * 2, none⟩ = some (.string (bs (l.getD k ([], [])).1)) := by
  obtain ⟨b, cap, rfl, _, _, h3⟩ := Rd.of_owns (k := 2) (enc := encE) (fun _ => rfl) ([], []) h
  obtain ⟨g, rfl, _, h4⟩ := h3 (by intro q; rw [q] at hk; simp at hk)
  have := h4 k hk 0 _ rfl
  exact ⟨g, cap, rfl, this⟩
def strV (F : List ByteArray) : List Value := F.map Value.string
theorem strV_snoc (F : List ByteArray) (s : ByteArray) : strV (F ++ [s]) = strV F ++ [.string s] := by unfold strV; simp
def tolG (N : Nat → ByteArray) (n : Nat → Nat) (U : Nat → Nat → ByteArray) (i : Nat) : List ByteArray := N i :: (List.range (n i)).map (U i)
def tolF (P0 : ByteArray) (N : Nat → ByteArray) (n : Nat → Nat) (U : Nat → Nat → ByteArray) (k : Nat) : List ByteArray := P0 :: (List.range k).flatMap (tolG N n U)
theorem tolF_len (P0 : ByteArray) (N : Nat → ByteArray) (n : Nat → Nat) (U : Nat → Nat → ByteArray) (h : ∀ i, n i ≤ 10000) (k : Nat) : (tolF P0 N n U k).length ≤ 1 + k * 10001 := by
  induction k with
  | zero => simp [tolF]
  | succ k ih =>
    unfold tolF tolG at *
    rw [List.range_succ, List.flatMap_append]
    have := h k
    simp at ih ⊢
    omega
theorem tolF_next (P0 : ByteArray) (N : Nat → ByteArray) (n : Nat → Nat) (U : Nat → Nat → ByteArray) (k : Nat) : tolF P0 N n U (k + 1) = tolF P0 N n U k ++ [N k] ++ (List.range (n k)).map (U k) := by
  unfold tolF tolG
  rw [List.range_succ, List.flatMap_append]
  simp
set_option maxRecDepth 100000 in
set_option maxHeartbeats 1000000 in
theorem told_go (x : Nat) (I : World → Prop) (hI : Hid (∀ W W', I W → Below W.heap.size W W' → I W')) (w : World) (h : Hid (I w)) (P0 : ByteArray) (p : List (List UInt8 × List UInt8)) (N : Nat → ByteArray) (n : Nat → List (List UInt8 × List UInt8)) (U : Nat → Nat → ByteArray) (lp : Nat) (hp : Hid (lp = p.length)) (hp6 : lp ≤ 10000) (hn6 : Hid (∀ i, (n i).length ≤ 10000)) (hs6 : Hid (∀ i, ((p.getD i ([], [])).1).length ≤ 1000)) (ht6 : Hid (∀ i j, (((n i).getD j ([], [])).1).length ≤ 1000))
    (HA : Hid (∀ W, I W → Calls Tryz.prog 14 #[.pointer (some ⟨x, 0, none⟩), .string ⟨#[80, 79, 79, 76, 83]⟩] W fun e w' => e = .returned (.string P0) ∧ Below W.heap.size W w'))
    (HN : Hid (∀ i, i < lp → ∀ W, I W → Calls Tryz.prog 14 #[.pointer (some ⟨x, 0, none⟩), .string (⟨#[78, 69, 84, 83, 32]⟩ ++ bs (p.getD i ([], [])).1)] W fun e w' => e = .returned (.string (N i)) ∧ Below W.heap.size W w'))
    (HU : Hid (∀ i, i < lp → ∀ j, j < (n i).length → ∀ W, I W → Calls Tryz.prog 14 #[.pointer (some ⟨x, 0, none⟩), .string (⟨#[85, 83, 69, 68, 32]⟩ ++ bs ((n i).getD j ([], [])).1)] W fun e w' => e = .returned (.string (U i j)) ∧ Below W.heap.size W w'))
    (HE0 : Hid (∀ W, Calls Tryz.prog 27 #[.string P0] W fun e w' => ∃ b c, e = .returned (.tuple #[.slice b lp c, .bool true]) ∧ w'.ownsRow W.heap.size 67 2 (.slice b lp c) p.length (p.flatMap encE) ∧ Below W.heap.size W w'))
    (HE1 : Hid (∀ i, i < lp → ∀ W, Calls Tryz.prog 27 #[.string (N i)] W fun e w' => ∃ b c, e = .returned (.tuple #[.slice b (n i).length c, .bool true]) ∧ w'.ownsRow W.heap.size 67 2 (.slice b (n i).length c) (n i).length ((n i).flatMap encE) ∧ Below W.heap.size W w'))
    (HE2 : Hid (∀ i, i < lp → ∀ j, j < (n i).length → ∀ W, Calls Tryz.prog 27 #[.string (U i j)] W fun e w' => ∃ v, e = .returned (.tuple #[v, .bool true]) ∧ Below W.heap.size W w')) :
    Calls Tryz.prog 11 #[.pointer (some ⟨x, 0, none⟩)] w fun e w' => ∃ v, e = .returned (.tuple #[v, .bool true]) ∧ w'.ownsRow w.heap.size 9 1 v (tolF P0 N (fun i => (n i).length) U lp).length (strV (tolF P0 N (fun i => (n i).length) U lp)) ∧ Below w.heap.size w w' := by
  obtain ⟨i0, hi, hz0, hz1, hz2⟩ := info_parts infoStr
  obtain ⟨F, hF⟩ : ∃ F, F = tolF P0 N (fun i => (n i).length) U := ⟨_, rfl⟩
  have hFl : Hid (∀ k, k ≤ lp → (F k).length ≤ 200000000) := fun k hk => by
    have := tolF_len P0 N (fun i => (n i).length) U hn6.out k
    rw [hF]; omega
  have hFn : Hid (∀ k, F (k + 1) = F k ++ [N k] ++ (List.range (n k).length).map (U k)) := fun k => by rw [hF]; exact tolF_next _ _ _ _ _
  have hF0 : Hid (F 0 = [P0]) := by rw [hF]; rfl
  rw [← hF]
  clear hF
  go_enter Tryz.func11, Tryz.ntmps11
  go_wp2_with (first | (go_at_call 14; refine (HA.out _ h.out).mono ?_; rintro e w1 ⟨rfl, hq1⟩; replace hq1 : Hid (Below w.heap.size w w1) := hq1) | (go_at_call 27; refine (HE0.out _).mono ?_; rintro e w2 ⟨b, c, rfl, hr2, hq2⟩; replace hr2 : Hid _ := hr2; replace hq2 : Hid _ := hq2))
  have hz : w.heap.size ≤ w1.heap.size := hq1.out.size
  have ho1 : (w1.alloc (.cells #[.string P0] 9)).ownsRow w.heap.size 9 1 (.slice (some ⟨w1.heap.size, 0, none⟩) 1 1) (F 0).length (strV (F 0)) := by
    rw [hF0.out]
    exact ⟨rfl, .inr ⟨w1.heap.size, 1, #[.string P0], rfl, hz, heap_alloc_new w1 _, Nat.le_refl _, by decide, rfl, rfl⟩⟩
  have hb1 : Below w.heap.size w (w1.alloc (.cells #[.string P0] 9)) := hq1.out.alloc hz _
  have HS : Hid (w2.ownsRow w.heap.size 9 1 (.slice (some ⟨w1.heap.size, 0, none⟩) 1 1) (F 0).length (strV (F 0)) ∧ w2.ownsRow w.heap.size 67 2 (.slice b lp c) p.length (p.flatMap encE) ∧ Below w.heap.size w w2 ∧ I w2) :=
    ⟨owns_below ho1 hq2.out, owns_mono hr2.out hb1.size, hb1.trans (hq2.out.mono hb1.size), hI.out _ _ h.out (hb1.trans (hq2.out.mono hb1.size))⟩
  clear ho1 hb1 hq2 hr2 hq1
  go_loopw [5, 7, 8] (fun v ok i wr => ∃ (k : Nat), k ≤ lp ∧ ok = .bool true ∧ i = .int .i64 k ∧ Hid (wr.ownsRow w.heap.size 9 1 v (F k).length (strV (F k)) ∧ wr.ownsRow w.heap.size 67 2 (.slice b lp c) p.length (p.flatMap encE) ∧ Below w.heap.size w wr ∧ I wr))
    (fun _ _ i _ => lp - (intOf i).toNat)
  case atStart => exact ⟨0, Nat.zero_le _, rfl, rfl, HS⟩
  case round =>
    clear HS hz
    obtain ⟨k, hk, rfl, rfl, H⟩ := hrel
    by_cases hlt : k < lp
    · obtain ⟨g, cap, hv, hc⟩ := owns_ent H.out.2.1 k (hp.out ▸ hlt)
      replace hv := (Value.slice.inj hv).1
      subst hv
      have hlt2 : (k : Int) < (lp : Int) := by omega
      have hk0 : (0 : Int) ≤ (k : Int) := by omega
      obtain ⟨A, hA⟩ : ∃ A, A = bs (p.getD k ([], [])).1 := ⟨_, rfl⟩
      rw [← hA] at hc
      have HN' := HN.out k hlt
      rw [← hA] at HN'
      replace HN' : Hid _ := HN'
      have HL := hFl.out k hk
      have hbz := H.out.2.2.1.size
      have hAz : A.size ≤ 1000 := by rw [hA, bs_size]; exact hs6.out k
      clear hA
      go_wp2_with (first
        | (go_at_call 14; refine (HN'.out _ H.out.2.2.2).mono ?_; rintro e w3 ⟨rfl, hq3⟩; have hz3 := hq3.size; have ho3 := owns_below H.out.1 hq3; replace hq3 : Hid (Below wr.heap.size wr w3) := hq3)
        | (at_builtin; refine wpList_append_own _ rfl _ _ 31 rfl w.heap.size 9 i0 (.string ByteArray.empty) 1 16 Tryz.underlying31 hi hz0 hz1 hz2 rfl (by decide) _ _ _ rfl (ho3.alloc _) ⟨w3.heap.size, 0, none⟩ 1 1 [.string (N k)] rfl rfl ?c1 ?c2 ?c3 ?c4 ?c5 ?_)
        | go_in)
      case c1 =>
        intro j u hj
        match j, hj with
        | 0, hj => simp at hj; subst hj; simp [Addr.add]
      case c2 => intro u hu; simp at hu; subst hu; rfl
      case c3 => unfold maxLen; omega
      case c4 => omega
      case c5 => simp; omega
      intro v4 w4 ho4 hg4 _
      have hent : w4.ownsRow w.heap.size 67 2 (.slice (some ⟨g, 0, none⟩) lp c) p.length (p.flatMap encE) := owns_other ((owns_below H.out.2.1 hq3.out).alloc _) (ho3.alloc _) (by decide) hg4
      have hlow : Below w.heap.size w w4 := (((H.out.2.2.1.trans (hq3.out.mono hbz)).alloc (by omega) _)).grown hg4 (by simp; omega) (fun r hr => (ho3.lt r hr).1)
      have ho5 : w4.ownsRow w.heap.size 9 1 v4 (F k ++ [N k]).length (strV (F k ++ [N k])) := by rw [strV_snoc]; simpa using ho4
      have HI4 : Hid (I w4) := hI.out _ _ h.out hlow
      replace ho5 : Hid _ := ho5
      replace hent : Hid _ := hent
      replace hlow : Hid _ := hlow
      have hz4 := hg4.size
      clear ho4 hg4 ho3 hc
      go_wp2_with (first
        | (go_at_call 27; refine (HE1.out k hlt _).mono ?_; rintro e w5 ⟨b5, c5, rfl, hr5, hq5⟩; replace hr5 : Hid _ := hr5; replace hq5 : Hid _ := hq5)
        | go_in)
      obtain ⟨G, hG⟩ : ∃ G : Nat → List ByteArray, G = fun m => F k ++ [N k] ++ (List.range m).map (U k) := ⟨_, rfl⟩
      obtain ⟨ln, hln⟩ : ∃ ln, ln = (n k).length := ⟨_, rfl⟩
      have hln6 : ln ≤ 10000 := hln ▸ hn6.out k
      have HL2 : Hid (∀ m, m ≤ ln → (G m).length ≤ 300000000) := fun m hm => by rw [hG]; simp; omega
      have HG0 : Hid (G 0 = F k ++ [N k]) := show G 0 = F k ++ [N k] by rw [hG]; simp
      have HGn : Hid (∀ m, G (m + 1) = G m ++ [U k m]) := fun m => by rw [hG]; simp [List.range_succ]
      have HGe : Hid (G ln = F (k + 1)) := show G ln = F (k + 1) by rw [hG, hFn.out k, hln]
      have HU' := HU.out k hlt
      have HE2' := HE2.out k hlt
      rw [← hln] at HU' HE2'
      replace HU' : Hid _ := HU'
      replace HE2' : Hid _ := HE2'
      have ht6' : Hid (∀ j, (((n k).getD j ([], [])).1).length ≤ 1000) := ht6.out k
      have HS5 : Hid (w5.ownsRow w.heap.size 9 1 v4 (G 0).length (strV (G 0)) ∧ w5.ownsRow w.heap.size 67 2 (.slice (some ⟨g, 0, none⟩) lp c) p.length (p.flatMap encE) ∧ w5.ownsRow w.heap.size 67 2 (.slice b5 (n k).length c5) (n k).length ((n k).flatMap encE) ∧ Below w.heap.size w w5 ∧ I w5) := by
        have hb5 := hlow.out.trans (hq5.out.mono hlow.out.size)
        refine ⟨?_, owns_below hent.out hq5.out, owns_mono hr5.out hlow.out.size, hb5, hI.out _ _ h.out hb5⟩
        rw [HG0.out]; exact owns_below ho5.out hq5.out
      rw [← hln] at HS5 ⊢
      have HLN : Hid (ln = (n k).length) := hln
      clear hG hln ho5 hent hlow hq5 hr5 hq3 HI4 hz3 hz4 HL HN' hAz hbz H hlt2
      go_loopw [5, 7, 12] (fun v ok i wr => ∃ (m : Nat), m ≤ ln ∧ ok = .bool true ∧ i = .int .i64 m ∧ Hid (wr.ownsRow w.heap.size 9 1 v (G m).length (strV (G m)) ∧ wr.ownsRow w.heap.size 67 2 (.slice (some ⟨g, 0, none⟩) lp c) p.length (p.flatMap encE) ∧ wr.ownsRow w.heap.size 67 2 (.slice b5 ln c5) ln ((n k).flatMap encE) ∧ Below w.heap.size w wr ∧ I wr))
        (fun _ _ i _ => ln - (intOf i).toNat)
      case atStart => exact ⟨0, Nat.zero_le _, rfl, rfl, HS5⟩
      case round =>
        clear HS5
        obtain ⟨m, hm, rfl, rfl, H⟩ := hrel
        by_cases hmt : m < ln
        · obtain ⟨g2, cap2, hv2, hc2⟩ : ∃ g2 cap2, Value.slice b5 ln c5 = .slice (some ⟨g2, 0, none⟩) (n k).length cap2 ∧ wr.cell? ⟨g2, m * 2, none⟩ = some (.string (bs ((n k).getD m ([], [])).1)) := by
            have h7 := H.out.2.2.1
            have h8 := hmt
            have h9 := HLN.out
            rw [h9] at h7 h8 ⊢
            exact owns_ent h7 m h8
          replace hv2 := (Value.slice.inj hv2).1
          subst hv2
          have hmt2 : (m : Int) < (ln : Int) := by omega
          have hm0 : (0 : Int) ≤ (m : Int) := by omega
          obtain ⟨A, hA⟩ : ∃ A, A = bs ((n k).getD m ([], [])).1 := ⟨_, rfl⟩
          rw [← hA] at hc2
          have HU2 := HU'.out m hmt
          rw [← hA] at HU2
          replace HU2 : Hid _ := HU2
          have HL := HL2.out m hm
          have hbz := H.out.2.2.2.1.size
          have hAz : A.size ≤ 1000 := by rw [hA, bs_size]; exact ht6'.out m
          clear hA
          go_wp2_with (first
            | (go_at_call 14; refine (HU2.out _ H.out.2.2.2.2).mono ?_; rintro e w6 ⟨rfl, hq6⟩; have hz6 := hq6.size; have ho6 := owns_below H.out.1 hq6; replace hq6 : Hid (Below wr.heap.size wr w6) := hq6)
            | (at_builtin; refine wpList_append_own _ rfl _ _ 31 rfl w.heap.size 9 i0 (.string ByteArray.empty) 1 16 Tryz.underlying31 hi hz0 hz1 hz2 rfl (by decide) _ _ _ rfl (ho6.alloc _) ⟨w6.heap.size, 0, none⟩ 1 1 [.string (U k m)] rfl rfl ?c1 ?c2 ?c3 ?c4 ?c5 ?_)
            | go_in)
          case c1 =>
            intro j u hj
            match j, hj with
            | 0, hj => simp at hj; subst hj; simp [Addr.add]
          case c2 => intro u hu; simp at hu; subst hu; rfl
          case c3 => unfold maxLen; omega
          case c4 => omega
          case c5 => simp; omega
          intro v7 w7 ho7 hg7 _
          have hent : w7.ownsRow w.heap.size 67 2 (.slice (some ⟨g, 0, none⟩) lp c) p.length (p.flatMap encE) := owns_other ((owns_below H.out.2.1 hq6.out).alloc _) (ho6.alloc _) (by decide) hg7
          have hent2 : w7.ownsRow w.heap.size 67 2 (.slice (some ⟨g2, 0, none⟩) ln c5) ln ((n k).flatMap encE) := owns_other ((owns_below H.out.2.2.1 hq6.out).alloc _) (ho6.alloc _) (by decide) hg7
          have hlow : Below w.heap.size w w7 := (((H.out.2.2.2.1.trans (hq6.out.mono hbz)).alloc (by omega) _)).grown hg7 (by simp; omega) (fun r hr => (ho6.lt r hr).1)
          have ho8 : w7.ownsRow w.heap.size 9 1 v7 (G (m + 1)).length (strV (G (m + 1))) := by rw [HGn.out m, strV_snoc]; simpa using ho7
          have HS8 : Hid (w7.ownsRow w.heap.size 9 1 v7 (G (m + 1)).length (strV (G (m + 1))) ∧ w7.ownsRow w.heap.size 67 2 (.slice (some ⟨g, 0, none⟩) lp c) p.length (p.flatMap encE) ∧ w7.ownsRow w.heap.size 67 2 (.slice (some ⟨g2, 0, none⟩) ln c5) ln ((n k).flatMap encE) ∧ Below w.heap.size w w7) := ⟨ho8, hent, hent2, hlow⟩
          have hz7 := hg7.size
          clear ho7 hg7 ho6 hc2 hent hent2 hlow ho8
          go_wp2_with (first
            | (go_at_call 27; refine (HE2'.out m hmt _).mono ?_; rintro e w8 ⟨v8, rfl, hq8⟩; replace hq8 : Hid (Below w7.heap.size w7 w8) := hq8)
            | go_in)
          go_roundw
          case rel =>
            obtain ⟨y1, y2, y3, y4⟩ := HS8.out
            have hb8 := y4.trans (hq8.out.mono y4.size)
            exact ⟨m + 1, by omega, rfl, by go_num, owns_below y1 hq8.out, owns_below y2 hq8.out, owns_below y3 hq8.out, hb8, hI.out _ _ h.out hb8⟩
          case measure => simp [intOf]; omega
        · obtain rfl : m = ln := by omega
          have hmt2 : ¬ (m : Int) < (m : Int) := by omega
          go_wp2
          go_roundw
          case rel => exact ⟨k + 1, by omega, rfl, by go_num, HGe.out ▸ H.out.1, H.out.2.1, H.out.2.2.2⟩
          case measure => simp [intOf]; omega
    · obtain rfl : k = lp := by omega
      have hlt2 : ¬ (k : Int) < (k : Int) := by omega
      go_wp2
      go_ret2
      exact ⟨_, rfl, H.out.1, H.out.2.2.1⟩
end Go.Proofs.YtlikdnmikdldfaaGreatDoor
namespace Go.Proofs.YtlikdnmikdldfaaGreatDoor
open Go.Conc Go.ChangeShapes Go.WideShapes Go.ChangeAt Go.RowKit
set_option linter.unusedVariables false
set_option linter.unusedSimpArgs false

def toldB (s : Bk) : List ByteArray := (toldS s).map bs
def entH (h : Hd) : List UInt8 × List UInt8 := (bText h.a h.n, h.o.data.toList)
theorem ansT_len (L : List (List UInt8)) (m : Nat) (h : ∀ t, t ∈ L → t.length ≤ m) : (ansT L).length ≤ 2 + L.length * (m + 1) := by
  unfold ansT
  rw [List.length_append]
  have : (L.flatMap fun t => 32 :: t).length ≤ L.length * (m + 1) := by
    induction L with
    | nil => simp
    | cons x r ih =>
      have h1 := h x (by simp)
      have h2 := ih fun t ht => h t (by simp [ht])
      rw [List.flatMap_cons, List.length_append, List.length_cons, List.length_cons, Nat.succ_mul]
      omega
  simp only [List.length_cons, List.length_nil]; omega
theorem arr_size (l : List UInt8) : (⟨l.toArray⟩ : ByteArray).size = l.length := by simp [ByteArray.size]
theorem hT_len {s : Bk} (hI : Inv s) {h : Hd} (hh : h ∈ s.pools ∨ h ∈ s.nets) : (hText h).length ≤ 100 := by
  rw [← arr_size]
  rcases hh with hh | hh
  · obtain ⟨a1, a2, _, _, a5⟩ := hI.pa h hh; exact hText_len a1 a2 a5
  · obtain ⟨a1, a2, _, a5⟩ := hI.na h hh; exact hText_len a1 a2 a5
theorem lT_len {s : Bk} (hI : Inv s) {h : Ls} (hh : h ∈ s.leases) : (lText h).length ≤ 100 := by
  rw [← arr_size]
  obtain ⟨a1, a5⟩ := hI.la h hh; exact lText_len a1 a5
theorem poolsT_len {s : Bk} (hI : Inv s) : (poolsT s).length ≤ 5000 := by
  have := ansT_len (s.pools.map hText) 100 (fun t ht => by obtain ⟨h, hh, rfl⟩ := List.mem_map.1 ht; exact hT_len hI (.inl hh))
  have := hI.p
  unfold poolsT; rw [List.length_map] at *; omega
theorem netsOf_len (l : List Hd) (a n : Int) : (netsOf l a n).length ≤ l.length := List.length_filter_le _ _
theorem leasesOf_len (l : List Ls) (a n : Int) : (leasesOf l a n).length ≤ l.length := List.length_filter_le _ _
theorem netsT_len {s : Bk} (hI : Inv s) (p : Hd) : (netsT s p).length ≤ 5000 := by
  have := ansT_len ((netsOf s.nets p.a p.n).map hText) 100 (fun t ht => by obtain ⟨h, hh, rfl⟩ := List.mem_map.1 ht; exact hT_len hI (.inr (netsOf_sub hh)))
  have := hI.n
  have := netsOf_len s.nets p.a p.n
  unfold netsT; rw [List.length_map] at *; omega
theorem usedT_len {s : Bk} (hI : Inv s) (p : Hd) : (usedT s p).length ≤ 5000 := by
  have := ansT_len ((leasesOf s.leases p.a p.n).map lText) 100 (fun t ht => by obtain ⟨h, hh, rfl⟩ := List.mem_map.1 ht; exact lT_len hI (leasesOf_sub hh))
  have := hI.l
  have := leasesOf_len s.leases p.a p.n
  unfold usedT; rw [List.length_map] at *; omega
theorem getD_map {α β : Type} (f : α → β) (l : List α) (d : α) (e : β) (i : Nat) (h : i < l.length) : (l.map f).getD i e = f (l.getD i d) := by
  simp [List.getD_eq_getElem?_getD, List.getElem?_eq_getElem h]
theorem range_map {α β : Type} (f : α → β) (l : List α) (d : α) : (List.range l.length).map (fun i => f (l.getD i d)) = l.map f := by
  apply List.ext_getElem?
  intro i
  by_cases h : i < l.length
  · rw [List.getElem?_map, List.getElem?_map, List.getElem?_range h]
    simp [List.getD_eq_getElem?_getD, List.getElem?_eq_getElem h]
  · rw [List.getElem?_eq_none (by simp; omega), List.getElem?_eq_none (by simp; omega)]
theorem range_flat {α β : Type} (f : α → List β) (l : List α) (d : α) : (List.range l.length).flatMap (fun i => f (l.getD i d)) = l.flatMap f := by
  rw [List.flatMap_def, List.flatMap_def, range_map (fun x => f x)]
/-- the entries of an answer -/
theorem ent_of (s : ByteArray) (q : List (List UInt8 × List UInt8)) (hs : s.size ≤ 900000) (h : entL s.data.toList = some q) (W : World) : Calls Tryz.prog 27 #[.string s] W fun e w' => ∃ b c, e = .returned (.tuple #[.slice b q.length c, .bool true]) ∧ w'.ownsRow W.heap.size 67 2 (.slice b q.length c) q.length (q.flatMap encE) ∧ Below W.heap.size W w' := by
  refine (entries_any s W hs).mono ?_
  rintro e w' ⟨v, rfl, ho, hb⟩
  rw [h] at ho ⊢
  obtain ⟨b, c, rfl, _, _⟩ := owns_slice ho
  exact ⟨b, c, rfl, ho, hb⟩
theorem ask_cat (k : Nat) (t : List UInt8) (v : List UInt8) (h : verb k ++ [32] = v) : (⟨v.toArray⟩ : ByteArray) ++ bs t = bs (verb k ++ 32 :: t) := by
  have e : (⟨v.toArray⟩ : ByteArray) = bs v := rfl
  rw [e, bs_append, ← h]
  simp
set_option maxHeartbeats 1000000 in
theorem ktold_any (w0 : World) (K : Nat → Prop) (x : Nat) (s : Bk) (E : EnvT w0) (hZ : 10 ≤ w0.heap.size) (hI : Inv s) (G : Good s) (W : World) (h : HB w0 K x s W) :
    Calls Tryz.prog 11 #[.pointer (some ⟨x, 0, none⟩)] W fun e w' => ∃ v, e = .returned (.tuple #[v, .bool true]) ∧ w'.ownsRow W.heap.size 9 1 v (toldB s).length (strV (toldB s)) ∧ Below W.heap.size W w' := by
  have hN : ∀ i, netsOf s.nets (s.pools.getD i hd0).a (s.pools.getD i hd0).n = netsOf s.nets (s.pools.getD i hd0).a (s.pools.getD i hd0).n := fun _ => rfl
  obtain ⟨nn, hnn⟩ : ∃ nn : Nat → List Hd, nn = fun i => netsOf s.nets (s.pools.getD i hd0).a (s.pools.getD i hd0).n := ⟨_, rfl⟩
  have hin : ∀ i, i < s.pools.length → s.pools.getD i hd0 ∈ s.pools := fun i hi => by
    rw [List.getD_eq_getElem?_getD, List.getElem?_eq_getElem hi]; exact List.getElem_mem hi
  have hjn : ∀ i j, j < (nn i).length → (nn i).getD j hd0 ∈ s.nets := fun i j hj => by
    have hm : (nn i).getD j hd0 ∈ nn i := by rw [List.getD_eq_getElem?_getD, List.getElem?_eq_getElem hj]; exact List.getElem_mem hj
    have hm2 : ∀ y, y ∈ nn i → y ∈ s.nets := by intro y hy; rw [hnn] at hy; exact netsOf_sub hy
    exact hm2 _ hm
  have hnl : ∀ i, (nn i).length ≤ 24 := fun i => by
    have := netsOf_len s.nets (s.pools.getD i hd0).a (s.pools.getD i hd0).n
    have := hI.n
    rw [hnn]; show (netsOf s.nets _ _).length ≤ 24; omega
  have hpl := hI.p
  refine (told_go x (HB w0 K x s) (fun W W' a b => a.below b) W h (bs (poolsT s)) (s.pools.map entH) (fun i => bs (netsT s (s.pools.getD i hd0))) (fun i => (nn i).map entH) (fun i j => bs (usedT s ((nn i).getD j hd0))) s.pools.length (by exact (List.length_map _).symm) (by omega) (fun i => by have := hnl i; simp; omega) ?a1 ?a2 ?a3 ?a4 ?a5 ?a6 ?a7 ?a8).mono ?_
  case a1 =>
    intro i
    by_cases hi : i < s.pools.length
    · rw [getD_map entH s.pools hd0 _ i hi]
      obtain ⟨a1, a2, _⟩ := hI.pa _ (hin i hi)
      exact bText_len _ _ a1 a2
    · rw [List.getD_eq_getElem?_getD, List.getElem?_eq_none (by simp; omega)]; simp
  case a2 =>
    intro i j
    by_cases hj : j < (nn i).length
    · show (((nn i).map entH).getD j ([], [])).1.length ≤ 1000
      rw [getD_map entH (nn i) hd0 _ j hj]
      obtain ⟨a1, a2, _⟩ := hI.na _ (hjn i j hj)
      exact bText_len _ _ a1 a2
    · show (((nn i).map entH).getD j ([], [])).1.length ≤ 1000
      rw [List.getD_eq_getElem?_getD, List.getElem?_eq_none (by simp; omega)]; simp
  case a3 =>
    intro W hW
    have h1 := hb_ask w0 K x s (bs (verb 8)) E hZ hI (fun l hl => by rw [bs_data, read_pools] at hl; injection hl with hl; rw [← hl]; show ¬ 8 < 8; omega) W hW
    rw [ask_pools] at h1
    exact h1
  case a4 =>
    intro i hi W hW
    obtain ⟨h0, h1, hr⟩ := G.pr _ (hin i hi)
    have e := read_ask (k := 9) (by omega) h0 h1 hr
    have h1 := hb_ask w0 K x s (bs (verb 9 ++ 32 :: bText (s.pools.getD i hd0).a (s.pools.getD i hd0).n)) E hZ hI (fun l hl => by rw [bs_data] at hl; replace hl := e.symm.trans hl; injection hl with hl; rw [← hl]; show ¬ 9 < 8; omega) W hW
    rw [ask_nets G (hin i hi)] at h1
    rw [getD_map entH s.pools hd0 _ i hi]
    have e3 := ask_cat 9 (entH (s.pools.getD i hd0)).1 [78, 69, 84, 83, 32] rfl
    rw [show (⟨#[78, 69, 84, 83, 32]⟩ : ByteArray) ++ bs (entH (s.pools.getD i hd0)).1 = _ from e3]
    exact h1
  case a5 =>
    intro i hi j hj W hW
    replace hj : j < (nn i).length := by simpa using hj
    obtain ⟨h0, h1, hr, _⟩ := G.nr _ (hjn i j hj)
    have e := read_ask (k := 10) (by omega) h0 h1 hr
    have h1 := hb_ask w0 K x s (bs (verb 10 ++ 32 :: bText ((nn i).getD j hd0).a ((nn i).getD j hd0).n)) E hZ hI (fun l hl => by rw [bs_data] at hl; replace hl := e.symm.trans hl; injection hl with hl; rw [← hl]; show ¬ 10 < 8; omega) W hW
    rw [ask_used G (hjn i j hj)] at h1
    rw [getD_map entH (nn i) hd0 _ j hj]
    have e3 := ask_cat 10 (entH ((nn i).getD j hd0)).1 [85, 83, 69, 68, 32] rfl
    rw [show (⟨#[85, 83, 69, 68, 32]⟩ : ByteArray) ++ bs (entH ((nn i).getD j hd0)).1 = _ from e3]
    exact h1
  case a6 =>
    intro W
    have := poolsT_len hI
    have h1 := ent_of (bs (poolsT s)) (s.pools.map entH) (by rw [bs_size]; omega) (by rw [bs_data]; exact ent_h _ G.po) W
    rw [List.length_map] at h1 ⊢
    exact h1
  case a7 =>
    intro i hi W
    have := netsT_len hI (s.pools.getD i hd0)
    exact ent_of (bs (netsT s (s.pools.getD i hd0))) ((nn i).map entH) (by rw [bs_size]; omega) (by rw [bs_data, hnn]; exact ent_h _ fun h hh => G.no h (netsOf_sub hh)) W
  case a8 =>
    intro i hi j hj W
    have := usedT_len hI ((nn i).getD j hd0)
    refine (ent_of (bs (usedT s ((nn i).getD j hd0))) _ (by rw [bs_size]; omega) (by rw [bs_data]; exact ent_l _ fun h hh => G.lo h (leasesOf_sub hh)) W).mono ?_
    rintro e w' ⟨b, c, rfl, _, hb⟩
    exact ⟨_, rfl, hb⟩
  · rintro e w' ⟨v, rfl, ho, hb⟩
    refine ⟨v, rfl, ?_, hb⟩
    have e : tolF (bs (poolsT s)) (fun i => bs (netsT s (s.pools.getD i hd0))) (fun i => ((nn i).map entH).length) (fun i j => bs (usedT s ((nn i).getD j hd0))) s.pools.length = toldB s := by
      unfold tolF toldB toldS
      rw [List.map_cons, List.map_flatMap]
      congr 1
      rw [← range_flat _ s.pools hd0]
      congr 1
      funext i
      unfold tolG toldP
      rw [List.map_cons]
      congr 1
      show (List.range ((nn i).map entH).length).map (fun j => bs (usedT s ((nn i).getD j hd0))) = _
      rw [List.length_map, range_map (fun h => bs (usedT s h)), hnn, List.map_map]
      rfl
    rw [e] at ho
    exact ho
end Go.Proofs.YtlikdnmikdldfaaGreatDoor
namespace Go.Proofs.YtlikdnmikdldfaaGreatDoor
open Go.Conc Go.ChangeShapes Go.WideShapes Go.ChangeAt Go.RowKit
set_option linter.unusedVariables false
set_option linter.unusedSimpArgs false

set_option maxRecDepth 100000 in
set_option maxHeartbeats 400000 in
theorem owner_at (r : Int) (q : Nat) (t : ByteArray) (w : World) (hq : pk r 3 = q) (hc : -9223372036854775808 ≤ r ∧ r ≤ 9223372036854775807) (ht : (q = 0 ∧ t = ⟨#[97, 110, 110]⟩) ∨ (q = 1 ∧ t = ⟨#[98, 111, 98]⟩) ∨ (q = 2 ∧ t = ⟨#[99, 121]⟩)) :
    Calls Tryz.prog 22 #[.int .i64 r] w fun e w' => e = .returned (.string t) ∧ Below w.heap.size w w' := by
  have HP : Hid (∀ W, Calls Tryz.prog 18 #[.int .i64 r, .int .i64 3] W fun e w' => e = .returned (.int .i64 q) ∧ w' = W) := fun W => by rw [← hq]; exact pick_any r 3 W hc (by omega) (by omega)
  rcases ht with ⟨rfl, rfl⟩ | ⟨rfl, rfl⟩ | ⟨rfl, rfl⟩
  all_goals (
    clear hq hc
    go_enter Tryz.func22, Tryz.ntmps22
    go_wp2_with (go_at_call 18; refine (HP.out _).mono ?_; rintro e w1 ⟨rfl, rfl⟩)
    go_ret
    exact ⟨rfl, (by repeat' (first | with_reducible assumption | with_reducible exact Below.refl _ _ | with_reducible apply Below.drew | with_reducible apply below_drewN | with_reducible apply Below.setCell | with_reducible apply Below.alloc | omega | (simp; done) | (simp; omega)))⟩)
theorem owner_any (r : Int) (w : World) (hc : -9223372036854775808 ≤ r ∧ r ≤ 9223372036854775807) :
    Calls Tryz.prog 22 #[.int .i64 r] w fun e w' => e = .returned (.string (bs (own3 (pk r 3).toNat))) ∧ Below w.heap.size w w' := by
  have h := pk_bd r 3 (by omega)
  refine owner_at r (pk r 3).toNat _ w (by omega) hc ?_
  have hh : (pk r 3).toNat = 0 ∨ (pk r 3).toNat = 1 ∨ (pk r 3).toNat = 2 := by omega
  rcases hh with e | e | e <;> rw [e]
  · exact .inl ⟨rfl, rfl⟩
  · exact .inr (.inl ⟨rfl, rfl⟩)
  · exact .inr (.inr ⟨rfl, rfl⟩)
end Go.Proofs.YtlikdnmikdldfaaGreatDoor
namespace Go.Proofs.YtlikdnmikdldfaaGreatDoor
open Go.Conc Go.ChangeShapes Go.WideShapes Go.ChangeAt Go.RowKit
set_option linter.unusedVariables false
set_option linter.unusedSimpArgs false

/-- what a walk has of a block that it made, whatever was called since -/
theorem blk_live {w wk : World} {cs : Array Value} {t : TypeId} (h : Below (w.heap.size + 1) (w.alloc (.cells cs t)) wk) : Blk wk w.heap.size cs t ∧ w.heap.size < wk.heap.size := by
  have hz := h.size
  rw [World.size_alloc] at hz
  exact ⟨(h.block w.heap.size (by omega)).trans (heap_alloc_new w _), by omega⟩
set_option maxRecDepth 100000 in
set_option maxHeartbeats 400000 in
theorem ktext_at (a n : Int) (T1 T2 : ByteArray) (w : World) (hT1 : T1.size ≤ 15) (hT2 : T2.size ≤ 12)
    (HA : Hid (∀ W, Calls Tryz.prog 20 #[.int .u32 a] W fun e w' => e = .returned (.string T1) ∧ Below W.heap.size W w'))
    (HD : Hid (∀ W, Calls Tryz.prog 19 #[.int .i64 n] W fun e w' => e = .returned (.string T2) ∧ Below W.heap.size W w')) :
    Calls Tryz.prog 29 #[.agg #[.int .u32 a, .int .i64 n]] w fun e w' => e = .returned (.string (T1 ++ ⟨#[47]⟩ ++ T2)) ∧ Below w.heap.size w w' := by
  have LIVE : Hid (∀ wk, Below (w.heap.size + 1) (w.alloc (.cells #[.int .u32 a, .int .i64 n] 69)) wk → wk.cell? ⟨w.heap.size, 0, none⟩ = some (.int .u32 a) ∧ wk.cell? ⟨w.heap.size, 1, none⟩ = some (.int .i64 n) ∧ w.heap.size < wk.heap.size) := fun wk h => ⟨(blk_live h).1.cell 0, (blk_live h).1.cell 1, (blk_live h).2⟩
  have hc1 : ¬ 9223372036854775807 < T1.size + 1 := by omega
  have hc2 : ¬ 9223372036854775807 < T1.size + 1 + T2.size := by omega
  have hc3 : ¬ 9223372036854775807 < T1.size + (⟨#[47]⟩ : ByteArray).size := by rw [show (⟨#[47]⟩ : ByteArray).size = 1 from rfl]; omega
  have hc4 : ¬ 9223372036854775807 < (T1 ++ (⟨#[47]⟩ : ByteArray)).size + T2.size := by rw [ByteArray.size_append, show (⟨#[47]⟩ : ByteArray).size = 1 from rfl]; omega
  go_enter Tryz.func29, Tryz.ntmps29
  go_wp2
  go_region_held3 (fun w' => w'.cell? ⟨w.heap.size, 0, none⟩ = some (.int .u32 a) ∧ w'.cell? ⟨w.heap.size, 1, none⟩ = some (.int .i64 n)) (go_keep) (first
    | (go_at_call 20; refine (HA.out _).mono ?_; rintro e w1 ⟨rfl, HQ⟩; have HB1 : Hid (Below (w.heap.size + 1) (w.alloc (.cells #[.int .u32 a, .int .i64 n] 69)) w1) := bstep (by repeat' (first | with_reducible assumption | with_reducible exact Below.refl _ _ | with_reducible apply Below.drew | with_reducible apply below_drewN | with_reducible apply Below.setCell | with_reducible apply Below.alloc | omega | (simp; done) | (simp; omega))) (by simp) HQ; clear HQ; obtain ⟨c1_0, c1_1, c1_z⟩ := LIVE.out _ HB1.out)
    | (go_at_call 19; refine (HD.out _).mono ?_; rintro e w2 ⟨rfl, HQ⟩; have HB2 : Hid (Below (w.heap.size + 1) (w.alloc (.cells #[.int .u32 a, .int .i64 n] 69)) w2) := bstep (by have hp := HB1.out; repeat' (first | with_reducible assumption | with_reducible exact Below.refl _ _ | with_reducible apply Below.drew | with_reducible apply below_drewN | with_reducible apply Below.setCell | with_reducible apply Below.alloc | omega | (simp; done) | (simp; omega))) (by simp) HQ; clear HQ; obtain ⟨c2_0, c2_1, c2_z⟩ := LIVE.out _ HB2.out))
  all_goals (
    go_wp2
    go_ret
    exact ⟨rfl, (Below.alloc (Below.refl _ _) (Nat.le_refl _) _).trans (HB2.out.mono (by omega))⟩)
theorem ktext_any (a n : Int) (w : World) (h0 : 0 ≤ a) (h1 : a < 4294967296) (hn0 : 0 ≤ n) (hn1 : n ≤ 32) :
    Calls Tryz.prog 29 #[.agg #[.int .u32 a, .int .i64 n]] w fun e w' => e = .returned (.string (bs (bText a n))) ∧ Below w.heap.size w w' := by
  have h := ktext_at a n _ _ w (by rw [bs_size]; exact dot_len _ (by omega)) (by rw [bs_size]; have := dec_len2 (n := n.toNat) (by omega); omega) (fun W => kaddr_any a W h0 h1) (fun W => kdigits_any n W hn0 (by omega))
  have e : bs (dot a.toNat) ++ ⟨#[47]⟩ ++ bs (dec n.toNat) = bs (bText a n) := by
    have e1 : (⟨#[47]⟩ : ByteArray) = bs [47] := rfl
    rw [e1, bs_append, bs_append]
    show _ = bs (wr a.toNat n.toNat)
    unfold wr
    simp
  rw [e] at h
  exact h
/-- the blocks of which pools are made -/
def poolA (q : Nat) : Int := if q = 0 then 167772160 else if q = 1 then 167773184 else if q = 2 then 167773184 else if q = 3 then 3232235520 else if q = 4 then 3232235584 else 4294966272
def poolN (q : Nat) : Int := if q = 0 then 22 else if q = 1 then 24 else if q = 2 then 22 else if q = 3 then 26 else if q = 4 then 30 else 22
set_option maxRecDepth 100000 in
set_option maxHeartbeats 400000 in
theorem kpools_at (r : Int) (q : Nat) (a n : Int) (w : World) (hq : pk r 6 = q) (hc : -9223372036854775808 ≤ r ∧ r ≤ 9223372036854775807)
    (ht : (q = 0 ∧ a = 167772160 ∧ n = 22) ∨ (q = 1 ∧ a = 167773184 ∧ n = 24) ∨ (q = 2 ∧ a = 167773184 ∧ n = 22) ∨ (q = 3 ∧ a = 3232235520 ∧ n = 26) ∨ (q = 4 ∧ a = 3232235584 ∧ n = 30) ∨ (q = 5 ∧ a = 4294966272 ∧ n = 22)) :
    Calls Tryz.prog 28 #[.int .i64 r] w fun e w' => e = .returned (.agg #[.int .u32 a, .int .i64 n]) ∧ Below w.heap.size w w' := by
  have HP : Hid (∀ W, Calls Tryz.prog 18 #[.int .i64 r, .int .i64 6] W fun e w' => e = .returned (.int .i64 q) ∧ w' = W) := fun W => by rw [← hq]; exact pick_any r 6 W hc (by omega) (by omega)
  clear hc
  rcases ht with ⟨rfl, rfl, rfl⟩ | ⟨rfl, rfl, rfl⟩ | ⟨rfl, rfl, rfl⟩ | ⟨rfl, rfl, rfl⟩ | ⟨rfl, rfl, rfl⟩ | ⟨rfl, rfl, rfl⟩
  · clear hq
    go_enter Tryz.func28, Tryz.ntmps28
    go_wp2_with (go_at_call 18; refine (HP.out _).mono ?_; rintro e w1 ⟨rfl, rfl⟩)
    exact bodyPost_ret (v := .agg #[.int .u32 167772160, .int .i64 22]) (by simp [results, Tryz.results28, go_sem]) rfl ⟨rfl, (by repeat' (first | with_reducible assumption | with_reducible exact Below.refl _ _ | with_reducible apply Below.drew | with_reducible apply below_drewN | with_reducible apply Below.setCell | with_reducible apply Below.alloc | omega | (simp; done) | (simp; omega)))⟩
  · clear hq
    go_enter Tryz.func28, Tryz.ntmps28
    go_wp2_with (go_at_call 18; refine (HP.out _).mono ?_; rintro e w1 ⟨rfl, rfl⟩)
    exact bodyPost_ret (v := .agg #[.int .u32 167773184, .int .i64 24]) (by simp [results, Tryz.results28, go_sem]) rfl ⟨rfl, (by repeat' (first | with_reducible assumption | with_reducible exact Below.refl _ _ | with_reducible apply Below.drew | with_reducible apply below_drewN | with_reducible apply Below.setCell | with_reducible apply Below.alloc | omega | (simp; done) | (simp; omega)))⟩
  · clear hq
    go_enter Tryz.func28, Tryz.ntmps28
    go_wp2_with (go_at_call 18; refine (HP.out _).mono ?_; rintro e w1 ⟨rfl, rfl⟩)
    exact bodyPost_ret (v := .agg #[.int .u32 167773184, .int .i64 22]) (by simp [results, Tryz.results28, go_sem]) rfl ⟨rfl, (by repeat' (first | with_reducible assumption | with_reducible exact Below.refl _ _ | with_reducible apply Below.drew | with_reducible apply below_drewN | with_reducible apply Below.setCell | with_reducible apply Below.alloc | omega | (simp; done) | (simp; omega)))⟩
  · clear hq
    go_enter Tryz.func28, Tryz.ntmps28
    go_wp2_with (go_at_call 18; refine (HP.out _).mono ?_; rintro e w1 ⟨rfl, rfl⟩)
    exact bodyPost_ret (v := .agg #[.int .u32 3232235520, .int .i64 26]) (by simp [results, Tryz.results28, go_sem]) rfl ⟨rfl, (by repeat' (first | with_reducible assumption | with_reducible exact Below.refl _ _ | with_reducible apply Below.drew | with_reducible apply below_drewN | with_reducible apply Below.setCell | with_reducible apply Below.alloc | omega | (simp; done) | (simp; omega)))⟩
  · clear hq
    go_enter Tryz.func28, Tryz.ntmps28
    go_wp2_with (go_at_call 18; refine (HP.out _).mono ?_; rintro e w1 ⟨rfl, rfl⟩)
    exact bodyPost_ret (v := .agg #[.int .u32 3232235584, .int .i64 30]) (by simp [results, Tryz.results28, go_sem]) rfl ⟨rfl, (by repeat' (first | with_reducible assumption | with_reducible exact Below.refl _ _ | with_reducible apply Below.drew | with_reducible apply below_drewN | with_reducible apply Below.setCell | with_reducible apply Below.alloc | omega | (simp; done) | (simp; omega)))⟩
  · clear hq
    go_enter Tryz.func28, Tryz.ntmps28
    go_wp2_with (go_at_call 18; refine (HP.out _).mono ?_; rintro e w1 ⟨rfl, rfl⟩)
    exact bodyPost_ret (v := .agg #[.int .u32 4294966272, .int .i64 22]) (by simp [results, Tryz.results28, go_sem]) rfl ⟨rfl, (by repeat' (first | with_reducible assumption | with_reducible exact Below.refl _ _ | with_reducible apply Below.drew | with_reducible apply below_drewN | with_reducible apply Below.setCell | with_reducible apply Below.alloc | omega | (simp; done) | (simp; omega)))⟩
theorem kpools_any (r : Int) (w : World) (hc : -9223372036854775808 ≤ r ∧ r ≤ 9223372036854775807) :
    Calls Tryz.prog 28 #[.int .i64 r] w fun e w' => e = .returned (.agg #[.int .u32 (poolA (pk r 6).toNat), .int .i64 (poolN (pk r 6).toNat)]) ∧ Below w.heap.size w w' := by
  have h := pk_bd r 6 (by omega)
  refine kpools_at r (pk r 6).toNat _ _ w (by omega) hc ?_
  have hh : (pk r 6).toNat = 0 ∨ (pk r 6).toNat = 1 ∨ (pk r 6).toNat = 2 ∨ (pk r 6).toNat = 3 ∨ (pk r 6).toNat = 4 ∨ (pk r 6).toNat = 5 := by omega
  rcases hh with e | e | e | e | e | e <;> rw [e] <;> decide
end Go.Proofs.YtlikdnmikdldfaaGreatDoor
namespace Go.Proofs.YtlikdnmikdldfaaGreatDoor
open Go.Conc Go.ChangeShapes Go.WideShapes Go.ChangeAt Go.RowKit
set_option linter.unusedVariables false
set_option linter.unusedSimpArgs false

/-- a line whose answer is known -/
theorem hb_known (w : World) (E : EnvT w) (hZ : 10 ≤ w.heap.size) (x : Nat) (s s' : Bk) (line line' ans : ByteArray) (hl : line = line') (he : doAll s line' = (s', ans)) (hI : Inv s) (W : World) (hW : HB w (fun _ => False) x s W) :
    Calls Tryz.prog 14 #[.pointer (some ⟨x, 0, none⟩), .string line] W fun e w' => e = .returned (.string ans) ∧ HB w (fun _ => False) x s' w' := by
  subst hl
  refine (hb_do w (fun _ => False) x s line E hZ hI W hW (fun b k => k.elim)).mono ?_
  rintro e w' ⟨rfl, h1, _⟩
  rw [he] at h1 ⊢
  exact ⟨rfl, h1⟩
end Go.Proofs.YtlikdnmikdldfaaGreatDoor
namespace Go.Proofs.YtlikdnmikdldfaaGreatDoor
open Go.Conc Go.ChangeShapes Go.WideShapes Go.ChangeAt Go.RowKit
set_option linter.unusedVariables false
set_option linter.unusedSimpArgs false

def awL : Nat → ByteArray
  | 0 => ⟨#[80, 79, 79, 76, 32, 97, 32, 97, 110, 110, 32, 49, 48, 46, 48, 46, 48, 46, 48, 47, 50, 52]⟩
  | 1 => ⟨#[78, 69, 84, 32, 98, 32, 98, 111, 98, 32, 49, 48, 46, 48, 46, 48, 46, 48, 47, 50, 52, 32, 50, 56]⟩
  | 2 => ⟨#[76, 69, 65, 83, 69, 32, 99, 32, 99, 121, 32, 49, 48, 46, 48, 46, 48, 46, 48, 47, 50, 56]⟩
  | 3 => ⟨#[80, 79, 79, 76, 83]⟩
  | 4 => ⟨#[78, 69, 84, 83, 32, 49, 48, 46, 48, 46, 48, 46, 48, 47, 50, 52]⟩
  | _ => ⟨#[85, 83, 69, 68, 32, 49, 48, 46, 48, 46, 48, 46, 48, 47, 50, 56]⟩
def awS : Nat → Bk
  | 0 => bk0
  | k + 1 => (doAll (awS k) (awL k)).1
theorem awS_inv : ∀ k, Inv (awS k)
  | 0 => bk0_ok.1
  | k + 1 => inv_all (awS_inv k) _
theorem aw_0 : (doAll (awS 0) (awL 0)).2 = ⟨#[79, 75]⟩ := by decide +kernel
theorem awd_0 : doAll (awS 0) (awL 0) = (awS 1, ⟨#[79, 75]⟩) := (Prod.eta _).symm.trans (congrArg (Prod.mk (awS 1)) aw_0)
theorem aw_1 : (doAll (awS 1) (awL 1)).2 = ⟨#[79, 75, 32, 49, 48, 46, 48, 46, 48, 46, 48, 47, 50, 56]⟩ := by decide +kernel
theorem awd_1 : doAll (awS 1) (awL 1) = (awS 2, ⟨#[79, 75, 32, 49, 48, 46, 48, 46, 48, 46, 48, 47, 50, 56]⟩) := (Prod.eta _).symm.trans (congrArg (Prod.mk (awS 2)) aw_1)
theorem aw_2 : (doAll (awS 2) (awL 2)).2 = ⟨#[79, 75, 32, 49, 48, 46, 48, 46, 48, 46, 49]⟩ := by decide +kernel
theorem awd_2 : doAll (awS 2) (awL 2) = (awS 3, ⟨#[79, 75, 32, 49, 48, 46, 48, 46, 48, 46, 49]⟩) := (Prod.eta _).symm.trans (congrArg (Prod.mk (awS 3)) aw_2)
theorem aw_3 : (doAll (awS 3) (awL 3)).2 = ⟨#[79, 75, 32, 49, 48, 46, 48, 46, 48, 46, 48, 47, 50, 52, 61, 97, 110, 110]⟩ := by decide +kernel
theorem awd_3 : doAll (awS 3) (awL 3) = (awS 4, ⟨#[79, 75, 32, 49, 48, 46, 48, 46, 48, 46, 48, 47, 50, 52, 61, 97, 110, 110]⟩) := (Prod.eta _).symm.trans (congrArg (Prod.mk (awS 4)) aw_3)
theorem aw_4 : (doAll (awS 4) (awL 4)).2 = ⟨#[79, 75, 32, 49, 48, 46, 48, 46, 48, 46, 48, 47, 50, 56, 61, 98, 111, 98]⟩ := by decide +kernel
theorem awd_4 : doAll (awS 4) (awL 4) = (awS 5, ⟨#[79, 75, 32, 49, 48, 46, 48, 46, 48, 46, 48, 47, 50, 56, 61, 98, 111, 98]⟩) := (Prod.eta _).symm.trans (congrArg (Prod.mk (awS 5)) aw_4)
theorem aw_5 : (doAll (awS 5) (awL 5)).2 = ⟨#[79, 75, 32, 49, 48, 46, 48, 46, 48, 46, 49, 61, 99, 121]⟩ := by decide +kernel
theorem awd_5 : doAll (awS 5) (awL 5) = (awS 6, ⟨#[79, 75, 32, 49, 48, 46, 48, 46, 48, 46, 49, 61, 99, 121]⟩) := (Prod.eta _).symm.trans (congrArg (Prod.mk (awS 6)) aw_5)
set_option maxRecDepth 100000 in
set_option maxHeartbeats 1000000 in
theorem awake_any (w : World) (E : EnvT w) (hZ : 10 ≤ w.heap.size) :
    Calls Tryz.prog 10 #[] w fun e w' => e = .returned (.bool true) ∧ Below w.heap.size w w' := by
  have HO : Hid (∀ (_ : Unit), Calls Tryz.prog 9 #[] w fun e w' => ∃ x d, e = .returned (.tuple #[.pointer (some ⟨x, 0, none⟩), .pointer (some ⟨d, 0, none⟩)]) ∧ HB w (fun _ => False) x (awS 0) w') := fun _ => (opened_any w w (Below.refl _ _)).mono fun e w' ⟨x, d, h1, h2, _⟩ => ⟨x, d, h1, h2⟩
  have H0 : Hid (∀ x W, HB w (fun _ => False) x (awS 0) W → Calls Tryz.prog 14 #[.pointer (some ⟨x, 0, none⟩), .string ⟨#[80, 79, 79, 76, 32, 97, 32, 97, 110, 110, 32, 49, 48, 46, 48, 46, 48, 46, 48, 47, 50, 52]⟩] W fun e w' => e = .returned (.string ⟨#[79, 75]⟩) ∧ HB w (fun _ => False) x (awS 1) w') := fun x W h => hb_known w E hZ x (awS 0) (awS 1) ⟨#[80, 79, 79, 76, 32, 97, 32, 97, 110, 110, 32, 49, 48, 46, 48, 46, 48, 46, 48, 47, 50, 52]⟩ (awL 0) _ rfl awd_0 (awS_inv 0) W h
  have H1 : Hid (∀ x W, HB w (fun _ => False) x (awS 1) W → Calls Tryz.prog 14 #[.pointer (some ⟨x, 0, none⟩), .string ⟨#[78, 69, 84, 32, 98, 32, 98, 111, 98, 32, 49, 48, 46, 48, 46, 48, 46, 48, 47, 50, 52, 32, 50, 56]⟩] W fun e w' => e = .returned (.string ⟨#[79, 75, 32, 49, 48, 46, 48, 46, 48, 46, 48, 47, 50, 56]⟩) ∧ HB w (fun _ => False) x (awS 2) w') := fun x W h => hb_known w E hZ x (awS 1) (awS 2) ⟨#[78, 69, 84, 32, 98, 32, 98, 111, 98, 32, 49, 48, 46, 48, 46, 48, 46, 48, 47, 50, 52, 32, 50, 56]⟩ (awL 1) _ rfl awd_1 (awS_inv 1) W h
  have H2 : Hid (∀ x W, HB w (fun _ => False) x (awS 2) W → Calls Tryz.prog 14 #[.pointer (some ⟨x, 0, none⟩), .string ⟨#[76, 69, 65, 83, 69, 32, 99, 32, 99, 121, 32, 49, 48, 46, 48, 46, 48, 46, 48, 47, 50, 56]⟩] W fun e w' => e = .returned (.string ⟨#[79, 75, 32, 49, 48, 46, 48, 46, 48, 46, 49]⟩) ∧ HB w (fun _ => False) x (awS 3) w') := fun x W h => hb_known w E hZ x (awS 2) (awS 3) ⟨#[76, 69, 65, 83, 69, 32, 99, 32, 99, 121, 32, 49, 48, 46, 48, 46, 48, 46, 48, 47, 50, 56]⟩ (awL 2) _ rfl awd_2 (awS_inv 2) W h
  have H3 : Hid (∀ x W, HB w (fun _ => False) x (awS 3) W → Calls Tryz.prog 14 #[.pointer (some ⟨x, 0, none⟩), .string ⟨#[80, 79, 79, 76, 83]⟩] W fun e w' => e = .returned (.string ⟨#[79, 75, 32, 49, 48, 46, 48, 46, 48, 46, 48, 47, 50, 52, 61, 97, 110, 110]⟩) ∧ HB w (fun _ => False) x (awS 4) w') := fun x W h => hb_known w E hZ x (awS 3) (awS 4) ⟨#[80, 79, 79, 76, 83]⟩ (awL 3) _ rfl awd_3 (awS_inv 3) W h
  have H4 : Hid (∀ x W, HB w (fun _ => False) x (awS 4) W → Calls Tryz.prog 14 #[.pointer (some ⟨x, 0, none⟩), .string ⟨#[78, 69, 84, 83, 32, 49, 48, 46, 48, 46, 48, 46, 48, 47, 50, 52]⟩] W fun e w' => e = .returned (.string ⟨#[79, 75, 32, 49, 48, 46, 48, 46, 48, 46, 48, 47, 50, 56, 61, 98, 111, 98]⟩) ∧ HB w (fun _ => False) x (awS 5) w') := fun x W h => hb_known w E hZ x (awS 4) (awS 5) ⟨#[78, 69, 84, 83, 32, 49, 48, 46, 48, 46, 48, 46, 48, 47, 50, 52]⟩ (awL 4) _ rfl awd_4 (awS_inv 4) W h
  have H5 : Hid (∀ x W, HB w (fun _ => False) x (awS 5) W → Calls Tryz.prog 14 #[.pointer (some ⟨x, 0, none⟩), .string ⟨#[85, 83, 69, 68, 32, 49, 48, 46, 48, 46, 48, 46, 48, 47, 50, 56]⟩] W fun e w' => e = .returned (.string ⟨#[79, 75, 32, 49, 48, 46, 48, 46, 48, 46, 49, 61, 99, 121]⟩) ∧ HB w (fun _ => False) x (awS 6) w') := fun x W h => hb_known w E hZ x (awS 5) (awS 6) ⟨#[85, 83, 69, 68, 32, 49, 48, 46, 48, 46, 48, 46, 48, 47, 50, 56]⟩ (awL 5) _ rfl awd_5 (awS_inv 5) W h
  clear E hZ
  go_enter Tryz.func10, Tryz.ntmps10
  go_wp2_with (first | (go_at_call 9; refine (HO.out ()).mono ?_; rintro e v0 ⟨x, d, rfl, hb0⟩; replace hb0 : Hid (HB w (fun _ => False) x (awS 0) v0) := hb0) | (go_at_call 14; refine (H0.out _ _ hb0.out).mono ?_; rintro e v1 ⟨rfl, hb1⟩; replace hb1 : Hid (HB w (fun _ => False) x (awS 1) v1) := hb1; clear hb0) | (go_at_call 14; refine (H1.out _ _ hb1.out).mono ?_; rintro e v2 ⟨rfl, hb2⟩; replace hb2 : Hid (HB w (fun _ => False) x (awS 2) v2) := hb2; clear hb1) | (go_at_call 14; refine (H2.out _ _ hb2.out).mono ?_; rintro e v3 ⟨rfl, hb3⟩; replace hb3 : Hid (HB w (fun _ => False) x (awS 3) v3) := hb3; clear hb2) | (go_at_call 14; refine (H3.out _ _ hb3.out).mono ?_; rintro e v4 ⟨rfl, hb4⟩; replace hb4 : Hid (HB w (fun _ => False) x (awS 4) v4) := hb4; clear hb3) | (go_at_call 14; refine (H4.out _ _ hb4.out).mono ?_; rintro e v5 ⟨rfl, hb5⟩; replace hb5 : Hid (HB w (fun _ => False) x (awS 5) v5) := hb5; clear hb4) | (go_at_call 14; refine (H5.out _ _ hb5.out).mono ?_; rintro e v6 ⟨rfl, hb6⟩; replace hb6 : Hid (HB w (fun _ => False) x (awS 6) v6) := hb6; clear hb5))
  go_ret
  exact ⟨rfl, hb6.out.low⟩
end Go.Proofs.YtlikdnmikdldfaaGreatDoor
