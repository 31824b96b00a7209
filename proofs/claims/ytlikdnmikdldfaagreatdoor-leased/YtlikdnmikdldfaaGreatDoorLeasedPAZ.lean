/-
  BkDo, BkCm, BkCn, BkCo, BkCd, BkDd, BkDe, BkLs, BkHb, BkLw, BkLx, BkOw, BkKn, LeasedWalk
-/
import Derived.Conc.SmallLaws
import Derived.Test.YtlikdnmikdldfaaGreatDoorLeasedPAR
import Derived.Test.YtlikdnmikdldfaaGreatDoorLeasedPAU
import Derived.Test.YtlikdnmikdldfaaGreatDoorLeasedPAX
import Derived.Test.YtlikdnmikdldfaaGreatDoorLeasedPAY
import Derived.Test.YtlikdnmikdldfaaGreatDoorLeasedPAI
import Derived.Test.YtlikdnmikdldfaaGreatDoorLeasedPAW
import Derived.Test.YtlikdnmikdldfaaGreatDoorLeasedPAE
namespace Go.Proofs.YtlikdnmikdldfaaGreatDoor
open Go.Conc Go.ChangeShapes Go.WideShapes Go.ChangeAt Go.RowKit
set_option linter.unusedVariables false
set_option linter.unusedSimpArgs false
set_option maxRecDepth 100000 in
set_option maxHeartbeats 400000 in
theorem tnew_any (w : World) : Calls Tryz.prog 47 #[] w fun e w' => ∃ c, e = .returned (.agg #[.chan (some c)]) ∧ Ch w' c [] ∧ w.heap.size ≤ c ∧ Below w.heap.size w w' := by
  obtain ⟨i, hi, hib⟩ : ∃ i, Tryz.prog.info? 132 = some i ∧ i.bytes = 48 := by
    have h : (Tryz.prog.info? 132).map (·.bytes) = some 48 := by kernel_rfl
    rcases e : Tryz.prog.info? 132 with _ | i
    · rw [e] at h; cases h
    · rw [e] at h; exact ⟨i, rfl, by simpa using h⟩
  have hmk : ∀ w : World, (Instr.makeChan 88 (.int .i64 8)).run Tryz.prog w = .ok (.chan (some w.heap.size)) (w.alloc (.chan 8 #[] false 0 0 false)) := fun w => run_makeChan (P := Tryz.prog) (w := w) Tryz.underlying88 hi .i64 8 (by decide) (by rw [hib]; decide)
  clear hi hib
  go_enter Tryz.func47, Tryz.ntmps47
  go_wp2
  go_returns
  have hn := heap_alloc_new (w.alloc (.cells #[.chan (some (w.heap.size + 1))] 90)) (.chan 8 #[] false 0 0 false)
  rw [show (w.alloc (.cells #[.chan (some (w.heap.size + 1))] 90)).heap.size = w.heap.size + 1 by simp] at hn
  exact ⟨w.heap.size + 1, rfl, ⟨0, 0, hn⟩, by omega, (by repeat' (first | with_reducible assumption | with_reducible exact Below.refl _ _ | with_reducible apply Below.drew | with_reducible apply below_drewN | with_reducible apply Below.setCell | with_reducible apply Below.alloc | omega | (simp; done) | (simp; omega)))⟩
theorem isCmd_any (v : Int) (w : World) : Calls Tryz.prog 33 #[.int .i64 v] w fun e w' => e = .returned (.bool (decide (v ≤ 7))) ∧ Below w.heap.size w w' := by
  go_enter Tryz.func33, Tryz.ntmps33
  go_wp2
  go_ret
  exact ⟨rfl, Below.refl _ _⟩
/-- Refuse's answer is written -/
theorem reftext_any (k : Nat) (hk : k < 14) (w : World) (E : EnvT w) : Calls Tryz.prog 32 #[.agg #[.int .i64 k, .slice none 0 0]] w fun e w' => e = .returned (.string ⟨(anText (ref k)).toArray⟩) ∧ Below w.heap.size w w' :=
  atext_any (ref k) hk (by simp [ref]) (by simp [ref]) (.slice none 0 0) w E (rd_nil _ _ _ _)
set_option maxRecDepth 100000 in
set_option maxHeartbeats 400000 in
theorem again_any (x : Tk) (line r : ByteArray) (w : World) (E : Hid (EnvT w)) (HR : Hid (r = if x.l ≠ line then (⟨(anText (ref 3)).toArray⟩ : ByteArray) else x.r)) :
    Calls Tryz.prog 56 #[vT x, .string line] w fun e w' => e = .returned (.string r) ∧ Below w.heap.size w w' := by
  obtain ⟨xt, xl, xr⟩ := x
  unfold vT
  have HT : Hid (∀ W, Below w.heap.size w W → Calls Tryz.prog 32 #[.agg #[.int .i64 3, .slice none 0 0]] W fun e w' => e = .returned (.string ⟨(anText (ref 3)).toArray⟩) ∧ Below W.heap.size W w') := fun W hW => reftext_any 3 (by omega) W (E.out.mono hW)
  have HF : Hid (∀ W, Calls Tryz.prog 31 #[.int .i64 3] W fun e w' => e = .returned (.agg #[.int .i64 3, .slice none 0 0]) ∧ Below W.heap.size W w') := fun W => refuse_any 3 W
  generalize (⟨(anText (ref 3)).toArray⟩ : ByteArray) = t3 at HR HT
  by_cases h : xl = line
  · have hq := (Lib.bytes_beq_iff xl line).2 h
    have HR2 : Hid (r = xr) := by have := HR.out; rw [if_neg (by simp [h])] at this; exact this
    clear h HR
    go_enter Tryz.func56, Tryz.ntmps56
    go_wp2
    go_ret
    exact ⟨by rw [HR2.out]; rfl, (by repeat' (first | with_reducible assumption | with_reducible exact Below.refl _ _ | with_reducible apply Below.drew | with_reducible apply below_drewN | with_reducible apply Below.setCell | with_reducible apply Below.alloc | omega | (simp; done) | (simp; omega)))⟩
  · have hq := (Lib.bytes_beq_false_iff xl line).2 h
    have HR2 : Hid (r = t3) := by have := HR.out; rw [if_pos (by simp [h])] at this; exact this
    clear h HR
    go_enter Tryz.func56, Tryz.ntmps56
    go_wp2_with (first | (go_at_call 31; refine (HF.out _).mono ?_; rintro e w1 ⟨rfl, hq1⟩; have hb1 : Hid (Below w.heap.size w w1) := Below.trans (B := w.heap.size) (a := w) (by repeat' (first | with_reducible assumption | with_reducible exact Below.refl _ _ | with_reducible apply Below.drew | with_reducible apply below_drewN | with_reducible apply Below.setCell | with_reducible apply Below.alloc | omega | (simp; done) | (simp; omega))) (hq1.mono (by first | omega | (simp; done) | (simp; omega))); clear hq1) | (go_at_call 32; refine (HT.out _ hb1.out).mono ?_; rintro e w2 ⟨rfl, hq2⟩; have hb2 : Hid (Below w.heap.size w w2) := hb1.out.trans (hq2.mono hb1.out.size); clear hq2))
    go_ret
    exact ⟨by rw [HR2.out]; rfl, hb2.out⟩
set_option maxRecDepth 100000 in
set_option maxHeartbeats 400000 in
theorem open_any (d : Value) (w : World) : Calls Tryz.prog 26 #[d] w fun e w' => ∃ x S, e = .returned (.tuple #[.pointer (some ⟨x, 0, none⟩), .int .i64 0]) ∧ BkAt w' x S bk0 ∧ (∀ b, S b → w.heap.size ≤ b) ∧ Below w.heap.size w w' := by
  have HN : Hid (∀ W, Calls Tryz.prog 47 #[] W fun e w' => ∃ c, e = .returned (.agg #[.chan (some c)]) ∧ Ch w' c [] ∧ W.heap.size ≤ c ∧ Below W.heap.size W w') := fun W => tnew_any W
  go_enter Tryz.func26, Tryz.ntmps26
  go_wp2_with (go_at_call 47; refine (HN.out _).mono ?_; rintro e w1 ⟨c, rfl, hch, hc, hq1⟩)
  have hz1 := hq1.size
  have hcl := hch.lt
  have hB : Below w1.heap.size w1 (w1.alloc (.cells #[.slice none 0 0, .slice none 0 0, .slice none 0 0, .chan (some c)] 92)) := (by repeat' (first | with_reducible assumption | with_reducible exact Below.refl _ _ | with_reducible apply Below.drew | with_reducible apply below_drewN | with_reducible apply Below.setCell | with_reducible apply Below.alloc | omega | (simp; done) | (simp; omega)))
  have hfin : ∃ x S, Ending.returned (Value.tuple #[.pointer (some ⟨w1.heap.size, 0, none⟩), .int .i64 0]) = Ending.returned (.tuple #[.pointer (some ⟨x, 0, none⟩), .int .i64 0]) ∧ BkAt (w1.alloc (.cells #[.slice none 0 0, .slice none 0 0, .slice none 0 0, .chan (some c)] 92)) x S bk0 ∧ (∀ b, S b → w.heap.size ≤ b) ∧ Below w.heap.size w (w1.alloc (.cells #[.slice none 0 0, .slice none 0 0, .slice none 0 0, .chan (some c)] 92)) := by
    refine ⟨w1.heap.size, fun b => b = w1.heap.size ∨ b = c, rfl, ⟨.slice none 0 0, .slice none 0 0, .slice none 0 0, c, ?_⟩, ?_, (by repeat' (first | with_reducible assumption | with_reducible exact Below.refl _ _ | with_reducible apply Below.drew | with_reducible apply below_drewN | with_reducible apply Below.setCell | with_reducible apply Below.alloc | omega | (simp; done) | (simp; omega)))⟩
    · have hsz : ∀ b, (b = w1.heap.size ∨ b = c) → b < (w1.alloc (.cells #[.slice none 0 0, .slice none 0 0, .slice none 0 0, .chan (some c)] 92)).heap.size := fun b e => by
        have := hB.size
        rcases e with e | e
        · rw [e]; simp
        · rw [e]; omega
      exact { blk := Blk.new w1 _ _, ch := hch.same (hB.block c hcl), op := ⟨rfl, .inl ⟨rfl, rfl⟩⟩, on := ⟨rfl, .inl ⟨rfl, rfl⟩⟩, ol := ⟨rfl, .inl ⟨rfl, rfl⟩⟩, sx := .inl rfl, sc := .inr rfl, sp := fun b e => (by cases e), sn := fun b e => (by cases e), sl := fun b e => (by cases e), sz := hsz }
    · rintro b (rfl | rfl) <;> omega
  exact bodyPost_ret (v := .tuple #[.pointer (some ⟨w1.heap.size, 0, none⟩), .int .i64 0]) (by simp [results, Tryz.results26]) rfl hfin
end Go.Proofs.YtlikdnmikdldfaaGreatDoor
namespace Go.Proofs.YtlikdnmikdldfaaGreatDoor
open Go.Conc Go.ChangeShapes Go.WideShapes Go.ChangeAt Go.RowKit
set_option linter.unusedVariables false
set_option linter.unusedSimpArgs false

theorem new_at {w0 : World} {n : Nat} {cs : Array Value} {t : TypeId} (h : w0.heap.size = n) : Blk (w0.alloc (.cells cs t)) n cs t := by rw [← h]; exact Blk.new w0 cs t
/-- what of memory a command leans on: the book, and the line's own copy -/
def BkC (W : World) (x : Nat) (S : Nat → Prop) (c : Nat) (s : Bk) : Prop := ∃ vp vn vl, BA W x S vp vn vl c s
theorem BkC.bk {W : World} {x : Nat} {S : Nat → Prop} {c : Nat} {s : Bk} (h : BkC W x S c s) : BkAt W x S s := by obtain ⟨vp, vn, vl, B⟩ := h; exact ⟨vp, vn, vl, c, B⟩
theorem BkC.below {w w' : World} {x : Nat} {S : Nat → Prop} {c : Nat} {s : Bk} (h : BkC w x S c s) (hb : Below w.heap.size w w') : BkC w' x S c s := by obtain ⟨vp, vn, vl, B⟩ := h; exact ⟨vp, vn, vl, B.below hb⟩
def Adm (w : World) (x : Nat) (S : Nat → Prop) (c : Nat) (s : Bk) (l : Ln) (W : World) : Prop := BkC W x S c s ∧ Chg S w W ∧ Blk W w.heap.size (lnC l) 74
theorem BkAt.lt {w : World} {x : Nat} {S : Nat → Prop} {s : Bk} (h : BkAt w x S s) : ∀ b, S b → b < w.heap.size := by obtain ⟨_, _, _, _, B⟩ := h; exact B.sz
theorem Adm.below {w W W' : World} {x : Nat} {S : Nat → Prop} {c : Nat} {s : Bk} {l : Ln} (h : Adm w x S c s l W) (hb : Below W.heap.size W W') : Adm w x S c s l W' :=
  ⟨h.1.below hb, h.2.1.trans (Chg.below (S := S) hb) (fun b q => .inl q), h.2.2.below hb⟩
theorem Adm.alloc {w W : World} {x : Nat} {S : Nat → Prop} {c : Nat} {s : Bk} {l : Ln} {o : Obj} (h : Adm w x S c s l W) : Adm w x S c s l (W.alloc o) := h.below (Below.alloc (Below.refl _ _) (Nat.le_refl _) _)
theorem Adm.drew {w W : World} {x : Nat} {S : Nat → Prop} {c : Nat} {s : Bk} {l : Ln} (h : Adm w x S c s l W) : Adm w x S c s l W.drew := h.below (Below.drew (Below.refl _ _))
theorem Adm.set {w W : World} {x : Nat} {S : Nat → Prop} {c : Nat} {s : Bk} {l : Ln} (hS : ∀ b, S b → b < w.heap.size) {g i : Nat} {v : Value} (hg : w.heap.size < g) (h : Adm w x S c s l W) : Adm w x S c s l (W.setCell ⟨g, i, none⟩ v) := by
  have s1 := sets_other g [v] i W
  have hz : (W.setCell ⟨g, i, none⟩ v).heap.size = W.heap.size := s1.2.2.2.1
  have hb : ∀ k, k ≠ g → (W.setCell ⟨g, i, none⟩ v).heap[k]? = W.heap[k]? := s1.2.2.2.2
  refine ⟨?_, h.2.1.sets g i [v] (.inr (by omega)), (hb _ (by omega)).trans h.2.2⟩
  obtain ⟨vp, vn, vl, B⟩ := h.1
  exact ⟨vp, vn, vl, B.same (fun b q => hb b (by have := hS b q; omega)) (Nat.le_of_eq hz.symm)⟩
/-- the table was gone through, or has a command more -/
theorem BA.toks {w w' : World} {x : Nat} {S : Nat → Prop} {vp vn vl : Value} {c : Nat} {s : Bk} (h : BA w x S vp vn vl c s) (T : List Tk) (hch : Ch w' c T) (hg : w.grownBy w' (some c)) : BA w' x S vp vn vl c { s with toks := T } := by
  obtain ⟨a1, a2, a3⟩ := h.apart
  have hxc := h.xc
  have hx := h.blk.lt
  exact { blk := (hg.block x hx (by simp; omega)).trans h.blk, ch := hch, op := owns_same h.op (fun b e => hg.block b (h.sz b (h.sp b e)) (by have := (a1 b e).2.1; simp; omega)), on := owns_same h.on (fun b e => hg.block b (h.sz b (h.sn b e)) (by have := (a2 b e).2.1; simp; omega)), ol := owns_same h.ol (fun b e => hg.block b (h.sz b (h.sl b e)) (by have := (a3 b e).2.1; simp; omega)), sx := h.sx, sc := h.sc, sp := h.sp, sn := h.sn, sl := h.sl, sz := fun b q => Nat.lt_of_lt_of_le (h.sz b q) hg.size }
theorem three_set {w : World} {g : Nat} {t : TypeId} {u0 u1 u2 : Value} (h : Blk w g #[u0, u1, u2] t) (a0 a1 a2 : Value) : Blk (((w.setCell ⟨g, 0, none⟩ a0).setCell ⟨g, 1, none⟩ a1).setCell ⟨g, 2, none⟩ a2) g #[a0, a1, a2] t := by
  have h0 : Blk (w.setCell ⟨g, 0, none⟩ a0) g #[a0, u1, u2] t := (by simpa using h.set 0 a0)
  have h1 : Blk ((w.setCell ⟨g, 0, none⟩ a0).setCell ⟨g, 1, none⟩ a1) g #[a0, a1, u2] t := (by simpa using h0.set 1 a1)
  simpa using h1.set 2 a2
def DoR (w : World) (x : Nat) (S : Nat → Prop) (r : Bk × ByteArray) (e : Ending) (w' : World) : Prop := ∃ S', e = .returned (.string r.2) ∧ BkAt w' x S' r.1 ∧ (∀ b, S' b → S b ∨ w.heap.size ≤ b) ∧ Chg S w w'

set_option maxRecDepth 100000 in
set_option maxHeartbeats 1000000 in
theorem cmd_found (w : World) (x c : Nat) (S : Nat → Prop) (s : Bk) (l : Ln) (line : ByteArray) (tk : Tk) (r : ByteArray) (hx : x < w.heap.size) (hS : ∀ b, S b → b < w.heap.size) (H0 : Hid (BkC w x S c s)) (HX : Hid (∀ W, Adm w x S c s l W → W.cell? ⟨x, 3, none⟩ = some (.chan (some c))))
    (HF : Hid (∀ W, Adm w x S c s l W → Calls Tryz.prog 55 #[.agg #[.chan (some c)], .string l.t] W fun e w1 => e = .returned (.tuple #[.agg #[.string tk.t, .string tk.l, .string tk.r], .bool true]) ∧ Adm w x S c s l w1 ∧ ∀ g cs t, Blk W g cs t → w.heap.size ≤ g → Blk w1 g cs t))
    (HG : Hid (∀ W, Adm w x S c s l W → Calls Tryz.prog 56 #[.agg #[.string tk.t, .string tk.l, .string tk.r], .string line] W fun e w' => e = .returned (.string r) ∧ Below W.heap.size W w')) :
    Calls Tryz.prog 34 #[.pointer (some ⟨x, 0, none⟩), .agg (lnC l), .string line] w (DoR w x S (s, r)) := by
  have hA0 : Adm w x S c s l (w.alloc (.cells (lnC l) 74)) := ⟨H0.out.below (by repeat' (first | with_reducible assumption | with_reducible exact Below.refl _ _ | with_reducible apply Below.drew | with_reducible apply below_drewN | with_reducible apply Below.setCell | with_reducible apply Below.alloc | omega | (simp; done) | (simp; omega))), Chg.below (by repeat' (first | with_reducible assumption | with_reducible exact Below.refl _ _ | with_reducible apply Below.drew | with_reducible apply below_drewN | with_reducible apply Below.setCell | with_reducible apply Below.alloc | omega | (simp; done) | (simp; omega))), Blk.new w _ _⟩
  have HA0 : Hid (Adm w x S c s l (w.alloc (.cells #[.int .i64 l.v, .string l.t, .string l.o, .int .u32 l.a, .int .i64 l.n, .int .u32 l.d, .int .i64 l.g] 74))) := hA0
  have x3 : w.cell? ⟨x, 3, none⟩ = some (.chan (some c)) := by
    have h := HX.out _ hA0
    rwa [World.cell?_alloc_past _ _ _ hx] at h
  clear hA0
  have hxa : ¬ (x = w.heap.size + 1) := by omega
  have hxb : ¬ (w.heap.size + 1 = x) := by omega
  have hxc : ¬ (x = w.heap.size) := by omega
  have hxd : ¬ (w.heap.size = x) := by omega
  show Calls _ _ #[.pointer (some ⟨x, 0, none⟩), .agg #[.int .i64 l.v, .string l.t, .string l.o, .int .u32 l.a, .int .i64 l.n, .int .u32 l.d, .int .i64 l.g], .string line] _ _
  go_enter Tryz.func34, Tryz.ntmps34
  go_wp2
  rename_i K1 a1 K0 a0
  have HM : Hid (∀ (t1 t3 t5 t6 t9 t10 t11 t12 t13 t14 t15 t16 t17 t18 t19 t20 t21 t22 t23 t24 t25 t26 t27 t28 t29 t30 t31 t32 t33 t34 t35 t36 t37 t38 t39 t40 t41 t42 t43 t44 : Value) (D : Nat) (W : World), Adm w x S c s l W → Blk W D #[.string tk.t, .string tk.l, .string tk.r] 132 → K0 ⟨#[.pointer (some ⟨x, 0, none⟩), t1, .string line, t3, .pointer (some ⟨w.heap.size, 0, none⟩), t5, t6, .pointer (some ⟨D, 0, none⟩), .bool true, t9, t10, t11, t12, t13, t14, t15, t16, t17, t18, t19, t20, t21, t22, t23, t24, t25, t26, t27, t28, t29, t30, t31, t32, t33, t34, t35, t36, t37, t38, t39, t40, t41, t42, t43, t44], []⟩ W) := by
    intro t1 t3 t5 t6 t9 t10 t11 t12 t13 t14 t15 t16 t17 t18 t19 t20 t21 t22 t23 t24 t25 t26 t27 t28 t29 t30 t31 t32 t33 t34 t35 t36 t37 t38 t39 t40 t41 t42 t43 t44 D W hA hD
    have HA : Hid (Adm w x S c s l W) := hA
    have d0 := hD.cell 0
    have d1 := hD.cell 1
    have d2 := hD.cell 2
    clear hA hD HA0 HF HX x3
    refine a0 _ _ ?_
    go_wp2_with (go_at_call 56; refine (HG.out _ HA.out).mono ?_; rintro e w3 ⟨rfl, hq3⟩; replace hq3 : Hid (Below W.heap.size W w3) := hq3)
    go_ret
    have h3 := HA.out.below hq3.out
    exact ⟨S, rfl, h3.1.bk, fun b q => .inl q, h3.2.1⟩
  replace HM : Hid _ := HM
  clear a0 a1
  go_region_held3 (fun w' => w'.cell? ⟨x, 3, none⟩ = some (.chan (some c)) ∧ w'.cell? ⟨w.heap.size, 1, none⟩ = some (.string l.t)) (go_keep) (first | (go_at_call 55; refine (HF.out _ (by repeat' (first | exact HA0.out | apply Adm.alloc | apply Adm.drew))).mono ?_; rintro e w1 ⟨rfl, HA1, K1⟩; replace HA1 : Hid (Adm w x S c s l w1) := HA1; have e1 : w1.cell? ⟨x, 3, none⟩ = some (.chan (some c)) := HX.out w1 HA1.out; have e2 : w1.cell? ⟨w.heap.size, 1, none⟩ = some (.string l.t) := HA1.out.2.2.cell 1; have DB : Hid (Blk w1 (w.heap.size + 1) #[.string ⟨#[]⟩, .string ⟨#[]⟩, .string ⟨#[]⟩] 132) := K1 _ _ _ (new_at (by simp)) (by omega); clear K1; have d0 := DB.out.cell 0; have d1 := DB.out.cell 1; have d2 := DB.out.cell 2; have g0 := DB.out.frozen 0; have g1 := DB.out.frozen 1; have g2 := DB.out.frozen 2; have dz := DB.out.lt) | (go_at_call 55; refine (HF.out _ (by repeat' (first | exact HA0.out | apply Adm.alloc | apply Adm.drew))).mono ?_; rintro e w1 ⟨rfl, HA1, K1⟩; replace HA1 : Hid (Adm w x S c s l w1) := HA1; have e1 : w1.cell? ⟨x, 3, none⟩ = some (.chan (some c)) := HX.out w1 HA1.out; have e2 : w1.cell? ⟨w.heap.size, 1, none⟩ = some (.string l.t) := HA1.out.2.2.cell 1; clear K1))
  all_goals first
    | exact HM.out _ _ _ _ _ _ _ _ _ _ _ _ _ _ _ _ _ _ _ _ _ _ _ _ _ _ _ _ _ _ _ _ _ _ _ _ _ _ _ _ _ _ (by repeat' (first | with_reducible exact HA1.out | with_reducible apply Adm.alloc | with_reducible apply Adm.drew)) (Blk.new w1 _ _)
    | exact HM.out _ _ _ _ _ _ _ _ _ _ _ _ _ _ _ _ _ _ _ _ _ _ _ _ _ _ _ _ _ _ _ _ _ _ _ _ _ _ _ _ (w.heap.size + 1) _ (by repeat' (first | with_reducible exact HA1.out | with_reducible apply Adm.alloc | with_reducible apply Adm.drew | (with_reducible apply Adm.set hS (by omega)))) (three_set DB.out _ _ _)

/-- behind the doing: the book, the line's copy, what is told -/
def AdmX (w Wc : World) (x : Nat) (S : Nat → Prop) (l : Ln) (r : Bk × An) (v : Value) (W : World) : Prop := ∃ S', BkAt W x S' r.1 ∧ (∀ b, S' b → S b ∨ Wc.heap.size ≤ b) ∧ Chg S w W ∧ Blk W w.heap.size (lnC l) 74 ∧ Rd 1 encS ⟨#[]⟩ W v r.2.s
def Adm2 (w : World) (x : Nat) (S : Nat → Prop) (l : Ln) (r : Bk × An) (v : Value) (W : World) : Prop := ∃ S', BkAt W x S' r.1 ∧ (∀ b, S' b → S b ∨ w.heap.size < b) ∧ Chg S w W ∧ Blk W w.heap.size (lnC l) 74 ∧ Rd 1 encS ⟨#[]⟩ W v r.2.s
theorem AdmX.late {w Wc W W' : World} {x : Nat} {S : Nat → Prop} {l : Ln} {r : Bk × An} {v : Value} (h : AdmX w Wc x S l r v W) (hz : w.heap.size < Wc.heap.size) (hb : Below W.heap.size W W') : Adm2 w x S l r v W' := by
  obtain ⟨S', h1, h2, h3, h4, h5⟩ := h
  exact ⟨S', h1.below hb, fun b q => (h2 b q).imp id (fun k => by omega), h3.trans (Chg.below (S := S) hb) (fun b q => .inl q), h4.below hb, h5.below hb⟩
theorem AdmX.early {w Wc W : World} {x : Nat} {S : Nat → Prop} {l : Ln} {r : Bk × An} {v : Value} {A : Nat} {t : TypeId} (hS : ∀ b, S b → b < w.heap.size) (h : AdmX w Wc x S l r v W) (hz : w.heap.size < A) (hA : A < Wc.heap.size) (hB : Blk W A #[.int .i64 0, .slice none 0 0] t) (a b : Value) : Adm2 w x S l r v ((W.setCell ⟨A, 0, none⟩ a).setCell ⟨A, 1, none⟩ b) := by
  obtain ⟨S', h1, h2, h3, h4, h5⟩ := h
  have s1 := sets_other A [a, b] 0 W
  have hzz : ((W.setCell ⟨A, 0, none⟩ a).setCell ⟨A, 1, none⟩ b).heap.size = W.heap.size := s1.2.2.2.1
  have hbb : ∀ k, k ≠ A → ((W.setCell ⟨A, 0, none⟩ a).setCell ⟨A, 1, none⟩ b).heap[k]? = W.heap[k]? := s1.2.2.2.2
  have hn : ∀ k, S' k → k ≠ A := fun k q => by
    rcases h2 k q with e | e
    · have := hS k e; omega
    · omega
  refine ⟨S', ?_, fun k q => (h2 k q).imp id (fun e => by omega), h3.sets A 0 [a, b] (.inr (by omega)), (hbb _ (by omega)).trans h4, ?_⟩
  · obtain ⟨vp, vn, vl, c, B⟩ := h1
    exact ⟨vp, vn, vl, c, B.same (fun k q => hbb k (hn k q)) (Nat.le_of_eq hzz.symm)⟩
  · obtain ⟨bb, cap, rfl, k1, k2, k3⟩ := h5
    refine ⟨bb, cap, rfl, k1, k2, fun hne => ?_⟩
    obtain ⟨g, e2, hg, hcc⟩ := k3 hne
    have hgn : g ≠ A := fun q => by
      have c0 := hcc 0 (List.length_pos_iff.2 hne) 0 _ rfl
      rw [q] at c0
      have c1 := hB.cell 0
      rw [show (⟨A, 0 * 1 + 0, none⟩ : Addr) = ⟨A, 0, none⟩ from rfl, c1] at c0
      cases c0
    exact ⟨g, e2, by rw [hzz]; exact hg, fun j hj i u hu => (World.cell?_of_block (a := ⟨g, j * 1 + i, none⟩) (hbb g hgn)).trans (hcc j hj i u hu)⟩
theorem two_setB {w : World} {g : Nat} {t : TypeId} {u0 u1 : Value} (h : Blk w g #[u0, u1] t) (a0 a1 : Value) : Blk ((w.setCell ⟨g, 0, none⟩ a0).setCell ⟨g, 1, none⟩ a1) g #[a0, a1] t := by
  have h0 : Blk (w.setCell ⟨g, 0, none⟩ a0) g #[a0, u1] t := (by simpa using h.set 0 a0)
  simpa using h0.set 1 a1
end Go.Proofs.YtlikdnmikdldfaaGreatDoor
namespace Go.Proofs.YtlikdnmikdldfaaGreatDoor
open Go.Conc Go.ChangeShapes Go.WideShapes Go.ChangeAt Go.RowKit
set_option linter.unusedVariables false
set_option linter.unusedSimpArgs false
theorem AdmX.blk {w Wc : World} {x : Nat} {S : Nat → Prop} {l : Ln} {r : Bk × An} {v : Value} {W : World} (h : AdmX w Wc x S l r v W) : Blk W w.heap.size (lnC l) 74 := by obtain ⟨_, _, _, _, h, _⟩ := h; exact h

set_option maxRecDepth 100000 in
set_option maxHeartbeats 2000000 in
theorem cmd_refused (w : World) (x c : Nat) (S : Nat → Prop) (s : Bk) (l : Ln) (line : ByteArray) (tk : Tk) (r : Bk × An) (text : ByteArray) (he : ¬ r.2.e = 0) (hx : x < w.heap.size) (hS : ∀ b, S b → b < w.heap.size) (H0 : Hid (BkC w x S c s)) (HX : Hid (∀ W, Adm w x S c s l W → W.cell? ⟨x, 3, none⟩ = some (.chan (some c))))
    (HF : Hid (∀ W, Adm w x S c s l W → Calls Tryz.prog 55 #[.agg #[.chan (some c)], .string l.t] W fun e w1 => e = .returned (.tuple #[.agg #[.string tk.t, .string tk.l, .string tk.r], .bool false]) ∧ Adm w x S c s l w1 ∧ ∀ g cs t, Blk W g cs t → w.heap.size ≤ g → Blk w1 g cs t))
    (HD : Hid (∀ W, Adm w x S c s l W → Calls Tryz.prog 35 #[.pointer (some ⟨x, 0, none⟩), .agg #[.int .i64 l.v, .string l.t, .string l.o, .int .u32 l.a, .int .i64 l.n, .int .u32 l.d, .int .i64 l.g]] W fun e w2 => ∃ bt nt ct, e = .returned (.agg #[.int .i64 r.2.e, .slice bt nt ct]) ∧ AdmX w W x S l r (.slice bt nt ct) w2 ∧ ∀ g cs t, Blk W g cs t → w.heap.size ≤ g → Blk w2 g cs t))
    (HTT : Hid (∀ W bt nt ct, Chg S w W → Rd 1 encS ⟨#[]⟩ W (.slice bt nt ct) r.2.s → Calls Tryz.prog 32 #[.agg #[.int .i64 r.2.e, .slice bt nt ct]] W fun e w' => e = .returned (.string text) ∧ Below W.heap.size W w')) :
    Calls Tryz.prog 34 #[.pointer (some ⟨x, 0, none⟩), .agg (lnC l), .string line] w (DoR w x S (r.1, text)) := by
  have hA0 : Adm w x S c s l (w.alloc (.cells (lnC l) 74)) := ⟨H0.out.below (by repeat' (first | with_reducible assumption | with_reducible exact Below.refl _ _ | with_reducible apply Below.drew | with_reducible apply below_drewN | with_reducible apply Below.setCell | with_reducible apply Below.alloc | omega | (simp; done) | (simp; omega))), Chg.below (by repeat' (first | with_reducible assumption | with_reducible exact Below.refl _ _ | with_reducible apply Below.drew | with_reducible apply below_drewN | with_reducible apply Below.setCell | with_reducible apply Below.alloc | omega | (simp; done) | (simp; omega))), Blk.new w _ _⟩
  have HA0 : Hid (Adm w x S c s l (w.alloc (.cells #[.int .i64 l.v, .string l.t, .string l.o, .int .u32 l.a, .int .i64 l.n, .int .u32 l.d, .int .i64 l.g] 74))) := hA0
  have x3 : w.cell? ⟨x, 3, none⟩ = some (.chan (some c)) := by
    have h := HX.out _ hA0
    rwa [World.cell?_alloc_past _ _ _ hx] at h
  clear hA0
  have hxa : ¬ (x = w.heap.size + 1) := by omega
  have hxb : ¬ (w.heap.size + 1 = x) := by omega
  have hxc : ¬ (x = w.heap.size) := by omega
  have hxd : ¬ (w.heap.size = x) := by omega
  have HI : Hid (∀ bt nt ct W, Calls Tryz.prog 52 #[.agg #[.int .i64 r.2.e, .slice bt nt ct]] W fun e w' => e = .returned (.bool false) ∧ Below W.heap.size W w') := fun bt nt ct W => by
    have h := isOK_any r.2.e bt nt ct W
    rw [decide_eq_false he] at h
    exact h
  have HE : Hid (¬ r.2.e = 0) := he
  clear he
  show Calls _ _ #[.pointer (some ⟨x, 0, none⟩), .agg #[.int .i64 l.v, .string l.t, .string l.o, .int .u32 l.a, .int .i64 l.n, .int .u32 l.d, .int .i64 l.g], .string line] _ _
  go_enter Tryz.func34, Tryz.ntmps34
  go_wp2
  rename_i K1 a1 K0 a0
  have HM : Hid (∀ (t1 t3 t5 t6 t7 t9 t10 t11 t12 t13 t14 t15 t16 t17 t18 t19 t20 t21 t22 t23 t24 t25 t26 t27 t28 t29 t30 t31 t32 t33 t34 t35 t36 t37 t38 t39 t40 t41 t42 t43 t44 : Value) (W : World), Adm w x S c s l W → K0 ⟨#[.pointer (some ⟨x, 0, none⟩), t1, .string line, t3, .pointer (some ⟨w.heap.size, 0, none⟩), t5, t6, t7, .bool false, t9, t10, t11, t12, t13, t14, t15, t16, t17, t18, t19, t20, t21, t22, t23, t24, t25, t26, t27, t28, t29, t30, t31, t32, t33, t34, t35, t36, t37, t38, t39, t40, t41, t42, t43, t44], []⟩ W) := by
    intro t1 t3 t5 t6 t7 t9 t10 t11 t12 t13 t14 t15 t16 t17 t18 t19 t20 t21 t22 t23 t24 t25 t26 t27 t28 t29 t30 t31 t32 t33 t34 t35 t36 t37 t38 t39 t40 t41 t42 t43 t44 W hA
    have HA : Hid (Adm w x S c s l W) := hA
    have LW := hA.2.2
    have l0 : W.cell? ⟨w.heap.size, 0, none⟩ = some (.int .i64 l.v) := LW.cell 0
    have l1 : W.cell? ⟨w.heap.size, 1, none⟩ = some (.string l.t) := LW.cell 1
    have l2 : W.cell? ⟨w.heap.size, 2, none⟩ = some (.string l.o) := LW.cell 2
    have l3 : W.cell? ⟨w.heap.size, 3, none⟩ = some (.int .u32 l.a) := LW.cell 3
    have l4 : W.cell? ⟨w.heap.size, 4, none⟩ = some (.int .i64 l.n) := LW.cell 4
    have l5 : W.cell? ⟨w.heap.size, 5, none⟩ = some (.int .u32 l.d) := LW.cell 5
    have l6 : W.cell? ⟨w.heap.size, 6, none⟩ = some (.int .i64 l.g) := LW.cell 6
    have zW := LW.lt
    have zWx : x < W.heap.size := by omega
    have zW1 : ¬ (w.heap.size = W.heap.size) := by omega
    have zW2 : ¬ (W.heap.size = w.heap.size) := by omega
    clear hA LW HA0 HF HX x3
    refine a0 _ _ ?_
    go_wp2
    rename_i K3 a3
    have HM2 : Hid (∀ (u1 u3 u5 u6 u7 u8 u10 u11 u12 u13 u14 u15 u16 u17 u18 u19 u20 u21 u22 u23 u24 u25 u26 u27 u28 u29 u30 u31 u32 u33 u34 u35 u36 u37 u38 u39 u40 u41 u42 u43 u44 : Value) (A : Nat) (bt : Option Addr) (nt ct : Nat) (W2 : World), w.heap.size < A → Adm2 w x S l r (.slice bt nt ct) W2 → Blk W2 A #[.int .i64 r.2.e, .slice bt nt ct] 79 → K3 ⟨#[.pointer (some ⟨x, 0, none⟩), u1, .string line, u3, .pointer (some ⟨w.heap.size, 0, none⟩), u5, u6, u7, u8, .pointer (some ⟨A, 0, none⟩), u10, u11, u12, u13, u14, u15, u16, u17, u18, u19, u20, u21, u22, u23, u24, u25, u26, u27, u28, u29, u30, u31, u32, u33, u34, u35, u36, u37, u38, u39, u40, u41, u42, u43, u44], []⟩ W2) := by
      intro u1 u3 u5 u6 u7 u8 u10 u11 u12 u13 u14 u15 u16 u17 u18 u19 u20 u21 u22 u23 u24 u25 u26 u27 u28 u29 u30 u31 u32 u33 u34 u35 u36 u37 u38 u39 u40 u41 u42 u43 u44 A bt nt ct W2 hzA hA2 hB2
      obtain ⟨S', hbk, hS', hC2, hL2, hR2⟩ := hA2
      obtain ⟨vp, vn, vl, c2, BB⟩ := hbk
      have x32 : W2.cell? ⟨x, 3, none⟩ = some (.chan (some c2)) := BB.blk.cell 3
      have zx := BB.blk.lt
      have zl := hL2.lt
      have l1 : W2.cell? ⟨w.heap.size, 1, none⟩ = some (.string l.t) := hL2.cell 1
      have p0 := hB2.cell 0
      have p1 := hB2.cell 1
      have zA := hB2.lt
      have ncx : (some c2 : Option Nat) ≠ some x := fun e => BB.xc (by cases e; rfl)
      have ncl : (some c2 : Option Nat) ≠ some w.heap.size := fun e => by
        have h1 : c2 = w.heap.size := by cases e; rfl
        rcases hS' c2 BB.sc with q | q
        · have := hS c2 q; omega
        · omega
      have HC2 : Hid (Chg S w W2) := hC2
      have HRD : Hid (Rd 1 encS ⟨#[]⟩ W2 (.slice bt nt ct) r.2.s) := hR2
      have HR3 : Hid (BA W2 x S' vp vn vl c2 r.1 ∧ (∀ b, S' b → S b ∨ w.heap.size < b) ∧ Chg S w W2) := ⟨BB, hS', hC2⟩
      have HCH : Hid (∀ W, Below W2.heap.size W2 W → Ch W c2 r.1.toks) := fun W hW => BB.ch.same (hW.block c2 (BB.sz c2 BB.sc))
      replace ncx : (some x : Option Nat) ≠ some c2 := fun e => ncx e.symm
      replace ncl : (some w.heap.size : Option Nat) ≠ some c2 := fun e => ncl e.symm
      clear BB hS' hC2 hL2 hR2 hB2 HD HA l0 l2 l3 l4 l5 l6
      refine a3 _ _ ?_
      go_wp2_with (first | (go_at_call 32; refine (HTT.out W2 bt nt ct HC2.out HRD.out).mono ?_; rintro e w3 ⟨rfl, hq3⟩; replace hq3 : Hid (Below W2.heap.size W2 w3) := hq3; have b0 : w3.cell? ⟨A, 0, none⟩ = some (.int .i64 r.2.e) := (hq3.out.cell (p := ⟨A, 0, none⟩) zA).trans p0; have b1 : w3.cell? ⟨A, 1, none⟩ = some (.slice bt nt ct) := (hq3.out.cell (p := ⟨A, 1, none⟩) zA).trans p1) | (go_at_call 52; refine (HI.out bt nt ct _).mono ?_; rintro e w4 ⟨rfl, hq4⟩; have hb4 : Hid (Below W2.heap.size W2 w4) := hq3.out.trans (hq4.mono hq3.out.size); clear hq4))
      go_ret
      obtain ⟨hB, h2, h3⟩ := HR3.out
      exact ⟨S', rfl, ⟨_, _, _, _, hB.below hb4.out⟩, fun b q => (h2 b q).imp id (fun k => by omega), h3.trans (Chg.below (S := S) hb4.out) (fun b q => .inl q)⟩
    replace HM2 : Hid _ := HM2
    clear a3
    go_region_held3 (fun w' => w'.cell? ⟨w.heap.size, 0, none⟩ = some (.int .i64 l.v) ∧ w'.cell? ⟨w.heap.size, 1, none⟩ = some (.string l.t) ∧ w'.cell? ⟨w.heap.size, 2, none⟩ = some (.string l.o) ∧ w'.cell? ⟨w.heap.size, 3, none⟩ = some (.int .u32 l.a) ∧ w'.cell? ⟨w.heap.size, 4, none⟩ = some (.int .i64 l.n) ∧ w'.cell? ⟨w.heap.size, 5, none⟩ = some (.int .u32 l.d) ∧ w'.cell? ⟨w.heap.size, 6, none⟩ = some (.int .i64 l.g)) (go_keep) (first | (go_at_call 35; refine (HD.out _ (by repeat' (first | with_reducible exact HA.out | with_reducible apply Adm.alloc | with_reducible apply Adm.drew))).mono ?_; rintro e w2 ⟨bt, nt, ct, rfl, HX2, K2⟩; replace HX2 : Hid (AdmX w _ x S l r (.slice bt nt ct) w2) := HX2; have LB : Hid (Blk w2 w.heap.size #[.int .i64 l.v, .string l.t, .string l.o, .int .u32 l.a, .int .i64 l.n, .int .u32 l.d, .int .i64 l.g] 74) := HX2.out.blk; have m0 : w2.cell? ⟨w.heap.size, 0, none⟩ = some (.int .i64 l.v) := LB.out.cell 0; have m1 : w2.cell? ⟨w.heap.size, 1, none⟩ = some (.string l.t) := LB.out.cell 1; have m2 : w2.cell? ⟨w.heap.size, 2, none⟩ = some (.string l.o) := LB.out.cell 2; have m3 : w2.cell? ⟨w.heap.size, 3, none⟩ = some (.int .u32 l.a) := LB.out.cell 3; have m4 : w2.cell? ⟨w.heap.size, 4, none⟩ = some (.int .i64 l.n) := LB.out.cell 4; have m5 : w2.cell? ⟨w.heap.size, 5, none⟩ = some (.int .u32 l.d) := LB.out.cell 5; have m6 : w2.cell? ⟨w.heap.size, 6, none⟩ = some (.int .i64 l.g) := LB.out.cell 6; have mz := LB.out.lt; have AB : Hid (Blk w2 W.heap.size #[.int .i64 0, .slice none 0 0] 79) := K2 _ _ _ (new_at (by simp)) (by have := HA.out.2.2.lt; omega); clear K2; have d0 := AB.out.cell 0; have d1 := AB.out.cell 1; have g0 := AB.out.frozen 0; have g1 := AB.out.frozen 1; have dz := AB.out.lt) | (go_at_call 35; refine (HD.out _ (by repeat' (first | with_reducible exact HA.out | with_reducible apply Adm.alloc | with_reducible apply Adm.drew))).mono ?_; rintro e w2 ⟨bt, nt, ct, rfl, HX2, K2⟩; replace HX2 : Hid (AdmX w _ x S l r (.slice bt nt ct) w2) := HX2; have LB : Hid (Blk w2 w.heap.size #[.int .i64 l.v, .string l.t, .string l.o, .int .u32 l.a, .int .i64 l.n, .int .u32 l.d, .int .i64 l.g] 74) := HX2.out.blk; have m0 : w2.cell? ⟨w.heap.size, 0, none⟩ = some (.int .i64 l.v) := LB.out.cell 0; have m1 : w2.cell? ⟨w.heap.size, 1, none⟩ = some (.string l.t) := LB.out.cell 1; have m2 : w2.cell? ⟨w.heap.size, 2, none⟩ = some (.string l.o) := LB.out.cell 2; have m3 : w2.cell? ⟨w.heap.size, 3, none⟩ = some (.int .u32 l.a) := LB.out.cell 3; have m4 : w2.cell? ⟨w.heap.size, 4, none⟩ = some (.int .i64 l.n) := LB.out.cell 4; have m5 : w2.cell? ⟨w.heap.size, 5, none⟩ = some (.int .u32 l.d) := LB.out.cell 5; have m6 : w2.cell? ⟨w.heap.size, 6, none⟩ = some (.int .i64 l.g) := LB.out.cell 6; have mz := LB.out.lt; clear K2))
    all_goals first
      | exact HM2.out _ _ _ _ _ _ _ _ _ _ _ _ _ _ _ _ _ _ _ _ _ _ _ _ _ _ _ _ _ _ _ _ _ _ _ _ _ _ _ _ _ w2.heap.size _ _ _ _ (by omega) (HX2.out.late (by simp; omega) (by repeat' (first | with_reducible exact Below.refl _ _ | with_reducible apply Below.drew | with_reducible apply Below.alloc | omega | (simp; done)))) (Blk.new w2 _ _)
      | exact HM2.out _ _ _ _ _ _ _ _ _ _ _ _ _ _ _ _ _ _ _ _ _ _ _ _ _ _ _ _ _ _ _ _ _ _ _ _ _ _ _ _ _ W.heap.size _ _ _ _ (by omega) (AdmX.early hS HX2.out (by omega) (by simp) AB.out _ _) (two_setB AB.out _ _)
  replace HM : Hid _ := HM
  clear a0 a1
  go_region_held3 (fun w' => w'.cell? ⟨x, 3, none⟩ = some (.chan (some c)) ∧ w'.cell? ⟨w.heap.size, 1, none⟩ = some (.string l.t)) (go_keep) (first | (go_at_call 55; refine (HF.out _ (by repeat' (first | exact HA0.out | apply Adm.alloc | apply Adm.drew))).mono ?_; rintro e w1 ⟨rfl, HA1, K1⟩; replace HA1 : Hid (Adm w x S c s l w1) := HA1; have e1 : w1.cell? ⟨x, 3, none⟩ = some (.chan (some c)) := HX.out w1 HA1.out; have e2 : w1.cell? ⟨w.heap.size, 1, none⟩ = some (.string l.t) := HA1.out.2.2.cell 1; have DB : Hid (Blk w1 (w.heap.size + 1) #[.string ⟨#[]⟩, .string ⟨#[]⟩, .string ⟨#[]⟩] 132) := K1 _ _ _ (new_at (by simp)) (by omega); clear K1; have d0 := DB.out.cell 0; have d1 := DB.out.cell 1; have d2 := DB.out.cell 2; have g0 := DB.out.frozen 0; have g1 := DB.out.frozen 1; have g2 := DB.out.frozen 2; have dz := DB.out.lt) | (go_at_call 55; refine (HF.out _ (by repeat' (first | exact HA0.out | apply Adm.alloc | apply Adm.drew))).mono ?_; rintro e w1 ⟨rfl, HA1, K1⟩; replace HA1 : Hid (Adm w x S c s l w1) := HA1; have e1 : w1.cell? ⟨x, 3, none⟩ = some (.chan (some c)) := HX.out w1 HA1.out; have e2 : w1.cell? ⟨w.heap.size, 1, none⟩ = some (.string l.t) := HA1.out.2.2.cell 1; clear K1))
  all_goals first
    | exact HM.out _ _ _ _ _ _ _ _ _ _ _ _ _ _ _ _ _ _ _ _ _ _ _ _ _ _ _ _ _ _ _ _ _ _ _ _ _ _ _ _ _ _ (by repeat' (first | with_reducible exact HA1.out | with_reducible apply Adm.alloc | with_reducible apply Adm.drew | (with_reducible apply Adm.set hS (by omega))))
end Go.Proofs.YtlikdnmikdldfaaGreatDoor
namespace Go.Proofs.YtlikdnmikdldfaaGreatDoor
open Go.Conc Go.ChangeShapes Go.WideShapes Go.ChangeAt Go.RowKit
set_option linter.unusedVariables false
set_option linter.unusedSimpArgs false

set_option maxRecDepth 100000 in
set_option maxHeartbeats 2000000 in
theorem cmd_done (w : World) (x c : Nat) (S : Nat → Prop) (s : Bk) (l : Ln) (line : ByteArray) (tk : Tk) (r : Bk × An) (text : ByteArray) (he : r.2.e = 0) (hx : x < w.heap.size) (hS : ∀ b, S b → b < w.heap.size) (H0 : Hid (BkC w x S c s)) (HX : Hid (∀ W, Adm w x S c s l W → W.cell? ⟨x, 3, none⟩ = some (.chan (some c))))
    (HF : Hid (∀ W, Adm w x S c s l W → Calls Tryz.prog 55 #[.agg #[.chan (some c)], .string l.t] W fun e w1 => e = .returned (.tuple #[.agg #[.string tk.t, .string tk.l, .string tk.r], .bool false]) ∧ Adm w x S c s l w1 ∧ ∀ g cs t, Blk W g cs t → w.heap.size ≤ g → Blk w1 g cs t))
    (HD : Hid (∀ W, Adm w x S c s l W → Calls Tryz.prog 35 #[.pointer (some ⟨x, 0, none⟩), .agg #[.int .i64 l.v, .string l.t, .string l.o, .int .u32 l.a, .int .i64 l.n, .int .u32 l.d, .int .i64 l.g]] W fun e w2 => ∃ bt nt ct, e = .returned (.agg #[.int .i64 r.2.e, .slice bt nt ct]) ∧ AdmX w W x S l r (.slice bt nt ct) w2 ∧ ∀ g cs t, Blk W g cs t → w.heap.size ≤ g → Blk w2 g cs t))
    (HTT : Hid (∀ W bt nt ct, Chg S w W → Rd 1 encS ⟨#[]⟩ W (.slice bt nt ct) r.2.s → Calls Tryz.prog 32 #[.agg #[.int .i64 r.2.e, .slice bt nt ct]] W fun e w' => e = .returned (.string text) ∧ Below W.heap.size W w'))
    (HAD : Hid (∀ W c2, Ch W c2 r.1.toks → Calls Tryz.prog 57 #[.agg #[.chan (some c2)], .agg #[.string l.t, .string line, .string text]] W fun e w' => e = .returned (.tuple #[]) ∧ Ch w' c2 (addT r.1.toks ⟨l.t, line, text⟩) ∧ W.grownBy w' (some c2))) :
    Calls Tryz.prog 34 #[.pointer (some ⟨x, 0, none⟩), .agg (lnC l), .string line] w (DoR w x S ({ r.1 with toks := addT r.1.toks ⟨l.t, line, text⟩ }, text)) := by
  have hA0 : Adm w x S c s l (w.alloc (.cells (lnC l) 74)) := ⟨H0.out.below (by repeat' (first | with_reducible assumption | with_reducible exact Below.refl _ _ | with_reducible apply Below.drew | with_reducible apply below_drewN | with_reducible apply Below.setCell | with_reducible apply Below.alloc | omega | (simp; done) | (simp; omega))), Chg.below (by repeat' (first | with_reducible assumption | with_reducible exact Below.refl _ _ | with_reducible apply Below.drew | with_reducible apply below_drewN | with_reducible apply Below.setCell | with_reducible apply Below.alloc | omega | (simp; done) | (simp; omega))), Blk.new w _ _⟩
  have HA0 : Hid (Adm w x S c s l (w.alloc (.cells #[.int .i64 l.v, .string l.t, .string l.o, .int .u32 l.a, .int .i64 l.n, .int .u32 l.d, .int .i64 l.g] 74))) := hA0
  have x3 : w.cell? ⟨x, 3, none⟩ = some (.chan (some c)) := by
    have h := HX.out _ hA0
    rwa [World.cell?_alloc_past _ _ _ hx] at h
  clear hA0
  have hxa : ¬ (x = w.heap.size + 1) := by omega
  have hxb : ¬ (w.heap.size + 1 = x) := by omega
  have hxc : ¬ (x = w.heap.size) := by omega
  have hxd : ¬ (w.heap.size = x) := by omega
  have HI : Hid (∀ bt nt ct W, Calls Tryz.prog 52 #[.agg #[.int .i64 r.2.e, .slice bt nt ct]] W fun e w' => e = .returned (.bool true) ∧ Below W.heap.size W w') := fun bt nt ct W => by
    have h := isOK_any r.2.e bt nt ct W
    rw [decide_eq_true he] at h
    exact h
  have HE : Hid (r.2.e = 0) := he
  clear he
  show Calls _ _ #[.pointer (some ⟨x, 0, none⟩), .agg #[.int .i64 l.v, .string l.t, .string l.o, .int .u32 l.a, .int .i64 l.n, .int .u32 l.d, .int .i64 l.g], .string line] _ _
  go_enter Tryz.func34, Tryz.ntmps34
  go_wp2
  rename_i K1 a1 K0 a0
  have HM : Hid (∀ (t1 t3 t5 t6 t7 t9 t10 t11 t12 t13 t14 t15 t16 t17 t18 t19 t20 t21 t22 t23 t24 t25 t26 t27 t28 t29 t30 t31 t32 t33 t34 t35 t36 t37 t38 t39 t40 t41 t42 t43 t44 : Value) (W : World), Adm w x S c s l W → K0 ⟨#[.pointer (some ⟨x, 0, none⟩), t1, .string line, t3, .pointer (some ⟨w.heap.size, 0, none⟩), t5, t6, t7, .bool false, t9, t10, t11, t12, t13, t14, t15, t16, t17, t18, t19, t20, t21, t22, t23, t24, t25, t26, t27, t28, t29, t30, t31, t32, t33, t34, t35, t36, t37, t38, t39, t40, t41, t42, t43, t44], []⟩ W) := by
    intro t1 t3 t5 t6 t7 t9 t10 t11 t12 t13 t14 t15 t16 t17 t18 t19 t20 t21 t22 t23 t24 t25 t26 t27 t28 t29 t30 t31 t32 t33 t34 t35 t36 t37 t38 t39 t40 t41 t42 t43 t44 W hA
    have HA : Hid (Adm w x S c s l W) := hA
    have LW := hA.2.2
    have l0 : W.cell? ⟨w.heap.size, 0, none⟩ = some (.int .i64 l.v) := LW.cell 0
    have l1 : W.cell? ⟨w.heap.size, 1, none⟩ = some (.string l.t) := LW.cell 1
    have l2 : W.cell? ⟨w.heap.size, 2, none⟩ = some (.string l.o) := LW.cell 2
    have l3 : W.cell? ⟨w.heap.size, 3, none⟩ = some (.int .u32 l.a) := LW.cell 3
    have l4 : W.cell? ⟨w.heap.size, 4, none⟩ = some (.int .i64 l.n) := LW.cell 4
    have l5 : W.cell? ⟨w.heap.size, 5, none⟩ = some (.int .u32 l.d) := LW.cell 5
    have l6 : W.cell? ⟨w.heap.size, 6, none⟩ = some (.int .i64 l.g) := LW.cell 6
    have zW := LW.lt
    have zWx : x < W.heap.size := by omega
    have zW1 : ¬ (w.heap.size = W.heap.size) := by omega
    have zW2 : ¬ (W.heap.size = w.heap.size) := by omega
    clear hA LW HA0 HF HX x3
    refine a0 _ _ ?_
    go_wp2
    rename_i K3 a3
    have HM2 : Hid (∀ (u1 u3 u5 u6 u7 u8 u10 u11 u12 u13 u14 u15 u16 u17 u18 u19 u20 u21 u22 u23 u24 u25 u26 u27 u28 u29 u30 u31 u32 u33 u34 u35 u36 u37 u38 u39 u40 u41 u42 u43 u44 : Value) (A : Nat) (bt : Option Addr) (nt ct : Nat) (W2 : World), w.heap.size < A → Adm2 w x S l r (.slice bt nt ct) W2 → Blk W2 A #[.int .i64 r.2.e, .slice bt nt ct] 79 → K3 ⟨#[.pointer (some ⟨x, 0, none⟩), u1, .string line, u3, .pointer (some ⟨w.heap.size, 0, none⟩), u5, u6, u7, u8, .pointer (some ⟨A, 0, none⟩), u10, u11, u12, u13, u14, u15, u16, u17, u18, u19, u20, u21, u22, u23, u24, u25, u26, u27, u28, u29, u30, u31, u32, u33, u34, u35, u36, u37, u38, u39, u40, u41, u42, u43, u44], []⟩ W2) := by
      intro u1 u3 u5 u6 u7 u8 u10 u11 u12 u13 u14 u15 u16 u17 u18 u19 u20 u21 u22 u23 u24 u25 u26 u27 u28 u29 u30 u31 u32 u33 u34 u35 u36 u37 u38 u39 u40 u41 u42 u43 u44 A bt nt ct W2 hzA hA2 hB2
      obtain ⟨S', hbk, hS', hC2, hL2, hR2⟩ := hA2
      obtain ⟨vp, vn, vl, c2, BB⟩ := hbk
      have x32 : W2.cell? ⟨x, 3, none⟩ = some (.chan (some c2)) := BB.blk.cell 3
      have zx := BB.blk.lt
      have zl := hL2.lt
      have l1 : W2.cell? ⟨w.heap.size, 1, none⟩ = some (.string l.t) := hL2.cell 1
      have p0 := hB2.cell 0
      have p1 := hB2.cell 1
      have zA := hB2.lt
      have ncx : (some c2 : Option Nat) ≠ some x := fun e => BB.xc (by cases e; rfl)
      have ncl : (some c2 : Option Nat) ≠ some w.heap.size := fun e => by
        have h1 : c2 = w.heap.size := by cases e; rfl
        rcases hS' c2 BB.sc with q | q
        · have := hS c2 q; omega
        · omega
      have HC2 : Hid (Chg S w W2) := hC2
      have HRD : Hid (Rd 1 encS ⟨#[]⟩ W2 (.slice bt nt ct) r.2.s) := hR2
      have HR3 : Hid (BA W2 x S' vp vn vl c2 r.1 ∧ (∀ b, S' b → S b ∨ w.heap.size < b) ∧ Chg S w W2) := ⟨BB, hS', hC2⟩
      have HCH : Hid (∀ W, Below W2.heap.size W2 W → Ch W c2 r.1.toks) := fun W hW => BB.ch.same (hW.block c2 (BB.sz c2 BB.sc))
      replace ncx : (some x : Option Nat) ≠ some c2 := fun e => ncx e.symm
      replace ncl : (some w.heap.size : Option Nat) ≠ some c2 := fun e => ncl e.symm
      clear BB hS' hC2 hL2 hR2 hB2 HD HA l0 l2 l3 l4 l5 l6
      refine a3 _ _ ?_
      go_wp2_with (first | (go_at_call 32; refine (HTT.out W2 bt nt ct HC2.out HRD.out).mono ?_; rintro e w3 ⟨rfl, hq3⟩; replace hq3 : Hid (Below W2.heap.size W2 w3) := hq3; have b0 : w3.cell? ⟨A, 0, none⟩ = some (.int .i64 r.2.e) := (hq3.out.cell (p := ⟨A, 0, none⟩) zA).trans p0; have b1 : w3.cell? ⟨A, 1, none⟩ = some (.slice bt nt ct) := (hq3.out.cell (p := ⟨A, 1, none⟩) zA).trans p1) | (go_at_call 52; refine (HI.out bt nt ct _).mono ?_; rintro e w4 ⟨rfl, hq4⟩; have hb4 : Hid (Below W2.heap.size W2 w4) := hq3.out.trans (hq4.mono hq3.out.size); clear hq4; have y3 : w4.cell? ⟨x, 3, none⟩ = some (.chan (some c2)) := (hb4.out.cell (p := ⟨x, 3, none⟩) zx).trans x32; have y1 : w4.cell? ⟨w.heap.size, 1, none⟩ = some (.string l.t) := (hb4.out.cell (p := ⟨w.heap.size, 1, none⟩) zl).trans l1; have zx4 := Nat.lt_of_lt_of_le zx hb4.out.size; have zl4 := Nat.lt_of_lt_of_le zl hb4.out.size))
      go_region_held3 (fun w' => w'.cell? ⟨x, 3, none⟩ = some (.chan (some c2)) ∧ w'.cell? ⟨w.heap.size, 1, none⟩ = some (.string l.t)) (go_keep) (first | (go_at_call 57; refine (HAD.out _ c2 (HCH.out _ (by repeat' (first | with_reducible exact hb4.out | with_reducible apply Below.drew)))).mono ?_; rintro e w5 ⟨rfl, hch5, hg5⟩; replace hch5 : Hid (Ch w5 c2 (addT r.1.toks ⟨l.t, line, text⟩)) := hch5; replace hg5 : Hid (World.grownBy w4.drew w5 (some c2)) := hg5; have y35 : w5.cell? ⟨x, 3, none⟩ = some (.chan (some c2)) := (World.cell?_of_block (a := ⟨x, 3, none⟩) (hg5.out.block x zx4 ncx)).trans y3; have y15 : w5.cell? ⟨w.heap.size, 1, none⟩ = some (.string l.t) := (World.cell?_of_block (a := ⟨w.heap.size, 1, none⟩) (hg5.out.block w.heap.size zl4 ncl)).trans y1))
      all_goals (
        go_wp2
        go_ret
        obtain ⟨hB, h2, h3⟩ := HR3.out
        have hb5 : Below W2.heap.size W2 w4.drew := hb4.out.drew
        have hB5 := (hB.below hb5).toks _ hch5.out hg5.out
        exact ⟨S', rfl, ⟨_, _, _, _, hB5⟩, fun b q => (h2 b q).imp id (fun k => by omega), (h3.trans (Chg.below (S := S) hb5) (fun b q => .inl q)).trans (Chg.grown (S := S') hg5.out (fun b e => by cases e; exact hB.sc)) (fun b q => (h2 b q).imp id (fun k => by omega))⟩)
    replace HM2 : Hid _ := HM2
    clear a3
    go_region_held3 (fun w' => w'.cell? ⟨w.heap.size, 0, none⟩ = some (.int .i64 l.v) ∧ w'.cell? ⟨w.heap.size, 1, none⟩ = some (.string l.t) ∧ w'.cell? ⟨w.heap.size, 2, none⟩ = some (.string l.o) ∧ w'.cell? ⟨w.heap.size, 3, none⟩ = some (.int .u32 l.a) ∧ w'.cell? ⟨w.heap.size, 4, none⟩ = some (.int .i64 l.n) ∧ w'.cell? ⟨w.heap.size, 5, none⟩ = some (.int .u32 l.d) ∧ w'.cell? ⟨w.heap.size, 6, none⟩ = some (.int .i64 l.g)) (go_keep) (first | (go_at_call 35; refine (HD.out _ (by repeat' (first | with_reducible exact HA.out | with_reducible apply Adm.alloc | with_reducible apply Adm.drew))).mono ?_; rintro e w2 ⟨bt, nt, ct, rfl, HX2, K2⟩; replace HX2 : Hid (AdmX w _ x S l r (.slice bt nt ct) w2) := HX2; have LB : Hid (Blk w2 w.heap.size #[.int .i64 l.v, .string l.t, .string l.o, .int .u32 l.a, .int .i64 l.n, .int .u32 l.d, .int .i64 l.g] 74) := HX2.out.blk; have m0 : w2.cell? ⟨w.heap.size, 0, none⟩ = some (.int .i64 l.v) := LB.out.cell 0; have m1 : w2.cell? ⟨w.heap.size, 1, none⟩ = some (.string l.t) := LB.out.cell 1; have m2 : w2.cell? ⟨w.heap.size, 2, none⟩ = some (.string l.o) := LB.out.cell 2; have m3 : w2.cell? ⟨w.heap.size, 3, none⟩ = some (.int .u32 l.a) := LB.out.cell 3; have m4 : w2.cell? ⟨w.heap.size, 4, none⟩ = some (.int .i64 l.n) := LB.out.cell 4; have m5 : w2.cell? ⟨w.heap.size, 5, none⟩ = some (.int .u32 l.d) := LB.out.cell 5; have m6 : w2.cell? ⟨w.heap.size, 6, none⟩ = some (.int .i64 l.g) := LB.out.cell 6; have mz := LB.out.lt; have AB : Hid (Blk w2 W.heap.size #[.int .i64 0, .slice none 0 0] 79) := K2 _ _ _ (new_at (by simp)) (by have := HA.out.2.2.lt; omega); clear K2; have d0 := AB.out.cell 0; have d1 := AB.out.cell 1; have g0 := AB.out.frozen 0; have g1 := AB.out.frozen 1; have dz := AB.out.lt) | (go_at_call 35; refine (HD.out _ (by repeat' (first | with_reducible exact HA.out | with_reducible apply Adm.alloc | with_reducible apply Adm.drew))).mono ?_; rintro e w2 ⟨bt, nt, ct, rfl, HX2, K2⟩; replace HX2 : Hid (AdmX w _ x S l r (.slice bt nt ct) w2) := HX2; have LB : Hid (Blk w2 w.heap.size #[.int .i64 l.v, .string l.t, .string l.o, .int .u32 l.a, .int .i64 l.n, .int .u32 l.d, .int .i64 l.g] 74) := HX2.out.blk; have m0 : w2.cell? ⟨w.heap.size, 0, none⟩ = some (.int .i64 l.v) := LB.out.cell 0; have m1 : w2.cell? ⟨w.heap.size, 1, none⟩ = some (.string l.t) := LB.out.cell 1; have m2 : w2.cell? ⟨w.heap.size, 2, none⟩ = some (.string l.o) := LB.out.cell 2; have m3 : w2.cell? ⟨w.heap.size, 3, none⟩ = some (.int .u32 l.a) := LB.out.cell 3; have m4 : w2.cell? ⟨w.heap.size, 4, none⟩ = some (.int .i64 l.n) := LB.out.cell 4; have m5 : w2.cell? ⟨w.heap.size, 5, none⟩ = some (.int .u32 l.d) := LB.out.cell 5; have m6 : w2.cell? ⟨w.heap.size, 6, none⟩ = some (.int .i64 l.g) := LB.out.cell 6; have mz := LB.out.lt; clear K2))
    all_goals first
      | exact HM2.out _ _ _ _ _ _ _ _ _ _ _ _ _ _ _ _ _ _ _ _ _ _ _ _ _ _ _ _ _ _ _ _ _ _ _ _ _ _ _ _ _ w2.heap.size _ _ _ _ (by omega) (HX2.out.late (by simp; omega) (by repeat' (first | with_reducible exact Below.refl _ _ | with_reducible apply Below.drew | with_reducible apply Below.alloc | omega | (simp; done)))) (Blk.new w2 _ _)
      | exact HM2.out _ _ _ _ _ _ _ _ _ _ _ _ _ _ _ _ _ _ _ _ _ _ _ _ _ _ _ _ _ _ _ _ _ _ _ _ _ _ _ _ _ W.heap.size _ _ _ _ (by omega) (AdmX.early hS HX2.out (by omega) (by simp) AB.out _ _) (two_setB AB.out _ _)
  replace HM : Hid _ := HM
  clear a0 a1
  go_region_held3 (fun w' => w'.cell? ⟨x, 3, none⟩ = some (.chan (some c)) ∧ w'.cell? ⟨w.heap.size, 1, none⟩ = some (.string l.t)) (go_keep) (first | (go_at_call 55; refine (HF.out _ (by repeat' (first | exact HA0.out | apply Adm.alloc | apply Adm.drew))).mono ?_; rintro e w1 ⟨rfl, HA1, K1⟩; replace HA1 : Hid (Adm w x S c s l w1) := HA1; have e1 : w1.cell? ⟨x, 3, none⟩ = some (.chan (some c)) := HX.out w1 HA1.out; have e2 : w1.cell? ⟨w.heap.size, 1, none⟩ = some (.string l.t) := HA1.out.2.2.cell 1; have DB : Hid (Blk w1 (w.heap.size + 1) #[.string ⟨#[]⟩, .string ⟨#[]⟩, .string ⟨#[]⟩] 132) := K1 _ _ _ (new_at (by simp)) (by omega); clear K1; have d0 := DB.out.cell 0; have d1 := DB.out.cell 1; have d2 := DB.out.cell 2; have g0 := DB.out.frozen 0; have g1 := DB.out.frozen 1; have g2 := DB.out.frozen 2; have dz := DB.out.lt) | (go_at_call 55; refine (HF.out _ (by repeat' (first | exact HA0.out | apply Adm.alloc | apply Adm.drew))).mono ?_; rintro e w1 ⟨rfl, HA1, K1⟩; replace HA1 : Hid (Adm w x S c s l w1) := HA1; have e1 : w1.cell? ⟨x, 3, none⟩ = some (.chan (some c)) := HX.out w1 HA1.out; have e2 : w1.cell? ⟨w.heap.size, 1, none⟩ = some (.string l.t) := HA1.out.2.2.cell 1; clear K1))
  all_goals first
    | exact HM.out _ _ _ _ _ _ _ _ _ _ _ _ _ _ _ _ _ _ _ _ _ _ _ _ _ _ _ _ _ _ _ _ _ _ _ _ _ _ _ _ _ _ (by repeat' (first | with_reducible exact HA1.out | with_reducible apply Adm.alloc | with_reducible apply Adm.drew | (with_reducible apply Adm.set hS (by omega))))
end Go.Proofs.YtlikdnmikdldfaaGreatDoor
namespace Go.Proofs.YtlikdnmikdldfaaGreatDoor
open Go.Conc Go.ChangeShapes Go.WideShapes Go.ChangeAt Go.RowKit
set_option linter.unusedVariables false
set_option linter.unusedSimpArgs false

theorem EnvT.chg {w w' : World} {S : Nat → Prop} (h : EnvT w) (hc : Chg S w w') (hG : ∀ b, S b → 10 ≤ b) : EnvT w' where
  env := h.env.chg hc hG
  lw := Nat.lt_of_lt_of_le h.lw hc.size
  lf := Nat.lt_of_lt_of_le h.lf hc.size
  wd := fun i v e => (World.cell?_of_block (a := ⟨1, i, none⟩) (hc.block _ h.lw (fun q => absurd (hG _ q) (by show ¬ 10 ≤ (1 : Nat); decide)))).trans (h.wd i v e)
  fm := fun i v e => (World.cell?_of_block (a := ⟨0, i, none⟩) (hc.block _ h.lf (fun q => absurd (hG _ q) (by show ¬ 10 ≤ (0 : Nat); decide)))).trans (h.fm i v e)
theorem size_of (l : List UInt8) : (⟨l.toArray⟩ : ByteArray).size = l.length := by show l.toArray.size = _; simp
theorem bText_lenC {a n : Int} (ha : ad a) (hn : 0 ≤ n) (h1 : n ≤ 32) : (bText a n).length ≤ 18 := wr_len _ _ (by have := ha.1; have := ha.2; omega) (by omega)
theorem hText_len {h : Hd} (ha : ad h.a) (hr : rt h.a h.n = true) (ho : h.o.size ≤ 8) : (⟨(hText h).toArray⟩ : ByteArray).size ≤ 100 := by
  obtain ⟨n0, n1, _⟩ := rt_iff.1 hr
  have h1 := bText_lenC ha n0 n1
  have h2 := Lib.size_eq h.o
  rw [size_of]
  unfold hText
  simp only [List.length_append, List.length_cons]
  omega
theorem lText_len {h : Ls} (ha : ad h.a) (ho : h.o.size ≤ 8) : (⟨(lText h).toArray⟩ : ByteArray).size ≤ 100 := by
  have h1 := dot_lenB h.a.toNat (by have := ha.1; have := ha.2; omega)
  have h2 := Lib.size_eq h.o
  rw [size_of]
  unfold lText
  simp only [List.length_append, List.length_cons]
  omega
def AnOk (a : An) : Prop := a.e < 14 ∧ a.s.length ≤ 1000 ∧ ∀ t, t ∈ a.s → t.size ≤ 100
theorem ref_ok (k : Nat) (h : k < 14) : AnOk (ref k) := ⟨h, by simp [ref], by simp [ref]⟩
theorem okA_ok : AnOk okA := ⟨by decide, by simp [okA], by simp [okA]⟩
theorem tell1_ok (t : ByteArray) (h : t.size ≤ 100) : AnOk (tell1 t) := ⟨by simp [tell1], by simp [tell1], by simpa [tell1] using h⟩
theorem ans_ok {s : Bk} {l : Ln} (hI : Inv s) (hL : LnOk l) : AnOk (doLn s l).2 := by
  unfold doLn
  split
  · unfold doPool
    split; · exact ref_ok 4 (by omega)
    split; · exact ref_ok 5 (by omega)
    split; · exact ref_ok 6 (by omega)
    exact okA_ok
  · unfold doDrop
    split; · exact ref_ok 7 (by omega)
    split; · exact ref_ok 8 (by omega)
    split; · exact ref_ok 9 (by omega)
    exact okA_ok
  · unfold doNet
    split; · exact ref_ok 7 (by omega)
    split; · exact ref_ok 4 (by omega)
    rcases hb : best (frees 33 (netsOf s.nets l.a l.n) l.a l.n) l.g with _ | b
    · exact ref_ok 10 (by omega)
    · dsimp only
      split
      · exact ref_ok 6 (by omega)
      · refine tell1_ok _ ?_
        rw [size_of]
        rcases best_mem _ _ _ hb with ⟨q1, q2⟩ | q
        · have h1 := frees_rt (netsOf s.nets l.a l.n) (fun h hh => (rt_iff.1 (hI.na h (List.mem_filter.1 hh).1).2.1).2.1) 33 l.a l.n hL.a hL.r b q1
          have := bText_lenC (n := l.g) h1.1 hL.g0 hL.g1
          omega
        · cases q
  · unfold doBlock
    split; · exact ref_ok 4 (by omega)
    split; · exact ref_ok 7 (by omega)
    split; · exact ref_ok 5 (by omega)
    split; · exact ref_ok 6 (by omega)
    exact okA_ok
  · unfold doFree
    split; · exact ref_ok 11 (by omega)
    split; · exact ref_ok 8 (by omega)
    split; · exact ref_ok 9 (by omega)
    exact okA_ok
  · unfold doLease
    split; · exact ref_ok 11 (by omega)
    rcases hb : least s.leases l.a l.n with _ | d
    · exact ref_ok 10 (by omega)
    · dsimp only
      split
      · exact ref_ok 6 (by omega)
      · refine tell1_ok _ ?_
        have := least_ad hL.a hL.r hb
        have h2 := dot_lenB d.toNat (by have h3 := this.1; have h4 := this.2; omega)
        rw [size_of]; omega
  · unfold doTake
    split; · exact ref_ok 11 (by omega)
    split; · exact ref_ok 12 (by omega)
    split; · exact ref_ok 13 (by omega)
    split; · exact ref_ok 6 (by omega)
    exact okA_ok
  · unfold doGive
    split
    · split; · exact ref_ok 8 (by omega)
      exact okA_ok
    · exact ref_ok 12 (by omega)
  · refine ⟨by show 0 < 14; omega, by show (s.pools.map _).length ≤ 1000; rw [List.length_map]; have := hI.p; omega, fun t ht => ?_⟩
    obtain ⟨h, hh, rfl⟩ := List.mem_map.1 ht
    have := hI.pa h hh
    exact hText_len this.1 this.2.1 this.2.2.2.2
  · unfold doNets
    split
    · exact ref_ok 7 (by omega)
    · refine ⟨by show 0 < 14; omega, by show ((netsOf s.nets l.a l.n).map _).length ≤ 1000; rw [List.length_map]; have := hI.n; have := List.length_filter_le (fun h : Hd => inn h.a h.n l.a l.n) s.nets; unfold netsOf; omega, fun t ht => ?_⟩
      obtain ⟨h, hh, rfl⟩ := List.mem_map.1 ht
      have := hI.na h (List.mem_filter.1 hh).1
      exact hText_len this.1 this.2.1 this.2.2.2
  · unfold doUsed
    split
    · exact ref_ok 11 (by omega)
    · refine ⟨by show 0 < 14; omega, by show ((leasesOf s.leases l.a l.n).map _).length ≤ 1000; rw [List.length_map]; have := hI.l; have := List.length_filter_le (fun h : Ls => inn h.a 32 l.a l.n) s.leases; unfold leasesOf; omega, fun t ht => ?_⟩
      obtain ⟨h, hh, rfl⟩ := List.mem_map.1 ht
      have := hI.la h (List.mem_filter.1 hh).1
      exact lText_len this.1 this.2
  · exact ref_ok 2 (by omega)
theorem doLn_toks (s : Bk) (l : Ln) : (doLn s l).1.toks = s.toks := by
  unfold doLn doPool doDrop doNet doBlock doFree doLease doTake doGive
  repeat' (first | rfl | split)
/-- what a command does, as doAll says it -/
def doCmd (s : Bk) (l : Ln) (line : ByteArray) : Bk × ByteArray :=
  match findT s.toks l.t with
  | some x => if x.l ≠ line then (s, ⟨(anText (ref 3)).toArray⟩) else (s, x.r)
  | none => if (doLn s l).2.e = 0 then ({ (doLn s l).1 with toks := addT (doLn s l).1.toks ⟨l.t, line, ⟨(anText (doLn s l).2).toArray⟩⟩ }, ⟨(anText (doLn s l).2).toArray⟩) else ((doLn s l).1, ⟨(anText (doLn s l).2).toArray⟩)
theorem command_any (w : World) (x : Nat) (S : Nat → Prop) (s : Bk) (l : Ln) (line : ByteArray) (E : EnvT w) (hI : Inv s) (hL : LnOk l) (hv : l.v < 11) (h : BkAt w x S s) (hG : ∀ b, S b → 10 ≤ b) (hZ : 10 ≤ w.heap.size) (hs : line.size ≤ 281474976710656) :
    Calls Tryz.prog 34 #[.pointer (some ⟨x, 0, none⟩), .agg (lnC l), .string line] w (DoR w x S (doCmd s l line)) := by
  obtain ⟨vp, vn, vl, c, B⟩ := h
  have hx := B.blk.lt
  have hS := B.sz
  have hC : BkC w x S c s := ⟨vp, vn, vl, B⟩
  have HX : ∀ W, Adm w x S c s l W → W.cell? ⟨x, 3, none⟩ = some (.chan (some c)) := fun W hA => by
    obtain ⟨_, _, _, BW⟩ := hA.1
    exact BW.blk.cell 3
  have HF : ∀ W, Adm w x S c s l W → Calls Tryz.prog 55 #[.agg #[.chan (some c)], .string l.t] W fun e w1 => e = .returned (.tuple #[vT ((findT s.toks l.t).getD tk0), .bool (findT s.toks l.t).isSome]) ∧ Adm w x S c s l w1 ∧ ∀ g cs t, Blk W g cs t → w.heap.size ≤ g → Blk w1 g cs t := fun W hA => by
    obtain ⟨wp, wn, wl, BW⟩ := hA.1
    refine (tfind_any W c s.toks l.t BW.ch hI.t).mono ?_
    rintro e w1 ⟨rfl, hch, hg⟩
    have hc : c < w.heap.size := hS c B.sc
    refine ⟨rfl, ⟨⟨wp, wn, wl, ?_⟩, hA.2.1.trans (Chg.grown (S := S) hg (fun b e => by cases e; exact B.sc)) (fun b q => .inl q), (hg.block _ hA.2.2.lt (by simp; omega)).trans hA.2.2⟩, fun g cs t hB hgw => (hg.block g hB.lt (by simp; omega)).trans hB⟩
    exact BW.toks s.toks hch hg
  have HD : ∀ W, Adm w x S c s l W → Calls Tryz.prog 35 #[.pointer (some ⟨x, 0, none⟩), .agg (lnC l)] W fun e w2 => ∃ bt nt ct, e = .returned (.agg #[.int .i64 (doLn s l).2.e, .slice bt nt ct]) ∧ AdmX w W x S l (doLn s l) (.slice bt nt ct) w2 ∧ ∀ g cs t, Blk W g cs t → w.heap.size ≤ g → Blk w2 g cs t := fun W hA => by
    refine (bookDo_any W x S s l (E.env.chg hA.2.1 hG) hI hL hA.1.bk hG (Nat.le_trans hZ hA.2.1.size) hv).mono ?_
    rintro e w2 ⟨v, S', rfl, hrd, hb, hs', hc2⟩
    obtain ⟨bt, ct, rfl, k1, k2, k3⟩ := hrd
    have hk : ∀ g cs t, Blk W g cs t → w.heap.size ≤ g → Blk w2 g cs t := fun g cs t hB hgw => (hc2.block g hB.lt (fun q => by have := hS g q; omega)).trans hB
    exact ⟨bt, _, ct, rfl, ⟨S', hb, hs', hA.2.1.trans hc2 (fun b q => .inl q), hk _ _ _ hA.2.2 (Nat.le_refl _), ⟨bt, ct, rfl, k1, k2, k3⟩⟩, hk⟩
  obtain ⟨o1, o2, o3⟩ := ans_ok hI hL
  have HTT : ∀ W bt nt ct, Chg S w W → Rd 1 encS ⟨#[]⟩ W (.slice bt nt ct) (doLn s l).2.s → Calls Tryz.prog 32 #[.agg #[.int .i64 (doLn s l).2.e, .slice bt nt ct]] W fun e w' => e = .returned (.string ⟨(anText (doLn s l).2).toArray⟩) ∧ Below W.heap.size W w' := fun W bt nt ct hc hr =>
    atext_any (doLn s l).2 o1 o2 o3 _ W (E.chg hc hG) hr
  unfold doCmd
  rcases hf : findT s.toks l.t with _ | tk
  · rw [hf] at HF
    by_cases he : (doLn s l).2.e = 0
    · dsimp only
      rw [if_pos he]
      refine cmd_done w x c S s l line tk0 (doLn s l) _ he hx hS hC HX HF HD HTT fun W c2 hch => ?_
      refine tadd_any W c2 (doLn s l).1.toks ⟨l.t, line, ⟨(anText (doLn s l).2).toArray⟩⟩ hch ?_ hs
      rw [doLn_toks]; exact hI.t
    · dsimp only
      rw [if_neg he]
      exact cmd_refused w x c S s l line tk0 (doLn s l) _ he hx hS hC HX HF HD HTT
  · rw [hf] at HF
    have hgo := cmd_found w x c S s l line tk (if tk.l ≠ line then (⟨(anText (ref 3)).toArray⟩ : ByteArray) else tk.r) hx hS hC HX HF fun W hA => again_any tk line _ W (E.chg hA.2.1 hG) rfl
    dsimp only
    split
    · rename_i q; rw [if_pos q] at hgo; exact hgo
    · rename_i q; rw [if_neg q] at hgo; exact hgo
end Go.Proofs.YtlikdnmikdldfaaGreatDoor
namespace Go.Proofs.YtlikdnmikdldfaaGreatDoor
open Go.Conc Go.ChangeShapes Go.WideShapes Go.ChangeAt Go.RowKit
set_option linter.unusedVariables false
set_option linter.unusedSimpArgs false

set_option maxRecDepth 100000 in
set_option maxHeartbeats 1000000 in
theorem ado_none (w : World) (x : Nat) (line text : ByteArray) (HR : Hid (∀ W, Below w.heap.size w W → Calls Tryz.prog 30 #[.string line] W fun e w' => e = .returned (.tuple #[.agg #[.int .i64 0, .string ⟨#[]⟩, .string ⟨#[]⟩, .int .u32 0, .int .i64 0, .int .u32 0, .int .i64 0], .bool false]) ∧ Below W.heap.size W w'))
    (HF : Hid (∀ W, Calls Tryz.prog 31 #[.int .i64 2] W fun e w' => e = .returned (.agg #[.int .i64 2, .slice none 0 0]) ∧ Below W.heap.size W w'))
    (HT : Hid (∀ W, Below w.heap.size w W → Calls Tryz.prog 32 #[.agg #[.int .i64 2, .slice none 0 0]] W fun e w' => e = .returned (.string text) ∧ Below W.heap.size W w')) :
    Calls Tryz.prog 14 #[.pointer (some ⟨x, 0, none⟩), .string line] w fun e w' => e = .returned (.string text) ∧ Below w.heap.size w w' := by
  go_enter Tryz.func14, Tryz.ntmps14
  go_wp2_with (first | (go_at_call 30; refine (HR.out _ (by repeat' (first | with_reducible assumption | with_reducible exact Below.refl _ _ | with_reducible apply Below.drew | with_reducible apply below_drewN | with_reducible apply Below.setCell | with_reducible apply Below.alloc | omega | (simp; done) | (simp; omega)))).mono ?_; rintro e w1 ⟨rfl, hq1⟩; have hb1 : Hid (Below w.heap.size w w1) := Below.trans (B := w.heap.size) (a := w) (by repeat' (first | with_reducible assumption | with_reducible exact Below.refl _ _ | with_reducible apply Below.drew | with_reducible apply below_drewN | with_reducible apply Below.setCell | with_reducible apply Below.alloc | omega | (simp; done) | (simp; omega))) (hq1.mono (by first | omega | (simp; done) | (simp; omega))); clear hq1) | (go_at_call 31; refine (HF.out _).mono ?_; rintro e w2 ⟨rfl, hq2⟩; have hb2 : Hid (Below w.heap.size w w2) := Below.trans (B := w.heap.size) (a := w) (by have hh := hb1.out; have hz := hb1.out.size; repeat' (first | with_reducible assumption | with_reducible exact Below.refl _ _ | with_reducible apply Below.drew | with_reducible apply below_drewN | with_reducible apply Below.setCell | with_reducible apply Below.alloc | omega | (simp; done) | (simp; omega))) (hq2.mono (by have hz := hb1.out.size; first | omega | (simp; omega))); clear hq2) | (go_at_call 32; refine (HT.out _ hb2.out).mono ?_; rintro e w3 ⟨rfl, hq3⟩; have hb3 : Hid (Below w.heap.size w w3) := hb2.out.trans (hq3.mono hb2.out.size); clear hq3))
  go_ret
  exact ⟨rfl, hb3.out⟩
set_option maxRecDepth 100000 in
set_option maxHeartbeats 1000000 in
theorem ado_cmd (w : World) (x : Nat) (S : Nat → Prop) (l : Ln) (line : ByteArray) (r : Bk × ByteArray) (HR : Hid (∀ W, Below w.heap.size w W → Calls Tryz.prog 30 #[.string line] W fun e w' => e = .returned (.tuple #[.agg #[.int .i64 l.v, .string l.t, .string l.o, .int .u32 l.a, .int .i64 l.n, .int .u32 l.d, .int .i64 l.g], .bool true]) ∧ Below W.heap.size W w'))
    (HI : Hid (∀ W, Calls Tryz.prog 33 #[.int .i64 l.v] W fun e w' => e = .returned (.bool true) ∧ Below W.heap.size W w'))
    (HC : Hid (∀ W, Below w.heap.size w W → Calls Tryz.prog 34 #[.pointer (some ⟨x, 0, none⟩), .agg #[.int .i64 l.v, .string l.t, .string l.o, .int .u32 l.a, .int .i64 l.n, .int .u32 l.d, .int .i64 l.g], .string line] W (DoR W x S r))) :
    Calls Tryz.prog 14 #[.pointer (some ⟨x, 0, none⟩), .string line] w (DoR w x S r) := by
  go_enter Tryz.func14, Tryz.ntmps14
  go_wp2_with (first | (go_at_call 30; refine (HR.out _ (by repeat' (first | with_reducible assumption | with_reducible exact Below.refl _ _ | with_reducible apply Below.drew | with_reducible apply below_drewN | with_reducible apply Below.setCell | with_reducible apply Below.alloc | omega | (simp; done) | (simp; omega)))).mono ?_; rintro e w1 ⟨rfl, hq1⟩; have hb1 : Hid (Below w.heap.size w w1) := Below.trans (B := w.heap.size) (a := w) (by repeat' (first | with_reducible assumption | with_reducible exact Below.refl _ _ | with_reducible apply Below.drew | with_reducible apply below_drewN | with_reducible apply Below.setCell | with_reducible apply Below.alloc | omega | (simp; done) | (simp; omega))) (hq1.mono (by first | omega | (simp; done) | (simp; omega))); clear hq1) | (go_at_call 33; refine (HI.out _).mono ?_; rintro e w2 ⟨rfl, hq2⟩; have hb2 : Hid (Below w.heap.size w w2) := Below.trans (B := w.heap.size) (a := w) (by have hh := hb1.out; have hz := hb1.out.size; repeat' (first | with_reducible assumption | with_reducible exact Below.refl _ _ | with_reducible apply Below.drew | with_reducible apply below_drewN | with_reducible apply Below.setCell | with_reducible apply Below.alloc | omega | (simp; done) | (simp; omega))) (hq2.mono (by have hz := hb1.out.size; first | omega | (simp; omega))); have L2 : Hid (Blk w2 w1.heap.size #[.int .i64 l.v, .string l.t, .string l.o, .int .u32 l.a, .int .i64 l.n, .int .u32 l.d, .int .i64 l.g] 74) := (Blk.new w1 #[.int .i64 l.v, .string l.t, .string l.o, .int .u32 l.a, .int .i64 l.n, .int .u32 l.d, .int .i64 l.g] 74).below hq2; clear hq2; have m0 : w2.cell? ⟨w1.heap.size, 0, none⟩ = some (.int .i64 l.v) := L2.out.cell 0; have m1 : w2.cell? ⟨w1.heap.size, 1, none⟩ = some (.string l.t) := L2.out.cell 1; have m2 : w2.cell? ⟨w1.heap.size, 2, none⟩ = some (.string l.o) := L2.out.cell 2; have m3 : w2.cell? ⟨w1.heap.size, 3, none⟩ = some (.int .u32 l.a) := L2.out.cell 3; have m4 : w2.cell? ⟨w1.heap.size, 4, none⟩ = some (.int .i64 l.n) := L2.out.cell 4; have m5 : w2.cell? ⟨w1.heap.size, 5, none⟩ = some (.int .u32 l.d) := L2.out.cell 5; have m6 : w2.cell? ⟨w1.heap.size, 6, none⟩ = some (.int .i64 l.g) := L2.out.cell 6; have mz := L2.out.lt) | (go_at_call 34; refine (HC.out _ hb2.out).mono ?_; rintro e w3 ⟨S', rfl, h1, h2, h3⟩; replace h1 : Hid (BkAt w3 x S' r.1) := h1; replace h2 : Hid (∀ b, S' b → S b ∨ w2.heap.size ≤ b) := h2; replace h3 : Hid (Chg S w2 w3) := h3))
  go_ret
  have hz := hb2.out.size
  exact ⟨S', rfl, h1.out, fun b q => (h2.out b q).imp id (fun k => by omega), (Chg.below (S := S) hb2.out).trans h3.out (fun b q => .inl q)⟩
set_option maxRecDepth 100000 in
set_option maxHeartbeats 1000000 in
theorem ado_ask (w : World) (x : Nat) (l : Ln) (line text : ByteArray) (k : Nat) (L : List ByteArray) (HR : Hid (∀ W, Below w.heap.size w W → Calls Tryz.prog 30 #[.string line] W fun e w' => e = .returned (.tuple #[.agg #[.int .i64 l.v, .string l.t, .string l.o, .int .u32 l.a, .int .i64 l.n, .int .u32 l.d, .int .i64 l.g], .bool true]) ∧ Below W.heap.size W w'))
    (HI : Hid (∀ W, Calls Tryz.prog 33 #[.int .i64 l.v] W fun e w' => e = .returned (.bool false) ∧ Below W.heap.size W w'))
    (HD : Hid (∀ W, Below w.heap.size w W → Calls Tryz.prog 35 #[.pointer (some ⟨x, 0, none⟩), .agg #[.int .i64 l.v, .string l.t, .string l.o, .int .u32 l.a, .int .i64 l.n, .int .u32 l.d, .int .i64 l.g]] W fun e w3 => ∃ bt nt ct, e = .returned (.agg #[.int .i64 k, .slice bt nt ct]) ∧ Rd 1 encS ⟨#[]⟩ w3 (.slice bt nt ct) L ∧ Below W.heap.size W w3))
    (HT : Hid (∀ W bt nt ct, Below w.heap.size w W → Rd 1 encS ⟨#[]⟩ W (.slice bt nt ct) L → Calls Tryz.prog 32 #[.agg #[.int .i64 k, .slice bt nt ct]] W fun e w' => e = .returned (.string text) ∧ Below W.heap.size W w')) :
    Calls Tryz.prog 14 #[.pointer (some ⟨x, 0, none⟩), .string line] w fun e w' => e = .returned (.string text) ∧ Below w.heap.size w w' := by
  go_enter Tryz.func14, Tryz.ntmps14
  go_wp2_with (first | (go_at_call 30; refine (HR.out _ (by repeat' (first | with_reducible assumption | with_reducible exact Below.refl _ _ | with_reducible apply Below.drew | with_reducible apply below_drewN | with_reducible apply Below.setCell | with_reducible apply Below.alloc | omega | (simp; done) | (simp; omega)))).mono ?_; rintro e w1 ⟨rfl, hq1⟩; have hb1 : Hid (Below w.heap.size w w1) := Below.trans (B := w.heap.size) (a := w) (by repeat' (first | with_reducible assumption | with_reducible exact Below.refl _ _ | with_reducible apply Below.drew | with_reducible apply below_drewN | with_reducible apply Below.setCell | with_reducible apply Below.alloc | omega | (simp; done) | (simp; omega))) (hq1.mono (by first | omega | (simp; done) | (simp; omega))); clear hq1) | (go_at_call 33; refine (HI.out _).mono ?_; rintro e w2 ⟨rfl, hq2⟩; have hb2 : Hid (Below w.heap.size w w2) := Below.trans (B := w.heap.size) (a := w) (by have hh := hb1.out; have hz := hb1.out.size; repeat' (first | with_reducible assumption | with_reducible exact Below.refl _ _ | with_reducible apply Below.drew | with_reducible apply below_drewN | with_reducible apply Below.setCell | with_reducible apply Below.alloc | omega | (simp; done) | (simp; omega))) (hq2.mono (by have hz := hb1.out.size; first | omega | (simp; omega))); have L2 : Hid (Blk w2 w1.heap.size #[.int .i64 l.v, .string l.t, .string l.o, .int .u32 l.a, .int .i64 l.n, .int .u32 l.d, .int .i64 l.g] 74) := (Blk.new w1 #[.int .i64 l.v, .string l.t, .string l.o, .int .u32 l.a, .int .i64 l.n, .int .u32 l.d, .int .i64 l.g] 74).below hq2; clear hq2; have m0 : w2.cell? ⟨w1.heap.size, 0, none⟩ = some (.int .i64 l.v) := L2.out.cell 0; have m1 : w2.cell? ⟨w1.heap.size, 1, none⟩ = some (.string l.t) := L2.out.cell 1; have m2 : w2.cell? ⟨w1.heap.size, 2, none⟩ = some (.string l.o) := L2.out.cell 2; have m3 : w2.cell? ⟨w1.heap.size, 3, none⟩ = some (.int .u32 l.a) := L2.out.cell 3; have m4 : w2.cell? ⟨w1.heap.size, 4, none⟩ = some (.int .i64 l.n) := L2.out.cell 4; have m5 : w2.cell? ⟨w1.heap.size, 5, none⟩ = some (.int .u32 l.d) := L2.out.cell 5; have m6 : w2.cell? ⟨w1.heap.size, 6, none⟩ = some (.int .i64 l.g) := L2.out.cell 6; have mz := L2.out.lt))
  go_region_held3 (fun w' => w'.cell? ⟨w1.heap.size, 0, none⟩ = some (.int .i64 l.v) ∧ w'.cell? ⟨w1.heap.size, 1, none⟩ = some (.string l.t) ∧ w'.cell? ⟨w1.heap.size, 2, none⟩ = some (.string l.o) ∧ w'.cell? ⟨w1.heap.size, 3, none⟩ = some (.int .u32 l.a) ∧ w'.cell? ⟨w1.heap.size, 4, none⟩ = some (.int .i64 l.n) ∧ w'.cell? ⟨w1.heap.size, 5, none⟩ = some (.int .u32 l.d) ∧ w'.cell? ⟨w1.heap.size, 6, none⟩ = some (.int .i64 l.g)) (go_keep) (first | (go_at_call 35; refine (HD.out _ (by have hh := hb2.out; have hz := hb2.out.size; repeat' (first | with_reducible assumption | with_reducible exact Below.refl _ _ | with_reducible apply Below.drew | with_reducible apply below_drewN | with_reducible apply Below.setCell | with_reducible apply Below.alloc | omega | (simp; done) | (simp; omega)))).mono ?_; rintro e w3 ⟨bt, nt, ct, rfl, hr3, hq3⟩; have hb3 : Hid (Below w.heap.size w w3) := Below.trans (B := w.heap.size) (a := w) (by have hh := hb2.out; have hz := hb2.out.size; repeat' (first | with_reducible assumption | with_reducible exact Below.refl _ _ | with_reducible apply Below.drew | with_reducible apply below_drewN | with_reducible apply Below.setCell | with_reducible apply Below.alloc | omega | (simp; done) | (simp; omega))) (hq3.mono (by have hz := hb2.out.size; first | omega | (simp; omega))); have L3 : Hid (Blk w3 w1.heap.size #[.int .i64 l.v, .string l.t, .string l.o, .int .u32 l.a, .int .i64 l.n, .int .u32 l.d, .int .i64 l.g] 74) := (hq3.block w1.heap.size (by first | exact L2.out.lt | (simp; exact L2.out.lt))).trans L2.out; clear hq3; replace hr3 : Hid (Rd 1 encS ⟨#[]⟩ w3 (.slice bt nt ct) L) := hr3; have n0 : w3.cell? ⟨w1.heap.size, 0, none⟩ = some (.int .i64 l.v) := L3.out.cell 0; have n1 : w3.cell? ⟨w1.heap.size, 1, none⟩ = some (.string l.t) := L3.out.cell 1; have n2 : w3.cell? ⟨w1.heap.size, 2, none⟩ = some (.string l.o) := L3.out.cell 2; have n3 : w3.cell? ⟨w1.heap.size, 3, none⟩ = some (.int .u32 l.a) := L3.out.cell 3; have n4 : w3.cell? ⟨w1.heap.size, 4, none⟩ = some (.int .i64 l.n) := L3.out.cell 4; have n5 : w3.cell? ⟨w1.heap.size, 5, none⟩ = some (.int .u32 l.d) := L3.out.cell 5; have n6 : w3.cell? ⟨w1.heap.size, 6, none⟩ = some (.int .i64 l.g) := L3.out.cell 6) | (go_at_call 32; refine (HT.out _ bt nt ct hb3.out hr3.out).mono ?_; rintro e w4 ⟨rfl, hq4⟩; have hb4 : Hid (Below w.heap.size w w4) := hb3.out.trans (hq4.mono hb3.out.size); have L4 : Hid (Blk w4 w1.heap.size #[.int .i64 l.v, .string l.t, .string l.o, .int .u32 l.a, .int .i64 l.n, .int .u32 l.d, .int .i64 l.g] 74) := L3.out.below hq4; clear hq4; have o0 : w4.cell? ⟨w1.heap.size, 0, none⟩ = some (.int .i64 l.v) := L4.out.cell 0; have o1 : w4.cell? ⟨w1.heap.size, 1, none⟩ = some (.string l.t) := L4.out.cell 1; have o2 : w4.cell? ⟨w1.heap.size, 2, none⟩ = some (.string l.o) := L4.out.cell 2; have o3 : w4.cell? ⟨w1.heap.size, 3, none⟩ = some (.int .u32 l.a) := L4.out.cell 3; have o4 : w4.cell? ⟨w1.heap.size, 4, none⟩ = some (.int .i64 l.n) := L4.out.cell 4; have o5 : w4.cell? ⟨w1.heap.size, 5, none⟩ = some (.int .u32 l.d) := L4.out.cell 5; have o6 : w4.cell? ⟨w1.heap.size, 6, none⟩ = some (.int .i64 l.g) := L4.out.cell 6))
  all_goals (
    go_wp2
    go_ret
    exact ⟨rfl, hb4.out⟩)
end Go.Proofs.YtlikdnmikdldfaaGreatDoor
namespace Go.Proofs.YtlikdnmikdldfaaGreatDoor
open Go.Conc Go.ChangeShapes Go.WideShapes Go.ChangeAt Go.RowKit
set_option linter.unusedVariables false
set_option linter.unusedSimpArgs false

theorem addT_len {l : List Tk} (x : Tk) (h : l.length ≤ 8) : (addT l x).length ≤ 8 := by
  unfold addT
  split <;> simp <;> omega
theorem inv_toks {s : Bk} (h : Inv s) {T : List Tk} (hT : T.length ≤ 8) : Inv { s with toks := T } := ⟨h.p, h.n, h.l, hT, h.pa, h.na, h.la, h.pu, h.nu, h.lu⟩
theorem inv_all {s : Bk} (hI : Inv s) (line : ByteArray) : Inv (doAll s line).1 := by
  unfold doAll
  rcases e : rdLine line.data.toList with _ | l
  · exact hI
  · have hn := inv_ln hI (rdLine_ok e).1
    dsimp only
    split
    · split
      · split <;> exact hI
      · split
        · exact inv_toks hn (addT_len _ hn.t)
        · exact hn
    · exact hn
/-- what holds of every book that is met -/
def Ok (s : Bk) : Prop := Inv s ∧ Good s
theorem bk0_ok : Ok bk0 := ⟨⟨by simp [bk0], by simp [bk0], by simp [bk0], by simp [bk0], by simp [bk0], by simp [bk0], by simp [bk0], fun j k h1 h2 => by simp [bk0] at h2, fun j k h1 h2 => by simp [bk0] at h2, fun j k h1 h2 => by simp [bk0] at h2⟩, bk0_good⟩
theorem ok_all {s : Bk} (h : Ok s) (line : ByteArray) : Ok (doAll s line).1 := ⟨inv_all h.1 line, good_all h.2 line⟩
theorem doAll_cmd {s : Bk} {line : ByteArray} {l : Ln} (e : rdLine line.data.toList = some l) (hv : l.v < 8) : doAll s line = doCmd s l line := by
  unfold doAll doCmd
  rw [e]
  dsimp only
  rw [if_pos hv]
  rfl
theorem doAll_ask {s : Bk} {line : ByteArray} {l : Ln} (e : rdLine line.data.toList = some l) (hv : ¬ l.v < 8) : doAll s line = ((doLn s l).1, ⟨(anText (doLn s l).2).toArray⟩) := by
  unfold doAll
  rw [e]
  dsimp only
  rw [if_neg hv]
theorem doAll_none {s : Bk} {line : ByteArray} (e : rdLine line.data.toList = none) : doAll s line = (s, ⟨(anText (ref 2)).toArray⟩) := by
  unfold doAll
  rw [e]
theorem ask_same {s : Bk} {l : Ln} (h8 : ¬ l.v < 8) (hv : l.v < 11) : (doLn s l).1 = s := by
  have hc : l.v = 8 ∨ l.v = 9 ∨ l.v = 10 := by omega
  unfold doLn
  rcases hc with e | e | e <;> rw [e] <;> rfl
theorem hread {line : ByteArray} (w : World) (E : EnvT w) (hZ : 10 ≤ w.heap.size) : ∀ W, Below w.heap.size w W → Calls Tryz.prog 30 #[.string line] W fun e w' => e = .returned (.tuple #[.agg (lnC (rlC line)), .bool (rlOk line)]) ∧ Below W.heap.size W w' := fun W hW => lread_any line W (E.mono hW) (Nat.le_trans hZ hW.size)
/-- a line that is none, and a question: nothing is written -/
theorem ado_still (w : World) (x : Nat) (S : Nat → Prop) (s : Bk) (line : ByteArray) (E : EnvT w) (hI : Inv s) (h : BkAt w x S s) (hG : ∀ b, S b → 10 ≤ b) (hZ : 10 ≤ w.heap.size) (hq : ∀ l, rdLine line.data.toList = some l → ¬ l.v < 8) :
    Calls Tryz.prog 14 #[.pointer (some ⟨x, 0, none⟩), .string line] w fun e w' => e = .returned (.string (doAll s line).2) ∧ (doAll s line).1 = s ∧ Below w.heap.size w w' := by
  have HR := hread (line := line) w E hZ
  rcases e : rdLine line.data.toList with _ | l
  · rw [doAll_none e]
    have e1 : rlC line = ln0 0 := by unfold rlC; rw [e]; rfl
    have e2 : rlOk line = false := by unfold rlOk; rw [e]; rfl
    rw [e1, e2] at HR
    refine (ado_none w x line _ HR (fun W => refuse_any 2 W) (fun W hW => reftext_any 2 (by omega) W (E.mono hW))).mono ?_
    rintro e w' ⟨rfl, hb⟩
    exact ⟨rfl, rfl, hb⟩
  · have hv := hq l e
    obtain ⟨hL, h11⟩ := rdLine_ok e
    rw [doAll_ask e hv]
    have e1 : rlC line = l := by unfold rlC; rw [e]; rfl
    have e2 : rlOk line = true := by unfold rlOk; rw [e]; rfl
    rw [e1, e2] at HR
    obtain ⟨o1, o2, o3⟩ := ans_ok hI hL
    refine (ado_ask w x l line ⟨(anText (doLn s l).2).toArray⟩ (doLn s l).2.e (doLn s l).2.s HR (fun W => ?_) (fun W hW => ?_) (fun W bt nt ct hW hr => atext_any (doLn s l).2 o1 o2 o3 _ W (E.mono hW) hr)).mono ?_
    · have h := isCmd_any l.v W
      rw [decide_eq_false (by omega)] at h
      exact h
    · refine (bookAsk_any W x S s l (E.env.mono hW) hI hL (h.below hW) hG (Nat.le_trans hZ hW.size) (by omega) h11).mono ?_
      rintro e w3 ⟨⟨v, S', rfl, hrd, _⟩, hb⟩
      obtain ⟨bt, ct, rfl, k⟩ := hrd
      exact ⟨bt, _, ct, rfl, ⟨bt, ct, rfl, k⟩, hb⟩
    · rintro e w' ⟨rfl, hb⟩
      exact ⟨rfl, ask_same hv h11, hb⟩
/-- whatever the line is -/
theorem ado_any (w : World) (x : Nat) (S : Nat → Prop) (s : Bk) (line : ByteArray) (E : EnvT w) (hI : Inv s) (h : BkAt w x S s) (hG : ∀ b, S b → 10 ≤ b) (hZ : 10 ≤ w.heap.size) :
    Calls Tryz.prog 14 #[.pointer (some ⟨x, 0, none⟩), .string line] w (DoR w x S (doAll s line)) := by
  by_cases hq : ∀ l, rdLine line.data.toList = some l → ¬ l.v < 8
  · refine (ado_still w x S s line E hI h hG hZ hq).mono ?_
    rintro e w' ⟨rfl, hs, hb⟩
    exact ⟨S, rfl, by rw [hs]; exact h.below hb, fun b q => .inl q, Chg.below hb⟩
  · obtain ⟨l, e, hv⟩ : ∃ l, rdLine line.data.toList = some l ∧ l.v < 8 := by
      rcases e : rdLine line.data.toList with _ | l
      · exact absurd (fun l hl => by rw [e] at hl; cases hl) hq
      · by_cases hv : l.v < 8
        · exact ⟨l, rfl, hv⟩
        · exact absurd (fun l' hl => by rw [e] at hl; cases hl; exact hv) hq
    obtain ⟨hL, h11⟩ := rdLine_ok e
    rw [doAll_cmd e hv]
    have HR := hread (line := line) w E hZ
    have e1 : rlC line = l := by unfold rlC; rw [e]; rfl
    have e2 : rlOk line = true := by unfold rlOk; rw [e]; rfl
    rw [e1, e2] at HR
    have hs : line.size ≤ 100 := by
      have := Lib.size_eq line
      unfold rdLine at e
      split at e
      · omega
      · cases e
    refine ado_cmd w x S l line _ HR (fun W => ?_) (fun W hW => command_any W x S s l line (E.mono hW) hI hL h11 (h.below hW) hG (Nat.le_trans hZ hW.size) (by omega))
    have h := isCmd_any l.v W
    rw [decide_eq_true (by omega)] at h
    exact h
end Go.Proofs.YtlikdnmikdldfaaGreatDoor
namespace Go.Proofs.YtlikdnmikdldfaaGreatDoor
open Go.RowKit
set_option linter.unusedVariables false
set_option linter.unusedSimpArgs false

def tokX (T : List Tk) (c : UInt8) (f : Nat) (more : List (List UInt8)) : Prop := ∀ x, x ∈ T → (∃ j, j < f ∧ x.t = bA (c :: dec j)) ∨ ∃ t, t ∈ more ∧ x.t = bA t
theorem tokX_ne {T : List Tk} {c : UInt8} {f : Nat} {more : List (List UInt8)} (h : tokX T c f more) {t : List UInt8} (h2 : ∀ j, j < f → t ≠ c :: dec j) (h3 : t ∉ more) : ∀ x, x ∈ T → x.t ≠ bA t := fun x hx => by
  rcases h x hx with ⟨j, hj, e⟩ | ⟨u, hu, e⟩
  · rw [e]; exact tok_ne (fun q => h2 j hj q.symm)
  · rw [e]; exact tok_ne (fun q => h3 (q ▸ hu))
theorem tokX_add {T : List Tk} {c : UInt8} {f : Nat} {more : List (List UInt8)} (h : tokX T c f more) (y : Tk) {t : List UInt8} (hy : y.t = bA t) : tokX (addT T y) c f (t :: more) := fun x hx => by
  rcases mem_addT hx with e | e
  · exact .inr ⟨t, by simp, by rw [e]; exact hy⟩
  · rcases h x e with q | ⟨u, hu, q⟩
    · exact .inl q
    · exact .inr ⟨u, by simp [hu], q⟩
theorem tokX_next {T : List Tk} {c : UInt8} {f : Nat} {more : List (List UInt8)} (h : tokX T c f more) (y : Tk) (hy : y.t = bA (c :: dec f)) : tokX (addT T y) c (f + 1) more := fun x hx => by
  rcases mem_addT hx with e | e
  · exact .inl ⟨f, by omega, by rw [e]; exact hy⟩
  · rcases h x e with ⟨j, hj, q⟩ | q
    · exact .inl ⟨j, by omega, q⟩
    · exact .inr q
theorem own3_name (k : Nat) : isName (own3 k) = true := by
  unfold own3
  split
  · decide
  split <;> decide
theorem own3_mod (k : Nat) : own3 (k % 3) = own3 k := by unfold own3; rw [Nat.mod_mod]
theorem taken_text : bA (anText (ref 13)) = (⟨#[69, 82, 82, 32, 84, 65, 75, 69, 78]⟩ : ByteArray) := by decide
theorem owner_text : bA (anText (ref 8)) = (⟨#[69, 82, 82, 32, 79, 87, 78, 69, 82]⟩ : ByteArray) := by decide
theorem busy_text : bA (anText (ref 9)) = (⟨#[69, 82, 82, 32, 66, 85, 83, 89]⟩ : ByteArray) := by decide
/-- a refused line, a done line -/
theorem all_ref {s : Bk} {line : List UInt8} {l : Ln} {k : Nat} (hr : rdLine line = some l) (hv : l.v < 8) (ht : ∀ x, x ∈ s.toks → x.t ≠ l.t) (hk : ¬ k = 0) (hd : doLn s l = (s, ref k)) : doAll s (bs line) = (s, bA (anText (ref k))) := by
  have h := doAll_new (s := s) (line := bs line) (by rw [bs_data]; exact hr) hv (findT_none ht) hd
  rw [if_neg (show ¬ (ref k).e = 0 from hk)] at h
  exact h
theorem all_done {s s' : Bk} {line : List UInt8} {l : Ln} {a : An} (hr : rdLine line = some l) (hv : l.v < 8) (ht : ∀ x, x ∈ s.toks → x.t ≠ l.t) (hk : a.e = 0) (hd : doLn s l = (s', a)) : doAll s (bs line) = ({ s' with toks := addT s'.toks ⟨l.t, bs line, bA (anText a)⟩ }, bA (anText a)) := by
  have h := doAll_new (s := s) (line := bs line) (by rw [bs_data]; exact hr) hv (findT_none ht) hd
  rw [if_pos hk] at h
  exact h
def AtL (n : Int) (i : Nat) (s : Bk) : Prop := ∃ T, s = ⟨fP 24, lN n, lsn n i, T⟩ ∧ tokX T 108 i [[98], [112]]
theorem l_pool : ∃ T, doAll bk0 (bs [80, 79, 79, 76, 32, 112, 32, 97, 110, 110, 32, 49, 48, 46, 48, 46, 48, 46, 48, 47, 50, 52]) = (⟨fP 24, [], [], T⟩, okB) ∧ tokX T 108 0 [[112]] := by
  have hr : rdLine [80, 79, 79, 76, 32, 112, 32, 97, 110, 110, 32, 49, 48, 46, 48, 46, 48, 46, 48, 47, 50, 52] = some (lnB 0 [112] annT B0 24) := by
    have := read_block (k := 0) (t := [112]) (o := annT) (a := B0) (n := 24) (by omega) (by decide) (by decide) (by decide) (by decide) (B0_rt 24 (by omega) (by omega))
    rw [show (24 : Int).toNat = 24 from rfl, wr10, dec_3 24 (by omega)] at this
    exact this
  have hd := all_done (s := bk0) hr (by show 0 < 8; omega) (by simp [bk0]) rfl (fill_pool 24 (by omega) (by omega) [112] [])
  rw [ok_text] at hd
  refine ⟨_, hd, fun x hx => ?_⟩
  rcases mem_addT hx with e | e
  · exact .inr ⟨[112], by simp, by rw [e]; rfl⟩
  · simp at e
theorem wrB {n : Nat} (h0 : 8 ≤ n) (hm : n ≤ 32) {k : Nat} (hk : k = 0 ∨ k = 1 ∨ k = 3 ∨ k = 4 ∨ k = 5) {t o : List UInt8} (ht : isName t = true) (ho : isName o = true) : rdLine (verb k ++ 32 :: (t ++ 32 :: (o ++ 32 :: ([49, 48, 46, 48, 46, 48, 46, 48, 47] ++ dec n)))) = some (lnB k t o B0 n) := by
  have := read_block (k := k) (t := t) (o := o) (a := B0) (n := n) hk ht ho (by decide) (by decide) (B0_rt n (by omega) (by omega))
  rwa [Int.toNat_natCast, wr10] at this
theorem l_block {n : Nat} (L : Le (n : Int)) (h0 : 27 ≤ n) (hm : n ≤ 32) {T : List Tk} (hT : tokX T 108 0 [[112]]) : ∃ s, doAll ⟨fP 24, [], [], T⟩ (bs ([66, 76, 79, 67, 75, 32, 98, 32, 97, 110, 110, 32] ++ ([49, 48, 46, 48, 46, 48, 46, 48, 47] ++ dec n))) = (s, okB) ∧ AtL n 0 s := by
  have hr := wrB (n := n) (by omega) hm (k := 3) (t := [98]) (o := annT) (by omega) (by decide) (by decide)
  have hd := all_done (s := ⟨fP 24, [], [], T⟩) hr (by show 3 < 8; omega) (tokX_ne hT (fun j hj => by omega) (by decide)) rfl (lease_block L (by omega) [98] T)
  rw [ok_text] at hd
  exact ⟨_, hd, _, rfl, tokX_add hT _ rfl⟩
theorem l_one {n : Nat} (L : Le (n : Int)) (h0 : 27 ≤ n) (hm : n ≤ 32) {i : Nat} (hi : i < fitL n) {s : Bk} (hs : AtL n i s) :
    ∃ s', doAll s (bs ([76, 69, 65, 83, 69, 32, 108] ++ dec i ++ [32] ++ own3 i ++ [32] ++ ([49, 48, 46, 48, 46, 48, 46, 48, 47] ++ dec n))) = (s', bs ([79, 75, 32] ++ dot (fst1 n + (i : Int)).toNat)) ∧ AtL n (i + 1) s' := by
  obtain ⟨T, rfl, hT⟩ := hs
  have hle := L.le
  have hr := wrB (n := n) (by omega) hm (k := 5) (t := 108 :: dec i) (o := own3 i) (by omega) (nameL i (by omega)) (own3_name i)
  have hl : [76, 69, 65, 83, 69, 32, 108] ++ dec i ++ [32] ++ own3 i ++ [32] ++ ([49, 48, 46, 48, 46, 48, 46, 48, 47] ++ dec n) = verb 5 ++ 32 :: ((108 :: dec i) ++ 32 :: (own3 i ++ 32 :: ([49, 48, 46, 48, 46, 48, 46, 48, 47] ++ dec n))) := by simp [verb, verbT]
  rw [hl]
  have hd := all_done (s := ⟨fP 24, lN n, lsn n i, T⟩) hr (by show 5 < 8; omega) (tokX_ne hT (fun j hj q => by have := dec_inj (List.cons.inj q).2; omega) (by simp)) rfl (lease_one L i hi (108 :: dec i) T)
  rw [tell_text] at hd
  exact ⟨_, hd, _, rfl, tokX_next hT _ rfl⟩
/-- behind the last one that fits: refused, taken, another's -/
theorem l_rest {n : Nat} (L : Le (n : Int)) (h0 : 27 ≤ n) (hm : n ≤ 32) {s : Bk} (hs : AtL n (fitL n) s) {k : Nat} (hk : k < fitL n) (o : List UInt8) (ho : isName o = true) :
    doAll s (bs ([76, 69, 65, 83, 69, 32, 102, 32, 97, 110, 110, 32] ++ ([49, 48, 46, 48, 46, 48, 46, 48, 47] ++ dec n))) = (s, (⟨#[69, 82, 82, 32, 70, 85, 76, 76]⟩ : ByteArray)) ∧
    doAll s (bs ([84, 65, 75, 69, 32, 103, 32, 97, 110, 110, 32] ++ dot (fst1 n + (k : Int)).toNat)) = (s, (⟨#[69, 82, 82, 32, 84, 65, 75, 69, 78]⟩ : ByteArray)) ∧
    (o ≠ own3 k → doAll s (bs ([71, 73, 86, 69, 32, 104, 32] ++ o ++ [32] ++ dot (fst1 n + (k : Int)).toNat)) = (s, (⟨#[69, 82, 82, 32, 79, 87, 78, 69, 82]⟩ : ByteArray))) ∧
    (o = own3 k → ∃ sG sI, doAll s (bs ([71, 73, 86, 69, 32, 104, 32] ++ o ++ [32] ++ dot (fst1 n + (k : Int)).toNat)) = (sG, okB) ∧
      doAll sG (bs ([76, 69, 65, 83, 69, 32, 105, 32, 98, 111, 98, 32] ++ ([49, 48, 46, 48, 46, 48, 46, 48, 47] ++ dec n))) = (sI, bs ([79, 75, 32] ++ dot (fst1 n + (k : Int)).toNat)) ∧
      doAll sI (bs ([70, 82, 69, 69, 32, 106, 32, 97, 110, 110, 32] ++ ([49, 48, 46, 48, 46, 48, 46, 48, 47] ++ dec n))) = (sI, (⟨#[69, 82, 82, 32, 66, 85, 83, 89]⟩ : ByteArray))) := by
  obtain ⟨T, rfl, hT⟩ := hs
  have hle := L.le
  have hf : 0 ≤ fst1 n + (k : Int) ∧ fst1 n + (k : Int) < 4294967296 := by unfold fst1 B0; split <;> omega
  have hne : ∀ c : UInt8, c ≠ 108 → ∀ j : Nat, [c] ≠ 108 :: dec j := fun c hc j q => hc (List.cons.inj q).1
  have hcast : ((fst1 n + (k : Int)).toNat : Int) = fst1 n + (k : Int) := by omega
  have rF := wrB (n := n) (by omega) hm (k := 5) (t := [102]) (o := annT) (by omega) (by decide) (by decide)
  have rT := read_addr (k := 6) (t := [103]) (o := annT) (d := (fst1 n + (k : Int)).toNat) (by omega) (by decide) (by decide) (by omega)
  have rG := read_addr (k := 7) (t := [104]) (o := o) (d := (fst1 n + (k : Int)).toNat) (by omega) (by decide) ho (by omega)
  have rI := wrB (n := n) (by omega) hm (k := 5) (t := [105]) (o := bobT) (by omega) (by decide) (by decide)
  have rJ := wrB (n := n) (by omega) hm (k := 4) (t := [106]) (o := annT) (by omega) (by decide) (by decide)
  rw [hcast] at rT rG
  have hgl : [71, 73, 86, 69, 32, 104, 32] ++ o ++ [32] ++ dot (fst1 n + (k : Int)).toNat = verb 7 ++ 32 :: ([104] ++ 32 :: (o ++ 32 :: dot (fst1 n + (k : Int)).toNat)) := by simp [verb, verbT]
  have d1 := all_ref (s := ⟨fP 24, lN n, lsn n (fitL n), T⟩) rF (by show 5 < 8; omega) (tokX_ne hT (fun j _ => hne 102 (by decide) j) (by decide)) (by omega) (lease_fullL L [102] annT T)
  have d2 := all_ref (s := ⟨fP 24, lN n, lsn n (fitL n), T⟩) rT (by show 6 < 8; omega) (tokX_ne hT (fun j _ => hne 103 (by decide) j) (by decide)) (by omega) (lease_taken L k hk [103] annT T)
  rw [full_text] at d1
  rw [taken_text] at d2
  refine ⟨d1, d2, fun q => ?_, fun q => ?_⟩
  · have d3 := all_ref (s := ⟨fP 24, lN n, lsn n (fitL n), T⟩) rG (by show 7 < 8; omega) (tokX_ne hT (fun j _ => hne 104 (by decide) j) (by decide)) (by omega) (lease_owner L k hk [104] o T q)
    rw [owner_text] at d3
    rw [hgl]; exact d3
  · subst q
    have d3 := all_done (s := ⟨fP 24, lN n, lsn n (fitL n), T⟩) rG (by show 7 < 8; omega) (tokX_ne hT (fun j _ => hne 104 (by decide) j) (by decide)) rfl (lease_give L k hk [104] T)
    rw [ok_text] at d3
    obtain ⟨y1, hy1⟩ : ∃ y : Tk, y = ⟨({ lnB 7 [104] (own3 k) 0 0 with d := fst1 n + (k : Int) } : Ln).t, bs (verb 7 ++ 32 :: ([104] ++ 32 :: (own3 k ++ 32 :: dot (fst1 n + (k : Int)).toNat))), okB⟩ := ⟨_, rfl⟩
    rw [← hy1] at d3
    have hT1 := tokX_add hT y1 (t := [104]) (by rw [hy1]; rfl)
    have d4 := all_done (s := ⟨fP 24, lN n, delAt (lsn n (fitL n)) k, addT T y1⟩) rI (by show 5 < 8; omega) (tokX_ne hT1 (fun j _ => hne 105 (by decide) j) (by decide)) rfl (lease_again L k hk [105] (addT T y1))
    rw [tell_text] at d4
    obtain ⟨y2, hy2⟩ : ∃ y : Tk, y = ⟨(lnB 5 [105] bobT B0 n).t, bs (verb 5 ++ 32 :: ([105] ++ 32 :: (bobT ++ 32 :: ([49, 48, 46, 48, 46, 48, 46, 48, 47] ++ dec n)))), bs ([79, 75, 32] ++ dot (fst1 n + (k : Int)).toNat)⟩ := ⟨_, rfl⟩
    rw [← hy2] at d4
    have hT2 := tokX_add hT1 y2 (t := [105]) (by rw [hy2]; rfl)
    have d5 := all_ref (s := ⟨fP 24, lN n, insL (delAt (lsn n (fitL n)) k) ⟨fst1 n + (k : Int), bA bobT⟩, addT (addT T y1) y2⟩) rJ (by show 4 < 8; omega) (tokX_ne hT2 (fun j _ => hne 106 (by decide) j) (by decide)) (by omega) (lease_busy L k hk [106] _)
    rw [busy_text] at d5
    exact ⟨_, _, by rw [hgl]; exact d3, d4, d5⟩
end Go.Proofs.YtlikdnmikdldfaaGreatDoor
namespace Go.Proofs.YtlikdnmikdldfaaGreatDoor
open Go.Conc Go.ChangeShapes Go.WideShapes Go.ChangeAt Go.RowKit
set_option linter.unusedVariables false
set_option linter.unusedSimpArgs false

/-- the book x is s; its blocks, and all that changed since w0, were made since w0; K: blocks of others that stay -/
def HB (w0 : World) (K : Nat → Prop) (x : Nat) (s : Bk) (W : World) : Prop := ∃ S, BkAt W x S s ∧ (∀ b, S b → w0.heap.size ≤ b ∧ ¬ K b) ∧ Below w0.heap.size w0 W
theorem HB.low {w0 W : World} {K : Nat → Prop} {x : Nat} {s : Bk} (h : HB w0 K x s W) : Below w0.heap.size w0 W := by obtain ⟨S, _, _, h⟩ := h; exact h
theorem HB.below {w0 W W' : World} {K : Nat → Prop} {x : Nat} {s : Bk} (h : HB w0 K x s W) (hb : Below W.heap.size W W') : HB w0 K x s W' := by
  obtain ⟨S, h1, h2, h3⟩ := h
  exact ⟨S, h1.below hb, h2, h3.trans (hb.mono h3.size)⟩
/-- other blocks may be kept, if they were made by now -/
theorem HB.keep {w0 W W' : World} {K : Nat → Prop} {x : Nat} {s : Bk} (K' : Nat → Prop) (h : HB w0 K x s W) (hb : Below W.heap.size W W') (hK : ∀ b, K' b → K b ∨ W.heap.size ≤ b) : HB w0 K' x s W' := by
  obtain ⟨S, h1, h2, h3⟩ := h
  refine ⟨S, h1.below hb, fun b q => ⟨(h2 b q).1, fun k => ?_⟩, h3.trans (hb.mono h3.size)⟩
  rcases hK b k with e | e
  · exact (h2 b q).2 e
  · have := h1.lt b q; omega
theorem HB.drew {w0 W : World} {K : Nat → Prop} {x : Nat} {s : Bk} (h : HB w0 K x s W) : HB w0 K x s W.drew := h.below (Below.drew (Below.refl _ _))
theorem HB.alloc {w0 W : World} {K : Nat → Prop} {x : Nat} {s : Bk} {o : Obj} (h : HB w0 K x s W) : HB w0 K x s (W.alloc o) := h.below (Below.alloc (Below.refl _ _) (Nat.le_refl _) _)
theorem hb_do (w0 : World) (K : Nat → Prop) (x : Nat) (s : Bk) (line : ByteArray) (E : EnvT w0) (hZ : 10 ≤ w0.heap.size) (hI : Inv s) (W : World) (h : HB w0 K x s W) (hK : ∀ b, K b → b < W.heap.size) :
    Calls Tryz.prog 14 #[.pointer (some ⟨x, 0, none⟩), .string line] W fun e W' => e = .returned (.string (doAll s line).2) ∧ HB w0 K x (doAll s line).1 W' ∧ (∀ b, K b → W'.heap[b]? = W.heap[b]?) ∧ W.heap.size ≤ W'.heap.size := by
  obtain ⟨S, h1, h2, h3⟩ := h
  refine (ado_any W x S s line (E.mono h3) hI h1 (fun b q => Nat.le_trans hZ (h2 b q).1) (Nat.le_trans hZ h3.size)).mono ?_
  rintro e W' ⟨S', rfl, b1, b2, b3⟩
  refine ⟨rfl, ⟨S', b1, fun b q => ?_, ?_⟩, fun b k => b3.block b (hK b k) (fun q => (h2 b q).2 k), b3.size⟩
  · rcases b2 b q with e | e
    · exact h2 b e
    · have := h3.size
      exact ⟨by omega, fun k => by have := hK b k; omega⟩
  · exact h3.trans ⟨b3.os, b3.tape, b3.output, b3.size, fun b hb => b3.block b (Nat.lt_of_lt_of_le hb h3.size) (fun q => by have := (h2 b q).1; omega)⟩
/-- a question, or no line -/
theorem hb_ask (w0 : World) (K : Nat → Prop) (x : Nat) (s : Bk) (line : ByteArray) (E : EnvT w0) (hZ : 10 ≤ w0.heap.size) (hI : Inv s) (hq : ∀ l, rdLine line.data.toList = some l → ¬ l.v < 8) (W : World) (h : HB w0 K x s W) :
    Calls Tryz.prog 14 #[.pointer (some ⟨x, 0, none⟩), .string line] W fun e W' => e = .returned (.string (doAll s line).2) ∧ Below W.heap.size W W' := by
  obtain ⟨S, h1, h2, h3⟩ := h
  refine (ado_still W x S s line (E.mono h3) hI h1 (fun b q => Nat.le_trans hZ (h2 b q).1) (Nat.le_trans hZ h3.size) hq).mono ?_
  rintro e W' ⟨rfl, _, hb⟩
  exact ⟨rfl, hb⟩
set_option maxRecDepth 100000 in
set_option maxHeartbeats 400000 in
theorem dnew_any (w : World) : Calls Tryz.prog 25 #[] w fun e w' => ∃ d, e = .returned (.pointer (some ⟨d, 0, none⟩)) ∧ Below w.heap.size w w' := by
  go_enter Tryz.func25, Tryz.ntmps25
  go_wp2
  go_returns
  exact ⟨_, rfl, (by repeat' (first | with_reducible assumption | with_reducible exact Below.refl _ _ | with_reducible apply Below.drew | with_reducible apply below_drewN | with_reducible apply Below.setCell | with_reducible apply Below.alloc | omega | (simp; done) | (simp; omega)))⟩
set_option maxRecDepth 100000 in
set_option maxHeartbeats 400000 in
/-- a book of a new disk -/
theorem opened_any (w0 w : World) (h : Below w0.heap.size w0 w) : Calls Tryz.prog 9 #[] w fun e w' => ∃ x d, e = .returned (.tuple #[.pointer (some ⟨x, 0, none⟩), .pointer (some ⟨d, 0, none⟩)]) ∧ HB w0 (fun _ => False) x bk0 w' ∧ Below w.heap.size w w' := by
  have HN : Hid (∀ W, Calls Tryz.prog 25 #[] W fun e w' => ∃ d, e = .returned (.pointer (some ⟨d, 0, none⟩)) ∧ Below W.heap.size W w') := fun W => dnew_any W
  have HO : Hid (∀ d W, Calls Tryz.prog 26 #[d] W fun e w' => ∃ x S, e = .returned (.tuple #[.pointer (some ⟨x, 0, none⟩), .int .i64 0]) ∧ BkAt w' x S bk0 ∧ (∀ b, S b → W.heap.size ≤ b) ∧ Below W.heap.size W w') := fun d W => open_any d W
  have H0 : Hid (Below w0.heap.size w0 w) := h
  clear h
  go_enter Tryz.func9, Tryz.ntmps9
  go_wp2_with (first | (go_at_call 25; refine (HN.out _).mono ?_; rintro e w1 ⟨d, rfl, hq1⟩; replace hq1 : Hid (Below w.heap.size w w1) := hq1) | (go_at_call 26; refine (HO.out _ _).mono ?_; rintro e w2 ⟨x, S, rfl, hbk, hS, hq2⟩; replace hbk : Hid (BkAt w2 x S bk0) := hbk; replace hS : Hid (∀ b, S b → w1.heap.size ≤ b) := hS; replace hq2 : Hid (Below w1.heap.size w1 w2) := hq2))
  have hb2 := hq1.out.trans (hq2.out.mono hq1.out.size)
  have hz := H0.out.size
  have hz1 := hq1.out.size
  have hfin : ∃ x' d', Ending.returned (Value.tuple #[.pointer (some ⟨x, 0, none⟩), .pointer (some ⟨d, 0, none⟩)]) = Ending.returned (.tuple #[.pointer (some ⟨x', 0, none⟩), .pointer (some ⟨d', 0, none⟩)]) ∧ HB w0 (fun _ => False) x' bk0 w2 ∧ Below w.heap.size w w2 :=
    ⟨x, d, rfl, ⟨S, hbk.out, fun b q => ⟨by have := hS.out b q; omega, fun k => k⟩, H0.out.trans (hb2.mono hz)⟩, hb2⟩
  exact bodyPost_ret (v := .tuple #[.pointer (some ⟨x, 0, none⟩), .pointer (some ⟨d, 0, none⟩)]) (by simp [results, Tryz.results9]) rfl hfin
end Go.Proofs.YtlikdnmikdldfaaGreatDoor
namespace Go.Proofs.YtlikdnmikdldfaaGreatDoor
open Go.Conc Go.ChangeShapes Go.WideShapes Go.ChangeAt Go.RowKit
set_option linter.unusedVariables false
set_option linter.unusedSimpArgs false

set_option maxRecDepth 100000 in
set_option maxHeartbeats 800000 in
theorem leased_a (bits which who : Int) (n fit k : Nat) (SZ : Int) (D OW : Int → ByteArray) (AA : Int → ByteArray) (st : Nat → Bk) (sP sF sT sG sI sJ : Bk) (w : World) (hn : 27 ≤ n ∧ n ≤ 32) (hn30 : (n : Int) ≤ 30) (hSZ : SZ - 2 = (fit : Int)) (hown : OW who = OW k)
    (hp1 : pk bits 6 = (n : Int) - 27) (hp3 : pk which fit = k) (hk : k < fit) (hf : fit ≤ 30) (hf1 : 1 ≤ fit) (hSb : 0 ≤ SZ ∧ SZ ≤ 32)
    (hD : ∀ j, (D j).size ≤ 3) (hA : ∀ a, (AA a).size ≤ 15) (hO : ∀ a, (OW a).size ≤ 3)
    (HO : Hid (Calls Tryz.prog 9 #[] w fun e w' => ∃ x d, e = .returned (.tuple #[.pointer (some ⟨x, 0, none⟩), .pointer (some ⟨d, 0, none⟩)]) ∧ HB w (fun _ => False) x bk0 w' ∧ Below w.heap.size w w'))
    (HP : Hid (∀ (c k : Int) W, (k = 6 ∨ k = fit) → (c = bits ∨ c = which) → Calls Tryz.prog 18 #[.int .i64 c, .int .i64 k] W fun e w' => e = .returned (.int .i64 (pk c k)) ∧ Below W.heap.size W w'))
    (HG : Hid (∀ (j : Int) W, 0 ≤ j → j ≤ 32 → Calls Tryz.prog 19 #[.int .i64 j] W fun e w' => e = .returned (.string (D j)) ∧ Below W.heap.size W w'))
    (HZ : Hid (∀ W, Calls Tryz.prog 21 #[.int .i64 n] W fun e w' => e = .returned (.int .i64 SZ) ∧ Below W.heap.size W w'))
    (HW : Hid (∀ (j : Int) W, (j = who ∨ (0 ≤ j ∧ j ≤ 32)) → Calls Tryz.prog 22 #[.int .i64 j] W fun e w' => e = .returned (.string (OW j)) ∧ Below W.heap.size W w'))
    (HA : Hid (∀ (a : Int) W, 0 ≤ a → a < 4294967296 → Calls Tryz.prog 20 #[.int .u32 a] W fun e w' => e = .returned (.string (AA a)) ∧ Below W.heap.size W w'))
    (H0 : Hid (∀ x W, HB w (fun _ => False) x bk0 W → Calls Tryz.prog 14 #[.pointer (some ⟨x, 0, none⟩), .string ((⟨#[80, 79, 79, 76, 32, 112, 32, 97, 110, 110, 32, 49, 48, 46, 48, 46, 48, 46, 48, 47, 50, 52]⟩ : ByteArray))] W fun e w' => e = .returned (.string (⟨#[79, 75]⟩ : ByteArray)) ∧ HB w (fun _ => False) x sP w'))
    (HB0 : Hid (∀ x W, HB w (fun _ => False) x sP W → Calls Tryz.prog 14 #[.pointer (some ⟨x, 0, none⟩), .string ((⟨#[66, 76, 79, 67, 75, 32, 98, 32, 97, 110, 110, 32]⟩ : ByteArray) ++ ((⟨#[49, 48, 46, 48, 46, 48, 46, 48, 47]⟩ : ByteArray) ++ D n))] W fun e w' => e = .returned (.string (⟨#[79, 75]⟩ : ByteArray)) ∧ HB w (fun _ => False) x (st 0) w'))
    (HN : Hid (∀ (i : Nat) (hi : i < fit) x W, HB w (fun _ => False) x (st i) W → Calls Tryz.prog 14 #[.pointer (some ⟨x, 0, none⟩), .string ((⟨#[76, 69, 65, 83, 69, 32, 108]⟩ : ByteArray) ++ D i ++ (⟨#[32]⟩ : ByteArray) ++ OW i ++ (⟨#[32]⟩ : ByteArray) ++ ((⟨#[49, 48, 46, 48, 46, 48, 46, 48, 47]⟩ : ByteArray) ++ D n))] W fun e w' => e = .returned (.string ((⟨#[79, 75, 32]⟩ : ByteArray) ++ AA (167772161 + (i : Int)))) ∧ HB w (fun _ => False) x (st (i + 1)) w'))
    (HF : Hid (∀ x W, HB w (fun _ => False) x (st fit) W → Calls Tryz.prog 14 #[.pointer (some ⟨x, 0, none⟩), .string ((⟨#[76, 69, 65, 83, 69, 32, 102, 32, 97, 110, 110, 32]⟩ : ByteArray) ++ ((⟨#[49, 48, 46, 48, 46, 48, 46, 48, 47]⟩ : ByteArray) ++ D n))] W fun e w' => e = .returned (.string (⟨#[69, 82, 82, 32, 70, 85, 76, 76]⟩ : ByteArray)) ∧ HB w (fun _ => False) x sF w'))
    (HT : Hid (∀ x W, HB w (fun _ => False) x sF W → Calls Tryz.prog 14 #[.pointer (some ⟨x, 0, none⟩), .string ((⟨#[84, 65, 75, 69, 32, 103, 32, 97, 110, 110, 32]⟩ : ByteArray) ++ AA (167772161 + (k : Int)))] W fun e w' => e = .returned (.string (⟨#[69, 82, 82, 32, 84, 65, 75, 69, 78]⟩ : ByteArray)) ∧ HB w (fun _ => False) x sT w'))
    (HV : Hid (∀ x W, HB w (fun _ => False) x sT W → Calls Tryz.prog 14 #[.pointer (some ⟨x, 0, none⟩), .string ((⟨#[71, 73, 86, 69, 32, 104, 32]⟩ : ByteArray) ++ OW who ++ (⟨#[32]⟩ : ByteArray) ++ AA (167772161 + (k : Int)))] W fun e w' => e = .returned (.string (⟨#[79, 75]⟩ : ByteArray)) ∧ HB w (fun _ => False) x sG w'))
    (HI : Hid (∀ x W, HB w (fun _ => False) x sG W → Calls Tryz.prog 14 #[.pointer (some ⟨x, 0, none⟩), .string ((⟨#[76, 69, 65, 83, 69, 32, 105, 32, 98, 111, 98, 32]⟩ : ByteArray) ++ ((⟨#[49, 48, 46, 48, 46, 48, 46, 48, 47]⟩ : ByteArray) ++ D n))] W fun e w' => e = .returned (.string ((⟨#[79, 75, 32]⟩ : ByteArray) ++ AA (167772161 + (k : Int)))) ∧ HB w (fun _ => False) x sI w'))
    (HJ : Hid (∀ x W, HB w (fun _ => False) x sI W → Calls Tryz.prog 14 #[.pointer (some ⟨x, 0, none⟩), .string ((⟨#[70, 82, 69, 69, 32, 106, 32, 97, 110, 110, 32]⟩ : ByteArray) ++ ((⟨#[49, 48, 46, 48, 46, 48, 46, 48, 47]⟩ : ByteArray) ++ D n))] W fun e w' => e = .returned (.string (⟨#[69, 82, 82, 32, 66, 85, 83, 89]⟩ : ByteArray)) ∧ HB w (fun _ => False) x sJ w'))
 :
    Calls Tryz.prog 6 #[.int .i64 bits, .int .i64 which, .int .i64 who] w fun e w' => e = .returned (.bool true) ∧ Below w.heap.size w w' := by
  have hDn := hD n
  have hOw := hO who
  have e1 : (27 : Int) + ((n : Int) - 27) = n := by omega
  have hqe : ((OW who).toList == (OW k).toList) = true := (Lib.bytes_beq_iff _ _).2 hown
  replace hown : Hid _ := hown
  go_enter Tryz.func6, Tryz.ntmps6
  go_wp2_with (first | (go_at_call 9; refine HO.out.mono ?_; rintro e wN ⟨x, dd, rfl, HBC, hq⟩; replace HBC : Hid (HB w (fun _ => False) x bk0 wN) := HBC; clear hq) | (go_at_call 18; refine (HP.out _ _ _ (by simp) (by simp)).mono ?_; rintro e wN ⟨rfl, hq⟩; replace HBC : Hid (HB w (fun _ => False) x _ wN) := HB.below (by repeat' (first | with_reducible exact HBC.out | with_reducible apply HB.drew | with_reducible apply HB.alloc)) hq; clear hq) | (go_at_call 19; refine (HG.out _ _ (by omega) (by omega)).mono ?_; rintro e wN ⟨rfl, hq⟩; replace HBC : Hid (HB w (fun _ => False) x _ wN) := HB.below (by repeat' (first | with_reducible exact HBC.out | with_reducible apply HB.drew | with_reducible apply HB.alloc)) hq; clear hq) | (go_at_call 21; refine (HZ.out _).mono ?_; rintro e wN ⟨rfl, hq⟩; replace HBC : Hid (HB w (fun _ => False) x _ wN) := HB.below (by repeat' (first | with_reducible exact HBC.out | with_reducible apply HB.drew | with_reducible apply HB.alloc)) hq; clear hq) | (go_at_call 14; have hst : HB w (fun _ => False) x bk0 _ := HBC.out; clear hst; refine (H0.out x _ (by repeat' (first | with_reducible exact HBC.out | with_reducible apply HB.drew | with_reducible apply HB.alloc))).mono ?_; rintro e wN ⟨rfl, hq⟩; replace HBC : Hid (HB w (fun _ => False) x _ wN) := hq; clear hq) | (go_at_call 14; have hst : HB w (fun _ => False) x sP _ := HBC.out; clear hst; refine (HB0.out x _ (by repeat' (first | with_reducible exact HBC.out | with_reducible apply HB.drew | with_reducible apply HB.alloc))).mono ?_; rintro e wN ⟨rfl, hq⟩; replace HBC : Hid (HB w (fun _ => False) x _ wN) := hq; clear hq))
  clear e1 hp1 hn30 hSZ hSb
  go_loopw [15, 16] (fun ok i wr => ∃ j : Nat, j ≤ fit ∧ ok = .bool true ∧ i = .int .i64 j ∧ Hid (HB w (fun _ => False) x (st j) wr)) (fun _ i _ => (fit - intOf i).toNat)
  case atStart => exact ⟨0, by omega, rfl, rfl, HBC.out⟩
  case round =>
    clear HBC
    obtain ⟨j, hjf, rfl, rfl, HBC⟩ := hrel
    by_cases hlt : j < fit
    · have hlt2 : (j : Int) < (fit : Int) := by omega
      have HNj : Hid _ := HN.out j hlt
      have hDj := hD j
      have hOj := hO j
      have hAj := hA (167772161 + (j : Int))
      clear hqe
      go_wp2_with (first | (go_at_call 19; refine (HG.out _ _ (by omega) (by omega)).mono ?_; rintro e wN ⟨rfl, hq⟩; replace HBC : Hid (HB w (fun _ => False) x _ wN) := HB.below (by repeat' (first | with_reducible exact HBC.out | with_reducible apply HB.drew | with_reducible apply HB.alloc)) hq; clear hq) | (go_at_call 22; refine (HW.out _ _ (.inr ⟨by omega, by omega⟩)).mono ?_; rintro e wN ⟨rfl, hq⟩; replace HBC : Hid (HB w (fun _ => False) x _ wN) := HB.below (by repeat' (first | with_reducible exact HBC.out | with_reducible apply HB.drew | with_reducible apply HB.alloc)) hq; clear hq) | (go_at_call 20; refine (HA.out _ _ (by omega) (by omega)).mono ?_; rintro e wN ⟨rfl, hq⟩; replace HBC : Hid (HB w (fun _ => False) x _ wN) := HB.below (by repeat' (first | with_reducible exact HBC.out | with_reducible apply HB.drew | with_reducible apply HB.alloc)) hq; clear hq) | (go_at_call 14; have hst : HB w (fun _ => False) x (st j) _ := HBC.out; clear hst; refine (HNj.out x _ (by repeat' (first | with_reducible exact HBC.out | with_reducible apply HB.drew | with_reducible apply HB.alloc))).mono ?_; rintro e wN ⟨rfl, hq⟩; replace HBC : Hid (HB w (fun _ => False) x _ wN) := hq; clear hq))
      go_roundw
      case rel => exact ⟨j + 1, by omega, rfl, by simp, HBC.out⟩
      case measure => simp [intOf]; omega
    · obtain rfl : j = fit := by omega
      have hlt2 : ¬ (j : Int) < (j : Int) := by omega
      have hAj := hA (167772161 + (k : Int))
      go_wp2_with (first | (go_at_call 18; refine (HP.out _ _ _ (by simp) (by simp)).mono ?_; rintro e wN ⟨rfl, hq⟩; replace HBC : Hid (HB w (fun _ => False) x _ wN) := HB.below (by repeat' (first | with_reducible exact HBC.out | with_reducible apply HB.drew | with_reducible apply HB.alloc)) hq; clear hq) | (go_at_call 20; refine (HA.out _ _ (by omega) (by omega)).mono ?_; rintro e wN ⟨rfl, hq⟩; replace HBC : Hid (HB w (fun _ => False) x _ wN) := HB.below (by repeat' (first | with_reducible exact HBC.out | with_reducible apply HB.drew | with_reducible apply HB.alloc)) hq; clear hq) | (go_at_call 22; refine (HW.out _ _ (by first | exact .inl rfl | exact .inr ⟨by omega, by omega⟩)).mono ?_; rintro e wN ⟨rfl, hq⟩; replace HBC : Hid (HB w (fun _ => False) x _ wN) := HB.below (by repeat' (first | with_reducible exact HBC.out | with_reducible apply HB.drew | with_reducible apply HB.alloc)) hq; clear hq) | (go_at_call 14; have hst : HB w (fun _ => False) x (st j) _ := HBC.out; clear hst; refine (HF.out x _ (by repeat' (first | with_reducible exact HBC.out | with_reducible apply HB.drew | with_reducible apply HB.alloc))).mono ?_; rintro e wN ⟨rfl, hq⟩; replace HBC : Hid (HB w (fun _ => False) x _ wN) := hq; clear hq) | (go_at_call 14; have hst : HB w (fun _ => False) x sF _ := HBC.out; clear hst; refine (HT.out x _ (by repeat' (first | with_reducible exact HBC.out | with_reducible apply HB.drew | with_reducible apply HB.alloc))).mono ?_; rintro e wN ⟨rfl, hq⟩; replace HBC : Hid (HB w (fun _ => False) x _ wN) := hq; clear hq) | (go_at_call 14; have hst : HB w (fun _ => False) x sT _ := HBC.out; clear hst; refine (HV.out x _ (by repeat' (first | with_reducible exact HBC.out | with_reducible apply HB.drew | with_reducible apply HB.alloc))).mono ?_; rintro e wN ⟨rfl, hq⟩; replace HBC : Hid (HB w (fun _ => False) x _ wN) := hq; clear hq) | (go_at_call 14; have hst : HB w (fun _ => False) x sG _ := HBC.out; clear hst; refine (HI.out x _ (by repeat' (first | with_reducible exact HBC.out | with_reducible apply HB.drew | with_reducible apply HB.alloc))).mono ?_; rintro e wN ⟨rfl, hq⟩; replace HBC : Hid (HB w (fun _ => False) x _ wN) := hq; clear hq) | (go_at_call 14; have hst : HB w (fun _ => False) x sI _ := HBC.out; clear hst; refine (HJ.out x _ (by repeat' (first | with_reducible exact HBC.out | with_reducible apply HB.drew | with_reducible apply HB.alloc))).mono ?_; rintro e wN ⟨rfl, hq⟩; replace HBC : Hid (HB w (fun _ => False) x _ wN) := hq; clear hq))
      go_ret
      exact ⟨rfl, HBC.out.low⟩

set_option maxRecDepth 100000 in
set_option maxHeartbeats 800000 in
theorem leased_b (bits which who : Int) (n fit k : Nat) (SZ : Int) (D OW : Int → ByteArray) (AA : Int → ByteArray) (st : Nat → Bk) (sP sF sT sG sI sJ : Bk) (w : World) (hn : 27 ≤ n ∧ n ≤ 32) (hn30 : (n : Int) ≤ 30) (hSZ : SZ - 2 = (fit : Int)) (hown : OW who ≠ OW k)
    (hp1 : pk bits 6 = (n : Int) - 27) (hp3 : pk which fit = k) (hk : k < fit) (hf : fit ≤ 30) (hf1 : 1 ≤ fit) (hSb : 0 ≤ SZ ∧ SZ ≤ 32)
    (hD : ∀ j, (D j).size ≤ 3) (hA : ∀ a, (AA a).size ≤ 15) (hO : ∀ a, (OW a).size ≤ 3)
    (HO : Hid (Calls Tryz.prog 9 #[] w fun e w' => ∃ x d, e = .returned (.tuple #[.pointer (some ⟨x, 0, none⟩), .pointer (some ⟨d, 0, none⟩)]) ∧ HB w (fun _ => False) x bk0 w' ∧ Below w.heap.size w w'))
    (HP : Hid (∀ (c k : Int) W, (k = 6 ∨ k = fit) → (c = bits ∨ c = which) → Calls Tryz.prog 18 #[.int .i64 c, .int .i64 k] W fun e w' => e = .returned (.int .i64 (pk c k)) ∧ Below W.heap.size W w'))
    (HG : Hid (∀ (j : Int) W, 0 ≤ j → j ≤ 32 → Calls Tryz.prog 19 #[.int .i64 j] W fun e w' => e = .returned (.string (D j)) ∧ Below W.heap.size W w'))
    (HZ : Hid (∀ W, Calls Tryz.prog 21 #[.int .i64 n] W fun e w' => e = .returned (.int .i64 SZ) ∧ Below W.heap.size W w'))
    (HW : Hid (∀ (j : Int) W, (j = who ∨ (0 ≤ j ∧ j ≤ 32)) → Calls Tryz.prog 22 #[.int .i64 j] W fun e w' => e = .returned (.string (OW j)) ∧ Below W.heap.size W w'))
    (HA : Hid (∀ (a : Int) W, 0 ≤ a → a < 4294967296 → Calls Tryz.prog 20 #[.int .u32 a] W fun e w' => e = .returned (.string (AA a)) ∧ Below W.heap.size W w'))
    (H0 : Hid (∀ x W, HB w (fun _ => False) x bk0 W → Calls Tryz.prog 14 #[.pointer (some ⟨x, 0, none⟩), .string ((⟨#[80, 79, 79, 76, 32, 112, 32, 97, 110, 110, 32, 49, 48, 46, 48, 46, 48, 46, 48, 47, 50, 52]⟩ : ByteArray))] W fun e w' => e = .returned (.string (⟨#[79, 75]⟩ : ByteArray)) ∧ HB w (fun _ => False) x sP w'))
    (HB0 : Hid (∀ x W, HB w (fun _ => False) x sP W → Calls Tryz.prog 14 #[.pointer (some ⟨x, 0, none⟩), .string ((⟨#[66, 76, 79, 67, 75, 32, 98, 32, 97, 110, 110, 32]⟩ : ByteArray) ++ ((⟨#[49, 48, 46, 48, 46, 48, 46, 48, 47]⟩ : ByteArray) ++ D n))] W fun e w' => e = .returned (.string (⟨#[79, 75]⟩ : ByteArray)) ∧ HB w (fun _ => False) x (st 0) w'))
    (HN : Hid (∀ (i : Nat) (hi : i < fit) x W, HB w (fun _ => False) x (st i) W → Calls Tryz.prog 14 #[.pointer (some ⟨x, 0, none⟩), .string ((⟨#[76, 69, 65, 83, 69, 32, 108]⟩ : ByteArray) ++ D i ++ (⟨#[32]⟩ : ByteArray) ++ OW i ++ (⟨#[32]⟩ : ByteArray) ++ ((⟨#[49, 48, 46, 48, 46, 48, 46, 48, 47]⟩ : ByteArray) ++ D n))] W fun e w' => e = .returned (.string ((⟨#[79, 75, 32]⟩ : ByteArray) ++ AA (167772161 + (i : Int)))) ∧ HB w (fun _ => False) x (st (i + 1)) w'))
    (HF : Hid (∀ x W, HB w (fun _ => False) x (st fit) W → Calls Tryz.prog 14 #[.pointer (some ⟨x, 0, none⟩), .string ((⟨#[76, 69, 65, 83, 69, 32, 102, 32, 97, 110, 110, 32]⟩ : ByteArray) ++ ((⟨#[49, 48, 46, 48, 46, 48, 46, 48, 47]⟩ : ByteArray) ++ D n))] W fun e w' => e = .returned (.string (⟨#[69, 82, 82, 32, 70, 85, 76, 76]⟩ : ByteArray)) ∧ HB w (fun _ => False) x sF w'))
    (HT : Hid (∀ x W, HB w (fun _ => False) x sF W → Calls Tryz.prog 14 #[.pointer (some ⟨x, 0, none⟩), .string ((⟨#[84, 65, 75, 69, 32, 103, 32, 97, 110, 110, 32]⟩ : ByteArray) ++ AA (167772161 + (k : Int)))] W fun e w' => e = .returned (.string (⟨#[69, 82, 82, 32, 84, 65, 75, 69, 78]⟩ : ByteArray)) ∧ HB w (fun _ => False) x sT w'))
    (HV : Hid (∀ x W, HB w (fun _ => False) x sT W → Calls Tryz.prog 14 #[.pointer (some ⟨x, 0, none⟩), .string ((⟨#[71, 73, 86, 69, 32, 104, 32]⟩ : ByteArray) ++ OW who ++ (⟨#[32]⟩ : ByteArray) ++ AA (167772161 + (k : Int)))] W fun e w' => e = .returned (.string (⟨#[69, 82, 82, 32, 79, 87, 78, 69, 82]⟩ : ByteArray)) ∧ HB w (fun _ => False) x sG w'))
 :
    Calls Tryz.prog 6 #[.int .i64 bits, .int .i64 which, .int .i64 who] w fun e w' => e = .returned (.bool true) ∧ Below w.heap.size w w' := by
  have hDn := hD n
  have hOw := hO who
  have e1 : (27 : Int) + ((n : Int) - 27) = n := by omega
  have hqe : ((OW who).toList == (OW k).toList) = false := (Lib.bytes_beq_false_iff _ _).2 hown
  replace hown : Hid _ := hown
  go_enter Tryz.func6, Tryz.ntmps6
  go_wp2_with (first | (go_at_call 9; refine HO.out.mono ?_; rintro e wN ⟨x, dd, rfl, HBC, hq⟩; replace HBC : Hid (HB w (fun _ => False) x bk0 wN) := HBC; clear hq) | (go_at_call 18; refine (HP.out _ _ _ (by simp) (by simp)).mono ?_; rintro e wN ⟨rfl, hq⟩; replace HBC : Hid (HB w (fun _ => False) x _ wN) := HB.below (by repeat' (first | with_reducible exact HBC.out | with_reducible apply HB.drew | with_reducible apply HB.alloc)) hq; clear hq) | (go_at_call 19; refine (HG.out _ _ (by omega) (by omega)).mono ?_; rintro e wN ⟨rfl, hq⟩; replace HBC : Hid (HB w (fun _ => False) x _ wN) := HB.below (by repeat' (first | with_reducible exact HBC.out | with_reducible apply HB.drew | with_reducible apply HB.alloc)) hq; clear hq) | (go_at_call 21; refine (HZ.out _).mono ?_; rintro e wN ⟨rfl, hq⟩; replace HBC : Hid (HB w (fun _ => False) x _ wN) := HB.below (by repeat' (first | with_reducible exact HBC.out | with_reducible apply HB.drew | with_reducible apply HB.alloc)) hq; clear hq) | (go_at_call 14; have hst : HB w (fun _ => False) x bk0 _ := HBC.out; clear hst; refine (H0.out x _ (by repeat' (first | with_reducible exact HBC.out | with_reducible apply HB.drew | with_reducible apply HB.alloc))).mono ?_; rintro e wN ⟨rfl, hq⟩; replace HBC : Hid (HB w (fun _ => False) x _ wN) := hq; clear hq) | (go_at_call 14; have hst : HB w (fun _ => False) x sP _ := HBC.out; clear hst; refine (HB0.out x _ (by repeat' (first | with_reducible exact HBC.out | with_reducible apply HB.drew | with_reducible apply HB.alloc))).mono ?_; rintro e wN ⟨rfl, hq⟩; replace HBC : Hid (HB w (fun _ => False) x _ wN) := hq; clear hq))
  clear e1 hp1 hn30 hSZ hSb
  go_loopw [15, 16] (fun ok i wr => ∃ j : Nat, j ≤ fit ∧ ok = .bool true ∧ i = .int .i64 j ∧ Hid (HB w (fun _ => False) x (st j) wr)) (fun _ i _ => (fit - intOf i).toNat)
  case atStart => exact ⟨0, by omega, rfl, rfl, HBC.out⟩
  case round =>
    clear HBC
    obtain ⟨j, hjf, rfl, rfl, HBC⟩ := hrel
    by_cases hlt : j < fit
    · have hlt2 : (j : Int) < (fit : Int) := by omega
      have HNj : Hid _ := HN.out j hlt
      have hDj := hD j
      have hOj := hO j
      have hAj := hA (167772161 + (j : Int))
      clear hqe
      go_wp2_with (first | (go_at_call 19; refine (HG.out _ _ (by omega) (by omega)).mono ?_; rintro e wN ⟨rfl, hq⟩; replace HBC : Hid (HB w (fun _ => False) x _ wN) := HB.below (by repeat' (first | with_reducible exact HBC.out | with_reducible apply HB.drew | with_reducible apply HB.alloc)) hq; clear hq) | (go_at_call 22; refine (HW.out _ _ (.inr ⟨by omega, by omega⟩)).mono ?_; rintro e wN ⟨rfl, hq⟩; replace HBC : Hid (HB w (fun _ => False) x _ wN) := HB.below (by repeat' (first | with_reducible exact HBC.out | with_reducible apply HB.drew | with_reducible apply HB.alloc)) hq; clear hq) | (go_at_call 20; refine (HA.out _ _ (by omega) (by omega)).mono ?_; rintro e wN ⟨rfl, hq⟩; replace HBC : Hid (HB w (fun _ => False) x _ wN) := HB.below (by repeat' (first | with_reducible exact HBC.out | with_reducible apply HB.drew | with_reducible apply HB.alloc)) hq; clear hq) | (go_at_call 14; have hst : HB w (fun _ => False) x (st j) _ := HBC.out; clear hst; refine (HNj.out x _ (by repeat' (first | with_reducible exact HBC.out | with_reducible apply HB.drew | with_reducible apply HB.alloc))).mono ?_; rintro e wN ⟨rfl, hq⟩; replace HBC : Hid (HB w (fun _ => False) x _ wN) := hq; clear hq))
      go_roundw
      case rel => exact ⟨j + 1, by omega, rfl, by simp, HBC.out⟩
      case measure => simp [intOf]; omega
    · obtain rfl : j = fit := by omega
      have hlt2 : ¬ (j : Int) < (j : Int) := by omega
      have hAj := hA (167772161 + (k : Int))
      go_wp2_with (first | (go_at_call 18; refine (HP.out _ _ _ (by simp) (by simp)).mono ?_; rintro e wN ⟨rfl, hq⟩; replace HBC : Hid (HB w (fun _ => False) x _ wN) := HB.below (by repeat' (first | with_reducible exact HBC.out | with_reducible apply HB.drew | with_reducible apply HB.alloc)) hq; clear hq) | (go_at_call 20; refine (HA.out _ _ (by omega) (by omega)).mono ?_; rintro e wN ⟨rfl, hq⟩; replace HBC : Hid (HB w (fun _ => False) x _ wN) := HB.below (by repeat' (first | with_reducible exact HBC.out | with_reducible apply HB.drew | with_reducible apply HB.alloc)) hq; clear hq) | (go_at_call 22; refine (HW.out _ _ (by first | exact .inl rfl | exact .inr ⟨by omega, by omega⟩)).mono ?_; rintro e wN ⟨rfl, hq⟩; replace HBC : Hid (HB w (fun _ => False) x _ wN) := HB.below (by repeat' (first | with_reducible exact HBC.out | with_reducible apply HB.drew | with_reducible apply HB.alloc)) hq; clear hq) | (go_at_call 14; have hst : HB w (fun _ => False) x (st j) _ := HBC.out; clear hst; refine (HF.out x _ (by repeat' (first | with_reducible exact HBC.out | with_reducible apply HB.drew | with_reducible apply HB.alloc))).mono ?_; rintro e wN ⟨rfl, hq⟩; replace HBC : Hid (HB w (fun _ => False) x _ wN) := hq; clear hq) | (go_at_call 14; have hst : HB w (fun _ => False) x sF _ := HBC.out; clear hst; refine (HT.out x _ (by repeat' (first | with_reducible exact HBC.out | with_reducible apply HB.drew | with_reducible apply HB.alloc))).mono ?_; rintro e wN ⟨rfl, hq⟩; replace HBC : Hid (HB w (fun _ => False) x _ wN) := hq; clear hq) | (go_at_call 14; have hst : HB w (fun _ => False) x sT _ := HBC.out; clear hst; refine (HV.out x _ (by repeat' (first | with_reducible exact HBC.out | with_reducible apply HB.drew | with_reducible apply HB.alloc))).mono ?_; rintro e wN ⟨rfl, hq⟩; replace HBC : Hid (HB w (fun _ => False) x _ wN) := hq; clear hq))
      go_ret
      exact ⟨rfl, HBC.out.low⟩
end Go.Proofs.YtlikdnmikdldfaaGreatDoor
namespace Go.Proofs.YtlikdnmikdldfaaGreatDoor
open Go.Conc Go.ChangeShapes Go.WideShapes Go.ChangeAt Go.RowKit
set_option linter.unusedVariables false
set_option linter.unusedSimpArgs false

set_option maxRecDepth 100000 in
set_option maxHeartbeats 800000 in
theorem leased_c (bits which who : Int) (n fit k : Nat) (SZ : Int) (D OW : Int → ByteArray) (AA : Int → ByteArray) (st : Nat → Bk) (sP sF sT sG sI sJ : Bk) (w : World) (hn : 27 ≤ n ∧ n ≤ 32) (hn30 : ¬ (n : Int) ≤ 30) (hSZ : SZ = (fit : Int)) (hown : OW who = OW k)
    (hp1 : pk bits 6 = (n : Int) - 27) (hp3 : pk which fit = k) (hk : k < fit) (hf : fit ≤ 30) (hf1 : 1 ≤ fit) (hSb : 0 ≤ SZ ∧ SZ ≤ 32)
    (hD : ∀ j, (D j).size ≤ 3) (hA : ∀ a, (AA a).size ≤ 15) (hO : ∀ a, (OW a).size ≤ 3)
    (HO : Hid (Calls Tryz.prog 9 #[] w fun e w' => ∃ x d, e = .returned (.tuple #[.pointer (some ⟨x, 0, none⟩), .pointer (some ⟨d, 0, none⟩)]) ∧ HB w (fun _ => False) x bk0 w' ∧ Below w.heap.size w w'))
    (HP : Hid (∀ (c k : Int) W, (k = 6 ∨ k = fit) → (c = bits ∨ c = which) → Calls Tryz.prog 18 #[.int .i64 c, .int .i64 k] W fun e w' => e = .returned (.int .i64 (pk c k)) ∧ Below W.heap.size W w'))
    (HG : Hid (∀ (j : Int) W, 0 ≤ j → j ≤ 32 → Calls Tryz.prog 19 #[.int .i64 j] W fun e w' => e = .returned (.string (D j)) ∧ Below W.heap.size W w'))
    (HZ : Hid (∀ W, Calls Tryz.prog 21 #[.int .i64 n] W fun e w' => e = .returned (.int .i64 SZ) ∧ Below W.heap.size W w'))
    (HW : Hid (∀ (j : Int) W, (j = who ∨ (0 ≤ j ∧ j ≤ 32)) → Calls Tryz.prog 22 #[.int .i64 j] W fun e w' => e = .returned (.string (OW j)) ∧ Below W.heap.size W w'))
    (HA : Hid (∀ (a : Int) W, 0 ≤ a → a < 4294967296 → Calls Tryz.prog 20 #[.int .u32 a] W fun e w' => e = .returned (.string (AA a)) ∧ Below W.heap.size W w'))
    (H0 : Hid (∀ x W, HB w (fun _ => False) x bk0 W → Calls Tryz.prog 14 #[.pointer (some ⟨x, 0, none⟩), .string ((⟨#[80, 79, 79, 76, 32, 112, 32, 97, 110, 110, 32, 49, 48, 46, 48, 46, 48, 46, 48, 47, 50, 52]⟩ : ByteArray))] W fun e w' => e = .returned (.string (⟨#[79, 75]⟩ : ByteArray)) ∧ HB w (fun _ => False) x sP w'))
    (HB0 : Hid (∀ x W, HB w (fun _ => False) x sP W → Calls Tryz.prog 14 #[.pointer (some ⟨x, 0, none⟩), .string ((⟨#[66, 76, 79, 67, 75, 32, 98, 32, 97, 110, 110, 32]⟩ : ByteArray) ++ ((⟨#[49, 48, 46, 48, 46, 48, 46, 48, 47]⟩ : ByteArray) ++ D n))] W fun e w' => e = .returned (.string (⟨#[79, 75]⟩ : ByteArray)) ∧ HB w (fun _ => False) x (st 0) w'))
    (HN : Hid (∀ (i : Nat) (hi : i < fit) x W, HB w (fun _ => False) x (st i) W → Calls Tryz.prog 14 #[.pointer (some ⟨x, 0, none⟩), .string ((⟨#[76, 69, 65, 83, 69, 32, 108]⟩ : ByteArray) ++ D i ++ (⟨#[32]⟩ : ByteArray) ++ OW i ++ (⟨#[32]⟩ : ByteArray) ++ ((⟨#[49, 48, 46, 48, 46, 48, 46, 48, 47]⟩ : ByteArray) ++ D n))] W fun e w' => e = .returned (.string ((⟨#[79, 75, 32]⟩ : ByteArray) ++ AA (167772160 + (i : Int)))) ∧ HB w (fun _ => False) x (st (i + 1)) w'))
    (HF : Hid (∀ x W, HB w (fun _ => False) x (st fit) W → Calls Tryz.prog 14 #[.pointer (some ⟨x, 0, none⟩), .string ((⟨#[76, 69, 65, 83, 69, 32, 102, 32, 97, 110, 110, 32]⟩ : ByteArray) ++ ((⟨#[49, 48, 46, 48, 46, 48, 46, 48, 47]⟩ : ByteArray) ++ D n))] W fun e w' => e = .returned (.string (⟨#[69, 82, 82, 32, 70, 85, 76, 76]⟩ : ByteArray)) ∧ HB w (fun _ => False) x sF w'))
    (HT : Hid (∀ x W, HB w (fun _ => False) x sF W → Calls Tryz.prog 14 #[.pointer (some ⟨x, 0, none⟩), .string ((⟨#[84, 65, 75, 69, 32, 103, 32, 97, 110, 110, 32]⟩ : ByteArray) ++ AA (167772160 + (k : Int)))] W fun e w' => e = .returned (.string (⟨#[69, 82, 82, 32, 84, 65, 75, 69, 78]⟩ : ByteArray)) ∧ HB w (fun _ => False) x sT w'))
    (HV : Hid (∀ x W, HB w (fun _ => False) x sT W → Calls Tryz.prog 14 #[.pointer (some ⟨x, 0, none⟩), .string ((⟨#[71, 73, 86, 69, 32, 104, 32]⟩ : ByteArray) ++ OW who ++ (⟨#[32]⟩ : ByteArray) ++ AA (167772160 + (k : Int)))] W fun e w' => e = .returned (.string (⟨#[79, 75]⟩ : ByteArray)) ∧ HB w (fun _ => False) x sG w'))
    (HI : Hid (∀ x W, HB w (fun _ => False) x sG W → Calls Tryz.prog 14 #[.pointer (some ⟨x, 0, none⟩), .string ((⟨#[76, 69, 65, 83, 69, 32, 105, 32, 98, 111, 98, 32]⟩ : ByteArray) ++ ((⟨#[49, 48, 46, 48, 46, 48, 46, 48, 47]⟩ : ByteArray) ++ D n))] W fun e w' => e = .returned (.string ((⟨#[79, 75, 32]⟩ : ByteArray) ++ AA (167772160 + (k : Int)))) ∧ HB w (fun _ => False) x sI w'))
    (HJ : Hid (∀ x W, HB w (fun _ => False) x sI W → Calls Tryz.prog 14 #[.pointer (some ⟨x, 0, none⟩), .string ((⟨#[70, 82, 69, 69, 32, 106, 32, 97, 110, 110, 32]⟩ : ByteArray) ++ ((⟨#[49, 48, 46, 48, 46, 48, 46, 48, 47]⟩ : ByteArray) ++ D n))] W fun e w' => e = .returned (.string (⟨#[69, 82, 82, 32, 66, 85, 83, 89]⟩ : ByteArray)) ∧ HB w (fun _ => False) x sJ w'))
 :
    Calls Tryz.prog 6 #[.int .i64 bits, .int .i64 which, .int .i64 who] w fun e w' => e = .returned (.bool true) ∧ Below w.heap.size w w' := by
  have hDn := hD n
  have hOw := hO who
  have e1 : (27 : Int) + ((n : Int) - 27) = n := by omega
  have hqe : ((OW who).toList == (OW k).toList) = true := (Lib.bytes_beq_iff _ _).2 hown
  replace hown : Hid _ := hown
  go_enter Tryz.func6, Tryz.ntmps6
  go_wp2_with (first | (go_at_call 9; refine HO.out.mono ?_; rintro e wN ⟨x, dd, rfl, HBC, hq⟩; replace HBC : Hid (HB w (fun _ => False) x bk0 wN) := HBC; clear hq) | (go_at_call 18; refine (HP.out _ _ _ (by simp) (by simp)).mono ?_; rintro e wN ⟨rfl, hq⟩; replace HBC : Hid (HB w (fun _ => False) x _ wN) := HB.below (by repeat' (first | with_reducible exact HBC.out | with_reducible apply HB.drew | with_reducible apply HB.alloc)) hq; clear hq) | (go_at_call 19; refine (HG.out _ _ (by omega) (by omega)).mono ?_; rintro e wN ⟨rfl, hq⟩; replace HBC : Hid (HB w (fun _ => False) x _ wN) := HB.below (by repeat' (first | with_reducible exact HBC.out | with_reducible apply HB.drew | with_reducible apply HB.alloc)) hq; clear hq) | (go_at_call 21; refine (HZ.out _).mono ?_; rintro e wN ⟨rfl, hq⟩; replace HBC : Hid (HB w (fun _ => False) x _ wN) := HB.below (by repeat' (first | with_reducible exact HBC.out | with_reducible apply HB.drew | with_reducible apply HB.alloc)) hq; clear hq) | (go_at_call 14; have hst : HB w (fun _ => False) x bk0 _ := HBC.out; clear hst; refine (H0.out x _ (by repeat' (first | with_reducible exact HBC.out | with_reducible apply HB.drew | with_reducible apply HB.alloc))).mono ?_; rintro e wN ⟨rfl, hq⟩; replace HBC : Hid (HB w (fun _ => False) x _ wN) := hq; clear hq) | (go_at_call 14; have hst : HB w (fun _ => False) x sP _ := HBC.out; clear hst; refine (HB0.out x _ (by repeat' (first | with_reducible exact HBC.out | with_reducible apply HB.drew | with_reducible apply HB.alloc))).mono ?_; rintro e wN ⟨rfl, hq⟩; replace HBC : Hid (HB w (fun _ => False) x _ wN) := hq; clear hq))
  clear e1 hp1 hn30 hSZ hSb
  go_loopw [15, 16] (fun ok i wr => ∃ j : Nat, j ≤ fit ∧ ok = .bool true ∧ i = .int .i64 j ∧ Hid (HB w (fun _ => False) x (st j) wr)) (fun _ i _ => (fit - intOf i).toNat)
  case atStart => exact ⟨0, by omega, rfl, rfl, HBC.out⟩
  case round =>
    clear HBC
    obtain ⟨j, hjf, rfl, rfl, HBC⟩ := hrel
    by_cases hlt : j < fit
    · have hlt2 : (j : Int) < (fit : Int) := by omega
      have HNj : Hid _ := HN.out j hlt
      have hDj := hD j
      have hOj := hO j
      have hAj := hA (167772160 + (j : Int))
      clear hqe
      go_wp2_with (first | (go_at_call 19; refine (HG.out _ _ (by omega) (by omega)).mono ?_; rintro e wN ⟨rfl, hq⟩; replace HBC : Hid (HB w (fun _ => False) x _ wN) := HB.below (by repeat' (first | with_reducible exact HBC.out | with_reducible apply HB.drew | with_reducible apply HB.alloc)) hq; clear hq) | (go_at_call 22; refine (HW.out _ _ (.inr ⟨by omega, by omega⟩)).mono ?_; rintro e wN ⟨rfl, hq⟩; replace HBC : Hid (HB w (fun _ => False) x _ wN) := HB.below (by repeat' (first | with_reducible exact HBC.out | with_reducible apply HB.drew | with_reducible apply HB.alloc)) hq; clear hq) | (go_at_call 20; refine (HA.out _ _ (by omega) (by omega)).mono ?_; rintro e wN ⟨rfl, hq⟩; replace HBC : Hid (HB w (fun _ => False) x _ wN) := HB.below (by repeat' (first | with_reducible exact HBC.out | with_reducible apply HB.drew | with_reducible apply HB.alloc)) hq; clear hq) | (go_at_call 14; have hst : HB w (fun _ => False) x (st j) _ := HBC.out; clear hst; refine (HNj.out x _ (by repeat' (first | with_reducible exact HBC.out | with_reducible apply HB.drew | with_reducible apply HB.alloc))).mono ?_; rintro e wN ⟨rfl, hq⟩; replace HBC : Hid (HB w (fun _ => False) x _ wN) := hq; clear hq))
      go_roundw
      case rel => exact ⟨j + 1, by omega, rfl, by simp, HBC.out⟩
      case measure => simp [intOf]; omega
    · obtain rfl : j = fit := by omega
      have hlt2 : ¬ (j : Int) < (j : Int) := by omega
      have hAj := hA (167772160 + (k : Int))
      go_wp2_with (first | (go_at_call 18; refine (HP.out _ _ _ (by simp) (by simp)).mono ?_; rintro e wN ⟨rfl, hq⟩; replace HBC : Hid (HB w (fun _ => False) x _ wN) := HB.below (by repeat' (first | with_reducible exact HBC.out | with_reducible apply HB.drew | with_reducible apply HB.alloc)) hq; clear hq) | (go_at_call 20; refine (HA.out _ _ (by omega) (by omega)).mono ?_; rintro e wN ⟨rfl, hq⟩; replace HBC : Hid (HB w (fun _ => False) x _ wN) := HB.below (by repeat' (first | with_reducible exact HBC.out | with_reducible apply HB.drew | with_reducible apply HB.alloc)) hq; clear hq) | (go_at_call 22; refine (HW.out _ _ (by first | exact .inl rfl | exact .inr ⟨by omega, by omega⟩)).mono ?_; rintro e wN ⟨rfl, hq⟩; replace HBC : Hid (HB w (fun _ => False) x _ wN) := HB.below (by repeat' (first | with_reducible exact HBC.out | with_reducible apply HB.drew | with_reducible apply HB.alloc)) hq; clear hq) | (go_at_call 14; have hst : HB w (fun _ => False) x (st j) _ := HBC.out; clear hst; refine (HF.out x _ (by repeat' (first | with_reducible exact HBC.out | with_reducible apply HB.drew | with_reducible apply HB.alloc))).mono ?_; rintro e wN ⟨rfl, hq⟩; replace HBC : Hid (HB w (fun _ => False) x _ wN) := hq; clear hq) | (go_at_call 14; have hst : HB w (fun _ => False) x sF _ := HBC.out; clear hst; refine (HT.out x _ (by repeat' (first | with_reducible exact HBC.out | with_reducible apply HB.drew | with_reducible apply HB.alloc))).mono ?_; rintro e wN ⟨rfl, hq⟩; replace HBC : Hid (HB w (fun _ => False) x _ wN) := hq; clear hq) | (go_at_call 14; have hst : HB w (fun _ => False) x sT _ := HBC.out; clear hst; refine (HV.out x _ (by repeat' (first | with_reducible exact HBC.out | with_reducible apply HB.drew | with_reducible apply HB.alloc))).mono ?_; rintro e wN ⟨rfl, hq⟩; replace HBC : Hid (HB w (fun _ => False) x _ wN) := hq; clear hq) | (go_at_call 14; have hst : HB w (fun _ => False) x sG _ := HBC.out; clear hst; refine (HI.out x _ (by repeat' (first | with_reducible exact HBC.out | with_reducible apply HB.drew | with_reducible apply HB.alloc))).mono ?_; rintro e wN ⟨rfl, hq⟩; replace HBC : Hid (HB w (fun _ => False) x _ wN) := hq; clear hq) | (go_at_call 14; have hst : HB w (fun _ => False) x sI _ := HBC.out; clear hst; refine (HJ.out x _ (by repeat' (first | with_reducible exact HBC.out | with_reducible apply HB.drew | with_reducible apply HB.alloc))).mono ?_; rintro e wN ⟨rfl, hq⟩; replace HBC : Hid (HB w (fun _ => False) x _ wN) := hq; clear hq))
      go_ret
      exact ⟨rfl, HBC.out.low⟩

set_option maxRecDepth 100000 in
set_option maxHeartbeats 800000 in
theorem leased_d (bits which who : Int) (n fit k : Nat) (SZ : Int) (D OW : Int → ByteArray) (AA : Int → ByteArray) (st : Nat → Bk) (sP sF sT sG sI sJ : Bk) (w : World) (hn : 27 ≤ n ∧ n ≤ 32) (hn30 : ¬ (n : Int) ≤ 30) (hSZ : SZ = (fit : Int)) (hown : OW who ≠ OW k)
    (hp1 : pk bits 6 = (n : Int) - 27) (hp3 : pk which fit = k) (hk : k < fit) (hf : fit ≤ 30) (hf1 : 1 ≤ fit) (hSb : 0 ≤ SZ ∧ SZ ≤ 32)
    (hD : ∀ j, (D j).size ≤ 3) (hA : ∀ a, (AA a).size ≤ 15) (hO : ∀ a, (OW a).size ≤ 3)
    (HO : Hid (Calls Tryz.prog 9 #[] w fun e w' => ∃ x d, e = .returned (.tuple #[.pointer (some ⟨x, 0, none⟩), .pointer (some ⟨d, 0, none⟩)]) ∧ HB w (fun _ => False) x bk0 w' ∧ Below w.heap.size w w'))
    (HP : Hid (∀ (c k : Int) W, (k = 6 ∨ k = fit) → (c = bits ∨ c = which) → Calls Tryz.prog 18 #[.int .i64 c, .int .i64 k] W fun e w' => e = .returned (.int .i64 (pk c k)) ∧ Below W.heap.size W w'))
    (HG : Hid (∀ (j : Int) W, 0 ≤ j → j ≤ 32 → Calls Tryz.prog 19 #[.int .i64 j] W fun e w' => e = .returned (.string (D j)) ∧ Below W.heap.size W w'))
    (HZ : Hid (∀ W, Calls Tryz.prog 21 #[.int .i64 n] W fun e w' => e = .returned (.int .i64 SZ) ∧ Below W.heap.size W w'))
    (HW : Hid (∀ (j : Int) W, (j = who ∨ (0 ≤ j ∧ j ≤ 32)) → Calls Tryz.prog 22 #[.int .i64 j] W fun e w' => e = .returned (.string (OW j)) ∧ Below W.heap.size W w'))
    (HA : Hid (∀ (a : Int) W, 0 ≤ a → a < 4294967296 → Calls Tryz.prog 20 #[.int .u32 a] W fun e w' => e = .returned (.string (AA a)) ∧ Below W.heap.size W w'))
    (H0 : Hid (∀ x W, HB w (fun _ => False) x bk0 W → Calls Tryz.prog 14 #[.pointer (some ⟨x, 0, none⟩), .string ((⟨#[80, 79, 79, 76, 32, 112, 32, 97, 110, 110, 32, 49, 48, 46, 48, 46, 48, 46, 48, 47, 50, 52]⟩ : ByteArray))] W fun e w' => e = .returned (.string (⟨#[79, 75]⟩ : ByteArray)) ∧ HB w (fun _ => False) x sP w'))
    (HB0 : Hid (∀ x W, HB w (fun _ => False) x sP W → Calls Tryz.prog 14 #[.pointer (some ⟨x, 0, none⟩), .string ((⟨#[66, 76, 79, 67, 75, 32, 98, 32, 97, 110, 110, 32]⟩ : ByteArray) ++ ((⟨#[49, 48, 46, 48, 46, 48, 46, 48, 47]⟩ : ByteArray) ++ D n))] W fun e w' => e = .returned (.string (⟨#[79, 75]⟩ : ByteArray)) ∧ HB w (fun _ => False) x (st 0) w'))
    (HN : Hid (∀ (i : Nat) (hi : i < fit) x W, HB w (fun _ => False) x (st i) W → Calls Tryz.prog 14 #[.pointer (some ⟨x, 0, none⟩), .string ((⟨#[76, 69, 65, 83, 69, 32, 108]⟩ : ByteArray) ++ D i ++ (⟨#[32]⟩ : ByteArray) ++ OW i ++ (⟨#[32]⟩ : ByteArray) ++ ((⟨#[49, 48, 46, 48, 46, 48, 46, 48, 47]⟩ : ByteArray) ++ D n))] W fun e w' => e = .returned (.string ((⟨#[79, 75, 32]⟩ : ByteArray) ++ AA (167772160 + (i : Int)))) ∧ HB w (fun _ => False) x (st (i + 1)) w'))
    (HF : Hid (∀ x W, HB w (fun _ => False) x (st fit) W → Calls Tryz.prog 14 #[.pointer (some ⟨x, 0, none⟩), .string ((⟨#[76, 69, 65, 83, 69, 32, 102, 32, 97, 110, 110, 32]⟩ : ByteArray) ++ ((⟨#[49, 48, 46, 48, 46, 48, 46, 48, 47]⟩ : ByteArray) ++ D n))] W fun e w' => e = .returned (.string (⟨#[69, 82, 82, 32, 70, 85, 76, 76]⟩ : ByteArray)) ∧ HB w (fun _ => False) x sF w'))
    (HT : Hid (∀ x W, HB w (fun _ => False) x sF W → Calls Tryz.prog 14 #[.pointer (some ⟨x, 0, none⟩), .string ((⟨#[84, 65, 75, 69, 32, 103, 32, 97, 110, 110, 32]⟩ : ByteArray) ++ AA (167772160 + (k : Int)))] W fun e w' => e = .returned (.string (⟨#[69, 82, 82, 32, 84, 65, 75, 69, 78]⟩ : ByteArray)) ∧ HB w (fun _ => False) x sT w'))
    (HV : Hid (∀ x W, HB w (fun _ => False) x sT W → Calls Tryz.prog 14 #[.pointer (some ⟨x, 0, none⟩), .string ((⟨#[71, 73, 86, 69, 32, 104, 32]⟩ : ByteArray) ++ OW who ++ (⟨#[32]⟩ : ByteArray) ++ AA (167772160 + (k : Int)))] W fun e w' => e = .returned (.string (⟨#[69, 82, 82, 32, 79, 87, 78, 69, 82]⟩ : ByteArray)) ∧ HB w (fun _ => False) x sG w'))
 :
    Calls Tryz.prog 6 #[.int .i64 bits, .int .i64 which, .int .i64 who] w fun e w' => e = .returned (.bool true) ∧ Below w.heap.size w w' := by
  have hDn := hD n
  have hOw := hO who
  have e1 : (27 : Int) + ((n : Int) - 27) = n := by omega
  have hqe : ((OW who).toList == (OW k).toList) = false := (Lib.bytes_beq_false_iff _ _).2 hown
  replace hown : Hid _ := hown
  go_enter Tryz.func6, Tryz.ntmps6
  go_wp2_with (first | (go_at_call 9; refine HO.out.mono ?_; rintro e wN ⟨x, dd, rfl, HBC, hq⟩; replace HBC : Hid (HB w (fun _ => False) x bk0 wN) := HBC; clear hq) | (go_at_call 18; refine (HP.out _ _ _ (by simp) (by simp)).mono ?_; rintro e wN ⟨rfl, hq⟩; replace HBC : Hid (HB w (fun _ => False) x _ wN) := HB.below (by repeat' (first | with_reducible exact HBC.out | with_reducible apply HB.drew | with_reducible apply HB.alloc)) hq; clear hq) | (go_at_call 19; refine (HG.out _ _ (by omega) (by omega)).mono ?_; rintro e wN ⟨rfl, hq⟩; replace HBC : Hid (HB w (fun _ => False) x _ wN) := HB.below (by repeat' (first | with_reducible exact HBC.out | with_reducible apply HB.drew | with_reducible apply HB.alloc)) hq; clear hq) | (go_at_call 21; refine (HZ.out _).mono ?_; rintro e wN ⟨rfl, hq⟩; replace HBC : Hid (HB w (fun _ => False) x _ wN) := HB.below (by repeat' (first | with_reducible exact HBC.out | with_reducible apply HB.drew | with_reducible apply HB.alloc)) hq; clear hq) | (go_at_call 14; have hst : HB w (fun _ => False) x bk0 _ := HBC.out; clear hst; refine (H0.out x _ (by repeat' (first | with_reducible exact HBC.out | with_reducible apply HB.drew | with_reducible apply HB.alloc))).mono ?_; rintro e wN ⟨rfl, hq⟩; replace HBC : Hid (HB w (fun _ => False) x _ wN) := hq; clear hq) | (go_at_call 14; have hst : HB w (fun _ => False) x sP _ := HBC.out; clear hst; refine (HB0.out x _ (by repeat' (first | with_reducible exact HBC.out | with_reducible apply HB.drew | with_reducible apply HB.alloc))).mono ?_; rintro e wN ⟨rfl, hq⟩; replace HBC : Hid (HB w (fun _ => False) x _ wN) := hq; clear hq))
  clear e1 hp1 hn30 hSZ hSb
  go_loopw [15, 16] (fun ok i wr => ∃ j : Nat, j ≤ fit ∧ ok = .bool true ∧ i = .int .i64 j ∧ Hid (HB w (fun _ => False) x (st j) wr)) (fun _ i _ => (fit - intOf i).toNat)
  case atStart => exact ⟨0, by omega, rfl, rfl, HBC.out⟩
  case round =>
    clear HBC
    obtain ⟨j, hjf, rfl, rfl, HBC⟩ := hrel
    by_cases hlt : j < fit
    · have hlt2 : (j : Int) < (fit : Int) := by omega
      have HNj : Hid _ := HN.out j hlt
      have hDj := hD j
      have hOj := hO j
      have hAj := hA (167772160 + (j : Int))
      clear hqe
      go_wp2_with (first | (go_at_call 19; refine (HG.out _ _ (by omega) (by omega)).mono ?_; rintro e wN ⟨rfl, hq⟩; replace HBC : Hid (HB w (fun _ => False) x _ wN) := HB.below (by repeat' (first | with_reducible exact HBC.out | with_reducible apply HB.drew | with_reducible apply HB.alloc)) hq; clear hq) | (go_at_call 22; refine (HW.out _ _ (.inr ⟨by omega, by omega⟩)).mono ?_; rintro e wN ⟨rfl, hq⟩; replace HBC : Hid (HB w (fun _ => False) x _ wN) := HB.below (by repeat' (first | with_reducible exact HBC.out | with_reducible apply HB.drew | with_reducible apply HB.alloc)) hq; clear hq) | (go_at_call 20; refine (HA.out _ _ (by omega) (by omega)).mono ?_; rintro e wN ⟨rfl, hq⟩; replace HBC : Hid (HB w (fun _ => False) x _ wN) := HB.below (by repeat' (first | with_reducible exact HBC.out | with_reducible apply HB.drew | with_reducible apply HB.alloc)) hq; clear hq) | (go_at_call 14; have hst : HB w (fun _ => False) x (st j) _ := HBC.out; clear hst; refine (HNj.out x _ (by repeat' (first | with_reducible exact HBC.out | with_reducible apply HB.drew | with_reducible apply HB.alloc))).mono ?_; rintro e wN ⟨rfl, hq⟩; replace HBC : Hid (HB w (fun _ => False) x _ wN) := hq; clear hq))
      go_roundw
      case rel => exact ⟨j + 1, by omega, rfl, by simp, HBC.out⟩
      case measure => simp [intOf]; omega
    · obtain rfl : j = fit := by omega
      have hlt2 : ¬ (j : Int) < (j : Int) := by omega
      have hAj := hA (167772160 + (k : Int))
      go_wp2_with (first | (go_at_call 18; refine (HP.out _ _ _ (by simp) (by simp)).mono ?_; rintro e wN ⟨rfl, hq⟩; replace HBC : Hid (HB w (fun _ => False) x _ wN) := HB.below (by repeat' (first | with_reducible exact HBC.out | with_reducible apply HB.drew | with_reducible apply HB.alloc)) hq; clear hq) | (go_at_call 20; refine (HA.out _ _ (by omega) (by omega)).mono ?_; rintro e wN ⟨rfl, hq⟩; replace HBC : Hid (HB w (fun _ => False) x _ wN) := HB.below (by repeat' (first | with_reducible exact HBC.out | with_reducible apply HB.drew | with_reducible apply HB.alloc)) hq; clear hq) | (go_at_call 22; refine (HW.out _ _ (by first | exact .inl rfl | exact .inr ⟨by omega, by omega⟩)).mono ?_; rintro e wN ⟨rfl, hq⟩; replace HBC : Hid (HB w (fun _ => False) x _ wN) := HB.below (by repeat' (first | with_reducible exact HBC.out | with_reducible apply HB.drew | with_reducible apply HB.alloc)) hq; clear hq) | (go_at_call 14; have hst : HB w (fun _ => False) x (st j) _ := HBC.out; clear hst; refine (HF.out x _ (by repeat' (first | with_reducible exact HBC.out | with_reducible apply HB.drew | with_reducible apply HB.alloc))).mono ?_; rintro e wN ⟨rfl, hq⟩; replace HBC : Hid (HB w (fun _ => False) x _ wN) := hq; clear hq) | (go_at_call 14; have hst : HB w (fun _ => False) x sF _ := HBC.out; clear hst; refine (HT.out x _ (by repeat' (first | with_reducible exact HBC.out | with_reducible apply HB.drew | with_reducible apply HB.alloc))).mono ?_; rintro e wN ⟨rfl, hq⟩; replace HBC : Hid (HB w (fun _ => False) x _ wN) := hq; clear hq) | (go_at_call 14; have hst : HB w (fun _ => False) x sT _ := HBC.out; clear hst; refine (HV.out x _ (by repeat' (first | with_reducible exact HBC.out | with_reducible apply HB.drew | with_reducible apply HB.alloc))).mono ?_; rintro e wN ⟨rfl, hq⟩; replace HBC : Hid (HB w (fun _ => False) x _ wN) := hq; clear hq))
      go_ret
      exact ⟨rfl, HBC.out.low⟩
end Go.Proofs.YtlikdnmikdldfaaGreatDoor
namespace Go.Proofs.YtlikdnmikdldfaaGreatDoor
open Go.Conc Go.ChangeShapes Go.WideShapes Go.ChangeAt Go.RowKit
set_option linter.unusedVariables false
set_option linter.unusedSimpArgs false

set_option maxRecDepth 100000 in
set_option maxHeartbeats 400000 in
theorem owner_at (r : Int) (q : Nat) (t : ByteArray) (w : World) (hq : pk r 3 = q) (hc : -9223372036854775808 ≤ r ∧ r ≤ 9223372036854775807) (ht : (q = 0 ∧ t = ⟨#[97, 110, 110]⟩) ∨ (q = 1 ∧ t = ⟨#[98, 111, 98]⟩) ∨ (q = 2 ∧ t = ⟨#[99, 121]⟩)) :
    Calls Tryz.prog 22 #[.int .i64 r] w fun e w' => e = .returned (.string t) ∧ Below w.heap.size w w' := by
  have HP : Hid (∀ W, Calls Tryz.prog 18 #[.int .i64 r, .int .i64 3] W fun e w' => e = .returned (.int .i64 q) ∧ w' = W) := fun W => by rw [← hq]; exact pick_any r 3 W hc (by omega) (by omega)
  rcases ht with ⟨rfl, rfl⟩ | ⟨rfl, rfl⟩ | ⟨rfl, rfl⟩
  all_goals (
    clear hq hc
    go_enter Tryz.func22, Tryz.ntmps22
    go_wp2_with (go_at_call 18; refine (HP.out _).mono ?_; rintro e w1 ⟨rfl, rfl⟩)
    go_ret
    exact ⟨rfl, (by repeat' (first | with_reducible assumption | with_reducible exact Below.refl _ _ | with_reducible apply Below.drew | with_reducible apply below_drewN | with_reducible apply Below.setCell | with_reducible apply Below.alloc | omega | (simp; done) | (simp; omega)))⟩)
theorem owner_any (r : Int) (w : World) (hc : -9223372036854775808 ≤ r ∧ r ≤ 9223372036854775807) :
    Calls Tryz.prog 22 #[.int .i64 r] w fun e w' => e = .returned (.string (bs (own3 (pk r 3).toNat))) ∧ Below w.heap.size w w' := by
  have h := pk_bd r 3 (by omega)
  refine owner_at r (pk r 3).toNat _ w (by omega) hc ?_
  have hh : (pk r 3).toNat = 0 ∨ (pk r 3).toNat = 1 ∨ (pk r 3).toNat = 2 := by omega
  rcases hh with e | e | e <;> rw [e]
  · exact .inl ⟨rfl, rfl⟩
  · exact .inr (.inl ⟨rfl, rfl⟩)
  · exact .inr (.inr ⟨rfl, rfl⟩)
end Go.Proofs.YtlikdnmikdldfaaGreatDoor
namespace Go.Proofs.YtlikdnmikdldfaaGreatDoor
open Go.Conc Go.ChangeShapes Go.WideShapes Go.ChangeAt Go.RowKit
set_option linter.unusedVariables false
set_option linter.unusedSimpArgs false

/-- a line whose answer is known -/
theorem hb_known (w : World) (E : EnvT w) (hZ : 10 ≤ w.heap.size) (x : Nat) (s s' : Bk) (line line' ans : ByteArray) (hl : line = line') (he : doAll s line' = (s', ans)) (hI : Inv s) (W : World) (hW : HB w (fun _ => False) x s W) :
    Calls Tryz.prog 14 #[.pointer (some ⟨x, 0, none⟩), .string line] W fun e w' => e = .returned (.string ans) ∧ HB w (fun _ => False) x s' w' := by
  subst hl
  refine (hb_do w (fun _ => False) x s line E hZ hI W hW (fun b k => k.elim)).mono ?_
  rintro e w' ⟨rfl, h1, _⟩
  rw [he] at h1 ⊢
  exact ⟨rfl, h1⟩
def DI (j : Int) : ByteArray := bs (dec j.toNat)
def AI (a : Int) : ByteArray := bs (dot a.toNat)
theorem DI_size (j : Int) (h : j.toNat < 100) : (DI j).size ≤ 3 := by unfold DI; rw [bs_size]; have := dec_len2 h; omega
end Go.Proofs.YtlikdnmikdldfaaGreatDoor
namespace Go.Proofs.YtlikdnmikdldfaaGreatDoor
open Go.Conc Go.ChangeShapes Go.WideShapes Go.ChangeAt Go.RowKit
set_option linter.unusedVariables false
set_option linter.unusedSimpArgs false

def OI (r : Int) : ByteArray := bs (own3 (pk r 3).toNat)
theorem OI_nat (i : Nat) : OI (i : Int) = bs (own3 i) := by
  unfold OI pk
  rw [if_neg (by omega), show ((i : Int) % 3).toNat = i % 3 by omega, own3_mod]
theorem OI_size (r : Int) : (OI r).size ≤ 3 := by
  unfold OI
  rw [bs_size]
  unfold own3
  split
  · decide
  split <;> decide
/-- the states of the law -/
def leaseSt (n : Nat) (s0 : Bk) : Nat → Bk
  | 0 => s0
  | i + 1 => (doAll (leaseSt n s0 i) (bs ([76, 69, 65, 83, 69, 32, 108] ++ dec i ++ [32] ++ own3 i ++ [32] ++ ([49, 48, 46, 48, 46, 48, 46, 48, 47] ++ dec n)))).1
theorem leaseSt_inv {n : Nat} {s0 : Bk} (h : Inv s0) : ∀ i, Inv (leaseSt n s0 i)
  | 0 => h
  | i + 1 => inv_all (leaseSt_inv h i) _
theorem leaseSt_at {n : Nat} {s0 : Bk} (L : Le (n : Int)) (h0 : 27 ≤ n) (hm : n ≤ 32) (h : AtL n 0 s0) : ∀ i, i ≤ fitL n → AtL n i (leaseSt n s0 i)
  | 0, _ => h
  | i + 1, hi => by
    obtain ⟨s, e, hs⟩ := l_one L h0 hm (i := i) (by omega) (leaseSt_at L h0 hm h i (by omega))
    unfold leaseSt; rw [e]; exact hs
theorem leaseSt_one {n : Nat} {s0 : Bk} (L : Le (n : Int)) (h0 : 27 ≤ n) (hm : n ≤ 32) (h : AtL n 0 s0) {i : Nat} (hi : i < fitL n) :
    doAll (leaseSt n s0 i) (bs ([76, 69, 65, 83, 69, 32, 108] ++ dec i ++ [32] ++ own3 i ++ [32] ++ ([49, 48, 46, 48, 46, 48, 46, 48, 47] ++ dec n))) = (leaseSt n s0 (i + 1), bs ([79, 75, 32] ++ dot (fst1 n + (i : Int)).toNat)) := by
  obtain ⟨s, e, hs⟩ := l_one L h0 hm (i := i) hi (leaseSt_at L h0 hm h i (by omega))
  rw [e]
  show _ = ((doAll (leaseSt n s0 i) _).1, _)
  rw [e]

theorem leased_va (bits which who : Int) (n k : Nat) (w : World) (E : EnvT w) (hZ : 10 ≤ w.heap.size) (h0 : 27 ≤ n) (h1 : n ≤ 32) (hn30 : (n : Int) ≤ 30) (L : Le (n : Int)) (hown : OI who = OI (k : Int))
    (hb : ∀ c, (c = bits ∨ c = which ∨ c = who) → -9223372036854775808 ≤ c ∧ c ≤ 9223372036854775807) (hp1 : pk bits 6 = (n : Int) - 27) (hp3 : pk which (fitL n : Int) = k) (hk : k < fitL n) :
    Calls Tryz.prog 6 #[.int .i64 bits, .int .i64 which, .int .i64 who] w fun e w' => e = .returned (.bool true) ∧ Below w.heap.size w w' := by
  have hfl := L.le
  have hfp := L.pos
  have hfst : fst1 n = 167772161 := by unfold fst1; rw [if_pos hn30]; rfl
  have hszp := sz_pos (n : Int)
  have hsz32 : sz (n : Int) ≤ 32 := by have h := sz_mono (m := 27) (n := (n : Int)) (by omega) (by omega); have e : sz 27 = 32 := (by decide); omega
  have hfit : sz (n : Int) - 2 = (fitL n : Int) := by
    unfold fitL
    rw [if_pos hn30]
    have h2 := sz_succ (n : Int) (by omega); have h3 := sz_two (n := (n : Int) + 1) (by omega); omega
  obtain ⟨T0, e0, hT0⟩ := l_pool
  obtain ⟨s0, e1, hs0⟩ := l_block L h0 h1 hT0
  have hIP : Inv (⟨fP 24, [], [], T0⟩ : Bk) := by have h := inv_all bk0_ok.1 (bs [80, 79, 79, 76, 32, 112, 32, 97, 110, 110, 32, 49, 48, 46, 48, 46, 48, 46, 48, 47, 50, 52]); rw [e0] at h; exact h
  have hI0 : Inv s0 := by have h := inv_all hIP (bs ([66, 76, 79, 67, 75, 32, 98, 32, 97, 110, 110, 32] ++ ([49, 48, 46, 48, 46, 48, 46, 48, 47] ++ dec n))); rw [e1] at h; exact h
  have hIf := leaseSt_inv (n := n) hI0 (fitL n)
  obtain ⟨d1, d2, dn, dy⟩ := l_rest L h0 h1 (leaseSt_at L h0 h1 hs0 _ (Nat.le_refl _)) hk (own3 (pk who 3).toNat) (own3_name _)
  have hok : own3 (pk who 3).toNat = own3 k := by
    have e := OI_nat k
    have h := hown; rw [e] at h; exact bs_inj h
  obtain ⟨sG, sI, d3, d4, d5⟩ := dy hok
  have hIG : Inv sG := by have h := inv_all hIf (bs ([71, 73, 86, 69, 32, 104, 32] ++ own3 (pk who 3).toNat ++ [32] ++ dot (fst1 n + (k : Int)).toNat)); rw [d3] at h; exact h
  have hII : Inv sI := by have h := inv_all hIG (bs ([76, 69, 65, 83, 69, 32, 105, 32, 98, 111, 98, 32] ++ ([49, 48, 46, 48, 46, 48, 46, 48, 47] ++ dec n))); rw [d4] at h; exact h
  rw [hfst] at d2 d3 d4
  have hDn : ∀ j : Nat, j ≤ 32 → (if 0 ≤ (j : Int) ∧ (j : Int) ≤ 32 then DI (j : Int) else ⟨#[]⟩) = bs (dec j) := fun j hj => by rw [if_pos ⟨by omega, by omega⟩]; rfl
  have hAI : ∀ j : Nat, j ≤ 32 → (if 0 ≤ (167772161 : Int) + (j : Int) ∧ (167772161 : Int) + (j : Int) < 4294967296 then AI (167772161 + (j : Int)) else ⟨#[]⟩) = bs (dot ((167772161 : Int) + (j : Int)).toNat) := fun j hj => by rw [if_pos ⟨by omega, by omega⟩]; rfl
  refine leased_a bits which who n (fitL n) k (sz (n : Int)) (fun j => if 0 ≤ j ∧ j ≤ 32 then DI j else ⟨#[]⟩) OI (fun a => if 0 ≤ a ∧ a < 4294967296 then AI a else ⟨#[]⟩) (leaseSt n s0) ⟨fP 24, [], [], T0⟩ (leaseSt n s0 (fitL n)) (leaseSt n s0 (fitL n)) sG sI sI w ⟨h0, h1⟩ hn30 hfit hown hp1 hp3 hk (by omega) (by omega) ⟨by omega, by omega⟩ ?_ ?_ OI_size (opened_any w w (Below.refl _ _)) ?_ ?_ ?_ ?_ ?_ ?_ ?_ ?_ ?_ ?_ ?_ ?_ ?_
  · intro j
    split
    · exact DI_size j (by omega)
    · decide
  · intro a
    split
    · unfold AI; rw [bs_size]; exact (dot_lenB a.toNat (by omega)).2
    · decide
  · intro c q W hq hc
    refine (pick_any c q W (hb c (hc.imp id .inl)) (by omega) (by omega)).mono ?_
    rintro e w' ⟨rfl, rfl⟩
    exact ⟨rfl, Below.refl _ _⟩
  · intro j W hj0 hj1
    rw [if_pos ⟨hj0, hj1⟩]
    exact kdigits_any j W hj0 (by omega)
  · intro W
    refine (ksize_any (n : Int) W (by omega) (by omega)).mono ?_
    rintro e w' ⟨rfl, rfl⟩
    exact ⟨rfl, Below.refl _ _⟩
  · intro j W hj
    refine owner_any j W ?_
    rcases hj with rfl | hj
    · exact hb _ (.inr (.inr rfl))
    · omega
  · intro a W ha0 ha1
    rw [if_pos ⟨ha0, ha1⟩]
    exact kaddr_any a W ha0 ha1
  · intro x W hW
    exact hb_known w E hZ x bk0 _ _ _ _ rfl e0 bk0_ok.1 W hW
  · intro x W hW
    refine hb_known w E hZ x _ _ _ _ _ ?_ e1 hIP W hW
    rw [hDn n (by omega)]
    show bs _ ++ (bs _ ++ bs _) = _
    simp only [bs_append]
  · intro i hi x W hW
    refine (hb_known w E hZ x _ _ _ _ _ ?_ (leaseSt_one L h0 h1 hs0 hi) (leaseSt_inv hI0 i) W hW).mono ?_
    · rw [hDn n (by omega), hDn i (by omega), OI_nat]
      show bs _ ++ bs _ ++ bs _ ++ bs _ ++ bs _ ++ (bs _ ++ bs _) = _
      simp only [bs_append]
    · rintro e w' ⟨rfl, h⟩
      refine ⟨?_, h⟩
      rw [hAI i (by omega), hfst, ← bs_append]
      rfl
  · intro x W hW
    refine hb_known w E hZ x _ _ _ _ _ ?_ d1 hIf W hW
    rw [hDn n (by omega)]
    show bs _ ++ (bs _ ++ bs _) = _
    simp only [bs_append]
  · intro x W hW
    refine hb_known w E hZ x _ _ _ _ _ ?_ d2 hIf W hW
    rw [hAI k (by omega)]
    show bs _ ++ bs _ = _
    rw [bs_append]
  · intro x W hW
    refine hb_known w E hZ x _ _ _ _ _ ?_ d3 hIf W hW
    rw [hAI k (by omega)]
    show bs _ ++ bs (own3 (pk who 3).toNat) ++ bs _ ++ bs _ = _
    simp only [bs_append]
  · intro x W hW
    refine (hb_known w E hZ x _ _ _ _ _ ?_ d4 hIG W hW).mono ?_
    · rw [hDn n (by omega)]
      show bs _ ++ (bs _ ++ bs _) = _
      simp only [bs_append]
    · rintro e w' ⟨rfl, h⟩
      refine ⟨?_, h⟩
      rw [hAI k (by omega), ← bs_append]
      rfl
  · intro x W hW
    refine hb_known w E hZ x _ _ _ _ _ ?_ d5 hII W hW
    rw [hDn n (by omega)]
    show bs _ ++ (bs _ ++ bs _) = _
    simp only [bs_append]

theorem leased_vb (bits which who : Int) (n k : Nat) (w : World) (E : EnvT w) (hZ : 10 ≤ w.heap.size) (h0 : 27 ≤ n) (h1 : n ≤ 32) (hn30 : (n : Int) ≤ 30) (L : Le (n : Int)) (hown : OI who ≠ OI (k : Int))
    (hb : ∀ c, (c = bits ∨ c = which ∨ c = who) → -9223372036854775808 ≤ c ∧ c ≤ 9223372036854775807) (hp1 : pk bits 6 = (n : Int) - 27) (hp3 : pk which (fitL n : Int) = k) (hk : k < fitL n) :
    Calls Tryz.prog 6 #[.int .i64 bits, .int .i64 which, .int .i64 who] w fun e w' => e = .returned (.bool true) ∧ Below w.heap.size w w' := by
  have hfl := L.le
  have hfp := L.pos
  have hfst : fst1 n = 167772161 := by unfold fst1; rw [if_pos hn30]; rfl
  have hszp := sz_pos (n : Int)
  have hsz32 : sz (n : Int) ≤ 32 := by have h := sz_mono (m := 27) (n := (n : Int)) (by omega) (by omega); have e : sz 27 = 32 := (by decide); omega
  have hfit : sz (n : Int) - 2 = (fitL n : Int) := by
    unfold fitL
    rw [if_pos hn30]
    have h2 := sz_succ (n : Int) (by omega); have h3 := sz_two (n := (n : Int) + 1) (by omega); omega
  obtain ⟨T0, e0, hT0⟩ := l_pool
  obtain ⟨s0, e1, hs0⟩ := l_block L h0 h1 hT0
  have hIP : Inv (⟨fP 24, [], [], T0⟩ : Bk) := by have h := inv_all bk0_ok.1 (bs [80, 79, 79, 76, 32, 112, 32, 97, 110, 110, 32, 49, 48, 46, 48, 46, 48, 46, 48, 47, 50, 52]); rw [e0] at h; exact h
  have hI0 : Inv s0 := by have h := inv_all hIP (bs ([66, 76, 79, 67, 75, 32, 98, 32, 97, 110, 110, 32] ++ ([49, 48, 46, 48, 46, 48, 46, 48, 47] ++ dec n))); rw [e1] at h; exact h
  have hIf := leaseSt_inv (n := n) hI0 (fitL n)
  obtain ⟨d1, d2, dn, dy⟩ := l_rest L h0 h1 (leaseSt_at L h0 h1 hs0 _ (Nat.le_refl _)) hk (own3 (pk who 3).toNat) (own3_name _)
  have hok : own3 (pk who 3).toNat ≠ own3 k := by
    have e := OI_nat k
    intro q; apply hown; rw [e, ← q]; rfl
  have d3 := dn hok
  skip
  skip
  rw [hfst] at d2 d3
  have hDn : ∀ j : Nat, j ≤ 32 → (if 0 ≤ (j : Int) ∧ (j : Int) ≤ 32 then DI (j : Int) else ⟨#[]⟩) = bs (dec j) := fun j hj => by rw [if_pos ⟨by omega, by omega⟩]; rfl
  have hAI : ∀ j : Nat, j ≤ 32 → (if 0 ≤ (167772161 : Int) + (j : Int) ∧ (167772161 : Int) + (j : Int) < 4294967296 then AI (167772161 + (j : Int)) else ⟨#[]⟩) = bs (dot ((167772161 : Int) + (j : Int)).toNat) := fun j hj => by rw [if_pos ⟨by omega, by omega⟩]; rfl
  refine leased_b bits which who n (fitL n) k (sz (n : Int)) (fun j => if 0 ≤ j ∧ j ≤ 32 then DI j else ⟨#[]⟩) OI (fun a => if 0 ≤ a ∧ a < 4294967296 then AI a else ⟨#[]⟩) (leaseSt n s0) ⟨fP 24, [], [], T0⟩ (leaseSt n s0 (fitL n)) (leaseSt n s0 (fitL n)) (leaseSt n s0 (fitL n)) bk0 bk0 w ⟨h0, h1⟩ hn30 hfit hown hp1 hp3 hk (by omega) (by omega) ⟨by omega, by omega⟩ ?_ ?_ OI_size (opened_any w w (Below.refl _ _)) ?_ ?_ ?_ ?_ ?_ ?_ ?_ ?_ ?_ ?_ ?_
  · intro j
    split
    · exact DI_size j (by omega)
    · decide
  · intro a
    split
    · unfold AI; rw [bs_size]; exact (dot_lenB a.toNat (by omega)).2
    · decide
  · intro c q W hq hc
    refine (pick_any c q W (hb c (hc.imp id .inl)) (by omega) (by omega)).mono ?_
    rintro e w' ⟨rfl, rfl⟩
    exact ⟨rfl, Below.refl _ _⟩
  · intro j W hj0 hj1
    rw [if_pos ⟨hj0, hj1⟩]
    exact kdigits_any j W hj0 (by omega)
  · intro W
    refine (ksize_any (n : Int) W (by omega) (by omega)).mono ?_
    rintro e w' ⟨rfl, rfl⟩
    exact ⟨rfl, Below.refl _ _⟩
  · intro j W hj
    refine owner_any j W ?_
    rcases hj with rfl | hj
    · exact hb _ (.inr (.inr rfl))
    · omega
  · intro a W ha0 ha1
    rw [if_pos ⟨ha0, ha1⟩]
    exact kaddr_any a W ha0 ha1
  · intro x W hW
    exact hb_known w E hZ x bk0 _ _ _ _ rfl e0 bk0_ok.1 W hW
  · intro x W hW
    refine hb_known w E hZ x _ _ _ _ _ ?_ e1 hIP W hW
    rw [hDn n (by omega)]
    show bs _ ++ (bs _ ++ bs _) = _
    simp only [bs_append]
  · intro i hi x W hW
    refine (hb_known w E hZ x _ _ _ _ _ ?_ (leaseSt_one L h0 h1 hs0 hi) (leaseSt_inv hI0 i) W hW).mono ?_
    · rw [hDn n (by omega), hDn i (by omega), OI_nat]
      show bs _ ++ bs _ ++ bs _ ++ bs _ ++ bs _ ++ (bs _ ++ bs _) = _
      simp only [bs_append]
    · rintro e w' ⟨rfl, h⟩
      refine ⟨?_, h⟩
      rw [hAI i (by omega), hfst, ← bs_append]
      rfl
  · intro x W hW
    refine hb_known w E hZ x _ _ _ _ _ ?_ d1 hIf W hW
    rw [hDn n (by omega)]
    show bs _ ++ (bs _ ++ bs _) = _
    simp only [bs_append]
  · intro x W hW
    refine hb_known w E hZ x _ _ _ _ _ ?_ d2 hIf W hW
    rw [hAI k (by omega)]
    show bs _ ++ bs _ = _
    rw [bs_append]
  · intro x W hW
    refine hb_known w E hZ x _ _ _ _ _ ?_ d3 hIf W hW
    rw [hAI k (by omega)]
    show bs _ ++ bs (own3 (pk who 3).toNat) ++ bs _ ++ bs _ = _
    simp only [bs_append]

theorem leased_vc (bits which who : Int) (n k : Nat) (w : World) (E : EnvT w) (hZ : 10 ≤ w.heap.size) (h0 : 27 ≤ n) (h1 : n ≤ 32) (hn30 : ¬ (n : Int) ≤ 30) (L : Le (n : Int)) (hown : OI who = OI (k : Int))
    (hb : ∀ c, (c = bits ∨ c = which ∨ c = who) → -9223372036854775808 ≤ c ∧ c ≤ 9223372036854775807) (hp1 : pk bits 6 = (n : Int) - 27) (hp3 : pk which (fitL n : Int) = k) (hk : k < fitL n) :
    Calls Tryz.prog 6 #[.int .i64 bits, .int .i64 which, .int .i64 who] w fun e w' => e = .returned (.bool true) ∧ Below w.heap.size w w' := by
  have hfl := L.le
  have hfp := L.pos
  have hfst : fst1 n = 167772160 := by unfold fst1; rw [if_neg hn30]; rfl
  have hszp := sz_pos (n : Int)
  have hsz32 : sz (n : Int) ≤ 32 := by have h := sz_mono (m := 27) (n := (n : Int)) (by omega) (by omega); have e : sz 27 = 32 := (by decide); omega
  have hfit : sz (n : Int) = (fitL n : Int) := by
    unfold fitL
    rw [if_neg hn30]
    omega
  obtain ⟨T0, e0, hT0⟩ := l_pool
  obtain ⟨s0, e1, hs0⟩ := l_block L h0 h1 hT0
  have hIP : Inv (⟨fP 24, [], [], T0⟩ : Bk) := by have h := inv_all bk0_ok.1 (bs [80, 79, 79, 76, 32, 112, 32, 97, 110, 110, 32, 49, 48, 46, 48, 46, 48, 46, 48, 47, 50, 52]); rw [e0] at h; exact h
  have hI0 : Inv s0 := by have h := inv_all hIP (bs ([66, 76, 79, 67, 75, 32, 98, 32, 97, 110, 110, 32] ++ ([49, 48, 46, 48, 46, 48, 46, 48, 47] ++ dec n))); rw [e1] at h; exact h
  have hIf := leaseSt_inv (n := n) hI0 (fitL n)
  obtain ⟨d1, d2, dn, dy⟩ := l_rest L h0 h1 (leaseSt_at L h0 h1 hs0 _ (Nat.le_refl _)) hk (own3 (pk who 3).toNat) (own3_name _)
  have hok : own3 (pk who 3).toNat = own3 k := by
    have e := OI_nat k
    have h := hown; rw [e] at h; exact bs_inj h
  obtain ⟨sG, sI, d3, d4, d5⟩ := dy hok
  have hIG : Inv sG := by have h := inv_all hIf (bs ([71, 73, 86, 69, 32, 104, 32] ++ own3 (pk who 3).toNat ++ [32] ++ dot (fst1 n + (k : Int)).toNat)); rw [d3] at h; exact h
  have hII : Inv sI := by have h := inv_all hIG (bs ([76, 69, 65, 83, 69, 32, 105, 32, 98, 111, 98, 32] ++ ([49, 48, 46, 48, 46, 48, 46, 48, 47] ++ dec n))); rw [d4] at h; exact h
  rw [hfst] at d2 d3 d4
  have hDn : ∀ j : Nat, j ≤ 32 → (if 0 ≤ (j : Int) ∧ (j : Int) ≤ 32 then DI (j : Int) else ⟨#[]⟩) = bs (dec j) := fun j hj => by rw [if_pos ⟨by omega, by omega⟩]; rfl
  have hAI : ∀ j : Nat, j ≤ 32 → (if 0 ≤ (167772160 : Int) + (j : Int) ∧ (167772160 : Int) + (j : Int) < 4294967296 then AI (167772160 + (j : Int)) else ⟨#[]⟩) = bs (dot ((167772160 : Int) + (j : Int)).toNat) := fun j hj => by rw [if_pos ⟨by omega, by omega⟩]; rfl
  refine leased_c bits which who n (fitL n) k (sz (n : Int)) (fun j => if 0 ≤ j ∧ j ≤ 32 then DI j else ⟨#[]⟩) OI (fun a => if 0 ≤ a ∧ a < 4294967296 then AI a else ⟨#[]⟩) (leaseSt n s0) ⟨fP 24, [], [], T0⟩ (leaseSt n s0 (fitL n)) (leaseSt n s0 (fitL n)) sG sI sI w ⟨h0, h1⟩ hn30 hfit hown hp1 hp3 hk (by omega) (by omega) ⟨by omega, by omega⟩ ?_ ?_ OI_size (opened_any w w (Below.refl _ _)) ?_ ?_ ?_ ?_ ?_ ?_ ?_ ?_ ?_ ?_ ?_ ?_ ?_
  · intro j
    split
    · exact DI_size j (by omega)
    · decide
  · intro a
    split
    · unfold AI; rw [bs_size]; exact (dot_lenB a.toNat (by omega)).2
    · decide
  · intro c q W hq hc
    refine (pick_any c q W (hb c (hc.imp id .inl)) (by omega) (by omega)).mono ?_
    rintro e w' ⟨rfl, rfl⟩
    exact ⟨rfl, Below.refl _ _⟩
  · intro j W hj0 hj1
    rw [if_pos ⟨hj0, hj1⟩]
    exact kdigits_any j W hj0 (by omega)
  · intro W
    refine (ksize_any (n : Int) W (by omega) (by omega)).mono ?_
    rintro e w' ⟨rfl, rfl⟩
    exact ⟨rfl, Below.refl _ _⟩
  · intro j W hj
    refine owner_any j W ?_
    rcases hj with rfl | hj
    · exact hb _ (.inr (.inr rfl))
    · omega
  · intro a W ha0 ha1
    rw [if_pos ⟨ha0, ha1⟩]
    exact kaddr_any a W ha0 ha1
  · intro x W hW
    exact hb_known w E hZ x bk0 _ _ _ _ rfl e0 bk0_ok.1 W hW
  · intro x W hW
    refine hb_known w E hZ x _ _ _ _ _ ?_ e1 hIP W hW
    rw [hDn n (by omega)]
    show bs _ ++ (bs _ ++ bs _) = _
    simp only [bs_append]
  · intro i hi x W hW
    refine (hb_known w E hZ x _ _ _ _ _ ?_ (leaseSt_one L h0 h1 hs0 hi) (leaseSt_inv hI0 i) W hW).mono ?_
    · rw [hDn n (by omega), hDn i (by omega), OI_nat]
      show bs _ ++ bs _ ++ bs _ ++ bs _ ++ bs _ ++ (bs _ ++ bs _) = _
      simp only [bs_append]
    · rintro e w' ⟨rfl, h⟩
      refine ⟨?_, h⟩
      rw [hAI i (by omega), hfst, ← bs_append]
      rfl
  · intro x W hW
    refine hb_known w E hZ x _ _ _ _ _ ?_ d1 hIf W hW
    rw [hDn n (by omega)]
    show bs _ ++ (bs _ ++ bs _) = _
    simp only [bs_append]
  · intro x W hW
    refine hb_known w E hZ x _ _ _ _ _ ?_ d2 hIf W hW
    rw [hAI k (by omega)]
    show bs _ ++ bs _ = _
    rw [bs_append]
  · intro x W hW
    refine hb_known w E hZ x _ _ _ _ _ ?_ d3 hIf W hW
    rw [hAI k (by omega)]
    show bs _ ++ bs (own3 (pk who 3).toNat) ++ bs _ ++ bs _ = _
    simp only [bs_append]
  · intro x W hW
    refine (hb_known w E hZ x _ _ _ _ _ ?_ d4 hIG W hW).mono ?_
    · rw [hDn n (by omega)]
      show bs _ ++ (bs _ ++ bs _) = _
      simp only [bs_append]
    · rintro e w' ⟨rfl, h⟩
      refine ⟨?_, h⟩
      rw [hAI k (by omega), ← bs_append]
      rfl
  · intro x W hW
    refine hb_known w E hZ x _ _ _ _ _ ?_ d5 hII W hW
    rw [hDn n (by omega)]
    show bs _ ++ (bs _ ++ bs _) = _
    simp only [bs_append]

theorem leased_vd (bits which who : Int) (n k : Nat) (w : World) (E : EnvT w) (hZ : 10 ≤ w.heap.size) (h0 : 27 ≤ n) (h1 : n ≤ 32) (hn30 : ¬ (n : Int) ≤ 30) (L : Le (n : Int)) (hown : OI who ≠ OI (k : Int))
    (hb : ∀ c, (c = bits ∨ c = which ∨ c = who) → -9223372036854775808 ≤ c ∧ c ≤ 9223372036854775807) (hp1 : pk bits 6 = (n : Int) - 27) (hp3 : pk which (fitL n : Int) = k) (hk : k < fitL n) :
    Calls Tryz.prog 6 #[.int .i64 bits, .int .i64 which, .int .i64 who] w fun e w' => e = .returned (.bool true) ∧ Below w.heap.size w w' := by
  have hfl := L.le
  have hfp := L.pos
  have hfst : fst1 n = 167772160 := by unfold fst1; rw [if_neg hn30]; rfl
  have hszp := sz_pos (n : Int)
  have hsz32 : sz (n : Int) ≤ 32 := by have h := sz_mono (m := 27) (n := (n : Int)) (by omega) (by omega); have e : sz 27 = 32 := (by decide); omega
  have hfit : sz (n : Int) = (fitL n : Int) := by
    unfold fitL
    rw [if_neg hn30]
    omega
  obtain ⟨T0, e0, hT0⟩ := l_pool
  obtain ⟨s0, e1, hs0⟩ := l_block L h0 h1 hT0
  have hIP : Inv (⟨fP 24, [], [], T0⟩ : Bk) := by have h := inv_all bk0_ok.1 (bs [80, 79, 79, 76, 32, 112, 32, 97, 110, 110, 32, 49, 48, 46, 48, 46, 48, 46, 48, 47, 50, 52]); rw [e0] at h; exact h
  have hI0 : Inv s0 := by have h := inv_all hIP (bs ([66, 76, 79, 67, 75, 32, 98, 32, 97, 110, 110, 32] ++ ([49, 48, 46, 48, 46, 48, 46, 48, 47] ++ dec n))); rw [e1] at h; exact h
  have hIf := leaseSt_inv (n := n) hI0 (fitL n)
  obtain ⟨d1, d2, dn, dy⟩ := l_rest L h0 h1 (leaseSt_at L h0 h1 hs0 _ (Nat.le_refl _)) hk (own3 (pk who 3).toNat) (own3_name _)
  have hok : own3 (pk who 3).toNat ≠ own3 k := by
    have e := OI_nat k
    intro q; apply hown; rw [e, ← q]; rfl
  have d3 := dn hok
  skip
  skip
  rw [hfst] at d2 d3
  have hDn : ∀ j : Nat, j ≤ 32 → (if 0 ≤ (j : Int) ∧ (j : Int) ≤ 32 then DI (j : Int) else ⟨#[]⟩) = bs (dec j) := fun j hj => by rw [if_pos ⟨by omega, by omega⟩]; rfl
  have hAI : ∀ j : Nat, j ≤ 32 → (if 0 ≤ (167772160 : Int) + (j : Int) ∧ (167772160 : Int) + (j : Int) < 4294967296 then AI (167772160 + (j : Int)) else ⟨#[]⟩) = bs (dot ((167772160 : Int) + (j : Int)).toNat) := fun j hj => by rw [if_pos ⟨by omega, by omega⟩]; rfl
  refine leased_d bits which who n (fitL n) k (sz (n : Int)) (fun j => if 0 ≤ j ∧ j ≤ 32 then DI j else ⟨#[]⟩) OI (fun a => if 0 ≤ a ∧ a < 4294967296 then AI a else ⟨#[]⟩) (leaseSt n s0) ⟨fP 24, [], [], T0⟩ (leaseSt n s0 (fitL n)) (leaseSt n s0 (fitL n)) (leaseSt n s0 (fitL n)) bk0 bk0 w ⟨h0, h1⟩ hn30 hfit hown hp1 hp3 hk (by omega) (by omega) ⟨by omega, by omega⟩ ?_ ?_ OI_size (opened_any w w (Below.refl _ _)) ?_ ?_ ?_ ?_ ?_ ?_ ?_ ?_ ?_ ?_ ?_
  · intro j
    split
    · exact DI_size j (by omega)
    · decide
  · intro a
    split
    · unfold AI; rw [bs_size]; exact (dot_lenB a.toNat (by omega)).2
    · decide
  · intro c q W hq hc
    refine (pick_any c q W (hb c (hc.imp id .inl)) (by omega) (by omega)).mono ?_
    rintro e w' ⟨rfl, rfl⟩
    exact ⟨rfl, Below.refl _ _⟩
  · intro j W hj0 hj1
    rw [if_pos ⟨hj0, hj1⟩]
    exact kdigits_any j W hj0 (by omega)
  · intro W
    refine (ksize_any (n : Int) W (by omega) (by omega)).mono ?_
    rintro e w' ⟨rfl, rfl⟩
    exact ⟨rfl, Below.refl _ _⟩
  · intro j W hj
    refine owner_any j W ?_
    rcases hj with rfl | hj
    · exact hb _ (.inr (.inr rfl))
    · omega
  · intro a W ha0 ha1
    rw [if_pos ⟨ha0, ha1⟩]
    exact kaddr_any a W ha0 ha1
  · intro x W hW
    exact hb_known w E hZ x bk0 _ _ _ _ rfl e0 bk0_ok.1 W hW
  · intro x W hW
    refine hb_known w E hZ x _ _ _ _ _ ?_ e1 hIP W hW
    rw [hDn n (by omega)]
    show bs _ ++ (bs _ ++ bs _) = _
    simp only [bs_append]
  · intro i hi x W hW
    refine (hb_known w E hZ x _ _ _ _ _ ?_ (leaseSt_one L h0 h1 hs0 hi) (leaseSt_inv hI0 i) W hW).mono ?_
    · rw [hDn n (by omega), hDn i (by omega), OI_nat]
      show bs _ ++ bs _ ++ bs _ ++ bs _ ++ bs _ ++ (bs _ ++ bs _) = _
      simp only [bs_append]
    · rintro e w' ⟨rfl, h⟩
      refine ⟨?_, h⟩
      rw [hAI i (by omega), hfst, ← bs_append]
      rfl
  · intro x W hW
    refine hb_known w E hZ x _ _ _ _ _ ?_ d1 hIf W hW
    rw [hDn n (by omega)]
    show bs _ ++ (bs _ ++ bs _) = _
    simp only [bs_append]
  · intro x W hW
    refine hb_known w E hZ x _ _ _ _ _ ?_ d2 hIf W hW
    rw [hAI k (by omega)]
    show bs _ ++ bs _ = _
    rw [bs_append]
  · intro x W hW
    refine hb_known w E hZ x _ _ _ _ _ ?_ d3 hIf W hW
    rw [hAI k (by omega)]
    show bs _ ++ bs (own3 (pk who 3).toNat) ++ bs _ ++ bs _ = _
    simp only [bs_append]

theorem leased_walk (bits which who : Int) (w : World) (E : EnvT w) (hZ : 10 ≤ w.heap.size) (hb : ∀ c, (c = bits ∨ c = which ∨ c = who) → -9223372036854775808 ≤ c ∧ c ≤ 9223372036854775807) :
    Calls Tryz.prog 6 #[.int .i64 bits, .int .i64 which, .int .i64 who] w fun e w' => e = .returned (.bool true) ∧ Below w.heap.size w w' := by
  have p1 := pk_bd bits 6 (by omega)
  obtain ⟨n, hn⟩ : ∃ n : Nat, (n : Int) = pk bits 6 + 27 := ⟨(pk bits 6 + 27).toNat, by omega⟩
  have L := le_any n (by omega) (by omega)
  have hfp := L.pos
  have p3 := pk_bd which (fitL n : Int) (by omega)
  obtain ⟨k, hk⟩ : ∃ k : Nat, (k : Int) = pk which (fitL n : Int) := ⟨(pk which (fitL n : Int)).toNat, by omega⟩
  by_cases h30 : (n : Int) ≤ 30
  · by_cases ho : OI who = OI (k : Int)
    · exact leased_va bits which who n k w E hZ (by omega) (by omega) h30 L ho hb (by omega) hk.symm (by omega)
    · exact leased_vb bits which who n k w E hZ (by omega) (by omega) h30 L ho hb (by omega) hk.symm (by omega)
  · by_cases ho : OI who = OI (k : Int)
    · exact leased_vc bits which who n k w E hZ (by omega) (by omega) h30 L ho hb (by omega) hk.symm (by omega)
    · exact leased_vd bits which who n k w E hZ (by omega) (by omega) h30 L ho hb (by omega) hk.symm (by omega)
end Go.Proofs.YtlikdnmikdldfaaGreatDoor
