/-
  BkDo, BkCm, BkCn, BkCo, BkCd
-/
import Derived.Conc.SmallLaws
import Derived.Test.YtlikdnmikdldfaaGreatDoorOrderedPAY
import Derived.Test.YtlikdnmikdldfaaGreatDoorOrderedPBF
import Derived.Test.YtlikdnmikdldfaaGreatDoorOrderedPBK
import Derived.Test.YtlikdnmikdldfaaGreatDoorOrderedPBL
import Derived.Test.YtlikdnmikdldfaaGreatDoorOrderedPBC
import Derived.Test.YtlikdnmikdldfaaGreatDoorOrderedPBI
namespace Go.Proofs.YtlikdnmikdldfaaGreatDoor
open Go.Conc Go.ChangeShapes Go.WideShapes Go.ChangeAt Go.RowKit
set_option linter.unusedVariables false
set_option linter.unusedSimpArgs false
set_option maxRecDepth 100000 in
set_option maxHeartbeats 400000 in
theorem tnew_any (w : World) : Calls Tryz.prog 47 #[] w fun e w' => ∃ c, e = .returned (.agg #[.chan (some c)]) ∧ Ch w' c [] ∧ w.heap.size ≤ c ∧ Below w.heap.size w w' := by
  obtain ⟨i, hi, hib⟩ : ∃ i, Tryz.prog.info? 132 = some i ∧ i.bytes = 48 := by
    have h : (Tryz.prog.info? 132).map (·.bytes) = some 48 := by kernel_rfl
    rcases e : Tryz.prog.info? 132 with _ | i
    · rw [e] at h; cases h
    · rw [e] at h; exact ⟨i, rfl, by simpa using h⟩
  have hmk : ∀ w : World, (Instr.makeChan 88 (.int .i64 8)).run Tryz.prog w = .ok (.chan (some w.heap.size)) (w.alloc (.chan 8 #[] false 0 0 false)) := fun w => run_makeChan (P := Tryz.prog) (w := w) Tryz.underlying88 hi .i64 8 (by decide) (by rw [hib]; decide)
  clear hi hib
  go_enter Tryz.func47, Tryz.ntmps47
  go_wp2
  go_returns
  have hn := heap_alloc_new (w.alloc (.cells #[.chan (some (w.heap.size + 1))] 90)) (.chan 8 #[] false 0 0 false)
  rw [show (w.alloc (.cells #[.chan (some (w.heap.size + 1))] 90)).heap.size = w.heap.size + 1 by simp] at hn
  exact ⟨w.heap.size + 1, rfl, ⟨0, 0, hn⟩, by omega, (by repeat' (first | with_reducible assumption | with_reducible exact Below.refl _ _ | with_reducible apply Below.drew | with_reducible apply below_drewN | with_reducible apply Below.setCell | with_reducible apply Below.alloc | omega | (simp; done) | (simp; omega)))⟩
theorem isCmd_any (v : Int) (w : World) : Calls Tryz.prog 33 #[.int .i64 v] w fun e w' => e = .returned (.bool (decide (v ≤ 7))) ∧ Below w.heap.size w w' := by
  go_enter Tryz.func33, Tryz.ntmps33
  go_wp2
  go_ret
  exact ⟨rfl, Below.refl _ _⟩
/-- Refuse's answer is written -/
theorem reftext_any (k : Nat) (hk : k < 14) (w : World) (E : EnvT w) : Calls Tryz.prog 32 #[.agg #[.int .i64 k, .slice none 0 0]] w fun e w' => e = .returned (.string ⟨(anText (ref k)).toArray⟩) ∧ Below w.heap.size w w' :=
  atext_any (ref k) hk (by simp [ref]) (by simp [ref]) (.slice none 0 0) w E (rd_nil _ _ _ _)
set_option maxRecDepth 100000 in
set_option maxHeartbeats 400000 in
theorem again_any (x : Tk) (line r : ByteArray) (w : World) (E : Hid (EnvT w)) (HR : Hid (r = if x.l ≠ line then (⟨(anText (ref 3)).toArray⟩ : ByteArray) else x.r)) :
    Calls Tryz.prog 56 #[vT x, .string line] w fun e w' => e = .returned (.string r) ∧ Below w.heap.size w w' := by
  obtain ⟨xt, xl, xr⟩ := x
  unfold vT
  have HT : Hid (∀ W, Below w.heap.size w W → Calls Tryz.prog 32 #[.agg #[.int .i64 3, .slice none 0 0]] W fun e w' => e = .returned (.string ⟨(anText (ref 3)).toArray⟩) ∧ Below W.heap.size W w') := fun W hW => reftext_any 3 (by omega) W (E.out.mono hW)
  have HF : Hid (∀ W, Calls Tryz.prog 31 #[.int .i64 3] W fun e w' => e = .returned (.agg #[.int .i64 3, .slice none 0 0]) ∧ Below W.heap.size W w') := fun W => refuse_any 3 W
  generalize (⟨(anText (ref 3)).toArray⟩ : ByteArray) = t3 at HR HT
  by_cases h : xl = line
  · have hq := (Lib.bytes_beq_iff xl line).2 h
    have HR2 : Hid (r = xr) := by have := HR.out; rw [if_neg (by simp [h])] at this; exact this
    clear h HR
    go_enter Tryz.func56, Tryz.ntmps56
    go_wp2
    go_ret
    exact ⟨by rw [HR2.out]; rfl, (by repeat' (first | with_reducible assumption | with_reducible exact Below.refl _ _ | with_reducible apply Below.drew | with_reducible apply below_drewN | with_reducible apply Below.setCell | with_reducible apply Below.alloc | omega | (simp; done) | (simp; omega)))⟩
  · have hq := (Lib.bytes_beq_false_iff xl line).2 h
    have HR2 : Hid (r = t3) := by have := HR.out; rw [if_pos (by simp [h])] at this; exact this
    clear h HR
    go_enter Tryz.func56, Tryz.ntmps56
    go_wp2_with (first | (go_at_call 31; refine (HF.out _).mono ?_; rintro e w1 ⟨rfl, hq1⟩; have hb1 : Hid (Below w.heap.size w w1) := Below.trans (B := w.heap.size) (a := w) (by repeat' (first | with_reducible assumption | with_reducible exact Below.refl _ _ | with_reducible apply Below.drew | with_reducible apply below_drewN | with_reducible apply Below.setCell | with_reducible apply Below.alloc | omega | (simp; done) | (simp; omega))) (hq1.mono (by first | omega | (simp; done) | (simp; omega))); clear hq1) | (go_at_call 32; refine (HT.out _ hb1.out).mono ?_; rintro e w2 ⟨rfl, hq2⟩; have hb2 : Hid (Below w.heap.size w w2) := hb1.out.trans (hq2.mono hb1.out.size); clear hq2))
    go_ret
    exact ⟨by rw [HR2.out]; rfl, hb2.out⟩
set_option maxRecDepth 100000 in
set_option maxHeartbeats 400000 in
theorem open_any (d : Value) (w : World) : Calls Tryz.prog 26 #[d] w fun e w' => ∃ x S, e = .returned (.tuple #[.pointer (some ⟨x, 0, none⟩), .int .i64 0]) ∧ BkAt w' x S bk0 ∧ (∀ b, S b → w.heap.size ≤ b) ∧ Below w.heap.size w w' := by
  have HN : Hid (∀ W, Calls Tryz.prog 47 #[] W fun e w' => ∃ c, e = .returned (.agg #[.chan (some c)]) ∧ Ch w' c [] ∧ W.heap.size ≤ c ∧ Below W.heap.size W w') := fun W => tnew_any W
  go_enter Tryz.func26, Tryz.ntmps26
  go_wp2_with (go_at_call 47; refine (HN.out _).mono ?_; rintro e w1 ⟨c, rfl, hch, hc, hq1⟩)
  have hz1 := hq1.size
  have hcl := hch.lt
  have hB : Below w1.heap.size w1 (w1.alloc (.cells #[.slice none 0 0, .slice none 0 0, .slice none 0 0, .chan (some c)] 92)) := (by repeat' (first | with_reducible assumption | with_reducible exact Below.refl _ _ | with_reducible apply Below.drew | with_reducible apply below_drewN | with_reducible apply Below.setCell | with_reducible apply Below.alloc | omega | (simp; done) | (simp; omega)))
  have hfin : ∃ x S, Ending.returned (Value.tuple #[.pointer (some ⟨w1.heap.size, 0, none⟩), .int .i64 0]) = Ending.returned (.tuple #[.pointer (some ⟨x, 0, none⟩), .int .i64 0]) ∧ BkAt (w1.alloc (.cells #[.slice none 0 0, .slice none 0 0, .slice none 0 0, .chan (some c)] 92)) x S bk0 ∧ (∀ b, S b → w.heap.size ≤ b) ∧ Below w.heap.size w (w1.alloc (.cells #[.slice none 0 0, .slice none 0 0, .slice none 0 0, .chan (some c)] 92)) := by
    refine ⟨w1.heap.size, fun b => b = w1.heap.size ∨ b = c, rfl, ⟨.slice none 0 0, .slice none 0 0, .slice none 0 0, c, ?_⟩, ?_, (by repeat' (first | with_reducible assumption | with_reducible exact Below.refl _ _ | with_reducible apply Below.drew | with_reducible apply below_drewN | with_reducible apply Below.setCell | with_reducible apply Below.alloc | omega | (simp; done) | (simp; omega)))⟩
    · have hsz : ∀ b, (b = w1.heap.size ∨ b = c) → b < (w1.alloc (.cells #[.slice none 0 0, .slice none 0 0, .slice none 0 0, .chan (some c)] 92)).heap.size := fun b e => by
        have := hB.size
        rcases e with e | e
        · rw [e]; simp
        · rw [e]; omega
      exact { blk := Blk.new w1 _ _, ch := hch.same (hB.block c hcl), op := ⟨rfl, .inl ⟨rfl, rfl⟩⟩, on := ⟨rfl, .inl ⟨rfl, rfl⟩⟩, ol := ⟨rfl, .inl ⟨rfl, rfl⟩⟩, sx := .inl rfl, sc := .inr rfl, sp := fun b e => (by cases e), sn := fun b e => (by cases e), sl := fun b e => (by cases e), sz := hsz }
    · rintro b (rfl | rfl) <;> omega
  exact bodyPost_ret (v := .tuple #[.pointer (some ⟨w1.heap.size, 0, none⟩), .int .i64 0]) (by simp [results, Tryz.results26]) rfl hfin
end Go.Proofs.YtlikdnmikdldfaaGreatDoor
namespace Go.Proofs.YtlikdnmikdldfaaGreatDoor
open Go.Conc Go.ChangeShapes Go.WideShapes Go.ChangeAt Go.RowKit
set_option linter.unusedVariables false
set_option linter.unusedSimpArgs false

theorem new_at {w0 : World} {n : Nat} {cs : Array Value} {t : TypeId} (h : w0.heap.size = n) : Blk (w0.alloc (.cells cs t)) n cs t := by rw [← h]; exact Blk.new w0 cs t
/-- what of memory a command leans on: the book, and the line's own copy -/
def BkC (W : World) (x : Nat) (S : Nat → Prop) (c : Nat) (s : Bk) : Prop := ∃ vp vn vl, BA W x S vp vn vl c s
theorem BkC.bk {W : World} {x : Nat} {S : Nat → Prop} {c : Nat} {s : Bk} (h : BkC W x S c s) : BkAt W x S s := by obtain ⟨vp, vn, vl, B⟩ := h; exact ⟨vp, vn, vl, c, B⟩
theorem BkC.below {w w' : World} {x : Nat} {S : Nat → Prop} {c : Nat} {s : Bk} (h : BkC w x S c s) (hb : Below w.heap.size w w') : BkC w' x S c s := by obtain ⟨vp, vn, vl, B⟩ := h; exact ⟨vp, vn, vl, B.below hb⟩
def Adm (w : World) (x : Nat) (S : Nat → Prop) (c : Nat) (s : Bk) (l : Ln) (W : World) : Prop := BkC W x S c s ∧ Chg S w W ∧ Blk W w.heap.size (lnC l) 74
theorem BkAt.lt {w : World} {x : Nat} {S : Nat → Prop} {s : Bk} (h : BkAt w x S s) : ∀ b, S b → b < w.heap.size := by obtain ⟨_, _, _, _, B⟩ := h; exact B.sz
theorem Adm.below {w W W' : World} {x : Nat} {S : Nat → Prop} {c : Nat} {s : Bk} {l : Ln} (h : Adm w x S c s l W) (hb : Below W.heap.size W W') : Adm w x S c s l W' :=
  ⟨h.1.below hb, h.2.1.trans (Chg.below (S := S) hb) (fun b q => .inl q), h.2.2.below hb⟩
theorem Adm.alloc {w W : World} {x : Nat} {S : Nat → Prop} {c : Nat} {s : Bk} {l : Ln} {o : Obj} (h : Adm w x S c s l W) : Adm w x S c s l (W.alloc o) := h.below (Below.alloc (Below.refl _ _) (Nat.le_refl _) _)
theorem Adm.drew {w W : World} {x : Nat} {S : Nat → Prop} {c : Nat} {s : Bk} {l : Ln} (h : Adm w x S c s l W) : Adm w x S c s l W.drew := h.below (Below.drew (Below.refl _ _))
theorem Adm.set {w W : World} {x : Nat} {S : Nat → Prop} {c : Nat} {s : Bk} {l : Ln} (hS : ∀ b, S b → b < w.heap.size) {g i : Nat} {v : Value} (hg : w.heap.size < g) (h : Adm w x S c s l W) : Adm w x S c s l (W.setCell ⟨g, i, none⟩ v) := by
  have s1 := sets_other g [v] i W
  have hz : (W.setCell ⟨g, i, none⟩ v).heap.size = W.heap.size := s1.2.2.2.1
  have hb : ∀ k, k ≠ g → (W.setCell ⟨g, i, none⟩ v).heap[k]? = W.heap[k]? := s1.2.2.2.2
  refine ⟨?_, h.2.1.sets g i [v] (.inr (by omega)), (hb _ (by omega)).trans h.2.2⟩
  obtain ⟨vp, vn, vl, B⟩ := h.1
  exact ⟨vp, vn, vl, B.same (fun b q => hb b (by have := hS b q; omega)) (Nat.le_of_eq hz.symm)⟩
/-- the table was gone through, or has a command more -/
theorem BA.toks {w w' : World} {x : Nat} {S : Nat → Prop} {vp vn vl : Value} {c : Nat} {s : Bk} (h : BA w x S vp vn vl c s) (T : List Tk) (hch : Ch w' c T) (hg : w.grownBy w' (some c)) : BA w' x S vp vn vl c { s with toks := T } := by
  obtain ⟨a1, a2, a3⟩ := h.apart
  have hxc := h.xc
  have hx := h.blk.lt
  exact { blk := (hg.block x hx (by simp; omega)).trans h.blk, ch := hch, op := owns_same h.op (fun b e => hg.block b (h.sz b (h.sp b e)) (by have := (a1 b e).2.1; simp; omega)), on := owns_same h.on (fun b e => hg.block b (h.sz b (h.sn b e)) (by have := (a2 b e).2.1; simp; omega)), ol := owns_same h.ol (fun b e => hg.block b (h.sz b (h.sl b e)) (by have := (a3 b e).2.1; simp; omega)), sx := h.sx, sc := h.sc, sp := h.sp, sn := h.sn, sl := h.sl, sz := fun b q => Nat.lt_of_lt_of_le (h.sz b q) hg.size }
theorem three_set {w : World} {g : Nat} {t : TypeId} {u0 u1 u2 : Value} (h : Blk w g #[u0, u1, u2] t) (a0 a1 a2 : Value) : Blk (((w.setCell ⟨g, 0, none⟩ a0).setCell ⟨g, 1, none⟩ a1).setCell ⟨g, 2, none⟩ a2) g #[a0, a1, a2] t := by
  have h0 : Blk (w.setCell ⟨g, 0, none⟩ a0) g #[a0, u1, u2] t := (by simpa using h.set 0 a0)
  have h1 : Blk ((w.setCell ⟨g, 0, none⟩ a0).setCell ⟨g, 1, none⟩ a1) g #[a0, a1, u2] t := (by simpa using h0.set 1 a1)
  simpa using h1.set 2 a2
def DoR (w : World) (x : Nat) (S : Nat → Prop) (r : Bk × ByteArray) (e : Ending) (w' : World) : Prop := ∃ S', e = .returned (.string r.2) ∧ BkAt w' x S' r.1 ∧ (∀ b, S' b → S b ∨ w.heap.size ≤ b) ∧ Chg S w w'

set_option maxRecDepth 100000 in
set_option maxHeartbeats 1000000 in
theorem cmd_found (w : World) (x c : Nat) (S : Nat → Prop) (s : Bk) (l : Ln) (line : ByteArray) (tk : Tk) (r : ByteArray) (hx : x < w.heap.size) (hS : ∀ b, S b → b < w.heap.size) (H0 : Hid (BkC w x S c s)) (HX : Hid (∀ W, Adm w x S c s l W → W.cell? ⟨x, 3, none⟩ = some (.chan (some c))))
    (HF : Hid (∀ W, Adm w x S c s l W → Calls Tryz.prog 55 #[.agg #[.chan (some c)], .string l.t] W fun e w1 => e = .returned (.tuple #[.agg #[.string tk.t, .string tk.l, .string tk.r], .bool true]) ∧ Adm w x S c s l w1 ∧ ∀ g cs t, Blk W g cs t → w.heap.size ≤ g → Blk w1 g cs t))
    (HG : Hid (∀ W, Adm w x S c s l W → Calls Tryz.prog 56 #[.agg #[.string tk.t, .string tk.l, .string tk.r], .string line] W fun e w' => e = .returned (.string r) ∧ Below W.heap.size W w')) :
    Calls Tryz.prog 34 #[.pointer (some ⟨x, 0, none⟩), .agg (lnC l), .string line] w (DoR w x S (s, r)) := by
  have hA0 : Adm w x S c s l (w.alloc (.cells (lnC l) 74)) := ⟨H0.out.below (by repeat' (first | with_reducible assumption | with_reducible exact Below.refl _ _ | with_reducible apply Below.drew | with_reducible apply below_drewN | with_reducible apply Below.setCell | with_reducible apply Below.alloc | omega | (simp; done) | (simp; omega))), Chg.below (by repeat' (first | with_reducible assumption | with_reducible exact Below.refl _ _ | with_reducible apply Below.drew | with_reducible apply below_drewN | with_reducible apply Below.setCell | with_reducible apply Below.alloc | omega | (simp; done) | (simp; omega))), Blk.new w _ _⟩
  have HA0 : Hid (Adm w x S c s l (w.alloc (.cells #[.int .i64 l.v, .string l.t, .string l.o, .int .u32 l.a, .int .i64 l.n, .int .u32 l.d, .int .i64 l.g] 74))) := hA0
  have x3 : w.cell? ⟨x, 3, none⟩ = some (.chan (some c)) := by
    have h := HX.out _ hA0
    rwa [World.cell?_alloc_past _ _ _ hx] at h
  clear hA0
  have hxa : ¬ (x = w.heap.size + 1) := by omega
  have hxb : ¬ (w.heap.size + 1 = x) := by omega
  have hxc : ¬ (x = w.heap.size) := by omega
  have hxd : ¬ (w.heap.size = x) := by omega
  show Calls _ _ #[.pointer (some ⟨x, 0, none⟩), .agg #[.int .i64 l.v, .string l.t, .string l.o, .int .u32 l.a, .int .i64 l.n, .int .u32 l.d, .int .i64 l.g], .string line] _ _
  go_enter Tryz.func34, Tryz.ntmps34
  go_wp2
  rename_i K1 a1 K0 a0
  have HM : Hid (∀ (t1 t3 t5 t6 t9 t10 t11 t12 t13 t14 t15 t16 t17 t18 t19 t20 t21 t22 t23 t24 t25 t26 t27 t28 t29 t30 t31 t32 t33 t34 t35 t36 t37 t38 t39 t40 t41 t42 t43 t44 : Value) (D : Nat) (W : World), Adm w x S c s l W → Blk W D #[.string tk.t, .string tk.l, .string tk.r] 132 → K0 ⟨#[.pointer (some ⟨x, 0, none⟩), t1, .string line, t3, .pointer (some ⟨w.heap.size, 0, none⟩), t5, t6, .pointer (some ⟨D, 0, none⟩), .bool true, t9, t10, t11, t12, t13, t14, t15, t16, t17, t18, t19, t20, t21, t22, t23, t24, t25, t26, t27, t28, t29, t30, t31, t32, t33, t34, t35, t36, t37, t38, t39, t40, t41, t42, t43, t44], []⟩ W) := by
    intro t1 t3 t5 t6 t9 t10 t11 t12 t13 t14 t15 t16 t17 t18 t19 t20 t21 t22 t23 t24 t25 t26 t27 t28 t29 t30 t31 t32 t33 t34 t35 t36 t37 t38 t39 t40 t41 t42 t43 t44 D W hA hD
    have HA : Hid (Adm w x S c s l W) := hA
    have d0 := hD.cell 0
    have d1 := hD.cell 1
    have d2 := hD.cell 2
    clear hA hD HA0 HF HX x3
    refine a0 _ _ ?_
    go_wp2_with (go_at_call 56; refine (HG.out _ HA.out).mono ?_; rintro e w3 ⟨rfl, hq3⟩; replace hq3 : Hid (Below W.heap.size W w3) := hq3)
    go_ret
    have h3 := HA.out.below hq3.out
    exact ⟨S, rfl, h3.1.bk, fun b q => .inl q, h3.2.1⟩
  replace HM : Hid _ := HM
  clear a0 a1
  go_region_held3 (fun w' => w'.cell? ⟨x, 3, none⟩ = some (.chan (some c)) ∧ w'.cell? ⟨w.heap.size, 1, none⟩ = some (.string l.t)) (go_keep) (first | (go_at_call 55; refine (HF.out _ (by repeat' (first | exact HA0.out | apply Adm.alloc | apply Adm.drew))).mono ?_; rintro e w1 ⟨rfl, HA1, K1⟩; replace HA1 : Hid (Adm w x S c s l w1) := HA1; have e1 : w1.cell? ⟨x, 3, none⟩ = some (.chan (some c)) := HX.out w1 HA1.out; have e2 : w1.cell? ⟨w.heap.size, 1, none⟩ = some (.string l.t) := HA1.out.2.2.cell 1; have DB : Hid (Blk w1 (w.heap.size + 1) #[.string ⟨#[]⟩, .string ⟨#[]⟩, .string ⟨#[]⟩] 132) := K1 _ _ _ (new_at (by simp)) (by omega); clear K1; have d0 := DB.out.cell 0; have d1 := DB.out.cell 1; have d2 := DB.out.cell 2; have g0 := DB.out.frozen 0; have g1 := DB.out.frozen 1; have g2 := DB.out.frozen 2; have dz := DB.out.lt) | (go_at_call 55; refine (HF.out _ (by repeat' (first | exact HA0.out | apply Adm.alloc | apply Adm.drew))).mono ?_; rintro e w1 ⟨rfl, HA1, K1⟩; replace HA1 : Hid (Adm w x S c s l w1) := HA1; have e1 : w1.cell? ⟨x, 3, none⟩ = some (.chan (some c)) := HX.out w1 HA1.out; have e2 : w1.cell? ⟨w.heap.size, 1, none⟩ = some (.string l.t) := HA1.out.2.2.cell 1; clear K1))
  all_goals first
    | exact HM.out _ _ _ _ _ _ _ _ _ _ _ _ _ _ _ _ _ _ _ _ _ _ _ _ _ _ _ _ _ _ _ _ _ _ _ _ _ _ _ _ _ _ (by repeat' (first | with_reducible exact HA1.out | with_reducible apply Adm.alloc | with_reducible apply Adm.drew)) (Blk.new w1 _ _)
    | exact HM.out _ _ _ _ _ _ _ _ _ _ _ _ _ _ _ _ _ _ _ _ _ _ _ _ _ _ _ _ _ _ _ _ _ _ _ _ _ _ _ _ (w.heap.size + 1) _ (by repeat' (first | with_reducible exact HA1.out | with_reducible apply Adm.alloc | with_reducible apply Adm.drew | (with_reducible apply Adm.set hS (by omega)))) (three_set DB.out _ _ _)

/-- behind the doing: the book, the line's copy, what is told -/
def AdmX (w Wc : World) (x : Nat) (S : Nat → Prop) (l : Ln) (r : Bk × An) (v : Value) (W : World) : Prop := ∃ S', BkAt W x S' r.1 ∧ (∀ b, S' b → S b ∨ Wc.heap.size ≤ b) ∧ Chg S w W ∧ Blk W w.heap.size (lnC l) 74 ∧ Rd 1 encS ⟨#[]⟩ W v r.2.s
def Adm2 (w : World) (x : Nat) (S : Nat → Prop) (l : Ln) (r : Bk × An) (v : Value) (W : World) : Prop := ∃ S', BkAt W x S' r.1 ∧ (∀ b, S' b → S b ∨ w.heap.size < b) ∧ Chg S w W ∧ Blk W w.heap.size (lnC l) 74 ∧ Rd 1 encS ⟨#[]⟩ W v r.2.s
theorem AdmX.late {w Wc W W' : World} {x : Nat} {S : Nat → Prop} {l : Ln} {r : Bk × An} {v : Value} (h : AdmX w Wc x S l r v W) (hz : w.heap.size < Wc.heap.size) (hb : Below W.heap.size W W') : Adm2 w x S l r v W' := by
  obtain ⟨S', h1, h2, h3, h4, h5⟩ := h
  exact ⟨S', h1.below hb, fun b q => (h2 b q).imp id (fun k => by omega), h3.trans (Chg.below (S := S) hb) (fun b q => .inl q), h4.below hb, h5.below hb⟩
theorem AdmX.early {w Wc W : World} {x : Nat} {S : Nat → Prop} {l : Ln} {r : Bk × An} {v : Value} {A : Nat} {t : TypeId} (hS : ∀ b, S b → b < w.heap.size) (h : AdmX w Wc x S l r v W) (hz : w.heap.size < A) (hA : A < Wc.heap.size) (hB : Blk W A #[.int .i64 0, .slice none 0 0] t) (a b : Value) : Adm2 w x S l r v ((W.setCell ⟨A, 0, none⟩ a).setCell ⟨A, 1, none⟩ b) := by
  obtain ⟨S', h1, h2, h3, h4, h5⟩ := h
  have s1 := sets_other A [a, b] 0 W
  have hzz : ((W.setCell ⟨A, 0, none⟩ a).setCell ⟨A, 1, none⟩ b).heap.size = W.heap.size := s1.2.2.2.1
  have hbb : ∀ k, k ≠ A → ((W.setCell ⟨A, 0, none⟩ a).setCell ⟨A, 1, none⟩ b).heap[k]? = W.heap[k]? := s1.2.2.2.2
  have hn : ∀ k, S' k → k ≠ A := fun k q => by
    rcases h2 k q with e | e
    · have := hS k e; omega
    · omega
  refine ⟨S', ?_, fun k q => (h2 k q).imp id (fun e => by omega), h3.sets A 0 [a, b] (.inr (by omega)), (hbb _ (by omega)).trans h4, ?_⟩
  · obtain ⟨vp, vn, vl, c, B⟩ := h1
    exact ⟨vp, vn, vl, c, B.same (fun k q => hbb k (hn k q)) (Nat.le_of_eq hzz.symm)⟩
  · obtain ⟨bb, cap, rfl, k1, k2, k3⟩ := h5
    refine ⟨bb, cap, rfl, k1, k2, fun hne => ?_⟩
    obtain ⟨g, e2, hg, hcc⟩ := k3 hne
    have hgn : g ≠ A := fun q => by
      have c0 := hcc 0 (List.length_pos_iff.2 hne) 0 _ rfl
      rw [q] at c0
      have c1 := hB.cell 0
      rw [show (⟨A, 0 * 1 + 0, none⟩ : Addr) = ⟨A, 0, none⟩ from rfl, c1] at c0
      cases c0
    exact ⟨g, e2, by rw [hzz]; exact hg, fun j hj i u hu => (World.cell?_of_block (a := ⟨g, j * 1 + i, none⟩) (hbb g hgn)).trans (hcc j hj i u hu)⟩
theorem two_setB {w : World} {g : Nat} {t : TypeId} {u0 u1 : Value} (h : Blk w g #[u0, u1] t) (a0 a1 : Value) : Blk ((w.setCell ⟨g, 0, none⟩ a0).setCell ⟨g, 1, none⟩ a1) g #[a0, a1] t := by
  have h0 : Blk (w.setCell ⟨g, 0, none⟩ a0) g #[a0, u1] t := (by simpa using h.set 0 a0)
  simpa using h0.set 1 a1
end Go.Proofs.YtlikdnmikdldfaaGreatDoor
namespace Go.Proofs.YtlikdnmikdldfaaGreatDoor
open Go.Conc Go.ChangeShapes Go.WideShapes Go.ChangeAt Go.RowKit
set_option linter.unusedVariables false
set_option linter.unusedSimpArgs false
theorem AdmX.blk {w Wc : World} {x : Nat} {S : Nat → Prop} {l : Ln} {r : Bk × An} {v : Value} {W : World} (h : AdmX w Wc x S l r v W) : Blk W w.heap.size (lnC l) 74 := by obtain ⟨_, _, _, _, h, _⟩ := h; exact h

set_option maxRecDepth 100000 in
set_option maxHeartbeats 2000000 in
theorem cmd_refused (w : World) (x c : Nat) (S : Nat → Prop) (s : Bk) (l : Ln) (line : ByteArray) (tk : Tk) (r : Bk × An) (text : ByteArray) (he : ¬ r.2.e = 0) (hx : x < w.heap.size) (hS : ∀ b, S b → b < w.heap.size) (H0 : Hid (BkC w x S c s)) (HX : Hid (∀ W, Adm w x S c s l W → W.cell? ⟨x, 3, none⟩ = some (.chan (some c))))
    (HF : Hid (∀ W, Adm w x S c s l W → Calls Tryz.prog 55 #[.agg #[.chan (some c)], .string l.t] W fun e w1 => e = .returned (.tuple #[.agg #[.string tk.t, .string tk.l, .string tk.r], .bool false]) ∧ Adm w x S c s l w1 ∧ ∀ g cs t, Blk W g cs t → w.heap.size ≤ g → Blk w1 g cs t))
    (HD : Hid (∀ W, Adm w x S c s l W → Calls Tryz.prog 35 #[.pointer (some ⟨x, 0, none⟩), .agg #[.int .i64 l.v, .string l.t, .string l.o, .int .u32 l.a, .int .i64 l.n, .int .u32 l.d, .int .i64 l.g]] W fun e w2 => ∃ bt nt ct, e = .returned (.agg #[.int .i64 r.2.e, .slice bt nt ct]) ∧ AdmX w W x S l r (.slice bt nt ct) w2 ∧ ∀ g cs t, Blk W g cs t → w.heap.size ≤ g → Blk w2 g cs t))
    (HTT : Hid (∀ W bt nt ct, Chg S w W → Rd 1 encS ⟨#[]⟩ W (.slice bt nt ct) r.2.s → Calls Tryz.prog 32 #[.agg #[.int .i64 r.2.e, .slice bt nt ct]] W fun e w' => e = .returned (.string text) ∧ Below W.heap.size W w')) :
    Calls Tryz.prog 34 #[.pointer (some ⟨x, 0, none⟩), .agg (lnC l), .string line] w (DoR w x S (r.1, text)) := by
  have hA0 : Adm w x S c s l (w.alloc (.cells (lnC l) 74)) := ⟨H0.out.below (by repeat' (first | with_reducible assumption | with_reducible exact Below.refl _ _ | with_reducible apply Below.drew | with_reducible apply below_drewN | with_reducible apply Below.setCell | with_reducible apply Below.alloc | omega | (simp; done) | (simp; omega))), Chg.below (by repeat' (first | with_reducible assumption | with_reducible exact Below.refl _ _ | with_reducible apply Below.drew | with_reducible apply below_drewN | with_reducible apply Below.setCell | with_reducible apply Below.alloc | omega | (simp; done) | (simp; omega))), Blk.new w _ _⟩
  have HA0 : Hid (Adm w x S c s l (w.alloc (.cells #[.int .i64 l.v, .string l.t, .string l.o, .int .u32 l.a, .int .i64 l.n, .int .u32 l.d, .int .i64 l.g] 74))) := hA0
  have x3 : w.cell? ⟨x, 3, none⟩ = some (.chan (some c)) := by
    have h := HX.out _ hA0
    rwa [World.cell?_alloc_past _ _ _ hx] at h
  clear hA0
  have hxa : ¬ (x = w.heap.size + 1) := by omega
  have hxb : ¬ (w.heap.size + 1 = x) := by omega
  have hxc : ¬ (x = w.heap.size) := by omega
  have hxd : ¬ (w.heap.size = x) := by omega
  have HI : Hid (∀ bt nt ct W, Calls Tryz.prog 52 #[.agg #[.int .i64 r.2.e, .slice bt nt ct]] W fun e w' => e = .returned (.bool false) ∧ Below W.heap.size W w') := fun bt nt ct W => by
    have h := isOK_any r.2.e bt nt ct W
    rw [decide_eq_false he] at h
    exact h
  have HE : Hid (¬ r.2.e = 0) := he
  clear he
  show Calls _ _ #[.pointer (some ⟨x, 0, none⟩), .agg #[.int .i64 l.v, .string l.t, .string l.o, .int .u32 l.a, .int .i64 l.n, .int .u32 l.d, .int .i64 l.g], .string line] _ _
  go_enter Tryz.func34, Tryz.ntmps34
  go_wp2
  rename_i K1 a1 K0 a0
  have HM : Hid (∀ (t1 t3 t5 t6 t7 t9 t10 t11 t12 t13 t14 t15 t16 t17 t18 t19 t20 t21 t22 t23 t24 t25 t26 t27 t28 t29 t30 t31 t32 t33 t34 t35 t36 t37 t38 t39 t40 t41 t42 t43 t44 : Value) (W : World), Adm w x S c s l W → K0 ⟨#[.pointer (some ⟨x, 0, none⟩), t1, .string line, t3, .pointer (some ⟨w.heap.size, 0, none⟩), t5, t6, t7, .bool false, t9, t10, t11, t12, t13, t14, t15, t16, t17, t18, t19, t20, t21, t22, t23, t24, t25, t26, t27, t28, t29, t30, t31, t32, t33, t34, t35, t36, t37, t38, t39, t40, t41, t42, t43, t44], []⟩ W) := by
    intro t1 t3 t5 t6 t7 t9 t10 t11 t12 t13 t14 t15 t16 t17 t18 t19 t20 t21 t22 t23 t24 t25 t26 t27 t28 t29 t30 t31 t32 t33 t34 t35 t36 t37 t38 t39 t40 t41 t42 t43 t44 W hA
    have HA : Hid (Adm w x S c s l W) := hA
    have LW := hA.2.2
    have l0 : W.cell? ⟨w.heap.size, 0, none⟩ = some (.int .i64 l.v) := LW.cell 0
    have l1 : W.cell? ⟨w.heap.size, 1, none⟩ = some (.string l.t) := LW.cell 1
    have l2 : W.cell? ⟨w.heap.size, 2, none⟩ = some (.string l.o) := LW.cell 2
    have l3 : W.cell? ⟨w.heap.size, 3, none⟩ = some (.int .u32 l.a) := LW.cell 3
    have l4 : W.cell? ⟨w.heap.size, 4, none⟩ = some (.int .i64 l.n) := LW.cell 4
    have l5 : W.cell? ⟨w.heap.size, 5, none⟩ = some (.int .u32 l.d) := LW.cell 5
    have l6 : W.cell? ⟨w.heap.size, 6, none⟩ = some (.int .i64 l.g) := LW.cell 6
    have zW := LW.lt
    have zWx : x < W.heap.size := by omega
    have zW1 : ¬ (w.heap.size = W.heap.size) := by omega
    have zW2 : ¬ (W.heap.size = w.heap.size) := by omega
    clear hA LW HA0 HF HX x3
    refine a0 _ _ ?_
    go_wp2
    rename_i K3 a3
    have HM2 : Hid (∀ (u1 u3 u5 u6 u7 u8 u10 u11 u12 u13 u14 u15 u16 u17 u18 u19 u20 u21 u22 u23 u24 u25 u26 u27 u28 u29 u30 u31 u32 u33 u34 u35 u36 u37 u38 u39 u40 u41 u42 u43 u44 : Value) (A : Nat) (bt : Option Addr) (nt ct : Nat) (W2 : World), w.heap.size < A → Adm2 w x S l r (.slice bt nt ct) W2 → Blk W2 A #[.int .i64 r.2.e, .slice bt nt ct] 79 → K3 ⟨#[.pointer (some ⟨x, 0, none⟩), u1, .string line, u3, .pointer (some ⟨w.heap.size, 0, none⟩), u5, u6, u7, u8, .pointer (some ⟨A, 0, none⟩), u10, u11, u12, u13, u14, u15, u16, u17, u18, u19, u20, u21, u22, u23, u24, u25, u26, u27, u28, u29, u30, u31, u32, u33, u34, u35, u36, u37, u38, u39, u40, u41, u42, u43, u44], []⟩ W2) := by
      intro u1 u3 u5 u6 u7 u8 u10 u11 u12 u13 u14 u15 u16 u17 u18 u19 u20 u21 u22 u23 u24 u25 u26 u27 u28 u29 u30 u31 u32 u33 u34 u35 u36 u37 u38 u39 u40 u41 u42 u43 u44 A bt nt ct W2 hzA hA2 hB2
      obtain ⟨S', hbk, hS', hC2, hL2, hR2⟩ := hA2
      obtain ⟨vp, vn, vl, c2, BB⟩ := hbk
      have x32 : W2.cell? ⟨x, 3, none⟩ = some (.chan (some c2)) := BB.blk.cell 3
      have zx := BB.blk.lt
      have zl := hL2.lt
      have l1 : W2.cell? ⟨w.heap.size, 1, none⟩ = some (.string l.t) := hL2.cell 1
      have p0 := hB2.cell 0
      have p1 := hB2.cell 1
      have zA := hB2.lt
      have ncx : (some c2 : Option Nat) ≠ some x := fun e => BB.xc (by cases e; rfl)
      have ncl : (some c2 : Option Nat) ≠ some w.heap.size := fun e => by
        have h1 : c2 = w.heap.size := by cases e; rfl
        rcases hS' c2 BB.sc with q | q
        · have := hS c2 q; omega
        · omega
      have HC2 : Hid (Chg S w W2) := hC2
      have HRD : Hid (Rd 1 encS ⟨#[]⟩ W2 (.slice bt nt ct) r.2.s) := hR2
      have HR3 : Hid (BA W2 x S' vp vn vl c2 r.1 ∧ (∀ b, S' b → S b ∨ w.heap.size < b) ∧ Chg S w W2) := ⟨BB, hS', hC2⟩
      have HCH : Hid (∀ W, Below W2.heap.size W2 W → Ch W c2 r.1.toks) := fun W hW => BB.ch.same (hW.block c2 (BB.sz c2 BB.sc))
      replace ncx : (some x : Option Nat) ≠ some c2 := fun e => ncx e.symm
      replace ncl : (some w.heap.size : Option Nat) ≠ some c2 := fun e => ncl e.symm
      clear BB hS' hC2 hL2 hR2 hB2 HD HA l0 l2 l3 l4 l5 l6
      refine a3 _ _ ?_
      go_wp2_with (first | (go_at_call 32; refine (HTT.out W2 bt nt ct HC2.out HRD.out).mono ?_; rintro e w3 ⟨rfl, hq3⟩; replace hq3 : Hid (Below W2.heap.size W2 w3) := hq3; have b0 : w3.cell? ⟨A, 0, none⟩ = some (.int .i64 r.2.e) := (hq3.out.cell (p := ⟨A, 0, none⟩) zA).trans p0; have b1 : w3.cell? ⟨A, 1, none⟩ = some (.slice bt nt ct) := (hq3.out.cell (p := ⟨A, 1, none⟩) zA).trans p1) | (go_at_call 52; refine (HI.out bt nt ct _).mono ?_; rintro e w4 ⟨rfl, hq4⟩; have hb4 : Hid (Below W2.heap.size W2 w4) := hq3.out.trans (hq4.mono hq3.out.size); clear hq4))
      go_ret
      obtain ⟨hB, h2, h3⟩ := HR3.out
      exact ⟨S', rfl, ⟨_, _, _, _, hB.below hb4.out⟩, fun b q => (h2 b q).imp id (fun k => by omega), h3.trans (Chg.below (S := S) hb4.out) (fun b q => .inl q)⟩
    replace HM2 : Hid _ := HM2
    clear a3
    go_region_held3 (fun w' => w'.cell? ⟨w.heap.size, 0, none⟩ = some (.int .i64 l.v) ∧ w'.cell? ⟨w.heap.size, 1, none⟩ = some (.string l.t) ∧ w'.cell? ⟨w.heap.size, 2, none⟩ = some (.string l.o) ∧ w'.cell? ⟨w.heap.size, 3, none⟩ = some (.int .u32 l.a) ∧ w'.cell? ⟨w.heap.size, 4, none⟩ = some (.int .i64 l.n) ∧ w'.cell? ⟨w.heap.size, 5, none⟩ = some (.int .u32 l.d) ∧ w'.cell? ⟨w.heap.size, 6, none⟩ = some (.int .i64 l.g)) (go_keep) (first | (go_at_call 35; refine (HD.out _ (by repeat' (first | with_reducible exact HA.out | with_reducible apply Adm.alloc | with_reducible apply Adm.drew))).mono ?_; rintro e w2 ⟨bt, nt, ct, rfl, HX2, K2⟩; replace HX2 : Hid (AdmX w _ x S l r (.slice bt nt ct) w2) := HX2; have LB : Hid (Blk w2 w.heap.size #[.int .i64 l.v, .string l.t, .string l.o, .int .u32 l.a, .int .i64 l.n, .int .u32 l.d, .int .i64 l.g] 74) := HX2.out.blk; have m0 : w2.cell? ⟨w.heap.size, 0, none⟩ = some (.int .i64 l.v) := LB.out.cell 0; have m1 : w2.cell? ⟨w.heap.size, 1, none⟩ = some (.string l.t) := LB.out.cell 1; have m2 : w2.cell? ⟨w.heap.size, 2, none⟩ = some (.string l.o) := LB.out.cell 2; have m3 : w2.cell? ⟨w.heap.size, 3, none⟩ = some (.int .u32 l.a) := LB.out.cell 3; have m4 : w2.cell? ⟨w.heap.size, 4, none⟩ = some (.int .i64 l.n) := LB.out.cell 4; have m5 : w2.cell? ⟨w.heap.size, 5, none⟩ = some (.int .u32 l.d) := LB.out.cell 5; have m6 : w2.cell? ⟨w.heap.size, 6, none⟩ = some (.int .i64 l.g) := LB.out.cell 6; have mz := LB.out.lt; have AB : Hid (Blk w2 W.heap.size #[.int .i64 0, .slice none 0 0] 79) := K2 _ _ _ (new_at (by simp)) (by have := HA.out.2.2.lt; omega); clear K2; have d0 := AB.out.cell 0; have d1 := AB.out.cell 1; have g0 := AB.out.frozen 0; have g1 := AB.out.frozen 1; have dz := AB.out.lt) | (go_at_call 35; refine (HD.out _ (by repeat' (first | with_reducible exact HA.out | with_reducible apply Adm.alloc | with_reducible apply Adm.drew))).mono ?_; rintro e w2 ⟨bt, nt, ct, rfl, HX2, K2⟩; replace HX2 : Hid (AdmX w _ x S l r (.slice bt nt ct) w2) := HX2; have LB : Hid (Blk w2 w.heap.size #[.int .i64 l.v, .string l.t, .string l.o, .int .u32 l.a, .int .i64 l.n, .int .u32 l.d, .int .i64 l.g] 74) := HX2.out.blk; have m0 : w2.cell? ⟨w.heap.size, 0, none⟩ = some (.int .i64 l.v) := LB.out.cell 0; have m1 : w2.cell? ⟨w.heap.size, 1, none⟩ = some (.string l.t) := LB.out.cell 1; have m2 : w2.cell? ⟨w.heap.size, 2, none⟩ = some (.string l.o) := LB.out.cell 2; have m3 : w2.cell? ⟨w.heap.size, 3, none⟩ = some (.int .u32 l.a) := LB.out.cell 3; have m4 : w2.cell? ⟨w.heap.size, 4, none⟩ = some (.int .i64 l.n) := LB.out.cell 4; have m5 : w2.cell? ⟨w.heap.size, 5, none⟩ = some (.int .u32 l.d) := LB.out.cell 5; have m6 : w2.cell? ⟨w.heap.size, 6, none⟩ = some (.int .i64 l.g) := LB.out.cell 6; have mz := LB.out.lt; clear K2))
    all_goals first
      | exact HM2.out _ _ _ _ _ _ _ _ _ _ _ _ _ _ _ _ _ _ _ _ _ _ _ _ _ _ _ _ _ _ _ _ _ _ _ _ _ _ _ _ _ w2.heap.size _ _ _ _ (by omega) (HX2.out.late (by simp; omega) (by repeat' (first | with_reducible exact Below.refl _ _ | with_reducible apply Below.drew | with_reducible apply Below.alloc | omega | (simp; done)))) (Blk.new w2 _ _)
      | exact HM2.out _ _ _ _ _ _ _ _ _ _ _ _ _ _ _ _ _ _ _ _ _ _ _ _ _ _ _ _ _ _ _ _ _ _ _ _ _ _ _ _ _ W.heap.size _ _ _ _ (by omega) (AdmX.early hS HX2.out (by omega) (by simp) AB.out _ _) (two_setB AB.out _ _)
  replace HM : Hid _ := HM
  clear a0 a1
  go_region_held3 (fun w' => w'.cell? ⟨x, 3, none⟩ = some (.chan (some c)) ∧ w'.cell? ⟨w.heap.size, 1, none⟩ = some (.string l.t)) (go_keep) (first | (go_at_call 55; refine (HF.out _ (by repeat' (first | exact HA0.out | apply Adm.alloc | apply Adm.drew))).mono ?_; rintro e w1 ⟨rfl, HA1, K1⟩; replace HA1 : Hid (Adm w x S c s l w1) := HA1; have e1 : w1.cell? ⟨x, 3, none⟩ = some (.chan (some c)) := HX.out w1 HA1.out; have e2 : w1.cell? ⟨w.heap.size, 1, none⟩ = some (.string l.t) := HA1.out.2.2.cell 1; have DB : Hid (Blk w1 (w.heap.size + 1) #[.string ⟨#[]⟩, .string ⟨#[]⟩, .string ⟨#[]⟩] 132) := K1 _ _ _ (new_at (by simp)) (by omega); clear K1; have d0 := DB.out.cell 0; have d1 := DB.out.cell 1; have d2 := DB.out.cell 2; have g0 := DB.out.frozen 0; have g1 := DB.out.frozen 1; have g2 := DB.out.frozen 2; have dz := DB.out.lt) | (go_at_call 55; refine (HF.out _ (by repeat' (first | exact HA0.out | apply Adm.alloc | apply Adm.drew))).mono ?_; rintro e w1 ⟨rfl, HA1, K1⟩; replace HA1 : Hid (Adm w x S c s l w1) := HA1; have e1 : w1.cell? ⟨x, 3, none⟩ = some (.chan (some c)) := HX.out w1 HA1.out; have e2 : w1.cell? ⟨w.heap.size, 1, none⟩ = some (.string l.t) := HA1.out.2.2.cell 1; clear K1))
  all_goals first
    | exact HM.out _ _ _ _ _ _ _ _ _ _ _ _ _ _ _ _ _ _ _ _ _ _ _ _ _ _ _ _ _ _ _ _ _ _ _ _ _ _ _ _ _ _ (by repeat' (first | with_reducible exact HA1.out | with_reducible apply Adm.alloc | with_reducible apply Adm.drew | (with_reducible apply Adm.set hS (by omega))))
end Go.Proofs.YtlikdnmikdldfaaGreatDoor
namespace Go.Proofs.YtlikdnmikdldfaaGreatDoor
open Go.Conc Go.ChangeShapes Go.WideShapes Go.ChangeAt Go.RowKit
set_option linter.unusedVariables false
set_option linter.unusedSimpArgs false

set_option maxRecDepth 100000 in
set_option maxHeartbeats 2000000 in
theorem cmd_done (w : World) (x c : Nat) (S : Nat → Prop) (s : Bk) (l : Ln) (line : ByteArray) (tk : Tk) (r : Bk × An) (text : ByteArray) (he : r.2.e = 0) (hx : x < w.heap.size) (hS : ∀ b, S b → b < w.heap.size) (H0 : Hid (BkC w x S c s)) (HX : Hid (∀ W, Adm w x S c s l W → W.cell? ⟨x, 3, none⟩ = some (.chan (some c))))
    (HF : Hid (∀ W, Adm w x S c s l W → Calls Tryz.prog 55 #[.agg #[.chan (some c)], .string l.t] W fun e w1 => e = .returned (.tuple #[.agg #[.string tk.t, .string tk.l, .string tk.r], .bool false]) ∧ Adm w x S c s l w1 ∧ ∀ g cs t, Blk W g cs t → w.heap.size ≤ g → Blk w1 g cs t))
    (HD : Hid (∀ W, Adm w x S c s l W → Calls Tryz.prog 35 #[.pointer (some ⟨x, 0, none⟩), .agg #[.int .i64 l.v, .string l.t, .string l.o, .int .u32 l.a, .int .i64 l.n, .int .u32 l.d, .int .i64 l.g]] W fun e w2 => ∃ bt nt ct, e = .returned (.agg #[.int .i64 r.2.e, .slice bt nt ct]) ∧ AdmX w W x S l r (.slice bt nt ct) w2 ∧ ∀ g cs t, Blk W g cs t → w.heap.size ≤ g → Blk w2 g cs t))
    (HTT : Hid (∀ W bt nt ct, Chg S w W → Rd 1 encS ⟨#[]⟩ W (.slice bt nt ct) r.2.s → Calls Tryz.prog 32 #[.agg #[.int .i64 r.2.e, .slice bt nt ct]] W fun e w' => e = .returned (.string text) ∧ Below W.heap.size W w'))
    (HAD : Hid (∀ W c2, Ch W c2 r.1.toks → Calls Tryz.prog 57 #[.agg #[.chan (some c2)], .agg #[.string l.t, .string line, .string text]] W fun e w' => e = .returned (.tuple #[]) ∧ Ch w' c2 (addT r.1.toks ⟨l.t, line, text⟩) ∧ W.grownBy w' (some c2))) :
    Calls Tryz.prog 34 #[.pointer (some ⟨x, 0, none⟩), .agg (lnC l), .string line] w (DoR w x S ({ r.1 with toks := addT r.1.toks ⟨l.t, line, text⟩ }, text)) := by
  have hA0 : Adm w x S c s l (w.alloc (.cells (lnC l) 74)) := ⟨H0.out.below (by repeat' (first | with_reducible assumption | with_reducible exact Below.refl _ _ | with_reducible apply Below.drew | with_reducible apply below_drewN | with_reducible apply Below.setCell | with_reducible apply Below.alloc | omega | (simp; done) | (simp; omega))), Chg.below (by repeat' (first | with_reducible assumption | with_reducible exact Below.refl _ _ | with_reducible apply Below.drew | with_reducible apply below_drewN | with_reducible apply Below.setCell | with_reducible apply Below.alloc | omega | (simp; done) | (simp; omega))), Blk.new w _ _⟩
  have HA0 : Hid (Adm w x S c s l (w.alloc (.cells #[.int .i64 l.v, .string l.t, .string l.o, .int .u32 l.a, .int .i64 l.n, .int .u32 l.d, .int .i64 l.g] 74))) := hA0
  have x3 : w.cell? ⟨x, 3, none⟩ = some (.chan (some c)) := by
    have h := HX.out _ hA0
    rwa [World.cell?_alloc_past _ _ _ hx] at h
  clear hA0
  have hxa : ¬ (x = w.heap.size + 1) := by omega
  have hxb : ¬ (w.heap.size + 1 = x) := by omega
  have hxc : ¬ (x = w.heap.size) := by omega
  have hxd : ¬ (w.heap.size = x) := by omega
  have HI : Hid (∀ bt nt ct W, Calls Tryz.prog 52 #[.agg #[.int .i64 r.2.e, .slice bt nt ct]] W fun e w' => e = .returned (.bool true) ∧ Below W.heap.size W w') := fun bt nt ct W => by
    have h := isOK_any r.2.e bt nt ct W
    rw [decide_eq_true he] at h
    exact h
  have HE : Hid (r.2.e = 0) := he
  clear he
  show Calls _ _ #[.pointer (some ⟨x, 0, none⟩), .agg #[.int .i64 l.v, .string l.t, .string l.o, .int .u32 l.a, .int .i64 l.n, .int .u32 l.d, .int .i64 l.g], .string line] _ _
  go_enter Tryz.func34, Tryz.ntmps34
  go_wp2
  rename_i K1 a1 K0 a0
  have HM : Hid (∀ (t1 t3 t5 t6 t7 t9 t10 t11 t12 t13 t14 t15 t16 t17 t18 t19 t20 t21 t22 t23 t24 t25 t26 t27 t28 t29 t30 t31 t32 t33 t34 t35 t36 t37 t38 t39 t40 t41 t42 t43 t44 : Value) (W : World), Adm w x S c s l W → K0 ⟨#[.pointer (some ⟨x, 0, none⟩), t1, .string line, t3, .pointer (some ⟨w.heap.size, 0, none⟩), t5, t6, t7, .bool false, t9, t10, t11, t12, t13, t14, t15, t16, t17, t18, t19, t20, t21, t22, t23, t24, t25, t26, t27, t28, t29, t30, t31, t32, t33, t34, t35, t36, t37, t38, t39, t40, t41, t42, t43, t44], []⟩ W) := by
    intro t1 t3 t5 t6 t7 t9 t10 t11 t12 t13 t14 t15 t16 t17 t18 t19 t20 t21 t22 t23 t24 t25 t26 t27 t28 t29 t30 t31 t32 t33 t34 t35 t36 t37 t38 t39 t40 t41 t42 t43 t44 W hA
    have HA : Hid (Adm w x S c s l W) := hA
    have LW := hA.2.2
    have l0 : W.cell? ⟨w.heap.size, 0, none⟩ = some (.int .i64 l.v) := LW.cell 0
    have l1 : W.cell? ⟨w.heap.size, 1, none⟩ = some (.string l.t) := LW.cell 1
    have l2 : W.cell? ⟨w.heap.size, 2, none⟩ = some (.string l.o) := LW.cell 2
    have l3 : W.cell? ⟨w.heap.size, 3, none⟩ = some (.int .u32 l.a) := LW.cell 3
    have l4 : W.cell? ⟨w.heap.size, 4, none⟩ = some (.int .i64 l.n) := LW.cell 4
    have l5 : W.cell? ⟨w.heap.size, 5, none⟩ = some (.int .u32 l.d) := LW.cell 5
    have l6 : W.cell? ⟨w.heap.size, 6, none⟩ = some (.int .i64 l.g) := LW.cell 6
    have zW := LW.lt
    have zWx : x < W.heap.size := by omega
    have zW1 : ¬ (w.heap.size = W.heap.size) := by omega
    have zW2 : ¬ (W.heap.size = w.heap.size) := by omega
    clear hA LW HA0 HF HX x3
    refine a0 _ _ ?_
    go_wp2
    rename_i K3 a3
    have HM2 : Hid (∀ (u1 u3 u5 u6 u7 u8 u10 u11 u12 u13 u14 u15 u16 u17 u18 u19 u20 u21 u22 u23 u24 u25 u26 u27 u28 u29 u30 u31 u32 u33 u34 u35 u36 u37 u38 u39 u40 u41 u42 u43 u44 : Value) (A : Nat) (bt : Option Addr) (nt ct : Nat) (W2 : World), w.heap.size < A → Adm2 w x S l r (.slice bt nt ct) W2 → Blk W2 A #[.int .i64 r.2.e, .slice bt nt ct] 79 → K3 ⟨#[.pointer (some ⟨x, 0, none⟩), u1, .string line, u3, .pointer (some ⟨w.heap.size, 0, none⟩), u5, u6, u7, u8, .pointer (some ⟨A, 0, none⟩), u10, u11, u12, u13, u14, u15, u16, u17, u18, u19, u20, u21, u22, u23, u24, u25, u26, u27, u28, u29, u30, u31, u32, u33, u34, u35, u36, u37, u38, u39, u40, u41, u42, u43, u44], []⟩ W2) := by
      intro u1 u3 u5 u6 u7 u8 u10 u11 u12 u13 u14 u15 u16 u17 u18 u19 u20 u21 u22 u23 u24 u25 u26 u27 u28 u29 u30 u31 u32 u33 u34 u35 u36 u37 u38 u39 u40 u41 u42 u43 u44 A bt nt ct W2 hzA hA2 hB2
      obtain ⟨S', hbk, hS', hC2, hL2, hR2⟩ := hA2
      obtain ⟨vp, vn, vl, c2, BB⟩ := hbk
      have x32 : W2.cell? ⟨x, 3, none⟩ = some (.chan (some c2)) := BB.blk.cell 3
      have zx := BB.blk.lt
      have zl := hL2.lt
      have l1 : W2.cell? ⟨w.heap.size, 1, none⟩ = some (.string l.t) := hL2.cell 1
      have p0 := hB2.cell 0
      have p1 := hB2.cell 1
      have zA := hB2.lt
      have ncx : (some c2 : Option Nat) ≠ some x := fun e => BB.xc (by cases e; rfl)
      have ncl : (some c2 : Option Nat) ≠ some w.heap.size := fun e => by
        have h1 : c2 = w.heap.size := by cases e; rfl
        rcases hS' c2 BB.sc with q | q
        · have := hS c2 q; omega
        · omega
      have HC2 : Hid (Chg S w W2) := hC2
      have HRD : Hid (Rd 1 encS ⟨#[]⟩ W2 (.slice bt nt ct) r.2.s) := hR2
      have HR3 : Hid (BA W2 x S' vp vn vl c2 r.1 ∧ (∀ b, S' b → S b ∨ w.heap.size < b) ∧ Chg S w W2) := ⟨BB, hS', hC2⟩
      have HCH : Hid (∀ W, Below W2.heap.size W2 W → Ch W c2 r.1.toks) := fun W hW => BB.ch.same (hW.block c2 (BB.sz c2 BB.sc))
      replace ncx : (some x : Option Nat) ≠ some c2 := fun e => ncx e.symm
      replace ncl : (some w.heap.size : Option Nat) ≠ some c2 := fun e => ncl e.symm
      clear BB hS' hC2 hL2 hR2 hB2 HD HA l0 l2 l3 l4 l5 l6
      refine a3 _ _ ?_
      go_wp2_with (first | (go_at_call 32; refine (HTT.out W2 bt nt ct HC2.out HRD.out).mono ?_; rintro e w3 ⟨rfl, hq3⟩; replace hq3 : Hid (Below W2.heap.size W2 w3) := hq3; have b0 : w3.cell? ⟨A, 0, none⟩ = some (.int .i64 r.2.e) := (hq3.out.cell (p := ⟨A, 0, none⟩) zA).trans p0; have b1 : w3.cell? ⟨A, 1, none⟩ = some (.slice bt nt ct) := (hq3.out.cell (p := ⟨A, 1, none⟩) zA).trans p1) | (go_at_call 52; refine (HI.out bt nt ct _).mono ?_; rintro e w4 ⟨rfl, hq4⟩; have hb4 : Hid (Below W2.heap.size W2 w4) := hq3.out.trans (hq4.mono hq3.out.size); clear hq4; have y3 : w4.cell? ⟨x, 3, none⟩ = some (.chan (some c2)) := (hb4.out.cell (p := ⟨x, 3, none⟩) zx).trans x32; have y1 : w4.cell? ⟨w.heap.size, 1, none⟩ = some (.string l.t) := (hb4.out.cell (p := ⟨w.heap.size, 1, none⟩) zl).trans l1; have zx4 := Nat.lt_of_lt_of_le zx hb4.out.size; have zl4 := Nat.lt_of_lt_of_le zl hb4.out.size))
      go_region_held3 (fun w' => w'.cell? ⟨x, 3, none⟩ = some (.chan (some c2)) ∧ w'.cell? ⟨w.heap.size, 1, none⟩ = some (.string l.t)) (go_keep) (first | (go_at_call 57; refine (HAD.out _ c2 (HCH.out _ (by repeat' (first | with_reducible exact hb4.out | with_reducible apply Below.drew)))).mono ?_; rintro e w5 ⟨rfl, hch5, hg5⟩; replace hch5 : Hid (Ch w5 c2 (addT r.1.toks ⟨l.t, line, text⟩)) := hch5; replace hg5 : Hid (World.grownBy w4.drew w5 (some c2)) := hg5; have y35 : w5.cell? ⟨x, 3, none⟩ = some (.chan (some c2)) := (World.cell?_of_block (a := ⟨x, 3, none⟩) (hg5.out.block x zx4 ncx)).trans y3; have y15 : w5.cell? ⟨w.heap.size, 1, none⟩ = some (.string l.t) := (World.cell?_of_block (a := ⟨w.heap.size, 1, none⟩) (hg5.out.block w.heap.size zl4 ncl)).trans y1))
      all_goals (
        go_wp2
        go_ret
        obtain ⟨hB, h2, h3⟩ := HR3.out
        have hb5 : Below W2.heap.size W2 w4.drew := hb4.out.drew
        have hB5 := (hB.below hb5).toks _ hch5.out hg5.out
        exact ⟨S', rfl, ⟨_, _, _, _, hB5⟩, fun b q => (h2 b q).imp id (fun k => by omega), (h3.trans (Chg.below (S := S) hb5) (fun b q => .inl q)).trans (Chg.grown (S := S') hg5.out (fun b e => by cases e; exact hB.sc)) (fun b q => (h2 b q).imp id (fun k => by omega))⟩)
    replace HM2 : Hid _ := HM2
    clear a3
    go_region_held3 (fun w' => w'.cell? ⟨w.heap.size, 0, none⟩ = some (.int .i64 l.v) ∧ w'.cell? ⟨w.heap.size, 1, none⟩ = some (.string l.t) ∧ w'.cell? ⟨w.heap.size, 2, none⟩ = some (.string l.o) ∧ w'.cell? ⟨w.heap.size, 3, none⟩ = some (.int .u32 l.a) ∧ w'.cell? ⟨w.heap.size, 4, none⟩ = some (.int .i64 l.n) ∧ w'.cell? ⟨w.heap.size, 5, none⟩ = some (.int .u32 l.d) ∧ w'.cell? ⟨w.heap.size, 6, none⟩ = some (.int .i64 l.g)) (go_keep) (first | (go_at_call 35; refine (HD.out _ (by repeat' (first | with_reducible exact HA.out | with_reducible apply Adm.alloc | with_reducible apply Adm.drew))).mono ?_; rintro e w2 ⟨bt, nt, ct, rfl, HX2, K2⟩; replace HX2 : Hid (AdmX w _ x S l r (.slice bt nt ct) w2) := HX2; have LB : Hid (Blk w2 w.heap.size #[.int .i64 l.v, .string l.t, .string l.o, .int .u32 l.a, .int .i64 l.n, .int .u32 l.d, .int .i64 l.g] 74) := HX2.out.blk; have m0 : w2.cell? ⟨w.heap.size, 0, none⟩ = some (.int .i64 l.v) := LB.out.cell 0; have m1 : w2.cell? ⟨w.heap.size, 1, none⟩ = some (.string l.t) := LB.out.cell 1; have m2 : w2.cell? ⟨w.heap.size, 2, none⟩ = some (.string l.o) := LB.out.cell 2; have m3 : w2.cell? ⟨w.heap.size, 3, none⟩ = some (.int .u32 l.a) := LB.out.cell 3; have m4 : w2.cell? ⟨w.heap.size, 4, none⟩ = some (.int .i64 l.n) := LB.out.cell 4; have m5 : w2.cell? ⟨w.heap.size, 5, none⟩ = some (.int .u32 l.d) := LB.out.cell 5; have m6 : w2.cell? ⟨w.heap.size, 6, none⟩ = some (.int .i64 l.g) := LB.out.cell 6; have mz := LB.out.lt; have AB : Hid (Blk w2 W.heap.size #[.int .i64 0, .slice none 0 0] 79) := K2 _ _ _ (new_at (by simp)) (by have := HA.out.2.2.lt; omega); clear K2; have d0 := AB.out.cell 0; have d1 := AB.out.cell 1; have g0 := AB.out.frozen 0; have g1 := AB.out.frozen 1; have dz := AB.out.lt) | (go_at_call 35; refine (HD.out _ (by repeat' (first | with_reducible exact HA.out | with_reducible apply Adm.alloc | with_reducible apply Adm.drew))).mono ?_; rintro e w2 ⟨bt, nt, ct, rfl, HX2, K2⟩; replace HX2 : Hid (AdmX w _ x S l r (.slice bt nt ct) w2) := HX2; have LB : Hid (Blk w2 w.heap.size #[.int .i64 l.v, .string l.t, .string l.o, .int .u32 l.a, .int .i64 l.n, .int .u32 l.d, .int .i64 l.g] 74) := HX2.out.blk; have m0 : w2.cell? ⟨w.heap.size, 0, none⟩ = some (.int .i64 l.v) := LB.out.cell 0; have m1 : w2.cell? ⟨w.heap.size, 1, none⟩ = some (.string l.t) := LB.out.cell 1; have m2 : w2.cell? ⟨w.heap.size, 2, none⟩ = some (.string l.o) := LB.out.cell 2; have m3 : w2.cell? ⟨w.heap.size, 3, none⟩ = some (.int .u32 l.a) := LB.out.cell 3; have m4 : w2.cell? ⟨w.heap.size, 4, none⟩ = some (.int .i64 l.n) := LB.out.cell 4; have m5 : w2.cell? ⟨w.heap.size, 5, none⟩ = some (.int .u32 l.d) := LB.out.cell 5; have m6 : w2.cell? ⟨w.heap.size, 6, none⟩ = some (.int .i64 l.g) := LB.out.cell 6; have mz := LB.out.lt; clear K2))
    all_goals first
      | exact HM2.out _ _ _ _ _ _ _ _ _ _ _ _ _ _ _ _ _ _ _ _ _ _ _ _ _ _ _ _ _ _ _ _ _ _ _ _ _ _ _ _ _ w2.heap.size _ _ _ _ (by omega) (HX2.out.late (by simp; omega) (by repeat' (first | with_reducible exact Below.refl _ _ | with_reducible apply Below.drew | with_reducible apply Below.alloc | omega | (simp; done)))) (Blk.new w2 _ _)
      | exact HM2.out _ _ _ _ _ _ _ _ _ _ _ _ _ _ _ _ _ _ _ _ _ _ _ _ _ _ _ _ _ _ _ _ _ _ _ _ _ _ _ _ _ W.heap.size _ _ _ _ (by omega) (AdmX.early hS HX2.out (by omega) (by simp) AB.out _ _) (two_setB AB.out _ _)
  replace HM : Hid _ := HM
  clear a0 a1
  go_region_held3 (fun w' => w'.cell? ⟨x, 3, none⟩ = some (.chan (some c)) ∧ w'.cell? ⟨w.heap.size, 1, none⟩ = some (.string l.t)) (go_keep) (first | (go_at_call 55; refine (HF.out _ (by repeat' (first | exact HA0.out | apply Adm.alloc | apply Adm.drew))).mono ?_; rintro e w1 ⟨rfl, HA1, K1⟩; replace HA1 : Hid (Adm w x S c s l w1) := HA1; have e1 : w1.cell? ⟨x, 3, none⟩ = some (.chan (some c)) := HX.out w1 HA1.out; have e2 : w1.cell? ⟨w.heap.size, 1, none⟩ = some (.string l.t) := HA1.out.2.2.cell 1; have DB : Hid (Blk w1 (w.heap.size + 1) #[.string ⟨#[]⟩, .string ⟨#[]⟩, .string ⟨#[]⟩] 132) := K1 _ _ _ (new_at (by simp)) (by omega); clear K1; have d0 := DB.out.cell 0; have d1 := DB.out.cell 1; have d2 := DB.out.cell 2; have g0 := DB.out.frozen 0; have g1 := DB.out.frozen 1; have g2 := DB.out.frozen 2; have dz := DB.out.lt) | (go_at_call 55; refine (HF.out _ (by repeat' (first | exact HA0.out | apply Adm.alloc | apply Adm.drew))).mono ?_; rintro e w1 ⟨rfl, HA1, K1⟩; replace HA1 : Hid (Adm w x S c s l w1) := HA1; have e1 : w1.cell? ⟨x, 3, none⟩ = some (.chan (some c)) := HX.out w1 HA1.out; have e2 : w1.cell? ⟨w.heap.size, 1, none⟩ = some (.string l.t) := HA1.out.2.2.cell 1; clear K1))
  all_goals first
    | exact HM.out _ _ _ _ _ _ _ _ _ _ _ _ _ _ _ _ _ _ _ _ _ _ _ _ _ _ _ _ _ _ _ _ _ _ _ _ _ _ _ _ _ _ (by repeat' (first | with_reducible exact HA1.out | with_reducible apply Adm.alloc | with_reducible apply Adm.drew | (with_reducible apply Adm.set hS (by omega))))
end Go.Proofs.YtlikdnmikdldfaaGreatDoor
namespace Go.Proofs.YtlikdnmikdldfaaGreatDoor
open Go.Conc Go.ChangeShapes Go.WideShapes Go.ChangeAt Go.RowKit
set_option linter.unusedVariables false
set_option linter.unusedSimpArgs false

theorem EnvT.chg {w w' : World} {S : Nat → Prop} (h : EnvT w) (hc : Chg S w w') (hG : ∀ b, S b → 10 ≤ b) : EnvT w' where
  env := h.env.chg hc hG
  lw := Nat.lt_of_lt_of_le h.lw hc.size
  lf := Nat.lt_of_lt_of_le h.lf hc.size
  wd := fun i v e => (World.cell?_of_block (a := ⟨1, i, none⟩) (hc.block _ h.lw (fun q => absurd (hG _ q) (by show ¬ 10 ≤ (1 : Nat); decide)))).trans (h.wd i v e)
  fm := fun i v e => (World.cell?_of_block (a := ⟨0, i, none⟩) (hc.block _ h.lf (fun q => absurd (hG _ q) (by show ¬ 10 ≤ (0 : Nat); decide)))).trans (h.fm i v e)
theorem size_of (l : List UInt8) : (⟨l.toArray⟩ : ByteArray).size = l.length := by show l.toArray.size = _; simp
theorem bText_lenC {a n : Int} (ha : ad a) (hn : 0 ≤ n) (h1 : n ≤ 32) : (bText a n).length ≤ 18 := wr_len _ _ (by have := ha.1; have := ha.2; omega) (by omega)
theorem hText_len {h : Hd} (ha : ad h.a) (hr : rt h.a h.n = true) (ho : h.o.size ≤ 8) : (⟨(hText h).toArray⟩ : ByteArray).size ≤ 100 := by
  obtain ⟨n0, n1, _⟩ := rt_iff.1 hr
  have h1 := bText_lenC ha n0 n1
  have h2 := Lib.size_eq h.o
  rw [size_of]
  unfold hText
  simp only [List.length_append, List.length_cons]
  omega
theorem lText_len {h : Ls} (ha : ad h.a) (ho : h.o.size ≤ 8) : (⟨(lText h).toArray⟩ : ByteArray).size ≤ 100 := by
  have h1 := dot_lenB h.a.toNat (by have := ha.1; have := ha.2; omega)
  have h2 := Lib.size_eq h.o
  rw [size_of]
  unfold lText
  simp only [List.length_append, List.length_cons]
  omega
def AnOk (a : An) : Prop := a.e < 14 ∧ a.s.length ≤ 1000 ∧ ∀ t, t ∈ a.s → t.size ≤ 100
theorem ref_ok (k : Nat) (h : k < 14) : AnOk (ref k) := ⟨h, by simp [ref], by simp [ref]⟩
theorem okA_ok : AnOk okA := ⟨by decide, by simp [okA], by simp [okA]⟩
theorem tell1_ok (t : ByteArray) (h : t.size ≤ 100) : AnOk (tell1 t) := ⟨by simp [tell1], by simp [tell1], by simpa [tell1] using h⟩
theorem ans_ok {s : Bk} {l : Ln} (hI : Inv s) (hL : LnOk l) : AnOk (doLn s l).2 := by
  unfold doLn
  split
  · unfold doPool
    split; · exact ref_ok 4 (by omega)
    split; · exact ref_ok 5 (by omega)
    split; · exact ref_ok 6 (by omega)
    exact okA_ok
  · unfold doDrop
    split; · exact ref_ok 7 (by omega)
    split; · exact ref_ok 8 (by omega)
    split; · exact ref_ok 9 (by omega)
    exact okA_ok
  · unfold doNet
    split; · exact ref_ok 7 (by omega)
    split; · exact ref_ok 4 (by omega)
    rcases hb : best (frees 33 (netsOf s.nets l.a l.n) l.a l.n) l.g with _ | b
    · exact ref_ok 10 (by omega)
    · dsimp only
      split
      · exact ref_ok 6 (by omega)
      · refine tell1_ok _ ?_
        rw [size_of]
        rcases best_mem _ _ _ hb with ⟨q1, q2⟩ | q
        · have h1 := frees_rt (netsOf s.nets l.a l.n) (fun h hh => (rt_iff.1 (hI.na h (List.mem_filter.1 hh).1).2.1).2.1) 33 l.a l.n hL.a hL.r b q1
          have := bText_lenC (n := l.g) h1.1 hL.g0 hL.g1
          omega
        · cases q
  · unfold doBlock
    split; · exact ref_ok 4 (by omega)
    split; · exact ref_ok 7 (by omega)
    split; · exact ref_ok 5 (by omega)
    split; · exact ref_ok 6 (by omega)
    exact okA_ok
  · unfold doFree
    split; · exact ref_ok 11 (by omega)
    split; · exact ref_ok 8 (by omega)
    split; · exact ref_ok 9 (by omega)
    exact okA_ok
  · unfold doLease
    split; · exact ref_ok 11 (by omega)
    rcases hb : least s.leases l.a l.n with _ | d
    · exact ref_ok 10 (by omega)
    · dsimp only
      split
      · exact ref_ok 6 (by omega)
      · refine tell1_ok _ ?_
        have := least_ad hL.a hL.r hb
        have h2 := dot_lenB d.toNat (by have h3 := this.1; have h4 := this.2; omega)
        rw [size_of]; omega
  · unfold doTake
    split; · exact ref_ok 11 (by omega)
    split; · exact ref_ok 12 (by omega)
    split; · exact ref_ok 13 (by omega)
    split; · exact ref_ok 6 (by omega)
    exact okA_ok
  · unfold doGive
    split
    · split; · exact ref_ok 8 (by omega)
      exact okA_ok
    · exact ref_ok 12 (by omega)
  · refine ⟨by show 0 < 14; omega, by show (s.pools.map _).length ≤ 1000; rw [List.length_map]; have := hI.p; omega, fun t ht => ?_⟩
    obtain ⟨h, hh, rfl⟩ := List.mem_map.1 ht
    have := hI.pa h hh
    exact hText_len this.1 this.2.1 this.2.2.2.2
  · unfold doNets
    split
    · exact ref_ok 7 (by omega)
    · refine ⟨by show 0 < 14; omega, by show ((netsOf s.nets l.a l.n).map _).length ≤ 1000; rw [List.length_map]; have := hI.n; have := List.length_filter_le (fun h : Hd => inn h.a h.n l.a l.n) s.nets; unfold netsOf; omega, fun t ht => ?_⟩
      obtain ⟨h, hh, rfl⟩ := List.mem_map.1 ht
      have := hI.na h (List.mem_filter.1 hh).1
      exact hText_len this.1 this.2.1 this.2.2.2
  · unfold doUsed
    split
    · exact ref_ok 11 (by omega)
    · refine ⟨by show 0 < 14; omega, by show ((leasesOf s.leases l.a l.n).map _).length ≤ 1000; rw [List.length_map]; have := hI.l; have := List.length_filter_le (fun h : Ls => inn h.a 32 l.a l.n) s.leases; unfold leasesOf; omega, fun t ht => ?_⟩
      obtain ⟨h, hh, rfl⟩ := List.mem_map.1 ht
      have := hI.la h (List.mem_filter.1 hh).1
      exact lText_len this.1 this.2
  · exact ref_ok 2 (by omega)
theorem doLn_toks (s : Bk) (l : Ln) : (doLn s l).1.toks = s.toks := by
  unfold doLn doPool doDrop doNet doBlock doFree doLease doTake doGive
  repeat' (first | rfl | split)
/-- what a command does, as doAll says it -/
def doCmd (s : Bk) (l : Ln) (line : ByteArray) : Bk × ByteArray :=
  match findT s.toks l.t with
  | some x => if x.l ≠ line then (s, ⟨(anText (ref 3)).toArray⟩) else (s, x.r)
  | none => if (doLn s l).2.e = 0 then ({ (doLn s l).1 with toks := addT (doLn s l).1.toks ⟨l.t, line, ⟨(anText (doLn s l).2).toArray⟩⟩ }, ⟨(anText (doLn s l).2).toArray⟩) else ((doLn s l).1, ⟨(anText (doLn s l).2).toArray⟩)
theorem command_any (w : World) (x : Nat) (S : Nat → Prop) (s : Bk) (l : Ln) (line : ByteArray) (E : EnvT w) (hI : Inv s) (hL : LnOk l) (hv : l.v < 11) (h : BkAt w x S s) (hG : ∀ b, S b → 10 ≤ b) (hZ : 10 ≤ w.heap.size) (hs : line.size ≤ 281474976710656) :
    Calls Tryz.prog 34 #[.pointer (some ⟨x, 0, none⟩), .agg (lnC l), .string line] w (DoR w x S (doCmd s l line)) := by
  obtain ⟨vp, vn, vl, c, B⟩ := h
  have hx := B.blk.lt
  have hS := B.sz
  have hC : BkC w x S c s := ⟨vp, vn, vl, B⟩
  have HX : ∀ W, Adm w x S c s l W → W.cell? ⟨x, 3, none⟩ = some (.chan (some c)) := fun W hA => by
    obtain ⟨_, _, _, BW⟩ := hA.1
    exact BW.blk.cell 3
  have HF : ∀ W, Adm w x S c s l W → Calls Tryz.prog 55 #[.agg #[.chan (some c)], .string l.t] W fun e w1 => e = .returned (.tuple #[vT ((findT s.toks l.t).getD tk0), .bool (findT s.toks l.t).isSome]) ∧ Adm w x S c s l w1 ∧ ∀ g cs t, Blk W g cs t → w.heap.size ≤ g → Blk w1 g cs t := fun W hA => by
    obtain ⟨wp, wn, wl, BW⟩ := hA.1
    refine (tfind_any W c s.toks l.t BW.ch hI.t).mono ?_
    rintro e w1 ⟨rfl, hch, hg⟩
    have hc : c < w.heap.size := hS c B.sc
    refine ⟨rfl, ⟨⟨wp, wn, wl, ?_⟩, hA.2.1.trans (Chg.grown (S := S) hg (fun b e => by cases e; exact B.sc)) (fun b q => .inl q), (hg.block _ hA.2.2.lt (by simp; omega)).trans hA.2.2⟩, fun g cs t hB hgw => (hg.block g hB.lt (by simp; omega)).trans hB⟩
    exact BW.toks s.toks hch hg
  have HD : ∀ W, Adm w x S c s l W → Calls Tryz.prog 35 #[.pointer (some ⟨x, 0, none⟩), .agg (lnC l)] W fun e w2 => ∃ bt nt ct, e = .returned (.agg #[.int .i64 (doLn s l).2.e, .slice bt nt ct]) ∧ AdmX w W x S l (doLn s l) (.slice bt nt ct) w2 ∧ ∀ g cs t, Blk W g cs t → w.heap.size ≤ g → Blk w2 g cs t := fun W hA => by
    refine (bookDo_any W x S s l (E.env.chg hA.2.1 hG) hI hL hA.1.bk hG (Nat.le_trans hZ hA.2.1.size) hv).mono ?_
    rintro e w2 ⟨v, S', rfl, hrd, hb, hs', hc2⟩
    obtain ⟨bt, ct, rfl, k1, k2, k3⟩ := hrd
    have hk : ∀ g cs t, Blk W g cs t → w.heap.size ≤ g → Blk w2 g cs t := fun g cs t hB hgw => (hc2.block g hB.lt (fun q => by have := hS g q; omega)).trans hB
    exact ⟨bt, _, ct, rfl, ⟨S', hb, hs', hA.2.1.trans hc2 (fun b q => .inl q), hk _ _ _ hA.2.2 (Nat.le_refl _), ⟨bt, ct, rfl, k1, k2, k3⟩⟩, hk⟩
  obtain ⟨o1, o2, o3⟩ := ans_ok hI hL
  have HTT : ∀ W bt nt ct, Chg S w W → Rd 1 encS ⟨#[]⟩ W (.slice bt nt ct) (doLn s l).2.s → Calls Tryz.prog 32 #[.agg #[.int .i64 (doLn s l).2.e, .slice bt nt ct]] W fun e w' => e = .returned (.string ⟨(anText (doLn s l).2).toArray⟩) ∧ Below W.heap.size W w' := fun W bt nt ct hc hr =>
    atext_any (doLn s l).2 o1 o2 o3 _ W (E.chg hc hG) hr
  unfold doCmd
  rcases hf : findT s.toks l.t with _ | tk
  · rw [hf] at HF
    by_cases he : (doLn s l).2.e = 0
    · dsimp only
      rw [if_pos he]
      refine cmd_done w x c S s l line tk0 (doLn s l) _ he hx hS hC HX HF HD HTT fun W c2 hch => ?_
      refine tadd_any W c2 (doLn s l).1.toks ⟨l.t, line, ⟨(anText (doLn s l).2).toArray⟩⟩ hch ?_ hs
      rw [doLn_toks]; exact hI.t
    · dsimp only
      rw [if_neg he]
      exact cmd_refused w x c S s l line tk0 (doLn s l) _ he hx hS hC HX HF HD HTT
  · rw [hf] at HF
    have hgo := cmd_found w x c S s l line tk (if tk.l ≠ line then (⟨(anText (ref 3)).toArray⟩ : ByteArray) else tk.r) hx hS hC HX HF fun W hA => again_any tk line _ W (E.chg hA.2.1 hG) rfl
    dsimp only
    split
    · rename_i q; rw [if_pos q] at hgo; exact hgo
    · rename_i q; rw [if_neg q] at hgo; exact hgo
end Go.Proofs.YtlikdnmikdldfaaGreatDoor
