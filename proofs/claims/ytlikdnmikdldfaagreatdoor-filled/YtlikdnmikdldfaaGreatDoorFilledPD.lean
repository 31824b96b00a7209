/-
  BkT, BkJ, BkU, BkV, BkW, BkX, BkAns, BkTx, BkVb, BkRn, BkPt
-/
import Derived.Lib.SlicesS
import Derived.Shelf.Spec.SlicesInsertGrow
import Derived.Shelf.Strings.Builder1
import Derived.Deep.MidRow
import Derived.Laws.IdiomStrings
import Derived.Test.YtlikdnmikdldfaaGreatDoorFilledPC
namespace Go.Proofs.YtlikdnmikdldfaaGreatDoor
open Go.Conc Go.ChangeShapes Go.WideShapes Go.ChangeAt Go.RowKit
set_option linter.unusedVariables false
set_option linter.unusedSimpArgs false

def vT (x : Tk) : Value := .agg #[.string x.t, .string x.l, .string x.r]
/-- a channel with what is in it -/
def Ch (w : World) (c : Nat) (l : List Tk) : Prop := ∃ s r, w.heap[c]? = some (.chan 8 (l.map vT).toArray false s r false)
theorem Ch.lt {w : World} {c : Nat} {l : List Tk} (h : Ch w c l) : c < w.heap.size := by obtain ⟨s, r, h⟩ := h; exact (Array.getElem?_eq_some_iff.1 h).1
def tkC (x : Tk) : Array Value := #[.string x.t, .string x.l, .string x.r]

theorem Blk.chan {w : World} {g : Nat} {cs : Array Value} {t : TypeId} (h : Blk w g cs t) {c : Nat} (hg : g ≠ c) (cap : Nat) (buf : Array Value) (cl : Bool) (s r : Nat) (tm : Bool) : Blk (w.setChan c cap buf cl s r tm) g cs t := by
  unfold Blk at h ⊢
  simp only [World.setChan]
  rw [Array.getElem?_setIfInBounds_ne (fun e => hg e.symm)]; exact h
theorem grown_chan {w w' : World} {c : Nat} (h : w.grownBy w' (some c)) (cap : Nat) (buf : Array Value) (cl : Bool) (s r : Nat) (tm : Bool) : w.grownBy (w'.setChan c cap buf cl s r tm) (some c) :=
  ⟨h.os, h.tape, h.output, by rw [size_setChan]; exact h.size, fun k hk hr => by
    simp only [World.setChan]
    rw [Array.getElem?_setIfInBounds_ne (fun e => hr (by rw [e]))]; exact h.block k hk hr⟩
theorem beqB (x y : ByteArray) : (x.toList == y.toList) = decide (x = y) := by
  by_cases h : x = y
  · rw [(Lib.bytes_beq_iff x y).2 h, decide_eq_true h]
  · rw [(Lib.bytes_beq_false_iff x y).2 h, decide_eq_false h]
theorem ext_one (v : Value) (r : List Value) : (v :: r).toArray.extract 1 (v :: r).toArray.size = r.toArray := by
  apply Array.ext'
  simp
theorem push_one (v : Value) (r : List Value) : r.toArray.push v = (r ++ [v]).toArray := by simp
theorem rot_at (l : List Tk) (k : Nat) (hk : k < l.length) : l.drop k ++ l.take k = l.getD k tk0 :: (l.drop (k + 1) ++ l.take k) := by
  rw [List.drop_eq_getElem_cons hk, List.getD_eq_getElem?_getD, List.getElem?_eq_getElem hk]; rfl
theorem rot_next (l : List Tk) (k : Nat) (hk : k < l.length) : l.drop (k + 1) ++ l.take k ++ [l.getD k tk0] = l.drop (k + 1) ++ l.take (k + 1) := by
  rw [List.append_assoc, List.take_succ_eq_append_getElem hk, List.getD_eq_getElem?_getD, List.getElem?_eq_getElem hk]; rfl
theorem findT_next (l : List Tk) (k : Nat) (t : ByteArray) (hk : k < l.length) : findT (l.take (k + 1)) t = if decide ((l.getD k tk0).t = t) then some (l.getD k tk0) else findT (l.take k) t := by
  unfold findT
  rw [List.take_succ_eq_append_getElem hk, List.filter_append, List.getD_eq_getElem?_getD, List.getElem?_eq_getElem hk]
  simp only [Option.getD_some, List.filter_cons, List.filter_nil]
  split <;> simp

/-- how far the look through the table has come -/
structure TF (w wr : World) (c : Nat) (l : List Tk) (t : ByteArray) (k : Nat) (o : Tk) (f : Bool) : Prop where
  ch : Ch wr c (l.drop k ++ l.take k)
  b0 : Blk wr w.heap.size #[.chan (some c)] 90
  b1 : Blk wr (w.heap.size + 1) (tkC tk0) 132
  b2 : Blk wr (w.heap.size + 1 + 1) (tkC o) 132
  gr : w.grownBy wr (some c)
  fd : findT (l.take k) t = if f then some o else none
  no : f = false → o = tk0

def TI (w : World) (c : Nat) (l : List Tk) (t : ByteArray) (a : Act) (wr : World) : Prop := ∃ (k : Nat) (o : Tk) (f : Bool) (s8 s13 s14 s15 s16 s17 s18 s19 s20 s21 s22 s23 s24 s25 : Value), a = ⟨#[.agg #[.chan (some c)], .string t, .pointer (some ⟨w.heap.size, 0, none⟩), undef, .pointer (some ⟨w.heap.size + 1, 0, none⟩), .bool false, .pointer (some ⟨w.heap.size + 1 + 1, 0, none⟩), .bool f, s8, .pointer (some ⟨w.heap.size, 0, none⟩), .chan (some c), .int .i64 l.length, .int .i64 k, s13, s14, s15, s16, s17, s18, s19, s20, s21, s22, s23, s24, s25, undef, undef], []⟩ ∧ k ≤ l.length ∧ Hid (TF w wr c l t k o f)
def TM (l : List Tk) (a : Act) : Nat := l.length - (intOf (a.tmps.getD 12 undef)).toNat
set_option maxRecDepth 100000 in
set_option maxHeartbeats 1000000 in
theorem tfind_any (w : World) (c : Nat) (l : List Tk) (t : ByteArray) (hc : Ch w c l) (hl : l.length ≤ 8) :
    Calls Tryz.prog 55 #[.agg #[.chan (some c)], .string t] w fun e w' => e = .returned (.tuple #[vT ((findT l t).getD tk0), .bool (findT l t).isSome]) ∧ Ch w' c l ∧ w.grownBy w' (some c) := by
  have hcl := hc.lt
  have HC : Hid (Ch w c l) := hc
  obtain ⟨s0, r0, hch⟩ := hc
  have hB : Below w.heap.size w (((w.alloc (.cells #[.chan (some c)] 90)).alloc (.cells (tkC tk0) 132)).alloc (.cells (tkC tk0) 132)) := (by repeat' (first | with_reducible assumption | with_reducible exact Below.refl _ _ | with_reducible apply Below.drew | with_reducible apply below_drewN | with_reducible apply Below.setCell | with_reducible apply Below.alloc | omega | (simp; done) | (simp; omega)))
  have hlen := fun ty => run_len_chan (P := Tryz.prog) 88 ty Tryz.underlying88 ((hB.block c hcl).trans hch)
  clear hB
  simp only [tkC, tk0] at hlen
  rw [show (l.map vT).toArray.size = l.length by simp] at hlen
  clear hch
  refine calls_of_wpN Tryz.func55 rfl ?_
  simp only [Tryz.ntmps55, List.size_toArray, List.length_cons, List.length_nil, Nat.reduceAdd, Nat.reduceSub, Array.replicate_succ, Array.replicate_zero, List.push_toArray, List.append_toArray, List.nil_append, List.cons_append]
  refine wpN_piece fun K hK => ?_
  go_wp2
  refine wpN_piece fun K hK => ?_
  go_wp2
  refine wpN_piece fun K hK => ?_
  go_wp2
  refine wpN_seq (wpN_piece fun K hK => ?_)
  go_wp2
  refine wpN_block ?_
  refine wpN_loop (TI w c l t) (fun a _ => TM l a) ?_ ?_
  · refine ⟨0, tk0, false, _, _, _, _, _, _, _, _, _, _, _, _, _, _, rfl, Nat.zero_le _, ?_⟩
    have hB : Below w.heap.size w (((w.alloc (.cells #[.chan (some c)] 90)).alloc (.cells (tkC tk0) 132)).alloc (.cells (tkC tk0) 132)) := (by repeat' (first | with_reducible assumption | with_reducible exact Below.refl _ _ | with_reducible apply Below.drew | with_reducible apply below_drewN | with_reducible apply Below.setCell | with_reducible apply Below.alloc | omega | (simp; done) | (simp; omega)))
    have h2 : Below (w.heap.size + 1) (w.alloc (.cells #[.chan (some c)] 90)) (((w.alloc (.cells #[.chan (some c)] 90)).alloc (.cells (tkC tk0) 132)).alloc (.cells (tkC tk0) 132)) := ((Below.refl _ _).alloc (by simp) _).alloc (by simp) _
    have h3 : Below (w.heap.size + 2) ((w.alloc (.cells #[.chan (some c)] 90)).alloc (.cells (tkC tk0) 132)) (((w.alloc (.cells #[.chan (some c)] 90)).alloc (.cells (tkC tk0) 132)).alloc (.cells (tkC tk0) 132)) := (Below.refl _ _).alloc (by simp) _
    obtain ⟨s, r, hh⟩ := HC.out
    have q1 := Blk.new (w.alloc (.cells #[.chan (some c)] 90)) (tkC tk0) 132
    have q2 := Blk.new ((w.alloc (.cells #[.chan (some c)] 90)).alloc (.cells (tkC tk0) 132)) (tkC tk0) 132
    rw [show (w.alloc (.cells #[.chan (some c)] 90)).heap.size = w.heap.size + 1 by simp] at q1
    rw [show ((w.alloc (.cells #[.chan (some c)] 90)).alloc (.cells (tkC tk0) 132)).heap.size = w.heap.size + 1 + 1 by simp] at q2
    exact ⟨⟨s, r, by rw [show l.drop 0 ++ l.take 0 = l by simp]; exact (hB.block c hcl).trans hh⟩, (h2.block _ (by omega)).trans (Blk.new w _ _), (h3.block _ (by omega)).trans q1, q2, ⟨hB.os, hB.tape, hB.output, hB.size, fun b hb _ => hB.block b hb⟩, by simp [findT], fun _ => rfl⟩
  · rintro a wr ⟨k, o, f, s8, s13, s14, s15, s16, s17, s18, s19, s20, s21, s22, s23, s24, s25, rfl, hk, H⟩
    clear hlen
    by_cases hlt : k < l.length
    · refine wpN_piece fun K hK => ?_
      go_wp2
      refine wpN_piece fun K hK => ?_
      go_wp2
      refine wpN_seq (wpN_block (wpN_seq (wpN_region ?_)))
      simp only [List.size_toArray, List.length_cons, List.length_nil, Nat.reduceAdd, Nat.zero_add, List.range, List.range.loop]
      obtain ⟨s, r, hch⟩ := H.out.ch
      rw [rot_at l k hlt, List.map_cons] at hch
      have hrt := rot_next l k hlt
      have hfn := findT_next l k t hlt
      generalize hx : l.getD k tk0 = x at hch hrt hfn
      clear hx
      have HR : Hid (l.drop (k + 1) ++ l.take k ++ [x] = l.drop (k + 1) ++ l.take (k + 1)) := hrt
      have HF : Hid (findT (l.take (k + 1)) t = if decide (x.t = t) then some x else findT (l.take k) t) := hfn
      clear hrt hfn
      have c0 : wr.cell? ⟨w.heap.size, 0, none⟩ = some (.chan (some c)) := H.out.b0.cell 0
      refine rgN_value rfl rfl (v := .pointer (some ⟨w.heap.size, 0, none⟩)) (w' := wr) (by simp [go_sem, execOp, Act.eval]) ?_
      refine rgN_value rfl rfl (v := .chan (some c)) (w' := wr) (by simp [go_sem, execOp, Act.eval, Act.put, c0]) ?_
      refine rgN_recv rfl rfl (c := c) (z := vT tk0) (w₁ := wr) (by simp [go_sem, execOp, Act.eval, Act.put, rcase, vT, tk0]) hch (by simp) ?_
      rw [ext_one]
      have hg0 : (vT x :: List.map vT (l.drop (k + 1) ++ l.take k)).toArray.getD 0 undef = vT x := by simp
      rw [hg0]
      have hch2 := heap_setChan wr c 8 (List.map vT (l.drop (k + 1) ++ l.take k)).toArray false s (r + 1) false (Nat.lt_of_lt_of_le hcl H.out.gr.size)
      have n0 : w.heap.size ≠ c := by omega
      have n1 : w.heap.size + 1 ≠ c := by omega
      have n2 : w.heap.size + 1 + 1 ≠ c := by omega
      have b0 := H.out.b0.chan n0 8 (List.map vT (l.drop (k + 1) ++ l.take k)).toArray false s (r + 1) false
      have b1 := H.out.b1.chan n1 8 (List.map vT (l.drop (k + 1) ++ l.take k)).toArray false s (r + 1) false
      have b2 := H.out.b2.chan n2 8 (List.map vT (l.drop (k + 1) ++ l.take k)).toArray false s (r + 1) false
      have gr := grown_chan H.out.gr 8 (List.map vT (l.drop (k + 1) ++ l.take k)).toArray false s (r + 1) false
      generalize wr.setChan c 8 (List.map vT (l.drop (k + 1) ++ l.take k)).toArray false s (r + 1) false = W at hch2 b0 b1 b2 gr ⊢
      refine rgN_value rfl rfl (v := .pointer (some ⟨W.heap.size, 0, none⟩)) (w' := W.alloc (.cells (tkC tk0) 132)) (by simp [go_sem, execOp, Act.eval, Act.put, tkC, tk0]) ?_
      have q0 := Blk.new W (tkC tk0) 132
      have q1 := ((q0.set 0 (.string x.t)).set 1 (.string x.l)).set 2 (.string x.r)
      refine rgN_skip rfl rfl (w' := (((W.alloc (.cells (tkC tk0) 132)).setCell ⟨W.heap.size, 0, none⟩ (.string x.t)).setCell ⟨W.heap.size, 1, none⟩ (.string x.l)).setCell ⟨W.heap.size, 2, none⟩ (.string x.r)) (by simp [go_sem, execOp, Act.eval, Act.put, tkC, tk0, vT]) ?_
      have hN : w.heap.size + 1 + 1 < W.heap.size := b2.lt
      have gN : w.grownBy ((((W.alloc (.cells (tkC tk0) 132)).setCell ⟨W.heap.size, 0, none⟩ (.string x.t)).setCell ⟨W.heap.size, 1, none⟩ (.string x.l)).setCell ⟨W.heap.size, 2, none⟩ (.string x.r)) (some c) := by
        have g1 : w.grownBy (W.alloc (.cells (tkC tk0) 132)) (some c) := ⟨gr.os, gr.tape, gr.output, by have := gr.size; simp; omega, fun k hk hr => (Below.heap_alloc W _ k (Nat.lt_of_lt_of_le hk gr.size)).trans (gr.block k hk hr)⟩
        exact grown_sets g1 W.heap.size 0 [.string x.t, .string x.l, .string x.r] (.inr gr.size)
      have oN : ∀ b, b < W.heap.size → ((((W.alloc (.cells (tkC tk0) 132)).setCell ⟨W.heap.size, 0, none⟩ (.string x.t)).setCell ⟨W.heap.size, 1, none⟩ (.string x.l)).setCell ⟨W.heap.size, 2, none⟩ (.string x.r)).heap[b]? = W.heap[b]? := fun b hb =>
        ((sets_other W.heap.size [.string x.t, .string x.l, .string x.r] 0 (W.alloc (.cells (tkC tk0) 132))).2.2.2.2 b (by omega)).trans (Below.heap_alloc W _ b hb)
      have b0 := (oN _ (by omega)).trans b0
      have b1 := (oN _ (by omega)).trans b1
      have b2 := (oN _ (by omega)).trans b2
      have hch2 := (oN c (Nat.lt_of_lt_of_le hcl gr.size)).trans hch2
      clear oN gr q0
      generalize W.heap.size = N at q1 hN gN b0 b1 b2 hch2 ⊢
      generalize ((((W.alloc (.cells (tkC tk0) 132)).setCell ⟨N, 0, none⟩ (.string x.t)).setCell ⟨N, 1, none⟩ (.string x.l)).setCell ⟨N, 2, none⟩ (.string x.r)) = V at q1 gN b0 b1 b2 hch2 ⊢
      refine rgN_nil ?_
      show wpN _ _ _ ⟨#[.agg #[.chan (some c)], .string t, .pointer (some ⟨w.heap.size, 0, none⟩), undef, .pointer (some ⟨w.heap.size + 1, 0, none⟩), .bool false, .pointer (some ⟨w.heap.size + 1 + 1, 0, none⟩), .bool f, .pointer (some ⟨N, 0, none⟩), .pointer (some ⟨w.heap.size, 0, none⟩), .chan (some c), .int .i64 l.length, .int .i64 k, .bool true, .pointer (some ⟨w.heap.size, 0, none⟩), .chan (some c), vT x, s17, s18, s19, s20, s21, s22, s23, s24, s25, undef, undef], []⟩ V
      refine wpN_seq (wpN_region ?_)
      simp only [List.size_toArray, List.length_cons, List.length_nil, Nat.reduceAdd, Nat.zero_add, List.range, List.range.loop]
      have v0 : V.cell? ⟨w.heap.size, 0, none⟩ = some (.chan (some c)) := Blk.cell b0 0
      have v1 : V.cell? ⟨N, 0, none⟩ = some (.string x.t) := Blk.cell q1 0
      have v2 : V.cell? ⟨N, 1, none⟩ = some (.string x.l) := Blk.cell q1 1
      have v3 : V.cell? ⟨N, 2, none⟩ = some (.string x.r) := Blk.cell q1 2
      refine rgN_value rfl rfl (v := .pointer (some ⟨w.heap.size, 0, none⟩)) (w' := V) (by simp [go_sem, execOp, Act.eval]) ?_
      refine rgN_value rfl rfl (v := .chan (some c)) (w' := V) (by simp [go_sem, execOp, Act.eval, Act.put, v0]) ?_
      refine rgN_value rfl rfl (v := vT x) (w' := V) (by simp [go_sem, execOp, Act.eval, Act.put, v1, v2, v3, vT]) ?_
      refine rgN_send rfl rfl (c := c) (v := vT x) (z' := .tuple #[]) (w₁ := V) (by simp [go_sem, execOp, Act.eval, Act.put, scase]) hch2 (by simp; omega) ?_
      rw [push_one, show List.map vT (l.drop (k + 1) ++ l.take k) ++ [vT x] = List.map vT (l.drop (k + 1) ++ l.take k ++ [x]) by simp, HR.out]
      have hch3 := heap_setChan V c 8 (List.map vT (l.drop (k + 1) ++ l.take (k + 1))).toArray false (s + 1) (r + 1) false (Nat.lt_of_lt_of_le hcl gN.size)
      have nN : N ≠ c := by omega
      have b0 := Blk.chan b0 n0 8 (List.map vT (l.drop (k + 1) ++ l.take (k + 1))).toArray false (s + 1) (r + 1) false
      have b1 := Blk.chan b1 n1 8 (List.map vT (l.drop (k + 1) ++ l.take (k + 1))).toArray false (s + 1) (r + 1) false
      have b2 := Blk.chan b2 n2 8 (List.map vT (l.drop (k + 1) ++ l.take (k + 1))).toArray false (s + 1) (r + 1) false
      have q1 := Blk.chan q1 nN 8 (List.map vT (l.drop (k + 1) ++ l.take (k + 1))).toArray false (s + 1) (r + 1) false
      have gN := grown_chan gN 8 (List.map vT (l.drop (k + 1) ++ l.take (k + 1))).toArray false (s + 1) (r + 1) false
      generalize V.setChan c 8 (List.map vT (l.drop (k + 1) ++ l.take (k + 1))).toArray false (s + 1) (r + 1) false = U at hch3 b0 b1 b2 q1 gN ⊢
      refine rgN_nil ?_
      show wpN _ _ _ ⟨#[.agg #[.chan (some c)], .string t, .pointer (some ⟨w.heap.size, 0, none⟩), undef, .pointer (some ⟨w.heap.size + 1, 0, none⟩), .bool false, .pointer (some ⟨w.heap.size + 1 + 1, 0, none⟩), .bool f, .pointer (some ⟨N, 0, none⟩), .pointer (some ⟨w.heap.size, 0, none⟩), .chan (some c), .int .i64 l.length, .int .i64 k, .bool true, .pointer (some ⟨w.heap.size, 0, none⟩), .chan (some c), vT x, .pointer (some ⟨w.heap.size, 0, none⟩), .chan (some c), vT x, s20, s21, s22, s23, s24, s25, undef, undef], []⟩ U
      have u1 : U.cell? ⟨N, 0, none⟩ = some (.string x.t) := Blk.cell q1 0
      have u2 : U.cell? ⟨N, 1, none⟩ = some (.string x.l) := Blk.cell q1 1
      have u3 : U.cell? ⟨N, 2, none⟩ = some (.string x.r) := Blk.cell q1 2
      have o1 : U.cell? ⟨w.heap.size + 1 + 1, 0, none⟩ = some (.string o.t) := Blk.cell b2 0
      have o2 : U.cell? ⟨w.heap.size + 1 + 1, 1, none⟩ = some (.string o.l) := Blk.cell b2 1
      have o3 : U.cell? ⟨w.heap.size + 1 + 1, 2, none⟩ = some (.string o.r) := Blk.cell b2 2
      have p1 : U.frozen? ⟨w.heap.size + 1 + 1, 0, none⟩ = false := Blk.frozen b2 0
      have p2 : U.frozen? ⟨w.heap.size + 1 + 1, 1, none⟩ = false := Blk.frozen b2 1
      have p3 : U.frozen? ⟨w.heap.size + 1 + 1, 2, none⟩ = false := Blk.frozen b2 2
      have X0 : Hid (Blk U w.heap.size #[.chan (some c)] 90) := b0
      have X1 : Hid (Blk U (w.heap.size + 1) (tkC tk0) 132) := b1
      have X2 : Hid (Blk U (w.heap.size + 1 + 1) (tkC o) 132) := b2
      have XC : Hid (Ch U c (l.drop (k + 1) ++ l.take (k + 1))) := ⟨_, _, hch3⟩
      have XG : Hid (w.grownBy U (some c)) := gN
      have hNN : N ≠ w.heap.size + 1 + 1 := by omega
      clear b0 b1 b2 q1 gN hch3 hch2 hch hg0 v0 v1 v2 v3 c0
      refine wpN_of ?_
      rcases hxt : decide (x.t = t) with _ | _
      · have hq : (x.t.toList == t.toList) = false := by rw [beqB]; exact hxt
        go_wp2
        refine wpN_of ?_
        go_wp2
        have e1 : Hid (TF w U c l t (k + 1) o f) := ⟨XC.out, X0.out, X1.out, X2.out, XG.out, by rw [HF.out, hxt]; exact H.out.fd, H.out.no⟩
        exact ⟨⟨k + 1, o, f, _, _, _, _, _, _, _, _, _, _, _, _, _, _, rfl, hlt, e1⟩, by simp [TM, intOf]; omega⟩
      · have hq : (x.t.toList == t.toList) = true := by rw [beqB]; exact hxt
        go_wp2
        refine wpN_of ?_
        go_wp2
        have e1 : Hid (TF w (((U.setCell ⟨w.heap.size + 1 + 1, 0, none⟩ (.string x.t)).setCell ⟨w.heap.size + 1 + 1, 1, none⟩ (.string x.l)).setCell ⟨w.heap.size + 1 + 1, 2, none⟩ (.string x.r)) c l t (k + 1) x true) := by
          have h2 := (sets_other (w.heap.size + 1 + 1) [.string x.t, .string x.l, .string x.r] 0 U).2.2.2.2
          obtain ⟨s', r', hh⟩ := XC.out
          exact ⟨⟨s', r', (h2 c (by omega)).trans hh⟩, (h2 _ (by omega)).trans X0.out, (h2 _ (by omega)).trans X1.out, ((X2.out.set 0 _).set 1 _).set 2 _, grown_sets XG.out (w.heap.size + 1 + 1) 0 [.string x.t, .string x.l, .string x.r] (.inr (by omega)), by rw [HF.out, hxt]; rfl, fun h => by cases h⟩
        exact ⟨⟨k + 1, x, true, _, _, _, _, _, _, _, _, _, _, _, _, _, _, rfl, hlt, e1⟩, by simp [TM, intOf]; omega⟩
    · refine wpN_piece fun K hK => ?_
      go_wp2
      refine wpN_piece fun K hK => ?_
      go_wp2
      refine wpN_of ?_
      have hkl : k = l.length := by omega
      subst hkl
      have c0 : wr.cell? ⟨w.heap.size + 1 + 1, 0, none⟩ = some (.string o.t) := H.out.b2.cell 0
      have c1 : wr.cell? ⟨w.heap.size + 1 + 1, 1, none⟩ = some (.string o.l) := H.out.b2.cell 1
      have c2 : wr.cell? ⟨w.heap.size + 1 + 1, 2, none⟩ = some (.string o.r) := H.out.b2.cell 2
      have d0 : wr.cell? ⟨w.heap.size + 1, 0, none⟩ = some (.string ⟨#[]⟩) := H.out.b1.cell 0
      have d1 : wr.cell? ⟨w.heap.size + 1, 1, none⟩ = some (.string ⟨#[]⟩) := H.out.b1.cell 1
      have d2 : wr.cell? ⟨w.heap.size + 1, 2, none⟩ = some (.string ⟨#[]⟩) := H.out.b1.cell 2
      have e0 : wr.frozen? ⟨w.heap.size + 1, 0, none⟩ = false := H.out.b1.frozen 0
      have e1 : wr.frozen? ⟨w.heap.size + 1, 1, none⟩ = false := H.out.b1.frozen 1
      have e2 : wr.frozen? ⟨w.heap.size + 1, 2, none⟩ = false := H.out.b1.frozen 2
      have hz : w.heap.size + 1 < wr.heap.size := H.out.b1.lt
      go_wp2
      have HB := ((H.out.b1.set 0 (.string o.t)).set 1 (.string o.l)).set 2 (.string o.r)
      have k0 := HB.cell 0
      have k1 := HB.cell 1
      have k2 := HB.cell 2
      have hfin : Ch (((wr.setCell ⟨w.heap.size + 1, 0, none⟩ (.string o.t)).setCell ⟨w.heap.size + 1, 1, none⟩ (.string o.l)).setCell ⟨w.heap.size + 1, 2, none⟩ (.string o.r)) c l ∧ w.grownBy (((wr.setCell ⟨w.heap.size + 1, 0, none⟩ (.string o.t)).setCell ⟨w.heap.size + 1, 1, none⟩ (.string o.l)).setCell ⟨w.heap.size + 1, 2, none⟩ (.string o.r)) (some c) := by
        obtain ⟨s, r, hch⟩ := H.out.ch
        rw [show l.drop l.length ++ l.take l.length = l by simp] at hch
        have := grown_sets H.out.gr (w.heap.size + 1) 0 [.string o.t, .string o.l, .string o.r] (.inr (by omega))
        have h2 := (sets_other (w.heap.size + 1) [.string o.t, .string o.l, .string o.r] 0 wr).2.2.2.2 c (by omega)
        exact ⟨⟨s, r, h2.trans hch⟩, this⟩
      have hv : (findT l t).getD tk0 = o ∧ (findT l t).isSome = f := by
        have hf := H.out.fd
        rw [List.take_length] at hf
        rw [hf]
        cases f
        · exact ⟨(H.out.no rfl).symm, rfl⟩
        · exact ⟨rfl, rfl⟩
      rw [hv.1, hv.2]
      clear hv c0 c1 c2 d0 d1 d2 e0 e1 e2 hz H HB
      generalize (((wr.setCell ⟨w.heap.size + 1, 0, none⟩ (.string o.t)).setCell ⟨w.heap.size + 1, 1, none⟩ (.string o.l)).setCell ⟨w.heap.size + 1, 2, none⟩ (.string o.r)) = W at k0 k1 k2 hfin ⊢
      simp [tkC, tk0] at k0 k1 k2
      exact bodyPost_ret (v := .tuple #[.agg #[.string o.t, .string o.l, .string o.r], .bool f]) (by simp [results, Tryz.results55, go_sem, k0, k1, k2]) rfl ⟨rfl, hfin⟩

theorem sclone_any (x : ByteArray) (w : World) (hx : x.size ≤ 281474976710656) : Calls Tryz.prog 78 #[.string x] w fun e w' => e = .returned (.string x) ∧ Below w.heap.size w w' := by
  have hc : Hid (Calls Tryz.prog 119 #[.string x] w fun e w' => e = .returned (.string x) ∧ Below w.heap.size w w') := Tryz.stringslite_Clone x w hx
  go_enter Tryz.func78, Tryz.ntmps78
  go_wp2_with (go_at_call 119; refine hc.out.mono ?_; rintro e w1 ⟨rfl, hb1⟩)
  go_ret
  exact ⟨rfl, hb1⟩

/-- the table while one more is put in -/
structure TA (w wr : World) (c : Nat) (l : List Tk) (x : Tk) (m : List Tk) : Prop where
  ch : Ch wr c m
  b0 : Blk wr w.heap.size #[.chan (some c)] 90
  b1 : Blk wr (w.heap.size + 1) (tkC x) 132
  gr : w.grownBy wr (some c)
  or : m = l ∨ (l.length = 8 ∧ m = l.drop 1)
def TN (c : Nat) (wr : World) : Nat := match wr.heap[c]? with | some (.chan _ buf _ _ _ _) => buf.size | _ => 0
theorem TN_at {c : Nat} {wr : World} {cap : Nat} {buf : Array Value} {cl : Bool} {s r : Nat} {tm : Bool} (h : wr.heap[c]? = some (.chan cap buf cl s r tm)) : TN c wr = buf.size := by unfold TN; rw [h]
def TB (w : World) (c : Nat) (l : List Tk) (x : Tk) (a : Act) (wr : World) : Prop := ∃ (m : List Tk) (s8 s9 s10 s11 s12 s13 s14 s15 s16 : Value), a = ⟨#[.agg #[.chan (some c)], vT x, .pointer (some ⟨w.heap.size, 0, none⟩), .pointer (some ⟨w.heap.size + 1, 0, none⟩), .pointer (some ⟨w.heap.size + 1, 1, none⟩), .string x.l, .string x.l, .pointer (some ⟨w.heap.size + 1, 1, none⟩), s8, s9, s10, s11, s12, s13, s14, s15, s16], []⟩ ∧ Hid (TA w wr c l x m)
set_option maxRecDepth 100000 in
set_option maxHeartbeats 1000000 in
theorem tadd_any (w : World) (c : Nat) (l : List Tk) (x : Tk) (hc : Ch w c l) (hl : l.length ≤ 8) (hx : x.l.size ≤ 281474976710656) :
    Calls Tryz.prog 57 #[.agg #[.chan (some c)], vT x] w fun e w' => e = .returned (.tuple #[]) ∧ Ch w' c (addT l x) ∧ w.grownBy w' (some c) := by
  have hcl := hc.lt
  have HC : Hid (Ch w c l) := hc
  have hcn : Hid (∀ w, Calls Tryz.prog 78 #[.string x.l] w fun e w' => e = .returned (.string x.l) ∧ Below w.heap.size w w') := fun w => sclone_any x.l w hx
  clear hc hx
  refine calls_of_wpN Tryz.func57 rfl ?_
  unfold vT
  simp only [Tryz.ntmps57, List.size_toArray, List.length_cons, List.length_nil, Nat.reduceAdd, Nat.reduceSub, Array.replicate_succ, Array.replicate_zero, List.push_toArray, List.append_toArray, List.nil_append, List.cons_append]
  refine wpN_piece fun K hK => ?_
  go_wp2
  refine wpN_piece fun K hK => ?_
  go_wp2_with (go_at_call 78; refine (hcn.out _).mono ?_; rintro e w1 ⟨rfl, hb1⟩; have d1 : w1.cell? ⟨w.heap.size + 1, 1, none⟩ = some (.string x.l) := (by rw [hb1.cell (p := ⟨w.heap.size + 1, 1, none⟩) (by simp)]; simp [go_sem]); have e1 : w1.frozen? ⟨w.heap.size + 1, 1, none⟩ = false := (by rw [hb1.frozen (p := ⟨w.heap.size + 1, 1, none⟩) (by simp)]; simp [go_sem]))
  refine wpN_block ?_
  have hTA : Hid (TA w (w1.setCell ⟨w.heap.size + 1, 1, none⟩ (.string x.l)) c l x l) := by
    have hB : Below w.heap.size w ((w.alloc (.cells #[.chan (some c)] 90)).alloc (.cells (tkC x) 132)) := (by repeat' (first | with_reducible assumption | with_reducible exact Below.refl _ _ | with_reducible apply Below.drew | with_reducible apply below_drewN | with_reducible apply Below.setCell | with_reducible apply Below.alloc | omega | (simp; done) | (simp; omega)))
    have h2 : Below (w.heap.size + 1) (w.alloc (.cells #[.chan (some c)] 90)) ((w.alloc (.cells #[.chan (some c)] 90)).alloc (.cells (tkC x) 132)) := (Below.refl _ _).alloc (by simp) _
    have q1 := Blk.new (w.alloc (.cells #[.chan (some c)] 90)) (tkC x) 132
    rw [show (w.alloc (.cells #[.chan (some c)] 90)).heap.size = w.heap.size + 1 by simp] at q1
    have q0 : Blk ((w.alloc (.cells #[.chan (some c)] 90)).alloc (.cells (tkC x) 132)) w.heap.size #[.chan (some c)] 90 := (h2.block _ (by omega)).trans (Blk.new w _ _)
    have p0 := q0.below hb1
    have p1 := (q1.below hb1).set 1 (.string x.l)
    have h3 : Below w.heap.size w w1 := bup hB hb1
    have ho := (sets_other (w.heap.size + 1) [.string x.l] 1 w1).2.2.2.2
    obtain ⟨s, r, hh⟩ := HC.out
    exact ⟨⟨s, r, (ho c (by omega)).trans ((h3.block c hcl).trans hh)⟩, (ho _ (by omega)).trans p0, p1, grown_sets (row := some c) ⟨h3.os, h3.tape, h3.output, h3.size, fun b hb _ => h3.block b hb⟩ (w.heap.size + 1) 1 [.string x.l] (.inr (by omega)), .inl rfl⟩
  generalize w1.setCell ⟨w.heap.size + 1, 1, none⟩ (.string x.l) = W at hTA ⊢
  clear hb1 d1 e1 hcn w1
  refine wpN_loop (TB w c l x) (fun _ wr => TN c wr) ?_ ?_
  · exact ⟨l, _, _, _, _, _, _, _, _, _, rfl, hTA⟩
  · rintro a wr ⟨m, s8, s9, s10, s11, s12, s13, s14, s15, s16, rfl, H⟩
    clear hTA
    have c0 : wr.cell? ⟨w.heap.size, 0, none⟩ = some (.chan (some c)) := H.out.b0.cell 0
    have d0 : wr.cell? ⟨w.heap.size + 1, 0, none⟩ = some (.string x.t) := H.out.b1.cell 0
    have d1 : wr.cell? ⟨w.heap.size + 1, 1, none⟩ = some (.string x.l) := H.out.b1.cell 1
    have d2 : wr.cell? ⟨w.heap.size + 1, 2, none⟩ = some (.string x.r) := H.out.b1.cell 2
    refine wpN_block (wpN_seq (wpN_of ?_))
    go_wp2
    refine wpN_seq (wpN_region ?_)
    simp only [List.size_toArray, List.length_cons, List.length_nil, Nat.reduceAdd, Nat.zero_add, List.range, List.range.loop]
    obtain ⟨s, r, hch⟩ := H.out.ch
    by_cases hm : m.length < 8
    · refine rgN_sel_room rfl rfl (c := c) (v := vT x) (z' := vT tk0) (w₁ := wr) (by simp [go_sem, execOp, Act.eval, scase, vT, tk0]) hch (by simp; omega) ?_
      have hch2 := heap_setChan wr c 8 (List.map vT m ++ [vT x]).toArray false (s + 1) r false (Nat.lt_of_lt_of_le hcl H.out.gr.size)
      have gr := grown_chan H.out.gr 8 (List.map vT m ++ [vT x]).toArray false (s + 1) r false
      rw [push_one]
      generalize wr.setChan c 8 (List.map vT m ++ [vT x]).toArray false (s + 1) r false = U at hch2 gr ⊢
      refine rgN_value rfl rfl (v := goInt 0) (w' := U) (by simp [go_sem, execOp, Act.eval, Act.put]) ?_
      refine rgN_value rfl rfl (v := .bool true) (w' := U) (by simp [go_sem, execOp, Act.eval, Act.put]) ?_
      refine rgN_nil ?_
      show wpN _ _ _ ⟨#[.agg #[.chan (some c)], vT x, .pointer (some ⟨w.heap.size, 0, none⟩), .pointer (some ⟨w.heap.size + 1, 0, none⟩), .pointer (some ⟨w.heap.size + 1, 1, none⟩), .string x.l, .string x.l, .pointer (some ⟨w.heap.size + 1, 1, none⟩), .pointer (some ⟨w.heap.size, 0, none⟩), .chan (some c), vT x, .tuple #[goInt 0, .bool false], goInt 0, .bool true, s14, s15, s16], []⟩ U
      have hfin : Hid (Ch U c (addT l x) ∧ w.grownBy U (some c)) := by
        refine ⟨⟨s + 1, r, ?_⟩, gr⟩
        have e : addT l x = m ++ [x] := by
          unfold addT
          rcases H.out.or with e | ⟨e1, e2⟩
          · rw [if_neg (by rw [← e]; omega), e]
          · rw [if_pos (by omega), e2]
        rw [e, List.map_append]
        exact hch2
      clear hch2 gr H hch c0 d0 d1 d2
      refine wpN_of ?_
      go_wp2
      refine bodyPost_ret (results_none rfl _ _ _) rfl ?_
      exact ⟨rfl, hfin.out⟩
    · have hml : m.length = 8 := by rcases H.out.or with e | ⟨e1, e2⟩; rw [e] at hm ⊢; omega; rw [e2] at hm; simp at hm; omega
      have hmo : m = l := by rcases H.out.or with e | ⟨e1, e2⟩; exact e; rw [e2] at hml; simp at hml; omega
      subst hmo
      refine rgN_sel_full rfl rfl (c := c) (v := vT x) (z' := vT tk0) (w₁ := wr) (by simp [go_sem, execOp, Act.eval, scase, vT, tk0]) hch (by simp; omega) ?_
      refine rgN_value rfl rfl (v := goInt (-1)) (w' := wr) (by simp [go_sem, execOp, Act.eval, Act.put]) ?_
      refine rgN_value rfl rfl (v := .bool false) (w' := wr) (by simp [go_sem, execOp, Act.eval, Act.put]) ?_
      refine rgN_nil ?_
      show wpN _ _ _ ⟨#[.agg #[.chan (some c)], vT x, .pointer (some ⟨w.heap.size, 0, none⟩), .pointer (some ⟨w.heap.size + 1, 0, none⟩), .pointer (some ⟨w.heap.size + 1, 1, none⟩), .string x.l, .string x.l, .pointer (some ⟨w.heap.size + 1, 1, none⟩), .pointer (some ⟨w.heap.size, 0, none⟩), .chan (some c), vT x, .tuple #[goInt (-1), .bool false], goInt (-1), .bool false, s14, s15, s16], []⟩ wr
      refine wpN_block (wpN_cond (t := false) rfl (wpN_region ?_))
      simp only [List.size_toArray, List.length_cons, List.length_nil, Nat.reduceAdd, Nat.zero_add, List.range, List.range.loop]
      obtain ⟨y, r', hmy⟩ : ∃ y r', m = y :: r' := by cases m with | nil => simp at hml | cons y r' => exact ⟨y, r', rfl⟩
      have hch0 := hch
      rw [hmy, List.map_cons] at hch
      refine rgN_value rfl rfl (v := .pointer (some ⟨w.heap.size, 0, none⟩)) (w' := wr) (by simp [go_sem, execOp, Act.eval]) ?_
      refine rgN_value rfl rfl (v := .chan (some c)) (w' := wr) (by simp [go_sem, execOp, Act.eval, Act.put, c0]) ?_
      refine rgN_recv rfl rfl (c := c) (z := vT tk0) (w₁ := wr) (by simp [go_sem, execOp, Act.eval, Act.put, rcase, vT, tk0]) hch (by simp) ?_
      rw [ext_one]
      have hch2 := heap_setChan wr c 8 (List.map vT r').toArray false s (r + 1) false (Nat.lt_of_lt_of_le hcl H.out.gr.size)
      have n0 : w.heap.size ≠ c := by omega
      have n1 : w.heap.size + 1 ≠ c := by omega
      have b0 := H.out.b0.chan n0 8 (List.map vT r').toArray false s (r + 1) false
      have b1 := H.out.b1.chan n1 8 (List.map vT r').toArray false s (r + 1) false
      have gr := grown_chan H.out.gr 8 (List.map vT r').toArray false s (r + 1) false
      generalize wr.setChan c 8 (List.map vT r').toArray false s (r + 1) false = U at hch2 b0 b1 gr ⊢
      refine rgN_nil ?_
      refine ⟨⟨r', _, _, _, _, _, _, _, _, _, rfl, (⟨⟨_, _, hch2⟩, b0, b1, gr, .inr ⟨hml, by rw [hmy]; rfl⟩⟩ : TA w U c m x r')⟩, ?_⟩
      rw [TN_at hch2, TN_at hch0, hmy]; simp
end Go.Proofs.YtlikdnmikdldfaaGreatDoor
namespace Go.Proofs.YtlikdnmikdldfaaGreatDoor
open Go.ChangeShapes Go.WideShapes Go.ChangeAt Go.RowKit
set_option linter.unusedVariables false
set_option linter.unusedSimpArgs false


theorem infoS : (Tryz.prog.info? 166).map (fun i => (i.zero, i.size, i.bytes)) = some (some (.agg #[.int .u32 0, .int .i64 0, .string ByteArray.empty]), 3, 32) := by kernel_rfl
theorem sizeS : (Tryz.prog.info? 166).map (·.size) = some 3 := by kernel_rfl
set_option maxRecDepth 100000 in
set_option maxHeartbeats 1000000 in
theorem insEndS (cs vs : List Value) (n : Nat) (v : Value) (vb : Nat) (w : World) (hown : w.ownsRow 0 166 3 v n cs) (hn : n ≤ 1000) (hvl : vs.length = 3) (hv : Blk w vb vs.toArray 166) (h1v : ∀ u ∈ vs, u.oneCell' = true) :
    Calls Tryz.prog 175 #[v, .int .i64 n, .slice (some ⟨vb, 0, none⟩) 1 1] w fun e w' => ∃ g cap, e = .returned (.slice (some ⟨g, 0, none⟩) (n + 1) cap) ∧ w'.ownsRow 0 166 3 (.slice (some ⟨g, 0, none⟩) (n + 1) cap) (n + 1) (cs ++ vs) ∧ w.grownBy w' v.ownBlock ∧ (v.ownBlock = some g ∨ w.heap.size ≤ g) ∧ g < w'.heap.size := by
  have hsl : ∃ b cap, v = .slice b n cap ∧ n ≤ cap ∧ cap ≤ maxLen := by
    rcases hown.2 with ⟨rfl, e⟩ | ⟨g, cap, cur, rfl, _, _, h1, h2, _⟩
    · exact ⟨none, 0, by rw [e], by omega, by unfold maxLen; omega⟩
    · exact ⟨_, cap, rfl, h1, h2⟩
  have HO : Hid (w.ownsRow 0 166 3 v n cs) := hown
  have hcell : Hid (∀ j u, vs[j]? = some u → w.cell? (Addr.add ⟨vb, 0, none⟩ j) = some u) := fun j u hj => by
    rw [Addr.add_lit, hv.cell]; simpa using hj
  have H1 : Hid (∀ u ∈ vs, u.oneCell' = true) := h1v
  obtain ⟨b, cap, rfl, hc1, hc2⟩ := hsl
  unfold maxLen at hc2
  obtain ⟨i0, hi, hz0, hz1, hz2⟩ := info_parts infoS
  clear hown hv h1v
  generalize hob : (Value.slice b n cap).ownBlock = ob
  have OB : Hid ((Value.slice b n cap).ownBlock = ob) := hob
  clear hob
  go_enter Tryz.func175, Tryz.ntmps175
  go_wp2_with (at_builtin; refine wpList_append_lies _ rfl _ _ 84 rfl 0 166 i0 _ 3 32 Tryz.underlying84 hi hz0 hz1 hz2 rfl (by decide) (.slice b n cap) n cs rfl HO.out ⟨vb, 0, none⟩ 1 1 vs rfl (by omega) hcell.out H1.out (by omega) (by unfold maxLen; omega) (by omega) (by omega) _ rfl ?_; intro g3 cap3 w3 hown3 hgrow3 hat3 hlt3; rw [OB.out] at hgrow3 hat3)
  all_goals (
    go_ret
    exact ⟨g3, cap3, rfl, hown3, hgrow3, or_le hat3, hlt3⟩)

set_option maxRecDepth 100000 in
set_option maxHeartbeats 4000000 in
theorem insInS (cs vs : List Value) (n i : Nat) (g cap : Nat) (cur : Array Value) (vb : Nat) (w : World) (hi : i < n) (hn : n ≤ 1000) (hg : Blk w g cur 166) (hcur : cur.size = cap * 3) (hcs : cur.toList.take (n * 3) = cs) (hroom : n + 1 ≤ cap) (hcm : cap ≤ 9223372036854775807)
    (hvl : vs.length = 3) (hv : Blk w vb vs.toArray 166) (hvb : vb ≠ g) (h1v : ∀ u ∈ vs, u.oneCell' = true) (h1c : ∀ u ∈ cs, u.oneCell' = true) :
    Calls Tryz.prog 175 #[.slice (some ⟨g, 0, none⟩) n cap, .int .i64 i, .slice (some ⟨vb, 0, none⟩) 1 1] w fun e w' => e = .returned (.slice (some ⟨g, 0, none⟩) (n + 1) cap) ∧ w' = (w.drew.setCells g ((i + 1) * 3) (cs.drop (i * 3))).setCells g (i * 3) vs := by
  have hcl : cs.length = n * 3 := by rw [← hcs]; simp [hcur]; omega
  have hz2 : ¬ ((i : Int) = (n : Int)) := by omega
  have hov : ∀ lb cb, (callFunc 204 #[.slice (some ⟨vb, 0, none⟩) 1 1, .slice (some ⟨g, (i + 1) * 3, none⟩) lb cb]).run Tryz.prog w = .ok (.value (.bool false)) w := fun lb cb => by
    rw [run_callFunc_extern Tryz.func204 (by kernel_rfl) (by kernel_rfl) (by kernel_rfl) (e := Extern.SlicesOverlaps.overlaps #[84, 84] #[4]) (by kernel_rfl),
      Lib.run_overlaps_apart w 84 4 166 Tryz.underlying84 3 Tryz.sizeOf166 ⟨vb, 0, none⟩ ⟨g, (i + 1) * 3, none⟩ 1 1 lb cb hvb 166 166 vs.length cur.size (by unfold Blk at hv; simp [World.shape?, hv]) (by unfold Blk at hg; simp [World.shape?, hg]) (by omega) (hv.frozen 0) (hv.frozen _)]
    rfl
  have hdl : (cs.drop (i * 3)).length = (n - i) * 3 := by rw [List.length_drop, hcl]; omega
  have hcell : ∀ j u, cs[j]? = some u → w.cell? ⟨g, j, none⟩ = some u := fun j u hj => by
    rw [hg.cell, ← Array.getElem?_toList, ← hj, ← hcs, List.getElem?_take]
    rw [← hcs, List.getElem?_take] at hj
    split at hj
    · rename_i h; rw [if_pos h]
    · cases hj
  have hsp : ∀ j, j < (n + 1) * 3 → (w.cell? ⟨g, j, none⟩).isSome = true := fun j hj => by rw [hg.cell, Array.getElem?_eq_getElem (by omega)]; rfl
  have hcp1 : ∀ ty dc sc, (Builtin.copy_ #[84, 84] ty #[.slice (some ⟨g, (i + 1) * 3, none⟩) (n - i) dc, .slice (some ⟨g, i * 3, none⟩) (n + 1 - i) sc]).run Tryz.prog w.drew = .ok (goInt (n - i : Nat)) (w.drew.setCells g ((i + 1) * 3) (cs.drop (i * 3))) := fun ty dc sc =>
    run_copy_k w.drew _ _ ty 166 3 g ((i + 1) * 3) (n - i) dc ⟨g, i * 3, none⟩ (n + 1 - i) sc (cs.drop (i * 3)) Tryz.underlying84 sizeS (n - i) (by simp only [Nat.min_def]; split <;> omega) hdl
      (fun j u hj => by rw [Addr.add_lit]; exact hcell _ u (by rwa [List.getElem?_drop] at hj))
      (fun j hj => hsp _ (by omega)) (fun j hj => hg.frozen _) (fun u hu => h1c u (List.mem_of_mem_drop hu))
  obtain ⟨W1, hW1⟩ : ∃ W1, W1 = w.drew.setCells g ((i + 1) * 3) (cs.drop (i * 3)) := ⟨_, rfl⟩
  have hg1 : Blk W1 g (putL cur.toList ((i + 1) * 3) (cs.drop (i * 3))).toArray 166 := by rw [hW1]; exact Blk.sets (w := w.drew) _ _ hg (by rw [hdl]; omega)
  have hs1 : (putL cur.toList ((i + 1) * 3) (cs.drop (i * 3))).length = cap * 3 := by rw [putL_len _ _ _ (by rw [hdl]; simp; omega)]; simpa using hcur
  have hv1 : Blk W1 vb vs.toArray 166 := by rw [hW1]; exact ((sets_other g _ _ w.drew).2.2.2.2 vb hvb).trans hv
  have hcp2 : ∀ (W : World), W.heap = W1.heap → ∀ ty dc, (Builtin.copy_ #[84, 84] ty #[.slice (some ⟨g, i * 3, none⟩) (n + 1 - i) dc, .slice (some ⟨vb, 0, none⟩) 1 1]).run Tryz.prog W = .ok (goInt (1 : Nat)) (W.setCells g (i * 3) vs) := fun W hW ty dc => by
    have hgW : Blk W g (putL cur.toList ((i + 1) * 3) (cs.drop (i * 3))).toArray 166 := by unfold Blk; rw [hW]; exact hg1
    have hvW : Blk W vb vs.toArray 166 := by unfold Blk; rw [hW]; exact hv1
    exact run_copy_k W _ _ ty 166 3 g (i * 3) (n + 1 - i) dc ⟨vb, 0, none⟩ 1 1 vs Tryz.underlying84 sizeS 1 (by simp only [Nat.min_def]; split <;> omega) (by omega)
      (fun j u hj => by rw [Addr.add_lit, hvW.cell]; simpa using hj)
      (fun j hj => by rw [hgW.cell, Array.getElem?_eq_getElem (by simp [hs1]; omega)]; rfl) (fun j hj => hgW.frozen _) h1v
  rw [← hW1] at hcp1 ⊢
  have hcpB := hcp2 W1 rfl
  have HW : Hid (W1 = w.drew.setCells g ((i + 1) * 3) (cs.drop (i * 3))) := hW1
  clear hW1
  have hw1 : IntKind.i64.wrap ((i : Int) + 1) = (i : Int) + 1 := by rw [IntKind.wrap_i64]; omega
  have hb1 : (0 : Int) ≤ (i : Int) + 1 := by omega
  have htn : ((i : Int) + 1).toNat = i + 1 := by omega
  have hb2 : ¬ (cap = i + 1) := by omega
  have hb3 : (i : Int) ≤ (n : Int) + 1 := by omega
  have hb4 : ¬ (cap = i) := by omega
  have hin : i ≤ n := by omega
  clear hcp2 hg hg1 hv hv1 hcell hsp hdl hcl hcs hcur hs1 h1v h1c
  go_enter Tryz.func175, Tryz.ntmps175
  go_wp2_with (simp only [hov])
  go_region
  go_wp2
  go_ret
  exact ⟨rfl, rfl⟩

set_option maxRecDepth 100000 in
set_option maxHeartbeats 4000000 in
theorem insGrowS (cs vs : List Value) (n i : Nat) (g cap : Nat) (cur : Array Value) (vb : Nat) (w : World) (hi : i < n) (hn : n ≤ 1000) (hg : Blk w g cur 166) (hcur : cur.size = cap * 3) (hcs : cur.toList.take (n * 3) = cs) (hnc : n ≤ cap) (hroom : cap < n + 1)
    (hvl : vs.length = 3) (hv : Blk w vb vs.toArray 166) (h1v : ∀ u ∈ vs, u.oneCell' = true) (h1c : ∀ u ∈ cs, u.oneCell' = true) :
    Calls Tryz.prog 175 #[.slice (some ⟨g, 0, none⟩) n cap, .int .i64 i, .slice (some ⟨vb, 0, none⟩) 1 1] w fun e w' => ∃ c', e = .returned (.slice (some ⟨w.heap.size, 0, none⟩) (n + 1) c') ∧ w'.ownsRow 0 166 3 (.slice (some ⟨w.heap.size, 0, none⟩) (n + 1) c') (n + 1) (cs.take (i * 3) ++ vs ++ cs.drop (i * 3)) ∧ w.grownBy w' none ∧ w.heap.size < w'.heap.size := by
  have hcl : cs.length = n * 3 := by rw [← hcs]; simp [hcur]; omega
  obtain ⟨i0, hi0, hz0, hzs, hzb⟩ := info_parts infoS
  have hcell : ∀ j u, cs[j]? = some u → w.cell? ⟨g, j, none⟩ = some u := fun j u hj => by
    rw [hg.cell, ← Array.getElem?_toList, ← hj, ← hcs, List.getElem?_take]
    rw [← hcs, List.getElem?_take] at hj
    split at hj
    · rename_i h; rw [if_pos h]
    · cases hj
  have hdl : (cs.drop (i * 3)).length = (n - i) * 3 := by rw [List.length_drop, hcl]; omega
  have htl : (cs.take (i * 3)).length = i * 3 := by rw [List.length_take, hcl]; omega
  have hold : (Builtin.firstCells i0.size i (.slice (some ⟨g, 0, none⟩) i cap)).run Tryz.prog w.drew = .ok (cs.take (i * 3)).toArray w.drew := by
    rw [hzs]
    exact run_firstCells_some w.drew 3 i ⟨g, 0, none⟩ i cap (cs.take (i * 3)) htl (fun j v hj => by
      rw [Addr.add_lit, Nat.zero_add]
      rw [List.getElem?_take] at hj
      split at hj
      · exact hcell j v hj
      · cases hj)
  obtain ⟨G, hG⟩ : ∃ G, G = grownCap w (n + 1) cap 166 := ⟨_, rfl⟩
  have hGn : n + 1 ≤ G := by rw [hG]; exact grownCap_ge w _ _ _
  have hGm : G ≤ maxLen := by rw [hG]; exact grownCap_le_maxLen w (n + 1) cap _ (by unfold maxLen; omega)
  obtain ⟨Z, hZ⟩ : ∃ Z : Array Value, Z = Builtin.zeroCells (.agg #[.int .u32 0, .int .i64 0, .string ByteArray.empty] : Value).cells (n + 1 - i) ++ Builtin.zeroCells (.agg #[.int .u32 0, .int .i64 0, .string ByteArray.empty] : Value).cells (G - (n + 1)) := ⟨_, rfl⟩
  have hZs : Z.size = (G - i) * 3 := by rw [hZ]; simp [Builtin.zeroCells, Value.cells]; omega
  obtain ⟨W1, hW1⟩ : ∃ W1, W1 = w.drew.alloc (.cells ((cs.take (i * 3)).toArray ++ Z) 166) := ⟨_, rfl⟩
  have hrz : ∀ ty, (Builtin.append_ #[84, 3] ty #[.slice (some ⟨g, 0, none⟩) i cap, .int .i64 ((n : Int) + 1 - (i : Int))]).run Tryz.prog w = .ok (.slice (some ⟨w.heap.size, 0, none⟩) (n + 1) G) W1 := fun ty => by
    have h := Lib.run_append_grow_zeros w 84 3 ty 166 i0 _ .i64 .i64 Tryz.underlying84 Tryz.underlying3 hi0 hz0 (some ⟨g, 0, none⟩) i cap (cs.take (i * 3)) hold (n + 1 - i) (by omega) (by omega) (by omega) (by omega) (by rw [hzb]; omega) (by rw [hzb, show i + (n + 1 - i) = n + 1 by omega]; exact growslice_fits hroom (by omega))
    rw [show i + (n + 1 - i) = n + 1 by omega, ← hG] at h
    rw [show (n : Int) + 1 - (i : Int) = ((n + 1 - i : Nat) : Int) by omega, h, hW1, hZ, Array.append_assoc]
  have b1 : Blk W1 w.heap.size ((cs.take (i * 3)).toArray ++ Z) 166 := by rw [hW1]; exact Blk.new w.drew _ _
  have z1 : ((cs.take (i * 3)).toArray ++ Z).size = G * 3 := by rw [Array.size_append, hZs]; simp only [List.size_toArray, htl]; omega
  have hb1 : Below w.heap.size w W1 := by rw [hW1]; exact ((Below.refl _ w).drew).alloc (Nat.le_refl _) _
  have v1 : Blk W1 vb vs.toArray 166 := hv.below hb1
  have g1 : Blk W1 g cur 166 := hg.below hb1
  have hgw := hg.lt
  have hvw := hv.lt
  obtain ⟨W2, hW2⟩ : ∃ W2, W2 = W1.setCells w.heap.size (i * 3) vs := ⟨_, rfl⟩
  have hcp1 : ∀ ty dc, (Builtin.copy_ #[84, 84] ty #[.slice (some ⟨w.heap.size, i * 3, none⟩) (n + 1 - i) dc, .slice (some ⟨vb, 0, none⟩) 1 1]).run Tryz.prog W1 = .ok (goInt (1 : Nat)) W2 := fun ty dc => by
    rw [hW2]
    exact run_copy_k W1 _ _ ty 166 3 w.heap.size (i * 3) (n + 1 - i) dc ⟨vb, 0, none⟩ 1 1 vs Tryz.underlying84 sizeS 1 (by simp only [Nat.min_def]; split <;> omega) (by omega)
      (fun j u hj => by rw [Addr.add_lit, v1.cell]; simpa using hj)
      (fun j hj => by rw [b1.cell, Array.getElem?_eq_getElem (by rw [z1]; omega)]; rfl) (fun j hj => b1.frozen _) h1v
  have b2 := Blk.sets vs (i * 3) b1 (by rw [z1]; omega)
  rw [← hW2] at b2
  have z2 : (putL ((cs.take (i * 3)).toArray ++ Z).toList (i * 3) vs).length = G * 3 := by
    have hx : ((cs.take (i * 3)).toArray ++ Z).toList.length = G * 3 := by rw [Array.length_toList, z1]
    rw [putL_len _ _ _ (by rw [hx]; omega), hx]
  have g2 : Blk W2 g cur 166 := by rw [hW2]; exact ((sets_other w.heap.size _ _ W1).2.2.2.2 g (by omega)).trans g1
  obtain ⟨W3, hW3⟩ : ∃ W3, W3 = W2.drew.setCells w.heap.size ((i + 1) * 3) (cs.drop (i * 3)) := ⟨_, rfl⟩
  have hcp2 : ∀ ty dc sc, (Builtin.copy_ #[84, 84] ty #[.slice (some ⟨w.heap.size, (i + 1) * 3, none⟩) (n - i) dc, .slice (some ⟨g, i * 3, none⟩) (n - i) sc]).run Tryz.prog W2.drew = .ok (goInt (n - i : Nat)) W3 := fun ty dc sc => by
    rw [hW3]
    exact run_copy_k W2.drew _ _ ty 166 3 w.heap.size ((i + 1) * 3) (n - i) dc ⟨g, i * 3, none⟩ (n - i) sc (cs.drop (i * 3)) Tryz.underlying84 sizeS (n - i) (by simp) hdl
      (fun j u hj => by
        rw [Addr.add_lit]
        have h1 := hcell (i * 3 + j) u (by rwa [List.getElem?_drop] at hj)
        rw [hg.cell] at h1
        exact (Blk.cell (w := W2.drew) g2 _).trans h1)
      (fun j hj => by rw [Blk.cell (w := W2.drew) b2, Array.getElem?_eq_getElem (by rw [List.size_toArray, z2]; omega)]; rfl) (fun j hj => Blk.frozen (w := W2.drew) b2 _) (fun u hu => h1c u (List.mem_of_mem_drop hu))
  have b3 := Blk.sets (w := W2.drew) (cs.drop (i * 3)) ((i + 1) * 3) b2 (by rw [List.size_toArray, z2]; omega)
  rw [← hW3] at b3
  have hrow : putL (putL ((cs.take (i * 3)).toArray ++ Z).toList (i * 3) vs) ((i + 1) * 3) (cs.drop (i * 3)) = cs.take (i * 3) ++ vs ++ cs.drop (i * 3) ++ Z.toList.drop (3 + (cs.drop (i * 3)).length) := by
    have := growRow (cs.take (i * 3)) (cs.drop (i * 3)) Z.toList vs 3 hvl (by rw [hdl, Array.length_toList, hZs]; omega)
    rw [htl] at this
    rw [Array.toList_append, show (i + 1) * 3 = i * 3 + 3 by omega]
    exact this
  have hend : Hid (W3.ownsRow 0 166 3 (.slice (some ⟨w.heap.size, 0, none⟩) (n + 1) G) (n + 1) (cs.take (i * 3) ++ vs ++ cs.drop (i * 3)) ∧ w.grownBy W3 none ∧ w.heap.size < W3.heap.size) := by
    refine ⟨⟨by simp [htl, hvl, hdl]; omega, .inr ⟨_, G, _, rfl, Nat.zero_le _, b3, hGn, hGm, ?_, ?_⟩⟩, ?_, b3.lt⟩
    · rw [List.size_toArray, hrow]; simp [htl, hvl, hdl, hZs]; omega
    · rw [List.toList_toArray, hrow]; exact List.take_left' (by simp [htl, hvl, hdl]; omega)
    · rw [hW3]
      refine grown_sets (grown_drew ?_) _ _ _ (.inr (Nat.le_refl _))
      rw [hW2]
      refine grown_sets ?_ _ _ _ (.inr (Nat.le_refl _))
      rw [hW1]
      exact ⟨rfl, rfl, rfl, by simp, fun k hk _ => Below.heap_alloc w.drew _ k hk⟩
  have hG63 : G ≤ 9223372036854775807 := by unfold maxLen at hGm; omega
  have hz2 : ¬ ((i : Int) = (n : Int)) := by omega
  have hz3 : (cap : Int) < (n : Int) + 1 := by omega
  have hw1 : IntKind.i64.wrap ((i : Int) + 1) = (i : Int) + 1 := by rw [IntKind.wrap_i64]; omega
  have hp1 : (0 : Int) ≤ (i : Int) + 1 := by omega
  have htn : ((i : Int) + 1).toNat = i + 1 := by omega
  have hb2 : ¬ (G = i + 1) := by omega
  have hb4 : ¬ (G = i) := by omega
  have hb5 : ¬ (cap = i) := by omega
  have hin : i ≤ n := by omega
  clear hG hGn hGm hZ hZs hW1 hW2 hW3 hold b1 b2 b3 z1 z2 g1 g2 v1 hrow hb1 hg hv hcell hdl htl hcl hcs hcur h1v h1c hzs hzb hz0 hi0
  go_enter Tryz.func175, Tryz.ntmps175
  go_wp2_with (at_builtin; refine Lib.wpList_append_run _ rfl _ _ _ _ rfl _ _ rfl rfl _ _ (hrz _) ?_)
  go_region
  go_wp2
  go_ret
  exact ⟨G, rfl, hend.out⟩

set_option maxRecDepth 100000 in
set_option maxHeartbeats 4000000 in
theorem delS (cs : List Value) (m i : Nat) (g cap : Nat) (cur : Array Value) (w : World) (hi : i < m + 1) (hn : m ≤ 1000) (hg : Blk w g cur 166) (hcur : cur.size = cap * 3) (hcs : cur.toList.take ((m + 1) * 3) = cs) (hnc : m + 1 ≤ cap) (hcm : cap ≤ maxLen) (h1c : ∀ u ∈ cs, u.oneCell' = true) :
    Calls Tryz.prog 94 #[.slice (some ⟨g, 0, none⟩) (m + 1) cap, .int .i64 i, .int .i64 ((i : Int) + 1)] w fun e w' => e = .returned (.slice (some ⟨g, 0, none⟩) m cap) ∧ w'.ownsRow 0 166 3 (.slice (some ⟨g, 0, none⟩) m cap) m (cs.take (i * 3) ++ cs.drop ((i + 1) * 3)) ∧ w.grownBy w' (some g) := by
  have hcl : cs.length = (m + 1) * 3 := by rw [← hcs]; simp [hcur]; omega
  obtain ⟨i0, hi0, hz0, hzs, hzb⟩ := info_parts infoS
  have hcell : ∀ j u, cs[j]? = some u → w.cell? ⟨g, j, none⟩ = some u := fun j u hj => by
    rw [hg.cell, ← Array.getElem?_toList, ← hj, ← hcs, List.getElem?_take]
    rw [← hcs, List.getElem?_take] at hj
    split at hj
    · rename_i h; rw [if_pos h]
    · cases hj
  have hdl : (cs.drop ((i + 1) * 3)).length = (m - i) * 3 := by rw [List.length_drop, hcl]; omega
  have htl : (cs.take (i * 3)).length = i * 3 := by rw [List.length_take, hcl]; omega
  obtain ⟨W1, hW1⟩ : ∃ W1, W1 = w.drew.setCells g (i * 3) (cs.drop ((i + 1) * 3)) := ⟨_, rfl⟩
  obtain ⟨A, hA, hsrc⟩ : ∃ A : Addr, (if cap = i + 1 then some (⟨g, 0, none⟩ : Addr) else some ⟨g, (i + 1) * 3, none⟩) = some A ∧ Hid (∀ t u, (cs.drop ((i + 1) * 3))[t]? = some u → w.drew.cell? (A.add t) = some u) := by
    by_cases h : cap = i + 1
    · refine ⟨_, if_pos h, fun t u hu => ?_⟩
      have h0 : (cs.drop ((i + 1) * 3)).length = 0 := by rw [hdl]; omega
      rw [List.length_eq_zero_iff.1 h0] at hu
      simp at hu
    · refine ⟨_, if_neg h, fun t u hu => ?_⟩
      rw [Addr.add_lit]
      exact hcell _ u (by rwa [List.getElem?_drop] at hu)
  have s1 : Hid ((cs.drop ((i + 1) * 3)).length = (m - i) * 3) := hdl
  have s2 : Hid (∀ u ∈ cs.drop ((i + 1) * 3), u.oneCell' = true) := fun u hu => h1c u (List.mem_of_mem_drop hu)
  have s3 : Hid (∀ t, t < (cs.drop ((i + 1) * 3)).length → (w.drew.cell? ⟨g, 0 + i * 3 + t, none⟩).isSome = true ∧ w.drew.frozen? ⟨g, 0 + i * 3 + t, none⟩ = false) := fun t ht => by
    rw [hdl] at ht
    exact ⟨by rw [Blk.cell (w := w.drew) hg, Array.getElem?_eq_getElem (by omega)]; rfl, Blk.frozen (w := w.drew) hg _⟩
  have HW : Hid (W1 = w.drew.setCells g (0 + i * 3) (cs.drop ((i + 1) * 3))) := by rw [Nat.zero_add]; exact hW1
  have b1 : Blk W1 g (putL cur.toList (i * 3) (cs.drop ((i + 1) * 3))).toArray 166 := by rw [hW1]; exact Blk.sets (w := w.drew) _ _ hg (by rw [hdl]; omega)
  have z1 : (putL cur.toList (i * 3) (cs.drop ((i + 1) * 3))).length = cap * 3 := by rw [putL_len _ _ _ (by rw [hdl]; simp; omega)]; simpa using hcur
  obtain ⟨W2, hW2⟩ : ∃ W2, W2 = W1.setCells g (m * 3) (.agg #[.int .u32 0, .int .i64 0, .string ByteArray.empty] : Value).cells.toList := ⟨_, rfl⟩
  have hcr : ∀ ty c, (Builtin.clear_ #[84] ty #[.slice (some ⟨g, m * 3, none⟩) 1 c]).run Tryz.prog W1 = .ok (.tuple #[]) W2 := fun ty c => by
    rw [hW2]
    exact run_clear_one W1 84 166 ty (.agg #[.int .u32 0, .int .i64 0, .string ByteArray.empty]) Tryz.underlying84 (fun w => by rw [Tryz.zeroValue166]; rfl) g (m * 3) c
      (fun j hj => by simp [Value.cells] at hj; rw [b1.cell, Array.getElem?_eq_getElem (by rw [List.size_toArray, z1]; omega)]; rfl) (fun j hj => b1.frozen _) (by intro u hu; simp [Value.cells] at hu; rcases hu with rfl | rfl | rfl <;> rfl)
  have b2 := Blk.sets (.agg #[.int .u32 0, .int .i64 0, .string ByteArray.empty] : Value).cells.toList (m * 3) b1 (by rw [List.size_toArray, z1]; simp [Value.cells]; omega)
  rw [← hW2] at b2
  have hrow : putL (putL cur.toList (i * 3) (cs.drop ((i + 1) * 3))) (m * 3) (.agg #[.int .u32 0, .int .i64 0, .string ByteArray.empty] : Value).cells.toList = cs.take (i * 3) ++ cs.drop ((i + 1) * 3) ++ (.agg #[.int .u32 0, .int .i64 0, .string ByteArray.empty] : Value).cells.toList ++ cur.toList.drop ((m + 1) * 3) := by
    have hM : ((cs.drop (i * 3)).take 3).length = 3 := by simp [hcl]; omega
    have := delRow (cs.take (i * 3)) ((cs.drop (i * 3)).take 3) (cs.drop ((i + 1) * 3)) (cur.toList.drop ((m + 1) * 3)) (.agg #[.int .u32 0, .int .i64 0, .string ByteArray.empty] : Value).cells.toList 3 hM (by simp [Value.cells])
    have e : cs.take (i * 3) ++ (cs.drop (i * 3)).take 3 ++ cs.drop ((i + 1) * 3) ++ cur.toList.drop ((m + 1) * 3) = cur.toList := by
      rw [show cs.drop ((i + 1) * 3) = (cs.drop (i * 3)).drop 3 by rw [List.drop_drop]; congr 1; omega, List.append_assoc (cs.take (i * 3)), List.take_append_drop, List.take_append_drop, ← hcs, List.take_append_drop]
    rw [e, htl, hdl, show i * 3 + (m - i) * 3 = m * 3 by omega] at this
    exact this
  have hend : Hid (W2.ownsRow 0 166 3 (.slice (some ⟨g, 0, none⟩) m cap) m (cs.take (i * 3) ++ cs.drop ((i + 1) * 3)) ∧ w.grownBy W2 (some g)) := by
    refine ⟨⟨by simp [htl, hdl]; omega, .inr ⟨g, cap, _, rfl, Nat.zero_le _, b2, by omega, hcm, ?_, ?_⟩⟩, ?_⟩
    · rw [List.size_toArray, putL_len _ _ _ (by rw [z1]; simp [Value.cells]; omega), z1]
    · rw [List.toList_toArray, hrow, List.append_assoc]; exact List.take_left' (by simp [htl, hdl]; omega)
    · rw [hW2]
      refine grown_sets ?_ _ _ _ (.inl rfl)
      rw [hW1]
      exact grown_sets (grown_drew (grown_refl _ _)) _ _ _ (.inl rfl)
  have hw1 : IntKind.i64.wrap ((i : Int) + 1) = (i : Int) + 1 := by rw [IntKind.wrap_i64]; omega
  have hp1 : (0 : Int) ≤ (i : Int) + 1 := by omega
  have htn : ((i : Int) + 1).toNat = i + 1 := by omega
  have hb1 : ¬ (cap = m) := by omega
  have hb3 : (i : Int) ≤ (i : Int) + 1 := by omega
  have hb4 : (i : Int) + 1 ≤ (m : Int) + 1 := by omega
  have hb6 : i + 1 ≤ m + 1 := by omega
  have hb7 : m ≤ cap := by omega
  have hb8 : i ≤ cap := by omega
  have hc63 : cap ≤ 9223372036854775807 := by unfold maxLen at hcm; omega
  have hmi : i + (m - i) = m := by omega
  clear hW1 hW2 b1 b2 z1 hrow hg hcell hdl htl hcl hcs hcur h1c hzb hz0
  go_enter Tryz.func94, Tryz.ntmps94
  go_wp2
  go_region_law (refine step_append_room rfl (.tmp 22) (.tmp 25) 84 rfl 166 i0 3 Tryz.underlying84 hi0 hzs g 0 i cap (by simp [Act.eval, Act.put]) A (m - i) (cap - (i + 1)) (cs.drop ((i + 1) * 3)) (by simp [Act.eval, Act.put]) s1.out hsrc.out s2.out (by omega) s3.out ?_; rw [← HW.out, hmi])
  go_wp2
  go_ret
  exact ⟨rfl, hend.out⟩

theorem insrS (cs vs : List Value) (n i : Nat) (v : Value) (vb : Nat) (w : World) (hown : w.ownsRow 0 166 3 v n cs) (hi : i ≤ n) (hn : n ≤ 1000) (hvl : vs.length = 3) (hv : Blk w vb vs.toArray 166) (hvb : v.ownBlock ≠ some vb) (h1v : ∀ u ∈ vs, u.oneCell' = true) (h1c : ∀ u ∈ cs, u.oneCell' = true) :
    Calls Tryz.prog 175 #[v, .int .i64 i, .slice (some ⟨vb, 0, none⟩) 1 1] w fun e w' => ∃ g cap, e = .returned (.slice (some ⟨g, 0, none⟩) (n + 1) cap) ∧ w'.ownsRow 0 166 3 (.slice (some ⟨g, 0, none⟩) (n + 1) cap) (n + 1) (cs.take (i * 3) ++ vs ++ cs.drop (i * 3)) ∧ w.grownBy w' v.ownBlock ∧ (v.ownBlock = some g ∨ w.heap.size ≤ g) ∧ g < w'.heap.size := by
  by_cases he : i = n
  · subst he
    have e : cs.take (i * 3) ++ vs ++ cs.drop (i * 3) = cs ++ vs := by rw [List.take_of_length_le (by rw [hown.1]; omega), List.drop_eq_nil_of_le (by rw [hown.1]; omega), List.append_nil]
    rw [e]
    exact insEndS cs vs i v vb w hown hn hvl hv h1v
  · have hlt : i < n := by omega
    have h0 := hown.1
    rcases hown.2 with ⟨rfl, e⟩ | ⟨g, cap, cur, rfl, _, hg, h1, h2, h3, h4⟩
    · omega
    · by_cases hroom : n + 1 ≤ cap
      · have hne : vb ≠ g := fun e => hvb (by rw [e]; rfl)
        refine (insInS cs vs n i g cap cur vb w hlt hn hg h3 h4 hroom (by unfold maxLen at h2; omega) hvl hv hne h1v h1c).mono ?_
        rintro e w' ⟨rfl, rfl⟩
        have hdl : (cs.drop (i * 3)).length = (n - i) * 3 := by rw [List.length_drop, h0]; omega
        have htl : (cs.take (i * 3)).length = i * 3 := by rw [List.length_take, h0]; omega
        have hx : cur.toList.length = cap * 3 := by rw [Array.length_toList, h3]
        have b1 := Blk.sets (w := w.drew) (cs.drop (i * 3)) ((i + 1) * 3) hg (by rw [h3, hdl]; omega)
        have z1 : (putL cur.toList ((i + 1) * 3) (cs.drop (i * 3))).length = cap * 3 := by rw [putL_len _ _ _ (by rw [hdl, hx]; omega), hx]
        have b2 := Blk.sets vs (i * 3) b1 (by rw [List.size_toArray, z1]; omega)
        have hrow : putL (putL cur.toList ((i + 1) * 3) (cs.drop (i * 3))) (i * 3) vs = cs.take (i * 3) ++ vs ++ cs.drop (i * 3) ++ (cur.toList.drop (n * 3)).drop 3 := by
          have := insRow (cs.take (i * 3)) (cs.drop (i * 3)) (cur.toList.drop (n * 3)) vs 3 hvl (by rw [List.length_drop, hx]; omega)
          rw [List.take_append_drop, ← h4, List.take_append_drop, h4, htl, show i * 3 + 3 = (i + 1) * 3 by omega] at this
          exact this
        refine ⟨g, cap, rfl, ⟨by simp [htl, hvl, hdl]; omega, .inr ⟨g, cap, _, rfl, Nat.zero_le _, b2, hroom, h2, ?_, ?_⟩⟩, grown_sets (grown_sets (grown_drew (grown_refl _ _)) _ _ _ (.inl rfl)) _ _ _ (.inl rfl), .inl rfl, b2.lt⟩
        · rw [List.size_toArray, putL_len _ _ _ (by rw [z1]; omega), z1]
        · rw [List.toList_toArray, hrow]; exact List.take_left' (by simp [htl, hvl, hdl]; omega)
      · refine (insGrowS cs vs n i g cap cur vb w hlt hn hg h3 h4 h1 (by omega) hvl hv h1v h1c).mono ?_
        rintro e w' ⟨c', rfl, o1, o2, o3⟩
        exact ⟨_, c', rfl, o1, ⟨o2.os, o2.tape, o2.output, o2.size, fun k hk _ => o2.block k hk (by simp)⟩, .inr (Nat.le_refl _), o3⟩
end Go.Proofs.YtlikdnmikdldfaaGreatDoor
namespace Go.Proofs.YtlikdnmikdldfaaGreatDoor
open Go.ChangeShapes Go.WideShapes Go.ChangeAt Go.RowKit
set_option linter.unusedVariables false
set_option linter.unusedSimpArgs false

theorem owns_below {w w' : World} {B : Nat} {t : TypeId} {k : Nat} {v : Value} {n : Nat} {xs : List Value} (h : w.ownsRow B t k v n xs) (hb : Below w.heap.size w w') : w'.ownsRow B t k v n xs := by
  refine ⟨h.1, ?_⟩
  rcases h.2 with hn | ⟨g, cap, cur, rfl, h1, hg, rest⟩
  · exact .inl hn
  · exact .inr ⟨g, cap, cur, rfl, h1, (hb.block g (Array.getElem?_eq_some_iff.1 hg).1).trans hg, rest⟩
theorem grown_below {w W w' : World} {row : Option Nat} (hb : Below w.heap.size w W) (h : W.grownBy w' row) : w.grownBy w' row :=
  ⟨h.os.trans hb.os, h.tape.trans hb.tape, h.output.trans hb.output, Nat.le_trans hb.size h.size, fun k hk hr => (h.block k (Nat.lt_of_lt_of_le hk hb.size) hr).trans (hb.block k hk)⟩
theorem take_flat {α : Type} {k : Nat} {enc : α → List Value} (hk : ∀ x, (enc x).length = k) (l : List α) (i : Nat) : (l.flatMap enc).take (i * k) = (l.take i).flatMap enc := by
  induction l generalizing i with
  | nil => simp
  | cons x r ih =>
    cases i with
    | zero => simp
    | succ i => rw [List.flatMap_cons, List.take_succ_cons, List.flatMap_cons, ← ih i, Nat.succ_mul, List.take_append, hk]; congr 1; exact List.take_of_length_le (by rw [hk]; omega); congr 1; omega
theorem drop_flat {α : Type} {k : Nat} {enc : α → List Value} (hk : ∀ x, (enc x).length = k) (l : List α) (i : Nat) : (l.flatMap enc).drop (i * k) = (l.drop i).flatMap enc := by
  induction l generalizing i with
  | nil => simp
  | cons x r ih =>
    cases i with
    | zero => simp
    | succ i => rw [List.flatMap_cons, List.drop_succ_cons, ← ih i, Nat.succ_mul, List.drop_append, hk, List.drop_eq_nil_of_le (by rw [hk]; omega), List.nil_append]; congr 1; omega
theorem oneH (l : List Hd) : ∀ u ∈ l.flatMap encH, u.oneCell' = true := by
  intro u hu
  obtain ⟨h, _, hh⟩ := List.mem_flatMap.1 hu
  simp [encH] at hh
  rcases hh with rfl | rfl | rfl <;> rfl
theorem oneL (l : List Ls) : ∀ u ∈ l.flatMap encL, u.oneCell' = true := by
  intro u hu
  obtain ⟨h, _, hh⟩ := List.mem_flatMap.1 hu
  simp [encL] at hh
  rcases hh with rfl | rfl <;> rfl
/-- blocks of S alone are written -/
structure Chg (S : Nat → Prop) (w w' : World) : Prop where
  os : w'.os = w.os
  tape : w'.tape = w.tape
  output : w'.output = w.output
  size : w.heap.size ≤ w'.heap.size
  block : ∀ b, b < w.heap.size → ¬ S b → w'.heap[b]? = w.heap[b]?
theorem Chg.refl (S : Nat → Prop) (w : World) : Chg S w w := ⟨rfl, rfl, rfl, Nat.le_refl _, fun _ _ _ => rfl⟩
theorem Chg.below {S : Nat → Prop} {w w' : World} (h : Below w.heap.size w w') : Chg S w w' := ⟨h.os, h.tape, h.output, h.size, fun b hb _ => h.block b hb⟩
theorem Chg.trans {S S' : Nat → Prop} {w w' w'' : World} (h : Chg S w w') (k : Chg S' w' w'') (hs : ∀ b, S' b → S b ∨ w.heap.size ≤ b) : Chg S w w'' :=
  ⟨k.os.trans h.os, k.tape.trans h.tape, k.output.trans h.output, Nat.le_trans h.size k.size, fun b hb hS => (k.block b (Nat.lt_of_lt_of_le hb h.size) (fun hk => by rcases hs b hk with e | e; exact hS e; omega)).trans (h.block b hb hS)⟩
theorem Chg.mono {S S' : Nat → Prop} {w w' : World} (h : Chg S w w') (hs : ∀ b, S b → b < w.heap.size → S' b) : Chg S' w w' := ⟨h.os, h.tape, h.output, h.size, fun b hb hS => h.block b hb fun k => hS (hs b k hb)⟩
theorem Chg.grown {w w' : World} {row : Option Nat} {S : Nat → Prop} (h : w.grownBy w' row) (hs : ∀ b, row = some b → S b) : Chg S w w' := ⟨h.os, h.tape, h.output, h.size, fun b hb hS => h.block b hb fun e => hS (hs b e.symm)⟩
theorem Chg.sets {S : Nat → Prop} {w w' : World} (h : Chg S w w') (g o : Nat) (cs : List Value) (hg : S g ∨ w.heap.size ≤ g) : Chg S w (w'.setCells g o cs) := by
  obtain ⟨h1, h2, h3, h4, h5⟩ := sets_other g cs o w'
  refine ⟨h1.trans h.os, h2.trans h.tape, h3.trans h.output, by rw [h4]; exact h.size, fun k hk hS => ?_⟩
  have : k ≠ g := by rintro rfl; rcases hg with e | e; exact hS e; omega
  exact (h5 k this).trans (h.block k hk hS)

set_option maxRecDepth 100000 in
set_option maxHeartbeats 1000000 in
theorem insertP (l : List Hd) (h : Hd) (v : Value) (w : World) (hown : w.ownsRow 0 142 3 v l.length (l.flatMap encH)) (hs : Up Hd.a hd0 l) (hn : l.length ≤ 1000) :
    Calls Tryz.prog 80 #[v, vH h] w fun e w' => ∃ g cap, e = .returned (.slice (some ⟨g, 0, none⟩) (l.length + 1) cap) ∧ w'.ownsRow 0 142 3 (.slice (some ⟨g, 0, none⟩) (l.length + 1) cap) (l.length + 1) ((insH l h).flatMap encH) ∧ w.grownBy w' v.ownBlock ∧ (v.ownBlock = some g ∨ w.heap.size ≤ g) ∧ g < w'.heap.size := by
  have hk : ∀ x : Hd, (encH x).length = 3 := fun _ => rfl
  have hq : Hid (∀ w, Calls Tryz.prog 141 #[vH h] w fun e w' => e = .returned (.int .u32 h.a) ∧ Below w.heap.size w w') := fun w => hbase_any h w
  have hbs : Hid (∀ W, Below w.heap.size w W → ∃ fb, Calls Tryz.prog 122 #[v, .int .u32 h.a, .func (.func 123) #[] #[]] W fun e w' => e = .returned (.tuple #[.int .i64 (cntH l h.a : Nat), .bool fb]) ∧ Below W.heap.size W w') := fun W hW => ⟨_, bsP l h.a v W (Rd.of_owns hk hd0 (owns_below hown hW)) hs hn⟩
  have hle : cntH l h.a ≤ l.length := List.countP_le_length
  have hob : ∀ b, v.ownBlock = some b → b < w.heap.size := fun b e => by
    rcases hown.2 with ⟨rfl, _⟩ | ⟨g, cap, cur, rfl, _, hg, _⟩
    · cases e
    · obtain rfl : g = b := by simpa [Value.ownBlock] using e
      exact (Array.getElem?_eq_some_iff.1 hg).1
  have hin : Hid (∀ W vb, Below w.heap.size w W → w.heap.size ≤ vb → Blk W vb (encH h).toArray 142 → Calls Tryz.prog 125 #[v, .int .i64 (cntH l h.a : Nat), .slice (some ⟨vb, 0, none⟩) 1 1] W fun e w' => ∃ g cap, e = .returned (.slice (some ⟨g, 0, none⟩) (l.length + 1) cap) ∧ w'.ownsRow 0 142 3 (.slice (some ⟨g, 0, none⟩) (l.length + 1) cap) (l.length + 1) ((insH l h).flatMap encH) ∧ w.grownBy w' v.ownBlock ∧ (v.ownBlock = some g ∨ w.heap.size ≤ g) ∧ g < w'.heap.size) := fun W vb hW hvb hb => by
    refine (insrP (l.flatMap encH) (encH h) l.length (cntH l h.a) v vb W (owns_below hown hW) hle hn rfl hb (fun e => by have := hob vb e; omega) (by intro u hu; simp [encH] at hu; rcases hu with rfl | rfl | rfl <;> rfl) (oneH l)).mono ?_
    rintro e w' ⟨g, cap, rfl, o1, o2, o3, o4⟩
    refine ⟨g, cap, rfl, ?_, grown_below hW o2, ?_, o4⟩
    · rw [take_flat hk, drop_flat hk] at o1
      unfold insH
      rw [List.flatMap_append, List.flatMap_cons, ← List.append_assoc]
      exact o1
    · rcases o3 with o3 | o3
      · exact .inl o3
      · exact .inr (Nat.le_trans hW.size o3)
  obtain ⟨b0, cap0, hv⟩ : ∃ b c, v = .slice b l.length c := by
    rcases hown.2 with ⟨rfl, e⟩ | ⟨g, cap, cur, rfl, _⟩
    · exact ⟨none, 0, by rw [e]⟩
    · exact ⟨_, cap, rfl⟩
  subst hv
  clear hown hs
  generalize cntH l h.a = cn at hbs hin hle
  generalize l.length + 1 = nn at hin ⊢
  generalize (insH l h).flatMap encH = ll at hin ⊢
  obtain ⟨a, n, o⟩ := h
  unfold vH at hq
  unfold vH
  dsimp only at *
  go_enter Tryz.func80, Tryz.ntmps80
  go_wp2_with (first | (go_at_call 141; refine (hq.out _).mono ?_; rintro e w1 ⟨rfl, hb1⟩; have HB1 : Hid (Below w.heap.size w w1) := bup (by repeat' (first | with_reducible assumption | with_reducible exact Below.refl _ _ | with_reducible apply Below.drew | with_reducible apply below_drewN | with_reducible apply Below.setCell | with_reducible apply Below.alloc | omega | (simp; done) | (simp; omega))) hb1; have k0 : w1.cell? ⟨w.heap.size, 0, none⟩ = some (.int .u32 a) := (by rw [hb1.cell (p := ⟨w.heap.size, 0, none⟩) (by simp)]; simp [go_sem]); have k1 : w1.cell? ⟨w.heap.size, 1, none⟩ = some (.int .i64 n) := (by rw [hb1.cell (p := ⟨w.heap.size, 1, none⟩) (by simp)]; simp [go_sem]); have k2 : w1.cell? ⟨w.heap.size, 2, none⟩ = some (.string o) := (by rw [hb1.cell (p := ⟨w.heap.size, 2, none⟩) (by simp)]; simp [go_sem]); have z1 : w.heap.size < w1.heap.size := (by have := hb1.size; simp at this; omega); clear hb1) | (go_at_call 122; obtain ⟨fb, hfb⟩ := hbs.out _ HB1.out; refine hfb.mono ?_; clear hfb; rintro e w2 ⟨rfl, hb2⟩; have HB2 : Hid (Below w.heap.size w w2) := bup HB1.out hb2; have j0 : w2.cell? ⟨w.heap.size, 0, none⟩ = some (.int .u32 a) := (by rw [hb2.cell (p := ⟨w.heap.size, 0, none⟩) z1]; exact k0); have j1 : w2.cell? ⟨w.heap.size, 1, none⟩ = some (.int .i64 n) := (by rw [hb2.cell (p := ⟨w.heap.size, 1, none⟩) z1]; exact k1); have j2 : w2.cell? ⟨w.heap.size, 2, none⟩ = some (.string o) := (by rw [hb2.cell (p := ⟨w.heap.size, 2, none⟩) z1]; exact k2); have z2 : w.heap.size < w2.heap.size := (by have := hb2.size; omega); clear hb2 k0 k1 k2 z1) | (go_at_call 125; refine (hin.out _ _ (Below.alloc HB2.out HB2.out.size _) HB2.out.size (Blk.new w2 _ _)).mono ?_; rintro e w3 ⟨g3, cap3, rfl, o1, o2, o3, o4⟩))
  go_ret
  exact ⟨g3, cap3, rfl, o1, o2, o3, o4⟩

set_option maxRecDepth 100000 in
set_option maxHeartbeats 1000000 in
theorem insertS (l : List Hd) (h : Hd) (v : Value) (w : World) (hown : w.ownsRow 0 166 3 v l.length (l.flatMap encH)) (hs : Up Hd.a hd0 l) (hn : l.length ≤ 1000) :
    Calls Tryz.prog 130 #[v, vH h] w fun e w' => ∃ g cap, e = .returned (.slice (some ⟨g, 0, none⟩) (l.length + 1) cap) ∧ w'.ownsRow 0 166 3 (.slice (some ⟨g, 0, none⟩) (l.length + 1) cap) (l.length + 1) ((insH l h).flatMap encH) ∧ w.grownBy w' v.ownBlock ∧ (v.ownBlock = some g ∨ w.heap.size ≤ g) ∧ g < w'.heap.size := by
  have hk : ∀ x : Hd, (encH x).length = 3 := fun _ => rfl
  have hq : Hid (∀ w, Calls Tryz.prog 141 #[vH h] w fun e w' => e = .returned (.int .u32 h.a) ∧ Below w.heap.size w w') := fun w => hbase_any h w
  have hbs : Hid (∀ W, Below w.heap.size w W → ∃ fb, Calls Tryz.prog 173 #[v, .int .u32 h.a, .func (.func 174) #[] #[]] W fun e w' => e = .returned (.tuple #[.int .i64 (cntH l h.a : Nat), .bool fb]) ∧ Below W.heap.size W w') := fun W hW => ⟨_, bsS l h.a v W (Rd.of_owns hk hd0 (owns_below hown hW)) hs hn⟩
  have hle : cntH l h.a ≤ l.length := List.countP_le_length
  have hob : ∀ b, v.ownBlock = some b → b < w.heap.size := fun b e => by
    rcases hown.2 with ⟨rfl, _⟩ | ⟨g, cap, cur, rfl, _, hg, _⟩
    · cases e
    · obtain rfl : g = b := by simpa [Value.ownBlock] using e
      exact (Array.getElem?_eq_some_iff.1 hg).1
  have hin : Hid (∀ W vb, Below w.heap.size w W → w.heap.size ≤ vb → Blk W vb (encH h).toArray 166 → Calls Tryz.prog 175 #[v, .int .i64 (cntH l h.a : Nat), .slice (some ⟨vb, 0, none⟩) 1 1] W fun e w' => ∃ g cap, e = .returned (.slice (some ⟨g, 0, none⟩) (l.length + 1) cap) ∧ w'.ownsRow 0 166 3 (.slice (some ⟨g, 0, none⟩) (l.length + 1) cap) (l.length + 1) ((insH l h).flatMap encH) ∧ w.grownBy w' v.ownBlock ∧ (v.ownBlock = some g ∨ w.heap.size ≤ g) ∧ g < w'.heap.size) := fun W vb hW hvb hb => by
    refine (insrS (l.flatMap encH) (encH h) l.length (cntH l h.a) v vb W (owns_below hown hW) hle hn rfl hb (fun e => by have := hob vb e; omega) (by intro u hu; simp [encH] at hu; rcases hu with rfl | rfl | rfl <;> rfl) (oneH l)).mono ?_
    rintro e w' ⟨g, cap, rfl, o1, o2, o3, o4⟩
    refine ⟨g, cap, rfl, ?_, grown_below hW o2, ?_, o4⟩
    · rw [take_flat hk, drop_flat hk] at o1
      unfold insH
      rw [List.flatMap_append, List.flatMap_cons, ← List.append_assoc]
      exact o1
    · rcases o3 with o3 | o3
      · exact .inl o3
      · exact .inr (Nat.le_trans hW.size o3)
  obtain ⟨b0, cap0, hv⟩ : ∃ b c, v = .slice b l.length c := by
    rcases hown.2 with ⟨rfl, e⟩ | ⟨g, cap, cur, rfl, _⟩
    · exact ⟨none, 0, by rw [e]⟩
    · exact ⟨_, cap, rfl⟩
  subst hv
  clear hown hs
  generalize cntH l h.a = cn at hbs hin hle
  generalize l.length + 1 = nn at hin ⊢
  generalize (insH l h).flatMap encH = ll at hin ⊢
  obtain ⟨a, n, o⟩ := h
  unfold vH at hq
  unfold vH
  dsimp only at *
  go_enter Tryz.func130, Tryz.ntmps130
  go_wp2_with (first | (go_at_call 141; refine (hq.out _).mono ?_; rintro e w1 ⟨rfl, hb1⟩; have HB1 : Hid (Below w.heap.size w w1) := bup (by repeat' (first | with_reducible assumption | with_reducible exact Below.refl _ _ | with_reducible apply Below.drew | with_reducible apply below_drewN | with_reducible apply Below.setCell | with_reducible apply Below.alloc | omega | (simp; done) | (simp; omega))) hb1; have k0 : w1.cell? ⟨w.heap.size, 0, none⟩ = some (.int .u32 a) := (by rw [hb1.cell (p := ⟨w.heap.size, 0, none⟩) (by simp)]; simp [go_sem]); have k1 : w1.cell? ⟨w.heap.size, 1, none⟩ = some (.int .i64 n) := (by rw [hb1.cell (p := ⟨w.heap.size, 1, none⟩) (by simp)]; simp [go_sem]); have k2 : w1.cell? ⟨w.heap.size, 2, none⟩ = some (.string o) := (by rw [hb1.cell (p := ⟨w.heap.size, 2, none⟩) (by simp)]; simp [go_sem]); have z1 : w.heap.size < w1.heap.size := (by have := hb1.size; simp at this; omega); clear hb1) | (go_at_call 173; obtain ⟨fb, hfb⟩ := hbs.out _ HB1.out; refine hfb.mono ?_; clear hfb; rintro e w2 ⟨rfl, hb2⟩; have HB2 : Hid (Below w.heap.size w w2) := bup HB1.out hb2; have j0 : w2.cell? ⟨w.heap.size, 0, none⟩ = some (.int .u32 a) := (by rw [hb2.cell (p := ⟨w.heap.size, 0, none⟩) z1]; exact k0); have j1 : w2.cell? ⟨w.heap.size, 1, none⟩ = some (.int .i64 n) := (by rw [hb2.cell (p := ⟨w.heap.size, 1, none⟩) z1]; exact k1); have j2 : w2.cell? ⟨w.heap.size, 2, none⟩ = some (.string o) := (by rw [hb2.cell (p := ⟨w.heap.size, 2, none⟩) z1]; exact k2); have z2 : w.heap.size < w2.heap.size := (by have := hb2.size; omega); clear hb2 k0 k1 k2 z1) | (go_at_call 175; refine (hin.out _ _ (Below.alloc HB2.out HB2.out.size _) HB2.out.size (Blk.new w2 _ _)).mono ?_; rintro e w3 ⟨g3, cap3, rfl, o1, o2, o3, o4⟩))
  go_ret
  exact ⟨g3, cap3, rfl, o1, o2, o3, o4⟩
end Go.Proofs.YtlikdnmikdldfaaGreatDoor
namespace Go.Proofs.YtlikdnmikdldfaaGreatDoor
open Go.ChangeShapes Go.WideShapes Go.ChangeAt Go.RowKit
set_option linter.unusedVariables false
set_option linter.unusedSimpArgs false

theorem below_grown {B : Nat} {a W w3 : World} {row : Option Nat} (h : Below B a W) (g : W.grownBy w3 row) (hr : ∀ b, row = some b → B ≤ b) (hB : B ≤ W.heap.size) : Below B a w3 :=
  h.trans ⟨g.os, g.tape, g.output, g.size, fun k hk => g.block k (Nat.lt_of_lt_of_le hk hB) (fun e => by have := hr k e.symm; omega)⟩
theorem owns_base {w : World} {B : Nat} {t : TypeId} {k : Nat} {v : Value} {n : Nat} {xs : List Value} (h : w.ownsRow B t k v n xs) : ∀ b, v.ownBlock = some b → B ≤ b := fun b e => by
  rcases h.2 with ⟨rfl, _⟩ | ⟨g, cap, cur, rfl, h1, _⟩
  · cases e
  · obtain rfl : g = b := by simpa [Value.ownBlock] using e
    exact h1
theorem owns_slice {w : World} {B : Nat} {t : TypeId} {k : Nat} {v : Value} {n : Nat} {xs : List Value} (h : w.ownsRow B t k v n xs) : ∃ b c, v = .slice b n c ∧ n ≤ c ∧ c ≤ maxLen := by
  rcases h.2 with ⟨rfl, e⟩ | ⟨g, cap, cur, rfl, _, _, h1, h2, _⟩
  · exact ⟨none, 0, by rw [e], by omega, by unfold maxLen; omega⟩
  · exact ⟨_, cap, rfl, h1, h2⟩
theorem filter_next {α : Type} (p : α → Bool) (l : List α) (d : α) (k : Nat) (hk : k < l.length) : (l.take (k + 1)).filter p = (l.take k).filter p ++ if p (l.getD k d) then [l.getD k d] else [] := by
  rw [List.take_succ_eq_append_getElem hk, List.filter_append, List.getD_eq_getElem?_getD, List.getElem?_eq_getElem hk]
  simp only [Option.getD_some, List.filter_cons, List.filter_nil]
theorem cellsH3 {W : World} {M : Nat} {h : Hd} (c0 : W.cell? ⟨M, 0, none⟩ = some (.int .u32 h.a)) (c1 : W.cell? ⟨M, 1, none⟩ = some (.int .i64 h.n)) (c2 : W.cell? ⟨M, 2, none⟩ = some (.string h.o)) : ∀ j u, (encH h)[j]? = some u → W.cell? (Addr.add ⟨M, 0, none⟩ j) = some u := fun j u hj => by
  rw [Addr.add_lit, Nat.zero_add]
  match j, hj with
  | 0, hj => simp [encH] at hj; rw [← hj]; exact c0
  | 1, hj => simp [encH] at hj; rw [← hj]; exact c1
  | 2, hj => simp [encH] at hj; rw [← hj]; exact c2
  | j + 3, hj => simp [encH] at hj
theorem cellsL2 {W : World} {M : Nat} {h : Ls} (c0 : W.cell? ⟨M, 0, none⟩ = some (.int .u32 h.a)) (c1 : W.cell? ⟨M, 1, none⟩ = some (.string h.o)) : ∀ j u, (encL h)[j]? = some u → W.cell? (Addr.add ⟨M, 0, none⟩ j) = some u := fun j u hj => by
  rw [Addr.add_lit, Nat.zero_add]
  match j, hj with
  | 0, hj => simp [encL] at hj; rw [← hj]; exact c0
  | 1, hj => simp [encL] at hj; rw [← hj]; exact c1
  | j + 2, hj => simp [encL] at hj
theorem oneE (h : Hd) : ∀ u ∈ encH h, u.oneCell' = true := by intro u hu; simp [encH] at hu; rcases hu with rfl | rfl | rfl <;> rfl
theorem oneF (h : Ls) : ∀ u ∈ encL h, u.oneCell' = true := by intro u hu; simp [encL] at hu; rcases hu with rfl | rfl <;> rfl
theorem nofSlice {P : Prop} {v : Value} {f : Option Addr → Nat → Nat → Value} (h : P) : P := h

set_option maxRecDepth 100000 in
set_option maxHeartbeats 2000000 in
theorem netsOf_any (x : Nat) (nets : List Hd) (p : Hd) (vn : Value) (w : World) (hx : x < w.heap.size) (cx : w.cell? ⟨x, 1, none⟩ = some vn) (hr : Rd 3 encH hd0 w vn nets) (hn : nets.length ≤ 1000) (ha : ∀ h, h ∈ nets → ad h.a) (hp : ad p.a) :
    Calls Tryz.prog 84 #[.pointer (some ⟨x, 0, none⟩), vH p] w fun e w' => ∃ v, e = .returned v ∧ w'.ownsRow w.heap.size 166 3 v (netsOf nets p.a p.n).length ((netsOf nets p.a p.n).flatMap encH) ∧ Below w.heap.size w w' := by
  obtain ⟨b, cap, rfl, h1, h2, h3⟩ := hr
  have hB0 : Below w.heap.size w (w.alloc (.cells #[.int .u32 p.a, .int .i64 p.n, .string p.o] 142)) := (by repeat' (first | with_reducible assumption | with_reducible exact Below.refl _ _ | with_reducible apply Below.drew | with_reducible apply below_drewN | with_reducible apply Below.setCell | with_reducible apply Below.alloc | omega | (simp; done) | (simp; omega)))
  have hrow : Hid (∀ W, Below w.heap.size w W → ∀ j, j < nets.length → ∃ g, b = some ⟨g, 0, none⟩ ∧ W.cell? ⟨g, j * 3, none⟩ = some (.int .u32 (nets.getD j hd0).a) ∧ W.cell? ⟨g, j * 3 + 1, none⟩ = some (.int .i64 (nets.getD j hd0).n) ∧ W.cell? ⟨g, j * 3 + 2, none⟩ = some (.string (nets.getD j hd0).o)) := fun W hW j hj => by
    obtain ⟨g, hg, hlt, hc⟩ := h3 (by intro e; rw [e] at hj; simp at hj)
    have hc := hc j hj
    exact ⟨g, hg, (hW.cell (p := ⟨g, j * 3, none⟩) hlt).trans (hc 0 _ rfl), (hW.cell (p := ⟨g, j * 3 + 1, none⟩) hlt).trans (hc 1 _ rfl), (hW.cell (p := ⟨g, j * 3 + 2, none⟩) hlt).trans (hc 2 _ rfl)⟩
  have hsp : Hid (∀ (y : Hd) (W : World), ad y.a → Calls Tryz.prog 128 #[vH p, vB y.a y.n] W fun e w' => e = .returned (.bool (inn y.a y.n p.a p.n)) ∧ Below W.heap.size W w') := fun y W hy => hspans_any p y.a y.n W hp hy
  have HA : Hid (∀ j, j < nets.length → ad (nets.getD j hd0).a) := fun j hj => ha _ (getD_mem nets hd0 j hj)
  have HF : Hid (∀ j, j < nets.length → (nets.take (j + 1)).filter (fun h => inn h.a h.n p.a p.n) = (nets.take j).filter (fun h => inn h.a h.n p.a p.n) ++ if inn (nets.getD j hd0).a (nets.getD j hd0).n p.a p.n then [nets.getD j hd0] else []) := fun j hj => filter_next _ nets hd0 j hj
  have HL : Hid (∀ j, ((nets.take j).filter (fun h => inn h.a h.n p.a p.n)).length ≤ 1000) := fun j => Nat.le_trans (List.length_filter_le _ _) (by rw [List.length_take]; omega)
  obtain ⟨i0, hi0, hz0, hz1, hz2⟩ := info_parts infoS
  unfold netsOf
  generalize hfp : (fun h : Hd => inn h.a h.n p.a p.n) = fp at HF HL ⊢
  have HE : Hid (∀ y : Hd, inn y.a y.n p.a p.n = fp y) := fun y => by rw [← hfp]
  clear hfp h1 h2 h3 hp ha
  obtain ⟨pa, pn, po⟩ := p
  unfold vH vB at hsp
  unfold vH
  dsimp only at *
  go_enter Tryz.func84, Tryz.ntmps84
  go_wp2
  go_loopg [5, 7, 13] nets.length (fun gg s5 _ s13 wr => ∃ k : Nat, k ≤ nets.length ∧ nets.length - k ≤ gg ∧ s13 = .int .i64 k ∧ wr.cell? ⟨w.heap.size, 0, none⟩ = some (.int .u32 pa) ∧ wr.cell? ⟨w.heap.size, 1, none⟩ = some (.int .i64 pn) ∧ wr.cell? ⟨w.heap.size, 2, none⟩ = some (.string po) ∧ Hid (Below (w.heap.size + 1) (w.alloc (.cells #[.int .u32 pa, .int .i64 pn, .string po] 142)) wr) ∧ Hid (wr.ownsRow (w.heap.size + 1) 166 3 s5 ((nets.take k).filter fp).length (((nets.take k).filter fp).flatMap encH)))
  case atStart => exact ⟨0, Nat.zero_le _, by omega, rfl, by simp [go_sem], by simp [go_sem], by simp [go_sem], Below.refl _ _, World.ownsRow_nil _ _ _ _⟩
  case round =>
    obtain ⟨k, hk, hg, rfl, p0, p1, p2, BW, O⟩ := hrel
    have BW2 : Hid (Below w.heap.size w wr) := hB0.trans (BW.out.mono (by omega))
    have zw : w.heap.size + 1 ≤ wr.heap.size := by have := BW.out.size; simp at this; omega
    have zv : w.heap.size < wr.heap.size := zw
    by_cases hlt : k < nets.length
    · obtain ⟨g, rfl, k0, k1, k2⟩ := hrow.out wr BW2.out k hlt
      have hy0 := HA.out k hlt
      have hf0 := HF.out k hlt
      generalize hy : nets.getD k hd0 = y at k0 k1 k2 hy0 hf0
      clear hy
      have hc := hsp.out y
      rw [HE.out] at hc
      rw [HE.out] at hf0
      have HC : Hid (∀ W, Calls Tryz.prog 128 #[.agg #[.int .u32 pa, .int .i64 pn, .string po], .agg #[.int .u32 y.a, .int .i64 y.n]] W fun e w' => e = .returned (.bool (fp y)) ∧ Below W.heap.size W w') := fun W => hc W hy0
      clear hc hrow hsp HA
      have hll := HL.out k
      obtain ⟨b5, c5, rfl, hn5, hm5⟩ := owns_slice O.out
      rcases hfy : fp y with _ | _
      · rw [hfy] at HC
        rw [hfy, if_neg (by decide), List.append_nil] at hf0
        have F0 : Hid ((nets.take (k + 1)).filter fp = (nets.take k).filter fp) := hf0
        clear hf0 hfy
        generalize hm5 : ((nets.take k).filter fp).length = m5 at O hll hn5
        have HM : Hid (((nets.take k).filter fp).length = m5) := hm5
        clear hm5
        go_wp2_with (go_at_call 128; refine (HC.out _).mono ?_; rintro e w2 ⟨rfl, hb2⟩; have HB2 : Hid (Below wr.heap.size wr w2) := bup (by repeat' (first | with_reducible assumption | with_reducible exact Below.refl _ _ | with_reducible apply Below.drew | with_reducible apply below_drewN | with_reducible apply Below.setCell | with_reducible apply Below.alloc | omega | (simp; done) | (simp; omega))) hb2; clear hb2)
        go_roundg (nets.length - (k + 1))
        case measure => omega
        case rel =>
          have e1 : Hid (Below (w.heap.size + 1) (w.alloc (.cells #[.int .u32 pa, .int .i64 pn, .string po] 142)) w2) := BW.out.trans (HB2.out.mono zw)
          exact ⟨k + 1, by omega, by omega, by go_num, (HB2.out.cell (p := ⟨w.heap.size, 0, none⟩) (by omega)).trans p0, (HB2.out.cell (p := ⟨w.heap.size, 1, none⟩) (by omega)).trans p1, (HB2.out.cell (p := ⟨w.heap.size, 2, none⟩) (by omega)).trans p2, e1, (by rw [F0.out, HM.out]; exact owns_below O.out HB2.out : World.ownsRow _ _ _ _ _ _ _)⟩
      · rw [hfy] at HC
        rw [hfy, if_pos rfl] at hf0
        have F0 : Hid ((nets.take (k + 1)).filter fp = (nets.take k).filter fp ++ [y]) := hf0
        clear hf0 hfy
        have HO : Hid (∀ wz, Below wr.heap.size wr wz → wz.ownsRow (w.heap.size + 1) 166 3 (.slice b5 ((nets.take k).filter fp).length c5) ((nets.take k).filter fp).length (((nets.take k).filter fp).flatMap encH)) := fun wz hz => owns_below O.out hz
        have HOB : Hid (∀ b, (Value.slice b5 ((nets.take k).filter fp).length c5).ownBlock = some b → w.heap.size + 1 ≤ b) := owns_base O.out
        generalize hm5 : ((nets.take k).filter fp).length = m5 at HO HOB hll hn5
        have HM : Hid (((nets.take k).filter fp).length = m5) := hm5
        clear hm5 O
        generalize hl5 : (((nets.take k).filter fp).flatMap encH) = l5 at HO
        have HL5 : Hid ((((nets.take k).filter fp).flatMap encH) = l5) := hl5
        clear hl5
        go_wp2_with (first | (go_at_call 128; refine (HC.out _).mono ?_; rintro e w2 ⟨rfl, hb2⟩; have HB2 : Hid (Below wr.heap.size wr w2) := bup (by repeat' (first | with_reducible assumption | with_reducible exact Below.refl _ _ | with_reducible apply Below.drew | with_reducible apply below_drewN | with_reducible apply Below.setCell | with_reducible apply Below.alloc | omega | (simp; done) | (simp; omega))) hb2; have j0 : w2.cell? ⟨wr.heap.size, 0, none⟩ = some (.int .u32 y.a) := (by rw [hb2.cell (p := ⟨wr.heap.size, 0, none⟩) (by simp)]; simp [go_sem]); have j1 : w2.cell? ⟨wr.heap.size, 1, none⟩ = some (.int .i64 y.n) := (by rw [hb2.cell (p := ⟨wr.heap.size, 1, none⟩) (by simp)]; simp [go_sem]); have j2 : w2.cell? ⟨wr.heap.size, 2, none⟩ = some (.string y.o) := (by rw [hb2.cell (p := ⟨wr.heap.size, 2, none⟩) (by simp)]; simp [go_sem]); have z2 : wr.heap.size < w2.heap.size := (by have := hb2.size; simp at this; omega); clear hb2) | (at_builtin; refine wpList_append_lies _ rfl _ _ 84 rfl (w.heap.size + 1) 166 i0 _ 3 32 Tryz.underlying84 hi0 hz0 hz1 hz2 rfl (by decide) (.slice b5 m5 c5) m5 l5 rfl (HO.out _ (Below.alloc HB2.out HB2.out.size _)) ⟨w2.heap.size, 0, none⟩ 1 1 (encH y) rfl rfl (cellsH3 (by simp [go_sem]) (by simp [go_sem]) (by simp [go_sem])) (oneE y) (by omega) (by unfold maxLen; omega) (by omega) (by simp; omega) _ rfl ?_; intro g3 cap3 w3 hown3 hgrow3 hat3 hlt3))
        go_roundg (nets.length - (k + 1))
        case measure => omega
        case rel =>
          have hq : Below (w.heap.size + 1) (w.alloc (.cells #[.int .u32 pa, .int .i64 pn, .string po] 142)) w3 := below_grown ((BW.out.trans (HB2.out.mono zw)).alloc (by omega) _) hgrow3 HOB.out (by simp; omega)
          have e1 : Hid (Below (w.heap.size + 1) (w.alloc (.cells #[.int .u32 pa, .int .i64 pn, .string po] 142)) w3) := hq
          have e3 : w3.ownsRow (w.heap.size + 1) 166 3 (.slice (some ⟨g3, 0, none⟩) (m5 + 1) cap3) ((nets.take (k + 1)).filter fp).length (((nets.take (k + 1)).filter fp).flatMap encH) := by
            rw [F0.out, List.length_append, HM.out, List.flatMap_append, HL5.out]
            simpa using hown3
          have e2 : Hid (w3.ownsRow (w.heap.size + 1) 166 3 (.slice (some ⟨g3, 0, none⟩) (m5 + 1) cap3) ((nets.take (k + 1)).filter fp).length (((nets.take (k + 1)).filter fp).flatMap encH)) := e3
          exact ⟨k + 1, by omega, by omega, by go_num, (hq.cell (p := ⟨w.heap.size, 0, none⟩) (by simp)).trans (by simp [go_sem]), (hq.cell (p := ⟨w.heap.size, 1, none⟩) (by simp)).trans (by simp [go_sem]), (hq.cell (p := ⟨w.heap.size, 2, none⟩) (by simp)).trans (by simp [go_sem]), e1, e2⟩
    · have hkl : k = nets.length := by omega
      subst hkl
      rw [List.take_length] at O
      clear hrow hsp HA HF HL
      obtain ⟨b5, c5, rfl, hn5, hm5⟩ := owns_slice O.out
      go_wp2
      go_ret
      exact ⟨_, rfl, ⟨O.out.1, by rcases O.out.2 with h | ⟨g, cap, cur, h0, h1, h2⟩; exact .inl h; exact .inr ⟨g, cap, cur, h0, by omega, h2⟩⟩, BW2.out⟩

set_option maxHeartbeats 400000 in
theorem single_any (a : Int) (w : World) : Calls Tryz.prog 99 #[.int .u32 a] w fun e w' => e = .returned (.agg #[.int .u32 a, .int .i64 32]) ∧ Below w.heap.size w w' := by
  go_enter Tryz.func99, Tryz.ntmps99
  go_wp2
  go_returns
  exact ⟨rfl, (by repeat' (first | with_reducible assumption | with_reducible exact Below.refl _ _ | with_reducible apply Below.drew | with_reducible apply below_drewN | with_reducible apply Below.setCell | with_reducible apply Below.alloc | omega | (simp; done) | (simp; omega)))⟩
set_option maxRecDepth 100000 in
set_option maxHeartbeats 2000000 in
theorem leasesOf_any (x : Nat) (nets : List Ls) (p : Hd) (vn : Value) (w : World) (hx : x < w.heap.size) (cx : w.cell? ⟨x, 2, none⟩ = some vn) (hr : Rd 2 encL ls0 w vn nets) (hn : nets.length ≤ 1000) (ha : ∀ h, h ∈ nets → ad h.a) (hp : ad p.a) :
    Calls Tryz.prog 93 #[.pointer (some ⟨x, 0, none⟩), vH p] w fun e w' => ∃ v, e = .returned v ∧ w'.ownsRow w.heap.size 179 2 v (leasesOf nets p.a p.n).length ((leasesOf nets p.a p.n).flatMap encL) ∧ Below w.heap.size w w' := by
  obtain ⟨b, cap, rfl, h1, h2, h3⟩ := hr
  have hB0 : Below w.heap.size w (w.alloc (.cells #[.int .u32 p.a, .int .i64 p.n, .string p.o] 166)) := (by repeat' (first | with_reducible assumption | with_reducible exact Below.refl _ _ | with_reducible apply Below.drew | with_reducible apply below_drewN | with_reducible apply Below.setCell | with_reducible apply Below.alloc | omega | (simp; done) | (simp; omega)))
  have hrow : Hid (∀ W, Below w.heap.size w W → ∀ j, j < nets.length → ∃ g, b = some ⟨g, 0, none⟩ ∧ W.cell? ⟨g, j * 2, none⟩ = some (.int .u32 (nets.getD j ls0).a) ∧ W.cell? ⟨g, j * 2 + 1, none⟩ = some (.string (nets.getD j ls0).o)) := fun W hW j hj => by
    obtain ⟨g, hg, hlt, hc⟩ := h3 (by intro e; rw [e] at hj; simp at hj)
    have hc := hc j hj
    exact ⟨g, hg, (hW.cell (p := ⟨g, j * 2, none⟩) hlt).trans (hc 0 _ rfl), (hW.cell (p := ⟨g, j * 2 + 1, none⟩) hlt).trans (hc 1 _ rfl)⟩
  have hsp : Hid (∀ (y : Ls) (W : World), ad y.a → Calls Tryz.prog 128 #[vH p, vB y.a 32] W fun e w' => e = .returned (.bool (inn y.a 32 p.a p.n)) ∧ Below W.heap.size W w') := fun y W hy => hspans_any p y.a 32 W hp hy
  have HA : Hid (∀ j, j < nets.length → ad (nets.getD j ls0).a) := fun j hj => ha _ (getD_mem nets ls0 j hj)
  have HF : Hid (∀ j, j < nets.length → (nets.take (j + 1)).filter (fun h => inn h.a 32 p.a p.n) = (nets.take j).filter (fun h => inn h.a 32 p.a p.n) ++ if inn (nets.getD j ls0).a 32 p.a p.n then [nets.getD j ls0] else []) := fun j hj => filter_next _ nets ls0 j hj
  have HL : Hid (∀ j, ((nets.take j).filter (fun h => inn h.a 32 p.a p.n)).length ≤ 1000) := fun j => Nat.le_trans (List.length_filter_le _ _) (by rw [List.length_take]; omega)
  obtain ⟨i0, hi0, hz0, hz1, hz2⟩ := info_parts infoL
  unfold leasesOf
  generalize hfp : (fun h : Ls => inn h.a 32 p.a p.n) = fp at HF HL ⊢
  have HE : Hid (∀ y : Ls, inn y.a 32 p.a p.n = fp y) := fun y => by rw [← hfp]
  clear hfp h1 h2 h3 hp ha
  obtain ⟨pa, pn, po⟩ := p
  unfold vH vB at hsp
  unfold vH
  dsimp only at *
  go_enter Tryz.func93, Tryz.ntmps93
  go_wp2
  go_loopg [5, 7, 13] nets.length (fun gg s5 _ s13 wr => ∃ k : Nat, k ≤ nets.length ∧ nets.length - k ≤ gg ∧ s13 = .int .i64 k ∧ wr.cell? ⟨w.heap.size, 0, none⟩ = some (.int .u32 pa) ∧ wr.cell? ⟨w.heap.size, 1, none⟩ = some (.int .i64 pn) ∧ wr.cell? ⟨w.heap.size, 2, none⟩ = some (.string po) ∧ Hid (Below (w.heap.size + 1) (w.alloc (.cells #[.int .u32 pa, .int .i64 pn, .string po] 166)) wr) ∧ Hid (wr.ownsRow (w.heap.size + 1) 179 2 s5 ((nets.take k).filter fp).length (((nets.take k).filter fp).flatMap encL)))
  case atStart => exact ⟨0, Nat.zero_le _, by omega, rfl, by simp [go_sem], by simp [go_sem], by simp [go_sem], Below.refl _ _, World.ownsRow_nil _ _ _ _⟩
  case round =>
    obtain ⟨k, hk, hg, rfl, p0, p1, p2, BW, O⟩ := hrel
    have BW2 : Hid (Below w.heap.size w wr) := hB0.trans (BW.out.mono (by omega))
    have zw : w.heap.size + 1 ≤ wr.heap.size := by have := BW.out.size; simp at this; omega
    have zv : w.heap.size < wr.heap.size := zw
    by_cases hlt : k < nets.length
    · obtain ⟨g, rfl, k0, k1⟩ := hrow.out wr BW2.out k hlt
      have hy0 := HA.out k hlt
      have hf0 := HF.out k hlt
      generalize hy : nets.getD k ls0 = y at k0 k1 hy0 hf0
      clear hy
      have hc := hsp.out y
      rw [HE.out] at hc
      rw [HE.out] at hf0
      have HC : Hid (∀ W, Calls Tryz.prog 128 #[.agg #[.int .u32 pa, .int .i64 pn, .string po], .agg #[.int .u32 y.a, .int .i64 32]] W fun e w' => e = .returned (.bool (fp y)) ∧ Below W.heap.size W w') := fun W => hc W hy0
      clear hc hrow hsp HA
      have hll := HL.out k
      obtain ⟨b5, c5, rfl, hn5, hm5⟩ := owns_slice O.out
      rcases hfy : fp y with _ | _
      · rw [hfy] at HC
        rw [hfy, if_neg (by decide), List.append_nil] at hf0
        have F0 : Hid ((nets.take (k + 1)).filter fp = (nets.take k).filter fp) := hf0
        clear hf0 hfy
        generalize hm5 : ((nets.take k).filter fp).length = m5 at O hll hn5
        have HM : Hid (((nets.take k).filter fp).length = m5) := hm5
        clear hm5
        go_wp2
        go_region_with (first | (go_at_call 99; refine (single_any _ _).mono ?_; rintro e w1 ⟨rfl, hb1⟩; have HB1 : Hid (Below wr.heap.size wr w1) := bup (by repeat' (first | with_reducible assumption | with_reducible exact Below.refl _ _ | with_reducible apply Below.drew | with_reducible apply below_drewN | with_reducible apply Below.setCell | with_reducible apply Below.alloc | omega | (simp; done) | (simp; omega))) hb1; have q0 : w1.cell? ⟨w.heap.size, 0, none⟩ = some (.int .u32 pa) := (HB1.out.cell (p := ⟨w.heap.size, 0, none⟩) zv).trans p0; have q1 : w1.cell? ⟨w.heap.size, 1, none⟩ = some (.int .i64 pn) := (HB1.out.cell (p := ⟨w.heap.size, 1, none⟩) zv).trans p1; have q2 : w1.cell? ⟨w.heap.size, 2, none⟩ = some (.string po) := (HB1.out.cell (p := ⟨w.heap.size, 2, none⟩) zv).trans p2; have r0 : w1.cell? ⟨wr.heap.size, 0, none⟩ = some (.int .u32 y.a) := (by rw [hb1.cell (p := ⟨wr.heap.size, 0, none⟩) (by simp)]; simp [go_sem]); have r1 : w1.cell? ⟨wr.heap.size, 1, none⟩ = some (.string y.o) := (by rw [hb1.cell (p := ⟨wr.heap.size, 1, none⟩) (by simp)]; simp [go_sem]); have y1 : wr.heap.size < w1.heap.size := (by have := hb1.size; simp at this; omega); clear hb1) | (go_at_call 128; refine (HC.out _).mono ?_; rintro e w2 ⟨rfl, hb2⟩; have HB2 : Hid (Below wr.heap.size wr w2) := bup HB1.out hb2; have j0 : w2.cell? ⟨wr.heap.size, 0, none⟩ = some (.int .u32 y.a) := (hb2.cell (p := ⟨wr.heap.size, 0, none⟩) y1).trans r0; have j1 : w2.cell? ⟨wr.heap.size, 1, none⟩ = some (.string y.o) := (hb2.cell (p := ⟨wr.heap.size, 1, none⟩) y1).trans r1; have z2 : wr.heap.size < w2.heap.size := (by have := hb2.size; omega); clear hb2))
        all_goals (
          go_wp2
          go_roundg (nets.length - (k + 1))
          case measure => omega
          case rel =>
            have e1 : Hid (Below (w.heap.size + 1) (w.alloc (.cells #[.int .u32 pa, .int .i64 pn, .string po] 166)) w2) := BW.out.trans (HB2.out.mono zw)
            exact ⟨k + 1, by omega, by omega, by go_num, (HB2.out.cell (p := ⟨w.heap.size, 0, none⟩) (by omega)).trans p0, (HB2.out.cell (p := ⟨w.heap.size, 1, none⟩) (by omega)).trans p1, (HB2.out.cell (p := ⟨w.heap.size, 2, none⟩) (by omega)).trans p2, e1, (by rw [F0.out, HM.out]; exact owns_below O.out HB2.out : World.ownsRow _ _ _ _ _ _ _)⟩)
      · rw [hfy] at HC
        rw [hfy, if_pos rfl] at hf0
        have F0 : Hid ((nets.take (k + 1)).filter fp = (nets.take k).filter fp ++ [y]) := hf0
        clear hf0 hfy
        have HO : Hid (∀ wz, Below wr.heap.size wr wz → wz.ownsRow (w.heap.size + 1) 179 2 (.slice b5 ((nets.take k).filter fp).length c5) ((nets.take k).filter fp).length (((nets.take k).filter fp).flatMap encL)) := fun wz hz => owns_below O.out hz
        have HOB : Hid (∀ b, (Value.slice b5 ((nets.take k).filter fp).length c5).ownBlock = some b → w.heap.size + 1 ≤ b) := owns_base O.out
        generalize hm5 : ((nets.take k).filter fp).length = m5 at HO HOB hll hn5
        have HM : Hid (((nets.take k).filter fp).length = m5) := hm5
        clear hm5 O
        generalize hl5 : (((nets.take k).filter fp).flatMap encL) = l5 at HO
        have HL5 : Hid ((((nets.take k).filter fp).flatMap encL) = l5) := hl5
        clear hl5
        go_wp2
        go_region_with (first | (go_at_call 99; refine (single_any _ _).mono ?_; rintro e w1 ⟨rfl, hb1⟩; have HB1 : Hid (Below wr.heap.size wr w1) := bup (by repeat' (first | with_reducible assumption | with_reducible exact Below.refl _ _ | with_reducible apply Below.drew | with_reducible apply below_drewN | with_reducible apply Below.setCell | with_reducible apply Below.alloc | omega | (simp; done) | (simp; omega))) hb1; have q0 : w1.cell? ⟨w.heap.size, 0, none⟩ = some (.int .u32 pa) := (HB1.out.cell (p := ⟨w.heap.size, 0, none⟩) zv).trans p0; have q1 : w1.cell? ⟨w.heap.size, 1, none⟩ = some (.int .i64 pn) := (HB1.out.cell (p := ⟨w.heap.size, 1, none⟩) zv).trans p1; have q2 : w1.cell? ⟨w.heap.size, 2, none⟩ = some (.string po) := (HB1.out.cell (p := ⟨w.heap.size, 2, none⟩) zv).trans p2; have r0 : w1.cell? ⟨wr.heap.size, 0, none⟩ = some (.int .u32 y.a) := (by rw [hb1.cell (p := ⟨wr.heap.size, 0, none⟩) (by simp)]; simp [go_sem]); have r1 : w1.cell? ⟨wr.heap.size, 1, none⟩ = some (.string y.o) := (by rw [hb1.cell (p := ⟨wr.heap.size, 1, none⟩) (by simp)]; simp [go_sem]); have y1 : wr.heap.size < w1.heap.size := (by have := hb1.size; simp at this; omega); clear hb1) | (go_at_call 128; refine (HC.out _).mono ?_; rintro e w2 ⟨rfl, hb2⟩; have HB2 : Hid (Below wr.heap.size wr w2) := bup HB1.out hb2; have j0 : w2.cell? ⟨wr.heap.size, 0, none⟩ = some (.int .u32 y.a) := (hb2.cell (p := ⟨wr.heap.size, 0, none⟩) y1).trans r0; have j1 : w2.cell? ⟨wr.heap.size, 1, none⟩ = some (.string y.o) := (hb2.cell (p := ⟨wr.heap.size, 1, none⟩) y1).trans r1; have z2 : wr.heap.size < w2.heap.size := (by have := hb2.size; omega); clear hb2))
        all_goals (
          go_wp2_with (at_builtin; refine wpList_append_lies _ rfl _ _ 85 rfl (w.heap.size + 1) 179 i0 _ 2 24 Tryz.underlying85 hi0 hz0 hz1 hz2 rfl (by decide) (.slice b5 m5 c5) m5 l5 rfl (HO.out _ (Below.alloc HB2.out HB2.out.size _)) ⟨w2.heap.size, 0, none⟩ 1 1 (encL y) rfl rfl (cellsL2 (by simp [go_sem]) (by simp [go_sem])) (oneF y) (by omega) (by unfold maxLen; omega) (by omega) (by simp; omega) _ rfl ?_; intro g3 cap3 w3 hown3 hgrow3 hat3 hlt3)
          go_roundg (nets.length - (k + 1))
          case measure => omega
          case rel =>
            have hq : Below (w.heap.size + 1) (w.alloc (.cells #[.int .u32 pa, .int .i64 pn, .string po] 166)) w3 := below_grown ((BW.out.trans (HB2.out.mono zw)).alloc (by omega) _) hgrow3 HOB.out (by simp; omega)
            have e1 : Hid (Below (w.heap.size + 1) (w.alloc (.cells #[.int .u32 pa, .int .i64 pn, .string po] 166)) w3) := hq
            have e3 : w3.ownsRow (w.heap.size + 1) 179 2 (.slice (some ⟨g3, 0, none⟩) (m5 + 1) cap3) ((nets.take (k + 1)).filter fp).length (((nets.take (k + 1)).filter fp).flatMap encL) := by
              rw [F0.out, List.length_append, HM.out, List.flatMap_append, HL5.out]
              simpa using hown3
            have e2 : Hid (w3.ownsRow (w.heap.size + 1) 179 2 (.slice (some ⟨g3, 0, none⟩) (m5 + 1) cap3) ((nets.take (k + 1)).filter fp).length (((nets.take (k + 1)).filter fp).flatMap encL)) := e3
            exact ⟨k + 1, by omega, by omega, by go_num, (hq.cell (p := ⟨w.heap.size, 0, none⟩) (by simp)).trans (by simp [go_sem]), (hq.cell (p := ⟨w.heap.size, 1, none⟩) (by simp)).trans (by simp [go_sem]), (hq.cell (p := ⟨w.heap.size, 2, none⟩) (by simp)).trans (by simp [go_sem]), e1, e2⟩)
    · have hkl : k = nets.length := by omega
      subst hkl
      rw [List.take_length] at O
      clear hrow hsp HA HF HL
      obtain ⟨b5, c5, rfl, hn5, hm5⟩ := owns_slice O.out
      go_wp2
      go_ret
      exact ⟨_, rfl, ⟨O.out.1, by rcases O.out.2 with h | ⟨g, cap, cur, h0, h1, h2⟩; exact .inl h; exact .inr ⟨g, cap, cur, h0, by omega, h2⟩⟩, BW2.out⟩
end Go.Proofs.YtlikdnmikdldfaaGreatDoor
namespace Go.Proofs.YtlikdnmikdldfaaGreatDoor
open Go.ChangeShapes Go.WideShapes Go.ChangeAt Go.RowKit
set_option linter.unusedVariables false
set_option linter.unusedSimpArgs false

theorem or_low (a n : Int) (h0 : 0 ≤ n) (h1 : n ≤ 32) (ha : 0 ≤ a) (hb : a < 4294967296) (hr : a % sz n = 0) : bits .or .u32 a (sz n - 1) = a + sz n - 1 := by
  have hp := sz_pos n
  have hl := sz_le n h0
  rw [u32_or a _ ha hb (by omega) (by omega)]
  have e : a.toNat ||| (sz n - 1).toNat = a.toNat + (sz n - 1).toNat := by
    refine nat_join (32 - n).toNat _ _ ?_ ?_
    · have : (a.toNat : Int) % ((2 ^ (32 - n).toNat : Nat) : Int) = 0 := by rw [← sz_nat, Int.toNat_of_nonneg ha]; exact hr
      omega
    · have := toNat_sz n; omega
  rw [e]; omega
theorem xm_fin : ∀ k : Fin 33, (4294967295 : Nat) ^^^ (4294967296 - 2 ^ (k : Nat)) = 2 ^ (k : Nat) - 1 := by decide +kernel
theorem xor_mask (n : Int) (h0 : 0 ≤ n) (h1 : n ≤ 32) : bits .xor .u32 IntKind.u32.max (4294967296 - sz n) = sz n - 1 := by
  have hp := sz_pos n
  have hl := sz_le n h0
  rw [show IntKind.u32.max = 4294967295 by decide, u32_xor _ _ (by omega) (by omega) (by omega) (by omega)]
  have e := xm_fin ⟨(32 - n).toNat, by omega⟩
  have ht := toNat_sz n
  have e2 : (4294967296 - sz n).toNat = 4294967296 - 2 ^ (32 - n).toNat := by omega
  simp only at e
  rw [e2, show (4294967295 : Int).toNat = 4294967295 from rfl, e]
  omega
set_option maxHeartbeats 400000 in
theorem last_any (a n : Int) (w : World) (ha : ad a) (hr : rt a n = true) :
    Calls Tryz.prog 142 #[.agg #[.int .u32 a, .int .i64 n]] w fun e w' => e = .returned (.int .u32 (lst a n)) ∧ Below w.heap.size w w' := by
  obtain ⟨h0, h1, h2⟩ := rt_iff.1 hr
  have e := or_low a n h0 h1 ha.1 ha.2 h2
  have hp := sz_pos n
  have hl := sz_le n h0
  have hE : Hid (lst a n = a + sz n - 1) := rfl
  go_enter Tryz.func142, Tryz.ntmps142
  go_wp2
  go_quiet ((go_at_call 180; exact Calls.quiet_of_same (mask_any _ _ h0 h1)))
  go_wp2
  go_ret
  refine ⟨ret_int ?_, (by repeat' (first | with_reducible assumption | with_reducible exact Below.refl _ _ | with_reducible apply Below.drew | with_reducible apply below_drewN | with_reducible apply Below.setCell | with_reducible apply Below.alloc | omega | (simp; done) | (simp; omega)))⟩
  rw [xor_mask n h0 h1, e]; rfl
set_option maxRecDepth 100000 in
set_option maxHeartbeats 1000000 in
theorem usable_any (h : Hd) (w : World) (ha : ad h.a) (hr : rt h.a h.n = true) :
    Calls Tryz.prog 100 #[vH h] w fun e w' => e = .returned (.tuple #[.int .u32 (useA h.a h.n), .int .u32 (useZ h.a h.n)]) ∧ Below w.heap.size w w' := by
  have hb : Hid (∀ w, Calls Tryz.prog 141 #[vH h] w fun e w' => e = .returned (.int .u32 h.a) ∧ Below w.heap.size w w') := fun w => hbase_any h w
  have hl : Hid (∀ w, Calls Tryz.prog 142 #[.agg #[.int .u32 h.a, .int .i64 h.n]] w fun e w' => e = .returned (.int .u32 (lst h.a h.n)) ∧ Below w.heap.size w w') := fun w => last_any h.a h.n w ha hr
  obtain ⟨h0, h1, h2⟩ := rt_iff.1 hr
  have hp := sz_pos h.n
  have he := end_le h.a h.n h0 h1 ha.1 ha.2 h2
  have h30 : h.n ≤ 30 → 4 ≤ sz h.n := fun hn => by
    have a1 := sz_succ h.n (by omega)
    have a2 := sz_succ (h.n + 1) (by omega)
    have a3 := sz_pos (h.n + 1 + 1)
    omega
  have hq1 : h.a ≤ lst h.a h.n ∧ lst h.a h.n < 4294967296 := by unfold lst; omega
  have hq2 : h.n ≤ 30 → h.a + 3 ≤ lst h.a h.n := fun hn => by have := h30 hn; unfold lst; omega
  have ha1 := ha.1
  clear hp he h30
  unfold useA useZ
  generalize lst h.a h.n = q at hl hq1 hq2 ⊢
  obtain ⟨q0, q1⟩ := hq1
  obtain ⟨a, n, o⟩ := h
  unfold vH at hb
  unfold vH
  dsimp only at *
  clear ha hr h2
  by_cases hn : n ≤ 30
  · have h4 := hq2 hn
    have u1 : IntKind.u32.wrap (a + 1) = a + 1 := by rw [IntKind.wrap_u32']; omega
    have u2 : IntKind.u32.wrap (q - 1) = q - 1 := by rw [IntKind.wrap_u32']; omega
    rw [if_pos hn, if_pos hn]
    go_enter Tryz.func100, Tryz.ntmps100
    go_wp2
    go_region_with (first | (go_at_call 141; refine (hb.out _).mono ?_; rintro e w1 ⟨rfl, hb1⟩; have HB1 : Hid (Below w.heap.size w w1) := bup (by repeat' (first | with_reducible assumption | with_reducible exact Below.refl _ _ | with_reducible apply Below.drew | with_reducible apply below_drewN | with_reducible apply Below.setCell | with_reducible apply Below.alloc | omega | (simp; done) | (simp; omega))) hb1; have k0 : w1.cell? ⟨w.heap.size, 0, none⟩ = some (.int .u32 a) := (by rw [hb1.cell (p := ⟨w.heap.size, 0, none⟩) (by simp)]; simp [go_sem]); have k1 : w1.cell? ⟨w.heap.size, 1, none⟩ = some (.int .i64 n) := (by rw [hb1.cell (p := ⟨w.heap.size, 1, none⟩) (by simp)]; simp [go_sem]); have z1 : w.heap.size < w1.heap.size := (by have := hb1.size; simp at this; omega); clear hb1) | (go_at_call 142; refine (hl.out _).mono ?_; rintro e w2 ⟨rfl, hb2⟩; have HB2 : Hid (Below w.heap.size w w2) := bup HB1.out hb2; have j1 : w2.cell? ⟨w.heap.size, 1, none⟩ = some (.int .i64 n) := (hb2.cell (p := ⟨w.heap.size, 1, none⟩) z1).trans k1; clear hb2))
    all_goals (
      go_wp2
      go_ret2
      exact ⟨by first | rfl | (simp [u1, u2]; done), HB2.out⟩)
  · rw [if_neg hn, if_neg hn]
    go_enter Tryz.func100, Tryz.ntmps100
    go_wp2
    go_region_with (first | (go_at_call 141; refine (hb.out _).mono ?_; rintro e w1 ⟨rfl, hb1⟩; have HB1 : Hid (Below w.heap.size w w1) := bup (by repeat' (first | with_reducible assumption | with_reducible exact Below.refl _ _ | with_reducible apply Below.drew | with_reducible apply below_drewN | with_reducible apply Below.setCell | with_reducible apply Below.alloc | omega | (simp; done) | (simp; omega))) hb1; have k0 : w1.cell? ⟨w.heap.size, 0, none⟩ = some (.int .u32 a) := (by rw [hb1.cell (p := ⟨w.heap.size, 0, none⟩) (by simp)]; simp [go_sem]); have k1 : w1.cell? ⟨w.heap.size, 1, none⟩ = some (.int .i64 n) := (by rw [hb1.cell (p := ⟨w.heap.size, 1, none⟩) (by simp)]; simp [go_sem]); have z1 : w.heap.size < w1.heap.size := (by have := hb1.size; simp at this; omega); clear hb1) | (go_at_call 142; refine (hl.out _).mono ?_; rintro e w2 ⟨rfl, hb2⟩; have HB2 : Hid (Below w.heap.size w w2) := bup HB1.out hb2; have j1 : w2.cell? ⟨w.heap.size, 1, none⟩ = some (.int .i64 n) := (hb2.cell (p := ⟨w.heap.size, 1, none⟩) z1).trans k1; clear hb2))
    all_goals (
      go_wp2
      go_ret2
      exact ⟨rfl, HB2.out⟩)
/-- where a lease is or would be -/
theorem findL_any (x : Nat) (ls : List Ls) (a : Int) (vl : Value) (w : World) (cx : w.cell? ⟨x, 2, none⟩ = some vl) (hr : Rd 2 encL ls0 w vl ls) (hn : ls.length ≤ 1000) (hs : Up Ls.a ls0 ls) :
    Calls Tryz.prog 101 #[.pointer (some ⟨x, 0, none⟩), .int .u32 a] w fun e w' => e = .returned (.tuple #[.int .i64 (cntL ls a : Nat), .bool (hasL ls a)]) ∧ Below w.heap.size w w' := by
  have hb : Hid (Calls Tryz.prog 143 #[vl, .int .u32 a, .func (.func 144) #[] #[]] w fun e w' => e = .returned (.tuple #[.int .i64 (cntL ls a : Nat), .bool (hasL ls a)]) ∧ Below w.heap.size w w') := bsL ls a vl w hr hs hn
  obtain ⟨b, cap, rfl, _⟩ := hr
  generalize cntL ls a = cn at hb ⊢
  generalize hasL ls a = fb at hb ⊢
  clear hs hn
  go_enter Tryz.func101, Tryz.ntmps101
  go_wp2_with (go_at_call 143; refine hb.out.mono ?_; rintro e w1 ⟨rfl, hb1⟩)
  go_ret2
  exact ⟨rfl, hb1⟩
end Go.Proofs.YtlikdnmikdldfaaGreatDoor
namespace Go.Proofs.YtlikdnmikdldfaaGreatDoor
open Go.ChangeShapes Go.WideShapes Go.ChangeAt Go.RowKit
set_option linter.unusedVariables false
set_option linter.unusedSimpArgs false

def lnC (l : Ln) : Array Value := #[.int .i64 l.v, .string l.t, .string l.o, .int .u32 l.a, .int .i64 l.n, .int .u32 l.d, .int .i64 l.g]
def encS (s : ByteArray) : List Value := [.string s]
/-- what holds of every book -/
structure Inv (s : Bk) : Prop where
  p : s.pools.length ≤ 6
  n : s.nets.length ≤ 24
  l : s.leases.length ≤ 40
  t : s.toks.length ≤ 8
  pa : ∀ h, h ∈ s.pools → ad h.a ∧ rt h.a h.n = true ∧ 8 ≤ h.n ∧ h.n ≤ 30 ∧ h.o.size ≤ 8
  na : ∀ h, h ∈ s.nets → ad h.a ∧ rt h.a h.n = true ∧ 22 ≤ h.n ∧ h.o.size ≤ 8
  la : ∀ h, h ∈ s.leases → ad h.a ∧ h.o.size ≤ 8
  pu : Up Hd.a hd0 s.pools
  nu : Up Hd.a hd0 s.nets
  lu : Up Ls.a ls0 s.leases
/-- what holds of every line that was read -/
structure LnOk (l : Ln) : Prop where
  a : ad l.a
  d : ad l.d
  r : rt l.a l.n = true
  g0 : 0 ≤ l.g
  g1 : l.g ≤ 32
  o : l.o.size ≤ 8
/-- a book's place -/
structure BA (w : World) (x : Nat) (S : Nat → Prop) (vp vn vl : Value) (c : Nat) (s : Bk) : Prop where
  blk : Blk w x #[vp, vn, vl, .chan (some c)] 92
  ch : Ch w c s.toks
  op : w.ownsRow 0 142 3 vp s.pools.length (s.pools.flatMap encH)
  on : w.ownsRow 0 166 3 vn s.nets.length (s.nets.flatMap encH)
  ol : w.ownsRow 0 179 2 vl s.leases.length (s.leases.flatMap encL)
  sx : S x
  sc : S c
  sp : ∀ b, vp.ownBlock = some b → S b
  sn : ∀ b, vn.ownBlock = some b → S b
  sl : ∀ b, vl.ownBlock = some b → S b
  sz : ∀ b, S b → b < w.heap.size
def BkAt (w : World) (x : Nat) (S : Nat → Prop) (s : Bk) : Prop := ∃ vp vn vl c, BA w x S vp vn vl c s
theorem Ch.same {w w' : World} {c : Nat} {l : List Tk} (h : Ch w c l) (e : w'.heap[c]? = w.heap[c]?) : Ch w' c l := by obtain ⟨s, r, h⟩ := h; exact ⟨s, r, e.trans h⟩
theorem owns_same {w w' : World} {B : Nat} {t : TypeId} {k : Nat} {v : Value} {n : Nat} {xs : List Value} (h : w.ownsRow B t k v n xs) (e : ∀ b, v.ownBlock = some b → w'.heap[b]? = w.heap[b]?) : w'.ownsRow B t k v n xs := by
  refine ⟨h.1, ?_⟩
  rcases h.2 with hn | ⟨g, cap, cur, rfl, h1, hg, rest⟩
  · exact .inl hn
  · exact .inr ⟨g, cap, cur, rfl, h1, (e g rfl).trans hg, rest⟩
theorem owns_lt {w : World} {B : Nat} {t : TypeId} {k : Nat} {v : Value} {n : Nat} {xs : List Value} (h : w.ownsRow B t k v n xs) : ∀ b, v.ownBlock = some b → b < w.heap.size ∧ ∃ cur, w.heap[b]? = some (.cells cur t (0, 0)) := fun b e => by
  rcases h.2 with ⟨rfl, _⟩ | ⟨g, cap, cur, rfl, h1, hg, _⟩
  · cases e
  · obtain rfl : g = b := by simpa [Value.ownBlock] using e
    exact ⟨(Array.getElem?_eq_some_iff.1 hg).1, cur, hg⟩
theorem BA.same {w w' : World} {x : Nat} {S : Nat → Prop} {vp vn vl : Value} {c : Nat} {s : Bk} (h : BA w x S vp vn vl c s) (e : ∀ b, S b → w'.heap[b]? = w.heap[b]?) (hz : w.heap.size ≤ w'.heap.size) : BA w' x S vp vn vl c s :=
  ⟨(e x h.sx).trans h.blk, h.ch.same (e c h.sc), owns_same h.op fun b k => e b (h.sp b k), owns_same h.on fun b k => e b (h.sn b k), owns_same h.ol fun b k => e b (h.sl b k), h.sx, h.sc, h.sp, h.sn, h.sl, fun b k => Nat.lt_of_lt_of_le (h.sz b k) hz⟩
theorem BA.below {w w' : World} {x : Nat} {S : Nat → Prop} {vp vn vl : Value} {c : Nat} {s : Bk} (h : BA w x S vp vn vl c s) (hb : Below w.heap.size w w') : BA w' x S vp vn vl c s := h.same (fun b k => hb.block b (h.sz b k)) hb.size
theorem BkAt.below {w w' : World} {x : Nat} {S : Nat → Prop} {s : Bk} (h : BkAt w x S s) (hb : Below w.heap.size w w') : BkAt w' x S s := by obtain ⟨vp, vn, vl, c, h⟩ := h; exact ⟨vp, vn, vl, c, h.below hb⟩
/-- another book's lines leave this one alone -/
theorem BkAt.chg {w w' : World} {x : Nat} {S S' : Nat → Prop} {s : Bk} (h : BkAt w x S s) (hc : Chg S' w w') (hd : ∀ b, S b → ¬ S' b) : BkAt w' x S s := by
  obtain ⟨vp, vn, vl, c, h⟩ := h
  exact ⟨vp, vn, vl, c, h.same (fun b k => hc.block b (h.sz b k) (hd b k)) hc.size⟩
/-- an answer's value, and the book behind it -/
def Res (w : World) (x : Nat) (S : Nat → Prop) (r : Bk × An) (e : Ending) (w' : World) : Prop := ∃ v S', e = .returned (.agg #[.int .i64 r.2.e, v]) ∧ Rd 1 encS ⟨#[]⟩ w' v r.2.s ∧ BkAt w' x S' r.1 ∧ (∀ b, S' b → S b ∨ w.heap.size ≤ b) ∧ Chg S w w'
theorem rd_nil {α : Type} (k : Nat) (enc : α → List Value) (d : α) (w : World) : Rd k enc d w (.slice none 0 0) [] := ⟨none, 0, rfl, Nat.le_refl _, by unfold maxLen; omega, fun h => absurd rfl h⟩
theorem res_same {w w' : World} {x : Nat} {S : Nat → Prop} {s : Bk} (k : Nat) (h : BkAt w x S s) (hb : Below w.heap.size w w') : Res w x S (s, ref k) (.returned (.agg #[.int .i64 k, .slice none 0 0])) w' :=
  ⟨.slice none 0 0, S, rfl, rd_nil _ _ _ _, h.below hb, fun b k => .inl k, Chg.below hb⟩
/-- the book's rows have other types than the book, and than one another -/
theorem BA.apart {w : World} {x : Nat} {S : Nat → Prop} {vp vn vl : Value} {c : Nat} {s : Bk} (h : BA w x S vp vn vl c s) :
    (∀ b, vp.ownBlock = some b → b ≠ x ∧ b ≠ c ∧ vn.ownBlock ≠ some b ∧ vl.ownBlock ≠ some b) ∧ (∀ b, vn.ownBlock = some b → b ≠ x ∧ b ≠ c ∧ vp.ownBlock ≠ some b ∧ vl.ownBlock ≠ some b) ∧ (∀ b, vl.ownBlock = some b → b ≠ x ∧ b ≠ c ∧ vp.ownBlock ≠ some b ∧ vn.ownBlock ≠ some b) := by
  have hx := h.blk
  obtain ⟨s1, r1, hc⟩ := h.ch
  have hp := owns_lt h.op
  have hn := owns_lt h.on
  have hl := owns_lt h.ol
  unfold Blk at hx
  refine ⟨fun b e => ?_, fun b e => ?_, fun b e => ?_⟩
  · obtain ⟨_, cur, q⟩ := hp b e
    refine ⟨?_, ?_, fun k => ?_, fun k => ?_⟩
    · rintro rfl; rw [hx] at q; simp at q
    · rintro rfl; rw [hc] at q; simp at q
    · obtain ⟨_, cur2, q2⟩ := hn b k; rw [q] at q2; simp at q2
    · obtain ⟨_, cur2, q2⟩ := hl b k; rw [q] at q2; simp at q2
  · obtain ⟨_, cur, q⟩ := hn b e
    refine ⟨?_, ?_, fun k => ?_, fun k => ?_⟩
    · rintro rfl; rw [hx] at q; simp at q
    · rintro rfl; rw [hc] at q; simp at q
    · obtain ⟨_, cur2, q2⟩ := hp b k; rw [q] at q2; simp at q2
    · obtain ⟨_, cur2, q2⟩ := hl b k; rw [q] at q2; simp at q2
  · obtain ⟨_, cur, q⟩ := hl b e
    refine ⟨?_, ?_, fun k => ?_, fun k => ?_⟩
    · rintro rfl; rw [hx] at q; simp at q
    · rintro rfl; rw [hc] at q; simp at q
    · obtain ⟨_, cur2, q2⟩ := hp b k; rw [q] at q2; simp at q2
    · obtain ⟨_, cur2, q2⟩ := hn b k; rw [q] at q2; simp at q2
theorem BA.xc {w : World} {x : Nat} {S : Nat → Prop} {vp vn vl : Value} {c : Nat} {s : Bk} (h : BA w x S vp vn vl c s) : x ≠ c := by
  rintro rfl
  obtain ⟨s1, r1, hc⟩ := h.ch
  have hx := h.blk
  unfold Blk at hx
  rw [hx] at hc; simp at hc

set_option maxHeartbeats 400000 in
theorem refuse_any (k : Nat) (w : World) : Calls Tryz.prog 31 #[.int .i64 k] w fun e w' => e = .returned (.agg #[.int .i64 k, .slice none 0 0]) ∧ Below w.heap.size w w' := by
  go_enter Tryz.func31, Tryz.ntmps31
  go_wp2
  go_returns
  exact ⟨rfl, (by repeat' (first | with_reducible assumption | with_reducible exact Below.refl _ _ | with_reducible apply Below.drew | with_reducible apply below_drewN | with_reducible apply Below.setCell | with_reducible apply Below.alloc | omega | (simp; done) | (simp; omega)))⟩
set_option maxHeartbeats 400000 in
theorem ok_any (b : Option Addr) (n c : Nat) (w : World) : Calls Tryz.prog 81 #[.slice b n c] w fun e w' => e = .returned (.agg #[.int .i64 0, .slice b n c]) ∧ Below w.heap.size w w' := by
  go_enter Tryz.func81, Tryz.ntmps81
  go_wp2
  go_returns
  exact ⟨rfl, (by repeat' (first | with_reducible assumption | with_reducible exact Below.refl _ _ | with_reducible apply Below.drew | with_reducible apply below_drewN | with_reducible apply Below.setCell | with_reducible apply Below.alloc | omega | (simp; done) | (simp; omega)))⟩
end Go.Proofs.YtlikdnmikdldfaaGreatDoor
namespace Go.Proofs.YtlikdnmikdldfaaGreatDoor
open Go.ChangeShapes Go.WideShapes Go.ChangeAt Go.RowKit
set_option linter.unusedVariables false
set_option linter.unusedSimpArgs false
theorem isOK_any (k : Nat) (b : Option Addr) (n c : Nat) (w : World) : Calls Tryz.prog 52 #[.agg #[.int .i64 k, .slice b n c]] w fun e w' => e = .returned (.bool (decide (k = 0))) ∧ Below w.heap.size w w' := by
  go_enter Tryz.func52, Tryz.ntmps52
  go_wp2
  by_cases hk : k = 0
  · subst hk
    go_returns
    exact ⟨rfl, (by repeat' (first | with_reducible assumption | with_reducible exact Below.refl _ _ | with_reducible apply Below.drew | with_reducible apply below_drewN | with_reducible apply Below.setCell | with_reducible apply Below.alloc | omega | (simp; done) | (simp; omega)))⟩
  · have h2 : ¬ ((k : Int) = 0) := by omega
    go_returns
    exact ⟨by simp [hk], (by repeat' (first | with_reducible assumption | with_reducible exact Below.refl _ _ | with_reducible apply Below.drew | with_reducible apply below_drewN | with_reducible apply Below.setCell | with_reducible apply Below.alloc | omega | (simp; done) | (simp; omega)))⟩
end Go.Proofs.YtlikdnmikdldfaaGreatDoor
namespace Go.Proofs.YtlikdnmikdldfaaGreatDoor
open Go.ChangeShapes Go.WideShapes Go.ChangeAt Go.RowKit
set_option linter.unusedVariables false
set_option linter.unusedSimpArgs false

abbrev IsB (B b : Nat) (l : List UInt8) (w : World) : Prop := Lib.IsBuilder 126 5 B b (Lib.byteCells l) w
theorem wstr_any (B b : Nat) (l : List UInt8) (s : ByteArray) (w : World) (h : IsB B b l w) (hl : l.length + s.size ≤ 1000000) (hB : B ≤ w.heap.size) :
    Calls Tryz.prog 53 #[.pointer (some ⟨b, 0, none⟩), .string s] w fun e w' => e = .returned (.tuple #[.int .i64 s.size, .nilIface]) ∧ IsB B b (l ++ s.data.toList) w' ∧ Below B w w' := by
  refine (Any.Builder_WriteString { Tryz.lays156 with } Tryz.Builder_Extra_156 B b (Lib.byteCells l) s w h (by rw [Lib.byteCells_length]; omega) hB).mono ?_
  rintro e w' ⟨rfl, h1, h2⟩
  refine ⟨rfl, ?_, h2⟩
  have e1 : Lib.byteCells (l ++ s.data.toList) = Lib.byteCells l ++ Lib.strCells s := by rw [Lib.strCells_eq]; simp [Lib.byteCells]
  show Lib.IsBuilder _ _ B b (Lib.byteCells (l ++ s.data.toList)) w'
  rw [e1]
  exact .inr h1
theorem bstr_any (B b : Nat) (l : List UInt8) (w : World) (h : IsB B b l w) (hB : B ≤ w.heap.size) :
    Calls Tryz.prog 54 #[.pointer (some ⟨b, 0, none⟩)] w fun e w' => e = .returned (.string ⟨l.toArray⟩) ∧ Below B w w' := Tryz.Builder_String_any B b l w h hB
set_option maxRecDepth 100000 in
set_option maxHeartbeats 400000 in
theorem text_ref (k : Nat) (h0 : ¬ k = 0) (hk : k < 14) (b : Option Addr) (n c : Nat) (t0 t1 : ByteArray) (h1 : t0.size ≤ 10) (h2 : t1.size ≤ 10) (w : World) (hz : 1 < w.heap.size) (c0 : w.cell? ⟨1, 1, none⟩ = some (.string t0)) (c1 : w.cell? ⟨1, k, none⟩ = some (.string t1)) :
    Calls Tryz.prog 32 #[.agg #[.int .i64 k, .slice b n c]] w fun e w' => e = .returned (.string (t0 ++ ⟨#[32]⟩ ++ t1)) ∧ Below w.heap.size w w' := by
  have HI : Hid (∀ W, Calls Tryz.prog 52 #[.agg #[.int .i64 k, .slice b n c]] W fun e w' => e = .returned (.bool (decide (k = 0))) ∧ Below W.heap.size W w') := fun W => isOK_any k b n c W
  rw [decide_eq_false h0] at HI
  have hk1 : (k : Int) < 14 := by omega
  have hk2 : (0 : Int) ≤ (k : Int) := by omega
  have hs1 : ¬ 9223372036854775807 < t0.size + 1 := by omega
  have hs2 : ¬ 9223372036854775807 < t0.size + 1 + t1.size := by omega
  have HC0 : Hid (w.cell? ⟨1, 1, none⟩ = some (.string t0)) := c0
  have HC1 : Hid (w.cell? ⟨1, k, none⟩ = some (.string t1)) := c1
  clear c0 c1 h0
  go_enter Tryz.func32, Tryz.ntmps32
  go_wp2_with (go_at_call 52; refine (HI.out _).mono ?_; rintro e w1 ⟨rfl, hq1⟩; have hb1 : Hid (Below w.heap.size w w1) := Below.trans (B := w.heap.size) (a := w) (by repeat' (first | with_reducible assumption | with_reducible exact Below.refl _ _ | with_reducible apply Below.drew | with_reducible apply below_drewN | with_reducible apply Below.setCell | with_reducible apply Below.alloc | omega | (simp; done) | (simp; omega))) (hq1.mono (by simp)); have B1 : Hid (Blk w1 w.heap.size #[.int .i64 k, .slice b n c] 79) := (Blk.new w #[.int .i64 k, .slice b n c] 79).below hq1; clear hq1; have d0 : w1.cell? ⟨1, 1, none⟩ = some (.string t0) := (hb1.out.cell (p := ⟨1, 1, none⟩) hz).trans HC0.out; have d1 : w1.cell? ⟨1, k, none⟩ = some (.string t1) := (hb1.out.cell (p := ⟨1, k, none⟩) hz).trans HC1.out; have d2 : w1.cell? ⟨w.heap.size, 0, none⟩ = some (.int .i64 k) := B1.out.cell 0)
  go_region_held3 (fun w' => w'.cell? ⟨1, 1, none⟩ = some (.string t0) ∧ w'.cell? ⟨1, k, none⟩ = some (.string t1) ∧ w'.cell? ⟨w.heap.size, 0, none⟩ = some (.int .i64 k)) (go_keep) (fail)
  all_goals (
    go_wp2
    go_ret
    have hq := hb1.out
    have hz1 := hq.size
    exact ⟨rfl, (by repeat' (first | with_reducible assumption | with_reducible exact Below.refl _ _ | with_reducible apply Below.drew | with_reducible apply below_drewN | with_reducible apply Below.setCell | with_reducible apply Below.alloc | omega | (simp; done) | (simp; omega)))⟩)
def accT (L : List ByteArray) (k : Nat) : List UInt8 := [79, 75] ++ (L.take k).flatMap (fun t => 32 :: t.data.toList)
theorem accT_next (L : List ByteArray) (k : Nat) (hk : k < L.length) : accT L (k + 1) = accT L k ++ [32] ++ (L.getD k ⟨#[]⟩).data.toList := by
  unfold accT
  rw [List.take_succ_eq_append_getElem hk, List.flatMap_append, List.getD_eq_getElem?_getD, List.getElem?_eq_getElem hk]
  simp
theorem accT_len (L : List ByteArray) (hL : ∀ t, t ∈ L → t.size ≤ 100) (k : Nat) : (accT L k).length ≤ 2 + 101 * k := by
  induction k with
  | zero => simp [accT]
  | succ k ih =>
    by_cases hk : k < L.length
    · rw [accT_next L k hk]
      have h1 : (L.getD k ⟨#[]⟩).data.toList.length ≤ 100 := by
        have := hL (L.getD k ⟨#[]⟩) (by rw [List.getD_eq_getElem?_getD, List.getElem?_eq_getElem hk]; exact List.getElem_mem hk)
        have e := Lib.size_eq (L.getD k ⟨#[]⟩)
        omega
      simp only [List.length_append, List.length_cons, List.length_nil]
      omega
    · have e : accT L (k + 1) = accT L k := by unfold accT; rw [List.take_of_length_le (by omega), List.take_of_length_le (by omega)]
      rw [e]; omega
set_option maxRecDepth 100000 in
set_option maxHeartbeats 1000000 in
theorem text_ok (L : List ByteArray) (hn : L.length ≤ 1000) (hL : ∀ t, t ∈ L → t.size ≤ 100) (v : Value) (w : World) (hz : 1 < w.heap.size) (c0 : w.cell? ⟨1, 0, none⟩ = some (.string ⟨#[79, 75]⟩)) (hr : Rd 1 encS ⟨#[]⟩ w v L) :
    Calls Tryz.prog 32 #[.agg #[.int .i64 0, v]] w fun e w' => e = .returned (.string ⟨(accT L L.length).toArray⟩) ∧ Below w.heap.size w w' := by
  obtain ⟨b, c, rfl, hc1, hc2, hc3⟩ := hr
  have HI : Hid (∀ W, Calls Tryz.prog 52 #[.agg #[.int .i64 0, .slice b L.length c]] W fun e w' => e = .returned (.bool true) ∧ Below W.heap.size W w') := fun W => isOK_any 0 b L.length c W
  have HC0 : Hid (w.cell? ⟨1, 0, none⟩ = some (.string ⟨#[79, 75]⟩)) := c0
  have HC3 : Hid (L ≠ [] → ∃ g, b = some ⟨g, 0, none⟩ ∧ g < w.heap.size ∧ ∀ j, j < L.length → ∀ i u, (encS (L.getD j ⟨#[]⟩))[i]? = some u → w.cell? ⟨g, j * 1 + i, none⟩ = some u) := hc3
  have HLL : Hid (∀ t, t ∈ L → t.size ≤ 100) := hL
  obtain ⟨n, hnn⟩ : ∃ n, n = L.length := ⟨_, rfl⟩
  have HNN : Hid (n = L.length) := hnn
  rw [← hnn] at HI hc1 hn ⊢
  clear c0 hc3 hL hnn
  go_enter Tryz.func32, Tryz.ntmps32
  go_wp2_with (first | (go_at_call 52; refine (HI.out _).mono ?_; rintro e w1 ⟨rfl, hq1⟩; have hb1 : Hid (Below w.heap.size w w1) := Below.trans (B := w.heap.size) (a := w) (by repeat' (first | with_reducible assumption | with_reducible exact Below.refl _ _ | with_reducible apply Below.drew | with_reducible apply below_drewN | with_reducible apply Below.setCell | with_reducible apply Below.alloc | omega | (simp; done) | (simp; omega))) (hq1.mono (by simp)); have B1 : Hid (Blk w1 w.heap.size #[.int .i64 0, .slice b n c] 79) := (Blk.new w #[.int .i64 0, .slice b n c] 79).below hq1; clear hq1; have d0 : w1.cell? ⟨1, 0, none⟩ = some (.string ⟨#[79, 75]⟩) := (hb1.out.cell (p := ⟨1, 0, none⟩) hz).trans HC0.out; have z1 : 1 < w1.heap.size := Nat.lt_of_lt_of_le hz hb1.out.size) | (go_at_call 53; refine (wstr_any w1.heap.size w1.heap.size [] ⟨#[79, 75]⟩ _ (Lib.fresh_isBuilder 126 5 w1) (by decide) (by simp)).mono ?_; rintro e w2 ⟨rfl, ib2, hq2⟩; replace ib2 : Hid (IsB w1.heap.size w1.heap.size (accT L 0) w2) := (by have e : accT L 0 = [] ++ (⟨#[79, 75]⟩ : ByteArray).data.toList := (by simp [accT]); rw [e]; exact ib2); have hb2 : Hid (Below w1.heap.size w1 w2) := Below.trans (B := w1.heap.size) (a := w1) (by repeat' (first | with_reducible assumption | with_reducible exact Below.refl _ _ | with_reducible apply Below.drew | with_reducible apply below_drewN | with_reducible apply Below.setCell | with_reducible apply Below.alloc | omega | (simp; done) | (simp; omega))) hq2; clear hq2; have d1 : w2.cell? ⟨w.heap.size, 1, none⟩ = some (.slice b n c) := (hb2.out.cell (p := ⟨w.heap.size, 1, none⟩) B1.out.lt).trans (B1.out.cell 1)))
  go_loopw [23] (fun i wr => ∃ k : Nat, k ≤ n ∧ i = .int .i64 k ∧ Hid (IsB w1.heap.size w1.heap.size (accT L k) wr ∧ Below w1.heap.size w1 wr)) (fun i _ => (n - intOf i).toNat)
  case atStart => exact ⟨0, by omega, rfl, ib2.out, hb2.out⟩
  case round =>
    obtain ⟨k, hkn, rfl, H⟩ := hrel
    by_cases hlt : k < n
    · have hk : k < L.length := by rw [← HNN.out]; exact hlt
      obtain ⟨g, rfl, hg, hgc⟩ := HC3.out (by intro e; rw [e] at hk; simp at hk)
      obtain ⟨t, ht⟩ : ∃ t, t = L.getD k ⟨#[]⟩ := ⟨_, rfl⟩
      have hld : wr.cell? ⟨g, k, none⟩ = some (.string t) := by
        have h1 := hgc k hk 0 (.string t) (by rw [ht]; rfl)
        rw [Nat.mul_one, Nat.add_zero] at h1
        exact (H.out.2.cell (p := ⟨g, k, none⟩) (Nat.lt_of_lt_of_le hg hb1.out.size)).trans ((hb1.out.cell (p := ⟨g, k, none⟩) hg).trans h1)
      have hts : Hid (t.size ≤ 100) := by rw [ht]; exact HLL.out _ (by rw [List.getD_eq_getElem?_getD, List.getElem?_eq_getElem hk]; exact List.getElem_mem hk)
      have HA : Hid (accT L (k + 1) = accT L k ++ [32] ++ t.data.toList) := by rw [ht]; exact accT_next L k hk
      have HAL : Hid ((accT L k).length ≤ 2 + 101 * k) := accT_len L HLL.out k
      have hlt2 : (k : Int) < (n : Int) := by omega
      have hk0 : (0 : Int) ≤ (k : Int) := by omega
      clear hgc ht hk
      go_wp2_with (go_at_call 53; first | (refine (wstr_any w1.heap.size w1.heap.size _ t _ ib3.out.1 (by have := HAL.out; have := hts.out; simp only [List.length_append, List.length_cons, List.length_nil]; omega) ib3.out.2.size).mono ?_; rintro e w4 ⟨rfl, ib4, hq4⟩; replace ib4 : Hid (IsB w1.heap.size w1.heap.size (accT L (k + 1)) w4 ∧ Below w1.heap.size w1 w4) := (by rw [HA.out]; exact ⟨ib4, ib3.out.2.trans hq4⟩); clear hq4) | (refine (wstr_any w1.heap.size w1.heap.size _ ⟨#[32]⟩ _ H.out.1 (by have := HAL.out; show _ + 1 ≤ _; omega) H.out.2.size).mono ?_; rintro e w3 ⟨rfl, ib3, hq3⟩; replace ib3 : Hid (IsB w1.heap.size w1.heap.size (accT L k ++ [32]) w3 ∧ Below w1.heap.size w1 w3) := ⟨ib3, H.out.2.trans hq3⟩; clear hq3))
      go_roundw
      case rel => exact ⟨k + 1, by omega, by simp, ib4.out⟩
      case measure => simp [intOf]; omega
    · obtain rfl : k = n := by omega
      have hlt2 : ¬ (k : Int) < (k : Int) := by omega
      go_wp2_with (go_at_call 54; refine (bstr_any w1.heap.size w1.heap.size _ _ (by first | exact H.out.1 | exact Or.elim H.out.1 (fun q => .inl q) (fun q => .inr q)) H.out.2.size).mono ?_; rintro e w5 ⟨rfl, hq5⟩; have hb5 : Hid (Below w1.heap.size w1 w5) := H.out.2.trans hq5; clear hq5)
      go_ret
      exact ⟨rfl, hb1.out.trans (hb5.out.mono hb1.out.size)⟩
theorem words_at (k : Nat) (h : k < 14) : wordsC[k]? = some (.string ⟨(wordsT.getD k []).toArray⟩) ∧ (⟨(wordsT.getD k []).toArray⟩ : ByteArray).size ≤ 10 := by
  have hc : k = 0 ∨ k = 1 ∨ k = 2 ∨ k = 3 ∨ k = 4 ∨ k = 5 ∨ k = 6 ∨ k = 7 ∨ k = 8 ∨ k = 9 ∨ k = 10 ∨ k = 11 ∨ k = 12 ∨ k = 13 := by omega
  rcases hc with rfl | rfl | rfl | rfl | rfl | rfl | rfl | rfl | rfl | rfl | rfl | rfl | rfl | rfl <;> exact ⟨rfl, by decide⟩
/-- an answer is written as it is told -/
theorem atext_any (a : An) (ha : a.e < 14) (hn : a.s.length ≤ 1000) (hL : ∀ t, t ∈ a.s → t.size ≤ 100) (v : Value) (w : World) (E : EnvT w) (hr : Rd 1 encS ⟨#[]⟩ w v a.s) :
    Calls Tryz.prog 32 #[.agg #[.int .i64 a.e, v]] w fun e w' => e = .returned (.string ⟨(anText a).toArray⟩) ∧ Below w.heap.size w w' := by
  by_cases h0 : a.e = 0
  · have h := text_ok a.s hn hL v w E.lw (E.wd 0 _ rfl) hr
    have e : anText a = accT a.s a.s.length := by unfold anText accT; rw [if_pos h0, List.take_length]
    rw [e, h0]
    exact h
  · obtain ⟨b, c, rfl, _⟩ := hr
    have h1 := words_at 1 (by omega)
    have hk := words_at a.e ha
    have h := text_ref a.e h0 ha b a.s.length c _ _ h1.2 hk.2 w E.lw (E.wd 1 _ h1.1) (E.wd a.e _ hk.1)
    have e : (⟨(anText a).toArray⟩ : ByteArray) = ⟨(wordsT.getD 1 []).toArray⟩ ++ ⟨#[32]⟩ ++ ⟨(wordsT.getD a.e []).toArray⟩ := by
      unfold anText
      rw [if_neg h0, show (⟨#[32]⟩ : ByteArray) = bs [32] from rfl, show (⟨(wordsT.getD 1 []).toArray⟩ : ByteArray) = bs [69, 82, 82] from rfl]
      show bs _ = bs _ ++ bs _ ++ bs _
      rw [bs_append, bs_append]
      rfl
    rw [e]
    exact h
end Go.Proofs.YtlikdnmikdldfaaGreatDoor
namespace Go.Proofs.YtlikdnmikdldfaaGreatDoor
open Go.ChangeShapes Go.WideShapes Go.ChangeAt Go.RowKit
set_option linter.unusedVariables false
set_option linter.unusedSimpArgs false

def vbB (k : Nat) : ByteArray := ⟨(verbT.getD k []).toArray⟩
theorem vb_next {s : ByteArray} (k : Nat) (hk : k < 11) (h : ∀ j, j < k → vbB j ≠ s) (hn : vbB k ≠ s) : ∀ j, j < k + 1 → vbB j ≠ s := fun j hj => by
  rcases Nat.lt_or_ge j k with q | q
  · exact h j q
  · obtain rfl : j = k := by omega
    exact hn
theorem vb_ne {s : ByteArray} {j : Nat} (h : vbB j ≠ s) : ((verbT.getD j []) == s.data.toList) = false := by
  simp only [beq_eq_false_iff_ne, ne_eq]
  intro e
  apply h
  unfold vbB
  rw [e]
theorem vb_hit {s : ByteArray} (k : Nat) (hk : k < 11) (h : ∀ j, j < k → vbB j ≠ s) (hn : vbB k = s) : fi (fun v => v == s.data.toList) verbT = k :=
  fi_hit _ verbT [] k hk (fun j hj => vb_ne (h j hj)) (by rw [← hn]; simp [vbB])
theorem vb_miss {s : ByteArray} (h : ∀ j, j < 11 → vbB j ≠ s) : fi (fun v => v == s.data.toList) verbT = -1 := by
  rcases fi_cases (fun v => v == s.data.toList) verbT [] with ⟨e, _⟩ | ⟨k, hk, e, hp, _⟩
  · exact e
  · have := vb_ne (h k hk)
    rw [this] at hp; cases hp
theorem form_at0 (w : World) : (Instr.index 122 (.agg formsC.toList.toArray) (.int .i64 0)).run Tryz.prog w = .ok (.agg #[.string ⟨#[80, 79, 79, 76]⟩, .int .i64 1, .int .i64 2, .int .i64 3, .int .i64 0]) w := by kernel_rfl
theorem form_at1 (w : World) : (Instr.index 122 (.agg formsC.toList.toArray) (.int .i64 1)).run Tryz.prog w = .ok (.agg #[.string ⟨#[68, 82, 79, 80]⟩, .int .i64 1, .int .i64 2, .int .i64 3, .int .i64 0]) w := by kernel_rfl
theorem form_at2 (w : World) : (Instr.index 122 (.agg formsC.toList.toArray) (.int .i64 2)).run Tryz.prog w = .ok (.agg #[.string ⟨#[78, 69, 84]⟩, .int .i64 1, .int .i64 2, .int .i64 3, .int .i64 5]) w := by kernel_rfl
theorem form_at3 (w : World) : (Instr.index 122 (.agg formsC.toList.toArray) (.int .i64 3)).run Tryz.prog w = .ok (.agg #[.string ⟨#[66, 76, 79, 67, 75]⟩, .int .i64 1, .int .i64 2, .int .i64 3, .int .i64 0]) w := by kernel_rfl
theorem form_at4 (w : World) : (Instr.index 122 (.agg formsC.toList.toArray) (.int .i64 4)).run Tryz.prog w = .ok (.agg #[.string ⟨#[70, 82, 69, 69]⟩, .int .i64 1, .int .i64 2, .int .i64 3, .int .i64 0]) w := by kernel_rfl
theorem form_at5 (w : World) : (Instr.index 122 (.agg formsC.toList.toArray) (.int .i64 5)).run Tryz.prog w = .ok (.agg #[.string ⟨#[76, 69, 65, 83, 69]⟩, .int .i64 1, .int .i64 2, .int .i64 3, .int .i64 0]) w := by kernel_rfl
theorem form_at6 (w : World) : (Instr.index 122 (.agg formsC.toList.toArray) (.int .i64 6)).run Tryz.prog w = .ok (.agg #[.string ⟨#[84, 65, 75, 69]⟩, .int .i64 1, .int .i64 2, .int .i64 4, .int .i64 0]) w := by kernel_rfl
theorem form_at7 (w : World) : (Instr.index 122 (.agg formsC.toList.toArray) (.int .i64 7)).run Tryz.prog w = .ok (.agg #[.string ⟨#[71, 73, 86, 69]⟩, .int .i64 1, .int .i64 2, .int .i64 4, .int .i64 0]) w := by kernel_rfl
theorem form_at8 (w : World) : (Instr.index 122 (.agg formsC.toList.toArray) (.int .i64 8)).run Tryz.prog w = .ok (.agg #[.string ⟨#[80, 79, 79, 76, 83]⟩, .int .i64 0, .int .i64 0, .int .i64 0, .int .i64 0]) w := by kernel_rfl
theorem form_at9 (w : World) : (Instr.index 122 (.agg formsC.toList.toArray) (.int .i64 9)).run Tryz.prog w = .ok (.agg #[.string ⟨#[78, 69, 84, 83]⟩, .int .i64 3, .int .i64 0, .int .i64 0, .int .i64 0]) w := by kernel_rfl
theorem form_at10 (w : World) : (Instr.index 122 (.agg formsC.toList.toArray) (.int .i64 10)).run Tryz.prog w = .ok (.agg #[.string ⟨#[85, 83, 69, 68]⟩, .int .i64 3, .int .i64 0, .int .i64 0, .int .i64 0]) w := by kernel_rfl
set_option maxRecDepth 100000 in
set_option maxHeartbeats 4000000 in
theorem readVerb_go (s : ByteArray) (w : World) (E : Hid (EnvT w)) (kv : Int) (fv : Bool) (HK : Hid (kv = (if fi (fun v => v == s.data.toList) verbT < 0 then 0 else fi (fun v => v == s.data.toList) verbT) ∧ fv = !decide (fi (fun v => v == s.data.toList) verbT < 0))) :
    Calls Tryz.prog 50 #[.string s] w fun e w' => e = .returned (.tuple #[.int .i64 kv, .bool fv]) ∧ Below w.heap.size w w' := by
  go_enter Tryz.func50, Tryz.ntmps50
  go_wp2_with (refine wpList_load_mid rfl 122 _ rfl 0 0 rfl formsC.toList _ (fun j v hv => by rw [Nat.zero_add]; exact E.out.fm j v (by simpa using hv)) Tryz.underlying122 rfl (by kernel_rfl) ?_)
  go_loopw [7] (fun i wr => ∃ k : Nat, k ≤ 11 ∧ i = .int .i64 k ∧ Hid (∀ j, j < k → vbB j ≠ s) ∧ Below w.heap.size w wr) (fun i _ => (11 - intOf i).toNat)
  case atStart => exact ⟨0, by omega, rfl, fun j hj => absurd hj (Nat.not_lt_zero j), Below.refl _ _⟩
  case round =>
    obtain ⟨k, hk11, rfl, H, hb⟩ := hrel
    have hc : k = 0 ∨ k = 1 ∨ k = 2 ∨ k = 3 ∨ k = 4 ∨ k = 5 ∨ k = 6 ∨ k = 7 ∨ k = 8 ∨ k = 9 ∨ k = 10 ∨ k = 11 := by omega
    have hz := hb.size
    rcases hc with rfl | rfl | rfl | rfl | rfl | rfl | rfl | rfl | rfl | rfl | rfl | rfl
    · by_cases hk : (⟨#[80, 79, 79, 76]⟩ : ByteArray) = s
      · have hq := (Lib.bytes_beq_iff _ _).2 hk
        rw [show (⟨#[80, 79, 79, 76]⟩ : ByteArray).toList = [80, 79, 79, 76] by decide +kernel] at hq
        have hix := form_at0
        have hfi : fi (fun v => v == s.data.toList) verbT = 0 := vb_hit 0 (by decide) H.out hk
        have HF : Hid _ := hfi
        clear hfi hk
        go_wp2
        go_ret2
        exact ⟨by rw [HK.out.1, HK.out.2, HF.out]; rfl, (by repeat' (first | with_reducible assumption | with_reducible exact Below.refl _ _ | with_reducible apply Below.drew | with_reducible apply below_drewN | with_reducible apply Below.setCell | with_reducible apply Below.alloc | omega | (simp; done) | (simp; omega)))⟩
      · have hq := (Lib.bytes_beq_false_iff _ _).2 hk
        rw [show (⟨#[80, 79, 79, 76]⟩ : ByteArray).toList = [80, 79, 79, 76] by decide +kernel] at hq
        have hix := form_at0
        have HN : Hid _ := vb_next 0 (by decide) H.out hk
        clear hk
        go_wp2
        go_roundw
        case rel => exact ⟨1, by omega, rfl, HN.out, (by repeat' (first | with_reducible assumption | with_reducible exact Below.refl _ _ | with_reducible apply Below.drew | with_reducible apply below_drewN | with_reducible apply Below.setCell | with_reducible apply Below.alloc | omega | (simp; done) | (simp; omega)))⟩
        case measure => simp [intOf]
    · by_cases hk : (⟨#[68, 82, 79, 80]⟩ : ByteArray) = s
      · have hq := (Lib.bytes_beq_iff _ _).2 hk
        rw [show (⟨#[68, 82, 79, 80]⟩ : ByteArray).toList = [68, 82, 79, 80] by decide +kernel] at hq
        have hix := form_at1
        have hfi : fi (fun v => v == s.data.toList) verbT = 1 := vb_hit 1 (by decide) H.out hk
        have HF : Hid _ := hfi
        clear hfi hk
        go_wp2
        go_ret2
        exact ⟨by rw [HK.out.1, HK.out.2, HF.out]; rfl, (by repeat' (first | with_reducible assumption | with_reducible exact Below.refl _ _ | with_reducible apply Below.drew | with_reducible apply below_drewN | with_reducible apply Below.setCell | with_reducible apply Below.alloc | omega | (simp; done) | (simp; omega)))⟩
      · have hq := (Lib.bytes_beq_false_iff _ _).2 hk
        rw [show (⟨#[68, 82, 79, 80]⟩ : ByteArray).toList = [68, 82, 79, 80] by decide +kernel] at hq
        have hix := form_at1
        have HN : Hid _ := vb_next 1 (by decide) H.out hk
        clear hk
        go_wp2
        go_roundw
        case rel => exact ⟨2, by omega, rfl, HN.out, (by repeat' (first | with_reducible assumption | with_reducible exact Below.refl _ _ | with_reducible apply Below.drew | with_reducible apply below_drewN | with_reducible apply Below.setCell | with_reducible apply Below.alloc | omega | (simp; done) | (simp; omega)))⟩
        case measure => simp [intOf]
    · by_cases hk : (⟨#[78, 69, 84]⟩ : ByteArray) = s
      · have hq := (Lib.bytes_beq_iff _ _).2 hk
        rw [show (⟨#[78, 69, 84]⟩ : ByteArray).toList = [78, 69, 84] by decide +kernel] at hq
        have hix := form_at2
        have hfi : fi (fun v => v == s.data.toList) verbT = 2 := vb_hit 2 (by decide) H.out hk
        have HF : Hid _ := hfi
        clear hfi hk
        go_wp2
        go_ret2
        exact ⟨by rw [HK.out.1, HK.out.2, HF.out]; rfl, (by repeat' (first | with_reducible assumption | with_reducible exact Below.refl _ _ | with_reducible apply Below.drew | with_reducible apply below_drewN | with_reducible apply Below.setCell | with_reducible apply Below.alloc | omega | (simp; done) | (simp; omega)))⟩
      · have hq := (Lib.bytes_beq_false_iff _ _).2 hk
        rw [show (⟨#[78, 69, 84]⟩ : ByteArray).toList = [78, 69, 84] by decide +kernel] at hq
        have hix := form_at2
        have HN : Hid _ := vb_next 2 (by decide) H.out hk
        clear hk
        go_wp2
        go_roundw
        case rel => exact ⟨3, by omega, rfl, HN.out, (by repeat' (first | with_reducible assumption | with_reducible exact Below.refl _ _ | with_reducible apply Below.drew | with_reducible apply below_drewN | with_reducible apply Below.setCell | with_reducible apply Below.alloc | omega | (simp; done) | (simp; omega)))⟩
        case measure => simp [intOf]
    · by_cases hk : (⟨#[66, 76, 79, 67, 75]⟩ : ByteArray) = s
      · have hq := (Lib.bytes_beq_iff _ _).2 hk
        rw [show (⟨#[66, 76, 79, 67, 75]⟩ : ByteArray).toList = [66, 76, 79, 67, 75] by decide +kernel] at hq
        have hix := form_at3
        have hfi : fi (fun v => v == s.data.toList) verbT = 3 := vb_hit 3 (by decide) H.out hk
        have HF : Hid _ := hfi
        clear hfi hk
        go_wp2
        go_ret2
        exact ⟨by rw [HK.out.1, HK.out.2, HF.out]; rfl, (by repeat' (first | with_reducible assumption | with_reducible exact Below.refl _ _ | with_reducible apply Below.drew | with_reducible apply below_drewN | with_reducible apply Below.setCell | with_reducible apply Below.alloc | omega | (simp; done) | (simp; omega)))⟩
      · have hq := (Lib.bytes_beq_false_iff _ _).2 hk
        rw [show (⟨#[66, 76, 79, 67, 75]⟩ : ByteArray).toList = [66, 76, 79, 67, 75] by decide +kernel] at hq
        have hix := form_at3
        have HN : Hid _ := vb_next 3 (by decide) H.out hk
        clear hk
        go_wp2
        go_roundw
        case rel => exact ⟨4, by omega, rfl, HN.out, (by repeat' (first | with_reducible assumption | with_reducible exact Below.refl _ _ | with_reducible apply Below.drew | with_reducible apply below_drewN | with_reducible apply Below.setCell | with_reducible apply Below.alloc | omega | (simp; done) | (simp; omega)))⟩
        case measure => simp [intOf]
    · by_cases hk : (⟨#[70, 82, 69, 69]⟩ : ByteArray) = s
      · have hq := (Lib.bytes_beq_iff _ _).2 hk
        rw [show (⟨#[70, 82, 69, 69]⟩ : ByteArray).toList = [70, 82, 69, 69] by decide +kernel] at hq
        have hix := form_at4
        have hfi : fi (fun v => v == s.data.toList) verbT = 4 := vb_hit 4 (by decide) H.out hk
        have HF : Hid _ := hfi
        clear hfi hk
        go_wp2
        go_ret2
        exact ⟨by rw [HK.out.1, HK.out.2, HF.out]; rfl, (by repeat' (first | with_reducible assumption | with_reducible exact Below.refl _ _ | with_reducible apply Below.drew | with_reducible apply below_drewN | with_reducible apply Below.setCell | with_reducible apply Below.alloc | omega | (simp; done) | (simp; omega)))⟩
      · have hq := (Lib.bytes_beq_false_iff _ _).2 hk
        rw [show (⟨#[70, 82, 69, 69]⟩ : ByteArray).toList = [70, 82, 69, 69] by decide +kernel] at hq
        have hix := form_at4
        have HN : Hid _ := vb_next 4 (by decide) H.out hk
        clear hk
        go_wp2
        go_roundw
        case rel => exact ⟨5, by omega, rfl, HN.out, (by repeat' (first | with_reducible assumption | with_reducible exact Below.refl _ _ | with_reducible apply Below.drew | with_reducible apply below_drewN | with_reducible apply Below.setCell | with_reducible apply Below.alloc | omega | (simp; done) | (simp; omega)))⟩
        case measure => simp [intOf]
    · by_cases hk : (⟨#[76, 69, 65, 83, 69]⟩ : ByteArray) = s
      · have hq := (Lib.bytes_beq_iff _ _).2 hk
        rw [show (⟨#[76, 69, 65, 83, 69]⟩ : ByteArray).toList = [76, 69, 65, 83, 69] by decide +kernel] at hq
        have hix := form_at5
        have hfi : fi (fun v => v == s.data.toList) verbT = 5 := vb_hit 5 (by decide) H.out hk
        have HF : Hid _ := hfi
        clear hfi hk
        go_wp2
        go_ret2
        exact ⟨by rw [HK.out.1, HK.out.2, HF.out]; rfl, (by repeat' (first | with_reducible assumption | with_reducible exact Below.refl _ _ | with_reducible apply Below.drew | with_reducible apply below_drewN | with_reducible apply Below.setCell | with_reducible apply Below.alloc | omega | (simp; done) | (simp; omega)))⟩
      · have hq := (Lib.bytes_beq_false_iff _ _).2 hk
        rw [show (⟨#[76, 69, 65, 83, 69]⟩ : ByteArray).toList = [76, 69, 65, 83, 69] by decide +kernel] at hq
        have hix := form_at5
        have HN : Hid _ := vb_next 5 (by decide) H.out hk
        clear hk
        go_wp2
        go_roundw
        case rel => exact ⟨6, by omega, rfl, HN.out, (by repeat' (first | with_reducible assumption | with_reducible exact Below.refl _ _ | with_reducible apply Below.drew | with_reducible apply below_drewN | with_reducible apply Below.setCell | with_reducible apply Below.alloc | omega | (simp; done) | (simp; omega)))⟩
        case measure => simp [intOf]
    · by_cases hk : (⟨#[84, 65, 75, 69]⟩ : ByteArray) = s
      · have hq := (Lib.bytes_beq_iff _ _).2 hk
        rw [show (⟨#[84, 65, 75, 69]⟩ : ByteArray).toList = [84, 65, 75, 69] by decide +kernel] at hq
        have hix := form_at6
        have hfi : fi (fun v => v == s.data.toList) verbT = 6 := vb_hit 6 (by decide) H.out hk
        have HF : Hid _ := hfi
        clear hfi hk
        go_wp2
        go_ret2
        exact ⟨by rw [HK.out.1, HK.out.2, HF.out]; rfl, (by repeat' (first | with_reducible assumption | with_reducible exact Below.refl _ _ | with_reducible apply Below.drew | with_reducible apply below_drewN | with_reducible apply Below.setCell | with_reducible apply Below.alloc | omega | (simp; done) | (simp; omega)))⟩
      · have hq := (Lib.bytes_beq_false_iff _ _).2 hk
        rw [show (⟨#[84, 65, 75, 69]⟩ : ByteArray).toList = [84, 65, 75, 69] by decide +kernel] at hq
        have hix := form_at6
        have HN : Hid _ := vb_next 6 (by decide) H.out hk
        clear hk
        go_wp2
        go_roundw
        case rel => exact ⟨7, by omega, rfl, HN.out, (by repeat' (first | with_reducible assumption | with_reducible exact Below.refl _ _ | with_reducible apply Below.drew | with_reducible apply below_drewN | with_reducible apply Below.setCell | with_reducible apply Below.alloc | omega | (simp; done) | (simp; omega)))⟩
        case measure => simp [intOf]
    · by_cases hk : (⟨#[71, 73, 86, 69]⟩ : ByteArray) = s
      · have hq := (Lib.bytes_beq_iff _ _).2 hk
        rw [show (⟨#[71, 73, 86, 69]⟩ : ByteArray).toList = [71, 73, 86, 69] by decide +kernel] at hq
        have hix := form_at7
        have hfi : fi (fun v => v == s.data.toList) verbT = 7 := vb_hit 7 (by decide) H.out hk
        have HF : Hid _ := hfi
        clear hfi hk
        go_wp2
        go_ret2
        exact ⟨by rw [HK.out.1, HK.out.2, HF.out]; rfl, (by repeat' (first | with_reducible assumption | with_reducible exact Below.refl _ _ | with_reducible apply Below.drew | with_reducible apply below_drewN | with_reducible apply Below.setCell | with_reducible apply Below.alloc | omega | (simp; done) | (simp; omega)))⟩
      · have hq := (Lib.bytes_beq_false_iff _ _).2 hk
        rw [show (⟨#[71, 73, 86, 69]⟩ : ByteArray).toList = [71, 73, 86, 69] by decide +kernel] at hq
        have hix := form_at7
        have HN : Hid _ := vb_next 7 (by decide) H.out hk
        clear hk
        go_wp2
        go_roundw
        case rel => exact ⟨8, by omega, rfl, HN.out, (by repeat' (first | with_reducible assumption | with_reducible exact Below.refl _ _ | with_reducible apply Below.drew | with_reducible apply below_drewN | with_reducible apply Below.setCell | with_reducible apply Below.alloc | omega | (simp; done) | (simp; omega)))⟩
        case measure => simp [intOf]
    · by_cases hk : (⟨#[80, 79, 79, 76, 83]⟩ : ByteArray) = s
      · have hq := (Lib.bytes_beq_iff _ _).2 hk
        rw [show (⟨#[80, 79, 79, 76, 83]⟩ : ByteArray).toList = [80, 79, 79, 76, 83] by decide +kernel] at hq
        have hix := form_at8
        have hfi : fi (fun v => v == s.data.toList) verbT = 8 := vb_hit 8 (by decide) H.out hk
        have HF : Hid _ := hfi
        clear hfi hk
        go_wp2
        go_ret2
        exact ⟨by rw [HK.out.1, HK.out.2, HF.out]; rfl, (by repeat' (first | with_reducible assumption | with_reducible exact Below.refl _ _ | with_reducible apply Below.drew | with_reducible apply below_drewN | with_reducible apply Below.setCell | with_reducible apply Below.alloc | omega | (simp; done) | (simp; omega)))⟩
      · have hq := (Lib.bytes_beq_false_iff _ _).2 hk
        rw [show (⟨#[80, 79, 79, 76, 83]⟩ : ByteArray).toList = [80, 79, 79, 76, 83] by decide +kernel] at hq
        have hix := form_at8
        have HN : Hid _ := vb_next 8 (by decide) H.out hk
        clear hk
        go_wp2
        go_roundw
        case rel => exact ⟨9, by omega, rfl, HN.out, (by repeat' (first | with_reducible assumption | with_reducible exact Below.refl _ _ | with_reducible apply Below.drew | with_reducible apply below_drewN | with_reducible apply Below.setCell | with_reducible apply Below.alloc | omega | (simp; done) | (simp; omega)))⟩
        case measure => simp [intOf]
    · by_cases hk : (⟨#[78, 69, 84, 83]⟩ : ByteArray) = s
      · have hq := (Lib.bytes_beq_iff _ _).2 hk
        rw [show (⟨#[78, 69, 84, 83]⟩ : ByteArray).toList = [78, 69, 84, 83] by decide +kernel] at hq
        have hix := form_at9
        have hfi : fi (fun v => v == s.data.toList) verbT = 9 := vb_hit 9 (by decide) H.out hk
        have HF : Hid _ := hfi
        clear hfi hk
        go_wp2
        go_ret2
        exact ⟨by rw [HK.out.1, HK.out.2, HF.out]; rfl, (by repeat' (first | with_reducible assumption | with_reducible exact Below.refl _ _ | with_reducible apply Below.drew | with_reducible apply below_drewN | with_reducible apply Below.setCell | with_reducible apply Below.alloc | omega | (simp; done) | (simp; omega)))⟩
      · have hq := (Lib.bytes_beq_false_iff _ _).2 hk
        rw [show (⟨#[78, 69, 84, 83]⟩ : ByteArray).toList = [78, 69, 84, 83] by decide +kernel] at hq
        have hix := form_at9
        have HN : Hid _ := vb_next 9 (by decide) H.out hk
        clear hk
        go_wp2
        go_roundw
        case rel => exact ⟨10, by omega, rfl, HN.out, (by repeat' (first | with_reducible assumption | with_reducible exact Below.refl _ _ | with_reducible apply Below.drew | with_reducible apply below_drewN | with_reducible apply Below.setCell | with_reducible apply Below.alloc | omega | (simp; done) | (simp; omega)))⟩
        case measure => simp [intOf]
    · by_cases hk : (⟨#[85, 83, 69, 68]⟩ : ByteArray) = s
      · have hq := (Lib.bytes_beq_iff _ _).2 hk
        rw [show (⟨#[85, 83, 69, 68]⟩ : ByteArray).toList = [85, 83, 69, 68] by decide +kernel] at hq
        have hix := form_at10
        have hfi : fi (fun v => v == s.data.toList) verbT = 10 := vb_hit 10 (by decide) H.out hk
        have HF : Hid _ := hfi
        clear hfi hk
        go_wp2
        go_ret2
        exact ⟨by rw [HK.out.1, HK.out.2, HF.out]; rfl, (by repeat' (first | with_reducible assumption | with_reducible exact Below.refl _ _ | with_reducible apply Below.drew | with_reducible apply below_drewN | with_reducible apply Below.setCell | with_reducible apply Below.alloc | omega | (simp; done) | (simp; omega)))⟩
      · have hq := (Lib.bytes_beq_false_iff _ _).2 hk
        rw [show (⟨#[85, 83, 69, 68]⟩ : ByteArray).toList = [85, 83, 69, 68] by decide +kernel] at hq
        have hix := form_at10
        have HN : Hid _ := vb_next 10 (by decide) H.out hk
        clear hk
        go_wp2
        go_roundw
        case rel => exact ⟨11, by omega, rfl, HN.out, (by repeat' (first | with_reducible assumption | with_reducible exact Below.refl _ _ | with_reducible apply Below.drew | with_reducible apply below_drewN | with_reducible apply Below.setCell | with_reducible apply Below.alloc | omega | (simp; done) | (simp; omega)))⟩
        case measure => simp [intOf]
    · have hfi := vb_miss H.out
      have HF : Hid _ := hfi
      clear hfi
      go_wp2
      go_ret2
      exact ⟨by rw [HK.out.1, HK.out.2, HF.out]; rfl, hb⟩
theorem readVerb_any (s : ByteArray) (w : World) (E : EnvT w) :
    Calls Tryz.prog 50 #[.string s] w fun e w' => e = .returned (.tuple #[.int .i64 (if fi (fun v => v == s.data.toList) verbT < 0 then 0 else fi (fun v => v == s.data.toList) verbT), .bool (!decide (fi (fun v => v == s.data.toList) verbT < 0))]) ∧ Below w.heap.size w w' := readVerb_go s w E _ _ ⟨rfl, rfl⟩
end Go.Proofs.YtlikdnmikdldfaaGreatDoor
namespace Go.Proofs.YtlikdnmikdldfaaGreatDoor
open Go.ChangeShapes Go.WideShapes Go.ChangeAt Go.RowKit
set_option linter.unusedVariables false
set_option linter.unusedSimpArgs false

/-- a string's bytes, laid -/
theorem bytes_of (s : ByteArray) (w : World) : ∃ cap W, (convert 9 97 (.string s)).run Tryz.prog w = .ok (.slice (some ⟨w.heap.size, 0, none⟩) s.size cap) W ∧ Below w.heap.size w W ∧ w.heap.size < W.heap.size ∧ ∀ j (hj : j < s.data.size), W.cell? ⟨w.heap.size, j, none⟩ = some (.int .u8 (s.data[j].toNat : Int)) := by
  refine ⟨_, _, run_bytes_of_string w 9 97 5 s Tryz.underlying9 Tryz.underlying97 Tryz.underlying5, (by repeat' (first | with_reducible assumption | with_reducible exact Below.refl _ _ | with_reducible apply Below.drew | with_reducible apply below_drewN | with_reducible apply Below.setCell | with_reducible apply Below.alloc | omega | (simp; done) | (simp; omega))), by simp, fun j hj => ?_⟩
  have hsz : w.drew.heap.size = w.heap.size := by simp
  simp only [World.alloc, World.cell?]
  rw [show (w.heap.size) = w.drew.heap.size from hsz.symm, Array.getElem?_push_size]
  exact bytesRow_at s _ j hj
def okc (c : Int) : Prop := (97 ≤ c ∧ c ≤ 122) ∨ (48 ≤ c ∧ c ≤ 57)
def allk (s : ByteArray) (k : Nat) : Prop := ∀ j (hj : j < s.data.size), j < k → okc (s.data[j].toNat : Int)
theorem isName_iff (s : ByteArray) : isName s.data.toList = true ↔ ¬ s.size = 0 ∧ s.size ≤ 8 ∧ allk s s.size := by
  have hz : s.data.toList.length = s.size := Array.length_toList
  unfold isName
  simp only [Bool.and_eq_true, decide_eq_true_eq, List.all_eq_true, Bool.or_eq_true, hz]
  constructor
  · rintro ⟨⟨h1, h2⟩, h3⟩
    refine ⟨by omega, h2, fun j hj _ => ?_⟩
    have := h3 s.data[j] (by simp)
    unfold okc; omega
  · rintro ⟨h1, h2, h3⟩
    refine ⟨⟨by omega, h2⟩, fun c hc => ?_⟩
    obtain ⟨j, hj, rfl⟩ := List.mem_iff_getElem.1 hc
    have hj2 : j < s.data.size := by rw [Array.length_toList] at hj; exact hj
    have := h3 j hj2 hj2
    unfold okc at this
    simp only [Array.getElem_toList] at this ⊢
    omega
theorem allk_next {s : ByteArray} {k : Nat} (hk : k < s.data.size) (h : allk s k) (hc : okc (s.data[k].toNat : Int)) : allk s (k + 1) := fun j hj hlt => by
  rcases Nat.lt_or_ge j k with q | q
  · exact h j hj q
  · obtain rfl : j = k := by omega
    exact hc
theorem name_off {s : ByteArray} {k : Nat} (hk : k < s.data.size) (hc : ¬ okc (s.data[k].toNat : Int)) : isName s.data.toList = false := by
  rcases e : isName s.data.toList with _ | _
  · rfl
  · exact absurd (((isName_iff s).1 e).2.2 k hk hk) hc
set_option maxRecDepth 100000 in
set_option maxHeartbeats 2000000 in
theorem readName_out (s : ByteArray) (w : World) (h : s.size = 0 ∨ 8 < s.size) :
    Calls Tryz.prog 114 #[.string s] w fun e w' => e = .returned (.tuple #[.string ⟨#[]⟩, .bool false]) ∧ Below w.heap.size w w' := by
  rcases h with h | h
  · have h2 : ((s.size : Int) == 0) = true := by rw [h]; rfl
    go_enter Tryz.func114, Tryz.ntmps114
    go_wp2
    go_ret2
    exact ⟨rfl, Below.refl _ _⟩
  · have h2 : ((s.size : Int) == 0) = false := beq_eq_false_iff_ne.2 (by omega)
    have h3 : (8 : Int) < (s.size : Int) := by omega
    go_enter Tryz.func114, Tryz.ntmps114
    go_wp2
    go_ret2
    exact ⟨rfl, Below.refl _ _⟩
set_option maxRecDepth 100000 in
set_option maxHeartbeats 2000000 in
theorem readName_go (s : ByteArray) (w : World) (r : ByteArray) (f : Bool) (h0 : ¬ s.size = 0) (h1 : s.size ≤ 8) (HR : Hid ((r = if isName s.data.toList then s else ⟨#[]⟩) ∧ f = isName s.data.toList)) :
    Calls Tryz.prog 114 #[.string s] w fun e w' => e = .returned (.tuple #[.string r, .bool f]) ∧ Below w.heap.size w w' := by
  obtain ⟨cap, W, hcv, hbW, hW, hcell⟩ := bytes_of s w
  have hz0 : ((s.size : Int) == 0) = false := beq_eq_false_iff_ne.2 (by omega)
  have hz1 : ¬ (8 : Int) < (s.size : Int) := by omega
  have HC : Hid (∀ j (hj : j < s.data.size), W.cell? ⟨w.heap.size, j, none⟩ = some (.int .u8 (s.data[j].toNat : Int))) := hcell
  have HBW : Hid (Below w.heap.size w W) := hbW
  have HCL : Hid (∀ w, Calls Tryz.prog 78 #[.string s] w fun e w' => e = .returned (.string s) ∧ Below w.heap.size w w') := fun w => sclone_any s w (by omega)
  clear hcell hbW
  go_enter Tryz.func114, Tryz.ntmps114
  go_wp2
  go_loopw [17] (fun i wr => ∃ k : Nat, k ≤ s.size ∧ i = .int .i64 k ∧ Hid (allk s k) ∧ Below W.heap.size W wr) (fun i _ => (s.size - intOf i).toNat)
  case atStart => exact ⟨0, by omega, rfl, fun j _ hj => absurd hj (Nat.not_lt_zero j), Below.refl _ _⟩
  case round =>
    obtain ⟨k, hk8, rfl, H, hb⟩ := hrel
    by_cases hlt : k < s.size
    · have hkd : k < s.data.size := hlt
      obtain ⟨c, hce⟩ : ∃ c : Int, c = (s.data[k].toNat : Int) := ⟨_, rfl⟩
      have hload : wr.cell? ⟨w.heap.size, k, none⟩ = some (.int .u8 c) := by rw [hce]; exact (hb.cell (p := ⟨w.heap.size, k, none⟩) hW).trans (HC.out k hkd)
      have hlt2 : (k : Int) < (s.size : Int) := by omega
      have HN : Hid (okc c → allk s (k + 1)) := fun q => allk_next hkd H.out (by rw [← hce]; exact q)
      have HF : Hid (¬ okc c → isName s.data.toList = false) := fun q => name_off hkd (by rw [← hce]; exact q)
      clear hce
      by_cases q1 : c < 97
      · by_cases q2 : c < 48
        · go_wp2
          go_ret2
          exact ⟨by rw [HR.out.1, HR.out.2, HF.out (by unfold okc; omega)]; rfl, HBW.out.trans (hb.mono (by omega))⟩
        · by_cases q3 : (57 : Int) < c
          · go_wp2
            go_ret2
            exact ⟨by rw [HR.out.1, HR.out.2, HF.out (by unfold okc; omega)]; rfl, HBW.out.trans (hb.mono (by omega))⟩
          · go_wp2
            go_roundw
            case rel => exact ⟨k + 1, by omega, by simp, HN.out (by unfold okc; omega), hb⟩
            case measure => simp [intOf]; omega
      · by_cases q2 : (122 : Int) < c
        · have q3 : ¬ c < 48 := by omega
          have q4 : (57 : Int) < c := by omega
          go_wp2
          go_ret2
          exact ⟨by rw [HR.out.1, HR.out.2, HF.out (by unfold okc; omega)]; rfl, HBW.out.trans (hb.mono (by omega))⟩
        · go_wp2
          go_roundw
          case rel => exact ⟨k + 1, by omega, by simp, HN.out (by unfold okc; omega), hb⟩
          case measure => simp [intOf]; omega
    · obtain rfl : k = s.size := by omega
      have hN : Hid (isName s.data.toList = true) := (isName_iff s).2 ⟨h0, h1, H.out⟩
      have hlt2 : ¬ (s.size : Int) < (s.size : Int) := by omega
      go_wp2_with (go_at_call 78; refine (HCL.out _).mono ?_; rintro e w1 ⟨rfl, hb1⟩)
      go_ret2
      exact ⟨by rw [HR.out.1, HR.out.2, hN.out]; rfl, (HBW.out.trans (hb.mono (by omega))).trans (hb1.mono (by have := hb.size; omega))⟩
def nmB (s : ByteArray) : ByteArray := if isName s.data.toList then s else ⟨#[]⟩
theorem readName_any (s : ByteArray) (w : World) :
    Calls Tryz.prog 114 #[.string s] w fun e w' => e = .returned (.tuple #[.string (nmB s), .bool (isName s.data.toList)]) ∧ Below w.heap.size w w' := by
  by_cases h : s.size = 0 ∨ 8 < s.size
  · have hn : isName s.data.toList = false := by
      rcases e : isName s.data.toList with _ | _
      · rfl
      · have := (isName_iff s).1 e; omega
    unfold nmB
    rw [hn]
    exact readName_out s w h
  · exact readName_go s w _ _ (by omega) (by omega) ⟨rfl, rfl⟩
end Go.Proofs.YtlikdnmikdldfaaGreatDoor
namespace Go.Proofs.YtlikdnmikdldfaaGreatDoor
open Go.ChangeShapes Go.WideShapes Go.ChangeAt Go.RowKit
set_option linter.unusedVariables false
set_option linter.unusedSimpArgs false

/-- what a part leaves in the line, read or not -/
def ptL (l : Ln) (p : Nat) (s : ByteArray) : Ln :=
  if p = 1 then { l with t := nmB s } else if p = 2 then { l with o := nmB s } else if p = 3 then { l with a := rdB s.data.toList, n := rdN s.data.toList }
  else if p = 4 then { l with d := aB s.data.toList } else if p = 5 then { l with g := nB s.data.toList 32 } else l
def ptOk (p : Nat) (s : ByteArray) : Bool :=
  if p = 1 then isName s.data.toList else if p = 2 then isName s.data.toList else if p = 3 then rdE s.data.toList == 0 else if p = 4 then aOk s.data.toList else if p = 5 then nOk s.data.toList 32 else false
theorem rdPart_eq (l : Ln) (p : Nat) (s : ByteArray) : rdPart l p s.data.toList = if ptOk p s then some (ptL l p s) else none := by
  unfold rdPart ptOk ptL
  split
  · unfold nmB
    split <;> rfl
  split
  · unfold nmB
    split <;> rfl
  split
  · unfold rdE rdB rdN
    rcases rd s.data.toList with _ | b <;> rfl
  split
  · unfold aB aOk
    rcases addr s.data.toList with _ | b <;> rfl
  split
  · unfold nB nOk
    rcases num s.data.toList 32 with _ | b <;> rfl
  · rfl
def PtRes (w : World) (x : Nat) (l : Ln) (p : Nat) (s : ByteArray) (e : Ending) (w' : World) : Prop := e = .returned (.bool (ptOk p s)) ∧ Blk w' x (lnC (ptL l p s)) 74 ∧ Chg (fun b => b = x) w w'
set_option maxRecDepth 100000 in
set_option maxHeartbeats 1000000 in
theorem part_0 (x : Nat) (l : Ln) (s : ByteArray) (w : World) (B : Blk w x (lnC l) 74) :
    Calls Tryz.prog 76 #[.pointer (some ⟨x, 0, none⟩), .int .i64 0, .string s] w (PtRes w x l 0 s) := by
  have HB : Hid (Blk w x (lnC l) 74) := B
  clear B
  go_enter Tryz.func76, Tryz.ntmps76
  go_wp2
  go_returns
  exact ⟨rfl, HB.out, Chg.refl _ _⟩
set_option maxRecDepth 100000 in
set_option maxHeartbeats 1000000 in
theorem part_1 (x : Nat) (l : Ln) (s : ByteArray) (w : World) (E : Env w) (hs : s.size ≤ 2097152) (B : Blk w x (lnC l) 74) :
    Calls Tryz.prog 76 #[.pointer (some ⟨x, 0, none⟩), .int .i64 1, .string s] w (PtRes w x l 1 s) := by
  have HN : Hid (∀ W, Below w.heap.size w W → Calls Tryz.prog 114 #[.string s] W fun e w' => e = .returned (.tuple #[.string (nmB s), .bool (isName s.data.toList)]) ∧ Below W.heap.size W w') := fun W hW => readName_any s W
  have HB : Hid (Blk w x (lnC l) 74) := B
  have HP : Hid (ptOk 1 s = isName s.data.toList ∧ ptL l 1 s = { l with t := nmB s }) := ⟨rfl, rfl⟩
  unfold PtRes
  revert HP
  generalize ptOk 1 s = ok
  generalize ptL l 1 s = l'
  intro HP
  generalize nmB s = r at HN HP
  generalize isName s.data.toList = f at HN HP
  clear B
  have hx := HB.out.lt
  go_enter Tryz.func76, Tryz.ntmps76
  go_wp2_with (go_at_call 114; refine (HN.out _ (by repeat' (first | with_reducible assumption | with_reducible exact Below.refl _ _ | with_reducible apply Below.drew | with_reducible apply below_drewN | with_reducible apply Below.setCell | with_reducible apply Below.alloc | omega | (simp; done) | (simp; omega)))).mono ?_; rintro e w1 ⟨rfl, hq1⟩; have hb1 : Hid (Below w.heap.size w w1) := Below.trans (B := w.heap.size) (a := w) (by repeat' (first | with_reducible assumption | with_reducible exact Below.refl _ _ | with_reducible apply Below.drew | with_reducible apply below_drewN | with_reducible apply Below.setCell | with_reducible apply Below.alloc | omega | (simp; done) | (simp; omega))) (hq1.mono (by first | omega | (simp; done) | (simp; omega))); have B1 : Hid (Blk w1 x #[.int .i64 l.v, .string l.t, .string l.o, .int .u32 l.a, .int .i64 l.n, .int .u32 l.d, .int .i64 l.g] 74) := HB.out.below hb1.out; clear hq1; have k1 : w1.cell? ⟨x, 1, none⟩ = some (.string l.t) := B1.out.cell 1; have g1 := B1.out.frozen 1; have hz := B1.out.lt)
  go_returns
  exact ⟨by rw [HP.out.1]; rfl, by rw [HP.out.2]; exact (B1.out.set 1 (.string r)), (Chg.below hb1.out).sets x 1 [.string r] (.inl rfl)⟩
set_option maxRecDepth 100000 in
set_option maxHeartbeats 1000000 in
theorem part_2 (x : Nat) (l : Ln) (s : ByteArray) (w : World) (E : Env w) (hs : s.size ≤ 2097152) (B : Blk w x (lnC l) 74) :
    Calls Tryz.prog 76 #[.pointer (some ⟨x, 0, none⟩), .int .i64 2, .string s] w (PtRes w x l 2 s) := by
  have HN : Hid (∀ W, Below w.heap.size w W → Calls Tryz.prog 114 #[.string s] W fun e w' => e = .returned (.tuple #[.string (nmB s), .bool (isName s.data.toList)]) ∧ Below W.heap.size W w') := fun W hW => readName_any s W
  have HB : Hid (Blk w x (lnC l) 74) := B
  have HP : Hid (ptOk 2 s = isName s.data.toList ∧ ptL l 2 s = { l with o := nmB s }) := ⟨rfl, rfl⟩
  unfold PtRes
  revert HP
  generalize ptOk 2 s = ok
  generalize ptL l 2 s = l'
  intro HP
  generalize nmB s = r at HN HP
  generalize isName s.data.toList = f at HN HP
  clear B
  have hx := HB.out.lt
  go_enter Tryz.func76, Tryz.ntmps76
  go_wp2_with (go_at_call 114; refine (HN.out _ (by repeat' (first | with_reducible assumption | with_reducible exact Below.refl _ _ | with_reducible apply Below.drew | with_reducible apply below_drewN | with_reducible apply Below.setCell | with_reducible apply Below.alloc | omega | (simp; done) | (simp; omega)))).mono ?_; rintro e w1 ⟨rfl, hq1⟩; have hb1 : Hid (Below w.heap.size w w1) := Below.trans (B := w.heap.size) (a := w) (by repeat' (first | with_reducible assumption | with_reducible exact Below.refl _ _ | with_reducible apply Below.drew | with_reducible apply below_drewN | with_reducible apply Below.setCell | with_reducible apply Below.alloc | omega | (simp; done) | (simp; omega))) (hq1.mono (by first | omega | (simp; done) | (simp; omega))); have B1 : Hid (Blk w1 x #[.int .i64 l.v, .string l.t, .string l.o, .int .u32 l.a, .int .i64 l.n, .int .u32 l.d, .int .i64 l.g] 74) := HB.out.below hb1.out; clear hq1; have k2 : w1.cell? ⟨x, 2, none⟩ = some (.string l.o) := B1.out.cell 2; have g2 := B1.out.frozen 2; have hz := B1.out.lt)
  go_returns
  exact ⟨by rw [HP.out.1]; rfl, by rw [HP.out.2]; exact (B1.out.set 2 (.string r)), (Chg.below hb1.out).sets x 2 [.string r] (.inl rfl)⟩
set_option maxRecDepth 100000 in
set_option maxHeartbeats 1000000 in
theorem part_3 (x : Nat) (l : Ln) (s : ByteArray) (w : World) (E : Env w) (hs : s.size ≤ 2097152) (B : Blk w x (lnC l) 74) :
    Calls Tryz.prog 76 #[.pointer (some ⟨x, 0, none⟩), .int .i64 3, .string s] w (PtRes w x l 3 s) := by
  have HN : Hid (∀ W, Below w.heap.size w W → Calls Tryz.prog 115 #[.string s] W fun e w' => e = .returned (.tuple #[.agg #[.int .u32 (rdB s.data.toList), .int .i64 (rdN s.data.toList)], .int .i64 (rdE s.data.toList)]) ∧ Below W.heap.size W w') := fun W hW => bread_any s W (E.mono hW) hs
  have HB : Hid (Blk w x (lnC l) 74) := B
  have HP : Hid (ptOk 3 s = (rdE s.data.toList == 0) ∧ ptL l 3 s = { l with a := rdB s.data.toList, n := rdN s.data.toList }) := ⟨rfl, rfl⟩
  unfold PtRes
  revert HP
  generalize ptOk 3 s = ok
  generalize ptL l 3 s = l'
  intro HP
  generalize rdB s.data.toList = ra at HN HP
  generalize rdN s.data.toList = rn at HN HP
  generalize rdE s.data.toList = re at HN HP
  clear B
  have hx := HB.out.lt
  go_enter Tryz.func76, Tryz.ntmps76
  go_wp2_with (go_at_call 115; refine (HN.out _ (by repeat' (first | with_reducible assumption | with_reducible exact Below.refl _ _ | with_reducible apply Below.drew | with_reducible apply below_drewN | with_reducible apply Below.setCell | with_reducible apply Below.alloc | omega | (simp; done) | (simp; omega)))).mono ?_; rintro e w1 ⟨rfl, hq1⟩; have hb1 : Hid (Below w.heap.size w w1) := Below.trans (B := w.heap.size) (a := w) (by repeat' (first | with_reducible assumption | with_reducible exact Below.refl _ _ | with_reducible apply Below.drew | with_reducible apply below_drewN | with_reducible apply Below.setCell | with_reducible apply Below.alloc | omega | (simp; done) | (simp; omega))) (hq1.mono (by first | omega | (simp; done) | (simp; omega))); have B1 : Hid (Blk w1 x #[.int .i64 l.v, .string l.t, .string l.o, .int .u32 l.a, .int .i64 l.n, .int .u32 l.d, .int .i64 l.g] 74) := HB.out.below hb1.out; clear hq1; have k3 : w1.cell? ⟨x, 3, none⟩ = some (.int .u32 l.a) := B1.out.cell 3; have g3 := B1.out.frozen 3; have k4 : w1.cell? ⟨x, 4, none⟩ = some (.int .i64 l.n) := B1.out.cell 4; have g4 := B1.out.frozen 4; have hz := B1.out.lt)
  go_returns
  exact ⟨by rw [HP.out.1]; rfl, by rw [HP.out.2]; exact ((B1.out.set 3 (.int .u32 ra)).set 4 (.int .i64 rn)), (Chg.below hb1.out).sets x 3 [.int .u32 ra, .int .i64 rn] (.inl rfl)⟩
set_option maxRecDepth 100000 in
set_option maxHeartbeats 1000000 in
theorem part_4 (x : Nat) (l : Ln) (s : ByteArray) (w : World) (E : Env w) (hs : s.size ≤ 2097152) (B : Blk w x (lnC l) 74) :
    Calls Tryz.prog 76 #[.pointer (some ⟨x, 0, none⟩), .int .i64 4, .string s] w (PtRes w x l 4 s) := by
  have HN : Hid (∀ W, Below w.heap.size w W → Calls Tryz.prog 116 #[.string s] W fun e w' => e = .returned (.tuple #[.int .u32 (aB s.data.toList), .bool (aOk s.data.toList)]) ∧ Below W.heap.size W w') := fun W hW => ra_any s W (E.mono hW) hs
  have HB : Hid (Blk w x (lnC l) 74) := B
  have HP : Hid (ptOk 4 s = aOk s.data.toList ∧ ptL l 4 s = { l with d := aB s.data.toList }) := ⟨rfl, rfl⟩
  unfold PtRes
  revert HP
  generalize ptOk 4 s = ok
  generalize ptL l 4 s = l'
  intro HP
  generalize aB s.data.toList = ra at HN HP
  generalize aOk s.data.toList = f at HN HP
  clear B
  have hx := HB.out.lt
  go_enter Tryz.func76, Tryz.ntmps76
  go_wp2_with (go_at_call 116; refine (HN.out _ (by repeat' (first | with_reducible assumption | with_reducible exact Below.refl _ _ | with_reducible apply Below.drew | with_reducible apply below_drewN | with_reducible apply Below.setCell | with_reducible apply Below.alloc | omega | (simp; done) | (simp; omega)))).mono ?_; rintro e w1 ⟨rfl, hq1⟩; have hb1 : Hid (Below w.heap.size w w1) := Below.trans (B := w.heap.size) (a := w) (by repeat' (first | with_reducible assumption | with_reducible exact Below.refl _ _ | with_reducible apply Below.drew | with_reducible apply below_drewN | with_reducible apply Below.setCell | with_reducible apply Below.alloc | omega | (simp; done) | (simp; omega))) (hq1.mono (by first | omega | (simp; done) | (simp; omega))); have B1 : Hid (Blk w1 x #[.int .i64 l.v, .string l.t, .string l.o, .int .u32 l.a, .int .i64 l.n, .int .u32 l.d, .int .i64 l.g] 74) := HB.out.below hb1.out; clear hq1; have k5 : w1.cell? ⟨x, 5, none⟩ = some (.int .u32 l.d) := B1.out.cell 5; have g5 := B1.out.frozen 5; have hz := B1.out.lt)
  go_returns
  exact ⟨by rw [HP.out.1]; rfl, by rw [HP.out.2]; exact (B1.out.set 5 (.int .u32 ra)), (Chg.below hb1.out).sets x 5 [.int .u32 ra] (.inl rfl)⟩
set_option maxRecDepth 100000 in
set_option maxHeartbeats 1000000 in
theorem part_5 (x : Nat) (l : Ln) (s : ByteArray) (w : World) (E : Env w) (hs : s.size ≤ 2097152) (B : Blk w x (lnC l) 74) :
    Calls Tryz.prog 76 #[.pointer (some ⟨x, 0, none⟩), .int .i64 5, .string s] w (PtRes w x l 5 s) := by
  have HN : Hid (∀ W, Below w.heap.size w W → Calls Tryz.prog 117 #[.string s] W fun e w' => e = .returned (.tuple #[.int .i64 (nB s.data.toList 32), .bool (nOk s.data.toList 32)]) ∧ Below W.heap.size W w') := fun W hW => rbits_any s W (E.mono hW) hs
  have HB : Hid (Blk w x (lnC l) 74) := B
  have HP : Hid (ptOk 5 s = nOk s.data.toList 32 ∧ ptL l 5 s = { l with g := nB s.data.toList 32 }) := ⟨rfl, rfl⟩
  unfold PtRes
  revert HP
  generalize ptOk 5 s = ok
  generalize ptL l 5 s = l'
  intro HP
  generalize nB s.data.toList 32 = ra at HN HP
  generalize nOk s.data.toList 32 = f at HN HP
  clear B
  have hx := HB.out.lt
  go_enter Tryz.func76, Tryz.ntmps76
  go_wp2_with (go_at_call 117; refine (HN.out _ (by repeat' (first | with_reducible assumption | with_reducible exact Below.refl _ _ | with_reducible apply Below.drew | with_reducible apply below_drewN | with_reducible apply Below.setCell | with_reducible apply Below.alloc | omega | (simp; done) | (simp; omega)))).mono ?_; rintro e w1 ⟨rfl, hq1⟩; have hb1 : Hid (Below w.heap.size w w1) := Below.trans (B := w.heap.size) (a := w) (by repeat' (first | with_reducible assumption | with_reducible exact Below.refl _ _ | with_reducible apply Below.drew | with_reducible apply below_drewN | with_reducible apply Below.setCell | with_reducible apply Below.alloc | omega | (simp; done) | (simp; omega))) (hq1.mono (by first | omega | (simp; done) | (simp; omega))); have B1 : Hid (Blk w1 x #[.int .i64 l.v, .string l.t, .string l.o, .int .u32 l.a, .int .i64 l.n, .int .u32 l.d, .int .i64 l.g] 74) := HB.out.below hb1.out; clear hq1; have k6 : w1.cell? ⟨x, 6, none⟩ = some (.int .i64 l.g) := B1.out.cell 6; have g6 := B1.out.frozen 6; have hz := B1.out.lt)
  go_returns
  exact ⟨by rw [HP.out.1]; rfl, by rw [HP.out.2]; exact (B1.out.set 6 (.int .i64 ra)), (Chg.below hb1.out).sets x 6 [.int .i64 ra] (.inl rfl)⟩
theorem readPart_any (x : Nat) (l : Ln) (p : Nat) (hp : p ≤ 5) (s : ByteArray) (w : World) (E : Env w) (hs : s.size ≤ 2097152) (B : Blk w x (lnC l) 74) :
    Calls Tryz.prog 76 #[.pointer (some ⟨x, 0, none⟩), .int .i64 p, .string s] w (PtRes w x l p s) := by
  have hc : p = 0 ∨ p = 1 ∨ p = 2 ∨ p = 3 ∨ p = 4 ∨ p = 5 := by omega
  rcases hc with rfl | rfl | rfl | rfl | rfl | rfl
  · exact part_0 x l s w B
  · exact part_1 x l s w E hs B
  · exact part_2 x l s w E hs B
  · exact part_3 x l s w E hs B
  · exact part_4 x l s w E hs B
  · exact part_5 x l s w E hs B
end Go.Proofs.YtlikdnmikdldfaaGreatDoor
