/-
  BkT
-/
import Derived.Lib.SlicesS
import Derived.Test.YtlikdnmikdldfaaGreatDoorOrderedPAF
import Derived.Test.YtlikdnmikdldfaaGreatDoorOrderedPAI
import Derived.Test.YtlikdnmikdldfaaGreatDoorOrderedPAJ
namespace Go.Proofs.YtlikdnmikdldfaaGreatDoor
open Go.Conc Go.ChangeShapes Go.WideShapes Go.ChangeAt Go.RowKit
set_option linter.unusedVariables false
set_option linter.unusedSimpArgs false

def vT (x : Tk) : Value := .agg #[.string x.t, .string x.l, .string x.r]
/-- a channel with what is in it -/
def Ch (w : World) (c : Nat) (l : List Tk) : Prop := ∃ s r, w.heap[c]? = some (.chan 8 (l.map vT).toArray false s r false)
theorem Ch.lt {w : World} {c : Nat} {l : List Tk} (h : Ch w c l) : c < w.heap.size := by obtain ⟨s, r, h⟩ := h; exact (Array.getElem?_eq_some_iff.1 h).1
def tkC (x : Tk) : Array Value := #[.string x.t, .string x.l, .string x.r]

theorem Blk.chan {w : World} {g : Nat} {cs : Array Value} {t : TypeId} (h : Blk w g cs t) {c : Nat} (hg : g ≠ c) (cap : Nat) (buf : Array Value) (cl : Bool) (s r : Nat) (tm : Bool) : Blk (w.setChan c cap buf cl s r tm) g cs t := by
  unfold Blk at h ⊢
  simp only [World.setChan]
  rw [Array.getElem?_setIfInBounds_ne (fun e => hg e.symm)]; exact h
theorem grown_chan {w w' : World} {c : Nat} (h : w.grownBy w' (some c)) (cap : Nat) (buf : Array Value) (cl : Bool) (s r : Nat) (tm : Bool) : w.grownBy (w'.setChan c cap buf cl s r tm) (some c) :=
  ⟨h.os, h.tape, h.output, by rw [size_setChan]; exact h.size, fun k hk hr => by
    simp only [World.setChan]
    rw [Array.getElem?_setIfInBounds_ne (fun e => hr (by rw [e]))]; exact h.block k hk hr⟩
theorem beqB (x y : ByteArray) : (x.toList == y.toList) = decide (x = y) := by
  by_cases h : x = y
  · rw [(Lib.bytes_beq_iff x y).2 h, decide_eq_true h]
  · rw [(Lib.bytes_beq_false_iff x y).2 h, decide_eq_false h]
theorem ext_one (v : Value) (r : List Value) : (v :: r).toArray.extract 1 (v :: r).toArray.size = r.toArray := by
  apply Array.ext'
  simp
theorem push_one (v : Value) (r : List Value) : r.toArray.push v = (r ++ [v]).toArray := by simp
theorem rot_at (l : List Tk) (k : Nat) (hk : k < l.length) : l.drop k ++ l.take k = l.getD k tk0 :: (l.drop (k + 1) ++ l.take k) := by
  rw [List.drop_eq_getElem_cons hk, List.getD_eq_getElem?_getD, List.getElem?_eq_getElem hk]; rfl
theorem rot_next (l : List Tk) (k : Nat) (hk : k < l.length) : l.drop (k + 1) ++ l.take k ++ [l.getD k tk0] = l.drop (k + 1) ++ l.take (k + 1) := by
  rw [List.append_assoc, List.take_succ_eq_append_getElem hk, List.getD_eq_getElem?_getD, List.getElem?_eq_getElem hk]; rfl
theorem findT_next (l : List Tk) (k : Nat) (t : ByteArray) (hk : k < l.length) : findT (l.take (k + 1)) t = if decide ((l.getD k tk0).t = t) then some (l.getD k tk0) else findT (l.take k) t := by
  unfold findT
  rw [List.take_succ_eq_append_getElem hk, List.filter_append, List.getD_eq_getElem?_getD, List.getElem?_eq_getElem hk]
  simp only [Option.getD_some, List.filter_cons, List.filter_nil]
  split <;> simp

/-- how far the look through the table has come -/
structure TF (w wr : World) (c : Nat) (l : List Tk) (t : ByteArray) (k : Nat) (o : Tk) (f : Bool) : Prop where
  ch : Ch wr c (l.drop k ++ l.take k)
  b0 : Blk wr w.heap.size #[.chan (some c)] 90
  b1 : Blk wr (w.heap.size + 1) (tkC tk0) 132
  b2 : Blk wr (w.heap.size + 1 + 1) (tkC o) 132
  gr : w.grownBy wr (some c)
  fd : findT (l.take k) t = if f then some o else none
  no : f = false → o = tk0

def TI (w : World) (c : Nat) (l : List Tk) (t : ByteArray) (a : Act) (wr : World) : Prop := ∃ (k : Nat) (o : Tk) (f : Bool) (s8 s13 s14 s15 s16 s17 s18 s19 s20 s21 s22 s23 s24 s25 : Value), a = ⟨#[.agg #[.chan (some c)], .string t, .pointer (some ⟨w.heap.size, 0, none⟩), undef, .pointer (some ⟨w.heap.size + 1, 0, none⟩), .bool false, .pointer (some ⟨w.heap.size + 1 + 1, 0, none⟩), .bool f, s8, .pointer (some ⟨w.heap.size, 0, none⟩), .chan (some c), .int .i64 l.length, .int .i64 k, s13, s14, s15, s16, s17, s18, s19, s20, s21, s22, s23, s24, s25, undef, undef], []⟩ ∧ k ≤ l.length ∧ Hid (TF w wr c l t k o f)
def TM (l : List Tk) (a : Act) : Nat := l.length - (intOf (a.tmps.getD 12 undef)).toNat
set_option maxRecDepth 100000 in
set_option maxHeartbeats 1000000 in
theorem tfind_any (w : World) (c : Nat) (l : List Tk) (t : ByteArray) (hc : Ch w c l) (hl : l.length ≤ 8) :
    Calls Tryz.prog 55 #[.agg #[.chan (some c)], .string t] w fun e w' => e = .returned (.tuple #[vT ((findT l t).getD tk0), .bool (findT l t).isSome]) ∧ Ch w' c l ∧ w.grownBy w' (some c) := by
  have hcl := hc.lt
  have HC : Hid (Ch w c l) := hc
  obtain ⟨s0, r0, hch⟩ := hc
  have hB : Below w.heap.size w (((w.alloc (.cells #[.chan (some c)] 90)).alloc (.cells (tkC tk0) 132)).alloc (.cells (tkC tk0) 132)) := (by repeat' (first | with_reducible assumption | with_reducible exact Below.refl _ _ | with_reducible apply Below.drew | with_reducible apply below_drewN | with_reducible apply Below.setCell | with_reducible apply Below.alloc | omega | (simp; done) | (simp; omega)))
  have hlen := fun ty => run_len_chan (P := Tryz.prog) 88 ty Tryz.underlying88 ((hB.block c hcl).trans hch)
  clear hB
  simp only [tkC, tk0] at hlen
  rw [show (l.map vT).toArray.size = l.length by simp] at hlen
  clear hch
  refine calls_of_wpN Tryz.func55 rfl ?_
  simp only [Tryz.ntmps55, List.size_toArray, List.length_cons, List.length_nil, Nat.reduceAdd, Nat.reduceSub, Array.replicate_succ, Array.replicate_zero, List.push_toArray, List.append_toArray, List.nil_append, List.cons_append]
  refine wpN_piece fun K hK => ?_
  go_wp2
  refine wpN_piece fun K hK => ?_
  go_wp2
  refine wpN_piece fun K hK => ?_
  go_wp2
  refine wpN_seq (wpN_piece fun K hK => ?_)
  go_wp2
  refine wpN_block ?_
  refine wpN_loop (TI w c l t) (fun a _ => TM l a) ?_ ?_
  · refine ⟨0, tk0, false, _, _, _, _, _, _, _, _, _, _, _, _, _, _, rfl, Nat.zero_le _, ?_⟩
    have hB : Below w.heap.size w (((w.alloc (.cells #[.chan (some c)] 90)).alloc (.cells (tkC tk0) 132)).alloc (.cells (tkC tk0) 132)) := (by repeat' (first | with_reducible assumption | with_reducible exact Below.refl _ _ | with_reducible apply Below.drew | with_reducible apply below_drewN | with_reducible apply Below.setCell | with_reducible apply Below.alloc | omega | (simp; done) | (simp; omega)))
    have h2 : Below (w.heap.size + 1) (w.alloc (.cells #[.chan (some c)] 90)) (((w.alloc (.cells #[.chan (some c)] 90)).alloc (.cells (tkC tk0) 132)).alloc (.cells (tkC tk0) 132)) := ((Below.refl _ _).alloc (by simp) _).alloc (by simp) _
    have h3 : Below (w.heap.size + 2) ((w.alloc (.cells #[.chan (some c)] 90)).alloc (.cells (tkC tk0) 132)) (((w.alloc (.cells #[.chan (some c)] 90)).alloc (.cells (tkC tk0) 132)).alloc (.cells (tkC tk0) 132)) := (Below.refl _ _).alloc (by simp) _
    obtain ⟨s, r, hh⟩ := HC.out
    have q1 := Blk.new (w.alloc (.cells #[.chan (some c)] 90)) (tkC tk0) 132
    have q2 := Blk.new ((w.alloc (.cells #[.chan (some c)] 90)).alloc (.cells (tkC tk0) 132)) (tkC tk0) 132
    rw [show (w.alloc (.cells #[.chan (some c)] 90)).heap.size = w.heap.size + 1 by simp] at q1
    rw [show ((w.alloc (.cells #[.chan (some c)] 90)).alloc (.cells (tkC tk0) 132)).heap.size = w.heap.size + 1 + 1 by simp] at q2
    exact ⟨⟨s, r, by rw [show l.drop 0 ++ l.take 0 = l by simp]; exact (hB.block c hcl).trans hh⟩, (h2.block _ (by omega)).trans (Blk.new w _ _), (h3.block _ (by omega)).trans q1, q2, ⟨hB.os, hB.tape, hB.output, hB.size, fun b hb _ => hB.block b hb⟩, by simp [findT], fun _ => rfl⟩
  · rintro a wr ⟨k, o, f, s8, s13, s14, s15, s16, s17, s18, s19, s20, s21, s22, s23, s24, s25, rfl, hk, H⟩
    clear hlen
    by_cases hlt : k < l.length
    · refine wpN_piece fun K hK => ?_
      go_wp2
      refine wpN_piece fun K hK => ?_
      go_wp2
      refine wpN_seq (wpN_block (wpN_seq (wpN_region ?_)))
      simp only [List.size_toArray, List.length_cons, List.length_nil, Nat.reduceAdd, Nat.zero_add, List.range, List.range.loop]
      obtain ⟨s, r, hch⟩ := H.out.ch
      rw [rot_at l k hlt, List.map_cons] at hch
      have hrt := rot_next l k hlt
      have hfn := findT_next l k t hlt
      generalize hx : l.getD k tk0 = x at hch hrt hfn
      clear hx
      have HR : Hid (l.drop (k + 1) ++ l.take k ++ [x] = l.drop (k + 1) ++ l.take (k + 1)) := hrt
      have HF : Hid (findT (l.take (k + 1)) t = if decide (x.t = t) then some x else findT (l.take k) t) := hfn
      clear hrt hfn
      have c0 : wr.cell? ⟨w.heap.size, 0, none⟩ = some (.chan (some c)) := H.out.b0.cell 0
      refine rgN_value rfl rfl (v := .pointer (some ⟨w.heap.size, 0, none⟩)) (w' := wr) (by simp [go_sem, execOp, Act.eval]) ?_
      refine rgN_value rfl rfl (v := .chan (some c)) (w' := wr) (by simp [go_sem, execOp, Act.eval, Act.put, c0]) ?_
      refine rgN_recv rfl rfl (c := c) (z := vT tk0) (w₁ := wr) (by simp [go_sem, execOp, Act.eval, Act.put, rcase, vT, tk0]) hch (by simp) ?_
      rw [ext_one]
      have hg0 : (vT x :: List.map vT (l.drop (k + 1) ++ l.take k)).toArray.getD 0 undef = vT x := by simp
      rw [hg0]
      have hch2 := heap_setChan wr c 8 (List.map vT (l.drop (k + 1) ++ l.take k)).toArray false s (r + 1) false (Nat.lt_of_lt_of_le hcl H.out.gr.size)
      have n0 : w.heap.size ≠ c := by omega
      have n1 : w.heap.size + 1 ≠ c := by omega
      have n2 : w.heap.size + 1 + 1 ≠ c := by omega
      have b0 := H.out.b0.chan n0 8 (List.map vT (l.drop (k + 1) ++ l.take k)).toArray false s (r + 1) false
      have b1 := H.out.b1.chan n1 8 (List.map vT (l.drop (k + 1) ++ l.take k)).toArray false s (r + 1) false
      have b2 := H.out.b2.chan n2 8 (List.map vT (l.drop (k + 1) ++ l.take k)).toArray false s (r + 1) false
      have gr := grown_chan H.out.gr 8 (List.map vT (l.drop (k + 1) ++ l.take k)).toArray false s (r + 1) false
      generalize wr.setChan c 8 (List.map vT (l.drop (k + 1) ++ l.take k)).toArray false s (r + 1) false = W at hch2 b0 b1 b2 gr ⊢
      refine rgN_value rfl rfl (v := .pointer (some ⟨W.heap.size, 0, none⟩)) (w' := W.alloc (.cells (tkC tk0) 132)) (by simp [go_sem, execOp, Act.eval, Act.put, tkC, tk0]) ?_
      have q0 := Blk.new W (tkC tk0) 132
      have q1 := ((q0.set 0 (.string x.t)).set 1 (.string x.l)).set 2 (.string x.r)
      refine rgN_skip rfl rfl (w' := (((W.alloc (.cells (tkC tk0) 132)).setCell ⟨W.heap.size, 0, none⟩ (.string x.t)).setCell ⟨W.heap.size, 1, none⟩ (.string x.l)).setCell ⟨W.heap.size, 2, none⟩ (.string x.r)) (by simp [go_sem, execOp, Act.eval, Act.put, tkC, tk0, vT]) ?_
      have hN : w.heap.size + 1 + 1 < W.heap.size := b2.lt
      have gN : w.grownBy ((((W.alloc (.cells (tkC tk0) 132)).setCell ⟨W.heap.size, 0, none⟩ (.string x.t)).setCell ⟨W.heap.size, 1, none⟩ (.string x.l)).setCell ⟨W.heap.size, 2, none⟩ (.string x.r)) (some c) := by
        have g1 : w.grownBy (W.alloc (.cells (tkC tk0) 132)) (some c) := ⟨gr.os, gr.tape, gr.output, by have := gr.size; simp; omega, fun k hk hr => (Below.heap_alloc W _ k (Nat.lt_of_lt_of_le hk gr.size)).trans (gr.block k hk hr)⟩
        exact grown_sets g1 W.heap.size 0 [.string x.t, .string x.l, .string x.r] (.inr gr.size)
      have oN : ∀ b, b < W.heap.size → ((((W.alloc (.cells (tkC tk0) 132)).setCell ⟨W.heap.size, 0, none⟩ (.string x.t)).setCell ⟨W.heap.size, 1, none⟩ (.string x.l)).setCell ⟨W.heap.size, 2, none⟩ (.string x.r)).heap[b]? = W.heap[b]? := fun b hb =>
        ((sets_other W.heap.size [.string x.t, .string x.l, .string x.r] 0 (W.alloc (.cells (tkC tk0) 132))).2.2.2.2 b (by omega)).trans (Below.heap_alloc W _ b hb)
      have b0 := (oN _ (by omega)).trans b0
      have b1 := (oN _ (by omega)).trans b1
      have b2 := (oN _ (by omega)).trans b2
      have hch2 := (oN c (Nat.lt_of_lt_of_le hcl gr.size)).trans hch2
      clear oN gr q0
      generalize W.heap.size = N at q1 hN gN b0 b1 b2 hch2 ⊢
      generalize ((((W.alloc (.cells (tkC tk0) 132)).setCell ⟨N, 0, none⟩ (.string x.t)).setCell ⟨N, 1, none⟩ (.string x.l)).setCell ⟨N, 2, none⟩ (.string x.r)) = V at q1 gN b0 b1 b2 hch2 ⊢
      refine rgN_nil ?_
      show wpN _ _ _ ⟨#[.agg #[.chan (some c)], .string t, .pointer (some ⟨w.heap.size, 0, none⟩), undef, .pointer (some ⟨w.heap.size + 1, 0, none⟩), .bool false, .pointer (some ⟨w.heap.size + 1 + 1, 0, none⟩), .bool f, .pointer (some ⟨N, 0, none⟩), .pointer (some ⟨w.heap.size, 0, none⟩), .chan (some c), .int .i64 l.length, .int .i64 k, .bool true, .pointer (some ⟨w.heap.size, 0, none⟩), .chan (some c), vT x, s17, s18, s19, s20, s21, s22, s23, s24, s25, undef, undef], []⟩ V
      refine wpN_seq (wpN_region ?_)
      simp only [List.size_toArray, List.length_cons, List.length_nil, Nat.reduceAdd, Nat.zero_add, List.range, List.range.loop]
      have v0 : V.cell? ⟨w.heap.size, 0, none⟩ = some (.chan (some c)) := Blk.cell b0 0
      have v1 : V.cell? ⟨N, 0, none⟩ = some (.string x.t) := Blk.cell q1 0
      have v2 : V.cell? ⟨N, 1, none⟩ = some (.string x.l) := Blk.cell q1 1
      have v3 : V.cell? ⟨N, 2, none⟩ = some (.string x.r) := Blk.cell q1 2
      refine rgN_value rfl rfl (v := .pointer (some ⟨w.heap.size, 0, none⟩)) (w' := V) (by simp [go_sem, execOp, Act.eval]) ?_
      refine rgN_value rfl rfl (v := .chan (some c)) (w' := V) (by simp [go_sem, execOp, Act.eval, Act.put, v0]) ?_
      refine rgN_value rfl rfl (v := vT x) (w' := V) (by simp [go_sem, execOp, Act.eval, Act.put, v1, v2, v3, vT]) ?_
      refine rgN_send rfl rfl (c := c) (v := vT x) (z' := .tuple #[]) (w₁ := V) (by simp [go_sem, execOp, Act.eval, Act.put, scase]) hch2 (by simp; omega) ?_
      rw [push_one, show List.map vT (l.drop (k + 1) ++ l.take k) ++ [vT x] = List.map vT (l.drop (k + 1) ++ l.take k ++ [x]) by simp, HR.out]
      have hch3 := heap_setChan V c 8 (List.map vT (l.drop (k + 1) ++ l.take (k + 1))).toArray false (s + 1) (r + 1) false (Nat.lt_of_lt_of_le hcl gN.size)
      have nN : N ≠ c := by omega
      have b0 := Blk.chan b0 n0 8 (List.map vT (l.drop (k + 1) ++ l.take (k + 1))).toArray false (s + 1) (r + 1) false
      have b1 := Blk.chan b1 n1 8 (List.map vT (l.drop (k + 1) ++ l.take (k + 1))).toArray false (s + 1) (r + 1) false
      have b2 := Blk.chan b2 n2 8 (List.map vT (l.drop (k + 1) ++ l.take (k + 1))).toArray false (s + 1) (r + 1) false
      have q1 := Blk.chan q1 nN 8 (List.map vT (l.drop (k + 1) ++ l.take (k + 1))).toArray false (s + 1) (r + 1) false
      have gN := grown_chan gN 8 (List.map vT (l.drop (k + 1) ++ l.take (k + 1))).toArray false (s + 1) (r + 1) false
      generalize V.setChan c 8 (List.map vT (l.drop (k + 1) ++ l.take (k + 1))).toArray false (s + 1) (r + 1) false = U at hch3 b0 b1 b2 q1 gN ⊢
      refine rgN_nil ?_
      show wpN _ _ _ ⟨#[.agg #[.chan (some c)], .string t, .pointer (some ⟨w.heap.size, 0, none⟩), undef, .pointer (some ⟨w.heap.size + 1, 0, none⟩), .bool false, .pointer (some ⟨w.heap.size + 1 + 1, 0, none⟩), .bool f, .pointer (some ⟨N, 0, none⟩), .pointer (some ⟨w.heap.size, 0, none⟩), .chan (some c), .int .i64 l.length, .int .i64 k, .bool true, .pointer (some ⟨w.heap.size, 0, none⟩), .chan (some c), vT x, .pointer (some ⟨w.heap.size, 0, none⟩), .chan (some c), vT x, s20, s21, s22, s23, s24, s25, undef, undef], []⟩ U
      have u1 : U.cell? ⟨N, 0, none⟩ = some (.string x.t) := Blk.cell q1 0
      have u2 : U.cell? ⟨N, 1, none⟩ = some (.string x.l) := Blk.cell q1 1
      have u3 : U.cell? ⟨N, 2, none⟩ = some (.string x.r) := Blk.cell q1 2
      have o1 : U.cell? ⟨w.heap.size + 1 + 1, 0, none⟩ = some (.string o.t) := Blk.cell b2 0
      have o2 : U.cell? ⟨w.heap.size + 1 + 1, 1, none⟩ = some (.string o.l) := Blk.cell b2 1
      have o3 : U.cell? ⟨w.heap.size + 1 + 1, 2, none⟩ = some (.string o.r) := Blk.cell b2 2
      have p1 : U.frozen? ⟨w.heap.size + 1 + 1, 0, none⟩ = false := Blk.frozen b2 0
      have p2 : U.frozen? ⟨w.heap.size + 1 + 1, 1, none⟩ = false := Blk.frozen b2 1
      have p3 : U.frozen? ⟨w.heap.size + 1 + 1, 2, none⟩ = false := Blk.frozen b2 2
      have X0 : Hid (Blk U w.heap.size #[.chan (some c)] 90) := b0
      have X1 : Hid (Blk U (w.heap.size + 1) (tkC tk0) 132) := b1
      have X2 : Hid (Blk U (w.heap.size + 1 + 1) (tkC o) 132) := b2
      have XC : Hid (Ch U c (l.drop (k + 1) ++ l.take (k + 1))) := ⟨_, _, hch3⟩
      have XG : Hid (w.grownBy U (some c)) := gN
      have hNN : N ≠ w.heap.size + 1 + 1 := by omega
      clear b0 b1 b2 q1 gN hch3 hch2 hch hg0 v0 v1 v2 v3 c0
      refine wpN_of ?_
      rcases hxt : decide (x.t = t) with _ | _
      · have hq : (x.t.toList == t.toList) = false := by rw [beqB]; exact hxt
        go_wp2
        refine wpN_of ?_
        go_wp2
        have e1 : Hid (TF w U c l t (k + 1) o f) := ⟨XC.out, X0.out, X1.out, X2.out, XG.out, by rw [HF.out, hxt]; exact H.out.fd, H.out.no⟩
        exact ⟨⟨k + 1, o, f, _, _, _, _, _, _, _, _, _, _, _, _, _, _, rfl, hlt, e1⟩, by simp [TM, intOf]; omega⟩
      · have hq : (x.t.toList == t.toList) = true := by rw [beqB]; exact hxt
        go_wp2
        refine wpN_of ?_
        go_wp2
        have e1 : Hid (TF w (((U.setCell ⟨w.heap.size + 1 + 1, 0, none⟩ (.string x.t)).setCell ⟨w.heap.size + 1 + 1, 1, none⟩ (.string x.l)).setCell ⟨w.heap.size + 1 + 1, 2, none⟩ (.string x.r)) c l t (k + 1) x true) := by
          have h2 := (sets_other (w.heap.size + 1 + 1) [.string x.t, .string x.l, .string x.r] 0 U).2.2.2.2
          obtain ⟨s', r', hh⟩ := XC.out
          exact ⟨⟨s', r', (h2 c (by omega)).trans hh⟩, (h2 _ (by omega)).trans X0.out, (h2 _ (by omega)).trans X1.out, ((X2.out.set 0 _).set 1 _).set 2 _, grown_sets XG.out (w.heap.size + 1 + 1) 0 [.string x.t, .string x.l, .string x.r] (.inr (by omega)), by rw [HF.out, hxt]; rfl, fun h => by cases h⟩
        exact ⟨⟨k + 1, x, true, _, _, _, _, _, _, _, _, _, _, _, _, _, _, rfl, hlt, e1⟩, by simp [TM, intOf]; omega⟩
    · refine wpN_piece fun K hK => ?_
      go_wp2
      refine wpN_piece fun K hK => ?_
      go_wp2
      refine wpN_of ?_
      have hkl : k = l.length := by omega
      subst hkl
      have c0 : wr.cell? ⟨w.heap.size + 1 + 1, 0, none⟩ = some (.string o.t) := H.out.b2.cell 0
      have c1 : wr.cell? ⟨w.heap.size + 1 + 1, 1, none⟩ = some (.string o.l) := H.out.b2.cell 1
      have c2 : wr.cell? ⟨w.heap.size + 1 + 1, 2, none⟩ = some (.string o.r) := H.out.b2.cell 2
      have d0 : wr.cell? ⟨w.heap.size + 1, 0, none⟩ = some (.string ⟨#[]⟩) := H.out.b1.cell 0
      have d1 : wr.cell? ⟨w.heap.size + 1, 1, none⟩ = some (.string ⟨#[]⟩) := H.out.b1.cell 1
      have d2 : wr.cell? ⟨w.heap.size + 1, 2, none⟩ = some (.string ⟨#[]⟩) := H.out.b1.cell 2
      have e0 : wr.frozen? ⟨w.heap.size + 1, 0, none⟩ = false := H.out.b1.frozen 0
      have e1 : wr.frozen? ⟨w.heap.size + 1, 1, none⟩ = false := H.out.b1.frozen 1
      have e2 : wr.frozen? ⟨w.heap.size + 1, 2, none⟩ = false := H.out.b1.frozen 2
      have hz : w.heap.size + 1 < wr.heap.size := H.out.b1.lt
      go_wp2
      have HB := ((H.out.b1.set 0 (.string o.t)).set 1 (.string o.l)).set 2 (.string o.r)
      have k0 := HB.cell 0
      have k1 := HB.cell 1
      have k2 := HB.cell 2
      have hfin : Ch (((wr.setCell ⟨w.heap.size + 1, 0, none⟩ (.string o.t)).setCell ⟨w.heap.size + 1, 1, none⟩ (.string o.l)).setCell ⟨w.heap.size + 1, 2, none⟩ (.string o.r)) c l ∧ w.grownBy (((wr.setCell ⟨w.heap.size + 1, 0, none⟩ (.string o.t)).setCell ⟨w.heap.size + 1, 1, none⟩ (.string o.l)).setCell ⟨w.heap.size + 1, 2, none⟩ (.string o.r)) (some c) := by
        obtain ⟨s, r, hch⟩ := H.out.ch
        rw [show l.drop l.length ++ l.take l.length = l by simp] at hch
        have := grown_sets H.out.gr (w.heap.size + 1) 0 [.string o.t, .string o.l, .string o.r] (.inr (by omega))
        have h2 := (sets_other (w.heap.size + 1) [.string o.t, .string o.l, .string o.r] 0 wr).2.2.2.2 c (by omega)
        exact ⟨⟨s, r, h2.trans hch⟩, this⟩
      have hv : (findT l t).getD tk0 = o ∧ (findT l t).isSome = f := by
        have hf := H.out.fd
        rw [List.take_length] at hf
        rw [hf]
        cases f
        · exact ⟨(H.out.no rfl).symm, rfl⟩
        · exact ⟨rfl, rfl⟩
      rw [hv.1, hv.2]
      clear hv c0 c1 c2 d0 d1 d2 e0 e1 e2 hz H HB
      generalize (((wr.setCell ⟨w.heap.size + 1, 0, none⟩ (.string o.t)).setCell ⟨w.heap.size + 1, 1, none⟩ (.string o.l)).setCell ⟨w.heap.size + 1, 2, none⟩ (.string o.r)) = W at k0 k1 k2 hfin ⊢
      simp [tkC, tk0] at k0 k1 k2
      exact bodyPost_ret (v := .tuple #[.agg #[.string o.t, .string o.l, .string o.r], .bool f]) (by simp [results, Tryz.results55, go_sem, k0, k1, k2]) rfl ⟨rfl, hfin⟩

theorem sclone_any (x : ByteArray) (w : World) (hx : x.size ≤ 281474976710656) : Calls Tryz.prog 78 #[.string x] w fun e w' => e = .returned (.string x) ∧ Below w.heap.size w w' := by
  have hc : Hid (Calls Tryz.prog 119 #[.string x] w fun e w' => e = .returned (.string x) ∧ Below w.heap.size w w') := Tryz.stringslite_Clone x w hx
  go_enter Tryz.func78, Tryz.ntmps78
  go_wp2_with (go_at_call 119; refine hc.out.mono ?_; rintro e w1 ⟨rfl, hb1⟩)
  go_ret
  exact ⟨rfl, hb1⟩

/-- the table while one more is put in -/
structure TA (w wr : World) (c : Nat) (l : List Tk) (x : Tk) (m : List Tk) : Prop where
  ch : Ch wr c m
  b0 : Blk wr w.heap.size #[.chan (some c)] 90
  b1 : Blk wr (w.heap.size + 1) (tkC x) 132
  gr : w.grownBy wr (some c)
  or : m = l ∨ (l.length = 8 ∧ m = l.drop 1)
def TN (c : Nat) (wr : World) : Nat := match wr.heap[c]? with | some (.chan _ buf _ _ _ _) => buf.size | _ => 0
theorem TN_at {c : Nat} {wr : World} {cap : Nat} {buf : Array Value} {cl : Bool} {s r : Nat} {tm : Bool} (h : wr.heap[c]? = some (.chan cap buf cl s r tm)) : TN c wr = buf.size := by unfold TN; rw [h]
def TB (w : World) (c : Nat) (l : List Tk) (x : Tk) (a : Act) (wr : World) : Prop := ∃ (m : List Tk) (s8 s9 s10 s11 s12 s13 s14 s15 s16 : Value), a = ⟨#[.agg #[.chan (some c)], vT x, .pointer (some ⟨w.heap.size, 0, none⟩), .pointer (some ⟨w.heap.size + 1, 0, none⟩), .pointer (some ⟨w.heap.size + 1, 1, none⟩), .string x.l, .string x.l, .pointer (some ⟨w.heap.size + 1, 1, none⟩), s8, s9, s10, s11, s12, s13, s14, s15, s16], []⟩ ∧ Hid (TA w wr c l x m)
set_option maxRecDepth 100000 in
set_option maxHeartbeats 1000000 in
theorem tadd_any (w : World) (c : Nat) (l : List Tk) (x : Tk) (hc : Ch w c l) (hl : l.length ≤ 8) (hx : x.l.size ≤ 281474976710656) :
    Calls Tryz.prog 57 #[.agg #[.chan (some c)], vT x] w fun e w' => e = .returned (.tuple #[]) ∧ Ch w' c (addT l x) ∧ w.grownBy w' (some c) := by
  have hcl := hc.lt
  have HC : Hid (Ch w c l) := hc
  have hcn : Hid (∀ w, Calls Tryz.prog 78 #[.string x.l] w fun e w' => e = .returned (.string x.l) ∧ Below w.heap.size w w') := fun w => sclone_any x.l w hx
  clear hc hx
  refine calls_of_wpN Tryz.func57 rfl ?_
  unfold vT
  simp only [Tryz.ntmps57, List.size_toArray, List.length_cons, List.length_nil, Nat.reduceAdd, Nat.reduceSub, Array.replicate_succ, Array.replicate_zero, List.push_toArray, List.append_toArray, List.nil_append, List.cons_append]
  refine wpN_piece fun K hK => ?_
  go_wp2
  refine wpN_piece fun K hK => ?_
  go_wp2_with (go_at_call 78; refine (hcn.out _).mono ?_; rintro e w1 ⟨rfl, hb1⟩; have d1 : w1.cell? ⟨w.heap.size + 1, 1, none⟩ = some (.string x.l) := (by rw [hb1.cell (p := ⟨w.heap.size + 1, 1, none⟩) (by simp)]; simp [go_sem]); have e1 : w1.frozen? ⟨w.heap.size + 1, 1, none⟩ = false := (by rw [hb1.frozen (p := ⟨w.heap.size + 1, 1, none⟩) (by simp)]; simp [go_sem]))
  refine wpN_block ?_
  have hTA : Hid (TA w (w1.setCell ⟨w.heap.size + 1, 1, none⟩ (.string x.l)) c l x l) := by
    have hB : Below w.heap.size w ((w.alloc (.cells #[.chan (some c)] 90)).alloc (.cells (tkC x) 132)) := (by repeat' (first | with_reducible assumption | with_reducible exact Below.refl _ _ | with_reducible apply Below.drew | with_reducible apply below_drewN | with_reducible apply Below.setCell | with_reducible apply Below.alloc | omega | (simp; done) | (simp; omega)))
    have h2 : Below (w.heap.size + 1) (w.alloc (.cells #[.chan (some c)] 90)) ((w.alloc (.cells #[.chan (some c)] 90)).alloc (.cells (tkC x) 132)) := (Below.refl _ _).alloc (by simp) _
    have q1 := Blk.new (w.alloc (.cells #[.chan (some c)] 90)) (tkC x) 132
    rw [show (w.alloc (.cells #[.chan (some c)] 90)).heap.size = w.heap.size + 1 by simp] at q1
    have q0 : Blk ((w.alloc (.cells #[.chan (some c)] 90)).alloc (.cells (tkC x) 132)) w.heap.size #[.chan (some c)] 90 := (h2.block _ (by omega)).trans (Blk.new w _ _)
    have p0 := q0.below hb1
    have p1 := (q1.below hb1).set 1 (.string x.l)
    have h3 : Below w.heap.size w w1 := bup hB hb1
    have ho := (sets_other (w.heap.size + 1) [.string x.l] 1 w1).2.2.2.2
    obtain ⟨s, r, hh⟩ := HC.out
    exact ⟨⟨s, r, (ho c (by omega)).trans ((h3.block c hcl).trans hh)⟩, (ho _ (by omega)).trans p0, p1, grown_sets (row := some c) ⟨h3.os, h3.tape, h3.output, h3.size, fun b hb _ => h3.block b hb⟩ (w.heap.size + 1) 1 [.string x.l] (.inr (by omega)), .inl rfl⟩
  generalize w1.setCell ⟨w.heap.size + 1, 1, none⟩ (.string x.l) = W at hTA ⊢
  clear hb1 d1 e1 hcn w1
  refine wpN_loop (TB w c l x) (fun _ wr => TN c wr) ?_ ?_
  · exact ⟨l, _, _, _, _, _, _, _, _, _, rfl, hTA⟩
  · rintro a wr ⟨m, s8, s9, s10, s11, s12, s13, s14, s15, s16, rfl, H⟩
    clear hTA
    have c0 : wr.cell? ⟨w.heap.size, 0, none⟩ = some (.chan (some c)) := H.out.b0.cell 0
    have d0 : wr.cell? ⟨w.heap.size + 1, 0, none⟩ = some (.string x.t) := H.out.b1.cell 0
    have d1 : wr.cell? ⟨w.heap.size + 1, 1, none⟩ = some (.string x.l) := H.out.b1.cell 1
    have d2 : wr.cell? ⟨w.heap.size + 1, 2, none⟩ = some (.string x.r) := H.out.b1.cell 2
    refine wpN_block (wpN_seq (wpN_of ?_))
    go_wp2
    refine wpN_seq (wpN_region ?_)
    simp only [List.size_toArray, List.length_cons, List.length_nil, Nat.reduceAdd, Nat.zero_add, List.range, List.range.loop]
    obtain ⟨s, r, hch⟩ := H.out.ch
    by_cases hm : m.length < 8
    · refine rgN_sel_room rfl rfl (c := c) (v := vT x) (z' := vT tk0) (w₁ := wr) (by simp [go_sem, execOp, Act.eval, scase, vT, tk0]) hch (by simp; omega) ?_
      have hch2 := heap_setChan wr c 8 (List.map vT m ++ [vT x]).toArray false (s + 1) r false (Nat.lt_of_lt_of_le hcl H.out.gr.size)
      have gr := grown_chan H.out.gr 8 (List.map vT m ++ [vT x]).toArray false (s + 1) r false
      rw [push_one]
      generalize wr.setChan c 8 (List.map vT m ++ [vT x]).toArray false (s + 1) r false = U at hch2 gr ⊢
      refine rgN_value rfl rfl (v := goInt 0) (w' := U) (by simp [go_sem, execOp, Act.eval, Act.put]) ?_
      refine rgN_value rfl rfl (v := .bool true) (w' := U) (by simp [go_sem, execOp, Act.eval, Act.put]) ?_
      refine rgN_nil ?_
      show wpN _ _ _ ⟨#[.agg #[.chan (some c)], vT x, .pointer (some ⟨w.heap.size, 0, none⟩), .pointer (some ⟨w.heap.size + 1, 0, none⟩), .pointer (some ⟨w.heap.size + 1, 1, none⟩), .string x.l, .string x.l, .pointer (some ⟨w.heap.size + 1, 1, none⟩), .pointer (some ⟨w.heap.size, 0, none⟩), .chan (some c), vT x, .tuple #[goInt 0, .bool false], goInt 0, .bool true, s14, s15, s16], []⟩ U
      have hfin : Hid (Ch U c (addT l x) ∧ w.grownBy U (some c)) := by
        refine ⟨⟨s + 1, r, ?_⟩, gr⟩
        have e : addT l x = m ++ [x] := by
          unfold addT
          rcases H.out.or with e | ⟨e1, e2⟩
          · rw [if_neg (by rw [← e]; omega), e]
          · rw [if_pos (by omega), e2]
        rw [e, List.map_append]
        exact hch2
      clear hch2 gr H hch c0 d0 d1 d2
      refine wpN_of ?_
      go_wp2
      refine bodyPost_ret (results_none rfl _ _ _) rfl ?_
      exact ⟨rfl, hfin.out⟩
    · have hml : m.length = 8 := by rcases H.out.or with e | ⟨e1, e2⟩; rw [e] at hm ⊢; omega; rw [e2] at hm; simp at hm; omega
      have hmo : m = l := by rcases H.out.or with e | ⟨e1, e2⟩; exact e; rw [e2] at hml; simp at hml; omega
      subst hmo
      refine rgN_sel_full rfl rfl (c := c) (v := vT x) (z' := vT tk0) (w₁ := wr) (by simp [go_sem, execOp, Act.eval, scase, vT, tk0]) hch (by simp; omega) ?_
      refine rgN_value rfl rfl (v := goInt (-1)) (w' := wr) (by simp [go_sem, execOp, Act.eval, Act.put]) ?_
      refine rgN_value rfl rfl (v := .bool false) (w' := wr) (by simp [go_sem, execOp, Act.eval, Act.put]) ?_
      refine rgN_nil ?_
      show wpN _ _ _ ⟨#[.agg #[.chan (some c)], vT x, .pointer (some ⟨w.heap.size, 0, none⟩), .pointer (some ⟨w.heap.size + 1, 0, none⟩), .pointer (some ⟨w.heap.size + 1, 1, none⟩), .string x.l, .string x.l, .pointer (some ⟨w.heap.size + 1, 1, none⟩), .pointer (some ⟨w.heap.size, 0, none⟩), .chan (some c), vT x, .tuple #[goInt (-1), .bool false], goInt (-1), .bool false, s14, s15, s16], []⟩ wr
      refine wpN_block (wpN_cond (t := false) rfl (wpN_region ?_))
      simp only [List.size_toArray, List.length_cons, List.length_nil, Nat.reduceAdd, Nat.zero_add, List.range, List.range.loop]
      obtain ⟨y, r', hmy⟩ : ∃ y r', m = y :: r' := by cases m with | nil => simp at hml | cons y r' => exact ⟨y, r', rfl⟩
      have hch0 := hch
      rw [hmy, List.map_cons] at hch
      refine rgN_value rfl rfl (v := .pointer (some ⟨w.heap.size, 0, none⟩)) (w' := wr) (by simp [go_sem, execOp, Act.eval]) ?_
      refine rgN_value rfl rfl (v := .chan (some c)) (w' := wr) (by simp [go_sem, execOp, Act.eval, Act.put, c0]) ?_
      refine rgN_recv rfl rfl (c := c) (z := vT tk0) (w₁ := wr) (by simp [go_sem, execOp, Act.eval, Act.put, rcase, vT, tk0]) hch (by simp) ?_
      rw [ext_one]
      have hch2 := heap_setChan wr c 8 (List.map vT r').toArray false s (r + 1) false (Nat.lt_of_lt_of_le hcl H.out.gr.size)
      have n0 : w.heap.size ≠ c := by omega
      have n1 : w.heap.size + 1 ≠ c := by omega
      have b0 := H.out.b0.chan n0 8 (List.map vT r').toArray false s (r + 1) false
      have b1 := H.out.b1.chan n1 8 (List.map vT r').toArray false s (r + 1) false
      have gr := grown_chan H.out.gr 8 (List.map vT r').toArray false s (r + 1) false
      generalize wr.setChan c 8 (List.map vT r').toArray false s (r + 1) false = U at hch2 b0 b1 gr ⊢
      refine rgN_nil ?_
      refine ⟨⟨r', _, _, _, _, _, _, _, _, _, rfl, (⟨⟨_, _, hch2⟩, b0, b1, gr, .inr ⟨hml, by rw [hmy]; rfl⟩⟩ : TA w U c m x r')⟩, ?_⟩
      rw [TN_at hch2, TN_at hch0, hmy]; simp
end Go.Proofs.YtlikdnmikdldfaaGreatDoor
