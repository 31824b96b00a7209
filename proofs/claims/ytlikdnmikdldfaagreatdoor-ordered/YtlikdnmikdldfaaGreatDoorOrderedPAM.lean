/-
  BkZ, BkMa, BkMe, BkAns
-/
import Derived.Test.YtlikdnmikdldfaaGreatDoorOrderedPAL
namespace Go.Proofs.YtlikdnmikdldfaaGreatDoor
open Go.ChangeShapes Go.WideShapes Go.ChangeAt Go.RowKit
set_option linter.unusedVariables false
set_option linter.unusedSimpArgs false

theorem Live.same {w W w2 : World} {x : Nat} {vp vn vl : Value} {l : Ln} (L : Live w W x vp vn vl l) (hz : W.heap.size ≤ w2.heap.size) (hx : w2.heap[x]? = W.heap[x]?) (h0 : w2.heap[w.heap.size]? = W.heap[w.heap.size]?) (h1 : w2.heap[w.heap.size + 1]? = W.heap[w.heap.size + 1]?) : Live w w2 x vp vn vl l :=
  ⟨(World.cell?_of_block (a := ⟨x, 0, none⟩) hx).trans L.x0, (World.cell?_of_block (a := ⟨x, 1, none⟩) hx).trans L.x1, (World.cell?_of_block (a := ⟨x, 2, none⟩) hx).trans L.x2, (World.frozen?_of_block (a := ⟨x, 0, none⟩) hx).trans L.f0, (World.frozen?_of_block (a := ⟨x, 1, none⟩) hx).trans L.f1, (World.frozen?_of_block (a := ⟨x, 2, none⟩) hx).trans L.f2,
    (World.cell?_of_block (a := ⟨w.heap.size, 2, none⟩) h0).trans L.o, (World.cell?_of_block (a := ⟨w.heap.size, 3, none⟩) h0).trans L.a, (World.cell?_of_block (a := ⟨w.heap.size, 4, none⟩) h0).trans L.n, (World.cell?_of_block (a := ⟨w.heap.size, 5, none⟩) h0).trans L.d, (World.cell?_of_block (a := ⟨w.heap.size, 6, none⟩) h0).trans L.g,
    (World.cell?_of_block (a := ⟨w.heap.size + 1, 0, none⟩) h1).trans L.r0, (World.cell?_of_block (a := ⟨w.heap.size + 1, 1, none⟩) h1).trans L.r1, (World.frozen?_of_block (a := ⟨w.heap.size + 1, 0, none⟩) h1).trans L.g0, (World.frozen?_of_block (a := ⟨w.heap.size + 1, 1, none⟩) h1).trans L.g1, by have := L.zx; omega, by have := L.z0; omega, by have := L.z1; omega, h1.trans L.rb⟩
theorem Live.far {w W w2 : World} {x : Nat} {vp vn vl : Value} {l : Ln} {row : Option Nat} (L : Live w W x vp vn vl l) (g : W.grownBy w2 row) (hx : row ≠ some x) (hr : ∀ b, row = some b → b < w.heap.size) : Live w w2 x vp vn vl l :=
  L.same g.size (g.block x L.zx fun e => hx e.symm) (g.block _ L.z0 fun e => by have := hr _ e.symm; omega) (g.block _ L.z1 fun e => by have := hr _ e.symm; omega)

theorem res_put0 {w W w2 w4 : World} {x : Nat} {S : Nat → Prop} {vp vn vl : Value} {c : Nat} {s : Bk} (B : BA w x S vp vn vl c s) (hW : Below w.heap.size w W) (hz : w.heap.size + 2 ≤ W.heap.size) (g2 : W.grownBy w2 vp.ownBlock) {v' : Value} {new : List Hd}
    (o : w2.ownsRow 0 142 3 v' new.length (new.flatMap encH)) (ho : ∀ b, v'.ownBlock = some b → vp.ownBlock = some b ∨ W.heap.size ≤ b) (h4 : Below w2.heap.size (w2.setCell ⟨x, 0, none⟩ v') w4) :
    Res w x S ({ s with pools := new }, okA) (.returned (.agg #[.int .i64 0, .slice none 0 0])) ((w4.setCell ⟨w.heap.size + 1, 0, none⟩ (.int .i64 0)).setCell ⟨w.heap.size + 1, 1, none⟩ (.slice none 0 0)) := by
  obtain ⟨AP0, AP1, AP2⟩ := B.apart
  have hx := B.blk.lt
  have hzs : w2.heap.size ≤ w4.heap.size := by have := h4.size; simpa [World.setCell] using this
  have s1 := sets_other (w.heap.size + 1) [.int .i64 0, .slice none 0 0] 0 w4
  have hx2 : (w2.setCell ⟨x, 0, none⟩ v').heap.size = w2.heap.size := by simp [World.setCell]
  -- what is neither the book's own block nor the answer's
  have hfin : ∀ b, b < w2.heap.size → b ≠ x → b ≠ w.heap.size + 1 → (((w4.setCell ⟨w.heap.size + 1, 0, none⟩ (.int .i64 0)).setCell ⟨w.heap.size + 1, 1, none⟩ (.slice none 0 0))).heap[b]? = w2.heap[b]? := fun b hb hbx hb1 =>
    (s1.2.2.2.2 b hb1).trans ((h4.block b hb).trans (Below.heap_setCell _ _ _ _ hbx))
  have hold : ∀ b, S b → b ≠ x → vp.ownBlock ≠ some b → (((w4.setCell ⟨w.heap.size + 1, 0, none⟩ (.int .i64 0)).setCell ⟨w.heap.size + 1, 1, none⟩ (.slice none 0 0))).heap[b]? = w.heap[b]? := fun b hS hbx hv => by
    have hb := B.sz b hS
    exact (hfin b (by have := g2.size; omega) hbx (by omega)).trans ((g2.block b (by omega) (fun e => hv e.symm)).trans (hW.block b hb))
  have hbk : Blk ((w4.setCell ⟨w.heap.size + 1, 0, none⟩ (.int .i64 0)).setCell ⟨w.heap.size + 1, 1, none⟩ (.slice none 0 0)) x #[v', vn, vl, .chan (some c)] 92 := by
    have b1 : Blk w2 x #[vp, vn, vl, .chan (some c)] 92 := (g2.block x (by omega) (fun e => (AP0 x e.symm).1 rfl)).trans (B.blk.below hW)
    have b2 := b1.set 0 v'
    have b3 : Blk w4 x #[v', vn, vl, .chan (some c)] 92 := (h4.block x b1.lt).trans b2
    exact (s1.2.2.2.2 x (by omega)).trans b3
  refine ⟨_, fun b => S b ∨ v'.ownBlock = some b, rfl, rd_nil _ _ _ _, ⟨v', vn, vl, c, hbk, ?_, ?_, ?_, ?_, .inl B.sx, .inl B.sc, ?_, ?_, ?_, ?_⟩, ?_, ?_⟩
  · exact B.ch.same (hold c B.sc (fun e => B.xc e.symm) (fun e => (AP0 c e).2.1 rfl))
  · refine owns_same o fun b e => hfin b (owns_lt o b e).1 ?_ ?_
    · rintro rfl
      rcases ho _ e with q | q
      · exact (AP0 _ q).1 rfl
      · omega
    · rintro rfl
      rcases ho _ e with q | q
      · have := B.sz _ (B.sp _ q); omega
      · omega
  · exact owns_same B.on fun b e => hold b (B.sn b e) (AP1 b e).1 (AP1 b e).2.2.1
  · exact owns_same B.ol fun b e => hold b (B.sl b e) (AP2 b e).1 (AP2 b e).2.2.1
  · exact fun b e => .inr e
  · exact fun b e => .inl (B.sn b e)
  · exact fun b e => .inl (B.sl b e)
  · rintro b (hb | hb)
    · have := B.sz b hb
      have := hW.size
      have := g2.size
      have h5 := s1.2.2.2.1
      rw [show ((w4.setCell ⟨w.heap.size + 1, 0, none⟩ (.int .i64 0)).setCell ⟨w.heap.size + 1, 1, none⟩ (.slice none 0 0)).heap.size = w4.heap.size from h5]; omega
    · have := (owns_lt o b hb).1
      have h5 := s1.2.2.2.1
      rw [show ((w4.setCell ⟨w.heap.size + 1, 0, none⟩ (.int .i64 0)).setCell ⟨w.heap.size + 1, 1, none⟩ (.slice none 0 0)).heap.size = w4.heap.size from h5]; omega
  · rintro b (hb | hb)
    · exact .inl hb
    · rcases ho b hb with q | q
      · exact .inl (B.sp b q)
      · exact .inr (by omega)
  · have c1 : Chg S w W := Chg.below hW
    have c2 : Chg S W w2 := Chg.grown g2 fun b e => B.sp b e
    have c3 := (c1.trans c2 fun b e => .inl e).sets x 0 [v'] (.inl B.sx)
    have c4 : Chg S (w2.setCell ⟨x, 0, none⟩ v') w4 := ⟨h4.os, h4.tape, h4.output, h4.size, fun b hb hS => h4.block b (by rw [hx2] at hb; exact hb)⟩
    exact (c3.trans c4 fun b e => .inl e).sets (w.heap.size + 1) 0 [.int .i64 0, .slice none 0 0] (.inr (by omega))

theorem res_put1 {w W w2 w4 : World} {x : Nat} {S : Nat → Prop} {vp vn vl : Value} {c : Nat} {s : Bk} (B : BA w x S vp vn vl c s) (hW : Below w.heap.size w W) (hz : w.heap.size + 2 ≤ W.heap.size) (g2 : W.grownBy w2 vn.ownBlock) {v' : Value} {new : List Hd}
    (o : w2.ownsRow 0 166 3 v' new.length (new.flatMap encH)) (ho : ∀ b, v'.ownBlock = some b → vn.ownBlock = some b ∨ W.heap.size ≤ b) (h4 : Below w2.heap.size (w2.setCell ⟨x, 1, none⟩ v') w4) :
    Res w x S ({ s with nets := new }, okA) (.returned (.agg #[.int .i64 0, .slice none 0 0])) ((w4.setCell ⟨w.heap.size + 1, 0, none⟩ (.int .i64 0)).setCell ⟨w.heap.size + 1, 1, none⟩ (.slice none 0 0)) := by
  obtain ⟨AP0, AP1, AP2⟩ := B.apart
  have hx := B.blk.lt
  have hzs : w2.heap.size ≤ w4.heap.size := by have := h4.size; simpa [World.setCell] using this
  have s1 := sets_other (w.heap.size + 1) [.int .i64 0, .slice none 0 0] 0 w4
  have hx2 : (w2.setCell ⟨x, 1, none⟩ v').heap.size = w2.heap.size := by simp [World.setCell]
  -- what is neither the book's own block nor the answer's
  have hfin : ∀ b, b < w2.heap.size → b ≠ x → b ≠ w.heap.size + 1 → (((w4.setCell ⟨w.heap.size + 1, 0, none⟩ (.int .i64 0)).setCell ⟨w.heap.size + 1, 1, none⟩ (.slice none 0 0))).heap[b]? = w2.heap[b]? := fun b hb hbx hb1 =>
    (s1.2.2.2.2 b hb1).trans ((h4.block b hb).trans (Below.heap_setCell _ _ _ _ hbx))
  have hold : ∀ b, S b → b ≠ x → vn.ownBlock ≠ some b → (((w4.setCell ⟨w.heap.size + 1, 0, none⟩ (.int .i64 0)).setCell ⟨w.heap.size + 1, 1, none⟩ (.slice none 0 0))).heap[b]? = w.heap[b]? := fun b hS hbx hv => by
    have hb := B.sz b hS
    exact (hfin b (by have := g2.size; omega) hbx (by omega)).trans ((g2.block b (by omega) (fun e => hv e.symm)).trans (hW.block b hb))
  have hbk : Blk ((w4.setCell ⟨w.heap.size + 1, 0, none⟩ (.int .i64 0)).setCell ⟨w.heap.size + 1, 1, none⟩ (.slice none 0 0)) x #[vp, v', vl, .chan (some c)] 92 := by
    have b1 : Blk w2 x #[vp, vn, vl, .chan (some c)] 92 := (g2.block x (by omega) (fun e => (AP1 x e.symm).1 rfl)).trans (B.blk.below hW)
    have b2 := b1.set 1 v'
    have b3 : Blk w4 x #[vp, v', vl, .chan (some c)] 92 := (h4.block x b1.lt).trans b2
    exact (s1.2.2.2.2 x (by omega)).trans b3
  refine ⟨_, fun b => S b ∨ v'.ownBlock = some b, rfl, rd_nil _ _ _ _, ⟨vp, v', vl, c, hbk, ?_, ?_, ?_, ?_, .inl B.sx, .inl B.sc, ?_, ?_, ?_, ?_⟩, ?_, ?_⟩
  · exact B.ch.same (hold c B.sc (fun e => B.xc e.symm) (fun e => (AP1 c e).2.1 rfl))
  · exact owns_same B.op fun b e => hold b (B.sp b e) (AP0 b e).1 (AP0 b e).2.2.1
  · refine owns_same o fun b e => hfin b (owns_lt o b e).1 ?_ ?_
    · rintro rfl
      rcases ho _ e with q | q
      · exact (AP1 _ q).1 rfl
      · omega
    · rintro rfl
      rcases ho _ e with q | q
      · have := B.sz _ (B.sn _ q); omega
      · omega
  · exact owns_same B.ol fun b e => hold b (B.sl b e) (AP2 b e).1 (AP2 b e).2.2.2
  · exact fun b e => .inl (B.sp b e)
  · exact fun b e => .inr e
  · exact fun b e => .inl (B.sl b e)
  · rintro b (hb | hb)
    · have := B.sz b hb
      have := hW.size
      have := g2.size
      have h5 := s1.2.2.2.1
      rw [show ((w4.setCell ⟨w.heap.size + 1, 0, none⟩ (.int .i64 0)).setCell ⟨w.heap.size + 1, 1, none⟩ (.slice none 0 0)).heap.size = w4.heap.size from h5]; omega
    · have := (owns_lt o b hb).1
      have h5 := s1.2.2.2.1
      rw [show ((w4.setCell ⟨w.heap.size + 1, 0, none⟩ (.int .i64 0)).setCell ⟨w.heap.size + 1, 1, none⟩ (.slice none 0 0)).heap.size = w4.heap.size from h5]; omega
  · rintro b (hb | hb)
    · exact .inl hb
    · rcases ho b hb with q | q
      · exact .inl (B.sn b q)
      · exact .inr (by omega)
  · have c1 : Chg S w W := Chg.below hW
    have c2 : Chg S W w2 := Chg.grown g2 fun b e => B.sn b e
    have c3 := (c1.trans c2 fun b e => .inl e).sets x 1 [v'] (.inl B.sx)
    have c4 : Chg S (w2.setCell ⟨x, 1, none⟩ v') w4 := ⟨h4.os, h4.tape, h4.output, h4.size, fun b hb hS => h4.block b (by rw [hx2] at hb; exact hb)⟩
    exact (c3.trans c4 fun b e => .inl e).sets (w.heap.size + 1) 0 [.int .i64 0, .slice none 0 0] (.inr (by omega))

theorem res_put2 {w W w2 w4 : World} {x : Nat} {S : Nat → Prop} {vp vn vl : Value} {c : Nat} {s : Bk} (B : BA w x S vp vn vl c s) (hW : Below w.heap.size w W) (hz : w.heap.size + 2 ≤ W.heap.size) (g2 : W.grownBy w2 vl.ownBlock) {v' : Value} {new : List Ls}
    (o : w2.ownsRow 0 179 2 v' new.length (new.flatMap encL)) (ho : ∀ b, v'.ownBlock = some b → vl.ownBlock = some b ∨ W.heap.size ≤ b) (h4 : Below w2.heap.size (w2.setCell ⟨x, 2, none⟩ v') w4) :
    Res w x S ({ s with leases := new }, okA) (.returned (.agg #[.int .i64 0, .slice none 0 0])) ((w4.setCell ⟨w.heap.size + 1, 0, none⟩ (.int .i64 0)).setCell ⟨w.heap.size + 1, 1, none⟩ (.slice none 0 0)) := by
  obtain ⟨AP0, AP1, AP2⟩ := B.apart
  have hx := B.blk.lt
  have hzs : w2.heap.size ≤ w4.heap.size := by have := h4.size; simpa [World.setCell] using this
  have s1 := sets_other (w.heap.size + 1) [.int .i64 0, .slice none 0 0] 0 w4
  have hx2 : (w2.setCell ⟨x, 2, none⟩ v').heap.size = w2.heap.size := by simp [World.setCell]
  -- what is neither the book's own block nor the answer's
  have hfin : ∀ b, b < w2.heap.size → b ≠ x → b ≠ w.heap.size + 1 → (((w4.setCell ⟨w.heap.size + 1, 0, none⟩ (.int .i64 0)).setCell ⟨w.heap.size + 1, 1, none⟩ (.slice none 0 0))).heap[b]? = w2.heap[b]? := fun b hb hbx hb1 =>
    (s1.2.2.2.2 b hb1).trans ((h4.block b hb).trans (Below.heap_setCell _ _ _ _ hbx))
  have hold : ∀ b, S b → b ≠ x → vl.ownBlock ≠ some b → (((w4.setCell ⟨w.heap.size + 1, 0, none⟩ (.int .i64 0)).setCell ⟨w.heap.size + 1, 1, none⟩ (.slice none 0 0))).heap[b]? = w.heap[b]? := fun b hS hbx hv => by
    have hb := B.sz b hS
    exact (hfin b (by have := g2.size; omega) hbx (by omega)).trans ((g2.block b (by omega) (fun e => hv e.symm)).trans (hW.block b hb))
  have hbk : Blk ((w4.setCell ⟨w.heap.size + 1, 0, none⟩ (.int .i64 0)).setCell ⟨w.heap.size + 1, 1, none⟩ (.slice none 0 0)) x #[vp, vn, v', .chan (some c)] 92 := by
    have b1 : Blk w2 x #[vp, vn, vl, .chan (some c)] 92 := (g2.block x (by omega) (fun e => (AP2 x e.symm).1 rfl)).trans (B.blk.below hW)
    have b2 := b1.set 2 v'
    have b3 : Blk w4 x #[vp, vn, v', .chan (some c)] 92 := (h4.block x b1.lt).trans b2
    exact (s1.2.2.2.2 x (by omega)).trans b3
  refine ⟨_, fun b => S b ∨ v'.ownBlock = some b, rfl, rd_nil _ _ _ _, ⟨vp, vn, v', c, hbk, ?_, ?_, ?_, ?_, .inl B.sx, .inl B.sc, ?_, ?_, ?_, ?_⟩, ?_, ?_⟩
  · exact B.ch.same (hold c B.sc (fun e => B.xc e.symm) (fun e => (AP2 c e).2.1 rfl))
  · exact owns_same B.op fun b e => hold b (B.sp b e) (AP0 b e).1 (AP0 b e).2.2.2
  · exact owns_same B.on fun b e => hold b (B.sn b e) (AP1 b e).1 (AP1 b e).2.2.2
  · refine owns_same o fun b e => hfin b (owns_lt o b e).1 ?_ ?_
    · rintro rfl
      rcases ho _ e with q | q
      · exact (AP2 _ q).1 rfl
      · omega
    · rintro rfl
      rcases ho _ e with q | q
      · have := B.sz _ (B.sl _ q); omega
      · omega
  · exact fun b e => .inl (B.sp b e)
  · exact fun b e => .inl (B.sn b e)
  · exact fun b e => .inr e
  · rintro b (hb | hb)
    · have := B.sz b hb
      have := hW.size
      have := g2.size
      have h5 := s1.2.2.2.1
      rw [show ((w4.setCell ⟨w.heap.size + 1, 0, none⟩ (.int .i64 0)).setCell ⟨w.heap.size + 1, 1, none⟩ (.slice none 0 0)).heap.size = w4.heap.size from h5]; omega
    · have := (owns_lt o b hb).1
      have h5 := s1.2.2.2.1
      rw [show ((w4.setCell ⟨w.heap.size + 1, 0, none⟩ (.int .i64 0)).setCell ⟨w.heap.size + 1, 1, none⟩ (.slice none 0 0)).heap.size = w4.heap.size from h5]; omega
  · rintro b (hb | hb)
    · exact .inl hb
    · rcases ho b hb with q | q
      · exact .inl (B.sl b q)
      · exact .inr (by omega)
  · have c1 : Chg S w W := Chg.below hW
    have c2 : Chg S W w2 := Chg.grown g2 fun b e => B.sl b e
    have c3 := (c1.trans c2 fun b e => .inl e).sets x 2 [v'] (.inl B.sx)
    have c4 : Chg S (w2.setCell ⟨x, 2, none⟩ v') w4 := ⟨h4.os, h4.tape, h4.output, h4.size, fun b hb hS => h4.block b (by rw [hx2] at hb; exact hb)⟩
    exact (c3.trans c4 fun b e => .inl e).sets (w.heap.size + 1) 0 [.int .i64 0, .slice none 0 0] (.inr (by omega))
end Go.Proofs.YtlikdnmikdldfaaGreatDoor
namespace Go.Proofs.YtlikdnmikdldfaaGreatDoor
open Go.ChangeShapes Go.WideShapes Go.ChangeAt Go.RowKit
set_option linter.unusedVariables false
set_option linter.unusedSimpArgs false

theorem insH_len (l : List Hd) (h : Hd) : (insH l h).length = l.length + 1 := by
  have hle : cntH l h.a ≤ l.length := List.countP_le_length
  unfold insH; simp; omega

set_option maxRecDepth 100000 in
set_option maxHeartbeats 2000000 in
theorem pool_range (w : World) (x : Nat) (S : Nat → Prop) (s : Bk) (l : Ln) (hI : Inv s) (hL : LnOk l) (h : BkAt w x S s) (hn : l.n < 8 ∨ 30 < l.n) :
    Calls Tryz.prog 58 #[.pointer (some ⟨x, 0, none⟩), .agg (lnC l)] w (Res w x S (s, ref 4)) := by
  obtain ⟨vp, vn, vl, c, B⟩ := h
  have hx := B.blk.lt
  have H : Hid (BkAt w x S s) := ⟨vp, vn, vl, c, B⟩
  have x0 : w.cell? ⟨x, 0, none⟩ = some vp := B.blk.cell 0
  have x1 : w.cell? ⟨x, 1, none⟩ = some vn := B.blk.cell 1
  have x2 : w.cell? ⟨x, 2, none⟩ = some vl := B.blk.cell 2
  have LIVE : Hid (∀ wk, Below (w.heap.size + 2) ((w.alloc (.cells #[.int .i64 l.v, .string l.t, .string l.o, .int .u32 l.a, .int .i64 l.n, .int .u32 l.d, .int .i64 l.g] 74)).alloc (.cells #[.int .i64 0, .slice none 0 0] 79)) wk → Live w wk x vp vn vl l) := live_of l B
  have HBA : Hid (BA w x S vp vn vl c s) := B
  have hxa : ¬ (x = w.heap.size) := by omega
  have hxb : ¬ (w.heap.size = x) := by omega
  clear B
  unfold lnC
  go_enter Tryz.func58, Tryz.ntmps58
  by_cases h8 : l.n < 8
  · go_wp2_with (go_at_call 31; refine (refuse_any 4 _).mono ?_; rintro e w9 ⟨rfl, HQ⟩; have HB9 : Hid (Below (w.heap.size + 2) ((w.alloc (.cells #[.int .i64 l.v, .string l.t, .string l.o, .int .u32 l.a, .int .i64 l.n, .int .u32 l.d, .int .i64 l.g] 74)).alloc (.cells #[.int .i64 0, .slice none 0 0] 79)) w9) := bstep (by repeat' (first | with_reducible assumption | with_reducible exact Below.refl _ _ | with_reducible apply Below.drew | with_reducible apply below_drewN | with_reducible apply Below.setCell | with_reducible apply Below.alloc | omega | (simp; done) | (simp; omega))) (by simp) HQ; clear HQ; have HW9 : Hid (Below w.heap.size w w9) := (w0_below w l).trans (HB9.out.mono (by omega)); have LV9 := LIVE.out w9 HB9.out; have r0_9 := LV9.r0; have r1_9 := LV9.r1; have g0_9 := LV9.g0; have g1_9 := LV9.g1; have z1_9 := LV9.z1; clear LV9)
    have hR := (LIVE.out w9 HB9.out).rb
    obtain ⟨kk0, kk1⟩ := two_set hR (.int .i64 4) (.slice none 0 0)
    have hfin := res_ref (l := l) 4 H.out HB9.out
    exact bodyPost_ret (v := .agg #[.int .i64 4, .slice none 0 0]) (by simp [results, Tryz.results58, go_sem, kk0, kk1]) rfl hfin
  · have h30 : 30 < l.n := by omega
    go_wp2_with (go_at_call 31; refine (refuse_any 4 _).mono ?_; rintro e w9 ⟨rfl, HQ⟩; have HB9 : Hid (Below (w.heap.size + 2) ((w.alloc (.cells #[.int .i64 l.v, .string l.t, .string l.o, .int .u32 l.a, .int .i64 l.n, .int .u32 l.d, .int .i64 l.g] 74)).alloc (.cells #[.int .i64 0, .slice none 0 0] 79)) w9) := bstep (by repeat' (first | with_reducible assumption | with_reducible exact Below.refl _ _ | with_reducible apply Below.drew | with_reducible apply below_drewN | with_reducible apply Below.setCell | with_reducible apply Below.alloc | omega | (simp; done) | (simp; omega))) (by simp) HQ; clear HQ; have HW9 : Hid (Below w.heap.size w w9) := (w0_below w l).trans (HB9.out.mono (by omega)); have LV9 := LIVE.out w9 HB9.out; have r0_9 := LV9.r0; have r1_9 := LV9.r1; have g0_9 := LV9.g0; have g1_9 := LV9.g1; have z1_9 := LV9.z1; clear LV9)
    have hR := (LIVE.out w9 HB9.out).rb
    obtain ⟨kk0, kk1⟩ := two_set hR (.int .i64 4) (.slice none 0 0)
    have hfin := res_ref (l := l) 4 H.out HB9.out
    exact bodyPost_ret (v := .agg #[.int .i64 4, .slice none 0 0]) (by simp [results, Tryz.results58, go_sem, kk0, kk1]) rfl hfin

set_option maxRecDepth 100000 in
set_option maxHeartbeats 2000000 in
theorem pool_over (w : World) (x : Nat) (S : Nat → Prop) (s : Bk) (l : Ln) (hI : Inv s) (hL : LnOk l) (h : BkAt w x S s) (h1 : ¬ l.n < 8) (h2 : ¬ 30 < l.n) (h3 : anyH s.pools l.a l.n = true) :
    Calls Tryz.prog 58 #[.pointer (some ⟨x, 0, none⟩), .agg (lnC l)] w (Res w x S (s, ref 5)) := by
  obtain ⟨vp, vn, vl, c, B⟩ := h
  have hx := B.blk.lt
  have H : Hid (BkAt w x S s) := ⟨vp, vn, vl, c, B⟩
  have x0 : w.cell? ⟨x, 0, none⟩ = some vp := B.blk.cell 0
  have x1 : w.cell? ⟨x, 1, none⟩ = some vn := B.blk.cell 1
  have x2 : w.cell? ⟨x, 2, none⟩ = some vl := B.blk.cell 2
  have LIVE : Hid (∀ wk, Below (w.heap.size + 2) ((w.alloc (.cells #[.int .i64 l.v, .string l.t, .string l.o, .int .u32 l.a, .int .i64 l.n, .int .u32 l.d, .int .i64 l.g] 74)).alloc (.cells #[.int .i64 0, .slice none 0 0] 79)) wk → Live w wk x vp vn vl l) := live_of l B
  have HBA : Hid (BA w x S vp vn vl c s) := B
  have hxa : ¬ (x = w.heap.size) := by omega
  have hxb : ¬ (w.heap.size = x) := by omega
  have HP : Hid (∀ Wc, Below w.heap.size w Wc → Calls Tryz.prog 79 #[vp, .agg #[.int .u32 l.a, .int .i64 l.n]] Wc fun e w' => e = .returned (.bool (anyH s.pools l.a l.n)) ∧ Below Wc.heap.size Wc w') := fun Wc hW => anymP s.pools l.a l.n vp Wc (fun q hq => (hI.pa q hq).1) hL.a ((Rd.of_owns (k := 3) (enc := encH) (fun _ => rfl) hd0 B.op).below hW)
  rw [h3] at HP
  obtain ⟨b_vp, c_vp, e_vp, _, _⟩ := owns_slice B.op
  subst e_vp
  clear B
  unfold lnC
  go_enter Tryz.func58, Tryz.ntmps58
  go_wp2
  go_region_held3 (fun w' => w'.cell? ⟨x, 0, none⟩ = some (.slice b_vp s.pools.length c_vp) ∧ w'.cell? ⟨w.heap.size, 3, none⟩ = some (.int .u32 l.a) ∧ w'.cell? ⟨w.heap.size, 4, none⟩ = some (.int .i64 l.n)) (go_keep) (first | (go_at_call 79; refine (HP.out _ (by repeat' (first | with_reducible assumption | with_reducible exact Below.refl _ _ | with_reducible apply Below.drew | with_reducible apply below_drewN | with_reducible apply Below.setCell | with_reducible apply Below.alloc | omega | (simp; done) | (simp; omega)))).mono ?_; rintro e w1 ⟨rfl, HQ⟩; have HB1 : Hid (Below (w.heap.size + 2) ((w.alloc (.cells #[.int .i64 l.v, .string l.t, .string l.o, .int .u32 l.a, .int .i64 l.n, .int .u32 l.d, .int .i64 l.g] 74)).alloc (.cells #[.int .i64 0, .slice none 0 0] 79)) w1) := bstep (by repeat' (first | with_reducible assumption | with_reducible exact Below.refl _ _ | with_reducible apply Below.drew | with_reducible apply below_drewN | with_reducible apply Below.setCell | with_reducible apply Below.alloc | omega | (simp; done) | (simp; omega))) (by simp) HQ; clear HQ; have HW1 : Hid (Below w.heap.size w w1) := (w0_below w l).trans (HB1.out.mono (by omega)); have LV1 := LIVE.out w1 HB1.out; have x0_1 := LV1.x0; have f0_1 := LV1.f0; have o_1 := LV1.o; have a_1 := LV1.a; have n_1 := LV1.n; have zx_1 := LV1.zx; have z0_1 := LV1.z0; have z1_1 := LV1.z1; have r0_1 := LV1.r0; have r1_1 := LV1.r1; have g0_1 := LV1.g0; have g1_1 := LV1.g1; clear LV1))
  all_goals (
    go_wp2_with (go_at_call 31; refine (refuse_any 5 _).mono ?_; rintro e w9 ⟨rfl, HQ⟩; have HB9 : Hid (Below (w.heap.size + 2) ((w.alloc (.cells #[.int .i64 l.v, .string l.t, .string l.o, .int .u32 l.a, .int .i64 l.n, .int .u32 l.d, .int .i64 l.g] 74)).alloc (.cells #[.int .i64 0, .slice none 0 0] 79)) w9) := bstep (by have hp := HB1.out; repeat' (first | with_reducible assumption | with_reducible exact Below.refl _ _ | with_reducible apply Below.drew | with_reducible apply below_drewN | with_reducible apply Below.setCell | with_reducible apply Below.alloc | omega | (simp; done) | (simp; omega))) (by simp) HQ; clear HQ; have HW9 : Hid (Below w.heap.size w w9) := (w0_below w l).trans (HB9.out.mono (by omega)); have LV9 := LIVE.out w9 HB9.out; have r0_9 := LV9.r0; have r1_9 := LV9.r1; have g0_9 := LV9.g0; have g1_9 := LV9.g1; have z1_9 := LV9.z1; clear LV9)
    have hR := (LIVE.out w9 HB9.out).rb
    obtain ⟨kk0, kk1⟩ := two_set hR (.int .i64 5) (.slice none 0 0)
    have hfin := res_ref (l := l) 5 H.out HB9.out
    exact bodyPost_ret (v := .agg #[.int .i64 5, .slice none 0 0]) (by simp [results, Tryz.results58, go_sem, kk0, kk1]) rfl hfin)

set_option maxRecDepth 100000 in
set_option maxHeartbeats 2000000 in
theorem pool_limit (w : World) (x : Nat) (S : Nat → Prop) (s : Bk) (l : Ln) (hI : Inv s) (hL : LnOk l) (h : BkAt w x S s) (h1 : ¬ l.n < 8) (h2 : ¬ 30 < l.n) (h3 : anyH s.pools l.a l.n = false) (h4 : 6 ≤ s.pools.length) :
    Calls Tryz.prog 58 #[.pointer (some ⟨x, 0, none⟩), .agg (lnC l)] w (Res w x S (s, ref 6)) := by
  obtain ⟨vp, vn, vl, c, B⟩ := h
  have hx := B.blk.lt
  have H : Hid (BkAt w x S s) := ⟨vp, vn, vl, c, B⟩
  have x0 : w.cell? ⟨x, 0, none⟩ = some vp := B.blk.cell 0
  have x1 : w.cell? ⟨x, 1, none⟩ = some vn := B.blk.cell 1
  have x2 : w.cell? ⟨x, 2, none⟩ = some vl := B.blk.cell 2
  have LIVE : Hid (∀ wk, Below (w.heap.size + 2) ((w.alloc (.cells #[.int .i64 l.v, .string l.t, .string l.o, .int .u32 l.a, .int .i64 l.n, .int .u32 l.d, .int .i64 l.g] 74)).alloc (.cells #[.int .i64 0, .slice none 0 0] 79)) wk → Live w wk x vp vn vl l) := live_of l B
  have HBA : Hid (BA w x S vp vn vl c s) := B
  have hxa : ¬ (x = w.heap.size) := by omega
  have hxb : ¬ (w.heap.size = x) := by omega
  have HP : Hid (∀ Wc, Below w.heap.size w Wc → Calls Tryz.prog 79 #[vp, .agg #[.int .u32 l.a, .int .i64 l.n]] Wc fun e w' => e = .returned (.bool (anyH s.pools l.a l.n)) ∧ Below Wc.heap.size Wc w') := fun Wc hW => anymP s.pools l.a l.n vp Wc (fun q hq => (hI.pa q hq).1) hL.a ((Rd.of_owns (k := 3) (enc := encH) (fun _ => rfl) hd0 B.op).below hW)
  rw [h3] at HP
  obtain ⟨b_vp, c_vp, e_vp, _, _⟩ := owns_slice B.op
  subst e_vp
  have h5 : (6 : Int) ≤ (s.pools.length : Int) := by omega
  clear B
  unfold lnC
  go_enter Tryz.func58, Tryz.ntmps58
  go_wp2
  go_region_held3 (fun w' => w'.cell? ⟨x, 0, none⟩ = some (.slice b_vp s.pools.length c_vp) ∧ w'.cell? ⟨w.heap.size, 3, none⟩ = some (.int .u32 l.a) ∧ w'.cell? ⟨w.heap.size, 4, none⟩ = some (.int .i64 l.n)) (go_keep) (first | (go_at_call 79; refine (HP.out _ (by repeat' (first | with_reducible assumption | with_reducible exact Below.refl _ _ | with_reducible apply Below.drew | with_reducible apply below_drewN | with_reducible apply Below.setCell | with_reducible apply Below.alloc | omega | (simp; done) | (simp; omega)))).mono ?_; rintro e w1 ⟨rfl, HQ⟩; have HB1 : Hid (Below (w.heap.size + 2) ((w.alloc (.cells #[.int .i64 l.v, .string l.t, .string l.o, .int .u32 l.a, .int .i64 l.n, .int .u32 l.d, .int .i64 l.g] 74)).alloc (.cells #[.int .i64 0, .slice none 0 0] 79)) w1) := bstep (by repeat' (first | with_reducible assumption | with_reducible exact Below.refl _ _ | with_reducible apply Below.drew | with_reducible apply below_drewN | with_reducible apply Below.setCell | with_reducible apply Below.alloc | omega | (simp; done) | (simp; omega))) (by simp) HQ; clear HQ; have HW1 : Hid (Below w.heap.size w w1) := (w0_below w l).trans (HB1.out.mono (by omega)); have LV1 := LIVE.out w1 HB1.out; have x0_1 := LV1.x0; have f0_1 := LV1.f0; have o_1 := LV1.o; have a_1 := LV1.a; have n_1 := LV1.n; have zx_1 := LV1.zx; have z0_1 := LV1.z0; have z1_1 := LV1.z1; have r0_1 := LV1.r0; have r1_1 := LV1.r1; have g0_1 := LV1.g0; have g1_1 := LV1.g1; clear LV1))
  all_goals (
    go_wp2_with (go_at_call 31; refine (refuse_any 6 _).mono ?_; rintro e w9 ⟨rfl, HQ⟩; have HB9 : Hid (Below (w.heap.size + 2) ((w.alloc (.cells #[.int .i64 l.v, .string l.t, .string l.o, .int .u32 l.a, .int .i64 l.n, .int .u32 l.d, .int .i64 l.g] 74)).alloc (.cells #[.int .i64 0, .slice none 0 0] 79)) w9) := bstep (by have hp := HB1.out; repeat' (first | with_reducible assumption | with_reducible exact Below.refl _ _ | with_reducible apply Below.drew | with_reducible apply below_drewN | with_reducible apply Below.setCell | with_reducible apply Below.alloc | omega | (simp; done) | (simp; omega))) (by simp) HQ; clear HQ; have HW9 : Hid (Below w.heap.size w w9) := (w0_below w l).trans (HB9.out.mono (by omega)); have LV9 := LIVE.out w9 HB9.out; have r0_9 := LV9.r0; have r1_9 := LV9.r1; have g0_9 := LV9.g0; have g1_9 := LV9.g1; have z1_9 := LV9.z1; clear LV9)
    have hR := (LIVE.out w9 HB9.out).rb
    obtain ⟨kk0, kk1⟩ := two_set hR (.int .i64 6) (.slice none 0 0)
    have hfin := res_ref (l := l) 6 H.out HB9.out
    exact bodyPost_ret (v := .agg #[.int .i64 6, .slice none 0 0]) (by simp [results, Tryz.results58, go_sem, kk0, kk1]) rfl hfin)

set_option maxRecDepth 100000 in
set_option maxHeartbeats 2000000 in
theorem pool_ok (w : World) (x : Nat) (S : Nat → Prop) (s : Bk) (l : Ln) (hI : Inv s) (hL : LnOk l) (h : BkAt w x S s) (h1 : ¬ l.n < 8) (h2 : ¬ 30 < l.n) (h3 : anyH s.pools l.a l.n = false) (h4 : ¬ 6 ≤ s.pools.length) :
    Calls Tryz.prog 58 #[.pointer (some ⟨x, 0, none⟩), .agg (lnC l)] w (Res w x S ({ s with pools := insH s.pools ⟨l.a, l.n, l.o⟩ }, okA)) := by
  obtain ⟨vp, vn, vl, c, B⟩ := h
  have hx := B.blk.lt
  have H : Hid (BkAt w x S s) := ⟨vp, vn, vl, c, B⟩
  have x0 : w.cell? ⟨x, 0, none⟩ = some vp := B.blk.cell 0
  have x1 : w.cell? ⟨x, 1, none⟩ = some vn := B.blk.cell 1
  have x2 : w.cell? ⟨x, 2, none⟩ = some vl := B.blk.cell 2
  have LIVE : Hid (∀ wk, Below (w.heap.size + 2) ((w.alloc (.cells #[.int .i64 l.v, .string l.t, .string l.o, .int .u32 l.a, .int .i64 l.n, .int .u32 l.d, .int .i64 l.g] 74)).alloc (.cells #[.int .i64 0, .slice none 0 0] 79)) wk → Live w wk x vp vn vl l) := live_of l B
  have HBA : Hid (BA w x S vp vn vl c s) := B
  have hxa : ¬ (x = w.heap.size) := by omega
  have hxb : ¬ (w.heap.size = x) := by omega
  have HP : Hid (∀ Wc, Below w.heap.size w Wc → Calls Tryz.prog 79 #[vp, .agg #[.int .u32 l.a, .int .i64 l.n]] Wc fun e w' => e = .returned (.bool (anyH s.pools l.a l.n)) ∧ Below Wc.heap.size Wc w') := fun Wc hW => anymP s.pools l.a l.n vp Wc (fun q hq => (hI.pa q hq).1) hL.a ((Rd.of_owns (k := 3) (enc := encH) (fun _ => rfl) hd0 B.op).below hW)
  rw [h3] at HP
  have HIN : Hid (∀ Wc, Below w.heap.size w Wc → Calls Tryz.prog 80 #[vp, .agg #[.int .u32 l.a, .int .i64 l.n, .string l.o]] Wc fun e w' => ∃ g cap, e = .returned (.slice (some ⟨g, 0, none⟩) (s.pools.length + 1) cap) ∧ w'.ownsRow 0 142 3 (.slice (some ⟨g, 0, none⟩) (s.pools.length + 1) cap) (s.pools.length + 1) ((insH s.pools ⟨l.a, l.n, l.o⟩).flatMap encH) ∧ Wc.grownBy w' vp.ownBlock ∧ ∀ b, (Value.slice (some ⟨g, 0, none⟩) (s.pools.length + 1) cap).ownBlock = some b → vp.ownBlock = some b ∨ Wc.heap.size ≤ b) := fun Wc hW => by
    refine (insertP s.pools ⟨l.a, l.n, l.o⟩ vp Wc (owns_below B.op hW) hI.pu (by have := hI.p; omega)).mono ?_
    rintro e w' ⟨g, cap, rfl, o1, o2, o3, o4⟩
    exact ⟨g, cap, rfl, o1, o2, fun b e => by obtain rfl : g = b := by simpa [Value.ownBlock] using e
                                              exact o3⟩
  have FIX : Hid (∀ (W : World) v, W.ownsRow 0 142 3 v (s.pools.length + 1) ((insH s.pools ⟨l.a, l.n, l.o⟩).flatMap encH) → W.ownsRow 0 142 3 v (insH s.pools ⟨l.a, l.n, l.o⟩).length ((insH s.pools ⟨l.a, l.n, l.o⟩).flatMap encH)) := fun W v q => by rw [insH_len]; exact q
  have NX : Hid (vp.ownBlock ≠ some x) := fun e => ((B.apart.1) x e).1 rfl
  have NR : Hid (∀ b, vp.ownBlock = some b → b < w.heap.size) := fun b e => (owns_lt B.op b e).1
  generalize hob : vp.ownBlock = ob at HIN NX NR
  have HOB : Hid (vp.ownBlock = ob) := hob
  clear hob
  obtain ⟨b_vp, c_vp, e_vp, _, _⟩ := owns_slice B.op
  subst e_vp
  have h5 : ¬ (6 : Int) ≤ (s.pools.length : Int) := by omega
  clear B
  unfold lnC
  go_enter Tryz.func58, Tryz.ntmps58
  go_wp2
  go_region_held3 (fun w' => w'.cell? ⟨x, 0, none⟩ = some (.slice b_vp s.pools.length c_vp) ∧ w'.cell? ⟨w.heap.size, 3, none⟩ = some (.int .u32 l.a) ∧ w'.cell? ⟨w.heap.size, 4, none⟩ = some (.int .i64 l.n)) (go_keep) (first | (go_at_call 79; refine (HP.out _ (by repeat' (first | with_reducible assumption | with_reducible exact Below.refl _ _ | with_reducible apply Below.drew | with_reducible apply below_drewN | with_reducible apply Below.setCell | with_reducible apply Below.alloc | omega | (simp; done) | (simp; omega)))).mono ?_; rintro e w1 ⟨rfl, HQ⟩; have HB1 : Hid (Below (w.heap.size + 2) ((w.alloc (.cells #[.int .i64 l.v, .string l.t, .string l.o, .int .u32 l.a, .int .i64 l.n, .int .u32 l.d, .int .i64 l.g] 74)).alloc (.cells #[.int .i64 0, .slice none 0 0] 79)) w1) := bstep (by repeat' (first | with_reducible assumption | with_reducible exact Below.refl _ _ | with_reducible apply Below.drew | with_reducible apply below_drewN | with_reducible apply Below.setCell | with_reducible apply Below.alloc | omega | (simp; done) | (simp; omega))) (by simp) HQ; clear HQ; have HW1 : Hid (Below w.heap.size w w1) := (w0_below w l).trans (HB1.out.mono (by omega)); have LV1 := LIVE.out w1 HB1.out; have x0_1 := LV1.x0; have f0_1 := LV1.f0; have o_1 := LV1.o; have a_1 := LV1.a; have n_1 := LV1.n; have zx_1 := LV1.zx; have z0_1 := LV1.z0; have z1_1 := LV1.z1; have r0_1 := LV1.r0; have r1_1 := LV1.r1; have g0_1 := LV1.g0; have g1_1 := LV1.g1; clear LV1))
  all_goals (
    go_wp2
    go_region_with (go_at_call 80; refine (HIN.out _ (by have hp := HW1.out; repeat' (first | with_reducible assumption | with_reducible exact Below.refl _ _ | with_reducible apply Below.drew | with_reducible apply below_drewN | with_reducible apply Below.setCell | with_reducible apply Below.alloc | omega | (simp; done) | (simp; omega)))).mono ?_; rintro e w2 ⟨g2, cap2, rfl, o1, o2, o3⟩; have LV2 := (LIVE.out _ (by have hp := HB1.out; repeat' (first | with_reducible assumption | with_reducible exact Below.refl _ _ | with_reducible apply Below.drew | with_reducible apply below_drewN | with_reducible apply Below.setCell | with_reducible apply Below.alloc | omega | (simp; done) | (simp; omega)))).far o2 NX.out NR.out; have HG : Hid (∃ Wc, Below w.heap.size w Wc ∧ w.heap.size + 2 ≤ Wc.heap.size ∧ Wc.grownBy w2 ob ∧ ∀ b, (Value.slice (some ⟨g2, 0, none⟩) (s.pools.length + 1) cap2).ownBlock = some b → ob = some b ∨ Wc.heap.size ≤ b) := ⟨_, by have hp := HW1.out; repeat' (first | with_reducible assumption | with_reducible exact Below.refl _ _ | with_reducible apply Below.drew | with_reducible apply below_drewN | with_reducible apply Below.setCell | with_reducible apply Below.alloc | omega | (simp; done) | (simp; omega)), by have hz := HB1.out.size; simp at hz ⊢; omega, o2, o3⟩; have HO : Hid (w2.ownsRow 0 142 3 (.slice (some ⟨g2, 0, none⟩) (s.pools.length + 1) cap2) (s.pools.length + 1) ((insH s.pools ⟨l.a, l.n, l.o⟩).flatMap encH)) := o1; have RB2 : Hid (Blk w2 (w.heap.size + 1) #[.int .i64 0, .slice none 0 0] 79) := LV2.rb; have x_2 := LV2.x0; have f_2 := LV2.f0; have a_2 := LV2.a; have n_2 := LV2.n; have o_2 := LV2.o; have zx_2 := LV2.zx; have z1_2 := LV2.z1; clear LV2 o1 o2 o3)
    all_goals (
      go_wp2_with (go_at_call 81; refine (ok_any none 0 0 _).mono ?_; rintro e w4 ⟨rfl, HQ⟩; have HQ4 : Hid (Below w2.heap.size (w2.setCell ⟨x, 0, none⟩ (.slice (some ⟨g2, 0, none⟩) (s.pools.length + 1) cap2)) w4) := HQ.mono (by simp [World.setCell]); have RB4 : Blk w4 (w.heap.size + 1) #[.int .i64 0, .slice none 0 0] 79 := (HQ4.out.block _ z1_2).trans ((Below.heap_setCell _ _ _ _ (fun e => by have e2 : w.heap.size + 1 = x := e; omega)).trans RB2.out); clear HQ; have HR4 : Hid (Blk w4 (w.heap.size + 1) #[.int .i64 0, .slice none 0 0] 79) := RB4; have r0_4 : w4.cell? ⟨w.heap.size + 1, 0, none⟩ = some (.int .i64 0) := RB4.cell 0; have r1_4 : w4.cell? ⟨w.heap.size + 1, 1, none⟩ = some (.slice none 0 0) := RB4.cell 1; have g0_4 : w4.frozen? ⟨w.heap.size + 1, 0, none⟩ = false := RB4.frozen 0; have g1_4 : w4.frozen? ⟨w.heap.size + 1, 1, none⟩ = false := RB4.frozen 1; clear RB4)
      obtain ⟨kk0, kk1⟩ := two_set HR4.out (.int .i64 0) (.slice none 0 0)
      obtain ⟨Wc, hc1, hc2, hc3, hc4⟩ := HG.out
      rw [← HOB.out] at hc3 hc4
      have hfin := res_put0 HBA.out hc1 hc2 hc3 (FIX.out _ _ HO.out) hc4 HQ4.out
      exact bodyPost_ret (v := .agg #[.int .i64 0, .slice none 0 0]) (by simp [results, Tryz.results58, go_sem, kk0, kk1]) rfl hfin))

theorem makePool_any (w : World) (x : Nat) (S : Nat → Prop) (s : Bk) (l : Ln) (hI : Inv s) (hL : LnOk l) (h : BkAt w x S s) : Calls Tryz.prog 58 #[.pointer (some ⟨x, 0, none⟩), .agg (lnC l)] w (Res w x S (doPool s l)) := by
  unfold doPool
  by_cases h1 : l.n < 8 ∨ 30 < l.n
  · rw [if_pos h1]; exact pool_range w x S s l hI hL h h1
  · rw [if_neg h1]
    have n1 : ¬ l.n < 8 := by omega
    have n2 : ¬ 30 < l.n := by omega
    by_cases h3 : anyH s.pools l.a l.n = true
    · rw [if_pos h3]; exact pool_over w x S s l hI hL h n1 n2 h3
    · rw [if_neg h3]
      by_cases h4 : 6 ≤ s.pools.length
      · rw [if_pos h4]; exact pool_limit w x S s l hI hL h n1 n2 (by simpa using h3) h4
      · rw [if_neg h4]; exact pool_ok w x S s l hI hL h n1 n2 (by simpa using h3) h4
end Go.Proofs.YtlikdnmikdldfaaGreatDoor
namespace Go.Proofs.YtlikdnmikdldfaaGreatDoor
open Go.ChangeShapes Go.WideShapes Go.ChangeAt Go.RowKit
set_option linter.unusedVariables false
set_option linter.unusedSimpArgs false

theorem bk_put1 {w W w2 : World} {x : Nat} {S : Nat → Prop} {vp vn vl : Value} {c : Nat} {s : Bk} (B : BA w x S vp vn vl c s) (hW : Below w.heap.size w W) (g2 : W.grownBy w2 vn.ownBlock) {v' : Value} {new : List Hd}
    (o : w2.ownsRow 0 166 3 v' new.length (new.flatMap encH)) (ho : ∀ b, v'.ownBlock = some b → vn.ownBlock = some b ∨ W.heap.size ≤ b) :
    ∃ S', BkAt (w2.setCell ⟨x, 1, none⟩ v') x S' { s with nets := new } ∧ (∀ b, S' b → S b ∨ w.heap.size ≤ b) ∧ Chg S w (w2.setCell ⟨x, 1, none⟩ v') := by
  obtain ⟨AP0, AP1, AP2⟩ := B.apart
  have hx := B.blk.lt
  have hWs := hW.size
  have hx2 : (w2.setCell ⟨x, 1, none⟩ v').heap.size = w2.heap.size := by simp [World.setCell]
  have hfin : ∀ b, b ≠ x → (w2.setCell ⟨x, 1, none⟩ v').heap[b]? = w2.heap[b]? := fun b hbx => Below.heap_setCell _ _ _ _ hbx
  have hold : ∀ b, S b → b ≠ x → vn.ownBlock ≠ some b → (w2.setCell ⟨x, 1, none⟩ v').heap[b]? = w.heap[b]? := fun b hS hbx hv => by
    have hb := B.sz b hS
    exact (hfin b hbx).trans ((g2.block b (by omega) (fun e => hv e.symm)).trans (hW.block b hb))
  have hbk : Blk (w2.setCell ⟨x, 1, none⟩ v') x #[vp, v', vl, .chan (some c)] 92 := by
    have b1 : Blk w2 x #[vp, vn, vl, .chan (some c)] 92 := (g2.block x (by omega) (fun e => (AP1 x e.symm).1 rfl)).trans (B.blk.below hW)
    exact b1.set 1 v'
  refine ⟨fun b => S b ∨ v'.ownBlock = some b, ⟨vp, v', vl, c, hbk, ?_, ?_, ?_, ?_, .inl B.sx, .inl B.sc, ?_, ?_, ?_, ?_⟩, ?_, ?_⟩
  · exact B.ch.same (hold c B.sc (fun e => B.xc e.symm) (fun e => (AP1 c e).2.1 rfl))
  · exact owns_same B.op fun b e => hold b (B.sp b e) (AP0 b e).1 (AP0 b e).2.2.1
  · refine owns_same o fun b e => hfin b ?_
    rintro rfl
    rcases ho _ e with q | q
    · exact (AP1 _ q).1 rfl
    · omega
  · exact owns_same B.ol fun b e => hold b (B.sl b e) (AP2 b e).1 (AP2 b e).2.2.2
  · exact fun b e => .inl (B.sp b e)
  · exact fun b e => .inr e
  · exact fun b e => .inl (B.sl b e)
  · rintro b (hb | hb)
    · have := B.sz b hb
      have := g2.size
      rw [hx2]; omega
    · have := (owns_lt o b hb).1
      rw [hx2]; omega
  · rintro b (hb | hb)
    · exact .inl hb
    · rcases ho b hb with q | q
      · exact .inl (B.sn b q)
      · exact .inr (by omega)
  · have c1 : Chg S w W := Chg.below hW
    have c2 : Chg S W w2 := Chg.grown g2 fun b e => B.sn b e
    exact (c1.trans c2 fun b e => .inl e).sets x 1 [v'] (.inl B.sx)

theorem bk_put2 {w W w2 : World} {x : Nat} {S : Nat → Prop} {vp vn vl : Value} {c : Nat} {s : Bk} (B : BA w x S vp vn vl c s) (hW : Below w.heap.size w W) (g2 : W.grownBy w2 vl.ownBlock) {v' : Value} {new : List Ls}
    (o : w2.ownsRow 0 179 2 v' new.length (new.flatMap encL)) (ho : ∀ b, v'.ownBlock = some b → vl.ownBlock = some b ∨ W.heap.size ≤ b) :
    ∃ S', BkAt (w2.setCell ⟨x, 2, none⟩ v') x S' { s with leases := new } ∧ (∀ b, S' b → S b ∨ w.heap.size ≤ b) ∧ Chg S w (w2.setCell ⟨x, 2, none⟩ v') := by
  obtain ⟨AP0, AP1, AP2⟩ := B.apart
  have hx := B.blk.lt
  have hWs := hW.size
  have hx2 : (w2.setCell ⟨x, 2, none⟩ v').heap.size = w2.heap.size := by simp [World.setCell]
  have hfin : ∀ b, b ≠ x → (w2.setCell ⟨x, 2, none⟩ v').heap[b]? = w2.heap[b]? := fun b hbx => Below.heap_setCell _ _ _ _ hbx
  have hold : ∀ b, S b → b ≠ x → vl.ownBlock ≠ some b → (w2.setCell ⟨x, 2, none⟩ v').heap[b]? = w.heap[b]? := fun b hS hbx hv => by
    have hb := B.sz b hS
    exact (hfin b hbx).trans ((g2.block b (by omega) (fun e => hv e.symm)).trans (hW.block b hb))
  have hbk : Blk (w2.setCell ⟨x, 2, none⟩ v') x #[vp, vn, v', .chan (some c)] 92 := by
    have b1 : Blk w2 x #[vp, vn, vl, .chan (some c)] 92 := (g2.block x (by omega) (fun e => (AP2 x e.symm).1 rfl)).trans (B.blk.below hW)
    exact b1.set 2 v'
  refine ⟨fun b => S b ∨ v'.ownBlock = some b, ⟨vp, vn, v', c, hbk, ?_, ?_, ?_, ?_, .inl B.sx, .inl B.sc, ?_, ?_, ?_, ?_⟩, ?_, ?_⟩
  · exact B.ch.same (hold c B.sc (fun e => B.xc e.symm) (fun e => (AP2 c e).2.1 rfl))
  · exact owns_same B.op fun b e => hold b (B.sp b e) (AP0 b e).1 (AP0 b e).2.2.2
  · exact owns_same B.on fun b e => hold b (B.sn b e) (AP1 b e).1 (AP1 b e).2.2.2
  · refine owns_same o fun b e => hfin b ?_
    rintro rfl
    rcases ho _ e with q | q
    · exact (AP2 _ q).1 rfl
    · omega
  · exact fun b e => .inl (B.sp b e)
  · exact fun b e => .inl (B.sn b e)
  · exact fun b e => .inr e
  · rintro b (hb | hb)
    · have := B.sz b hb
      have := g2.size
      rw [hx2]; omega
    · have := (owns_lt o b hb).1
      rw [hx2]; omega
  · rintro b (hb | hb)
    · exact .inl hb
    · rcases ho b hb with q | q
      · exact .inl (B.sl b q)
      · exact .inr (by omega)
  · have c1 : Chg S w W := Chg.below hW
    have c2 : Chg S W w2 := Chg.grown g2 fun b e => B.sl b e
    exact (c1.trans c2 fun b e => .inl e).sets x 2 [v'] (.inl B.sx)

theorem insL_len (l : List Ls) (h : Ls) : (insL l h).length = l.length + 1 := by
  have hle : cntL l h.a ≤ l.length := List.countP_le_length
  unfold insL; simp; omega
set_option maxRecDepth 100000 in
set_option maxHeartbeats 2000000 in
theorem addSubnet_any (w : World) (x : Nat) (S : Nat → Prop) (s : Bk) (a n : Int) (o : ByteArray) (hI : Inv s) (h : BkAt w x S s) :
    Calls Tryz.prog 88 #[.pointer (some ⟨x, 0, none⟩), .agg #[.int .u32 a, .int .i64 n], .string o] w fun e w' => e = .returned (.tuple #[]) ∧ ∃ S', BkAt w' x S' { s with nets := insH s.nets ⟨a, n, o⟩ } ∧ (∀ b, S' b → S b ∨ w.heap.size ≤ b) ∧ Chg S w w' := by
  obtain ⟨vp, vn, vl, c, B⟩ := h
  have hx := B.blk.lt
  have HBA : Hid (BA w x S vp vn vl c s) := B
  have x1 : w.cell? ⟨x, 1, none⟩ = some vn := B.blk.cell 1
  have HX : Hid (∀ W w2, Below w.heap.size w W → W.grownBy w2 vn.ownBlock → w2.cell? ⟨x, 1, none⟩ = some vn ∧ w2.frozen? ⟨x, 1, none⟩ = false) := fun W w2 hW hg => by
    have b1 : Blk w2 x #[vp, vn, vl, .chan (some c)] 92 := (hg.block x (Nat.lt_of_lt_of_le hx hW.size) (fun e => (B.apart.2.1 x e.symm).1 rfl)).trans (B.blk.below hW)
    exact ⟨b1.cell 1, b1.frozen 1⟩
  have HIN : Hid (∀ Wc, Below w.heap.size w Wc → Calls Tryz.prog 130 #[vn, .agg #[.int .u32 a, .int .i64 n, .string o]] Wc fun e w' => ∃ g cap, e = .returned (.slice (some ⟨g, 0, none⟩) (s.nets.length + 1) cap) ∧ w'.ownsRow 0 166 3 (.slice (some ⟨g, 0, none⟩) (s.nets.length + 1) cap) (s.nets.length + 1) ((insH s.nets ⟨a, n, o⟩).flatMap encH) ∧ Wc.grownBy w' vn.ownBlock ∧ ∀ b, (Value.slice (some ⟨g, 0, none⟩) (s.nets.length + 1) cap).ownBlock = some b → vn.ownBlock = some b ∨ Wc.heap.size ≤ b) := fun Wc hW => by
    refine (insertS s.nets ⟨a, n, o⟩ vn Wc (owns_below B.on hW) hI.nu (by have := hI.n; omega)).mono ?_
    rintro e w' ⟨g, cap, rfl, o1, o2, o3, o4⟩
    exact ⟨g, cap, rfl, o1, o2, fun b e => by obtain rfl : g = b := by simpa [Value.ownBlock] using e
                                              exact o3⟩
  have FIX : Hid (∀ (W : World) v, W.ownsRow 0 166 3 v (s.nets.length + 1) ((insH s.nets ⟨a, n, o⟩).flatMap encH) → W.ownsRow 0 166 3 v (insH s.nets ⟨a, n, o⟩).length ((insH s.nets ⟨a, n, o⟩).flatMap encH)) := fun W v q => by rw [insH_len]; exact q
  generalize hob : vn.ownBlock = ob at HIN HX
  have HOB : Hid (vn.ownBlock = ob) := hob
  clear hob
  obtain ⟨bq, cq, eq, _, _⟩ := owns_slice B.on
  subst eq
  clear B hI
  go_enter Tryz.func88, Tryz.ntmps88
  go_wp2
  go_region_with (go_at_call 130; refine (HIN.out _ (by repeat' (first | with_reducible assumption | with_reducible exact Below.refl _ _ | with_reducible apply Below.drew | with_reducible apply below_drewN | with_reducible apply Below.setCell | with_reducible apply Below.alloc | omega | (simp; done) | (simp; omega)))).mono ?_; rintro e w2 ⟨g2, cap2, rfl, o1, o2, o3⟩; obtain ⟨y1, y2⟩ := HX.out _ w2 (by repeat' (first | with_reducible assumption | with_reducible exact Below.refl _ _ | with_reducible apply Below.drew | with_reducible apply below_drewN | with_reducible apply Below.setCell | with_reducible apply Below.alloc | omega | (simp; done) | (simp; omega))) o2; have HG : Hid (∃ Wc, Below w.heap.size w Wc ∧ Wc.grownBy w2 ob ∧ ∀ b, (Value.slice (some ⟨g2, 0, none⟩) (s.nets.length + 1) cap2).ownBlock = some b → ob = some b ∨ Wc.heap.size ≤ b) := ⟨_, (by repeat' (first | with_reducible assumption | with_reducible exact Below.refl _ _ | with_reducible apply Below.drew | with_reducible apply below_drewN | with_reducible apply Below.setCell | with_reducible apply Below.alloc | omega | (simp; done) | (simp; omega))), o2, o3⟩; have HO : Hid (w2.ownsRow 0 166 3 (.slice (some ⟨g2, 0, none⟩) (s.nets.length + 1) cap2) (s.nets.length + 1) ((insH s.nets ⟨a, n, o⟩).flatMap encH)) := o1; clear o1 o2 o3)
  all_goals (
    go_wp2
    first | go_end0 | refine bodyPost_ret (results_none rfl _ _ _) rfl ?_
    obtain ⟨Wc, hc1, hc3, hc4⟩ := HG.out
    rw [← HOB.out] at hc3 hc4
    exact ⟨rfl, bk_put1 HBA.out hc1 hc3 (FIX.out _ _ HO.out) hc4⟩)
set_option maxRecDepth 100000 in
set_option maxHeartbeats 2000000 in
theorem addLease_any (w : World) (x : Nat) (S : Nat → Prop) (s : Bk) (a : Int) (o : ByteArray) (hI : Inv s) (h : BkAt w x S s) :
    Calls Tryz.prog 96 #[.pointer (some ⟨x, 0, none⟩), .int .u32 a, .string o] w fun e w' => e = .returned (.tuple #[]) ∧ ∃ S', BkAt w' x S' { s with leases := insL s.leases ⟨a, o⟩ } ∧ (∀ b, S' b → S b ∨ w.heap.size ≤ b) ∧ Chg S w w' := by
  obtain ⟨vp, vn, vl, c, B⟩ := h
  have hx := B.blk.lt
  have hk : ∀ q : Ls, (encL q).length = 2 := fun _ => rfl
  have HBA : Hid (BA w x S vp vn vl c s) := B
  have x2 : w.cell? ⟨x, 2, none⟩ = some vl := B.blk.cell 2
  have HX : Hid (∀ W w2, Below w.heap.size w W → W.grownBy w2 vl.ownBlock → w2.cell? ⟨x, 2, none⟩ = some vl ∧ w2.frozen? ⟨x, 2, none⟩ = false) := fun W w2 hW hg => by
    have b1 : Blk w2 x #[vp, vn, vl, .chan (some c)] 92 := (hg.block x (Nat.lt_of_lt_of_le hx hW.size) (fun e => (B.apart.2.2 x e.symm).1 rfl)).trans (B.blk.below hW)
    exact ⟨b1.cell 2, b1.frozen 2⟩
  have HF : Hid (Calls Tryz.prog 101 #[.pointer (some ⟨x, 0, none⟩), .int .u32 a] w fun e w' => e = .returned (.tuple #[.int .i64 (cntL s.leases a : Nat), .bool (hasL s.leases a)]) ∧ Below w.heap.size w w') := findL_any x s.leases a vl w x2 (Rd.of_owns hk ls0 B.ol) (by have := hI.l; omega) hI.lu
  have hle : cntL s.leases a ≤ s.leases.length := List.countP_le_length
  have hob : ∀ b, vl.ownBlock = some b → b < w.heap.size := fun b e => (owns_lt B.ol b e).1
  have HIN : Hid (∀ Wc vb, Below w.heap.size w Wc → w.heap.size ≤ vb → Blk Wc vb #[.int .u32 a, .string o] 179 → Calls Tryz.prog 137 #[vl, .int .i64 (cntL s.leases a : Nat), .slice (some ⟨vb, 0, none⟩) 1 1] Wc fun e w' => ∃ g cap, e = .returned (.slice (some ⟨g, 0, none⟩) (s.leases.length + 1) cap) ∧ w'.ownsRow 0 179 2 (.slice (some ⟨g, 0, none⟩) (s.leases.length + 1) cap) (s.leases.length + 1) ((insL s.leases ⟨a, o⟩).flatMap encL) ∧ Wc.grownBy w' vl.ownBlock ∧ ∀ b, (Value.slice (some ⟨g, 0, none⟩) (s.leases.length + 1) cap).ownBlock = some b → vl.ownBlock = some b ∨ Wc.heap.size ≤ b) := fun Wc vb hW hvb hb => by
    refine (insrL (s.leases.flatMap encL) (encL ⟨a, o⟩) s.leases.length (cntL s.leases a) vl vb Wc (owns_below B.ol hW) hle (by have := hI.l; omega) rfl hb (fun e => by have := hob vb e; omega) (oneF ⟨a, o⟩) (oneL s.leases)).mono ?_
    rintro e w' ⟨g, cap, rfl, o1, o2, o3, o4⟩
    refine ⟨g, cap, rfl, ?_, o2, fun b e => by obtain rfl : g = b := by simpa [Value.ownBlock] using e
                                               exact o3⟩
    rw [take_flat hk, drop_flat hk] at o1
    unfold insL
    rw [List.flatMap_append, List.flatMap_cons, ← List.append_assoc]
    exact o1
  have FIX : Hid (∀ (W : World) v, W.ownsRow 0 179 2 v (s.leases.length + 1) ((insL s.leases ⟨a, o⟩).flatMap encL) → W.ownsRow 0 179 2 v (insL s.leases ⟨a, o⟩).length ((insL s.leases ⟨a, o⟩).flatMap encL)) := fun W v q => by rw [insL_len]; exact q
  clear hob
  generalize hob : vl.ownBlock = ob at HIN HX
  have HOB : Hid (vl.ownBlock = ob) := hob
  clear hob
  generalize cntL s.leases a = cn at HF HIN hle
  generalize hasL s.leases a = fb at HF
  obtain ⟨bq, cq, eq, _, _⟩ := owns_slice B.ol
  subst eq
  clear B hI
  go_enter Tryz.func96, Tryz.ntmps96
  go_wp2_with (first | (go_at_call 101; refine HF.out.mono ?_; rintro e w1 ⟨rfl, hb1⟩; have HB1 : Hid (Below w.heap.size w w1) := hb1; have y0 : w1.cell? ⟨x, 2, none⟩ = some (.slice bq s.leases.length cq) := (hb1.cell (p := ⟨x, 2, none⟩) hx).trans x2; clear hb1) | (go_at_call 137; refine (HIN.out _ _ (Below.alloc HB1.out HB1.out.size _) HB1.out.size (Blk.new w1 _ _)).mono ?_; rintro e w2 ⟨g2, cap2, rfl, o1, o2, o3⟩; obtain ⟨y1, y2⟩ := HX.out _ w2 (Below.alloc HB1.out HB1.out.size _) o2; have HG : Hid (∃ Wc, Below w.heap.size w Wc ∧ Wc.grownBy w2 ob ∧ ∀ b, (Value.slice (some ⟨g2, 0, none⟩) (s.leases.length + 1) cap2).ownBlock = some b → ob = some b ∨ Wc.heap.size ≤ b) := ⟨_, Below.alloc HB1.out HB1.out.size _, o2, o3⟩; have HO : Hid (w2.ownsRow 0 179 2 (.slice (some ⟨g2, 0, none⟩) (s.leases.length + 1) cap2) (s.leases.length + 1) ((insL s.leases ⟨a, o⟩).flatMap encL)) := o1; clear o1 o2 o3))
  first | go_end0 | refine bodyPost_ret (results_none rfl _ _ _) rfl ?_
  obtain ⟨Wc, hc1, hc3, hc4⟩ := HG.out
  rw [← HOB.out] at hc3 hc4
  exact ⟨rfl, bk_put2 HBA.out hc1 hc3 (FIX.out _ _ HO.out) hc4⟩
end Go.Proofs.YtlikdnmikdldfaaGreatDoor
namespace Go.Proofs.YtlikdnmikdldfaaGreatDoor
open Go.ChangeShapes Go.WideShapes Go.ChangeAt Go.RowKit
set_option linter.unusedVariables false
set_option linter.unusedSimpArgs false
theorem isOK_any (k : Nat) (b : Option Addr) (n c : Nat) (w : World) : Calls Tryz.prog 52 #[.agg #[.int .i64 k, .slice b n c]] w fun e w' => e = .returned (.bool (decide (k = 0))) ∧ Below w.heap.size w w' := by
  go_enter Tryz.func52, Tryz.ntmps52
  go_wp2
  by_cases hk : k = 0
  · subst hk
    go_returns
    exact ⟨rfl, (by repeat' (first | with_reducible assumption | with_reducible exact Below.refl _ _ | with_reducible apply Below.drew | with_reducible apply below_drewN | with_reducible apply Below.setCell | with_reducible apply Below.alloc | omega | (simp; done) | (simp; omega)))⟩
  · have h2 : ¬ ((k : Int) = 0) := by omega
    go_returns
    exact ⟨by simp [hk], (by repeat' (first | with_reducible assumption | with_reducible exact Below.refl _ _ | with_reducible apply Below.drew | with_reducible apply below_drewN | with_reducible apply Below.setCell | with_reducible apply Below.alloc | omega | (simp; done) | (simp; omega)))⟩
end Go.Proofs.YtlikdnmikdldfaaGreatDoor
