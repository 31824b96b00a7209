/-
  BkPt, BkPs
-/
import Derived.Test.YtlikdnmikdldfaaGreatDoorOrderedPBA
import Derived.Test.YtlikdnmikdldfaaGreatDoorOrderedPAL
import Derived.Test.YtlikdnmikdldfaaGreatDoorOrderedPBC
namespace Go.Proofs.YtlikdnmikdldfaaGreatDoor
open Go.ChangeShapes Go.WideShapes Go.ChangeAt Go.RowKit
set_option linter.unusedVariables false
set_option linter.unusedSimpArgs false

/-- what a part leaves in the line, read or not -/
def ptL (l : Ln) (p : Nat) (s : ByteArray) : Ln :=
  if p = 1 then { l with t := nmB s } else if p = 2 then { l with o := nmB s } else if p = 3 then { l with a := rdB s.data.toList, n := rdN s.data.toList }
  else if p = 4 then { l with d := aB s.data.toList } else if p = 5 then { l with g := nB s.data.toList 32 } else l
def ptOk (p : Nat) (s : ByteArray) : Bool :=
  if p = 1 then isName s.data.toList else if p = 2 then isName s.data.toList else if p = 3 then rdE s.data.toList == 0 else if p = 4 then aOk s.data.toList else if p = 5 then nOk s.data.toList 32 else false
theorem rdPart_eq (l : Ln) (p : Nat) (s : ByteArray) : rdPart l p s.data.toList = if ptOk p s then some (ptL l p s) else none := by
  unfold rdPart ptOk ptL
  split
  · unfold nmB
    split <;> rfl
  split
  · unfold nmB
    split <;> rfl
  split
  · unfold rdE rdB rdN
    rcases rd s.data.toList with _ | b <;> rfl
  split
  · unfold aB aOk
    rcases addr s.data.toList with _ | b <;> rfl
  split
  · unfold nB nOk
    rcases num s.data.toList 32 with _ | b <;> rfl
  · rfl
def PtRes (w : World) (x : Nat) (l : Ln) (p : Nat) (s : ByteArray) (e : Ending) (w' : World) : Prop := e = .returned (.bool (ptOk p s)) ∧ Blk w' x (lnC (ptL l p s)) 74 ∧ Chg (fun b => b = x) w w'
set_option maxRecDepth 100000 in
set_option maxHeartbeats 1000000 in
theorem part_0 (x : Nat) (l : Ln) (s : ByteArray) (w : World) (B : Blk w x (lnC l) 74) :
    Calls Tryz.prog 76 #[.pointer (some ⟨x, 0, none⟩), .int .i64 0, .string s] w (PtRes w x l 0 s) := by
  have HB : Hid (Blk w x (lnC l) 74) := B
  clear B
  go_enter Tryz.func76, Tryz.ntmps76
  go_wp2
  go_returns
  exact ⟨rfl, HB.out, Chg.refl _ _⟩
set_option maxRecDepth 100000 in
set_option maxHeartbeats 1000000 in
theorem part_1 (x : Nat) (l : Ln) (s : ByteArray) (w : World) (E : Env w) (hs : s.size ≤ 2097152) (B : Blk w x (lnC l) 74) :
    Calls Tryz.prog 76 #[.pointer (some ⟨x, 0, none⟩), .int .i64 1, .string s] w (PtRes w x l 1 s) := by
  have HN : Hid (∀ W, Below w.heap.size w W → Calls Tryz.prog 114 #[.string s] W fun e w' => e = .returned (.tuple #[.string (nmB s), .bool (isName s.data.toList)]) ∧ Below W.heap.size W w') := fun W hW => readName_any s W
  have HB : Hid (Blk w x (lnC l) 74) := B
  have HP : Hid (ptOk 1 s = isName s.data.toList ∧ ptL l 1 s = { l with t := nmB s }) := ⟨rfl, rfl⟩
  unfold PtRes
  revert HP
  generalize ptOk 1 s = ok
  generalize ptL l 1 s = l'
  intro HP
  generalize nmB s = r at HN HP
  generalize isName s.data.toList = f at HN HP
  clear B
  have hx := HB.out.lt
  go_enter Tryz.func76, Tryz.ntmps76
  go_wp2_with (go_at_call 114; refine (HN.out _ (by repeat' (first | with_reducible assumption | with_reducible exact Below.refl _ _ | with_reducible apply Below.drew | with_reducible apply below_drewN | with_reducible apply Below.setCell | with_reducible apply Below.alloc | omega | (simp; done) | (simp; omega)))).mono ?_; rintro e w1 ⟨rfl, hq1⟩; have hb1 : Hid (Below w.heap.size w w1) := Below.trans (B := w.heap.size) (a := w) (by repeat' (first | with_reducible assumption | with_reducible exact Below.refl _ _ | with_reducible apply Below.drew | with_reducible apply below_drewN | with_reducible apply Below.setCell | with_reducible apply Below.alloc | omega | (simp; done) | (simp; omega))) (hq1.mono (by first | omega | (simp; done) | (simp; omega))); have B1 : Hid (Blk w1 x #[.int .i64 l.v, .string l.t, .string l.o, .int .u32 l.a, .int .i64 l.n, .int .u32 l.d, .int .i64 l.g] 74) := HB.out.below hb1.out; clear hq1; have k1 : w1.cell? ⟨x, 1, none⟩ = some (.string l.t) := B1.out.cell 1; have g1 := B1.out.frozen 1; have hz := B1.out.lt)
  go_returns
  exact ⟨by rw [HP.out.1]; rfl, by rw [HP.out.2]; exact (B1.out.set 1 (.string r)), (Chg.below hb1.out).sets x 1 [.string r] (.inl rfl)⟩
set_option maxRecDepth 100000 in
set_option maxHeartbeats 1000000 in
theorem part_2 (x : Nat) (l : Ln) (s : ByteArray) (w : World) (E : Env w) (hs : s.size ≤ 2097152) (B : Blk w x (lnC l) 74) :
    Calls Tryz.prog 76 #[.pointer (some ⟨x, 0, none⟩), .int .i64 2, .string s] w (PtRes w x l 2 s) := by
  have HN : Hid (∀ W, Below w.heap.size w W → Calls Tryz.prog 114 #[.string s] W fun e w' => e = .returned (.tuple #[.string (nmB s), .bool (isName s.data.toList)]) ∧ Below W.heap.size W w') := fun W hW => readName_any s W
  have HB : Hid (Blk w x (lnC l) 74) := B
  have HP : Hid (ptOk 2 s = isName s.data.toList ∧ ptL l 2 s = { l with o := nmB s }) := ⟨rfl, rfl⟩
  unfold PtRes
  revert HP
  generalize ptOk 2 s = ok
  generalize ptL l 2 s = l'
  intro HP
  generalize nmB s = r at HN HP
  generalize isName s.data.toList = f at HN HP
  clear B
  have hx := HB.out.lt
  go_enter Tryz.func76, Tryz.ntmps76
  go_wp2_with (go_at_call 114; refine (HN.out _ (by repeat' (first | with_reducible assumption | with_reducible exact Below.refl _ _ | with_reducible apply Below.drew | with_reducible apply below_drewN | with_reducible apply Below.setCell | with_reducible apply Below.alloc | omega | (simp; done) | (simp; omega)))).mono ?_; rintro e w1 ⟨rfl, hq1⟩; have hb1 : Hid (Below w.heap.size w w1) := Below.trans (B := w.heap.size) (a := w) (by repeat' (first | with_reducible assumption | with_reducible exact Below.refl _ _ | with_reducible apply Below.drew | with_reducible apply below_drewN | with_reducible apply Below.setCell | with_reducible apply Below.alloc | omega | (simp; done) | (simp; omega))) (hq1.mono (by first | omega | (simp; done) | (simp; omega))); have B1 : Hid (Blk w1 x #[.int .i64 l.v, .string l.t, .string l.o, .int .u32 l.a, .int .i64 l.n, .int .u32 l.d, .int .i64 l.g] 74) := HB.out.below hb1.out; clear hq1; have k2 : w1.cell? ⟨x, 2, none⟩ = some (.string l.o) := B1.out.cell 2; have g2 := B1.out.frozen 2; have hz := B1.out.lt)
  go_returns
  exact ⟨by rw [HP.out.1]; rfl, by rw [HP.out.2]; exact (B1.out.set 2 (.string r)), (Chg.below hb1.out).sets x 2 [.string r] (.inl rfl)⟩
set_option maxRecDepth 100000 in
set_option maxHeartbeats 1000000 in
theorem part_3 (x : Nat) (l : Ln) (s : ByteArray) (w : World) (E : Env w) (hs : s.size ≤ 2097152) (B : Blk w x (lnC l) 74) :
    Calls Tryz.prog 76 #[.pointer (some ⟨x, 0, none⟩), .int .i64 3, .string s] w (PtRes w x l 3 s) := by
  have HN : Hid (∀ W, Below w.heap.size w W → Calls Tryz.prog 115 #[.string s] W fun e w' => e = .returned (.tuple #[.agg #[.int .u32 (rdB s.data.toList), .int .i64 (rdN s.data.toList)], .int .i64 (rdE s.data.toList)]) ∧ Below W.heap.size W w') := fun W hW => bread_any s W (E.mono hW) hs
  have HB : Hid (Blk w x (lnC l) 74) := B
  have HP : Hid (ptOk 3 s = (rdE s.data.toList == 0) ∧ ptL l 3 s = { l with a := rdB s.data.toList, n := rdN s.data.toList }) := ⟨rfl, rfl⟩
  unfold PtRes
  revert HP
  generalize ptOk 3 s = ok
  generalize ptL l 3 s = l'
  intro HP
  generalize rdB s.data.toList = ra at HN HP
  generalize rdN s.data.toList = rn at HN HP
  generalize rdE s.data.toList = re at HN HP
  clear B
  have hx := HB.out.lt
  go_enter Tryz.func76, Tryz.ntmps76
  go_wp2_with (go_at_call 115; refine (HN.out _ (by repeat' (first | with_reducible assumption | with_reducible exact Below.refl _ _ | with_reducible apply Below.drew | with_reducible apply below_drewN | with_reducible apply Below.setCell | with_reducible apply Below.alloc | omega | (simp; done) | (simp; omega)))).mono ?_; rintro e w1 ⟨rfl, hq1⟩; have hb1 : Hid (Below w.heap.size w w1) := Below.trans (B := w.heap.size) (a := w) (by repeat' (first | with_reducible assumption | with_reducible exact Below.refl _ _ | with_reducible apply Below.drew | with_reducible apply below_drewN | with_reducible apply Below.setCell | with_reducible apply Below.alloc | omega | (simp; done) | (simp; omega))) (hq1.mono (by first | omega | (simp; done) | (simp; omega))); have B1 : Hid (Blk w1 x #[.int .i64 l.v, .string l.t, .string l.o, .int .u32 l.a, .int .i64 l.n, .int .u32 l.d, .int .i64 l.g] 74) := HB.out.below hb1.out; clear hq1; have k3 : w1.cell? ⟨x, 3, none⟩ = some (.int .u32 l.a) := B1.out.cell 3; have g3 := B1.out.frozen 3; have k4 : w1.cell? ⟨x, 4, none⟩ = some (.int .i64 l.n) := B1.out.cell 4; have g4 := B1.out.frozen 4; have hz := B1.out.lt)
  go_returns
  exact ⟨by rw [HP.out.1]; rfl, by rw [HP.out.2]; exact ((B1.out.set 3 (.int .u32 ra)).set 4 (.int .i64 rn)), (Chg.below hb1.out).sets x 3 [.int .u32 ra, .int .i64 rn] (.inl rfl)⟩
set_option maxRecDepth 100000 in
set_option maxHeartbeats 1000000 in
theorem part_4 (x : Nat) (l : Ln) (s : ByteArray) (w : World) (E : Env w) (hs : s.size ≤ 2097152) (B : Blk w x (lnC l) 74) :
    Calls Tryz.prog 76 #[.pointer (some ⟨x, 0, none⟩), .int .i64 4, .string s] w (PtRes w x l 4 s) := by
  have HN : Hid (∀ W, Below w.heap.size w W → Calls Tryz.prog 116 #[.string s] W fun e w' => e = .returned (.tuple #[.int .u32 (aB s.data.toList), .bool (aOk s.data.toList)]) ∧ Below W.heap.size W w') := fun W hW => ra_any s W (E.mono hW) hs
  have HB : Hid (Blk w x (lnC l) 74) := B
  have HP : Hid (ptOk 4 s = aOk s.data.toList ∧ ptL l 4 s = { l with d := aB s.data.toList }) := ⟨rfl, rfl⟩
  unfold PtRes
  revert HP
  generalize ptOk 4 s = ok
  generalize ptL l 4 s = l'
  intro HP
  generalize aB s.data.toList = ra at HN HP
  generalize aOk s.data.toList = f at HN HP
  clear B
  have hx := HB.out.lt
  go_enter Tryz.func76, Tryz.ntmps76
  go_wp2_with (go_at_call 116; refine (HN.out _ (by repeat' (first | with_reducible assumption | with_reducible exact Below.refl _ _ | with_reducible apply Below.drew | with_reducible apply below_drewN | with_reducible apply Below.setCell | with_reducible apply Below.alloc | omega | (simp; done) | (simp; omega)))).mono ?_; rintro e w1 ⟨rfl, hq1⟩; have hb1 : Hid (Below w.heap.size w w1) := Below.trans (B := w.heap.size) (a := w) (by repeat' (first | with_reducible assumption | with_reducible exact Below.refl _ _ | with_reducible apply Below.drew | with_reducible apply below_drewN | with_reducible apply Below.setCell | with_reducible apply Below.alloc | omega | (simp; done) | (simp; omega))) (hq1.mono (by first | omega | (simp; done) | (simp; omega))); have B1 : Hid (Blk w1 x #[.int .i64 l.v, .string l.t, .string l.o, .int .u32 l.a, .int .i64 l.n, .int .u32 l.d, .int .i64 l.g] 74) := HB.out.below hb1.out; clear hq1; have k5 : w1.cell? ⟨x, 5, none⟩ = some (.int .u32 l.d) := B1.out.cell 5; have g5 := B1.out.frozen 5; have hz := B1.out.lt)
  go_returns
  exact ⟨by rw [HP.out.1]; rfl, by rw [HP.out.2]; exact (B1.out.set 5 (.int .u32 ra)), (Chg.below hb1.out).sets x 5 [.int .u32 ra] (.inl rfl)⟩
set_option maxRecDepth 100000 in
set_option maxHeartbeats 1000000 in
theorem part_5 (x : Nat) (l : Ln) (s : ByteArray) (w : World) (E : Env w) (hs : s.size ≤ 2097152) (B : Blk w x (lnC l) 74) :
    Calls Tryz.prog 76 #[.pointer (some ⟨x, 0, none⟩), .int .i64 5, .string s] w (PtRes w x l 5 s) := by
  have HN : Hid (∀ W, Below w.heap.size w W → Calls Tryz.prog 117 #[.string s] W fun e w' => e = .returned (.tuple #[.int .i64 (nB s.data.toList 32), .bool (nOk s.data.toList 32)]) ∧ Below W.heap.size W w') := fun W hW => rbits_any s W (E.mono hW) hs
  have HB : Hid (Blk w x (lnC l) 74) := B
  have HP : Hid (ptOk 5 s = nOk s.data.toList 32 ∧ ptL l 5 s = { l with g := nB s.data.toList 32 }) := ⟨rfl, rfl⟩
  unfold PtRes
  revert HP
  generalize ptOk 5 s = ok
  generalize ptL l 5 s = l'
  intro HP
  generalize nB s.data.toList 32 = ra at HN HP
  generalize nOk s.data.toList 32 = f at HN HP
  clear B
  have hx := HB.out.lt
  go_enter Tryz.func76, Tryz.ntmps76
  go_wp2_with (go_at_call 117; refine (HN.out _ (by repeat' (first | with_reducible assumption | with_reducible exact Below.refl _ _ | with_reducible apply Below.drew | with_reducible apply below_drewN | with_reducible apply Below.setCell | with_reducible apply Below.alloc | omega | (simp; done) | (simp; omega)))).mono ?_; rintro e w1 ⟨rfl, hq1⟩; have hb1 : Hid (Below w.heap.size w w1) := Below.trans (B := w.heap.size) (a := w) (by repeat' (first | with_reducible assumption | with_reducible exact Below.refl _ _ | with_reducible apply Below.drew | with_reducible apply below_drewN | with_reducible apply Below.setCell | with_reducible apply Below.alloc | omega | (simp; done) | (simp; omega))) (hq1.mono (by first | omega | (simp; done) | (simp; omega))); have B1 : Hid (Blk w1 x #[.int .i64 l.v, .string l.t, .string l.o, .int .u32 l.a, .int .i64 l.n, .int .u32 l.d, .int .i64 l.g] 74) := HB.out.below hb1.out; clear hq1; have k6 : w1.cell? ⟨x, 6, none⟩ = some (.int .i64 l.g) := B1.out.cell 6; have g6 := B1.out.frozen 6; have hz := B1.out.lt)
  go_returns
  exact ⟨by rw [HP.out.1]; rfl, by rw [HP.out.2]; exact (B1.out.set 6 (.int .i64 ra)), (Chg.below hb1.out).sets x 6 [.int .i64 ra] (.inl rfl)⟩
theorem readPart_any (x : Nat) (l : Ln) (p : Nat) (hp : p ≤ 5) (s : ByteArray) (w : World) (E : Env w) (hs : s.size ≤ 2097152) (B : Blk w x (lnC l) 74) :
    Calls Tryz.prog 76 #[.pointer (some ⟨x, 0, none⟩), .int .i64 p, .string s] w (PtRes w x l p s) := by
  have hc : p = 0 ∨ p = 1 ∨ p = 2 ∨ p = 3 ∨ p = 4 ∨ p = 5 := by omega
  rcases hc with rfl | rfl | rfl | rfl | rfl | rfl
  · exact part_0 x l s w B
  · exact part_1 x l s w E hs B
  · exact part_2 x l s w E hs B
  · exact part_3 x l s w E hs B
  · exact part_4 x l s w E hs B
  · exact part_5 x l s w E hs B
end Go.Proofs.YtlikdnmikdldfaaGreatDoor
namespace Go.Proofs.YtlikdnmikdldfaaGreatDoor
open Go.ChangeShapes Go.WideShapes Go.ChangeAt Go.RowKit
set_option linter.unusedVariables false
set_option linter.unusedSimpArgs false

/-- the parts, up to four, as the code goes through them -/
def cps : Ln → List Nat → List (List UInt8) → Option Ln
  | l, [], _ => some l
  | l, p :: ps, [] => if p = 0 then some l else none
  | l, p :: ps, w :: ws => match rdPart l p w with | some l' => cps l' ps ws | none => none
theorem drop_at (ws : List ByteArray) (k : Nat) (h : k < ws.length) : (ws.map fun s => s.data.toList).drop k = (ws.getD k ⟨#[]⟩).data.toList :: (ws.map fun s => s.data.toList).drop (k + 1) := by
  rw [List.drop_eq_getElem_cons (by rw [List.length_map]; exact h), List.getElem_map, List.getD_eq_getElem?_getD, List.getElem?_eq_getElem h]; rfl
theorem Env.chg {w w' : World} {S : Nat → Prop} (h : Env w) (hc : Chg S w w') (hG : ∀ b, S b → 10 ≤ b) : Env w' := by
  have hn : ∀ b, b < 10 → ¬ S b := fun b hb q => by have := hG b q; omega
  have hl := h.lo
  have hz := hc.size
  have hv : ∀ (nm : String) (g : Nat), Tryz.prog.globalNamed nm = some g → g < 10 → g < w.heap.size → w'.var? Tryz.prog nm = w.var? Tryz.prog nm := fun nm g e h1 h2 => by
    unfold World.var?
    simp only [e, Option.bind_some]
    rw [hc.block g h2 (hn g h1)]
  refine ⟨by omega, ?_, ?_, ?_, ?_⟩
  · obtain ⟨m, e⟩ := h.mx
    exact ⟨m, (World.cell?_of_block (a := ⟨2, 0, none⟩) (hc.block _ hl.1 (hn _ (by decide)))).trans e⟩
  · obtain ⟨tp, p, e⟩ := h.syn
    exact ⟨tp, p, (hv _ _ gSyn (by decide) hl.2.1).trans e⟩
  · obtain ⟨tp, p, e⟩ := h.rng
    exact ⟨tp, p, (hv _ _ gRng (by decide) hl.2.2.1).trans e⟩
  · exact (hv _ _ gTab (by decide) hl.2.2.2).trans h.tab
theorem part_at0 (p0 p1 p2 p3 : Nat) (w : World) : (Instr.index 119 (.agg #[.int .i64 p0, .int .i64 p1, .int .i64 p2, .int .i64 p3]) (.int .i64 0)).run Tryz.prog w = .ok (.int .i64 p0) w := by kernel_rfl
theorem part_at1 (p0 p1 p2 p3 : Nat) (w : World) : (Instr.index 119 (.agg #[.int .i64 p0, .int .i64 p1, .int .i64 p2, .int .i64 p3]) (.int .i64 1)).run Tryz.prog w = .ok (.int .i64 p1) w := by kernel_rfl
theorem part_at2 (p0 p1 p2 p3 : Nat) (w : World) : (Instr.index 119 (.agg #[.int .i64 p0, .int .i64 p1, .int .i64 p2, .int .i64 p3]) (.int .i64 2)).run Tryz.prog w = .ok (.int .i64 p2) w := by kernel_rfl
theorem part_at3 (p0 p1 p2 p3 : Nat) (w : World) : (Instr.index 119 (.agg #[.int .i64 p0, .int .i64 p1, .int .i64 p2, .int .i64 p3]) (.int .i64 3)).run Tryz.prog w = .ok (.int .i64 p3) w := by kernel_rfl

set_option maxRecDepth 100000 in
set_option maxHeartbeats 2000000 in
theorem readParts_many (x g c n : Nat) (hn : ¬ n ≤ 4) (p0 p1 p2 p3 : Nat) (o : Option Addr) (w : World) :
    Calls Tryz.prog 51 #[.pointer (some ⟨x, 0, none⟩), .agg #[.int .i64 p0, .int .i64 p1, .int .i64 p2, .int .i64 p3], .slice o n c] w fun e w' => e = .returned (.bool false) ∧ Below w.heap.size w w' := by
  have hn2 : (4 : Int) < (n : Int) := by omega
  go_enter Tryz.func51, Tryz.ntmps51
  go_wp2
  go_ret
  exact ⟨rfl, (by repeat' (first | with_reducible assumption | with_reducible exact Below.refl _ _ | with_reducible apply Below.drew | with_reducible apply below_drewN | with_reducible apply Below.setCell | with_reducible apply Below.alloc | omega | (simp; done) | (simp; omega)))⟩
set_option maxRecDepth 100000 in
set_option maxHeartbeats 4000000 in
theorem readParts_go (x g c n : Nat) (ba : Option Addr) (hbb : 0 < n → ba = some ⟨g, 1, none⟩) (ws : List ByteArray) (hws : ws.length = n) (hn : n ≤ 4) (p0 p1 p2 p3 : Nat) (HP : Hid (p0 ≤ 5 ∧ p1 ≤ 5 ∧ p2 ≤ 5 ∧ p3 ≤ 5)) (l : Ln) (w : World) (E : Hid (Env w)) (hG : ∀ b, b = x → 10 ≤ b) (B : Hid (Blk w x (lnC l) 74)) (hg : g < w.heap.size) (hgx : g ≠ x)
    (HW : Hid (∀ k, k < n → w.cell? ⟨g, k + 1, none⟩ = some (.string (ws.getD k ⟨#[]⟩)))) (HL : Hid (∀ k, (ws.getD k ⟨#[]⟩).size ≤ 2097152)) :
    Calls Tryz.prog 51 #[.pointer (some ⟨x, 0, none⟩), .agg #[.int .i64 p0, .int .i64 p1, .int .i64 p2, .int .i64 p3], .slice ba n c] w fun e w' => e = .returned (.bool (cps l [p0, p1, p2, p3] (ws.map fun s => s.data.toList)).isSome) ∧ (∀ l', cps l [p0, p1, p2, p3] (ws.map fun s => s.data.toList) = some l' → Blk w' x (lnC l') 74) ∧ Chg (fun b => b = x) w w' := by
  have hn2 : ¬ (4 : Int) < (n : Int) := by omega
  have hx := B.out.lt
  go_enter Tryz.func51, Tryz.ntmps51
  go_wp2
  have hB0 : Below w.heap.size w (w.alloc (.cells #[.int .i64 p0, .int .i64 p1, .int .i64 p2, .int .i64 p3] 119)) := (by repeat' (first | with_reducible assumption | with_reducible exact Below.refl _ _ | with_reducible apply Below.drew | with_reducible apply below_drewN | with_reducible apply Below.setCell | with_reducible apply Below.alloc | omega | (simp; done) | (simp; omega)))
  have HB0 : Hid (Below w.heap.size w (w.alloc (.cells #[.int .i64 p0, .int .i64 p1, .int .i64 p2, .int .i64 p3] 119))) := hB0
  clear hB0
  go_loopw [13] (fun i wr => ∃ (k : Nat) (lk : Ln), k ≤ 4 ∧ k ≤ n ∧ i = .int .i64 k ∧ Hid (cps l [p0, p1, p2, p3] (ws.map fun s => s.data.toList) = cps lk ([p0, p1, p2, p3].drop k) ((ws.map fun s => s.data.toList).drop k) ∧ Blk wr x (lnC lk) 74 ∧ Chg (fun b => b = x) w wr)) (fun i _ => (4 - intOf i).toNat)
  case atStart => exact ⟨0, l, by omega, by omega, rfl, rfl, B.out.below HB0.out, Chg.below HB0.out⟩
  case round =>
    obtain ⟨k, lk, hk4, hkn, rfl, H⟩ := hrel
    have hc : k = 0 ∨ k = 1 ∨ k = 2 ∨ k = 3 ∨ k = 4 := by omega
    rcases hc with rfl | rfl | rfl | rfl | rfl
    · have hix := part_at0 p0 p1 p2 p3
      by_cases hlt : 0 < n
      · obtain rfl := hbb (by omega)
        have hnk : ¬ ((n : Int) ≤ 0) := by omega
        have hkn : (0 : Int) < (n : Int) := by omega
        obtain ⟨wk, hwk⟩ : ∃ wk : ByteArray, wk = ws.getD 0 ⟨#[]⟩ := ⟨_, rfl⟩
        have hld : wr.cell? ⟨g, 1, none⟩ = some (.string wk) := by
          rw [hwk]; exact (World.cell?_of_block (a := ⟨g, 1, none⟩) (H.out.2.2.block g hg (fun e => hgx e))).trans (HW.out 0 hlt)
        have HS : Hid (cps l [p0, p1, p2, p3] (ws.map fun s => s.data.toList) = if ptOk p0 wk then cps (ptL lk p0 wk) [p1, p2, p3] ((ws.map fun s => s.data.toList).drop 1) else none) := by
          have hdrop : (ws.map fun s => s.data.toList).drop 0 = wk.data.toList :: (ws.map fun s => s.data.toList).drop 1 := by
            rw [hwk]; exact drop_at ws 0 (by omega)
          refine H.out.1.trans ?_
          rw [hdrop]
          show (match rdPart lk p0 wk.data.toList with | some l' => cps l' [p1, p2, p3] _ | none => none) = _
          rw [rdPart_eq]
          rcases ptOk p0 wk <;> rfl
        have HC : Hid (Calls Tryz.prog 76 #[.pointer (some ⟨x, 0, none⟩), .int .i64 p0, .string wk] wr (PtRes wr x lk p0 wk)) := readPart_any x lk p0 (HP.out.1) wk wr (E.out.chg H.out.2.2 hG) (by rw [hwk]; exact HL.out _) H.out.2.1
        clear hwk
        rcases hok : ptOk p0 wk with _ | _
        · go_wp2_with (go_at_call 76; refine HC.out.mono ?_; rintro e w1 ⟨rfl, hB1, hc1⟩; rw [hok]; replace hB1 : Hid _ := hB1; replace hc1 : Hid _ := hc1)
          go_ret
          have hs := HS.out
          rw [hok] at hs
          rw [hs]
          exact ⟨rfl, fun l' e => (by simp at e), H.out.2.2.trans hc1.out (fun b e => .inl e)⟩
        · go_wp2_with (go_at_call 76; refine HC.out.mono ?_; rintro e w1 ⟨rfl, hB1, hc1⟩; rw [hok]; replace hB1 : Hid (Blk w1 x (lnC (ptL lk p0 wk)) 74) := hB1; replace hc1 : Hid (Chg (fun b => b = x) wr w1) := hc1)
          go_roundw
          case rel =>
            have hs := HS.out
            rw [hok] at hs
            exact ⟨1, ptL lk p0 wk, by omega, by omega, rfl, hs, hB1.out, H.out.2.2.trans hc1.out (fun b e => .inl e)⟩
          case measure => simp [intOf]
      · have hnk : (n : Int) ≤ 0 := by omega
        have HS : Hid (cps l [p0, p1, p2, p3] (ws.map fun s => s.data.toList) = if p0 = 0 then some lk else none) := by
          have hd : (ws.map fun s => s.data.toList).drop 0 = [] := List.drop_eq_nil_of_le (by rw [List.length_map]; omega)
          refine H.out.1.trans ?_
          rw [hd]
          rfl
        by_cases hp : p0 = 0
        · have hp2 : ((p0 : Int) == 0) = true := by rw [hp]; rfl
          have HQ : Hid (p0 = 0) := hp
          clear hp
          go_wp2
          go_ret
          have hs := HS.out
          rw [if_pos HQ.out] at hs
          rw [hs]
          exact ⟨rfl, fun l' e => (by cases e; exact H.out.2.1), H.out.2.2⟩
        · have hp2 : ((p0 : Int) == 0) = false := beq_eq_false_iff_ne.2 (by omega)
          have HQ : Hid (¬ p0 = 0) := hp
          clear hp
          go_wp2
          go_ret
          have hs := HS.out
          rw [if_neg HQ.out] at hs
          rw [hs]
          exact ⟨rfl, fun l' e => (by simp at e), H.out.2.2⟩
    · have hix := part_at1 p0 p1 p2 p3
      by_cases hlt : 1 < n
      · obtain rfl := hbb (by omega)
        have hnk : ¬ ((n : Int) ≤ 1) := by omega
        have hkn : (1 : Int) < (n : Int) := by omega
        obtain ⟨wk, hwk⟩ : ∃ wk : ByteArray, wk = ws.getD 1 ⟨#[]⟩ := ⟨_, rfl⟩
        have hld : wr.cell? ⟨g, 2, none⟩ = some (.string wk) := by
          rw [hwk]; exact (World.cell?_of_block (a := ⟨g, 2, none⟩) (H.out.2.2.block g hg (fun e => hgx e))).trans (HW.out 1 hlt)
        have HS : Hid (cps l [p0, p1, p2, p3] (ws.map fun s => s.data.toList) = if ptOk p1 wk then cps (ptL lk p1 wk) [p2, p3] ((ws.map fun s => s.data.toList).drop 2) else none) := by
          have hdrop : (ws.map fun s => s.data.toList).drop 1 = wk.data.toList :: (ws.map fun s => s.data.toList).drop 2 := by
            rw [hwk]; exact drop_at ws 1 (by omega)
          refine H.out.1.trans ?_
          rw [hdrop]
          show (match rdPart lk p1 wk.data.toList with | some l' => cps l' [p2, p3] _ | none => none) = _
          rw [rdPart_eq]
          rcases ptOk p1 wk <;> rfl
        have HC : Hid (Calls Tryz.prog 76 #[.pointer (some ⟨x, 0, none⟩), .int .i64 p1, .string wk] wr (PtRes wr x lk p1 wk)) := readPart_any x lk p1 (HP.out.2.1) wk wr (E.out.chg H.out.2.2 hG) (by rw [hwk]; exact HL.out _) H.out.2.1
        clear hwk
        rcases hok : ptOk p1 wk with _ | _
        · go_wp2_with (go_at_call 76; refine HC.out.mono ?_; rintro e w1 ⟨rfl, hB1, hc1⟩; rw [hok]; replace hB1 : Hid _ := hB1; replace hc1 : Hid _ := hc1)
          go_ret
          have hs := HS.out
          rw [hok] at hs
          rw [hs]
          exact ⟨rfl, fun l' e => (by simp at e), H.out.2.2.trans hc1.out (fun b e => .inl e)⟩
        · go_wp2_with (go_at_call 76; refine HC.out.mono ?_; rintro e w1 ⟨rfl, hB1, hc1⟩; rw [hok]; replace hB1 : Hid (Blk w1 x (lnC (ptL lk p1 wk)) 74) := hB1; replace hc1 : Hid (Chg (fun b => b = x) wr w1) := hc1)
          go_roundw
          case rel =>
            have hs := HS.out
            rw [hok] at hs
            exact ⟨2, ptL lk p1 wk, by omega, by omega, rfl, hs, hB1.out, H.out.2.2.trans hc1.out (fun b e => .inl e)⟩
          case measure => simp [intOf]
      · have hnk : (n : Int) ≤ 1 := by omega
        have HS : Hid (cps l [p0, p1, p2, p3] (ws.map fun s => s.data.toList) = if p1 = 0 then some lk else none) := by
          have hd : (ws.map fun s => s.data.toList).drop 1 = [] := List.drop_eq_nil_of_le (by rw [List.length_map]; omega)
          refine H.out.1.trans ?_
          rw [hd]
          rfl
        by_cases hp : p1 = 0
        · have hp2 : ((p1 : Int) == 0) = true := by rw [hp]; rfl
          have HQ : Hid (p1 = 0) := hp
          clear hp
          go_wp2
          go_ret
          have hs := HS.out
          rw [if_pos HQ.out] at hs
          rw [hs]
          exact ⟨rfl, fun l' e => (by cases e; exact H.out.2.1), H.out.2.2⟩
        · have hp2 : ((p1 : Int) == 0) = false := beq_eq_false_iff_ne.2 (by omega)
          have HQ : Hid (¬ p1 = 0) := hp
          clear hp
          go_wp2
          go_ret
          have hs := HS.out
          rw [if_neg HQ.out] at hs
          rw [hs]
          exact ⟨rfl, fun l' e => (by simp at e), H.out.2.2⟩
    · have hix := part_at2 p0 p1 p2 p3
      by_cases hlt : 2 < n
      · obtain rfl := hbb (by omega)
        have hnk : ¬ ((n : Int) ≤ 2) := by omega
        have hkn : (2 : Int) < (n : Int) := by omega
        obtain ⟨wk, hwk⟩ : ∃ wk : ByteArray, wk = ws.getD 2 ⟨#[]⟩ := ⟨_, rfl⟩
        have hld : wr.cell? ⟨g, 3, none⟩ = some (.string wk) := by
          rw [hwk]; exact (World.cell?_of_block (a := ⟨g, 3, none⟩) (H.out.2.2.block g hg (fun e => hgx e))).trans (HW.out 2 hlt)
        have HS : Hid (cps l [p0, p1, p2, p3] (ws.map fun s => s.data.toList) = if ptOk p2 wk then cps (ptL lk p2 wk) [p3] ((ws.map fun s => s.data.toList).drop 3) else none) := by
          have hdrop : (ws.map fun s => s.data.toList).drop 2 = wk.data.toList :: (ws.map fun s => s.data.toList).drop 3 := by
            rw [hwk]; exact drop_at ws 2 (by omega)
          refine H.out.1.trans ?_
          rw [hdrop]
          show (match rdPart lk p2 wk.data.toList with | some l' => cps l' [p3] _ | none => none) = _
          rw [rdPart_eq]
          rcases ptOk p2 wk <;> rfl
        have HC : Hid (Calls Tryz.prog 76 #[.pointer (some ⟨x, 0, none⟩), .int .i64 p2, .string wk] wr (PtRes wr x lk p2 wk)) := readPart_any x lk p2 (HP.out.2.2.1) wk wr (E.out.chg H.out.2.2 hG) (by rw [hwk]; exact HL.out _) H.out.2.1
        clear hwk
        rcases hok : ptOk p2 wk with _ | _
        · go_wp2_with (go_at_call 76; refine HC.out.mono ?_; rintro e w1 ⟨rfl, hB1, hc1⟩; rw [hok]; replace hB1 : Hid _ := hB1; replace hc1 : Hid _ := hc1)
          go_ret
          have hs := HS.out
          rw [hok] at hs
          rw [hs]
          exact ⟨rfl, fun l' e => (by simp at e), H.out.2.2.trans hc1.out (fun b e => .inl e)⟩
        · go_wp2_with (go_at_call 76; refine HC.out.mono ?_; rintro e w1 ⟨rfl, hB1, hc1⟩; rw [hok]; replace hB1 : Hid (Blk w1 x (lnC (ptL lk p2 wk)) 74) := hB1; replace hc1 : Hid (Chg (fun b => b = x) wr w1) := hc1)
          go_roundw
          case rel =>
            have hs := HS.out
            rw [hok] at hs
            exact ⟨3, ptL lk p2 wk, by omega, by omega, rfl, hs, hB1.out, H.out.2.2.trans hc1.out (fun b e => .inl e)⟩
          case measure => simp [intOf]
      · have hnk : (n : Int) ≤ 2 := by omega
        have HS : Hid (cps l [p0, p1, p2, p3] (ws.map fun s => s.data.toList) = if p2 = 0 then some lk else none) := by
          have hd : (ws.map fun s => s.data.toList).drop 2 = [] := List.drop_eq_nil_of_le (by rw [List.length_map]; omega)
          refine H.out.1.trans ?_
          rw [hd]
          rfl
        by_cases hp : p2 = 0
        · have hp2 : ((p2 : Int) == 0) = true := by rw [hp]; rfl
          have HQ : Hid (p2 = 0) := hp
          clear hp
          go_wp2
          go_ret
          have hs := HS.out
          rw [if_pos HQ.out] at hs
          rw [hs]
          exact ⟨rfl, fun l' e => (by cases e; exact H.out.2.1), H.out.2.2⟩
        · have hp2 : ((p2 : Int) == 0) = false := beq_eq_false_iff_ne.2 (by omega)
          have HQ : Hid (¬ p2 = 0) := hp
          clear hp
          go_wp2
          go_ret
          have hs := HS.out
          rw [if_neg HQ.out] at hs
          rw [hs]
          exact ⟨rfl, fun l' e => (by simp at e), H.out.2.2⟩
    · have hix := part_at3 p0 p1 p2 p3
      by_cases hlt : 3 < n
      · obtain rfl := hbb (by omega)
        have hnk : ¬ ((n : Int) ≤ 3) := by omega
        have hkn : (3 : Int) < (n : Int) := by omega
        obtain ⟨wk, hwk⟩ : ∃ wk : ByteArray, wk = ws.getD 3 ⟨#[]⟩ := ⟨_, rfl⟩
        have hld : wr.cell? ⟨g, 4, none⟩ = some (.string wk) := by
          rw [hwk]; exact (World.cell?_of_block (a := ⟨g, 4, none⟩) (H.out.2.2.block g hg (fun e => hgx e))).trans (HW.out 3 hlt)
        have HS : Hid (cps l [p0, p1, p2, p3] (ws.map fun s => s.data.toList) = if ptOk p3 wk then cps (ptL lk p3 wk) [] ((ws.map fun s => s.data.toList).drop 4) else none) := by
          have hdrop : (ws.map fun s => s.data.toList).drop 3 = wk.data.toList :: (ws.map fun s => s.data.toList).drop 4 := by
            rw [hwk]; exact drop_at ws 3 (by omega)
          refine H.out.1.trans ?_
          rw [hdrop]
          show (match rdPart lk p3 wk.data.toList with | some l' => cps l' [] _ | none => none) = _
          rw [rdPart_eq]
          rcases ptOk p3 wk <;> rfl
        have HC : Hid (Calls Tryz.prog 76 #[.pointer (some ⟨x, 0, none⟩), .int .i64 p3, .string wk] wr (PtRes wr x lk p3 wk)) := readPart_any x lk p3 (HP.out.2.2.2) wk wr (E.out.chg H.out.2.2 hG) (by rw [hwk]; exact HL.out _) H.out.2.1
        clear hwk
        rcases hok : ptOk p3 wk with _ | _
        · go_wp2_with (go_at_call 76; refine HC.out.mono ?_; rintro e w1 ⟨rfl, hB1, hc1⟩; rw [hok]; replace hB1 : Hid _ := hB1; replace hc1 : Hid _ := hc1)
          go_ret
          have hs := HS.out
          rw [hok] at hs
          rw [hs]
          exact ⟨rfl, fun l' e => (by simp at e), H.out.2.2.trans hc1.out (fun b e => .inl e)⟩
        · go_wp2_with (go_at_call 76; refine HC.out.mono ?_; rintro e w1 ⟨rfl, hB1, hc1⟩; rw [hok]; replace hB1 : Hid (Blk w1 x (lnC (ptL lk p3 wk)) 74) := hB1; replace hc1 : Hid (Chg (fun b => b = x) wr w1) := hc1)
          go_roundw
          case rel =>
            have hs := HS.out
            rw [hok] at hs
            exact ⟨4, ptL lk p3 wk, by omega, by omega, rfl, hs, hB1.out, H.out.2.2.trans hc1.out (fun b e => .inl e)⟩
          case measure => simp [intOf]
      · have hnk : (n : Int) ≤ 3 := by omega
        have HS : Hid (cps l [p0, p1, p2, p3] (ws.map fun s => s.data.toList) = if p3 = 0 then some lk else none) := by
          have hd : (ws.map fun s => s.data.toList).drop 3 = [] := List.drop_eq_nil_of_le (by rw [List.length_map]; omega)
          refine H.out.1.trans ?_
          rw [hd]
          rfl
        by_cases hp : p3 = 0
        · have hp2 : ((p3 : Int) == 0) = true := by rw [hp]; rfl
          have HQ : Hid (p3 = 0) := hp
          clear hp
          go_wp2
          go_ret
          have hs := HS.out
          rw [if_pos HQ.out] at hs
          rw [hs]
          exact ⟨rfl, fun l' e => (by cases e; exact H.out.2.1), H.out.2.2⟩
        · have hp2 : ((p3 : Int) == 0) = false := beq_eq_false_iff_ne.2 (by omega)
          have HQ : Hid (¬ p3 = 0) := hp
          clear hp
          go_wp2
          go_ret
          have hs := HS.out
          rw [if_neg HQ.out] at hs
          rw [hs]
          exact ⟨rfl, fun l' e => (by simp at e), H.out.2.2⟩
    · go_wp2
      go_ret
      have hs : cps l [p0, p1, p2, p3] (ws.map fun s => s.data.toList) = some lk := H.out.1.trans rfl
      rw [hs]
      exact ⟨rfl, fun l' e => (by cases e; exact H.out.2.1), H.out.2.2⟩
end Go.Proofs.YtlikdnmikdldfaaGreatDoor
