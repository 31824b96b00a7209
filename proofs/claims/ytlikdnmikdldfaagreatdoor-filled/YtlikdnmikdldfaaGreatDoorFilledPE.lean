/-
  BkPs, BkSp, BkRl, BkRe, BkY, BkZ, BkMa, BkMe, BkMf
-/
import Derived.Test.YtlikdnmikdldfaaGreatDoorFilledPD
namespace Go.Proofs.YtlikdnmikdldfaaGreatDoor
open Go.ChangeShapes Go.WideShapes Go.ChangeAt Go.RowKit
set_option linter.unusedVariables false
set_option linter.unusedSimpArgs false

/-- the parts, up to four, as the code goes through them -/
def cps : Ln → List Nat → List (List UInt8) → Option Ln
  | l, [], _ => some l
  | l, p :: ps, [] => if p = 0 then some l else none
  | l, p :: ps, w :: ws => match rdPart l p w with | some l' => cps l' ps ws | none => none
theorem drop_at (ws : List ByteArray) (k : Nat) (h : k < ws.length) : (ws.map fun s => s.data.toList).drop k = (ws.getD k ⟨#[]⟩).data.toList :: (ws.map fun s => s.data.toList).drop (k + 1) := by
  rw [List.drop_eq_getElem_cons (by rw [List.length_map]; exact h), List.getElem_map, List.getD_eq_getElem?_getD, List.getElem?_eq_getElem h]; rfl
theorem Env.chg {w w' : World} {S : Nat → Prop} (h : Env w) (hc : Chg S w w') (hG : ∀ b, S b → 10 ≤ b) : Env w' := by
  have hn : ∀ b, b < 10 → ¬ S b := fun b hb q => by have := hG b q; omega
  have hl := h.lo
  have hz := hc.size
  have hv : ∀ (nm : String) (g : Nat), Tryz.prog.globalNamed nm = some g → g < 10 → g < w.heap.size → w'.var? Tryz.prog nm = w.var? Tryz.prog nm := fun nm g e h1 h2 => by
    unfold World.var?
    simp only [e, Option.bind_some]
    rw [hc.block g h2 (hn g h1)]
  refine ⟨by omega, ?_, ?_, ?_, ?_⟩
  · obtain ⟨m, e⟩ := h.mx
    exact ⟨m, (World.cell?_of_block (a := ⟨2, 0, none⟩) (hc.block _ hl.1 (hn _ (by decide)))).trans e⟩
  · obtain ⟨tp, p, e⟩ := h.syn
    exact ⟨tp, p, (hv _ _ gSyn (by decide) hl.2.1).trans e⟩
  · obtain ⟨tp, p, e⟩ := h.rng
    exact ⟨tp, p, (hv _ _ gRng (by decide) hl.2.2.1).trans e⟩
  · exact (hv _ _ gTab (by decide) hl.2.2.2).trans h.tab
theorem part_at0 (p0 p1 p2 p3 : Nat) (w : World) : (Instr.index 119 (.agg #[.int .i64 p0, .int .i64 p1, .int .i64 p2, .int .i64 p3]) (.int .i64 0)).run Tryz.prog w = .ok (.int .i64 p0) w := by kernel_rfl
theorem part_at1 (p0 p1 p2 p3 : Nat) (w : World) : (Instr.index 119 (.agg #[.int .i64 p0, .int .i64 p1, .int .i64 p2, .int .i64 p3]) (.int .i64 1)).run Tryz.prog w = .ok (.int .i64 p1) w := by kernel_rfl
theorem part_at2 (p0 p1 p2 p3 : Nat) (w : World) : (Instr.index 119 (.agg #[.int .i64 p0, .int .i64 p1, .int .i64 p2, .int .i64 p3]) (.int .i64 2)).run Tryz.prog w = .ok (.int .i64 p2) w := by kernel_rfl
theorem part_at3 (p0 p1 p2 p3 : Nat) (w : World) : (Instr.index 119 (.agg #[.int .i64 p0, .int .i64 p1, .int .i64 p2, .int .i64 p3]) (.int .i64 3)).run Tryz.prog w = .ok (.int .i64 p3) w := by kernel_rfl

set_option maxRecDepth 100000 in
set_option maxHeartbeats 2000000 in
theorem readParts_many (x g c n : Nat) (hn : ¬ n ≤ 4) (p0 p1 p2 p3 : Nat) (o : Option Addr) (w : World) :
    Calls Tryz.prog 51 #[.pointer (some ⟨x, 0, none⟩), .agg #[.int .i64 p0, .int .i64 p1, .int .i64 p2, .int .i64 p3], .slice o n c] w fun e w' => e = .returned (.bool false) ∧ Below w.heap.size w w' := by
  have hn2 : (4 : Int) < (n : Int) := by omega
  go_enter Tryz.func51, Tryz.ntmps51
  go_wp2
  go_ret
  exact ⟨rfl, (by repeat' (first | with_reducible assumption | with_reducible exact Below.refl _ _ | with_reducible apply Below.drew | with_reducible apply below_drewN | with_reducible apply Below.setCell | with_reducible apply Below.alloc | omega | (simp; done) | (simp; omega)))⟩
set_option maxRecDepth 100000 in
set_option maxHeartbeats 4000000 in
theorem readParts_go (x g c n : Nat) (ba : Option Addr) (hbb : 0 < n → ba = some ⟨g, 1, none⟩) (ws : List ByteArray) (hws : ws.length = n) (hn : n ≤ 4) (p0 p1 p2 p3 : Nat) (HP : Hid (p0 ≤ 5 ∧ p1 ≤ 5 ∧ p2 ≤ 5 ∧ p3 ≤ 5)) (l : Ln) (w : World) (E : Hid (Env w)) (hG : ∀ b, b = x → 10 ≤ b) (B : Hid (Blk w x (lnC l) 74)) (hg : g < w.heap.size) (hgx : g ≠ x)
    (HW : Hid (∀ k, k < n → w.cell? ⟨g, k + 1, none⟩ = some (.string (ws.getD k ⟨#[]⟩)))) (HL : Hid (∀ k, (ws.getD k ⟨#[]⟩).size ≤ 2097152)) :
    Calls Tryz.prog 51 #[.pointer (some ⟨x, 0, none⟩), .agg #[.int .i64 p0, .int .i64 p1, .int .i64 p2, .int .i64 p3], .slice ba n c] w fun e w' => e = .returned (.bool (cps l [p0, p1, p2, p3] (ws.map fun s => s.data.toList)).isSome) ∧ (∀ l', cps l [p0, p1, p2, p3] (ws.map fun s => s.data.toList) = some l' → Blk w' x (lnC l') 74) ∧ Chg (fun b => b = x) w w' := by
  have hn2 : ¬ (4 : Int) < (n : Int) := by omega
  have hx := B.out.lt
  go_enter Tryz.func51, Tryz.ntmps51
  go_wp2
  have hB0 : Below w.heap.size w (w.alloc (.cells #[.int .i64 p0, .int .i64 p1, .int .i64 p2, .int .i64 p3] 119)) := (by repeat' (first | with_reducible assumption | with_reducible exact Below.refl _ _ | with_reducible apply Below.drew | with_reducible apply below_drewN | with_reducible apply Below.setCell | with_reducible apply Below.alloc | omega | (simp; done) | (simp; omega)))
  have HB0 : Hid (Below w.heap.size w (w.alloc (.cells #[.int .i64 p0, .int .i64 p1, .int .i64 p2, .int .i64 p3] 119))) := hB0
  clear hB0
  go_loopw [13] (fun i wr => ∃ (k : Nat) (lk : Ln), k ≤ 4 ∧ k ≤ n ∧ i = .int .i64 k ∧ Hid (cps l [p0, p1, p2, p3] (ws.map fun s => s.data.toList) = cps lk ([p0, p1, p2, p3].drop k) ((ws.map fun s => s.data.toList).drop k) ∧ Blk wr x (lnC lk) 74 ∧ Chg (fun b => b = x) w wr)) (fun i _ => (4 - intOf i).toNat)
  case atStart => exact ⟨0, l, by omega, by omega, rfl, rfl, B.out.below HB0.out, Chg.below HB0.out⟩
  case round =>
    obtain ⟨k, lk, hk4, hkn, rfl, H⟩ := hrel
    have hc : k = 0 ∨ k = 1 ∨ k = 2 ∨ k = 3 ∨ k = 4 := by omega
    rcases hc with rfl | rfl | rfl | rfl | rfl
    · have hix := part_at0 p0 p1 p2 p3
      by_cases hlt : 0 < n
      · obtain rfl := hbb (by omega)
        have hnk : ¬ ((n : Int) ≤ 0) := by omega
        have hkn : (0 : Int) < (n : Int) := by omega
        obtain ⟨wk, hwk⟩ : ∃ wk : ByteArray, wk = ws.getD 0 ⟨#[]⟩ := ⟨_, rfl⟩
        have hld : wr.cell? ⟨g, 1, none⟩ = some (.string wk) := by
          rw [hwk]; exact (World.cell?_of_block (a := ⟨g, 1, none⟩) (H.out.2.2.block g hg (fun e => hgx e))).trans (HW.out 0 hlt)
        have HS : Hid (cps l [p0, p1, p2, p3] (ws.map fun s => s.data.toList) = if ptOk p0 wk then cps (ptL lk p0 wk) [p1, p2, p3] ((ws.map fun s => s.data.toList).drop 1) else none) := by
          have hdrop : (ws.map fun s => s.data.toList).drop 0 = wk.data.toList :: (ws.map fun s => s.data.toList).drop 1 := by
            rw [hwk]; exact drop_at ws 0 (by omega)
          refine H.out.1.trans ?_
          rw [hdrop]
          show (match rdPart lk p0 wk.data.toList with | some l' => cps l' [p1, p2, p3] _ | none => none) = _
          rw [rdPart_eq]
          rcases ptOk p0 wk <;> rfl
        have HC : Hid (Calls Tryz.prog 76 #[.pointer (some ⟨x, 0, none⟩), .int .i64 p0, .string wk] wr (PtRes wr x lk p0 wk)) := readPart_any x lk p0 (HP.out.1) wk wr (E.out.chg H.out.2.2 hG) (by rw [hwk]; exact HL.out _) H.out.2.1
        clear hwk
        rcases hok : ptOk p0 wk with _ | _
        · go_wp2_with (go_at_call 76; refine HC.out.mono ?_; rintro e w1 ⟨rfl, hB1, hc1⟩; rw [hok]; replace hB1 : Hid _ := hB1; replace hc1 : Hid _ := hc1)
          go_ret
          have hs := HS.out
          rw [hok] at hs
          rw [hs]
          exact ⟨rfl, fun l' e => (by simp at e), H.out.2.2.trans hc1.out (fun b e => .inl e)⟩
        · go_wp2_with (go_at_call 76; refine HC.out.mono ?_; rintro e w1 ⟨rfl, hB1, hc1⟩; rw [hok]; replace hB1 : Hid (Blk w1 x (lnC (ptL lk p0 wk)) 74) := hB1; replace hc1 : Hid (Chg (fun b => b = x) wr w1) := hc1)
          go_roundw
          case rel =>
            have hs := HS.out
            rw [hok] at hs
            exact ⟨1, ptL lk p0 wk, by omega, by omega, rfl, hs, hB1.out, H.out.2.2.trans hc1.out (fun b e => .inl e)⟩
          case measure => simp [intOf]
      · have hnk : (n : Int) ≤ 0 := by omega
        have HS : Hid (cps l [p0, p1, p2, p3] (ws.map fun s => s.data.toList) = if p0 = 0 then some lk else none) := by
          have hd : (ws.map fun s => s.data.toList).drop 0 = [] := List.drop_eq_nil_of_le (by rw [List.length_map]; omega)
          refine H.out.1.trans ?_
          rw [hd]
          rfl
        by_cases hp : p0 = 0
        · have hp2 : ((p0 : Int) == 0) = true := by rw [hp]; rfl
          have HQ : Hid (p0 = 0) := hp
          clear hp
          go_wp2
          go_ret
          have hs := HS.out
          rw [if_pos HQ.out] at hs
          rw [hs]
          exact ⟨rfl, fun l' e => (by cases e; exact H.out.2.1), H.out.2.2⟩
        · have hp2 : ((p0 : Int) == 0) = false := beq_eq_false_iff_ne.2 (by omega)
          have HQ : Hid (¬ p0 = 0) := hp
          clear hp
          go_wp2
          go_ret
          have hs := HS.out
          rw [if_neg HQ.out] at hs
          rw [hs]
          exact ⟨rfl, fun l' e => (by simp at e), H.out.2.2⟩
    · have hix := part_at1 p0 p1 p2 p3
      by_cases hlt : 1 < n
      · obtain rfl := hbb (by omega)
        have hnk : ¬ ((n : Int) ≤ 1) := by omega
        have hkn : (1 : Int) < (n : Int) := by omega
        obtain ⟨wk, hwk⟩ : ∃ wk : ByteArray, wk = ws.getD 1 ⟨#[]⟩ := ⟨_, rfl⟩
        have hld : wr.cell? ⟨g, 2, none⟩ = some (.string wk) := by
          rw [hwk]; exact (World.cell?_of_block (a := ⟨g, 2, none⟩) (H.out.2.2.block g hg (fun e => hgx e))).trans (HW.out 1 hlt)
        have HS : Hid (cps l [p0, p1, p2, p3] (ws.map fun s => s.data.toList) = if ptOk p1 wk then cps (ptL lk p1 wk) [p2, p3] ((ws.map fun s => s.data.toList).drop 2) else none) := by
          have hdrop : (ws.map fun s => s.data.toList).drop 1 = wk.data.toList :: (ws.map fun s => s.data.toList).drop 2 := by
            rw [hwk]; exact drop_at ws 1 (by omega)
          refine H.out.1.trans ?_
          rw [hdrop]
          show (match rdPart lk p1 wk.data.toList with | some l' => cps l' [p2, p3] _ | none => none) = _
          rw [rdPart_eq]
          rcases ptOk p1 wk <;> rfl
        have HC : Hid (Calls Tryz.prog 76 #[.pointer (some ⟨x, 0, none⟩), .int .i64 p1, .string wk] wr (PtRes wr x lk p1 wk)) := readPart_any x lk p1 (HP.out.2.1) wk wr (E.out.chg H.out.2.2 hG) (by rw [hwk]; exact HL.out _) H.out.2.1
        clear hwk
        rcases hok : ptOk p1 wk with _ | _
        · go_wp2_with (go_at_call 76; refine HC.out.mono ?_; rintro e w1 ⟨rfl, hB1, hc1⟩; rw [hok]; replace hB1 : Hid _ := hB1; replace hc1 : Hid _ := hc1)
          go_ret
          have hs := HS.out
          rw [hok] at hs
          rw [hs]
          exact ⟨rfl, fun l' e => (by simp at e), H.out.2.2.trans hc1.out (fun b e => .inl e)⟩
        · go_wp2_with (go_at_call 76; refine HC.out.mono ?_; rintro e w1 ⟨rfl, hB1, hc1⟩; rw [hok]; replace hB1 : Hid (Blk w1 x (lnC (ptL lk p1 wk)) 74) := hB1; replace hc1 : Hid (Chg (fun b => b = x) wr w1) := hc1)
          go_roundw
          case rel =>
            have hs := HS.out
            rw [hok] at hs
            exact ⟨2, ptL lk p1 wk, by omega, by omega, rfl, hs, hB1.out, H.out.2.2.trans hc1.out (fun b e => .inl e)⟩
          case measure => simp [intOf]
      · have hnk : (n : Int) ≤ 1 := by omega
        have HS : Hid (cps l [p0, p1, p2, p3] (ws.map fun s => s.data.toList) = if p1 = 0 then some lk else none) := by
          have hd : (ws.map fun s => s.data.toList).drop 1 = [] := List.drop_eq_nil_of_le (by rw [List.length_map]; omega)
          refine H.out.1.trans ?_
          rw [hd]
          rfl
        by_cases hp : p1 = 0
        · have hp2 : ((p1 : Int) == 0) = true := by rw [hp]; rfl
          have HQ : Hid (p1 = 0) := hp
          clear hp
          go_wp2
          go_ret
          have hs := HS.out
          rw [if_pos HQ.out] at hs
          rw [hs]
          exact ⟨rfl, fun l' e => (by cases e; exact H.out.2.1), H.out.2.2⟩
        · have hp2 : ((p1 : Int) == 0) = false := beq_eq_false_iff_ne.2 (by omega)
          have HQ : Hid (¬ p1 = 0) := hp
          clear hp
          go_wp2
          go_ret
          have hs := HS.out
          rw [if_neg HQ.out] at hs
          rw [hs]
          exact ⟨rfl, fun l' e => (by simp at e), H.out.2.2⟩
    · have hix := part_at2 p0 p1 p2 p3
      by_cases hlt : 2 < n
      · obtain rfl := hbb (by omega)
        have hnk : ¬ ((n : Int) ≤ 2) := by omega
        have hkn : (2 : Int) < (n : Int) := by omega
        obtain ⟨wk, hwk⟩ : ∃ wk : ByteArray, wk = ws.getD 2 ⟨#[]⟩ := ⟨_, rfl⟩
        have hld : wr.cell? ⟨g, 3, none⟩ = some (.string wk) := by
          rw [hwk]; exact (World.cell?_of_block (a := ⟨g, 3, none⟩) (H.out.2.2.block g hg (fun e => hgx e))).trans (HW.out 2 hlt)
        have HS : Hid (cps l [p0, p1, p2, p3] (ws.map fun s => s.data.toList) = if ptOk p2 wk then cps (ptL lk p2 wk) [p3] ((ws.map fun s => s.data.toList).drop 3) else none) := by
          have hdrop : (ws.map fun s => s.data.toList).drop 2 = wk.data.toList :: (ws.map fun s => s.data.toList).drop 3 := by
            rw [hwk]; exact drop_at ws 2 (by omega)
          refine H.out.1.trans ?_
          rw [hdrop]
          show (match rdPart lk p2 wk.data.toList with | some l' => cps l' [p3] _ | none => none) = _
          rw [rdPart_eq]
          rcases ptOk p2 wk <;> rfl
        have HC : Hid (Calls Tryz.prog 76 #[.pointer (some ⟨x, 0, none⟩), .int .i64 p2, .string wk] wr (PtRes wr x lk p2 wk)) := readPart_any x lk p2 (HP.out.2.2.1) wk wr (E.out.chg H.out.2.2 hG) (by rw [hwk]; exact HL.out _) H.out.2.1
        clear hwk
        rcases hok : ptOk p2 wk with _ | _
        · go_wp2_with (go_at_call 76; refine HC.out.mono ?_; rintro e w1 ⟨rfl, hB1, hc1⟩; rw [hok]; replace hB1 : Hid _ := hB1; replace hc1 : Hid _ := hc1)
          go_ret
          have hs := HS.out
          rw [hok] at hs
          rw [hs]
          exact ⟨rfl, fun l' e => (by simp at e), H.out.2.2.trans hc1.out (fun b e => .inl e)⟩
        · go_wp2_with (go_at_call 76; refine HC.out.mono ?_; rintro e w1 ⟨rfl, hB1, hc1⟩; rw [hok]; replace hB1 : Hid (Blk w1 x (lnC (ptL lk p2 wk)) 74) := hB1; replace hc1 : Hid (Chg (fun b => b = x) wr w1) := hc1)
          go_roundw
          case rel =>
            have hs := HS.out
            rw [hok] at hs
            exact ⟨3, ptL lk p2 wk, by omega, by omega, rfl, hs, hB1.out, H.out.2.2.trans hc1.out (fun b e => .inl e)⟩
          case measure => simp [intOf]
      · have hnk : (n : Int) ≤ 2 := by omega
        have HS : Hid (cps l [p0, p1, p2, p3] (ws.map fun s => s.data.toList) = if p2 = 0 then some lk else none) := by
          have hd : (ws.map fun s => s.data.toList).drop 2 = [] := List.drop_eq_nil_of_le (by rw [List.length_map]; omega)
          refine H.out.1.trans ?_
          rw [hd]
          rfl
        by_cases hp : p2 = 0
        · have hp2 : ((p2 : Int) == 0) = true := by rw [hp]; rfl
          have HQ : Hid (p2 = 0) := hp
          clear hp
          go_wp2
          go_ret
          have hs := HS.out
          rw [if_pos HQ.out] at hs
          rw [hs]
          exact ⟨rfl, fun l' e => (by cases e; exact H.out.2.1), H.out.2.2⟩
        · have hp2 : ((p2 : Int) == 0) = false := beq_eq_false_iff_ne.2 (by omega)
          have HQ : Hid (¬ p2 = 0) := hp
          clear hp
          go_wp2
          go_ret
          have hs := HS.out
          rw [if_neg HQ.out] at hs
          rw [hs]
          exact ⟨rfl, fun l' e => (by simp at e), H.out.2.2⟩
    · have hix := part_at3 p0 p1 p2 p3
      by_cases hlt : 3 < n
      · obtain rfl := hbb (by omega)
        have hnk : ¬ ((n : Int) ≤ 3) := by omega
        have hkn : (3 : Int) < (n : Int) := by omega
        obtain ⟨wk, hwk⟩ : ∃ wk : ByteArray, wk = ws.getD 3 ⟨#[]⟩ := ⟨_, rfl⟩
        have hld : wr.cell? ⟨g, 4, none⟩ = some (.string wk) := by
          rw [hwk]; exact (World.cell?_of_block (a := ⟨g, 4, none⟩) (H.out.2.2.block g hg (fun e => hgx e))).trans (HW.out 3 hlt)
        have HS : Hid (cps l [p0, p1, p2, p3] (ws.map fun s => s.data.toList) = if ptOk p3 wk then cps (ptL lk p3 wk) [] ((ws.map fun s => s.data.toList).drop 4) else none) := by
          have hdrop : (ws.map fun s => s.data.toList).drop 3 = wk.data.toList :: (ws.map fun s => s.data.toList).drop 4 := by
            rw [hwk]; exact drop_at ws 3 (by omega)
          refine H.out.1.trans ?_
          rw [hdrop]
          show (match rdPart lk p3 wk.data.toList with | some l' => cps l' [] _ | none => none) = _
          rw [rdPart_eq]
          rcases ptOk p3 wk <;> rfl
        have HC : Hid (Calls Tryz.prog 76 #[.pointer (some ⟨x, 0, none⟩), .int .i64 p3, .string wk] wr (PtRes wr x lk p3 wk)) := readPart_any x lk p3 (HP.out.2.2.2) wk wr (E.out.chg H.out.2.2 hG) (by rw [hwk]; exact HL.out _) H.out.2.1
        clear hwk
        rcases hok : ptOk p3 wk with _ | _
        · go_wp2_with (go_at_call 76; refine HC.out.mono ?_; rintro e w1 ⟨rfl, hB1, hc1⟩; rw [hok]; replace hB1 : Hid _ := hB1; replace hc1 : Hid _ := hc1)
          go_ret
          have hs := HS.out
          rw [hok] at hs
          rw [hs]
          exact ⟨rfl, fun l' e => (by simp at e), H.out.2.2.trans hc1.out (fun b e => .inl e)⟩
        · go_wp2_with (go_at_call 76; refine HC.out.mono ?_; rintro e w1 ⟨rfl, hB1, hc1⟩; rw [hok]; replace hB1 : Hid (Blk w1 x (lnC (ptL lk p3 wk)) 74) := hB1; replace hc1 : Hid (Chg (fun b => b = x) wr w1) := hc1)
          go_roundw
          case rel =>
            have hs := HS.out
            rw [hok] at hs
            exact ⟨4, ptL lk p3 wk, by omega, by omega, rfl, hs, hB1.out, H.out.2.2.trans hc1.out (fun b e => .inl e)⟩
          case measure => simp [intOf]
      · have hnk : (n : Int) ≤ 3 := by omega
        have HS : Hid (cps l [p0, p1, p2, p3] (ws.map fun s => s.data.toList) = if p3 = 0 then some lk else none) := by
          have hd : (ws.map fun s => s.data.toList).drop 3 = [] := List.drop_eq_nil_of_le (by rw [List.length_map]; omega)
          refine H.out.1.trans ?_
          rw [hd]
          rfl
        by_cases hp : p3 = 0
        · have hp2 : ((p3 : Int) == 0) = true := by rw [hp]; rfl
          have HQ : Hid (p3 = 0) := hp
          clear hp
          go_wp2
          go_ret
          have hs := HS.out
          rw [if_pos HQ.out] at hs
          rw [hs]
          exact ⟨rfl, fun l' e => (by cases e; exact H.out.2.1), H.out.2.2⟩
        · have hp2 : ((p3 : Int) == 0) = false := beq_eq_false_iff_ne.2 (by omega)
          have HQ : Hid (¬ p3 = 0) := hp
          clear hp
          go_wp2
          go_ret
          have hs := HS.out
          rw [if_neg HQ.out] at hs
          rw [hs]
          exact ⟨rfl, fun l' e => (by simp at e), H.out.2.2⟩
    · go_wp2
      go_ret
      have hs : cps l [p0, p1, p2, p3] (ws.map fun s => s.data.toList) = some lk := H.out.1.trans rfl
      rw [hs]
      exact ⟨rfl, fun l' e => (by cases e; exact H.out.2.1), H.out.2.2⟩
end Go.Proofs.YtlikdnmikdldfaaGreatDoor
namespace Go.Proofs.YtlikdnmikdldfaaGreatDoor
open Go.ChangeShapes Go.WideShapes Go.ChangeAt Go.RowKit
set_option linter.unusedVariables false
set_option linter.unusedSimpArgs false

theorem split_all (c : UInt8) (n : Nat) : ∀ l : List UInt8, l.length ≤ n → Lib.splitK [c] 0 (Lib.count l [c]) l = parts c l := by
  induction n with
  | zero =>
    intro l hl
    obtain rfl : l = [] := List.eq_nil_of_length_eq_zero (by omega)
    rw [Lib.count_miss (index_no c [] (by simp)), parts_none c [] (by simp)]; rfl
  | succ n ih =>
    intro l hl
    rcases first_cut c l with h | ⟨a, b, rfl, h⟩
    · rw [Lib.count_miss (index_no c l h), parts_none c l h]; rfl
    · have hc := Lib.count_hit (s := a ++ c :: b) (sub := [c]) (by simp) (index_at c a b h)
      have hd : (a ++ c :: b).drop (a.length + [c].length) = b := by simp [List.drop_append]
      rw [hd] at hc
      rw [hc, Nat.add_comm, split_at c _ a b h, ih b (by simp at hl; omega), parts_cons c a b h]
theorem split_any (s : ByteArray) (w : World) (E : Env w) (hs : s.size ≤ 2097152) :
    Calls Tryz.prog 49 #[.string s, .string ⟨#[32]⟩] w fun e w' => ∃ L : List ByteArray, L.map (fun x => x.data.toList) = parts 32 s.data.toList ∧ e = .returned (.slice (some ⟨w.heap.size, 0, none⟩) L.length L.length) ∧ w' = w.alloc (.cells (L.map Value.string).toArray 9) := by
  obtain ⟨m, hm⟩ := E.mx
  refine (Tryz.strings_Split s ⟨#[32]⟩ m w (by omega) hm (by decide)).mono ?_
  rintro e w' ⟨rfl, rfl⟩
  have hlen := Lib.splitB_all ⟨#[32]⟩ (by decide) 0 _ s rfl
  have hd := Lib.splitB_data ⟨#[32]⟩ 0 (Lib.countB s ⟨#[32]⟩) s
  have ha := split_all 32 _ s.data.toList (Nat.le_refl _)
  exact ⟨Lib.splitB ⟨#[32]⟩ 0 (Lib.countB s ⟨#[32]⟩) s, hd.trans ha, by rw [hlen], rfl⟩
end Go.Proofs.YtlikdnmikdldfaaGreatDoor
namespace Go.Proofs.YtlikdnmikdldfaaGreatDoor
open Go.ChangeShapes Go.WideShapes Go.ChangeAt Go.RowKit
set_option linter.unusedVariables false
set_option linter.unusedSimpArgs false

theorem seven_set {w : World} {g : Nat} {t : TypeId} {u0 u1 u2 u3 u4 u5 u6 : Value} (h : Blk w g #[u0, u1, u2, u3, u4, u5, u6] t) (a0 a1 a2 a3 a4 a5 a6 : Value) :
    Blk (((((((w.setCell ⟨g, 0, none⟩ a0).setCell ⟨g, 1, none⟩ a1).setCell ⟨g, 2, none⟩ a2).setCell ⟨g, 3, none⟩ a3).setCell ⟨g, 4, none⟩ a4).setCell ⟨g, 5, none⟩ a5).setCell ⟨g, 6, none⟩ a6) g #[a0, a1, a2, a3, a4, a5, a6] t := by
  have h0 : Blk (w.setCell ⟨g, 0, none⟩ a0) g #[a0, u1, u2, u3, u4, u5, u6] t := (by simpa using h.set 0 a0)
  have h1 : Blk ((w.setCell ⟨g, 0, none⟩ a0).setCell ⟨g, 1, none⟩ a1) g #[a0, a1, u2, u3, u4, u5, u6] t := (by simpa using h0.set 1 a1)
  have h2 : Blk (((w.setCell ⟨g, 0, none⟩ a0).setCell ⟨g, 1, none⟩ a1).setCell ⟨g, 2, none⟩ a2) g #[a0, a1, a2, u3, u4, u5, u6] t := (by simpa using h1.set 2 a2)
  have h3 : Blk ((((w.setCell ⟨g, 0, none⟩ a0).setCell ⟨g, 1, none⟩ a1).setCell ⟨g, 2, none⟩ a2).setCell ⟨g, 3, none⟩ a3) g #[a0, a1, a2, a3, u4, u5, u6] t := (by simpa using h2.set 3 a3)
  have h4 : Blk (((((w.setCell ⟨g, 0, none⟩ a0).setCell ⟨g, 1, none⟩ a1).setCell ⟨g, 2, none⟩ a2).setCell ⟨g, 3, none⟩ a3).setCell ⟨g, 4, none⟩ a4) g #[a0, a1, a2, a3, a4, u5, u6] t := (by simpa using h3.set 4 a4)
  have h5 : Blk ((((((w.setCell ⟨g, 0, none⟩ a0).setCell ⟨g, 1, none⟩ a1).setCell ⟨g, 2, none⟩ a2).setCell ⟨g, 3, none⟩ a3).setCell ⟨g, 4, none⟩ a4).setCell ⟨g, 5, none⟩ a5) g #[a0, a1, a2, a3, a4, a5, u6] t := (by simpa using h4.set 5 a5)
  have h6 : Blk (((((((w.setCell ⟨g, 0, none⟩ a0).setCell ⟨g, 1, none⟩ a1).setCell ⟨g, 2, none⟩ a2).setCell ⟨g, 3, none⟩ a3).setCell ⟨g, 4, none⟩ a4).setCell ⟨g, 5, none⟩ a5).setCell ⟨g, 6, none⟩ a6) g #[a0, a1, a2, a3, a4, a5, a6] t := (by simpa using h5.set 6 a6)
  exact h6
set_option maxRecDepth 100000 in
set_option maxHeartbeats 2000000 in
theorem read_long (s : ByteArray) (w : World) (hs : 100 < s.size) :
    Calls Tryz.prog 30 #[.string s] w fun e w' => e = .returned (.tuple #[.agg #[.int .i64 0, .string ⟨#[]⟩, .string ⟨#[]⟩, .int .u32 0, .int .i64 0, .int .u32 0, .int .i64 0], .bool false]) ∧ Below w.heap.size w w' := by
  have h1 : (100 : Int) < (s.size : Int) := by omega
  go_enter Tryz.func30, Tryz.ntmps30
  go_wp2
  go_returns
  exact ⟨rfl, (by repeat' (first | with_reducible assumption | with_reducible exact Below.refl _ _ | with_reducible apply Below.drew | with_reducible apply below_drewN | with_reducible apply Below.setCell | with_reducible apply Below.alloc | omega | (simp; done) | (simp; omega)))⟩
set_option maxRecDepth 100000 in
set_option maxHeartbeats 2000000 in
theorem read_unknown (s : ByteArray) (w : World) (n : Nat) (hn : 1 ≤ n) (s0 : ByteArray) (hs : s.size ≤ 100) (ROW : World → Prop) (hF : 0 < w.heap.size) (HS : Hid (Calls Tryz.prog 49 #[.string s, .string ⟨#[32]⟩] (w.alloc (.cells #[.int .i64 0, .string ⟨#[]⟩, .string ⟨#[]⟩, .int .u32 0, .int .i64 0, .int .u32 0, .int .i64 0] 74)) fun e w1 => e = .returned (.slice (some ⟨w.heap.size + 1, 0, none⟩) n n) ∧ w1.cell? ⟨w.heap.size + 1, 0, none⟩ = some (.string s0) ∧ w.heap.size + 1 < w1.heap.size ∧ Blk w1 w.heap.size #[.int .i64 0, .string ⟨#[]⟩, .string ⟨#[]⟩, .int .u32 0, .int .i64 0, .int .u32 0, .int .i64 0] 74 ∧ Below w.heap.size w w1 ∧ ROW w1))
    (HV : Hid (∀ W, Below w.heap.size w W → Calls Tryz.prog 50 #[.string s0] W fun e w' => e = .returned (.tuple #[.int .i64 0, .bool false]) ∧ Below W.heap.size W w')) :
    Calls Tryz.prog 30 #[.string s] w fun e w' => e = .returned (.tuple #[.agg #[.int .i64 0, .string ⟨#[]⟩, .string ⟨#[]⟩, .int .u32 0, .int .i64 0, .int .u32 0, .int .i64 0], .bool false]) ∧ Below w.heap.size w w' := by
  have h1 : ¬ (100 : Int) < (s.size : Int) := by omega
  have h2 : (0 : Int) < (n : Int) := by omega
  have h4 : (1 : Int) ≤ (n : Int) := by omega
  go_enter Tryz.func30, Tryz.ntmps30
  go_wp2_with (first | (go_at_call 49; refine HS.out.mono ?_; rintro e w1 ⟨rfl, k10, z1, rB, hb1, hrow⟩; replace rB : Hid (Blk w1 w.heap.size #[.int .i64 0, .string ⟨#[]⟩, .string ⟨#[]⟩, .int .u32 0, .int .i64 0, .int .u32 0, .int .i64 0] 74) := rB; replace hb1 : Hid (Below w.heap.size w w1) := hb1; replace hrow : Hid (ROW w1) := hrow; have r0 : w1.cell? ⟨w.heap.size, 0, none⟩ = some (.int .i64 0) := rB.out.cell 0; have rf0 := rB.out.frozen 0; have r1 : w1.cell? ⟨w.heap.size, 1, none⟩ = some (.string ⟨#[]⟩) := rB.out.cell 1; have rf1 := rB.out.frozen 1; have r2 : w1.cell? ⟨w.heap.size, 2, none⟩ = some (.string ⟨#[]⟩) := rB.out.cell 2; have rf2 := rB.out.frozen 2; have r3 : w1.cell? ⟨w.heap.size, 3, none⟩ = some (.int .u32 0) := rB.out.cell 3; have rf3 := rB.out.frozen 3; have r4 : w1.cell? ⟨w.heap.size, 4, none⟩ = some (.int .i64 0) := rB.out.cell 4; have rf4 := rB.out.frozen 4; have r5 : w1.cell? ⟨w.heap.size, 5, none⟩ = some (.int .u32 0) := rB.out.cell 5; have rf5 := rB.out.frozen 5; have r6 : w1.cell? ⟨w.heap.size, 6, none⟩ = some (.int .i64 0) := rB.out.cell 6; have rf6 := rB.out.frozen 6; have rz := rB.out.lt) | (go_at_call 50; refine (HV.out _ hb1.out).mono ?_; rintro e w2 ⟨rfl, hq2⟩; have hb2 : Hid (Below w1.heap.size w1 w2) := hq2; clear hq2; have qB : Hid (Blk w2 w.heap.size #[.int .i64 0, .string ⟨#[]⟩, .string ⟨#[]⟩, .int .u32 0, .int .i64 0, .int .u32 0, .int .i64 0] 74) := rB.out.below hb2.out; have q0 : w2.cell? ⟨w.heap.size, 0, none⟩ = some (.int .i64 0) := qB.out.cell 0; have qf0 := qB.out.frozen 0; have q1 : w2.cell? ⟨w.heap.size, 1, none⟩ = some (.string ⟨#[]⟩) := qB.out.cell 1; have qf1 := qB.out.frozen 1; have q2 : w2.cell? ⟨w.heap.size, 2, none⟩ = some (.string ⟨#[]⟩) := qB.out.cell 2; have qf2 := qB.out.frozen 2; have q3 : w2.cell? ⟨w.heap.size, 3, none⟩ = some (.int .u32 0) := qB.out.cell 3; have qf3 := qB.out.frozen 3; have q4 : w2.cell? ⟨w.heap.size, 4, none⟩ = some (.int .i64 0) := qB.out.cell 4; have qf4 := qB.out.frozen 4; have q5 : w2.cell? ⟨w.heap.size, 5, none⟩ = some (.int .u32 0) := qB.out.cell 5; have qf5 := qB.out.frozen 5; have q6 : w2.cell? ⟨w.heap.size, 6, none⟩ = some (.int .i64 0) := qB.out.cell 6; have qf6 := qB.out.frozen 6; have qz := qB.out.lt; clear r0 rf0 r1 rf1 r2 rf2 r3 rf3 r4 rf4 r5 rf5 r6 rf6; have zg : 0 < w2.heap.size := Nat.lt_of_lt_of_le hF (Nat.le_trans hb1.out.size hb2.out.size)))
  have kk := seven_set qB.out (.int .i64 0) (.string ⟨#[]⟩) (.string ⟨#[]⟩) (.int .u32 0) (.int .i64 0) (.int .u32 0) (.int .i64 0)
  have kk0 := kk.cell 0
  have kk1 := kk.cell 1
  have kk2 := kk.cell 2
  have kk3 := kk.cell 3
  have kk4 := kk.cell 4
  have kk5 := kk.cell 5
  have kk6 := kk.cell 6
  clear kk
  have hq := hb1.out.trans (hb2.out.mono hb1.out.size)
  have hz := hq.size
  exact bodyPost_ret (v := .tuple #[.agg #[.int .i64 0, .string ⟨#[]⟩, .string ⟨#[]⟩, .int .u32 0, .int .i64 0, .int .u32 0, .int .i64 0], .bool false]) (by simp [results, Tryz.results30, go_sem, kk0, kk1, kk2, kk3, kk4, kk5, kk6]) rfl ⟨rfl, (by repeat' (first | with_reducible assumption | with_reducible exact Below.refl _ _ | with_reducible apply Below.drew | with_reducible apply below_drewN | with_reducible apply Below.setCell | with_reducible apply Below.alloc | omega | (simp; done) | (simp; omega)))⟩
theorem rd_keep {w2 w3 : World} {g : Nat} {cs ds : Array Value} {t t2 : TypeId} (h : Blk w2 g cs t) (hc : Chg (fun b => b = w2.heap.size) (w2.alloc (.cells ds t2)) w3) : Blk w3 g cs t := by
  have hl := h.lt
  have h2 : Blk (w2.alloc (.cells ds t2)) g cs t := h.below (by repeat' (first | with_reducible assumption | with_reducible exact Below.refl _ _ | with_reducible apply Below.drew | with_reducible apply below_drewN | with_reducible apply Below.setCell | with_reducible apply Below.alloc | omega | (simp; done) | (simp; omega)))
  exact (hc.block g h2.lt (by omega)).trans h2
theorem rd_cell {w2 w3 : World} {g o : Nat} {ds : Array Value} {t2 : TypeId} {v : Value} (hg : g < w2.heap.size) (h : w2.cell? ⟨g, o, none⟩ = some v) (hc : Chg (fun b => b = w2.heap.size) (w2.alloc (.cells ds t2)) w3) : w3.cell? ⟨g, o, none⟩ = some v := by
  have hb : Below w2.heap.size w2 (w2.alloc (.cells ds t2)) := (by repeat' (first | with_reducible assumption | with_reducible exact Below.refl _ _ | with_reducible apply Below.drew | with_reducible apply below_drewN | with_reducible apply Below.setCell | with_reducible apply Below.alloc | omega | (simp; done) | (simp; omega)))
  exact (World.cell?_of_block (a := ⟨g, o, none⟩) (hc.block g (Nat.lt_of_lt_of_le hg hb.size) (by omega))).trans ((hb.cell (p := ⟨g, o, none⟩) hg).trans h)
theorem rd_below {w w1 w2 w3 : World} {ds : Array Value} {t2 : TypeId} (h1 : Below w.heap.size w w1) (h2 : Below w1.heap.size w1 w2) (hc : Chg (fun b => b = w2.heap.size) (w2.alloc (.cells ds t2)) w3) : Below w.heap.size w w3 := by
  have hq := h1.trans (h2.mono h1.size)
  have hz := hq.size
  have hq2 : Below w.heap.size w (w2.alloc (.cells ds t2)) := (by repeat' (first | with_reducible assumption | with_reducible exact Below.refl _ _ | with_reducible apply Below.drew | with_reducible apply below_drewN | with_reducible apply Below.setCell | with_reducible apply Below.alloc | omega | (simp; done) | (simp; omega)))
  refine ⟨hc.os.trans hq2.os, hc.tape.trans hq2.tape, hc.output.trans hq2.output, Nat.le_trans hq2.size hc.size, fun b hb => ?_⟩
  exact (hc.block b (Nat.lt_of_lt_of_le hb (Nat.le_trans hq.size (by simp))) (by have := hq.size; omega)).trans (hq2.block b hb)
set_option maxRecDepth 100000 in
set_option maxHeartbeats 400000 in
theorem read_bad1 (s : ByteArray) (w : World)  (s0 : ByteArray) (hs : s.size ≤ 100) (ROW : World → Prop) (v p0 p1 p2 p3 : Nat) (hv : v < 11) (hF : 0 < w.heap.size) (HF : Hid (w.cell? ⟨0, v * 5 + 1, none⟩ = some (.int .i64 p0) ∧ w.cell? ⟨0, v * 5 + 2, none⟩ = some (.int .i64 p1) ∧ w.cell? ⟨0, v * 5 + 3, none⟩ = some (.int .i64 p2) ∧ w.cell? ⟨0, v * 5 + 4, none⟩ = some (.int .i64 p3))) (HS : Hid (Calls Tryz.prog 49 #[.string s, .string ⟨#[32]⟩] (w.alloc (.cells #[.int .i64 0, .string ⟨#[]⟩, .string ⟨#[]⟩, .int .u32 0, .int .i64 0, .int .u32 0, .int .i64 0] 74)) fun e w1 => e = .returned (.slice (some ⟨w.heap.size + 1, 0, none⟩) 1 1) ∧ w1.cell? ⟨w.heap.size + 1, 0, none⟩ = some (.string s0) ∧ w.heap.size + 1 < w1.heap.size ∧ Blk w1 w.heap.size #[.int .i64 0, .string ⟨#[]⟩, .string ⟨#[]⟩, .int .u32 0, .int .i64 0, .int .u32 0, .int .i64 0] 74 ∧ Below w.heap.size w w1 ∧ ROW w1))
    (HV : Hid (∀ W, Below w.heap.size w W → Calls Tryz.prog 50 #[.string s0] W fun e w' => e = .returned (.tuple #[.int .i64 v, .bool true]) ∧ Below W.heap.size W w'))
    (HP : Hid (∀ w1 w2, ROW w1 → w.heap.size + 1 < w1.heap.size → Below w.heap.size w w1 → Below w1.heap.size w1 w2 → Calls Tryz.prog 51 #[.pointer (some ⟨w2.heap.size, 0, none⟩), .agg #[.int .i64 p0, .int .i64 p1, .int .i64 p2, .int .i64 p3], .slice (some ⟨w.heap.size + 1, 0, none⟩) 0 0] (w2.alloc (.cells #[.int .i64 v, .string ⟨#[]⟩, .string ⟨#[]⟩, .int .u32 0, .int .i64 0, .int .u32 0, .int .i64 0] 74)).drew fun e w' => e = .returned (.bool false) ∧ Chg (fun b => b = w2.heap.size) (w2.alloc (.cells #[.int .i64 v, .string ⟨#[]⟩, .string ⟨#[]⟩, .int .u32 0, .int .i64 0, .int .u32 0, .int .i64 0] 74)) w')) :
    Calls Tryz.prog 30 #[.string s] w fun e w' => e = .returned (.tuple #[.agg #[.int .i64 0, .string ⟨#[]⟩, .string ⟨#[]⟩, .int .u32 0, .int .i64 0, .int .u32 0, .int .i64 0], .bool false]) ∧ Below w.heap.size w w' := by
  have h1 : ¬ (100 : Int) < (s.size : Int) := by omega
  have h3 : (v : Int) < 11 := by omega
  have h5 : (0 : Int) ≤ (v : Int) := by omega
  go_enter Tryz.func30, Tryz.ntmps30
  go_wp2_with (first | (go_at_call 49; refine HS.out.mono ?_; rintro e w1 ⟨rfl, k10, z1, rB, hb1, hrow⟩; replace rB : Hid (Blk w1 w.heap.size #[.int .i64 0, .string ⟨#[]⟩, .string ⟨#[]⟩, .int .u32 0, .int .i64 0, .int .u32 0, .int .i64 0] 74) := rB; replace hb1 : Hid (Below w.heap.size w w1) := hb1; replace hrow : Hid (ROW w1) := hrow; have r0 : w1.cell? ⟨w.heap.size, 0, none⟩ = some (.int .i64 0) := rB.out.cell 0; have rf0 := rB.out.frozen 0; have r1 : w1.cell? ⟨w.heap.size, 1, none⟩ = some (.string ⟨#[]⟩) := rB.out.cell 1; have rf1 := rB.out.frozen 1; have r2 : w1.cell? ⟨w.heap.size, 2, none⟩ = some (.string ⟨#[]⟩) := rB.out.cell 2; have rf2 := rB.out.frozen 2; have r3 : w1.cell? ⟨w.heap.size, 3, none⟩ = some (.int .u32 0) := rB.out.cell 3; have rf3 := rB.out.frozen 3; have r4 : w1.cell? ⟨w.heap.size, 4, none⟩ = some (.int .i64 0) := rB.out.cell 4; have rf4 := rB.out.frozen 4; have r5 : w1.cell? ⟨w.heap.size, 5, none⟩ = some (.int .u32 0) := rB.out.cell 5; have rf5 := rB.out.frozen 5; have r6 : w1.cell? ⟨w.heap.size, 6, none⟩ = some (.int .i64 0) := rB.out.cell 6; have rf6 := rB.out.frozen 6; have rz := rB.out.lt) | (go_at_call 50; refine (HV.out _ hb1.out).mono ?_; rintro e w2 ⟨rfl, hq2⟩; have hb2 : Hid (Below w1.heap.size w1 w2) := hq2; clear hq2; have qB : Hid (Blk w2 w.heap.size #[.int .i64 0, .string ⟨#[]⟩, .string ⟨#[]⟩, .int .u32 0, .int .i64 0, .int .u32 0, .int .i64 0] 74) := rB.out.below hb2.out; have q0 : w2.cell? ⟨w.heap.size, 0, none⟩ = some (.int .i64 0) := qB.out.cell 0; have qf0 := qB.out.frozen 0; have q1 : w2.cell? ⟨w.heap.size, 1, none⟩ = some (.string ⟨#[]⟩) := qB.out.cell 1; have qf1 := qB.out.frozen 1; have q2 : w2.cell? ⟨w.heap.size, 2, none⟩ = some (.string ⟨#[]⟩) := qB.out.cell 2; have qf2 := qB.out.frozen 2; have q3 : w2.cell? ⟨w.heap.size, 3, none⟩ = some (.int .u32 0) := qB.out.cell 3; have qf3 := qB.out.frozen 3; have q4 : w2.cell? ⟨w.heap.size, 4, none⟩ = some (.int .i64 0) := qB.out.cell 4; have qf4 := qB.out.frozen 4; have q5 : w2.cell? ⟨w.heap.size, 5, none⟩ = some (.int .u32 0) := qB.out.cell 5; have qf5 := qB.out.frozen 5; have q6 : w2.cell? ⟨w.heap.size, 6, none⟩ = some (.int .i64 0) := qB.out.cell 6; have qf6 := qB.out.frozen 6; have qz := qB.out.lt; clear r0 rf0 r1 rf1 r2 rf2 r3 rf3 r4 rf4 r5 rf5 r6 rf6; have zg : 0 < w2.heap.size := Nat.lt_of_lt_of_le hF (Nat.le_trans hb1.out.size hb2.out.size); have fm0 : w2.cell? ⟨0, v * 5 + 1, none⟩ = some (.int .i64 p0) := ((hb1.out.trans (hb2.out.mono hb1.out.size)).cell (p := ⟨0, v * 5 + 1, none⟩) hF).trans (HF.out.1); have fm1 : w2.cell? ⟨0, v * 5 + 2, none⟩ = some (.int .i64 p1) := ((hb1.out.trans (hb2.out.mono hb1.out.size)).cell (p := ⟨0, v * 5 + 2, none⟩) hF).trans (HF.out.2.1); have fm2 : w2.cell? ⟨0, v * 5 + 3, none⟩ = some (.int .i64 p2) := ((hb1.out.trans (hb2.out.mono hb1.out.size)).cell (p := ⟨0, v * 5 + 3, none⟩) hF).trans (HF.out.2.2.1); have fm3 : w2.cell? ⟨0, v * 5 + 4, none⟩ = some (.int .i64 p3) := ((hb1.out.trans (hb2.out.mono hb1.out.size)).cell (p := ⟨0, v * 5 + 4, none⟩) hF).trans (HF.out.2.2.2)))
  go_region_held3 (fun w' => w'.cell? ⟨0, v * 5 + 1, none⟩ = some (.int .i64 p0) ∧ w'.cell? ⟨0, v * 5 + 2, none⟩ = some (.int .i64 p1) ∧ w'.cell? ⟨0, v * 5 + 3, none⟩ = some (.int .i64 p2) ∧ w'.cell? ⟨0, v * 5 + 4, none⟩ = some (.int .i64 p3)) (go_keep) (first | (go_at_call 51; refine (HP.out w1 w2 hrow.out z1 hb1.out hb2.out).mono ?_; rintro e w3 ⟨rfl, hc3⟩; replace hc3 : Hid (Chg (fun b => b = w2.heap.size) (w2.alloc (.cells #[.int .i64 v, .string ⟨#[]⟩, .string ⟨#[]⟩, .int .u32 0, .int .i64 0, .int .u32 0, .int .i64 0] 74)) w3) := hc3; have sB : Hid (Blk w3 w.heap.size #[.int .i64 0, .string ⟨#[]⟩, .string ⟨#[]⟩, .int .u32 0, .int .i64 0, .int .u32 0, .int .i64 0] 74) := rd_keep qB.out hc3.out; have s0 : w3.cell? ⟨w.heap.size, 0, none⟩ = some (.int .i64 0) := sB.out.cell 0; have sf0 := sB.out.frozen 0; have s1 : w3.cell? ⟨w.heap.size, 1, none⟩ = some (.string ⟨#[]⟩) := sB.out.cell 1; have sf1 := sB.out.frozen 1; have s2 : w3.cell? ⟨w.heap.size, 2, none⟩ = some (.string ⟨#[]⟩) := sB.out.cell 2; have sf2 := sB.out.frozen 2; have s3 : w3.cell? ⟨w.heap.size, 3, none⟩ = some (.int .u32 0) := sB.out.cell 3; have sf3 := sB.out.frozen 3; have s4 : w3.cell? ⟨w.heap.size, 4, none⟩ = some (.int .i64 0) := sB.out.cell 4; have sf4 := sB.out.frozen 4; have s5 : w3.cell? ⟨w.heap.size, 5, none⟩ = some (.int .u32 0) := sB.out.cell 5; have sf5 := sB.out.frozen 5; have s6 : w3.cell? ⟨w.heap.size, 6, none⟩ = some (.int .i64 0) := sB.out.cell 6; have sf6 := sB.out.frozen 6; have sz3 := sB.out.lt; have gm0 := rd_cell zg fm0 hc3.out; have gm1 := rd_cell zg fm1 hc3.out; have gm2 := rd_cell zg fm2 hc3.out; have gm3 := rd_cell zg fm3 hc3.out))
  all_goals (
    go_wp2
    have kk := seven_set sB.out (.int .i64 0) (.string ⟨#[]⟩) (.string ⟨#[]⟩) (.int .u32 0) (.int .i64 0) (.int .u32 0) (.int .i64 0)
    have kk0 := kk.cell 0
    have kk1 := kk.cell 1
    have kk2 := kk.cell 2
    have kk3 := kk.cell 3
    have kk4 := kk.cell 4
    have kk5 := kk.cell 5
    have kk6 := kk.cell 6
    clear kk
    have hq := rd_below hb1.out hb2.out hc3.out
    have hz := hq.size
    exact bodyPost_ret (v := .tuple #[.agg #[.int .i64 0, .string ⟨#[]⟩, .string ⟨#[]⟩, .int .u32 0, .int .i64 0, .int .u32 0, .int .i64 0], .bool false]) (by simp [results, Tryz.results30, go_sem, kk0, kk1, kk2, kk3, kk4, kk5, kk6]) rfl ⟨rfl, (by repeat' (first | with_reducible assumption | with_reducible exact Below.refl _ _ | with_reducible apply Below.drew | with_reducible apply below_drewN | with_reducible apply Below.setCell | with_reducible apply Below.alloc | omega | (simp; done) | (simp; omega)))⟩)
set_option maxRecDepth 100000 in
set_option maxHeartbeats 400000 in
theorem read_good1 (s : ByteArray) (w : World)  (s0 : ByteArray) (hs : s.size ≤ 100) (ROW : World → Prop) (v p0 p1 p2 p3 : Nat) (hv : v < 11) (hF : 0 < w.heap.size) (HF : Hid (w.cell? ⟨0, v * 5 + 1, none⟩ = some (.int .i64 p0) ∧ w.cell? ⟨0, v * 5 + 2, none⟩ = some (.int .i64 p1) ∧ w.cell? ⟨0, v * 5 + 3, none⟩ = some (.int .i64 p2) ∧ w.cell? ⟨0, v * 5 + 4, none⟩ = some (.int .i64 p3))) (HS : Hid (Calls Tryz.prog 49 #[.string s, .string ⟨#[32]⟩] (w.alloc (.cells #[.int .i64 0, .string ⟨#[]⟩, .string ⟨#[]⟩, .int .u32 0, .int .i64 0, .int .u32 0, .int .i64 0] 74)) fun e w1 => e = .returned (.slice (some ⟨w.heap.size + 1, 0, none⟩) 1 1) ∧ w1.cell? ⟨w.heap.size + 1, 0, none⟩ = some (.string s0) ∧ w.heap.size + 1 < w1.heap.size ∧ Blk w1 w.heap.size #[.int .i64 0, .string ⟨#[]⟩, .string ⟨#[]⟩, .int .u32 0, .int .i64 0, .int .u32 0, .int .i64 0] 74 ∧ Below w.heap.size w w1 ∧ ROW w1))
    (HV : Hid (∀ W, Below w.heap.size w W → Calls Tryz.prog 50 #[.string s0] W fun e w' => e = .returned (.tuple #[.int .i64 v, .bool true]) ∧ Below W.heap.size W w')) (l' : Ln)
    (HP : Hid (∀ w1 w2, ROW w1 → w.heap.size + 1 < w1.heap.size → Below w.heap.size w w1 → Below w1.heap.size w1 w2 → Calls Tryz.prog 51 #[.pointer (some ⟨w2.heap.size, 0, none⟩), .agg #[.int .i64 p0, .int .i64 p1, .int .i64 p2, .int .i64 p3], .slice (some ⟨w.heap.size + 1, 0, none⟩) 0 0] (w2.alloc (.cells #[.int .i64 v, .string ⟨#[]⟩, .string ⟨#[]⟩, .int .u32 0, .int .i64 0, .int .u32 0, .int .i64 0] 74)).drew fun e w' => e = .returned (.bool true) ∧ Blk w' w2.heap.size (lnC l') 74 ∧ Chg (fun b => b = w2.heap.size) (w2.alloc (.cells #[.int .i64 v, .string ⟨#[]⟩, .string ⟨#[]⟩, .int .u32 0, .int .i64 0, .int .u32 0, .int .i64 0] 74)) w')) :
    Calls Tryz.prog 30 #[.string s] w fun e w' => e = .returned (.tuple #[.agg (lnC l'), .bool true]) ∧ Below w.heap.size w w' := by
  have h1 : ¬ (100 : Int) < (s.size : Int) := by omega
  have h3 : (v : Int) < 11 := by omega
  have h5 : (0 : Int) ≤ (v : Int) := by omega
  go_enter Tryz.func30, Tryz.ntmps30
  go_wp2_with (first | (go_at_call 49; refine HS.out.mono ?_; rintro e w1 ⟨rfl, k10, z1, rB, hb1, hrow⟩; replace rB : Hid (Blk w1 w.heap.size #[.int .i64 0, .string ⟨#[]⟩, .string ⟨#[]⟩, .int .u32 0, .int .i64 0, .int .u32 0, .int .i64 0] 74) := rB; replace hb1 : Hid (Below w.heap.size w w1) := hb1; replace hrow : Hid (ROW w1) := hrow; have r0 : w1.cell? ⟨w.heap.size, 0, none⟩ = some (.int .i64 0) := rB.out.cell 0; have rf0 := rB.out.frozen 0; have r1 : w1.cell? ⟨w.heap.size, 1, none⟩ = some (.string ⟨#[]⟩) := rB.out.cell 1; have rf1 := rB.out.frozen 1; have r2 : w1.cell? ⟨w.heap.size, 2, none⟩ = some (.string ⟨#[]⟩) := rB.out.cell 2; have rf2 := rB.out.frozen 2; have r3 : w1.cell? ⟨w.heap.size, 3, none⟩ = some (.int .u32 0) := rB.out.cell 3; have rf3 := rB.out.frozen 3; have r4 : w1.cell? ⟨w.heap.size, 4, none⟩ = some (.int .i64 0) := rB.out.cell 4; have rf4 := rB.out.frozen 4; have r5 : w1.cell? ⟨w.heap.size, 5, none⟩ = some (.int .u32 0) := rB.out.cell 5; have rf5 := rB.out.frozen 5; have r6 : w1.cell? ⟨w.heap.size, 6, none⟩ = some (.int .i64 0) := rB.out.cell 6; have rf6 := rB.out.frozen 6; have rz := rB.out.lt) | (go_at_call 50; refine (HV.out _ hb1.out).mono ?_; rintro e w2 ⟨rfl, hq2⟩; have hb2 : Hid (Below w1.heap.size w1 w2) := hq2; clear hq2; have qB : Hid (Blk w2 w.heap.size #[.int .i64 0, .string ⟨#[]⟩, .string ⟨#[]⟩, .int .u32 0, .int .i64 0, .int .u32 0, .int .i64 0] 74) := rB.out.below hb2.out; have q0 : w2.cell? ⟨w.heap.size, 0, none⟩ = some (.int .i64 0) := qB.out.cell 0; have qf0 := qB.out.frozen 0; have q1 : w2.cell? ⟨w.heap.size, 1, none⟩ = some (.string ⟨#[]⟩) := qB.out.cell 1; have qf1 := qB.out.frozen 1; have q2 : w2.cell? ⟨w.heap.size, 2, none⟩ = some (.string ⟨#[]⟩) := qB.out.cell 2; have qf2 := qB.out.frozen 2; have q3 : w2.cell? ⟨w.heap.size, 3, none⟩ = some (.int .u32 0) := qB.out.cell 3; have qf3 := qB.out.frozen 3; have q4 : w2.cell? ⟨w.heap.size, 4, none⟩ = some (.int .i64 0) := qB.out.cell 4; have qf4 := qB.out.frozen 4; have q5 : w2.cell? ⟨w.heap.size, 5, none⟩ = some (.int .u32 0) := qB.out.cell 5; have qf5 := qB.out.frozen 5; have q6 : w2.cell? ⟨w.heap.size, 6, none⟩ = some (.int .i64 0) := qB.out.cell 6; have qf6 := qB.out.frozen 6; have qz := qB.out.lt; clear r0 rf0 r1 rf1 r2 rf2 r3 rf3 r4 rf4 r5 rf5 r6 rf6; have zg : 0 < w2.heap.size := Nat.lt_of_lt_of_le hF (Nat.le_trans hb1.out.size hb2.out.size); have fm0 : w2.cell? ⟨0, v * 5 + 1, none⟩ = some (.int .i64 p0) := ((hb1.out.trans (hb2.out.mono hb1.out.size)).cell (p := ⟨0, v * 5 + 1, none⟩) hF).trans (HF.out.1); have fm1 : w2.cell? ⟨0, v * 5 + 2, none⟩ = some (.int .i64 p1) := ((hb1.out.trans (hb2.out.mono hb1.out.size)).cell (p := ⟨0, v * 5 + 2, none⟩) hF).trans (HF.out.2.1); have fm2 : w2.cell? ⟨0, v * 5 + 3, none⟩ = some (.int .i64 p2) := ((hb1.out.trans (hb2.out.mono hb1.out.size)).cell (p := ⟨0, v * 5 + 3, none⟩) hF).trans (HF.out.2.2.1); have fm3 : w2.cell? ⟨0, v * 5 + 4, none⟩ = some (.int .i64 p3) := ((hb1.out.trans (hb2.out.mono hb1.out.size)).cell (p := ⟨0, v * 5 + 4, none⟩) hF).trans (HF.out.2.2.2)))
  go_region_held3 (fun w' => w'.cell? ⟨0, v * 5 + 1, none⟩ = some (.int .i64 p0) ∧ w'.cell? ⟨0, v * 5 + 2, none⟩ = some (.int .i64 p1) ∧ w'.cell? ⟨0, v * 5 + 3, none⟩ = some (.int .i64 p2) ∧ w'.cell? ⟨0, v * 5 + 4, none⟩ = some (.int .i64 p3)) (go_keep) (first | (go_at_call 51; refine (HP.out w1 w2 hrow.out z1 hb1.out hb2.out).mono ?_; rintro e w3 ⟨rfl, lB, hc3⟩; replace lB : Hid (Blk w3 w2.heap.size (lnC l') 74) := lB; replace hc3 : Hid (Chg (fun b => b = w2.heap.size) (w2.alloc (.cells #[.int .i64 v, .string ⟨#[]⟩, .string ⟨#[]⟩, .int .u32 0, .int .i64 0, .int .u32 0, .int .i64 0] 74)) w3) := hc3; have sB : Hid (Blk w3 w.heap.size #[.int .i64 0, .string ⟨#[]⟩, .string ⟨#[]⟩, .int .u32 0, .int .i64 0, .int .u32 0, .int .i64 0] 74) := rd_keep qB.out hc3.out; have s0 : w3.cell? ⟨w.heap.size, 0, none⟩ = some (.int .i64 0) := sB.out.cell 0; have sf0 := sB.out.frozen 0; have s1 : w3.cell? ⟨w.heap.size, 1, none⟩ = some (.string ⟨#[]⟩) := sB.out.cell 1; have sf1 := sB.out.frozen 1; have s2 : w3.cell? ⟨w.heap.size, 2, none⟩ = some (.string ⟨#[]⟩) := sB.out.cell 2; have sf2 := sB.out.frozen 2; have s3 : w3.cell? ⟨w.heap.size, 3, none⟩ = some (.int .u32 0) := sB.out.cell 3; have sf3 := sB.out.frozen 3; have s4 : w3.cell? ⟨w.heap.size, 4, none⟩ = some (.int .i64 0) := sB.out.cell 4; have sf4 := sB.out.frozen 4; have s5 : w3.cell? ⟨w.heap.size, 5, none⟩ = some (.int .u32 0) := sB.out.cell 5; have sf5 := sB.out.frozen 5; have s6 : w3.cell? ⟨w.heap.size, 6, none⟩ = some (.int .i64 0) := sB.out.cell 6; have sf6 := sB.out.frozen 6; have t0 : w3.cell? ⟨w2.heap.size, 0, none⟩ = some (.int .i64 l'.v) := lB.out.cell 0; have t1 : w3.cell? ⟨w2.heap.size, 1, none⟩ = some (.string l'.t) := lB.out.cell 1; have t2 : w3.cell? ⟨w2.heap.size, 2, none⟩ = some (.string l'.o) := lB.out.cell 2; have t3 : w3.cell? ⟨w2.heap.size, 3, none⟩ = some (.int .u32 l'.a) := lB.out.cell 3; have t4 : w3.cell? ⟨w2.heap.size, 4, none⟩ = some (.int .i64 l'.n) := lB.out.cell 4; have t5 : w3.cell? ⟨w2.heap.size, 5, none⟩ = some (.int .u32 l'.d) := lB.out.cell 5; have t6 : w3.cell? ⟨w2.heap.size, 6, none⟩ = some (.int .i64 l'.g) := lB.out.cell 6; have tz := lB.out.lt; have sz3 := sB.out.lt; have gm0 := rd_cell zg fm0 hc3.out; have gm1 := rd_cell zg fm1 hc3.out; have gm2 := rd_cell zg fm2 hc3.out; have gm3 := rd_cell zg fm3 hc3.out))
  all_goals (
    go_wp2
    have kk := seven_set sB.out (.int .i64 l'.v) (.string l'.t) (.string l'.o) (.int .u32 l'.a) (.int .i64 l'.n) (.int .u32 l'.d) (.int .i64 l'.g)
    have kk0 := kk.cell 0
    have kk1 := kk.cell 1
    have kk2 := kk.cell 2
    have kk3 := kk.cell 3
    have kk4 := kk.cell 4
    have kk5 := kk.cell 5
    have kk6 := kk.cell 6
    clear kk
    have hq := rd_below hb1.out hb2.out hc3.out
    have hz := hq.size
    exact bodyPost_ret (v := (.tuple #[.agg (lnC l'), .bool true])) (by simp [results, Tryz.results30, go_sem, kk0, kk1, kk2, kk3, kk4, kk5, kk6, lnC]) rfl ⟨rfl, (by repeat' (first | with_reducible assumption | with_reducible exact Below.refl _ _ | with_reducible apply Below.drew | with_reducible apply below_drewN | with_reducible apply Below.setCell | with_reducible apply Below.alloc | omega | (simp; done) | (simp; omega)))⟩)
set_option maxRecDepth 100000 in
set_option maxHeartbeats 400000 in
theorem read_bad (s : ByteArray) (w : World) (n : Nat) (hn : 1 ≤ n) (hn1 : ¬ n = 1) (s0 : ByteArray) (hs : s.size ≤ 100) (ROW : World → Prop) (v p0 p1 p2 p3 : Nat) (hv : v < 11) (hF : 0 < w.heap.size) (HF : Hid (w.cell? ⟨0, v * 5 + 1, none⟩ = some (.int .i64 p0) ∧ w.cell? ⟨0, v * 5 + 2, none⟩ = some (.int .i64 p1) ∧ w.cell? ⟨0, v * 5 + 3, none⟩ = some (.int .i64 p2) ∧ w.cell? ⟨0, v * 5 + 4, none⟩ = some (.int .i64 p3))) (HS : Hid (Calls Tryz.prog 49 #[.string s, .string ⟨#[32]⟩] (w.alloc (.cells #[.int .i64 0, .string ⟨#[]⟩, .string ⟨#[]⟩, .int .u32 0, .int .i64 0, .int .u32 0, .int .i64 0] 74)) fun e w1 => e = .returned (.slice (some ⟨w.heap.size + 1, 0, none⟩) n n) ∧ w1.cell? ⟨w.heap.size + 1, 0, none⟩ = some (.string s0) ∧ w.heap.size + 1 < w1.heap.size ∧ Blk w1 w.heap.size #[.int .i64 0, .string ⟨#[]⟩, .string ⟨#[]⟩, .int .u32 0, .int .i64 0, .int .u32 0, .int .i64 0] 74 ∧ Below w.heap.size w w1 ∧ ROW w1))
    (HV : Hid (∀ W, Below w.heap.size w W → Calls Tryz.prog 50 #[.string s0] W fun e w' => e = .returned (.tuple #[.int .i64 v, .bool true]) ∧ Below W.heap.size W w'))
    (HP : Hid (∀ w1 w2, ROW w1 → w.heap.size + 1 < w1.heap.size → Below w.heap.size w w1 → Below w1.heap.size w1 w2 → Calls Tryz.prog 51 #[.pointer (some ⟨w2.heap.size, 0, none⟩), .agg #[.int .i64 p0, .int .i64 p1, .int .i64 p2, .int .i64 p3], .slice (some ⟨w.heap.size + 1, 1, none⟩) (n - 1) (n - 1)] (w2.alloc (.cells #[.int .i64 v, .string ⟨#[]⟩, .string ⟨#[]⟩, .int .u32 0, .int .i64 0, .int .u32 0, .int .i64 0] 74)).drew fun e w' => e = .returned (.bool false) ∧ Chg (fun b => b = w2.heap.size) (w2.alloc (.cells #[.int .i64 v, .string ⟨#[]⟩, .string ⟨#[]⟩, .int .u32 0, .int .i64 0, .int .u32 0, .int .i64 0] 74)) w')) :
    Calls Tryz.prog 30 #[.string s] w fun e w' => e = .returned (.tuple #[.agg #[.int .i64 0, .string ⟨#[]⟩, .string ⟨#[]⟩, .int .u32 0, .int .i64 0, .int .u32 0, .int .i64 0], .bool false]) ∧ Below w.heap.size w w' := by
  have h1 : ¬ (100 : Int) < (s.size : Int) := by omega
  have h2 : (0 : Int) < (n : Int) := by omega
  have h4 : (1 : Int) ≤ (n : Int) := by omega
  have h3 : (v : Int) < 11 := by omega
  have h5 : (0 : Int) ≤ (v : Int) := by omega
  go_enter Tryz.func30, Tryz.ntmps30
  go_wp2_with (first | (go_at_call 49; refine HS.out.mono ?_; rintro e w1 ⟨rfl, k10, z1, rB, hb1, hrow⟩; replace rB : Hid (Blk w1 w.heap.size #[.int .i64 0, .string ⟨#[]⟩, .string ⟨#[]⟩, .int .u32 0, .int .i64 0, .int .u32 0, .int .i64 0] 74) := rB; replace hb1 : Hid (Below w.heap.size w w1) := hb1; replace hrow : Hid (ROW w1) := hrow; have r0 : w1.cell? ⟨w.heap.size, 0, none⟩ = some (.int .i64 0) := rB.out.cell 0; have rf0 := rB.out.frozen 0; have r1 : w1.cell? ⟨w.heap.size, 1, none⟩ = some (.string ⟨#[]⟩) := rB.out.cell 1; have rf1 := rB.out.frozen 1; have r2 : w1.cell? ⟨w.heap.size, 2, none⟩ = some (.string ⟨#[]⟩) := rB.out.cell 2; have rf2 := rB.out.frozen 2; have r3 : w1.cell? ⟨w.heap.size, 3, none⟩ = some (.int .u32 0) := rB.out.cell 3; have rf3 := rB.out.frozen 3; have r4 : w1.cell? ⟨w.heap.size, 4, none⟩ = some (.int .i64 0) := rB.out.cell 4; have rf4 := rB.out.frozen 4; have r5 : w1.cell? ⟨w.heap.size, 5, none⟩ = some (.int .u32 0) := rB.out.cell 5; have rf5 := rB.out.frozen 5; have r6 : w1.cell? ⟨w.heap.size, 6, none⟩ = some (.int .i64 0) := rB.out.cell 6; have rf6 := rB.out.frozen 6; have rz := rB.out.lt) | (go_at_call 50; refine (HV.out _ hb1.out).mono ?_; rintro e w2 ⟨rfl, hq2⟩; have hb2 : Hid (Below w1.heap.size w1 w2) := hq2; clear hq2; have qB : Hid (Blk w2 w.heap.size #[.int .i64 0, .string ⟨#[]⟩, .string ⟨#[]⟩, .int .u32 0, .int .i64 0, .int .u32 0, .int .i64 0] 74) := rB.out.below hb2.out; have q0 : w2.cell? ⟨w.heap.size, 0, none⟩ = some (.int .i64 0) := qB.out.cell 0; have qf0 := qB.out.frozen 0; have q1 : w2.cell? ⟨w.heap.size, 1, none⟩ = some (.string ⟨#[]⟩) := qB.out.cell 1; have qf1 := qB.out.frozen 1; have q2 : w2.cell? ⟨w.heap.size, 2, none⟩ = some (.string ⟨#[]⟩) := qB.out.cell 2; have qf2 := qB.out.frozen 2; have q3 : w2.cell? ⟨w.heap.size, 3, none⟩ = some (.int .u32 0) := qB.out.cell 3; have qf3 := qB.out.frozen 3; have q4 : w2.cell? ⟨w.heap.size, 4, none⟩ = some (.int .i64 0) := qB.out.cell 4; have qf4 := qB.out.frozen 4; have q5 : w2.cell? ⟨w.heap.size, 5, none⟩ = some (.int .u32 0) := qB.out.cell 5; have qf5 := qB.out.frozen 5; have q6 : w2.cell? ⟨w.heap.size, 6, none⟩ = some (.int .i64 0) := qB.out.cell 6; have qf6 := qB.out.frozen 6; have qz := qB.out.lt; clear r0 rf0 r1 rf1 r2 rf2 r3 rf3 r4 rf4 r5 rf5 r6 rf6; have zg : 0 < w2.heap.size := Nat.lt_of_lt_of_le hF (Nat.le_trans hb1.out.size hb2.out.size); have fm0 : w2.cell? ⟨0, v * 5 + 1, none⟩ = some (.int .i64 p0) := ((hb1.out.trans (hb2.out.mono hb1.out.size)).cell (p := ⟨0, v * 5 + 1, none⟩) hF).trans (HF.out.1); have fm1 : w2.cell? ⟨0, v * 5 + 2, none⟩ = some (.int .i64 p1) := ((hb1.out.trans (hb2.out.mono hb1.out.size)).cell (p := ⟨0, v * 5 + 2, none⟩) hF).trans (HF.out.2.1); have fm2 : w2.cell? ⟨0, v * 5 + 3, none⟩ = some (.int .i64 p2) := ((hb1.out.trans (hb2.out.mono hb1.out.size)).cell (p := ⟨0, v * 5 + 3, none⟩) hF).trans (HF.out.2.2.1); have fm3 : w2.cell? ⟨0, v * 5 + 4, none⟩ = some (.int .i64 p3) := ((hb1.out.trans (hb2.out.mono hb1.out.size)).cell (p := ⟨0, v * 5 + 4, none⟩) hF).trans (HF.out.2.2.2)))
  go_region_held3 (fun w' => w'.cell? ⟨0, v * 5 + 1, none⟩ = some (.int .i64 p0) ∧ w'.cell? ⟨0, v * 5 + 2, none⟩ = some (.int .i64 p1) ∧ w'.cell? ⟨0, v * 5 + 3, none⟩ = some (.int .i64 p2) ∧ w'.cell? ⟨0, v * 5 + 4, none⟩ = some (.int .i64 p3)) (go_keep) (first | (go_at_call 51; refine (HP.out w1 w2 hrow.out z1 hb1.out hb2.out).mono ?_; rintro e w3 ⟨rfl, hc3⟩; replace hc3 : Hid (Chg (fun b => b = w2.heap.size) (w2.alloc (.cells #[.int .i64 v, .string ⟨#[]⟩, .string ⟨#[]⟩, .int .u32 0, .int .i64 0, .int .u32 0, .int .i64 0] 74)) w3) := hc3; have sB : Hid (Blk w3 w.heap.size #[.int .i64 0, .string ⟨#[]⟩, .string ⟨#[]⟩, .int .u32 0, .int .i64 0, .int .u32 0, .int .i64 0] 74) := rd_keep qB.out hc3.out; have s0 : w3.cell? ⟨w.heap.size, 0, none⟩ = some (.int .i64 0) := sB.out.cell 0; have sf0 := sB.out.frozen 0; have s1 : w3.cell? ⟨w.heap.size, 1, none⟩ = some (.string ⟨#[]⟩) := sB.out.cell 1; have sf1 := sB.out.frozen 1; have s2 : w3.cell? ⟨w.heap.size, 2, none⟩ = some (.string ⟨#[]⟩) := sB.out.cell 2; have sf2 := sB.out.frozen 2; have s3 : w3.cell? ⟨w.heap.size, 3, none⟩ = some (.int .u32 0) := sB.out.cell 3; have sf3 := sB.out.frozen 3; have s4 : w3.cell? ⟨w.heap.size, 4, none⟩ = some (.int .i64 0) := sB.out.cell 4; have sf4 := sB.out.frozen 4; have s5 : w3.cell? ⟨w.heap.size, 5, none⟩ = some (.int .u32 0) := sB.out.cell 5; have sf5 := sB.out.frozen 5; have s6 : w3.cell? ⟨w.heap.size, 6, none⟩ = some (.int .i64 0) := sB.out.cell 6; have sf6 := sB.out.frozen 6; have sz3 := sB.out.lt; have gm0 := rd_cell zg fm0 hc3.out; have gm1 := rd_cell zg fm1 hc3.out; have gm2 := rd_cell zg fm2 hc3.out; have gm3 := rd_cell zg fm3 hc3.out))
  all_goals (
    go_wp2
    have kk := seven_set sB.out (.int .i64 0) (.string ⟨#[]⟩) (.string ⟨#[]⟩) (.int .u32 0) (.int .i64 0) (.int .u32 0) (.int .i64 0)
    have kk0 := kk.cell 0
    have kk1 := kk.cell 1
    have kk2 := kk.cell 2
    have kk3 := kk.cell 3
    have kk4 := kk.cell 4
    have kk5 := kk.cell 5
    have kk6 := kk.cell 6
    clear kk
    have hq := rd_below hb1.out hb2.out hc3.out
    have hz := hq.size
    exact bodyPost_ret (v := .tuple #[.agg #[.int .i64 0, .string ⟨#[]⟩, .string ⟨#[]⟩, .int .u32 0, .int .i64 0, .int .u32 0, .int .i64 0], .bool false]) (by simp [results, Tryz.results30, go_sem, kk0, kk1, kk2, kk3, kk4, kk5, kk6]) rfl ⟨rfl, (by repeat' (first | with_reducible assumption | with_reducible exact Below.refl _ _ | with_reducible apply Below.drew | with_reducible apply below_drewN | with_reducible apply Below.setCell | with_reducible apply Below.alloc | omega | (simp; done) | (simp; omega)))⟩)
set_option maxRecDepth 100000 in
set_option maxHeartbeats 400000 in
theorem read_good (s : ByteArray) (w : World) (n : Nat) (hn : 1 ≤ n) (hn1 : ¬ n = 1) (s0 : ByteArray) (hs : s.size ≤ 100) (ROW : World → Prop) (v p0 p1 p2 p3 : Nat) (hv : v < 11) (hF : 0 < w.heap.size) (HF : Hid (w.cell? ⟨0, v * 5 + 1, none⟩ = some (.int .i64 p0) ∧ w.cell? ⟨0, v * 5 + 2, none⟩ = some (.int .i64 p1) ∧ w.cell? ⟨0, v * 5 + 3, none⟩ = some (.int .i64 p2) ∧ w.cell? ⟨0, v * 5 + 4, none⟩ = some (.int .i64 p3))) (HS : Hid (Calls Tryz.prog 49 #[.string s, .string ⟨#[32]⟩] (w.alloc (.cells #[.int .i64 0, .string ⟨#[]⟩, .string ⟨#[]⟩, .int .u32 0, .int .i64 0, .int .u32 0, .int .i64 0] 74)) fun e w1 => e = .returned (.slice (some ⟨w.heap.size + 1, 0, none⟩) n n) ∧ w1.cell? ⟨w.heap.size + 1, 0, none⟩ = some (.string s0) ∧ w.heap.size + 1 < w1.heap.size ∧ Blk w1 w.heap.size #[.int .i64 0, .string ⟨#[]⟩, .string ⟨#[]⟩, .int .u32 0, .int .i64 0, .int .u32 0, .int .i64 0] 74 ∧ Below w.heap.size w w1 ∧ ROW w1))
    (HV : Hid (∀ W, Below w.heap.size w W → Calls Tryz.prog 50 #[.string s0] W fun e w' => e = .returned (.tuple #[.int .i64 v, .bool true]) ∧ Below W.heap.size W w')) (l' : Ln)
    (HP : Hid (∀ w1 w2, ROW w1 → w.heap.size + 1 < w1.heap.size → Below w.heap.size w w1 → Below w1.heap.size w1 w2 → Calls Tryz.prog 51 #[.pointer (some ⟨w2.heap.size, 0, none⟩), .agg #[.int .i64 p0, .int .i64 p1, .int .i64 p2, .int .i64 p3], .slice (some ⟨w.heap.size + 1, 1, none⟩) (n - 1) (n - 1)] (w2.alloc (.cells #[.int .i64 v, .string ⟨#[]⟩, .string ⟨#[]⟩, .int .u32 0, .int .i64 0, .int .u32 0, .int .i64 0] 74)).drew fun e w' => e = .returned (.bool true) ∧ Blk w' w2.heap.size (lnC l') 74 ∧ Chg (fun b => b = w2.heap.size) (w2.alloc (.cells #[.int .i64 v, .string ⟨#[]⟩, .string ⟨#[]⟩, .int .u32 0, .int .i64 0, .int .u32 0, .int .i64 0] 74)) w')) :
    Calls Tryz.prog 30 #[.string s] w fun e w' => e = .returned (.tuple #[.agg (lnC l'), .bool true]) ∧ Below w.heap.size w w' := by
  have h1 : ¬ (100 : Int) < (s.size : Int) := by omega
  have h2 : (0 : Int) < (n : Int) := by omega
  have h4 : (1 : Int) ≤ (n : Int) := by omega
  have h3 : (v : Int) < 11 := by omega
  have h5 : (0 : Int) ≤ (v : Int) := by omega
  go_enter Tryz.func30, Tryz.ntmps30
  go_wp2_with (first | (go_at_call 49; refine HS.out.mono ?_; rintro e w1 ⟨rfl, k10, z1, rB, hb1, hrow⟩; replace rB : Hid (Blk w1 w.heap.size #[.int .i64 0, .string ⟨#[]⟩, .string ⟨#[]⟩, .int .u32 0, .int .i64 0, .int .u32 0, .int .i64 0] 74) := rB; replace hb1 : Hid (Below w.heap.size w w1) := hb1; replace hrow : Hid (ROW w1) := hrow; have r0 : w1.cell? ⟨w.heap.size, 0, none⟩ = some (.int .i64 0) := rB.out.cell 0; have rf0 := rB.out.frozen 0; have r1 : w1.cell? ⟨w.heap.size, 1, none⟩ = some (.string ⟨#[]⟩) := rB.out.cell 1; have rf1 := rB.out.frozen 1; have r2 : w1.cell? ⟨w.heap.size, 2, none⟩ = some (.string ⟨#[]⟩) := rB.out.cell 2; have rf2 := rB.out.frozen 2; have r3 : w1.cell? ⟨w.heap.size, 3, none⟩ = some (.int .u32 0) := rB.out.cell 3; have rf3 := rB.out.frozen 3; have r4 : w1.cell? ⟨w.heap.size, 4, none⟩ = some (.int .i64 0) := rB.out.cell 4; have rf4 := rB.out.frozen 4; have r5 : w1.cell? ⟨w.heap.size, 5, none⟩ = some (.int .u32 0) := rB.out.cell 5; have rf5 := rB.out.frozen 5; have r6 : w1.cell? ⟨w.heap.size, 6, none⟩ = some (.int .i64 0) := rB.out.cell 6; have rf6 := rB.out.frozen 6; have rz := rB.out.lt) | (go_at_call 50; refine (HV.out _ hb1.out).mono ?_; rintro e w2 ⟨rfl, hq2⟩; have hb2 : Hid (Below w1.heap.size w1 w2) := hq2; clear hq2; have qB : Hid (Blk w2 w.heap.size #[.int .i64 0, .string ⟨#[]⟩, .string ⟨#[]⟩, .int .u32 0, .int .i64 0, .int .u32 0, .int .i64 0] 74) := rB.out.below hb2.out; have q0 : w2.cell? ⟨w.heap.size, 0, none⟩ = some (.int .i64 0) := qB.out.cell 0; have qf0 := qB.out.frozen 0; have q1 : w2.cell? ⟨w.heap.size, 1, none⟩ = some (.string ⟨#[]⟩) := qB.out.cell 1; have qf1 := qB.out.frozen 1; have q2 : w2.cell? ⟨w.heap.size, 2, none⟩ = some (.string ⟨#[]⟩) := qB.out.cell 2; have qf2 := qB.out.frozen 2; have q3 : w2.cell? ⟨w.heap.size, 3, none⟩ = some (.int .u32 0) := qB.out.cell 3; have qf3 := qB.out.frozen 3; have q4 : w2.cell? ⟨w.heap.size, 4, none⟩ = some (.int .i64 0) := qB.out.cell 4; have qf4 := qB.out.frozen 4; have q5 : w2.cell? ⟨w.heap.size, 5, none⟩ = some (.int .u32 0) := qB.out.cell 5; have qf5 := qB.out.frozen 5; have q6 : w2.cell? ⟨w.heap.size, 6, none⟩ = some (.int .i64 0) := qB.out.cell 6; have qf6 := qB.out.frozen 6; have qz := qB.out.lt; clear r0 rf0 r1 rf1 r2 rf2 r3 rf3 r4 rf4 r5 rf5 r6 rf6; have zg : 0 < w2.heap.size := Nat.lt_of_lt_of_le hF (Nat.le_trans hb1.out.size hb2.out.size); have fm0 : w2.cell? ⟨0, v * 5 + 1, none⟩ = some (.int .i64 p0) := ((hb1.out.trans (hb2.out.mono hb1.out.size)).cell (p := ⟨0, v * 5 + 1, none⟩) hF).trans (HF.out.1); have fm1 : w2.cell? ⟨0, v * 5 + 2, none⟩ = some (.int .i64 p1) := ((hb1.out.trans (hb2.out.mono hb1.out.size)).cell (p := ⟨0, v * 5 + 2, none⟩) hF).trans (HF.out.2.1); have fm2 : w2.cell? ⟨0, v * 5 + 3, none⟩ = some (.int .i64 p2) := ((hb1.out.trans (hb2.out.mono hb1.out.size)).cell (p := ⟨0, v * 5 + 3, none⟩) hF).trans (HF.out.2.2.1); have fm3 : w2.cell? ⟨0, v * 5 + 4, none⟩ = some (.int .i64 p3) := ((hb1.out.trans (hb2.out.mono hb1.out.size)).cell (p := ⟨0, v * 5 + 4, none⟩) hF).trans (HF.out.2.2.2)))
  go_region_held3 (fun w' => w'.cell? ⟨0, v * 5 + 1, none⟩ = some (.int .i64 p0) ∧ w'.cell? ⟨0, v * 5 + 2, none⟩ = some (.int .i64 p1) ∧ w'.cell? ⟨0, v * 5 + 3, none⟩ = some (.int .i64 p2) ∧ w'.cell? ⟨0, v * 5 + 4, none⟩ = some (.int .i64 p3)) (go_keep) (first | (go_at_call 51; refine (HP.out w1 w2 hrow.out z1 hb1.out hb2.out).mono ?_; rintro e w3 ⟨rfl, lB, hc3⟩; replace lB : Hid (Blk w3 w2.heap.size (lnC l') 74) := lB; replace hc3 : Hid (Chg (fun b => b = w2.heap.size) (w2.alloc (.cells #[.int .i64 v, .string ⟨#[]⟩, .string ⟨#[]⟩, .int .u32 0, .int .i64 0, .int .u32 0, .int .i64 0] 74)) w3) := hc3; have sB : Hid (Blk w3 w.heap.size #[.int .i64 0, .string ⟨#[]⟩, .string ⟨#[]⟩, .int .u32 0, .int .i64 0, .int .u32 0, .int .i64 0] 74) := rd_keep qB.out hc3.out; have s0 : w3.cell? ⟨w.heap.size, 0, none⟩ = some (.int .i64 0) := sB.out.cell 0; have sf0 := sB.out.frozen 0; have s1 : w3.cell? ⟨w.heap.size, 1, none⟩ = some (.string ⟨#[]⟩) := sB.out.cell 1; have sf1 := sB.out.frozen 1; have s2 : w3.cell? ⟨w.heap.size, 2, none⟩ = some (.string ⟨#[]⟩) := sB.out.cell 2; have sf2 := sB.out.frozen 2; have s3 : w3.cell? ⟨w.heap.size, 3, none⟩ = some (.int .u32 0) := sB.out.cell 3; have sf3 := sB.out.frozen 3; have s4 : w3.cell? ⟨w.heap.size, 4, none⟩ = some (.int .i64 0) := sB.out.cell 4; have sf4 := sB.out.frozen 4; have s5 : w3.cell? ⟨w.heap.size, 5, none⟩ = some (.int .u32 0) := sB.out.cell 5; have sf5 := sB.out.frozen 5; have s6 : w3.cell? ⟨w.heap.size, 6, none⟩ = some (.int .i64 0) := sB.out.cell 6; have sf6 := sB.out.frozen 6; have t0 : w3.cell? ⟨w2.heap.size, 0, none⟩ = some (.int .i64 l'.v) := lB.out.cell 0; have t1 : w3.cell? ⟨w2.heap.size, 1, none⟩ = some (.string l'.t) := lB.out.cell 1; have t2 : w3.cell? ⟨w2.heap.size, 2, none⟩ = some (.string l'.o) := lB.out.cell 2; have t3 : w3.cell? ⟨w2.heap.size, 3, none⟩ = some (.int .u32 l'.a) := lB.out.cell 3; have t4 : w3.cell? ⟨w2.heap.size, 4, none⟩ = some (.int .i64 l'.n) := lB.out.cell 4; have t5 : w3.cell? ⟨w2.heap.size, 5, none⟩ = some (.int .u32 l'.d) := lB.out.cell 5; have t6 : w3.cell? ⟨w2.heap.size, 6, none⟩ = some (.int .i64 l'.g) := lB.out.cell 6; have tz := lB.out.lt; have sz3 := sB.out.lt; have gm0 := rd_cell zg fm0 hc3.out; have gm1 := rd_cell zg fm1 hc3.out; have gm2 := rd_cell zg fm2 hc3.out; have gm3 := rd_cell zg fm3 hc3.out))
  all_goals (
    go_wp2
    have kk := seven_set sB.out (.int .i64 l'.v) (.string l'.t) (.string l'.o) (.int .u32 l'.a) (.int .i64 l'.n) (.int .u32 l'.d) (.int .i64 l'.g)
    have kk0 := kk.cell 0
    have kk1 := kk.cell 1
    have kk2 := kk.cell 2
    have kk3 := kk.cell 3
    have kk4 := kk.cell 4
    have kk5 := kk.cell 5
    have kk6 := kk.cell 6
    clear kk
    have hq := rd_below hb1.out hb2.out hc3.out
    have hz := hq.size
    exact bodyPost_ret (v := (.tuple #[.agg (lnC l'), .bool true])) (by simp [results, Tryz.results30, go_sem, kk0, kk1, kk2, kk3, kk4, kk5, kk6, lnC]) rfl ⟨rfl, (by repeat' (first | with_reducible assumption | with_reducible exact Below.refl _ _ | with_reducible apply Below.drew | with_reducible apply below_drewN | with_reducible apply Below.setCell | with_reducible apply Below.alloc | omega | (simp; done) | (simp; omega)))⟩)
end Go.Proofs.YtlikdnmikdldfaaGreatDoor
namespace Go.Proofs.YtlikdnmikdldfaaGreatDoor
open Go.ChangeShapes Go.WideShapes Go.ChangeAt Go.RowKit
set_option linter.unusedVariables false
set_option linter.unusedSimpArgs false

theorem cps_nil (l : Ln) (k : Nat) : cps l (List.replicate k 0) [] = some l := by
  cases k <;> simp [cps, List.replicate_succ]
theorem cps_eq (k : Nat) : ∀ (ps : List Nat) (ws : List (List UInt8)) (l : Ln), (∀ p, p ∈ ps → p ≠ 0) → ws.length ≤ ps.length + k → cps l (ps ++ List.replicate k 0) ws = rdParts l ps ws
  | [], [], l, _, _ => by rw [List.nil_append, cps_nil]; rfl
  | [], w :: ws, l, _, h => by
    obtain ⟨k, rfl⟩ : ∃ q, k = q + 1 := ⟨k - 1, by simp at h; omega⟩
    rw [List.nil_append, List.replicate_succ]
    rfl
  | p :: ps, [], l, hp, _ => by
    have := hp p (by simp)
    simp [cps, rdParts, this]
  | p :: ps, w :: ws, l, hp, h => by
    rw [List.cons_append]
    simp only [cps, rdParts]
    rcases rdPart l p w with _ | l'
    · rfl
    · exact cps_eq k ps ws l' (fun q hq => hp q (by simp [hq])) (by simp at h; omega)
theorem rdParts_len : ∀ (ps : List Nat) (ws : List (List UInt8)) (l l' : Ln), rdParts l ps ws = some l' → ws.length = ps.length
  | [], [], _, _, _ => rfl
  | [], _ :: _, l, l', h => by simp [rdParts] at h
  | _ :: _, [], l, l', h => by simp [rdParts] at h
  | p :: ps, w :: ws, l, l', h => by
    rw [rdParts] at h
    split at h
    · have := rdParts_len ps ws _ l' h
      simp [this]
    · cases h
def fmP (v j : Nat) : Nat := (form v).getD j 0
theorem form_pad (v : Nat) (h : v < 11) : [fmP v 0, fmP v 1, fmP v 2, fmP v 3] = form v ++ List.replicate (4 - (form v).length) 0 ∧ (∀ p, p ∈ form v → p ≠ 0) ∧ (form v).length ≤ 4 ∧ fmP v 0 ≤ 5 ∧ fmP v 1 ≤ 5 ∧ fmP v 2 ≤ 5 ∧ fmP v 3 ≤ 5 := by
  have : ∀ v : Fin 11, [fmP v 0, fmP v 1, fmP v 2, fmP v 3] = form v ++ List.replicate (4 - (form v).length) 0 ∧ (∀ p, p ∈ form v → p ≠ 0) ∧ (form v).length ≤ 4 ∧ fmP v 0 ≤ 5 ∧ fmP v 1 ≤ 5 ∧ fmP v 2 ≤ 5 ∧ fmP v 3 ≤ 5 := by decide +kernel
  exact this ⟨v, h⟩
theorem form_cells (v : Nat) (h : v < 11) : formsC[v * 5 + 1]? = some (.int .i64 (fmP v 0)) ∧ formsC[v * 5 + 2]? = some (.int .i64 (fmP v 1)) ∧ formsC[v * 5 + 3]? = some (.int .i64 (fmP v 2)) ∧ formsC[v * 5 + 4]? = some (.int .i64 (fmP v 3)) := by
  have hc : v = 0 ∨ v = 1 ∨ v = 2 ∨ v = 3 ∨ v = 4 ∨ v = 5 ∨ v = 6 ∨ v = 7 ∨ v = 8 ∨ v = 9 ∨ v = 10 := by omega
  rcases hc with rfl | rfl | rfl | rfl | rfl | rfl | rfl | rfl | rfl | rfl | rfl <;> exact ⟨rfl, rfl, rfl, rfl⟩
/-- what a verb's words are read as -/
theorem cps_form (v : Nat) (h : v < 11) (ws : List (List UInt8)) (hw : ws.length ≤ 4) (l : Ln) : cps l [fmP v 0, fmP v 1, fmP v 2, fmP v 3] ws = rdParts l (form v) ws := by
  obtain ⟨h1, h2, h3, _⟩ := form_pad v h
  rw [h1]
  exact cps_eq _ _ _ _ h2 (by omega)
def rlC (s : ByteArray) : Ln := (rdLine s.data.toList).getD (ln0 0)
def rlOk (s : ByteArray) : Bool := (rdLine s.data.toList).isSome
theorem lread_any (s : ByteArray) (w : World) (E : EnvT w) (hZ : 10 ≤ w.heap.size) :
    Calls Tryz.prog 30 #[.string s] w fun e w' => e = .returned (.tuple #[.agg (lnC (rlC s)), .bool (rlOk s)]) ∧ Below w.heap.size w w' := by
  have hl := Lib.size_eq s
  by_cases hs : s.size ≤ 100
  · obtain ⟨LL, hLL⟩ : ∃ L : List ByteArray, L.map (fun x => x.data.toList) = parts 32 s.data.toList ∧ ∀ W, Env W → Calls Tryz.prog 49 #[.string s, .string ⟨#[32]⟩] W fun e w' => e = .returned (.slice (some ⟨W.heap.size, 0, none⟩) L.length L.length) ∧ w' = W.alloc (.cells (L.map Value.string).toArray 9) := by
      refine ⟨(parts 32 s.data.toList).map bs, by rw [List.map_map]; exact (List.map_congr_left fun x _ => bs_data x).trans (List.map_id _), fun W EW => ?_⟩
      refine (split_any s W EW (by omega)).mono ?_
      rintro e w' ⟨L, h1, rfl, rfl⟩
      have h2 : L = (parts 32 s.data.toList).map bs := by
        rw [← h1, List.map_map]
        exact ((List.map_congr_left fun x _ => (bs_of x)).trans (List.map_id _)).symm
      rw [← h2]
      exact ⟨rfl, rfl⟩
    obtain ⟨hmap, hsp⟩ := hLL
    obtain ⟨s0, Lr, rfl⟩ : ∃ s0 Lr, LL = s0 :: Lr := by
      rcases LL with _ | ⟨a, b⟩
      · have := parts_pos 32 s.data.toList
        rw [← hmap] at this; simp at this
      · exact ⟨a, b, rfl⟩
    have hpt : parts 32 s.data.toList = s0.data.toList :: Lr.map (fun x => x.data.toList) := by rw [← hmap]; rfl
    have hrl : rdLine s.data.toList = if fi (fun v => v == s0.data.toList) verbT < 0 then none else rdParts (ln0 (fi (fun v => v == s0.data.toList) verbT).toNat) (form (fi (fun v => v == s0.data.toList) verbT).toNat) (Lr.map (fun x => x.data.toList)) := by
      unfold rdLine
      rw [if_pos (by omega), hpt]
    have hsz : ∀ k, (Lr.getD k ⟨#[]⟩).size ≤ 2097152 := fun k => by
      have h1 := part_len 32 s.data.toList (k + 1)
      rw [hpt] at h1
      have h2 : ((s0.data.toList :: Lr.map (fun x => x.data.toList)).getD (k + 1) []) = (Lr.getD k ⟨#[]⟩).data.toList := by
        simp only [List.getD_cons_succ]
        rw [List.getD_eq_getElem?_getD, List.getD_eq_getElem?_getD, List.getElem?_map]
        rcases Lr[k]? with _ | x <;> rfl
      rw [h2] at h1
      have h3 := Lib.size_eq (Lr.getD k ⟨#[]⟩)
      omega
    have ROWd : ∃ ROW : World → Prop, ROW = fun w1 => ∀ k, k < Lr.length → w1.cell? ⟨w.heap.size + 1, k + 1, none⟩ = some (.string (Lr.getD k ⟨#[]⟩)) := ⟨_, rfl⟩
    obtain ⟨ROW, hROW⟩ := ROWd
    have hb0 : Below w.heap.size w (w.alloc (.cells #[.int .i64 0, .string ⟨#[]⟩, .string ⟨#[]⟩, .int .u32 0, .int .i64 0, .int .u32 0, .int .i64 0] 74)) := (by repeat' (first | with_reducible assumption | with_reducible exact Below.refl _ _ | with_reducible apply Below.drew | with_reducible apply below_drewN | with_reducible apply Below.setCell | with_reducible apply Below.alloc | omega | (simp; done) | (simp; omega)))
    have HS : Hid (Calls Tryz.prog 49 #[.string s, .string ⟨#[32]⟩] (w.alloc (.cells #[.int .i64 0, .string ⟨#[]⟩, .string ⟨#[]⟩, .int .u32 0, .int .i64 0, .int .u32 0, .int .i64 0] 74)) fun e w1 => e = .returned (.slice (some ⟨w.heap.size + 1, 0, none⟩) (Lr.length + 1) (Lr.length + 1)) ∧ w1.cell? ⟨w.heap.size + 1, 0, none⟩ = some (.string s0) ∧ w.heap.size + 1 < w1.heap.size ∧ Blk w1 w.heap.size #[.int .i64 0, .string ⟨#[]⟩, .string ⟨#[]⟩, .int .u32 0, .int .i64 0, .int .u32 0, .int .i64 0] 74 ∧ Below w.heap.size w w1 ∧ ROW w1) := by
      refine (hsp _ (E.env.mono hb0)).mono ?_
      rintro e w1 ⟨rfl, rfl⟩
      have hz : (w.alloc (.cells #[.int .i64 0, .string ⟨#[]⟩, .string ⟨#[]⟩, .int .u32 0, .int .i64 0, .int .u32 0, .int .i64 0] 74)).heap.size = w.heap.size + 1 := by simp
      have B := Blk.new (w.alloc (.cells #[.int .i64 0, .string ⟨#[]⟩, .string ⟨#[]⟩, .int .u32 0, .int .i64 0, .int .u32 0, .int .i64 0] 74)) ((s0 :: Lr).map Value.string).toArray 9
      rw [hz] at B
      refine ⟨by rw [hz]; rfl, B.cell 0, by simp, (Blk.new w _ _).below (by repeat' (first | with_reducible assumption | with_reducible exact Below.refl _ _ | with_reducible apply Below.drew | with_reducible apply below_drewN | with_reducible apply Below.setCell | with_reducible apply Below.alloc | omega | (simp; done) | (simp; omega))), (by repeat' (first | with_reducible assumption | with_reducible exact Below.refl _ _ | with_reducible apply Below.drew | with_reducible apply below_drewN | with_reducible apply Below.setCell | with_reducible apply Below.alloc | omega | (simp; done) | (simp; omega))), ?_⟩
      rw [hROW]
      intro k hk
      rw [B.cell (k + 1)]
      simp [List.getD_eq_getElem?_getD, List.getElem?_eq_getElem hk]
    have hW0 : ∀ W, Below w.heap.size w W → EnvT W := fun W hW => E.mono hW
    have hvb : ∀ W, Below w.heap.size w W → _ := fun W hW => readVerb_any s0 W (E.mono hW)
    by_cases hneg : fi (fun v => v == s0.data.toList) verbT < 0
    · rw [if_pos hneg] at hrl
      have e1 : rlC s = ln0 0 := by unfold rlC; rw [hrl]; rfl
      have e2 : rlOk s = false := by unfold rlOk; rw [hrl]; rfl
      rw [e1, e2]
      refine read_unknown s w (Lr.length + 1) (by omega) s0 hs ROW E.lf HS fun W hW => ?_
      have := hvb W hW
      rw [if_pos hneg, decide_eq_true hneg] at this
      exact this
    · rw [if_neg hneg] at hrl
      obtain ⟨v, hv11, hv⟩ : ∃ v : Nat, v < 11 ∧ fi (fun v => v == s0.data.toList) verbT = (v : Int) := by
        rcases fi_cases (fun v => v == s0.data.toList) verbT [] with ⟨q, _⟩ | ⟨k, hk, q, _, _⟩
        · rw [q] at hneg; omega
        · exact ⟨k, hk, q⟩
      rw [hv, Int.toNat_natCast] at hrl
      have HV : Hid (∀ W, Below w.heap.size w W → Calls Tryz.prog 50 #[.string s0] W fun e w' => e = .returned (.tuple #[.int .i64 v, .bool true]) ∧ Below W.heap.size W w') := fun W hW => by
        have := hvb W hW
        rw [if_neg hneg, decide_eq_false hneg, hv] at this
        exact this
      obtain ⟨c0, c1, c2, c3⟩ := form_cells v hv11
      have HF : Hid (w.cell? ⟨0, v * 5 + 1, none⟩ = some (.int .i64 (fmP v 0)) ∧ w.cell? ⟨0, v * 5 + 2, none⟩ = some (.int .i64 (fmP v 1)) ∧ w.cell? ⟨0, v * 5 + 3, none⟩ = some (.int .i64 (fmP v 2)) ∧ w.cell? ⟨0, v * 5 + 4, none⟩ = some (.int .i64 (fmP v 3))) :=
        ⟨E.fm _ _ c0, E.fm _ _ c1, E.fm _ _ c2, E.fm _ _ c3⟩
      obtain ⟨_, _, hf4, hpp⟩ := form_pad v hv11
      obtain ⟨ln, hln⟩ : ∃ ln, ln = ln0 v := ⟨_, rfl⟩
      have hP : ∀ (ba : Option Addr) (hbb : 0 < Lr.length → ba = some ⟨w.heap.size + 1, 1, none⟩) (w1 w2 : World), ROW w1 → w.heap.size + 1 < w1.heap.size → Below w.heap.size w w1 → Below w1.heap.size w1 w2 →
          Calls Tryz.prog 51 #[.pointer (some ⟨w2.heap.size, 0, none⟩), .agg #[.int .i64 (fmP v 0), .int .i64 (fmP v 1), .int .i64 (fmP v 2), .int .i64 (fmP v 3)], .slice ba Lr.length Lr.length] (w2.alloc (.cells #[.int .i64 v, .string ⟨#[]⟩, .string ⟨#[]⟩, .int .u32 0, .int .i64 0, .int .u32 0, .int .i64 0] 74)).drew fun e w' =>
            e = .returned (.bool (rlOk s)) ∧ (∀ l', rdLine s.data.toList = some l' → Blk w' w2.heap.size (lnC l') 74) ∧ Chg (fun b => b = w2.heap.size) (w2.alloc (.cells #[.int .i64 v, .string ⟨#[]⟩, .string ⟨#[]⟩, .int .u32 0, .int .i64 0, .int .u32 0, .int .i64 0] 74)) w' := by
        intro ba hbb w1 w2 hr hz1 hb1 hb2
        have hq := hb1.trans (hb2.mono hb1.size)
        have hzq := hq.size
        have hz2 := hb2.size
        have hWb : Below w2.heap.size w2 (w2.alloc (.cells #[.int .i64 v, .string ⟨#[]⟩, .string ⟨#[]⟩, .int .u32 0, .int .i64 0, .int .u32 0, .int .i64 0] 74)).drew := (by repeat' (first | with_reducible assumption | with_reducible exact Below.refl _ _ | with_reducible apply Below.drew | with_reducible apply below_drewN | with_reducible apply Below.setCell | with_reducible apply Below.alloc | omega | (simp; done) | (simp; omega)))
        have hWd : Below (w2.alloc (.cells #[.int .i64 v, .string ⟨#[]⟩, .string ⟨#[]⟩, .int .u32 0, .int .i64 0, .int .u32 0, .int .i64 0] 74)).heap.size (w2.alloc (.cells #[.int .i64 v, .string ⟨#[]⟩, .string ⟨#[]⟩, .int .u32 0, .int .i64 0, .int .u32 0, .int .i64 0] 74)) (w2.alloc (.cells #[.int .i64 v, .string ⟨#[]⟩, .string ⟨#[]⟩, .int .u32 0, .int .i64 0, .int .u32 0, .int .i64 0] 74)).drew := (by repeat' (first | with_reducible assumption | with_reducible exact Below.refl _ _ | with_reducible apply Below.drew | with_reducible apply below_drewN | with_reducible apply Below.setCell | with_reducible apply Below.alloc | omega | (simp; done) | (simp; omega)))
        by_cases h4 : Lr.length ≤ 4
        · refine (readParts_go w2.heap.size (w.heap.size + 1) Lr.length Lr.length ba hbb Lr rfl h4 (fmP v 0) (fmP v 1) (fmP v 2) (fmP v 3) hpp (ln0 v) _ ((E.env.mono hq).mono hWb) (fun b e => by omega) ?_ (by have := hWb.size; omega) (by omega) (fun k hk => ?_) hsz).mono ?_
          · exact (Blk.new w2 _ _).below hWd
          · rw [hROW] at hr
            have hrk := hr k hk
            exact (hWb.cell (p := ⟨w.heap.size + 1, k + 1, none⟩) (by show w.heap.size + 1 < _; omega)).trans ((hb2.cell (p := ⟨w.heap.size + 1, k + 1, none⟩) (by show w.heap.size + 1 < _; omega)).trans hrk)
          · rintro e w' ⟨rfl, h1, h2⟩
            rw [cps_form v hv11 _ (by rw [List.length_map]; exact h4), ← hrl] at h1 ⊢
            exact ⟨rfl, h1, (Chg.below hWd).trans h2 (fun b e => .inl e)⟩
        · refine (readParts_many w2.heap.size 0 Lr.length Lr.length h4 (fmP v 0) (fmP v 1) (fmP v 2) (fmP v 3) ba _).mono ?_
          rintro e w' ⟨rfl, hb⟩
          have hno : rdLine s.data.toList = none := by
            rcases e : rdLine s.data.toList with _ | l'
            · rfl
            · rw [hrl] at e
              have := rdParts_len _ _ _ _ e
              rw [List.length_map] at this
              omega
          refine ⟨by unfold rlOk; rw [hno]; rfl, fun l' e => (by rw [hno] at e; cases e), ?_⟩
          exact (Chg.below hWd).trans (Chg.below (S := fun b => b = w2.heap.size) hb) (fun b e => .inl e)
      rcases hres : rdLine s.data.toList with _ | l'
      · have e1 : rlC s = ln0 0 := by unfold rlC; rw [hres]; rfl
        have e2 : rlOk s = false := by unfold rlOk; rw [hres]; rfl
        rw [e1, e2]
        rw [e2] at hP
        by_cases h1 : Lr = []
        · subst h1
          exact read_bad1 s w s0 hs ROW v _ _ _ _ hv11 E.lf HF HS HV fun w1 w2 a b c d => (hP _ (fun q => absurd q (by simp)) w1 w2 a b c d).mono fun e w' q => ⟨q.1, q.2.2⟩
        · have hpos : 0 < Lr.length := List.length_pos_iff.2 h1
          exact read_bad s w (Lr.length + 1) (by omega) (by omega) s0 hs ROW v _ _ _ _ hv11 E.lf HF HS HV fun w1 w2 a b c d => (hP _ (fun _ => rfl) w1 w2 a b c d).mono fun e w' q => ⟨q.1, q.2.2⟩
      · have e1 : rlC s = l' := by unfold rlC; rw [hres]; rfl
        have e2 : rlOk s = true := by unfold rlOk; rw [hres]; rfl
        rw [e1, e2]
        rw [e2] at hP
        by_cases h1 : Lr = []
        · subst h1
          exact read_good1 s w s0 hs ROW v _ _ _ _ hv11 E.lf HF HS HV l' fun w1 w2 a b c d => (hP _ (fun q => absurd q (by simp)) w1 w2 a b c d).mono fun e w' q => ⟨q.1, q.2.1 l' hres, q.2.2⟩
        · have hpos : 0 < Lr.length := List.length_pos_iff.2 h1
          exact read_good s w (Lr.length + 1) (by omega) (by omega) s0 hs ROW v _ _ _ _ hv11 E.lf HF HS HV l' fun w1 w2 a b c d => (hP _ (fun _ => rfl) w1 w2 a b c d).mono fun e w' q => ⟨q.1, q.2.1 l' hres, q.2.2⟩
  · have hno : rdLine s.data.toList = none := by unfold rdLine; rw [if_neg (by omega)]
    have e1 : rlC s = ln0 0 := by unfold rlC; rw [hno]; rfl
    have e2 : rlOk s = false := by unfold rlOk; rw [hno]; rfl
    rw [e1, e2]
    exact read_long s w (by omega)
end Go.Proofs.YtlikdnmikdldfaaGreatDoor
namespace Go.Proofs.YtlikdnmikdldfaaGreatDoor
open Go.ChangeShapes Go.WideShapes Go.ChangeAt Go.RowKit
set_option linter.unusedVariables false
set_option linter.unusedSimpArgs false

structure Live (w wk : World) (x : Nat) (vp vn vl : Value) (l : Ln) : Prop where
  x0 : wk.cell? ⟨x, 0, none⟩ = some vp
  x1 : wk.cell? ⟨x, 1, none⟩ = some vn
  x2 : wk.cell? ⟨x, 2, none⟩ = some vl
  f0 : wk.frozen? ⟨x, 0, none⟩ = false
  f1 : wk.frozen? ⟨x, 1, none⟩ = false
  f2 : wk.frozen? ⟨x, 2, none⟩ = false
  o : wk.cell? ⟨w.heap.size, 2, none⟩ = some (.string l.o)
  a : wk.cell? ⟨w.heap.size, 3, none⟩ = some (.int .u32 l.a)
  n : wk.cell? ⟨w.heap.size, 4, none⟩ = some (.int .i64 l.n)
  d : wk.cell? ⟨w.heap.size, 5, none⟩ = some (.int .u32 l.d)
  g : wk.cell? ⟨w.heap.size, 6, none⟩ = some (.int .i64 l.g)
  r0 : wk.cell? ⟨w.heap.size + 1, 0, none⟩ = some (.int .i64 0)
  r1 : wk.cell? ⟨w.heap.size + 1, 1, none⟩ = some (.slice none 0 0)
  g0 : wk.frozen? ⟨w.heap.size + 1, 0, none⟩ = false
  g1 : wk.frozen? ⟨w.heap.size + 1, 1, none⟩ = false
  zx : x < wk.heap.size
  z0 : w.heap.size < wk.heap.size
  z1 : w.heap.size + 1 < wk.heap.size
  rb : Blk wk (w.heap.size + 1) #[.int .i64 0, .slice none 0 0] 79
theorem live_of {w : World} {x : Nat} {S : Nat → Prop} {vp vn vl : Value} {c : Nat} {s : Bk} (l : Ln) (h : BA w x S vp vn vl c s) (wk : World) (hb : Below (w.heap.size + 2) ((w.alloc (.cells #[.int .i64 l.v, .string l.t, .string l.o, .int .u32 l.a, .int .i64 l.n, .int .u32 l.d, .int .i64 l.g] 74)).alloc (.cells #[.int .i64 0, .slice none 0 0] 79)) wk) : Live w wk x vp vn vl l := by
  have hx := h.blk.lt
  have q0 : Blk ((w.alloc (.cells #[.int .i64 l.v, .string l.t, .string l.o, .int .u32 l.a, .int .i64 l.n, .int .u32 l.d, .int .i64 l.g] 74)).alloc (.cells #[.int .i64 0, .slice none 0 0] 79)) x #[vp, vn, vl, .chan (some c)] 92 := h.blk.below (by repeat' (first | with_reducible assumption | with_reducible exact Below.refl _ _ | with_reducible apply Below.drew | with_reducible apply below_drewN | with_reducible apply Below.setCell | with_reducible apply Below.alloc | omega | (simp; done) | (simp; omega)))
  have q1 : Blk ((w.alloc (.cells #[.int .i64 l.v, .string l.t, .string l.o, .int .u32 l.a, .int .i64 l.n, .int .u32 l.d, .int .i64 l.g] 74)).alloc (.cells #[.int .i64 0, .slice none 0 0] 79)) w.heap.size #[.int .i64 l.v, .string l.t, .string l.o, .int .u32 l.a, .int .i64 l.n, .int .u32 l.d, .int .i64 l.g] 74 := (Below.heap_alloc _ _ _ (by simp)).trans (Blk.new w _ _)
  have q2 := Blk.new (w.alloc (.cells #[.int .i64 l.v, .string l.t, .string l.o, .int .u32 l.a, .int .i64 l.n, .int .u32 l.d, .int .i64 l.g] 74)) #[.int .i64 0, .slice none 0 0] 79
  rw [show (w.alloc (.cells #[.int .i64 l.v, .string l.t, .string l.o, .int .u32 l.a, .int .i64 l.n, .int .u32 l.d, .int .i64 l.g] 74)).heap.size = w.heap.size + 1 by simp] at q2
  have hz := hb.size
  simp at hz
  have p0 : Blk wk x #[vp, vn, vl, .chan (some c)] 92 := (hb.block x (by omega)).trans q0
  have p1 : Blk wk w.heap.size #[.int .i64 l.v, .string l.t, .string l.o, .int .u32 l.a, .int .i64 l.n, .int .u32 l.d, .int .i64 l.g] 74 := (hb.block _ (by omega)).trans q1
  have p2 : Blk wk (w.heap.size + 1) #[.int .i64 0, .slice none 0 0] 79 := (hb.block _ (by omega)).trans q2
  exact ⟨p0.cell 0, p0.cell 1, p0.cell 2, p0.frozen 0, p0.frozen 1, p0.frozen 2, p1.cell 2, p1.cell 3, p1.cell 4, p1.cell 5, p1.cell 6, p2.cell 0, p2.cell 1, p2.frozen 0, p2.frozen 1, by omega, by omega, by omega, p2⟩
theorem two_set {w : World} {g : Nat} {t : TypeId} {u0 u1 : Value} (h : Blk w g #[u0, u1] t) (a b : Value) : ((w.setCell ⟨g, 0, none⟩ a).setCell ⟨g, 1, none⟩ b).cell? ⟨g, 0, none⟩ = some a ∧ ((w.setCell ⟨g, 0, none⟩ a).setCell ⟨g, 1, none⟩ b).cell? ⟨g, 1, none⟩ = some b :=
  ⟨((h.set 0 a).set 1 b).cell 0, ((h.set 0 a).set 1 b).cell 1⟩
theorem bstep {n : Nat} {A Wc wk : World} (h1 : Below n A Wc) (hz : n ≤ A.heap.size) (hq : Below Wc.heap.size Wc wk) : Below n A wk := h1.trans (hq.mono (Nat.le_trans hz h1.size))
theorem w0_below (w : World) (l : Ln) : Below w.heap.size w ((w.alloc (.cells #[.int .i64 l.v, .string l.t, .string l.o, .int .u32 l.a, .int .i64 l.n, .int .u32 l.d, .int .i64 l.g] 74)).alloc (.cells #[.int .i64 0, .slice none 0 0] 79)) := (by repeat' (first | with_reducible assumption | with_reducible exact Below.refl _ _ | with_reducible apply Below.drew | with_reducible apply below_drewN | with_reducible apply Below.setCell | with_reducible apply Below.alloc | omega | (simp; done) | (simp; omega)))
/-- a line that leaves the book as it was -/
theorem res_ref {w w9 : World} {x : Nat} {S : Nat → Prop} {s : Bk} {l : Ln} (k : Nat) (h : BkAt w x S s) (hb : Below (w.heap.size + 2) ((w.alloc (.cells #[.int .i64 l.v, .string l.t, .string l.o, .int .u32 l.a, .int .i64 l.n, .int .u32 l.d, .int .i64 l.g] 74)).alloc (.cells #[.int .i64 0, .slice none 0 0] 79)) w9) : Res w x S (s, ref k) (.returned (.agg #[.int .i64 k, .slice none 0 0])) ((w9.setCell ⟨w.heap.size + 1, 0, none⟩ (.int .i64 k)).setCell ⟨w.heap.size + 1, 1, none⟩ (.slice none 0 0)) := by
  have h0 := (w0_below w l).trans (hb.mono (by omega))
  have hz := hb.size
  simp at hz
  exact res_same k h (by repeat' (first | with_reducible assumption | with_reducible exact Below.refl _ _ | with_reducible apply Below.drew | with_reducible apply below_drewN | with_reducible apply Below.setCell | with_reducible apply Below.alloc | omega | (simp; done) | (simp; omega)))
end Go.Proofs.YtlikdnmikdldfaaGreatDoor
namespace Go.Proofs.YtlikdnmikdldfaaGreatDoor
open Go.ChangeShapes Go.WideShapes Go.ChangeAt Go.RowKit
set_option linter.unusedVariables false
set_option linter.unusedSimpArgs false

theorem Live.same {w W w2 : World} {x : Nat} {vp vn vl : Value} {l : Ln} (L : Live w W x vp vn vl l) (hz : W.heap.size ≤ w2.heap.size) (hx : w2.heap[x]? = W.heap[x]?) (h0 : w2.heap[w.heap.size]? = W.heap[w.heap.size]?) (h1 : w2.heap[w.heap.size + 1]? = W.heap[w.heap.size + 1]?) : Live w w2 x vp vn vl l :=
  ⟨(World.cell?_of_block (a := ⟨x, 0, none⟩) hx).trans L.x0, (World.cell?_of_block (a := ⟨x, 1, none⟩) hx).trans L.x1, (World.cell?_of_block (a := ⟨x, 2, none⟩) hx).trans L.x2, (World.frozen?_of_block (a := ⟨x, 0, none⟩) hx).trans L.f0, (World.frozen?_of_block (a := ⟨x, 1, none⟩) hx).trans L.f1, (World.frozen?_of_block (a := ⟨x, 2, none⟩) hx).trans L.f2,
    (World.cell?_of_block (a := ⟨w.heap.size, 2, none⟩) h0).trans L.o, (World.cell?_of_block (a := ⟨w.heap.size, 3, none⟩) h0).trans L.a, (World.cell?_of_block (a := ⟨w.heap.size, 4, none⟩) h0).trans L.n, (World.cell?_of_block (a := ⟨w.heap.size, 5, none⟩) h0).trans L.d, (World.cell?_of_block (a := ⟨w.heap.size, 6, none⟩) h0).trans L.g,
    (World.cell?_of_block (a := ⟨w.heap.size + 1, 0, none⟩) h1).trans L.r0, (World.cell?_of_block (a := ⟨w.heap.size + 1, 1, none⟩) h1).trans L.r1, (World.frozen?_of_block (a := ⟨w.heap.size + 1, 0, none⟩) h1).trans L.g0, (World.frozen?_of_block (a := ⟨w.heap.size + 1, 1, none⟩) h1).trans L.g1, by have := L.zx; omega, by have := L.z0; omega, by have := L.z1; omega, h1.trans L.rb⟩
theorem Live.far {w W w2 : World} {x : Nat} {vp vn vl : Value} {l : Ln} {row : Option Nat} (L : Live w W x vp vn vl l) (g : W.grownBy w2 row) (hx : row ≠ some x) (hr : ∀ b, row = some b → b < w.heap.size) : Live w w2 x vp vn vl l :=
  L.same g.size (g.block x L.zx fun e => hx e.symm) (g.block _ L.z0 fun e => by have := hr _ e.symm; omega) (g.block _ L.z1 fun e => by have := hr _ e.symm; omega)

theorem res_put0 {w W w2 w4 : World} {x : Nat} {S : Nat → Prop} {vp vn vl : Value} {c : Nat} {s : Bk} (B : BA w x S vp vn vl c s) (hW : Below w.heap.size w W) (hz : w.heap.size + 2 ≤ W.heap.size) (g2 : W.grownBy w2 vp.ownBlock) {v' : Value} {new : List Hd}
    (o : w2.ownsRow 0 142 3 v' new.length (new.flatMap encH)) (ho : ∀ b, v'.ownBlock = some b → vp.ownBlock = some b ∨ W.heap.size ≤ b) (h4 : Below w2.heap.size (w2.setCell ⟨x, 0, none⟩ v') w4) :
    Res w x S ({ s with pools := new }, okA) (.returned (.agg #[.int .i64 0, .slice none 0 0])) ((w4.setCell ⟨w.heap.size + 1, 0, none⟩ (.int .i64 0)).setCell ⟨w.heap.size + 1, 1, none⟩ (.slice none 0 0)) := by
  obtain ⟨AP0, AP1, AP2⟩ := B.apart
  have hx := B.blk.lt
  have hzs : w2.heap.size ≤ w4.heap.size := by have := h4.size; simpa [World.setCell] using this
  have s1 := sets_other (w.heap.size + 1) [.int .i64 0, .slice none 0 0] 0 w4
  have hx2 : (w2.setCell ⟨x, 0, none⟩ v').heap.size = w2.heap.size := by simp [World.setCell]
  -- what is neither the book's own block nor the answer's
  have hfin : ∀ b, b < w2.heap.size → b ≠ x → b ≠ w.heap.size + 1 → (((w4.setCell ⟨w.heap.size + 1, 0, none⟩ (.int .i64 0)).setCell ⟨w.heap.size + 1, 1, none⟩ (.slice none 0 0))).heap[b]? = w2.heap[b]? := fun b hb hbx hb1 =>
    (s1.2.2.2.2 b hb1).trans ((h4.block b hb).trans (Below.heap_setCell _ _ _ _ hbx))
  have hold : ∀ b, S b → b ≠ x → vp.ownBlock ≠ some b → (((w4.setCell ⟨w.heap.size + 1, 0, none⟩ (.int .i64 0)).setCell ⟨w.heap.size + 1, 1, none⟩ (.slice none 0 0))).heap[b]? = w.heap[b]? := fun b hS hbx hv => by
    have hb := B.sz b hS
    exact (hfin b (by have := g2.size; omega) hbx (by omega)).trans ((g2.block b (by omega) (fun e => hv e.symm)).trans (hW.block b hb))
  have hbk : Blk ((w4.setCell ⟨w.heap.size + 1, 0, none⟩ (.int .i64 0)).setCell ⟨w.heap.size + 1, 1, none⟩ (.slice none 0 0)) x #[v', vn, vl, .chan (some c)] 92 := by
    have b1 : Blk w2 x #[vp, vn, vl, .chan (some c)] 92 := (g2.block x (by omega) (fun e => (AP0 x e.symm).1 rfl)).trans (B.blk.below hW)
    have b2 := b1.set 0 v'
    have b3 : Blk w4 x #[v', vn, vl, .chan (some c)] 92 := (h4.block x b1.lt).trans b2
    exact (s1.2.2.2.2 x (by omega)).trans b3
  refine ⟨_, fun b => S b ∨ v'.ownBlock = some b, rfl, rd_nil _ _ _ _, ⟨v', vn, vl, c, hbk, ?_, ?_, ?_, ?_, .inl B.sx, .inl B.sc, ?_, ?_, ?_, ?_⟩, ?_, ?_⟩
  · exact B.ch.same (hold c B.sc (fun e => B.xc e.symm) (fun e => (AP0 c e).2.1 rfl))
  · refine owns_same o fun b e => hfin b (owns_lt o b e).1 ?_ ?_
    · rintro rfl
      rcases ho _ e with q | q
      · exact (AP0 _ q).1 rfl
      · omega
    · rintro rfl
      rcases ho _ e with q | q
      · have := B.sz _ (B.sp _ q); omega
      · omega
  · exact owns_same B.on fun b e => hold b (B.sn b e) (AP1 b e).1 (AP1 b e).2.2.1
  · exact owns_same B.ol fun b e => hold b (B.sl b e) (AP2 b e).1 (AP2 b e).2.2.1
  · exact fun b e => .inr e
  · exact fun b e => .inl (B.sn b e)
  · exact fun b e => .inl (B.sl b e)
  · rintro b (hb | hb)
    · have := B.sz b hb
      have := hW.size
      have := g2.size
      have h5 := s1.2.2.2.1
      rw [show ((w4.setCell ⟨w.heap.size + 1, 0, none⟩ (.int .i64 0)).setCell ⟨w.heap.size + 1, 1, none⟩ (.slice none 0 0)).heap.size = w4.heap.size from h5]; omega
    · have := (owns_lt o b hb).1
      have h5 := s1.2.2.2.1
      rw [show ((w4.setCell ⟨w.heap.size + 1, 0, none⟩ (.int .i64 0)).setCell ⟨w.heap.size + 1, 1, none⟩ (.slice none 0 0)).heap.size = w4.heap.size from h5]; omega
  · rintro b (hb | hb)
    · exact .inl hb
    · rcases ho b hb with q | q
      · exact .inl (B.sp b q)
      · exact .inr (by omega)
  · have c1 : Chg S w W := Chg.below hW
    have c2 : Chg S W w2 := Chg.grown g2 fun b e => B.sp b e
    have c3 := (c1.trans c2 fun b e => .inl e).sets x 0 [v'] (.inl B.sx)
    have c4 : Chg S (w2.setCell ⟨x, 0, none⟩ v') w4 := ⟨h4.os, h4.tape, h4.output, h4.size, fun b hb hS => h4.block b (by rw [hx2] at hb; exact hb)⟩
    exact (c3.trans c4 fun b e => .inl e).sets (w.heap.size + 1) 0 [.int .i64 0, .slice none 0 0] (.inr (by omega))

theorem res_put1 {w W w2 w4 : World} {x : Nat} {S : Nat → Prop} {vp vn vl : Value} {c : Nat} {s : Bk} (B : BA w x S vp vn vl c s) (hW : Below w.heap.size w W) (hz : w.heap.size + 2 ≤ W.heap.size) (g2 : W.grownBy w2 vn.ownBlock) {v' : Value} {new : List Hd}
    (o : w2.ownsRow 0 166 3 v' new.length (new.flatMap encH)) (ho : ∀ b, v'.ownBlock = some b → vn.ownBlock = some b ∨ W.heap.size ≤ b) (h4 : Below w2.heap.size (w2.setCell ⟨x, 1, none⟩ v') w4) :
    Res w x S ({ s with nets := new }, okA) (.returned (.agg #[.int .i64 0, .slice none 0 0])) ((w4.setCell ⟨w.heap.size + 1, 0, none⟩ (.int .i64 0)).setCell ⟨w.heap.size + 1, 1, none⟩ (.slice none 0 0)) := by
  obtain ⟨AP0, AP1, AP2⟩ := B.apart
  have hx := B.blk.lt
  have hzs : w2.heap.size ≤ w4.heap.size := by have := h4.size; simpa [World.setCell] using this
  have s1 := sets_other (w.heap.size + 1) [.int .i64 0, .slice none 0 0] 0 w4
  have hx2 : (w2.setCell ⟨x, 1, none⟩ v').heap.size = w2.heap.size := by simp [World.setCell]
  -- what is neither the book's own block nor the answer's
  have hfin : ∀ b, b < w2.heap.size → b ≠ x → b ≠ w.heap.size + 1 → (((w4.setCell ⟨w.heap.size + 1, 0, none⟩ (.int .i64 0)).setCell ⟨w.heap.size + 1, 1, none⟩ (.slice none 0 0))).heap[b]? = w2.heap[b]? := fun b hb hbx hb1 =>
    (s1.2.2.2.2 b hb1).trans ((h4.block b hb).trans (Below.heap_setCell _ _ _ _ hbx))
  have hold : ∀ b, S b → b ≠ x → vn.ownBlock ≠ some b → (((w4.setCell ⟨w.heap.size + 1, 0, none⟩ (.int .i64 0)).setCell ⟨w.heap.size + 1, 1, none⟩ (.slice none 0 0))).heap[b]? = w.heap[b]? := fun b hS hbx hv => by
    have hb := B.sz b hS
    exact (hfin b (by have := g2.size; omega) hbx (by omega)).trans ((g2.block b (by omega) (fun e => hv e.symm)).trans (hW.block b hb))
  have hbk : Blk ((w4.setCell ⟨w.heap.size + 1, 0, none⟩ (.int .i64 0)).setCell ⟨w.heap.size + 1, 1, none⟩ (.slice none 0 0)) x #[vp, v', vl, .chan (some c)] 92 := by
    have b1 : Blk w2 x #[vp, vn, vl, .chan (some c)] 92 := (g2.block x (by omega) (fun e => (AP1 x e.symm).1 rfl)).trans (B.blk.below hW)
    have b2 := b1.set 1 v'
    have b3 : Blk w4 x #[vp, v', vl, .chan (some c)] 92 := (h4.block x b1.lt).trans b2
    exact (s1.2.2.2.2 x (by omega)).trans b3
  refine ⟨_, fun b => S b ∨ v'.ownBlock = some b, rfl, rd_nil _ _ _ _, ⟨vp, v', vl, c, hbk, ?_, ?_, ?_, ?_, .inl B.sx, .inl B.sc, ?_, ?_, ?_, ?_⟩, ?_, ?_⟩
  · exact B.ch.same (hold c B.sc (fun e => B.xc e.symm) (fun e => (AP1 c e).2.1 rfl))
  · exact owns_same B.op fun b e => hold b (B.sp b e) (AP0 b e).1 (AP0 b e).2.2.1
  · refine owns_same o fun b e => hfin b (owns_lt o b e).1 ?_ ?_
    · rintro rfl
      rcases ho _ e with q | q
      · exact (AP1 _ q).1 rfl
      · omega
    · rintro rfl
      rcases ho _ e with q | q
      · have := B.sz _ (B.sn _ q); omega
      · omega
  · exact owns_same B.ol fun b e => hold b (B.sl b e) (AP2 b e).1 (AP2 b e).2.2.2
  · exact fun b e => .inl (B.sp b e)
  · exact fun b e => .inr e
  · exact fun b e => .inl (B.sl b e)
  · rintro b (hb | hb)
    · have := B.sz b hb
      have := hW.size
      have := g2.size
      have h5 := s1.2.2.2.1
      rw [show ((w4.setCell ⟨w.heap.size + 1, 0, none⟩ (.int .i64 0)).setCell ⟨w.heap.size + 1, 1, none⟩ (.slice none 0 0)).heap.size = w4.heap.size from h5]; omega
    · have := (owns_lt o b hb).1
      have h5 := s1.2.2.2.1
      rw [show ((w4.setCell ⟨w.heap.size + 1, 0, none⟩ (.int .i64 0)).setCell ⟨w.heap.size + 1, 1, none⟩ (.slice none 0 0)).heap.size = w4.heap.size from h5]; omega
  · rintro b (hb | hb)
    · exact .inl hb
    · rcases ho b hb with q | q
      · exact .inl (B.sn b q)
      · exact .inr (by omega)
  · have c1 : Chg S w W := Chg.below hW
    have c2 : Chg S W w2 := Chg.grown g2 fun b e => B.sn b e
    have c3 := (c1.trans c2 fun b e => .inl e).sets x 1 [v'] (.inl B.sx)
    have c4 : Chg S (w2.setCell ⟨x, 1, none⟩ v') w4 := ⟨h4.os, h4.tape, h4.output, h4.size, fun b hb hS => h4.block b (by rw [hx2] at hb; exact hb)⟩
    exact (c3.trans c4 fun b e => .inl e).sets (w.heap.size + 1) 0 [.int .i64 0, .slice none 0 0] (.inr (by omega))

theorem res_put2 {w W w2 w4 : World} {x : Nat} {S : Nat → Prop} {vp vn vl : Value} {c : Nat} {s : Bk} (B : BA w x S vp vn vl c s) (hW : Below w.heap.size w W) (hz : w.heap.size + 2 ≤ W.heap.size) (g2 : W.grownBy w2 vl.ownBlock) {v' : Value} {new : List Ls}
    (o : w2.ownsRow 0 179 2 v' new.length (new.flatMap encL)) (ho : ∀ b, v'.ownBlock = some b → vl.ownBlock = some b ∨ W.heap.size ≤ b) (h4 : Below w2.heap.size (w2.setCell ⟨x, 2, none⟩ v') w4) :
    Res w x S ({ s with leases := new }, okA) (.returned (.agg #[.int .i64 0, .slice none 0 0])) ((w4.setCell ⟨w.heap.size + 1, 0, none⟩ (.int .i64 0)).setCell ⟨w.heap.size + 1, 1, none⟩ (.slice none 0 0)) := by
  obtain ⟨AP0, AP1, AP2⟩ := B.apart
  have hx := B.blk.lt
  have hzs : w2.heap.size ≤ w4.heap.size := by have := h4.size; simpa [World.setCell] using this
  have s1 := sets_other (w.heap.size + 1) [.int .i64 0, .slice none 0 0] 0 w4
  have hx2 : (w2.setCell ⟨x, 2, none⟩ v').heap.size = w2.heap.size := by simp [World.setCell]
  -- what is neither the book's own block nor the answer's
  have hfin : ∀ b, b < w2.heap.size → b ≠ x → b ≠ w.heap.size + 1 → (((w4.setCell ⟨w.heap.size + 1, 0, none⟩ (.int .i64 0)).setCell ⟨w.heap.size + 1, 1, none⟩ (.slice none 0 0))).heap[b]? = w2.heap[b]? := fun b hb hbx hb1 =>
    (s1.2.2.2.2 b hb1).trans ((h4.block b hb).trans (Below.heap_setCell _ _ _ _ hbx))
  have hold : ∀ b, S b → b ≠ x → vl.ownBlock ≠ some b → (((w4.setCell ⟨w.heap.size + 1, 0, none⟩ (.int .i64 0)).setCell ⟨w.heap.size + 1, 1, none⟩ (.slice none 0 0))).heap[b]? = w.heap[b]? := fun b hS hbx hv => by
    have hb := B.sz b hS
    exact (hfin b (by have := g2.size; omega) hbx (by omega)).trans ((g2.block b (by omega) (fun e => hv e.symm)).trans (hW.block b hb))
  have hbk : Blk ((w4.setCell ⟨w.heap.size + 1, 0, none⟩ (.int .i64 0)).setCell ⟨w.heap.size + 1, 1, none⟩ (.slice none 0 0)) x #[vp, vn, v', .chan (some c)] 92 := by
    have b1 : Blk w2 x #[vp, vn, vl, .chan (some c)] 92 := (g2.block x (by omega) (fun e => (AP2 x e.symm).1 rfl)).trans (B.blk.below hW)
    have b2 := b1.set 2 v'
    have b3 : Blk w4 x #[vp, vn, v', .chan (some c)] 92 := (h4.block x b1.lt).trans b2
    exact (s1.2.2.2.2 x (by omega)).trans b3
  refine ⟨_, fun b => S b ∨ v'.ownBlock = some b, rfl, rd_nil _ _ _ _, ⟨vp, vn, v', c, hbk, ?_, ?_, ?_, ?_, .inl B.sx, .inl B.sc, ?_, ?_, ?_, ?_⟩, ?_, ?_⟩
  · exact B.ch.same (hold c B.sc (fun e => B.xc e.symm) (fun e => (AP2 c e).2.1 rfl))
  · exact owns_same B.op fun b e => hold b (B.sp b e) (AP0 b e).1 (AP0 b e).2.2.2
  · exact owns_same B.on fun b e => hold b (B.sn b e) (AP1 b e).1 (AP1 b e).2.2.2
  · refine owns_same o fun b e => hfin b (owns_lt o b e).1 ?_ ?_
    · rintro rfl
      rcases ho _ e with q | q
      · exact (AP2 _ q).1 rfl
      · omega
    · rintro rfl
      rcases ho _ e with q | q
      · have := B.sz _ (B.sl _ q); omega
      · omega
  · exact fun b e => .inl (B.sp b e)
  · exact fun b e => .inl (B.sn b e)
  · exact fun b e => .inr e
  · rintro b (hb | hb)
    · have := B.sz b hb
      have := hW.size
      have := g2.size
      have h5 := s1.2.2.2.1
      rw [show ((w4.setCell ⟨w.heap.size + 1, 0, none⟩ (.int .i64 0)).setCell ⟨w.heap.size + 1, 1, none⟩ (.slice none 0 0)).heap.size = w4.heap.size from h5]; omega
    · have := (owns_lt o b hb).1
      have h5 := s1.2.2.2.1
      rw [show ((w4.setCell ⟨w.heap.size + 1, 0, none⟩ (.int .i64 0)).setCell ⟨w.heap.size + 1, 1, none⟩ (.slice none 0 0)).heap.size = w4.heap.size from h5]; omega
  · rintro b (hb | hb)
    · exact .inl hb
    · rcases ho b hb with q | q
      · exact .inl (B.sl b q)
      · exact .inr (by omega)
  · have c1 : Chg S w W := Chg.below hW
    have c2 : Chg S W w2 := Chg.grown g2 fun b e => B.sl b e
    have c3 := (c1.trans c2 fun b e => .inl e).sets x 2 [v'] (.inl B.sx)
    have c4 : Chg S (w2.setCell ⟨x, 2, none⟩ v') w4 := ⟨h4.os, h4.tape, h4.output, h4.size, fun b hb hS => h4.block b (by rw [hx2] at hb; exact hb)⟩
    exact (c3.trans c4 fun b e => .inl e).sets (w.heap.size + 1) 0 [.int .i64 0, .slice none 0 0] (.inr (by omega))
end Go.Proofs.YtlikdnmikdldfaaGreatDoor
namespace Go.Proofs.YtlikdnmikdldfaaGreatDoor
open Go.ChangeShapes Go.WideShapes Go.ChangeAt Go.RowKit
set_option linter.unusedVariables false
set_option linter.unusedSimpArgs false

theorem insH_len (l : List Hd) (h : Hd) : (insH l h).length = l.length + 1 := by
  have hle : cntH l h.a ≤ l.length := List.countP_le_length
  unfold insH; simp; omega

set_option maxRecDepth 100000 in
set_option maxHeartbeats 2000000 in
theorem pool_range (w : World) (x : Nat) (S : Nat → Prop) (s : Bk) (l : Ln) (hI : Inv s) (hL : LnOk l) (h : BkAt w x S s) (hn : l.n < 8 ∨ 30 < l.n) :
    Calls Tryz.prog 58 #[.pointer (some ⟨x, 0, none⟩), .agg (lnC l)] w (Res w x S (s, ref 4)) := by
  obtain ⟨vp, vn, vl, c, B⟩ := h
  have hx := B.blk.lt
  have H : Hid (BkAt w x S s) := ⟨vp, vn, vl, c, B⟩
  have x0 : w.cell? ⟨x, 0, none⟩ = some vp := B.blk.cell 0
  have x1 : w.cell? ⟨x, 1, none⟩ = some vn := B.blk.cell 1
  have x2 : w.cell? ⟨x, 2, none⟩ = some vl := B.blk.cell 2
  have LIVE : Hid (∀ wk, Below (w.heap.size + 2) ((w.alloc (.cells #[.int .i64 l.v, .string l.t, .string l.o, .int .u32 l.a, .int .i64 l.n, .int .u32 l.d, .int .i64 l.g] 74)).alloc (.cells #[.int .i64 0, .slice none 0 0] 79)) wk → Live w wk x vp vn vl l) := live_of l B
  have HBA : Hid (BA w x S vp vn vl c s) := B
  have hxa : ¬ (x = w.heap.size) := by omega
  have hxb : ¬ (w.heap.size = x) := by omega
  clear B
  unfold lnC
  go_enter Tryz.func58, Tryz.ntmps58
  by_cases h8 : l.n < 8
  · go_wp2_with (go_at_call 31; refine (refuse_any 4 _).mono ?_; rintro e w9 ⟨rfl, HQ⟩; have HB9 : Hid (Below (w.heap.size + 2) ((w.alloc (.cells #[.int .i64 l.v, .string l.t, .string l.o, .int .u32 l.a, .int .i64 l.n, .int .u32 l.d, .int .i64 l.g] 74)).alloc (.cells #[.int .i64 0, .slice none 0 0] 79)) w9) := bstep (by repeat' (first | with_reducible assumption | with_reducible exact Below.refl _ _ | with_reducible apply Below.drew | with_reducible apply below_drewN | with_reducible apply Below.setCell | with_reducible apply Below.alloc | omega | (simp; done) | (simp; omega))) (by simp) HQ; clear HQ; have HW9 : Hid (Below w.heap.size w w9) := (w0_below w l).trans (HB9.out.mono (by omega)); have LV9 := LIVE.out w9 HB9.out; have r0_9 := LV9.r0; have r1_9 := LV9.r1; have g0_9 := LV9.g0; have g1_9 := LV9.g1; have z1_9 := LV9.z1; clear LV9)
    have hR := (LIVE.out w9 HB9.out).rb
    obtain ⟨kk0, kk1⟩ := two_set hR (.int .i64 4) (.slice none 0 0)
    have hfin := res_ref (l := l) 4 H.out HB9.out
    exact bodyPost_ret (v := .agg #[.int .i64 4, .slice none 0 0]) (by simp [results, Tryz.results58, go_sem, kk0, kk1]) rfl hfin
  · have h30 : 30 < l.n := by omega
    go_wp2_with (go_at_call 31; refine (refuse_any 4 _).mono ?_; rintro e w9 ⟨rfl, HQ⟩; have HB9 : Hid (Below (w.heap.size + 2) ((w.alloc (.cells #[.int .i64 l.v, .string l.t, .string l.o, .int .u32 l.a, .int .i64 l.n, .int .u32 l.d, .int .i64 l.g] 74)).alloc (.cells #[.int .i64 0, .slice none 0 0] 79)) w9) := bstep (by repeat' (first | with_reducible assumption | with_reducible exact Below.refl _ _ | with_reducible apply Below.drew | with_reducible apply below_drewN | with_reducible apply Below.setCell | with_reducible apply Below.alloc | omega | (simp; done) | (simp; omega))) (by simp) HQ; clear HQ; have HW9 : Hid (Below w.heap.size w w9) := (w0_below w l).trans (HB9.out.mono (by omega)); have LV9 := LIVE.out w9 HB9.out; have r0_9 := LV9.r0; have r1_9 := LV9.r1; have g0_9 := LV9.g0; have g1_9 := LV9.g1; have z1_9 := LV9.z1; clear LV9)
    have hR := (LIVE.out w9 HB9.out).rb
    obtain ⟨kk0, kk1⟩ := two_set hR (.int .i64 4) (.slice none 0 0)
    have hfin := res_ref (l := l) 4 H.out HB9.out
    exact bodyPost_ret (v := .agg #[.int .i64 4, .slice none 0 0]) (by simp [results, Tryz.results58, go_sem, kk0, kk1]) rfl hfin

set_option maxRecDepth 100000 in
set_option maxHeartbeats 2000000 in
theorem pool_over (w : World) (x : Nat) (S : Nat → Prop) (s : Bk) (l : Ln) (hI : Inv s) (hL : LnOk l) (h : BkAt w x S s) (h1 : ¬ l.n < 8) (h2 : ¬ 30 < l.n) (h3 : anyH s.pools l.a l.n = true) :
    Calls Tryz.prog 58 #[.pointer (some ⟨x, 0, none⟩), .agg (lnC l)] w (Res w x S (s, ref 5)) := by
  obtain ⟨vp, vn, vl, c, B⟩ := h
  have hx := B.blk.lt
  have H : Hid (BkAt w x S s) := ⟨vp, vn, vl, c, B⟩
  have x0 : w.cell? ⟨x, 0, none⟩ = some vp := B.blk.cell 0
  have x1 : w.cell? ⟨x, 1, none⟩ = some vn := B.blk.cell 1
  have x2 : w.cell? ⟨x, 2, none⟩ = some vl := B.blk.cell 2
  have LIVE : Hid (∀ wk, Below (w.heap.size + 2) ((w.alloc (.cells #[.int .i64 l.v, .string l.t, .string l.o, .int .u32 l.a, .int .i64 l.n, .int .u32 l.d, .int .i64 l.g] 74)).alloc (.cells #[.int .i64 0, .slice none 0 0] 79)) wk → Live w wk x vp vn vl l) := live_of l B
  have HBA : Hid (BA w x S vp vn vl c s) := B
  have hxa : ¬ (x = w.heap.size) := by omega
  have hxb : ¬ (w.heap.size = x) := by omega
  have HP : Hid (∀ Wc, Below w.heap.size w Wc → Calls Tryz.prog 79 #[vp, .agg #[.int .u32 l.a, .int .i64 l.n]] Wc fun e w' => e = .returned (.bool (anyH s.pools l.a l.n)) ∧ Below Wc.heap.size Wc w') := fun Wc hW => anymP s.pools l.a l.n vp Wc (fun q hq => (hI.pa q hq).1) hL.a ((Rd.of_owns (k := 3) (enc := encH) (fun _ => rfl) hd0 B.op).below hW)
  rw [h3] at HP
  obtain ⟨b_vp, c_vp, e_vp, _, _⟩ := owns_slice B.op
  subst e_vp
  clear B
  unfold lnC
  go_enter Tryz.func58, Tryz.ntmps58
  go_wp2
  go_region_held3 (fun w' => w'.cell? ⟨x, 0, none⟩ = some (.slice b_vp s.pools.length c_vp) ∧ w'.cell? ⟨w.heap.size, 3, none⟩ = some (.int .u32 l.a) ∧ w'.cell? ⟨w.heap.size, 4, none⟩ = some (.int .i64 l.n)) (go_keep) (first | (go_at_call 79; refine (HP.out _ (by repeat' (first | with_reducible assumption | with_reducible exact Below.refl _ _ | with_reducible apply Below.drew | with_reducible apply below_drewN | with_reducible apply Below.setCell | with_reducible apply Below.alloc | omega | (simp; done) | (simp; omega)))).mono ?_; rintro e w1 ⟨rfl, HQ⟩; have HB1 : Hid (Below (w.heap.size + 2) ((w.alloc (.cells #[.int .i64 l.v, .string l.t, .string l.o, .int .u32 l.a, .int .i64 l.n, .int .u32 l.d, .int .i64 l.g] 74)).alloc (.cells #[.int .i64 0, .slice none 0 0] 79)) w1) := bstep (by repeat' (first | with_reducible assumption | with_reducible exact Below.refl _ _ | with_reducible apply Below.drew | with_reducible apply below_drewN | with_reducible apply Below.setCell | with_reducible apply Below.alloc | omega | (simp; done) | (simp; omega))) (by simp) HQ; clear HQ; have HW1 : Hid (Below w.heap.size w w1) := (w0_below w l).trans (HB1.out.mono (by omega)); have LV1 := LIVE.out w1 HB1.out; have x0_1 := LV1.x0; have f0_1 := LV1.f0; have o_1 := LV1.o; have a_1 := LV1.a; have n_1 := LV1.n; have zx_1 := LV1.zx; have z0_1 := LV1.z0; have z1_1 := LV1.z1; have r0_1 := LV1.r0; have r1_1 := LV1.r1; have g0_1 := LV1.g0; have g1_1 := LV1.g1; clear LV1))
  all_goals (
    go_wp2_with (go_at_call 31; refine (refuse_any 5 _).mono ?_; rintro e w9 ⟨rfl, HQ⟩; have HB9 : Hid (Below (w.heap.size + 2) ((w.alloc (.cells #[.int .i64 l.v, .string l.t, .string l.o, .int .u32 l.a, .int .i64 l.n, .int .u32 l.d, .int .i64 l.g] 74)).alloc (.cells #[.int .i64 0, .slice none 0 0] 79)) w9) := bstep (by have hp := HB1.out; repeat' (first | with_reducible assumption | with_reducible exact Below.refl _ _ | with_reducible apply Below.drew | with_reducible apply below_drewN | with_reducible apply Below.setCell | with_reducible apply Below.alloc | omega | (simp; done) | (simp; omega))) (by simp) HQ; clear HQ; have HW9 : Hid (Below w.heap.size w w9) := (w0_below w l).trans (HB9.out.mono (by omega)); have LV9 := LIVE.out w9 HB9.out; have r0_9 := LV9.r0; have r1_9 := LV9.r1; have g0_9 := LV9.g0; have g1_9 := LV9.g1; have z1_9 := LV9.z1; clear LV9)
    have hR := (LIVE.out w9 HB9.out).rb
    obtain ⟨kk0, kk1⟩ := two_set hR (.int .i64 5) (.slice none 0 0)
    have hfin := res_ref (l := l) 5 H.out HB9.out
    exact bodyPost_ret (v := .agg #[.int .i64 5, .slice none 0 0]) (by simp [results, Tryz.results58, go_sem, kk0, kk1]) rfl hfin)

set_option maxRecDepth 100000 in
set_option maxHeartbeats 2000000 in
theorem pool_limit (w : World) (x : Nat) (S : Nat → Prop) (s : Bk) (l : Ln) (hI : Inv s) (hL : LnOk l) (h : BkAt w x S s) (h1 : ¬ l.n < 8) (h2 : ¬ 30 < l.n) (h3 : anyH s.pools l.a l.n = false) (h4 : 6 ≤ s.pools.length) :
    Calls Tryz.prog 58 #[.pointer (some ⟨x, 0, none⟩), .agg (lnC l)] w (Res w x S (s, ref 6)) := by
  obtain ⟨vp, vn, vl, c, B⟩ := h
  have hx := B.blk.lt
  have H : Hid (BkAt w x S s) := ⟨vp, vn, vl, c, B⟩
  have x0 : w.cell? ⟨x, 0, none⟩ = some vp := B.blk.cell 0
  have x1 : w.cell? ⟨x, 1, none⟩ = some vn := B.blk.cell 1
  have x2 : w.cell? ⟨x, 2, none⟩ = some vl := B.blk.cell 2
  have LIVE : Hid (∀ wk, Below (w.heap.size + 2) ((w.alloc (.cells #[.int .i64 l.v, .string l.t, .string l.o, .int .u32 l.a, .int .i64 l.n, .int .u32 l.d, .int .i64 l.g] 74)).alloc (.cells #[.int .i64 0, .slice none 0 0] 79)) wk → Live w wk x vp vn vl l) := live_of l B
  have HBA : Hid (BA w x S vp vn vl c s) := B
  have hxa : ¬ (x = w.heap.size) := by omega
  have hxb : ¬ (w.heap.size = x) := by omega
  have HP : Hid (∀ Wc, Below w.heap.size w Wc → Calls Tryz.prog 79 #[vp, .agg #[.int .u32 l.a, .int .i64 l.n]] Wc fun e w' => e = .returned (.bool (anyH s.pools l.a l.n)) ∧ Below Wc.heap.size Wc w') := fun Wc hW => anymP s.pools l.a l.n vp Wc (fun q hq => (hI.pa q hq).1) hL.a ((Rd.of_owns (k := 3) (enc := encH) (fun _ => rfl) hd0 B.op).below hW)
  rw [h3] at HP
  obtain ⟨b_vp, c_vp, e_vp, _, _⟩ := owns_slice B.op
  subst e_vp
  have h5 : (6 : Int) ≤ (s.pools.length : Int) := by omega
  clear B
  unfold lnC
  go_enter Tryz.func58, Tryz.ntmps58
  go_wp2
  go_region_held3 (fun w' => w'.cell? ⟨x, 0, none⟩ = some (.slice b_vp s.pools.length c_vp) ∧ w'.cell? ⟨w.heap.size, 3, none⟩ = some (.int .u32 l.a) ∧ w'.cell? ⟨w.heap.size, 4, none⟩ = some (.int .i64 l.n)) (go_keep) (first | (go_at_call 79; refine (HP.out _ (by repeat' (first | with_reducible assumption | with_reducible exact Below.refl _ _ | with_reducible apply Below.drew | with_reducible apply below_drewN | with_reducible apply Below.setCell | with_reducible apply Below.alloc | omega | (simp; done) | (simp; omega)))).mono ?_; rintro e w1 ⟨rfl, HQ⟩; have HB1 : Hid (Below (w.heap.size + 2) ((w.alloc (.cells #[.int .i64 l.v, .string l.t, .string l.o, .int .u32 l.a, .int .i64 l.n, .int .u32 l.d, .int .i64 l.g] 74)).alloc (.cells #[.int .i64 0, .slice none 0 0] 79)) w1) := bstep (by repeat' (first | with_reducible assumption | with_reducible exact Below.refl _ _ | with_reducible apply Below.drew | with_reducible apply below_drewN | with_reducible apply Below.setCell | with_reducible apply Below.alloc | omega | (simp; done) | (simp; omega))) (by simp) HQ; clear HQ; have HW1 : Hid (Below w.heap.size w w1) := (w0_below w l).trans (HB1.out.mono (by omega)); have LV1 := LIVE.out w1 HB1.out; have x0_1 := LV1.x0; have f0_1 := LV1.f0; have o_1 := LV1.o; have a_1 := LV1.a; have n_1 := LV1.n; have zx_1 := LV1.zx; have z0_1 := LV1.z0; have z1_1 := LV1.z1; have r0_1 := LV1.r0; have r1_1 := LV1.r1; have g0_1 := LV1.g0; have g1_1 := LV1.g1; clear LV1))
  all_goals (
    go_wp2_with (go_at_call 31; refine (refuse_any 6 _).mono ?_; rintro e w9 ⟨rfl, HQ⟩; have HB9 : Hid (Below (w.heap.size + 2) ((w.alloc (.cells #[.int .i64 l.v, .string l.t, .string l.o, .int .u32 l.a, .int .i64 l.n, .int .u32 l.d, .int .i64 l.g] 74)).alloc (.cells #[.int .i64 0, .slice none 0 0] 79)) w9) := bstep (by have hp := HB1.out; repeat' (first | with_reducible assumption | with_reducible exact Below.refl _ _ | with_reducible apply Below.drew | with_reducible apply below_drewN | with_reducible apply Below.setCell | with_reducible apply Below.alloc | omega | (simp; done) | (simp; omega))) (by simp) HQ; clear HQ; have HW9 : Hid (Below w.heap.size w w9) := (w0_below w l).trans (HB9.out.mono (by omega)); have LV9 := LIVE.out w9 HB9.out; have r0_9 := LV9.r0; have r1_9 := LV9.r1; have g0_9 := LV9.g0; have g1_9 := LV9.g1; have z1_9 := LV9.z1; clear LV9)
    have hR := (LIVE.out w9 HB9.out).rb
    obtain ⟨kk0, kk1⟩ := two_set hR (.int .i64 6) (.slice none 0 0)
    have hfin := res_ref (l := l) 6 H.out HB9.out
    exact bodyPost_ret (v := .agg #[.int .i64 6, .slice none 0 0]) (by simp [results, Tryz.results58, go_sem, kk0, kk1]) rfl hfin)

set_option maxRecDepth 100000 in
set_option maxHeartbeats 2000000 in
theorem pool_ok (w : World) (x : Nat) (S : Nat → Prop) (s : Bk) (l : Ln) (hI : Inv s) (hL : LnOk l) (h : BkAt w x S s) (h1 : ¬ l.n < 8) (h2 : ¬ 30 < l.n) (h3 : anyH s.pools l.a l.n = false) (h4 : ¬ 6 ≤ s.pools.length) :
    Calls Tryz.prog 58 #[.pointer (some ⟨x, 0, none⟩), .agg (lnC l)] w (Res w x S ({ s with pools := insH s.pools ⟨l.a, l.n, l.o⟩ }, okA)) := by
  obtain ⟨vp, vn, vl, c, B⟩ := h
  have hx := B.blk.lt
  have H : Hid (BkAt w x S s) := ⟨vp, vn, vl, c, B⟩
  have x0 : w.cell? ⟨x, 0, none⟩ = some vp := B.blk.cell 0
  have x1 : w.cell? ⟨x, 1, none⟩ = some vn := B.blk.cell 1
  have x2 : w.cell? ⟨x, 2, none⟩ = some vl := B.blk.cell 2
  have LIVE : Hid (∀ wk, Below (w.heap.size + 2) ((w.alloc (.cells #[.int .i64 l.v, .string l.t, .string l.o, .int .u32 l.a, .int .i64 l.n, .int .u32 l.d, .int .i64 l.g] 74)).alloc (.cells #[.int .i64 0, .slice none 0 0] 79)) wk → Live w wk x vp vn vl l) := live_of l B
  have HBA : Hid (BA w x S vp vn vl c s) := B
  have hxa : ¬ (x = w.heap.size) := by omega
  have hxb : ¬ (w.heap.size = x) := by omega
  have HP : Hid (∀ Wc, Below w.heap.size w Wc → Calls Tryz.prog 79 #[vp, .agg #[.int .u32 l.a, .int .i64 l.n]] Wc fun e w' => e = .returned (.bool (anyH s.pools l.a l.n)) ∧ Below Wc.heap.size Wc w') := fun Wc hW => anymP s.pools l.a l.n vp Wc (fun q hq => (hI.pa q hq).1) hL.a ((Rd.of_owns (k := 3) (enc := encH) (fun _ => rfl) hd0 B.op).below hW)
  rw [h3] at HP
  have HIN : Hid (∀ Wc, Below w.heap.size w Wc → Calls Tryz.prog 80 #[vp, .agg #[.int .u32 l.a, .int .i64 l.n, .string l.o]] Wc fun e w' => ∃ g cap, e = .returned (.slice (some ⟨g, 0, none⟩) (s.pools.length + 1) cap) ∧ w'.ownsRow 0 142 3 (.slice (some ⟨g, 0, none⟩) (s.pools.length + 1) cap) (s.pools.length + 1) ((insH s.pools ⟨l.a, l.n, l.o⟩).flatMap encH) ∧ Wc.grownBy w' vp.ownBlock ∧ ∀ b, (Value.slice (some ⟨g, 0, none⟩) (s.pools.length + 1) cap).ownBlock = some b → vp.ownBlock = some b ∨ Wc.heap.size ≤ b) := fun Wc hW => by
    refine (insertP s.pools ⟨l.a, l.n, l.o⟩ vp Wc (owns_below B.op hW) hI.pu (by have := hI.p; omega)).mono ?_
    rintro e w' ⟨g, cap, rfl, o1, o2, o3, o4⟩
    exact ⟨g, cap, rfl, o1, o2, fun b e => by obtain rfl : g = b := by simpa [Value.ownBlock] using e
                                              exact o3⟩
  have FIX : Hid (∀ (W : World) v, W.ownsRow 0 142 3 v (s.pools.length + 1) ((insH s.pools ⟨l.a, l.n, l.o⟩).flatMap encH) → W.ownsRow 0 142 3 v (insH s.pools ⟨l.a, l.n, l.o⟩).length ((insH s.pools ⟨l.a, l.n, l.o⟩).flatMap encH)) := fun W v q => by rw [insH_len]; exact q
  have NX : Hid (vp.ownBlock ≠ some x) := fun e => ((B.apart.1) x e).1 rfl
  have NR : Hid (∀ b, vp.ownBlock = some b → b < w.heap.size) := fun b e => (owns_lt B.op b e).1
  generalize hob : vp.ownBlock = ob at HIN NX NR
  have HOB : Hid (vp.ownBlock = ob) := hob
  clear hob
  obtain ⟨b_vp, c_vp, e_vp, _, _⟩ := owns_slice B.op
  subst e_vp
  have h5 : ¬ (6 : Int) ≤ (s.pools.length : Int) := by omega
  clear B
  unfold lnC
  go_enter Tryz.func58, Tryz.ntmps58
  go_wp2
  go_region_held3 (fun w' => w'.cell? ⟨x, 0, none⟩ = some (.slice b_vp s.pools.length c_vp) ∧ w'.cell? ⟨w.heap.size, 3, none⟩ = some (.int .u32 l.a) ∧ w'.cell? ⟨w.heap.size, 4, none⟩ = some (.int .i64 l.n)) (go_keep) (first | (go_at_call 79; refine (HP.out _ (by repeat' (first | with_reducible assumption | with_reducible exact Below.refl _ _ | with_reducible apply Below.drew | with_reducible apply below_drewN | with_reducible apply Below.setCell | with_reducible apply Below.alloc | omega | (simp; done) | (simp; omega)))).mono ?_; rintro e w1 ⟨rfl, HQ⟩; have HB1 : Hid (Below (w.heap.size + 2) ((w.alloc (.cells #[.int .i64 l.v, .string l.t, .string l.o, .int .u32 l.a, .int .i64 l.n, .int .u32 l.d, .int .i64 l.g] 74)).alloc (.cells #[.int .i64 0, .slice none 0 0] 79)) w1) := bstep (by repeat' (first | with_reducible assumption | with_reducible exact Below.refl _ _ | with_reducible apply Below.drew | with_reducible apply below_drewN | with_reducible apply Below.setCell | with_reducible apply Below.alloc | omega | (simp; done) | (simp; omega))) (by simp) HQ; clear HQ; have HW1 : Hid (Below w.heap.size w w1) := (w0_below w l).trans (HB1.out.mono (by omega)); have LV1 := LIVE.out w1 HB1.out; have x0_1 := LV1.x0; have f0_1 := LV1.f0; have o_1 := LV1.o; have a_1 := LV1.a; have n_1 := LV1.n; have zx_1 := LV1.zx; have z0_1 := LV1.z0; have z1_1 := LV1.z1; have r0_1 := LV1.r0; have r1_1 := LV1.r1; have g0_1 := LV1.g0; have g1_1 := LV1.g1; clear LV1))
  all_goals (
    go_wp2
    go_region_with (go_at_call 80; refine (HIN.out _ (by have hp := HW1.out; repeat' (first | with_reducible assumption | with_reducible exact Below.refl _ _ | with_reducible apply Below.drew | with_reducible apply below_drewN | with_reducible apply Below.setCell | with_reducible apply Below.alloc | omega | (simp; done) | (simp; omega)))).mono ?_; rintro e w2 ⟨g2, cap2, rfl, o1, o2, o3⟩; have LV2 := (LIVE.out _ (by have hp := HB1.out; repeat' (first | with_reducible assumption | with_reducible exact Below.refl _ _ | with_reducible apply Below.drew | with_reducible apply below_drewN | with_reducible apply Below.setCell | with_reducible apply Below.alloc | omega | (simp; done) | (simp; omega)))).far o2 NX.out NR.out; have HG : Hid (∃ Wc, Below w.heap.size w Wc ∧ w.heap.size + 2 ≤ Wc.heap.size ∧ Wc.grownBy w2 ob ∧ ∀ b, (Value.slice (some ⟨g2, 0, none⟩) (s.pools.length + 1) cap2).ownBlock = some b → ob = some b ∨ Wc.heap.size ≤ b) := ⟨_, by have hp := HW1.out; repeat' (first | with_reducible assumption | with_reducible exact Below.refl _ _ | with_reducible apply Below.drew | with_reducible apply below_drewN | with_reducible apply Below.setCell | with_reducible apply Below.alloc | omega | (simp; done) | (simp; omega)), by have hz := HB1.out.size; simp at hz ⊢; omega, o2, o3⟩; have HO : Hid (w2.ownsRow 0 142 3 (.slice (some ⟨g2, 0, none⟩) (s.pools.length + 1) cap2) (s.pools.length + 1) ((insH s.pools ⟨l.a, l.n, l.o⟩).flatMap encH)) := o1; have RB2 : Hid (Blk w2 (w.heap.size + 1) #[.int .i64 0, .slice none 0 0] 79) := LV2.rb; have x_2 := LV2.x0; have f_2 := LV2.f0; have a_2 := LV2.a; have n_2 := LV2.n; have o_2 := LV2.o; have zx_2 := LV2.zx; have z1_2 := LV2.z1; clear LV2 o1 o2 o3)
    all_goals (
      go_wp2_with (go_at_call 81; refine (ok_any none 0 0 _).mono ?_; rintro e w4 ⟨rfl, HQ⟩; have HQ4 : Hid (Below w2.heap.size (w2.setCell ⟨x, 0, none⟩ (.slice (some ⟨g2, 0, none⟩) (s.pools.length + 1) cap2)) w4) := HQ.mono (by simp [World.setCell]); have RB4 : Blk w4 (w.heap.size + 1) #[.int .i64 0, .slice none 0 0] 79 := (HQ4.out.block _ z1_2).trans ((Below.heap_setCell _ _ _ _ (fun e => by have e2 : w.heap.size + 1 = x := e; omega)).trans RB2.out); clear HQ; have HR4 : Hid (Blk w4 (w.heap.size + 1) #[.int .i64 0, .slice none 0 0] 79) := RB4; have r0_4 : w4.cell? ⟨w.heap.size + 1, 0, none⟩ = some (.int .i64 0) := RB4.cell 0; have r1_4 : w4.cell? ⟨w.heap.size + 1, 1, none⟩ = some (.slice none 0 0) := RB4.cell 1; have g0_4 : w4.frozen? ⟨w.heap.size + 1, 0, none⟩ = false := RB4.frozen 0; have g1_4 : w4.frozen? ⟨w.heap.size + 1, 1, none⟩ = false := RB4.frozen 1; clear RB4)
      obtain ⟨kk0, kk1⟩ := two_set HR4.out (.int .i64 0) (.slice none 0 0)
      obtain ⟨Wc, hc1, hc2, hc3, hc4⟩ := HG.out
      rw [← HOB.out] at hc3 hc4
      have hfin := res_put0 HBA.out hc1 hc2 hc3 (FIX.out _ _ HO.out) hc4 HQ4.out
      exact bodyPost_ret (v := .agg #[.int .i64 0, .slice none 0 0]) (by simp [results, Tryz.results58, go_sem, kk0, kk1]) rfl hfin))

theorem makePool_any (w : World) (x : Nat) (S : Nat → Prop) (s : Bk) (l : Ln) (hI : Inv s) (hL : LnOk l) (h : BkAt w x S s) : Calls Tryz.prog 58 #[.pointer (some ⟨x, 0, none⟩), .agg (lnC l)] w (Res w x S (doPool s l)) := by
  unfold doPool
  by_cases h1 : l.n < 8 ∨ 30 < l.n
  · rw [if_pos h1]; exact pool_range w x S s l hI hL h h1
  · rw [if_neg h1]
    have n1 : ¬ l.n < 8 := by omega
    have n2 : ¬ 30 < l.n := by omega
    by_cases h3 : anyH s.pools l.a l.n = true
    · rw [if_pos h3]; exact pool_over w x S s l hI hL h n1 n2 h3
    · rw [if_neg h3]
      by_cases h4 : 6 ≤ s.pools.length
      · rw [if_pos h4]; exact pool_limit w x S s l hI hL h n1 n2 (by simpa using h3) h4
      · rw [if_neg h4]; exact pool_ok w x S s l hI hL h n1 n2 (by simpa using h3) h4
end Go.Proofs.YtlikdnmikdldfaaGreatDoor
namespace Go.Proofs.YtlikdnmikdldfaaGreatDoor
open Go.ChangeShapes Go.WideShapes Go.ChangeAt Go.RowKit
set_option linter.unusedVariables false
set_option linter.unusedSimpArgs false

theorem bk_put1 {w W w2 : World} {x : Nat} {S : Nat → Prop} {vp vn vl : Value} {c : Nat} {s : Bk} (B : BA w x S vp vn vl c s) (hW : Below w.heap.size w W) (g2 : W.grownBy w2 vn.ownBlock) {v' : Value} {new : List Hd}
    (o : w2.ownsRow 0 166 3 v' new.length (new.flatMap encH)) (ho : ∀ b, v'.ownBlock = some b → vn.ownBlock = some b ∨ W.heap.size ≤ b) :
    ∃ S', BkAt (w2.setCell ⟨x, 1, none⟩ v') x S' { s with nets := new } ∧ (∀ b, S' b → S b ∨ w.heap.size ≤ b) ∧ Chg S w (w2.setCell ⟨x, 1, none⟩ v') := by
  obtain ⟨AP0, AP1, AP2⟩ := B.apart
  have hx := B.blk.lt
  have hWs := hW.size
  have hx2 : (w2.setCell ⟨x, 1, none⟩ v').heap.size = w2.heap.size := by simp [World.setCell]
  have hfin : ∀ b, b ≠ x → (w2.setCell ⟨x, 1, none⟩ v').heap[b]? = w2.heap[b]? := fun b hbx => Below.heap_setCell _ _ _ _ hbx
  have hold : ∀ b, S b → b ≠ x → vn.ownBlock ≠ some b → (w2.setCell ⟨x, 1, none⟩ v').heap[b]? = w.heap[b]? := fun b hS hbx hv => by
    have hb := B.sz b hS
    exact (hfin b hbx).trans ((g2.block b (by omega) (fun e => hv e.symm)).trans (hW.block b hb))
  have hbk : Blk (w2.setCell ⟨x, 1, none⟩ v') x #[vp, v', vl, .chan (some c)] 92 := by
    have b1 : Blk w2 x #[vp, vn, vl, .chan (some c)] 92 := (g2.block x (by omega) (fun e => (AP1 x e.symm).1 rfl)).trans (B.blk.below hW)
    exact b1.set 1 v'
  refine ⟨fun b => S b ∨ v'.ownBlock = some b, ⟨vp, v', vl, c, hbk, ?_, ?_, ?_, ?_, .inl B.sx, .inl B.sc, ?_, ?_, ?_, ?_⟩, ?_, ?_⟩
  · exact B.ch.same (hold c B.sc (fun e => B.xc e.symm) (fun e => (AP1 c e).2.1 rfl))
  · exact owns_same B.op fun b e => hold b (B.sp b e) (AP0 b e).1 (AP0 b e).2.2.1
  · refine owns_same o fun b e => hfin b ?_
    rintro rfl
    rcases ho _ e with q | q
    · exact (AP1 _ q).1 rfl
    · omega
  · exact owns_same B.ol fun b e => hold b (B.sl b e) (AP2 b e).1 (AP2 b e).2.2.2
  · exact fun b e => .inl (B.sp b e)
  · exact fun b e => .inr e
  · exact fun b e => .inl (B.sl b e)
  · rintro b (hb | hb)
    · have := B.sz b hb
      have := g2.size
      rw [hx2]; omega
    · have := (owns_lt o b hb).1
      rw [hx2]; omega
  · rintro b (hb | hb)
    · exact .inl hb
    · rcases ho b hb with q | q
      · exact .inl (B.sn b q)
      · exact .inr (by omega)
  · have c1 : Chg S w W := Chg.below hW
    have c2 : Chg S W w2 := Chg.grown g2 fun b e => B.sn b e
    exact (c1.trans c2 fun b e => .inl e).sets x 1 [v'] (.inl B.sx)

theorem bk_put2 {w W w2 : World} {x : Nat} {S : Nat → Prop} {vp vn vl : Value} {c : Nat} {s : Bk} (B : BA w x S vp vn vl c s) (hW : Below w.heap.size w W) (g2 : W.grownBy w2 vl.ownBlock) {v' : Value} {new : List Ls}
    (o : w2.ownsRow 0 179 2 v' new.length (new.flatMap encL)) (ho : ∀ b, v'.ownBlock = some b → vl.ownBlock = some b ∨ W.heap.size ≤ b) :
    ∃ S', BkAt (w2.setCell ⟨x, 2, none⟩ v') x S' { s with leases := new } ∧ (∀ b, S' b → S b ∨ w.heap.size ≤ b) ∧ Chg S w (w2.setCell ⟨x, 2, none⟩ v') := by
  obtain ⟨AP0, AP1, AP2⟩ := B.apart
  have hx := B.blk.lt
  have hWs := hW.size
  have hx2 : (w2.setCell ⟨x, 2, none⟩ v').heap.size = w2.heap.size := by simp [World.setCell]
  have hfin : ∀ b, b ≠ x → (w2.setCell ⟨x, 2, none⟩ v').heap[b]? = w2.heap[b]? := fun b hbx => Below.heap_setCell _ _ _ _ hbx
  have hold : ∀ b, S b → b ≠ x → vl.ownBlock ≠ some b → (w2.setCell ⟨x, 2, none⟩ v').heap[b]? = w.heap[b]? := fun b hS hbx hv => by
    have hb := B.sz b hS
    exact (hfin b hbx).trans ((g2.block b (by omega) (fun e => hv e.symm)).trans (hW.block b hb))
  have hbk : Blk (w2.setCell ⟨x, 2, none⟩ v') x #[vp, vn, v', .chan (some c)] 92 := by
    have b1 : Blk w2 x #[vp, vn, vl, .chan (some c)] 92 := (g2.block x (by omega) (fun e => (AP2 x e.symm).1 rfl)).trans (B.blk.below hW)
    exact b1.set 2 v'
  refine ⟨fun b => S b ∨ v'.ownBlock = some b, ⟨vp, vn, v', c, hbk, ?_, ?_, ?_, ?_, .inl B.sx, .inl B.sc, ?_, ?_, ?_, ?_⟩, ?_, ?_⟩
  · exact B.ch.same (hold c B.sc (fun e => B.xc e.symm) (fun e => (AP2 c e).2.1 rfl))
  · exact owns_same B.op fun b e => hold b (B.sp b e) (AP0 b e).1 (AP0 b e).2.2.2
  · exact owns_same B.on fun b e => hold b (B.sn b e) (AP1 b e).1 (AP1 b e).2.2.2
  · refine owns_same o fun b e => hfin b ?_
    rintro rfl
    rcases ho _ e with q | q
    · exact (AP2 _ q).1 rfl
    · omega
  · exact fun b e => .inl (B.sp b e)
  · exact fun b e => .inl (B.sn b e)
  · exact fun b e => .inr e
  · rintro b (hb | hb)
    · have := B.sz b hb
      have := g2.size
      rw [hx2]; omega
    · have := (owns_lt o b hb).1
      rw [hx2]; omega
  · rintro b (hb | hb)
    · exact .inl hb
    · rcases ho b hb with q | q
      · exact .inl (B.sl b q)
      · exact .inr (by omega)
  · have c1 : Chg S w W := Chg.below hW
    have c2 : Chg S W w2 := Chg.grown g2 fun b e => B.sl b e
    exact (c1.trans c2 fun b e => .inl e).sets x 2 [v'] (.inl B.sx)

theorem insL_len (l : List Ls) (h : Ls) : (insL l h).length = l.length + 1 := by
  have hle : cntL l h.a ≤ l.length := List.countP_le_length
  unfold insL; simp; omega
set_option maxRecDepth 100000 in
set_option maxHeartbeats 2000000 in
theorem addSubnet_any (w : World) (x : Nat) (S : Nat → Prop) (s : Bk) (a n : Int) (o : ByteArray) (hI : Inv s) (h : BkAt w x S s) :
    Calls Tryz.prog 88 #[.pointer (some ⟨x, 0, none⟩), .agg #[.int .u32 a, .int .i64 n], .string o] w fun e w' => e = .returned (.tuple #[]) ∧ ∃ S', BkAt w' x S' { s with nets := insH s.nets ⟨a, n, o⟩ } ∧ (∀ b, S' b → S b ∨ w.heap.size ≤ b) ∧ Chg S w w' := by
  obtain ⟨vp, vn, vl, c, B⟩ := h
  have hx := B.blk.lt
  have HBA : Hid (BA w x S vp vn vl c s) := B
  have x1 : w.cell? ⟨x, 1, none⟩ = some vn := B.blk.cell 1
  have HX : Hid (∀ W w2, Below w.heap.size w W → W.grownBy w2 vn.ownBlock → w2.cell? ⟨x, 1, none⟩ = some vn ∧ w2.frozen? ⟨x, 1, none⟩ = false) := fun W w2 hW hg => by
    have b1 : Blk w2 x #[vp, vn, vl, .chan (some c)] 92 := (hg.block x (Nat.lt_of_lt_of_le hx hW.size) (fun e => (B.apart.2.1 x e.symm).1 rfl)).trans (B.blk.below hW)
    exact ⟨b1.cell 1, b1.frozen 1⟩
  have HIN : Hid (∀ Wc, Below w.heap.size w Wc → Calls Tryz.prog 130 #[vn, .agg #[.int .u32 a, .int .i64 n, .string o]] Wc fun e w' => ∃ g cap, e = .returned (.slice (some ⟨g, 0, none⟩) (s.nets.length + 1) cap) ∧ w'.ownsRow 0 166 3 (.slice (some ⟨g, 0, none⟩) (s.nets.length + 1) cap) (s.nets.length + 1) ((insH s.nets ⟨a, n, o⟩).flatMap encH) ∧ Wc.grownBy w' vn.ownBlock ∧ ∀ b, (Value.slice (some ⟨g, 0, none⟩) (s.nets.length + 1) cap).ownBlock = some b → vn.ownBlock = some b ∨ Wc.heap.size ≤ b) := fun Wc hW => by
    refine (insertS s.nets ⟨a, n, o⟩ vn Wc (owns_below B.on hW) hI.nu (by have := hI.n; omega)).mono ?_
    rintro e w' ⟨g, cap, rfl, o1, o2, o3, o4⟩
    exact ⟨g, cap, rfl, o1, o2, fun b e => by obtain rfl : g = b := by simpa [Value.ownBlock] using e
                                              exact o3⟩
  have FIX : Hid (∀ (W : World) v, W.ownsRow 0 166 3 v (s.nets.length + 1) ((insH s.nets ⟨a, n, o⟩).flatMap encH) → W.ownsRow 0 166 3 v (insH s.nets ⟨a, n, o⟩).length ((insH s.nets ⟨a, n, o⟩).flatMap encH)) := fun W v q => by rw [insH_len]; exact q
  generalize hob : vn.ownBlock = ob at HIN HX
  have HOB : Hid (vn.ownBlock = ob) := hob
  clear hob
  obtain ⟨bq, cq, eq, _, _⟩ := owns_slice B.on
  subst eq
  clear B hI
  go_enter Tryz.func88, Tryz.ntmps88
  go_wp2
  go_region_with (go_at_call 130; refine (HIN.out _ (by repeat' (first | with_reducible assumption | with_reducible exact Below.refl _ _ | with_reducible apply Below.drew | with_reducible apply below_drewN | with_reducible apply Below.setCell | with_reducible apply Below.alloc | omega | (simp; done) | (simp; omega)))).mono ?_; rintro e w2 ⟨g2, cap2, rfl, o1, o2, o3⟩; obtain ⟨y1, y2⟩ := HX.out _ w2 (by repeat' (first | with_reducible assumption | with_reducible exact Below.refl _ _ | with_reducible apply Below.drew | with_reducible apply below_drewN | with_reducible apply Below.setCell | with_reducible apply Below.alloc | omega | (simp; done) | (simp; omega))) o2; have HG : Hid (∃ Wc, Below w.heap.size w Wc ∧ Wc.grownBy w2 ob ∧ ∀ b, (Value.slice (some ⟨g2, 0, none⟩) (s.nets.length + 1) cap2).ownBlock = some b → ob = some b ∨ Wc.heap.size ≤ b) := ⟨_, (by repeat' (first | with_reducible assumption | with_reducible exact Below.refl _ _ | with_reducible apply Below.drew | with_reducible apply below_drewN | with_reducible apply Below.setCell | with_reducible apply Below.alloc | omega | (simp; done) | (simp; omega))), o2, o3⟩; have HO : Hid (w2.ownsRow 0 166 3 (.slice (some ⟨g2, 0, none⟩) (s.nets.length + 1) cap2) (s.nets.length + 1) ((insH s.nets ⟨a, n, o⟩).flatMap encH)) := o1; clear o1 o2 o3)
  all_goals (
    go_wp2
    first | go_end0 | refine bodyPost_ret (results_none rfl _ _ _) rfl ?_
    obtain ⟨Wc, hc1, hc3, hc4⟩ := HG.out
    rw [← HOB.out] at hc3 hc4
    exact ⟨rfl, bk_put1 HBA.out hc1 hc3 (FIX.out _ _ HO.out) hc4⟩)
set_option maxRecDepth 100000 in
set_option maxHeartbeats 2000000 in
theorem addLease_any (w : World) (x : Nat) (S : Nat → Prop) (s : Bk) (a : Int) (o : ByteArray) (hI : Inv s) (h : BkAt w x S s) :
    Calls Tryz.prog 96 #[.pointer (some ⟨x, 0, none⟩), .int .u32 a, .string o] w fun e w' => e = .returned (.tuple #[]) ∧ ∃ S', BkAt w' x S' { s with leases := insL s.leases ⟨a, o⟩ } ∧ (∀ b, S' b → S b ∨ w.heap.size ≤ b) ∧ Chg S w w' := by
  obtain ⟨vp, vn, vl, c, B⟩ := h
  have hx := B.blk.lt
  have hk : ∀ q : Ls, (encL q).length = 2 := fun _ => rfl
  have HBA : Hid (BA w x S vp vn vl c s) := B
  have x2 : w.cell? ⟨x, 2, none⟩ = some vl := B.blk.cell 2
  have HX : Hid (∀ W w2, Below w.heap.size w W → W.grownBy w2 vl.ownBlock → w2.cell? ⟨x, 2, none⟩ = some vl ∧ w2.frozen? ⟨x, 2, none⟩ = false) := fun W w2 hW hg => by
    have b1 : Blk w2 x #[vp, vn, vl, .chan (some c)] 92 := (hg.block x (Nat.lt_of_lt_of_le hx hW.size) (fun e => (B.apart.2.2 x e.symm).1 rfl)).trans (B.blk.below hW)
    exact ⟨b1.cell 2, b1.frozen 2⟩
  have HF : Hid (Calls Tryz.prog 101 #[.pointer (some ⟨x, 0, none⟩), .int .u32 a] w fun e w' => e = .returned (.tuple #[.int .i64 (cntL s.leases a : Nat), .bool (hasL s.leases a)]) ∧ Below w.heap.size w w') := findL_any x s.leases a vl w x2 (Rd.of_owns hk ls0 B.ol) (by have := hI.l; omega) hI.lu
  have hle : cntL s.leases a ≤ s.leases.length := List.countP_le_length
  have hob : ∀ b, vl.ownBlock = some b → b < w.heap.size := fun b e => (owns_lt B.ol b e).1
  have HIN : Hid (∀ Wc vb, Below w.heap.size w Wc → w.heap.size ≤ vb → Blk Wc vb #[.int .u32 a, .string o] 179 → Calls Tryz.prog 137 #[vl, .int .i64 (cntL s.leases a : Nat), .slice (some ⟨vb, 0, none⟩) 1 1] Wc fun e w' => ∃ g cap, e = .returned (.slice (some ⟨g, 0, none⟩) (s.leases.length + 1) cap) ∧ w'.ownsRow 0 179 2 (.slice (some ⟨g, 0, none⟩) (s.leases.length + 1) cap) (s.leases.length + 1) ((insL s.leases ⟨a, o⟩).flatMap encL) ∧ Wc.grownBy w' vl.ownBlock ∧ ∀ b, (Value.slice (some ⟨g, 0, none⟩) (s.leases.length + 1) cap).ownBlock = some b → vl.ownBlock = some b ∨ Wc.heap.size ≤ b) := fun Wc vb hW hvb hb => by
    refine (insrL (s.leases.flatMap encL) (encL ⟨a, o⟩) s.leases.length (cntL s.leases a) vl vb Wc (owns_below B.ol hW) hle (by have := hI.l; omega) rfl hb (fun e => by have := hob vb e; omega) (oneF ⟨a, o⟩) (oneL s.leases)).mono ?_
    rintro e w' ⟨g, cap, rfl, o1, o2, o3, o4⟩
    refine ⟨g, cap, rfl, ?_, o2, fun b e => by obtain rfl : g = b := by simpa [Value.ownBlock] using e
                                               exact o3⟩
    rw [take_flat hk, drop_flat hk] at o1
    unfold insL
    rw [List.flatMap_append, List.flatMap_cons, ← List.append_assoc]
    exact o1
  have FIX : Hid (∀ (W : World) v, W.ownsRow 0 179 2 v (s.leases.length + 1) ((insL s.leases ⟨a, o⟩).flatMap encL) → W.ownsRow 0 179 2 v (insL s.leases ⟨a, o⟩).length ((insL s.leases ⟨a, o⟩).flatMap encL)) := fun W v q => by rw [insL_len]; exact q
  clear hob
  generalize hob : vl.ownBlock = ob at HIN HX
  have HOB : Hid (vl.ownBlock = ob) := hob
  clear hob
  generalize cntL s.leases a = cn at HF HIN hle
  generalize hasL s.leases a = fb at HF
  obtain ⟨bq, cq, eq, _, _⟩ := owns_slice B.ol
  subst eq
  clear B hI
  go_enter Tryz.func96, Tryz.ntmps96
  go_wp2_with (first | (go_at_call 101; refine HF.out.mono ?_; rintro e w1 ⟨rfl, hb1⟩; have HB1 : Hid (Below w.heap.size w w1) := hb1; have y0 : w1.cell? ⟨x, 2, none⟩ = some (.slice bq s.leases.length cq) := (hb1.cell (p := ⟨x, 2, none⟩) hx).trans x2; clear hb1) | (go_at_call 137; refine (HIN.out _ _ (Below.alloc HB1.out HB1.out.size _) HB1.out.size (Blk.new w1 _ _)).mono ?_; rintro e w2 ⟨g2, cap2, rfl, o1, o2, o3⟩; obtain ⟨y1, y2⟩ := HX.out _ w2 (Below.alloc HB1.out HB1.out.size _) o2; have HG : Hid (∃ Wc, Below w.heap.size w Wc ∧ Wc.grownBy w2 ob ∧ ∀ b, (Value.slice (some ⟨g2, 0, none⟩) (s.leases.length + 1) cap2).ownBlock = some b → ob = some b ∨ Wc.heap.size ≤ b) := ⟨_, Below.alloc HB1.out HB1.out.size _, o2, o3⟩; have HO : Hid (w2.ownsRow 0 179 2 (.slice (some ⟨g2, 0, none⟩) (s.leases.length + 1) cap2) (s.leases.length + 1) ((insL s.leases ⟨a, o⟩).flatMap encL)) := o1; clear o1 o2 o3))
  first | go_end0 | refine bodyPost_ret (results_none rfl _ _ _) rfl ?_
  obtain ⟨Wc, hc1, hc3, hc4⟩ := HG.out
  rw [← HOB.out] at hc3 hc4
  exact ⟨rfl, bk_put2 HBA.out hc1 hc3 (FIX.out _ _ HO.out) hc4⟩
end Go.Proofs.YtlikdnmikdldfaaGreatDoor
namespace Go.Proofs.YtlikdnmikdldfaaGreatDoor
open Go.ChangeShapes Go.WideShapes Go.ChangeAt Go.RowKit
set_option linter.unusedVariables false
set_option linter.unusedSimpArgs false

theorem res_new {w Wc w3 w4 : World} {x : Nat} {S S3 : Nat → Prop} {s' : Bk} (hS : ∀ b, S b → b < w.heap.size) (hW : Below w.heap.size w Wc) (hz : w.heap.size + 2 ≤ Wc.heap.size) (A : BkAt w3 x S3 s') (hs : ∀ b, S3 b → S b ∨ Wc.heap.size ≤ b) (hc : Chg S Wc w3) (h4 : Below w3.heap.size w3 w4) (ans : An) (he : ans.e = 0) (va : Value)
    (hrd : ∀ W', (∀ b, b ≠ w.heap.size + 1 → W'.heap[b]? = w4.heap[b]?) → w4.heap.size ≤ W'.heap.size → Rd 1 encS ⟨#[]⟩ W' va ans.s) :
    Res w x S (s', ans) (.returned (.agg #[.int .i64 0, va])) ((w4.setCell ⟨w.heap.size + 1, 0, none⟩ (.int .i64 0)).setCell ⟨w.heap.size + 1, 1, none⟩ va) := by
  have s1 := sets_other (w.heap.size + 1) [.int .i64 0, va] 0 w4
  have hsz : ((w4.setCell ⟨w.heap.size + 1, 0, none⟩ (.int .i64 0)).setCell ⟨w.heap.size + 1, 1, none⟩ va).heap.size = w4.heap.size := s1.2.2.2.1
  obtain ⟨vp, vn, vl, c, B⟩ := A
  refine ⟨va, S3, by rw [he]; rfl, hrd _ (fun b hb => s1.2.2.2.2 b hb) (by rw [hsz]; exact Nat.le_refl _), ⟨vp, vn, vl, c, B.same (fun b hb => ?_) (by rw [hsz]; exact h4.size)⟩, fun b hb => ?_, ?_⟩
  · have hb3 := B.sz b hb
    refine (s1.2.2.2.2 b ?_).trans (h4.block b hb3)
    rintro rfl
    rcases hs _ hb with q | q
    · have := hS _ q; omega
    · omega
  · rcases hs b hb with q | q
    · exact .inl q
    · exact .inr (by omega)
  · have c1 : Chg S w Wc := Chg.below hW
    exact (((c1.trans hc fun b e => .inl e).trans (Chg.below h4 : Chg S w3 w4) fun b e => .inl e)).sets (w.heap.size + 1) 0 [.int .i64 0, va] (.inr (by omega))
theorem rd_one {w : World} {M : Nat} {t : ByteArray} (hM : M < w.heap.size) (h : w.cell? ⟨M, 0, none⟩ = some (.string t)) : Rd 1 encS ⟨#[]⟩ w (.slice (some ⟨M, 0, none⟩) 1 1) [t] := by
  refine ⟨_, 1, rfl, Nat.le_refl _, by unfold maxLen; omega, fun _ => ⟨M, rfl, hM, fun j hj i u hu => ?_⟩⟩
  have hj0 : j = 0 := by simp at hj; omega
  subst hj0
  match i, hu with
  | 0, hu => simp [encS] at hu; rw [← hu]; exact h
  | i + 1, hu => simp [encS] at hu

set_option maxRecDepth 100000 in
set_option maxHeartbeats 2000000 in
theorem block_range (w : World) (x : Nat) (S : Nat → Prop) (s : Bk) (l : Ln) (hI : Inv s) (hL : LnOk l) (h : BkAt w x S s) (h1 : l.n < 22) :
    Calls Tryz.prog 61 #[.pointer (some ⟨x, 0, none⟩), .agg (lnC l)] w (Res w x S (s, ref 4)) := by
  obtain ⟨vp, vn, vl, c, B⟩ := h
  have hx := B.blk.lt
  have H : Hid (BkAt w x S s) := ⟨vp, vn, vl, c, B⟩
  have x0 : w.cell? ⟨x, 0, none⟩ = some vp := B.blk.cell 0
  have x1 : w.cell? ⟨x, 1, none⟩ = some vn := B.blk.cell 1
  have x2 : w.cell? ⟨x, 2, none⟩ = some vl := B.blk.cell 2
  have LIVE : Hid (∀ wk, Below (w.heap.size + 2) ((w.alloc (.cells #[.int .i64 l.v, .string l.t, .string l.o, .int .u32 l.a, .int .i64 l.n, .int .u32 l.d, .int .i64 l.g] 74)).alloc (.cells #[.int .i64 0, .slice none 0 0] 79)) wk → Live w wk x vp vn vl l) := live_of l B
  have HBA : Hid (BA w x S vp vn vl c s) := B
  have hxa : ¬ (x = w.heap.size) := by omega
  have hxb : ¬ (w.heap.size = x) := by omega
  clear B
  unfold lnC
  go_enter Tryz.func61, Tryz.ntmps61
  go_wp2_with (go_at_call 31; refine (refuse_any 4 _).mono ?_; rintro e w9 ⟨rfl, HQ⟩; have HB9 : Hid (Below (w.heap.size + 2) ((w.alloc (.cells #[.int .i64 l.v, .string l.t, .string l.o, .int .u32 l.a, .int .i64 l.n, .int .u32 l.d, .int .i64 l.g] 74)).alloc (.cells #[.int .i64 0, .slice none 0 0] 79)) w9) := bstep (by repeat' (first | with_reducible assumption | with_reducible exact Below.refl _ _ | with_reducible apply Below.drew | with_reducible apply below_drewN | with_reducible apply Below.setCell | with_reducible apply Below.alloc | omega | (simp; done) | (simp; omega))) (by simp) HQ; clear HQ; have HW9 : Hid (Below w.heap.size w w9) := (w0_below w l).trans (HB9.out.mono (by omega)); have LV9 := LIVE.out w9 HB9.out; have r0_9 := LV9.r0; have r1_9 := LV9.r1; have g0_9 := LV9.g0; have g1_9 := LV9.g1; have z1_9 := LV9.z1; clear LV9)
  have hR := (LIVE.out w9 HB9.out).rb
  obtain ⟨kk0, kk1⟩ := two_set hR (.int .i64 4) (.slice none 0 0)
  have hfin := res_ref (l := l) 4 H.out HB9.out
  exact bodyPost_ret (v := .agg #[.int .i64 4, .slice none 0 0]) (by simp [results, Tryz.results61, go_sem, kk0, kk1]) rfl hfin

set_option maxRecDepth 100000 in
set_option maxHeartbeats 2000000 in
theorem block_pool (w : World) (x : Nat) (S : Nat → Prop) (s : Bk) (l : Ln) (hI : Inv s) (hL : LnOk l) (h : BkAt w x S s) (h1 : ¬ l.n < 22) (h2 : spanH s.pools l.a l.n = -1) :
    Calls Tryz.prog 61 #[.pointer (some ⟨x, 0, none⟩), .agg (lnC l)] w (Res w x S (s, ref 7)) := by
  obtain ⟨vp, vn, vl, c, B⟩ := h
  have hx := B.blk.lt
  have H : Hid (BkAt w x S s) := ⟨vp, vn, vl, c, B⟩
  have x0 : w.cell? ⟨x, 0, none⟩ = some vp := B.blk.cell 0
  have x1 : w.cell? ⟨x, 1, none⟩ = some vn := B.blk.cell 1
  have x2 : w.cell? ⟨x, 2, none⟩ = some vl := B.blk.cell 2
  have LIVE : Hid (∀ wk, Below (w.heap.size + 2) ((w.alloc (.cells #[.int .i64 l.v, .string l.t, .string l.o, .int .u32 l.a, .int .i64 l.n, .int .u32 l.d, .int .i64 l.g] 74)).alloc (.cells #[.int .i64 0, .slice none 0 0] 79)) wk → Live w wk x vp vn vl l) := live_of l B
  have HBA : Hid (BA w x S vp vn vl c s) := B
  have hxa : ¬ (x = w.heap.size) := by omega
  have hxb : ¬ (w.heap.size = x) := by omega
  have HP : Hid (∀ Wc, Below w.heap.size w Wc → Calls Tryz.prog 90 #[vp, .agg #[.int .u32 l.a, .int .i64 l.n]] Wc fun e w' => e = .returned (.int .i64 (spanH s.pools l.a l.n)) ∧ Below Wc.heap.size Wc w') := fun Wc hW => fspanP s.pools l.a l.n vp Wc (fun q hq => (hI.pa q hq).1) hL.a ((Rd.of_owns (k := 3) (enc := encH) (fun _ => rfl) hd0 B.op).below hW)
  rw [h2] at HP
  obtain ⟨bp, cp, ep, _, _⟩ := owns_slice B.op
  subst ep
  clear B
  unfold lnC
  go_enter Tryz.func61, Tryz.ntmps61
  go_wp2
  go_region_held3 (fun w' => w'.cell? ⟨x, 0, none⟩ = some (.slice bp s.pools.length cp) ∧ w'.cell? ⟨w.heap.size, 3, none⟩ = some (.int .u32 l.a) ∧ w'.cell? ⟨w.heap.size, 4, none⟩ = some (.int .i64 l.n)) (go_keep) (first | (go_at_call 90; refine (HP.out _ (by repeat' (first | with_reducible assumption | with_reducible exact Below.refl _ _ | with_reducible apply Below.drew | with_reducible apply below_drewN | with_reducible apply Below.setCell | with_reducible apply Below.alloc | omega | (simp; done) | (simp; omega)))).mono ?_; rintro e w1 ⟨rfl, HQ⟩; have HB1 : Hid (Below (w.heap.size + 2) ((w.alloc (.cells #[.int .i64 l.v, .string l.t, .string l.o, .int .u32 l.a, .int .i64 l.n, .int .u32 l.d, .int .i64 l.g] 74)).alloc (.cells #[.int .i64 0, .slice none 0 0] 79)) w1) := bstep (by repeat' (first | with_reducible assumption | with_reducible exact Below.refl _ _ | with_reducible apply Below.drew | with_reducible apply below_drewN | with_reducible apply Below.setCell | with_reducible apply Below.alloc | omega | (simp; done) | (simp; omega))) (by simp) HQ; clear HQ; have HW1 : Hid (Below w.heap.size w w1) := (w0_below w l).trans (HB1.out.mono (by omega)); have LV1 := LIVE.out w1 HB1.out; have x0_1 := LV1.x0; have x1_1 := LV1.x1; have o_1 := LV1.o; have a_1 := LV1.a; have n_1 := LV1.n; have zx_1 := LV1.zx; have z0_1 := LV1.z0; have z1_1 := LV1.z1; have r0_1 := LV1.r0; have r1_1 := LV1.r1; have g0_1 := LV1.g0; have g1_1 := LV1.g1; clear LV1))
  all_goals (
    go_wp2_with (go_at_call 31; refine (refuse_any 7 _).mono ?_; rintro e w9 ⟨rfl, HQ⟩; have HB9 : Hid (Below (w.heap.size + 2) ((w.alloc (.cells #[.int .i64 l.v, .string l.t, .string l.o, .int .u32 l.a, .int .i64 l.n, .int .u32 l.d, .int .i64 l.g] 74)).alloc (.cells #[.int .i64 0, .slice none 0 0] 79)) w9) := bstep (by have hp := HB1.out; repeat' (first | with_reducible assumption | with_reducible exact Below.refl _ _ | with_reducible apply Below.drew | with_reducible apply below_drewN | with_reducible apply Below.setCell | with_reducible apply Below.alloc | omega | (simp; done) | (simp; omega))) (by simp) HQ; clear HQ; have HW9 : Hid (Below w.heap.size w w9) := (w0_below w l).trans (HB9.out.mono (by omega)); have LV9 := LIVE.out w9 HB9.out; have r0_9 := LV9.r0; have r1_9 := LV9.r1; have g0_9 := LV9.g0; have g1_9 := LV9.g1; have z1_9 := LV9.z1; clear LV9)
    have hR := (LIVE.out w9 HB9.out).rb
    obtain ⟨kk0, kk1⟩ := two_set hR (.int .i64 7) (.slice none 0 0)
    have hfin := res_ref (l := l) 7 H.out HB9.out
    exact bodyPost_ret (v := .agg #[.int .i64 7, .slice none 0 0]) (by simp [results, Tryz.results61, go_sem, kk0, kk1]) rfl hfin)

set_option maxRecDepth 100000 in
set_option maxHeartbeats 2000000 in
theorem block_over (w : World) (x : Nat) (S : Nat → Prop) (s : Bk) (l : Ln) (hI : Inv s) (hL : LnOk l) (h : BkAt w x S s) (h1 : ¬ l.n < 22) (k : Nat) (h2 : spanH s.pools l.a l.n = k) (h3 : anyH s.nets l.a l.n = true) :
    Calls Tryz.prog 61 #[.pointer (some ⟨x, 0, none⟩), .agg (lnC l)] w (Res w x S (s, ref 5)) := by
  obtain ⟨vp, vn, vl, c, B⟩ := h
  have hx := B.blk.lt
  have H : Hid (BkAt w x S s) := ⟨vp, vn, vl, c, B⟩
  have x0 : w.cell? ⟨x, 0, none⟩ = some vp := B.blk.cell 0
  have x1 : w.cell? ⟨x, 1, none⟩ = some vn := B.blk.cell 1
  have x2 : w.cell? ⟨x, 2, none⟩ = some vl := B.blk.cell 2
  have LIVE : Hid (∀ wk, Below (w.heap.size + 2) ((w.alloc (.cells #[.int .i64 l.v, .string l.t, .string l.o, .int .u32 l.a, .int .i64 l.n, .int .u32 l.d, .int .i64 l.g] 74)).alloc (.cells #[.int .i64 0, .slice none 0 0] 79)) wk → Live w wk x vp vn vl l) := live_of l B
  have HBA : Hid (BA w x S vp vn vl c s) := B
  have hxa : ¬ (x = w.heap.size) := by omega
  have hxb : ¬ (w.heap.size = x) := by omega
  have HP : Hid (∀ Wc, Below w.heap.size w Wc → Calls Tryz.prog 90 #[vp, .agg #[.int .u32 l.a, .int .i64 l.n]] Wc fun e w' => e = .returned (.int .i64 (spanH s.pools l.a l.n)) ∧ Below Wc.heap.size Wc w') := fun Wc hW => fspanP s.pools l.a l.n vp Wc (fun q hq => (hI.pa q hq).1) hL.a ((Rd.of_owns (k := 3) (enc := encH) (fun _ => rfl) hd0 B.op).below hW)
  rw [h2] at HP
  have hkn : ¬ ((k : Int) < 0) := by omega
  have HN : Hid (∀ Wc, Below w.heap.size w Wc → Calls Tryz.prog 91 #[vn, .agg #[.int .u32 l.a, .int .i64 l.n]] Wc fun e w' => e = .returned (.bool (anyH s.nets l.a l.n)) ∧ Below Wc.heap.size Wc w') := fun Wc hW => anymS s.nets l.a l.n vn Wc (fun q hq => (hI.na q hq).1) hL.a ((Rd.of_owns (k := 3) (enc := encH) (fun _ => rfl) hd0 B.on).below hW)
  rw [h3] at HN
  obtain ⟨bp, cp, ep, _, _⟩ := owns_slice B.op
  subst ep
  obtain ⟨bn, cn, en, _, _⟩ := owns_slice B.on
  subst en
  clear B
  unfold lnC
  go_enter Tryz.func61, Tryz.ntmps61
  go_wp2
  go_region_held3 (fun w' => w'.cell? ⟨x, 0, none⟩ = some (.slice bp s.pools.length cp) ∧ w'.cell? ⟨w.heap.size, 3, none⟩ = some (.int .u32 l.a) ∧ w'.cell? ⟨w.heap.size, 4, none⟩ = some (.int .i64 l.n)) (go_keep) (first | (go_at_call 90; refine (HP.out _ (by repeat' (first | with_reducible assumption | with_reducible exact Below.refl _ _ | with_reducible apply Below.drew | with_reducible apply below_drewN | with_reducible apply Below.setCell | with_reducible apply Below.alloc | omega | (simp; done) | (simp; omega)))).mono ?_; rintro e w1 ⟨rfl, HQ⟩; have HB1 : Hid (Below (w.heap.size + 2) ((w.alloc (.cells #[.int .i64 l.v, .string l.t, .string l.o, .int .u32 l.a, .int .i64 l.n, .int .u32 l.d, .int .i64 l.g] 74)).alloc (.cells #[.int .i64 0, .slice none 0 0] 79)) w1) := bstep (by repeat' (first | with_reducible assumption | with_reducible exact Below.refl _ _ | with_reducible apply Below.drew | with_reducible apply below_drewN | with_reducible apply Below.setCell | with_reducible apply Below.alloc | omega | (simp; done) | (simp; omega))) (by simp) HQ; clear HQ; have HW1 : Hid (Below w.heap.size w w1) := (w0_below w l).trans (HB1.out.mono (by omega)); have LV1 := LIVE.out w1 HB1.out; have x0_1 := LV1.x0; have x1_1 := LV1.x1; have o_1 := LV1.o; have a_1 := LV1.a; have n_1 := LV1.n; have zx_1 := LV1.zx; have z0_1 := LV1.z0; have z1_1 := LV1.z1; have r0_1 := LV1.r0; have r1_1 := LV1.r1; have g0_1 := LV1.g0; have g1_1 := LV1.g1; clear LV1))
  all_goals (
    go_wp2
    go_region_held3 (fun w' => w'.cell? ⟨x, 1, none⟩ = some (.slice bn s.nets.length cn) ∧ w'.cell? ⟨w.heap.size, 3, none⟩ = some (.int .u32 l.a) ∧ w'.cell? ⟨w.heap.size, 4, none⟩ = some (.int .i64 l.n)) (go_keep) (first | (go_at_call 91; refine (HN.out _ (by have hp := HW1.out; repeat' (first | with_reducible assumption | with_reducible exact Below.refl _ _ | with_reducible apply Below.drew | with_reducible apply below_drewN | with_reducible apply Below.setCell | with_reducible apply Below.alloc | omega | (simp; done) | (simp; omega)))).mono ?_; rintro e w2 ⟨rfl, HQ⟩; have HB2 : Hid (Below (w.heap.size + 2) ((w.alloc (.cells #[.int .i64 l.v, .string l.t, .string l.o, .int .u32 l.a, .int .i64 l.n, .int .u32 l.d, .int .i64 l.g] 74)).alloc (.cells #[.int .i64 0, .slice none 0 0] 79)) w2) := bstep (by have hp := HB1.out; repeat' (first | with_reducible assumption | with_reducible exact Below.refl _ _ | with_reducible apply Below.drew | with_reducible apply below_drewN | with_reducible apply Below.setCell | with_reducible apply Below.alloc | omega | (simp; done) | (simp; omega))) (by simp) HQ; clear HQ; have HW2 : Hid (Below w.heap.size w w2) := (w0_below w l).trans (HB2.out.mono (by omega)); have LV2 := LIVE.out w2 HB2.out; have x1_2 := LV2.x1; have o_2 := LV2.o; have a_2 := LV2.a; have n_2 := LV2.n; have zx_2 := LV2.zx; have z0_2 := LV2.z0; have z1_2 := LV2.z1; have r0_2 := LV2.r0; have r1_2 := LV2.r1; have g0_2 := LV2.g0; have g1_2 := LV2.g1; clear LV2))
    all_goals (
      go_wp2_with (go_at_call 31; refine (refuse_any 5 _).mono ?_; rintro e w9 ⟨rfl, HQ⟩; have HB9 : Hid (Below (w.heap.size + 2) ((w.alloc (.cells #[.int .i64 l.v, .string l.t, .string l.o, .int .u32 l.a, .int .i64 l.n, .int .u32 l.d, .int .i64 l.g] 74)).alloc (.cells #[.int .i64 0, .slice none 0 0] 79)) w9) := bstep (by have hp := HB2.out; repeat' (first | with_reducible assumption | with_reducible exact Below.refl _ _ | with_reducible apply Below.drew | with_reducible apply below_drewN | with_reducible apply Below.setCell | with_reducible apply Below.alloc | omega | (simp; done) | (simp; omega))) (by simp) HQ; clear HQ; have HW9 : Hid (Below w.heap.size w w9) := (w0_below w l).trans (HB9.out.mono (by omega)); have LV9 := LIVE.out w9 HB9.out; have r0_9 := LV9.r0; have r1_9 := LV9.r1; have g0_9 := LV9.g0; have g1_9 := LV9.g1; have z1_9 := LV9.z1; clear LV9)
      have hR := (LIVE.out w9 HB9.out).rb
      obtain ⟨kk0, kk1⟩ := two_set hR (.int .i64 5) (.slice none 0 0)
      have hfin := res_ref (l := l) 5 H.out HB9.out
      exact bodyPost_ret (v := .agg #[.int .i64 5, .slice none 0 0]) (by simp [results, Tryz.results61, go_sem, kk0, kk1]) rfl hfin))

set_option maxRecDepth 100000 in
set_option maxHeartbeats 2000000 in
theorem block_limit (w : World) (x : Nat) (S : Nat → Prop) (s : Bk) (l : Ln) (hI : Inv s) (hL : LnOk l) (h : BkAt w x S s) (h1 : ¬ l.n < 22) (k : Nat) (h2 : spanH s.pools l.a l.n = k) (h3 : anyH s.nets l.a l.n = false) (h4 : 24 ≤ s.nets.length) :
    Calls Tryz.prog 61 #[.pointer (some ⟨x, 0, none⟩), .agg (lnC l)] w (Res w x S (s, ref 6)) := by
  obtain ⟨vp, vn, vl, c, B⟩ := h
  have hx := B.blk.lt
  have H : Hid (BkAt w x S s) := ⟨vp, vn, vl, c, B⟩
  have x0 : w.cell? ⟨x, 0, none⟩ = some vp := B.blk.cell 0
  have x1 : w.cell? ⟨x, 1, none⟩ = some vn := B.blk.cell 1
  have x2 : w.cell? ⟨x, 2, none⟩ = some vl := B.blk.cell 2
  have LIVE : Hid (∀ wk, Below (w.heap.size + 2) ((w.alloc (.cells #[.int .i64 l.v, .string l.t, .string l.o, .int .u32 l.a, .int .i64 l.n, .int .u32 l.d, .int .i64 l.g] 74)).alloc (.cells #[.int .i64 0, .slice none 0 0] 79)) wk → Live w wk x vp vn vl l) := live_of l B
  have HBA : Hid (BA w x S vp vn vl c s) := B
  have hxa : ¬ (x = w.heap.size) := by omega
  have hxb : ¬ (w.heap.size = x) := by omega
  have HP : Hid (∀ Wc, Below w.heap.size w Wc → Calls Tryz.prog 90 #[vp, .agg #[.int .u32 l.a, .int .i64 l.n]] Wc fun e w' => e = .returned (.int .i64 (spanH s.pools l.a l.n)) ∧ Below Wc.heap.size Wc w') := fun Wc hW => fspanP s.pools l.a l.n vp Wc (fun q hq => (hI.pa q hq).1) hL.a ((Rd.of_owns (k := 3) (enc := encH) (fun _ => rfl) hd0 B.op).below hW)
  rw [h2] at HP
  have hkn : ¬ ((k : Int) < 0) := by omega
  have HN : Hid (∀ Wc, Below w.heap.size w Wc → Calls Tryz.prog 91 #[vn, .agg #[.int .u32 l.a, .int .i64 l.n]] Wc fun e w' => e = .returned (.bool (anyH s.nets l.a l.n)) ∧ Below Wc.heap.size Wc w') := fun Wc hW => anymS s.nets l.a l.n vn Wc (fun q hq => (hI.na q hq).1) hL.a ((Rd.of_owns (k := 3) (enc := encH) (fun _ => rfl) hd0 B.on).below hW)
  rw [h3] at HN
  obtain ⟨bp, cp, ep, _, _⟩ := owns_slice B.op
  subst ep
  obtain ⟨bn, cn, en, _, _⟩ := owns_slice B.on
  subst en
  have h5 : (24 : Int) ≤ (s.nets.length : Int) := by omega
  clear B
  unfold lnC
  go_enter Tryz.func61, Tryz.ntmps61
  go_wp2
  go_region_held3 (fun w' => w'.cell? ⟨x, 0, none⟩ = some (.slice bp s.pools.length cp) ∧ w'.cell? ⟨w.heap.size, 3, none⟩ = some (.int .u32 l.a) ∧ w'.cell? ⟨w.heap.size, 4, none⟩ = some (.int .i64 l.n)) (go_keep) (first | (go_at_call 90; refine (HP.out _ (by repeat' (first | with_reducible assumption | with_reducible exact Below.refl _ _ | with_reducible apply Below.drew | with_reducible apply below_drewN | with_reducible apply Below.setCell | with_reducible apply Below.alloc | omega | (simp; done) | (simp; omega)))).mono ?_; rintro e w1 ⟨rfl, HQ⟩; have HB1 : Hid (Below (w.heap.size + 2) ((w.alloc (.cells #[.int .i64 l.v, .string l.t, .string l.o, .int .u32 l.a, .int .i64 l.n, .int .u32 l.d, .int .i64 l.g] 74)).alloc (.cells #[.int .i64 0, .slice none 0 0] 79)) w1) := bstep (by repeat' (first | with_reducible assumption | with_reducible exact Below.refl _ _ | with_reducible apply Below.drew | with_reducible apply below_drewN | with_reducible apply Below.setCell | with_reducible apply Below.alloc | omega | (simp; done) | (simp; omega))) (by simp) HQ; clear HQ; have HW1 : Hid (Below w.heap.size w w1) := (w0_below w l).trans (HB1.out.mono (by omega)); have LV1 := LIVE.out w1 HB1.out; have x0_1 := LV1.x0; have x1_1 := LV1.x1; have o_1 := LV1.o; have a_1 := LV1.a; have n_1 := LV1.n; have zx_1 := LV1.zx; have z0_1 := LV1.z0; have z1_1 := LV1.z1; have r0_1 := LV1.r0; have r1_1 := LV1.r1; have g0_1 := LV1.g0; have g1_1 := LV1.g1; clear LV1))
  all_goals (
    go_wp2
    go_region_held3 (fun w' => w'.cell? ⟨x, 1, none⟩ = some (.slice bn s.nets.length cn) ∧ w'.cell? ⟨w.heap.size, 3, none⟩ = some (.int .u32 l.a) ∧ w'.cell? ⟨w.heap.size, 4, none⟩ = some (.int .i64 l.n)) (go_keep) (first | (go_at_call 91; refine (HN.out _ (by have hp := HW1.out; repeat' (first | with_reducible assumption | with_reducible exact Below.refl _ _ | with_reducible apply Below.drew | with_reducible apply below_drewN | with_reducible apply Below.setCell | with_reducible apply Below.alloc | omega | (simp; done) | (simp; omega)))).mono ?_; rintro e w2 ⟨rfl, HQ⟩; have HB2 : Hid (Below (w.heap.size + 2) ((w.alloc (.cells #[.int .i64 l.v, .string l.t, .string l.o, .int .u32 l.a, .int .i64 l.n, .int .u32 l.d, .int .i64 l.g] 74)).alloc (.cells #[.int .i64 0, .slice none 0 0] 79)) w2) := bstep (by have hp := HB1.out; repeat' (first | with_reducible assumption | with_reducible exact Below.refl _ _ | with_reducible apply Below.drew | with_reducible apply below_drewN | with_reducible apply Below.setCell | with_reducible apply Below.alloc | omega | (simp; done) | (simp; omega))) (by simp) HQ; clear HQ; have HW2 : Hid (Below w.heap.size w w2) := (w0_below w l).trans (HB2.out.mono (by omega)); have LV2 := LIVE.out w2 HB2.out; have x1_2 := LV2.x1; have o_2 := LV2.o; have a_2 := LV2.a; have n_2 := LV2.n; have zx_2 := LV2.zx; have z0_2 := LV2.z0; have z1_2 := LV2.z1; have r0_2 := LV2.r0; have r1_2 := LV2.r1; have g0_2 := LV2.g0; have g1_2 := LV2.g1; clear LV2))
    all_goals (
      go_wp2_with (go_at_call 31; refine (refuse_any 6 _).mono ?_; rintro e w9 ⟨rfl, HQ⟩; have HB9 : Hid (Below (w.heap.size + 2) ((w.alloc (.cells #[.int .i64 l.v, .string l.t, .string l.o, .int .u32 l.a, .int .i64 l.n, .int .u32 l.d, .int .i64 l.g] 74)).alloc (.cells #[.int .i64 0, .slice none 0 0] 79)) w9) := bstep (by have hp := HB2.out; repeat' (first | with_reducible assumption | with_reducible exact Below.refl _ _ | with_reducible apply Below.drew | with_reducible apply below_drewN | with_reducible apply Below.setCell | with_reducible apply Below.alloc | omega | (simp; done) | (simp; omega))) (by simp) HQ; clear HQ; have HW9 : Hid (Below w.heap.size w w9) := (w0_below w l).trans (HB9.out.mono (by omega)); have LV9 := LIVE.out w9 HB9.out; have r0_9 := LV9.r0; have r1_9 := LV9.r1; have g0_9 := LV9.g0; have g1_9 := LV9.g1; have z1_9 := LV9.z1; clear LV9)
      have hR := (LIVE.out w9 HB9.out).rb
      obtain ⟨kk0, kk1⟩ := two_set hR (.int .i64 6) (.slice none 0 0)
      have hfin := res_ref (l := l) 6 H.out HB9.out
      exact bodyPost_ret (v := .agg #[.int .i64 6, .slice none 0 0]) (by simp [results, Tryz.results61, go_sem, kk0, kk1]) rfl hfin))

set_option maxRecDepth 100000 in
set_option maxHeartbeats 2000000 in
theorem block_ok (w : World) (x : Nat) (S : Nat → Prop) (s : Bk) (l : Ln) (hI : Inv s) (hL : LnOk l) (h : BkAt w x S s) (h1 : ¬ l.n < 22) (k : Nat) (h2 : spanH s.pools l.a l.n = k) (h3 : anyH s.nets l.a l.n = false) (h4 : ¬ 24 ≤ s.nets.length) :
    Calls Tryz.prog 61 #[.pointer (some ⟨x, 0, none⟩), .agg (lnC l)] w (Res w x S ({ s with nets := insH s.nets ⟨l.a, l.n, l.o⟩ }, okA)) := by
  obtain ⟨vp, vn, vl, c, B⟩ := h
  have hx := B.blk.lt
  have H : Hid (BkAt w x S s) := ⟨vp, vn, vl, c, B⟩
  have x0 : w.cell? ⟨x, 0, none⟩ = some vp := B.blk.cell 0
  have x1 : w.cell? ⟨x, 1, none⟩ = some vn := B.blk.cell 1
  have x2 : w.cell? ⟨x, 2, none⟩ = some vl := B.blk.cell 2
  have LIVE : Hid (∀ wk, Below (w.heap.size + 2) ((w.alloc (.cells #[.int .i64 l.v, .string l.t, .string l.o, .int .u32 l.a, .int .i64 l.n, .int .u32 l.d, .int .i64 l.g] 74)).alloc (.cells #[.int .i64 0, .slice none 0 0] 79)) wk → Live w wk x vp vn vl l) := live_of l B
  have HBA : Hid (BA w x S vp vn vl c s) := B
  have hxa : ¬ (x = w.heap.size) := by omega
  have hxb : ¬ (w.heap.size = x) := by omega
  have HS : Hid (∀ b, S b → b < w.heap.size) := B.sz
  have HP : Hid (∀ Wc, Below w.heap.size w Wc → Calls Tryz.prog 90 #[vp, .agg #[.int .u32 l.a, .int .i64 l.n]] Wc fun e w' => e = .returned (.int .i64 (spanH s.pools l.a l.n)) ∧ Below Wc.heap.size Wc w') := fun Wc hW => fspanP s.pools l.a l.n vp Wc (fun q hq => (hI.pa q hq).1) hL.a ((Rd.of_owns (k := 3) (enc := encH) (fun _ => rfl) hd0 B.op).below hW)
  rw [h2] at HP
  have hkn : ¬ ((k : Int) < 0) := by omega
  have HN : Hid (∀ Wc, Below w.heap.size w Wc → Calls Tryz.prog 91 #[vn, .agg #[.int .u32 l.a, .int .i64 l.n]] Wc fun e w' => e = .returned (.bool (anyH s.nets l.a l.n)) ∧ Below Wc.heap.size Wc w') := fun Wc hW => anymS s.nets l.a l.n vn Wc (fun q hq => (hI.na q hq).1) hL.a ((Rd.of_owns (k := 3) (enc := encH) (fun _ => rfl) hd0 B.on).below hW)
  rw [h3] at HN
  have HAD : Hid (∀ Wc, Below w.heap.size w Wc → Calls Tryz.prog 88 #[.pointer (some ⟨x, 0, none⟩), .agg #[.int .u32 l.a, .int .i64 l.n], .string l.o] Wc fun e w' => e = .returned (.tuple #[]) ∧ ∃ S', BkAt w' x S' { s with nets := insH s.nets ⟨l.a, l.n, l.o⟩ } ∧ (∀ b, S' b → S b ∨ Wc.heap.size ≤ b) ∧ Chg S Wc w') := fun Wc hW => addSubnet_any Wc x S s l.a l.n l.o hI (H.out.below hW)
  obtain ⟨bp, cp, ep, _, _⟩ := owns_slice B.op
  subst ep
  obtain ⟨bn, cn, en, _, _⟩ := owns_slice B.on
  subst en
  have h5 : ¬ (24 : Int) ≤ (s.nets.length : Int) := by omega
  clear B
  unfold lnC
  go_enter Tryz.func61, Tryz.ntmps61
  go_wp2
  go_region_held3 (fun w' => w'.cell? ⟨x, 0, none⟩ = some (.slice bp s.pools.length cp) ∧ w'.cell? ⟨w.heap.size, 3, none⟩ = some (.int .u32 l.a) ∧ w'.cell? ⟨w.heap.size, 4, none⟩ = some (.int .i64 l.n)) (go_keep) (first | (go_at_call 90; refine (HP.out _ (by repeat' (first | with_reducible assumption | with_reducible exact Below.refl _ _ | with_reducible apply Below.drew | with_reducible apply below_drewN | with_reducible apply Below.setCell | with_reducible apply Below.alloc | omega | (simp; done) | (simp; omega)))).mono ?_; rintro e w1 ⟨rfl, HQ⟩; have HB1 : Hid (Below (w.heap.size + 2) ((w.alloc (.cells #[.int .i64 l.v, .string l.t, .string l.o, .int .u32 l.a, .int .i64 l.n, .int .u32 l.d, .int .i64 l.g] 74)).alloc (.cells #[.int .i64 0, .slice none 0 0] 79)) w1) := bstep (by repeat' (first | with_reducible assumption | with_reducible exact Below.refl _ _ | with_reducible apply Below.drew | with_reducible apply below_drewN | with_reducible apply Below.setCell | with_reducible apply Below.alloc | omega | (simp; done) | (simp; omega))) (by simp) HQ; clear HQ; have HW1 : Hid (Below w.heap.size w w1) := (w0_below w l).trans (HB1.out.mono (by omega)); have LV1 := LIVE.out w1 HB1.out; have x0_1 := LV1.x0; have x1_1 := LV1.x1; have o_1 := LV1.o; have a_1 := LV1.a; have n_1 := LV1.n; have zx_1 := LV1.zx; have z0_1 := LV1.z0; have z1_1 := LV1.z1; have r0_1 := LV1.r0; have r1_1 := LV1.r1; have g0_1 := LV1.g0; have g1_1 := LV1.g1; clear LV1))
  all_goals (
    go_wp2
    go_region_held3 (fun w' => w'.cell? ⟨x, 1, none⟩ = some (.slice bn s.nets.length cn) ∧ w'.cell? ⟨w.heap.size, 3, none⟩ = some (.int .u32 l.a) ∧ w'.cell? ⟨w.heap.size, 4, none⟩ = some (.int .i64 l.n)) (go_keep) (first | (go_at_call 91; refine (HN.out _ (by have hp := HW1.out; repeat' (first | with_reducible assumption | with_reducible exact Below.refl _ _ | with_reducible apply Below.drew | with_reducible apply below_drewN | with_reducible apply Below.setCell | with_reducible apply Below.alloc | omega | (simp; done) | (simp; omega)))).mono ?_; rintro e w2 ⟨rfl, HQ⟩; have HB2 : Hid (Below (w.heap.size + 2) ((w.alloc (.cells #[.int .i64 l.v, .string l.t, .string l.o, .int .u32 l.a, .int .i64 l.n, .int .u32 l.d, .int .i64 l.g] 74)).alloc (.cells #[.int .i64 0, .slice none 0 0] 79)) w2) := bstep (by have hp := HB1.out; repeat' (first | with_reducible assumption | with_reducible exact Below.refl _ _ | with_reducible apply Below.drew | with_reducible apply below_drewN | with_reducible apply Below.setCell | with_reducible apply Below.alloc | omega | (simp; done) | (simp; omega))) (by simp) HQ; clear HQ; have HW2 : Hid (Below w.heap.size w w2) := (w0_below w l).trans (HB2.out.mono (by omega)); have LV2 := LIVE.out w2 HB2.out; have x1_2 := LV2.x1; have o_2 := LV2.o; have a_2 := LV2.a; have n_2 := LV2.n; have zx_2 := LV2.zx; have z0_2 := LV2.z0; have z1_2 := LV2.z1; have r0_2 := LV2.r0; have r1_2 := LV2.r1; have g0_2 := LV2.g0; have g1_2 := LV2.g1; clear LV2))
    all_goals (
      go_wp2_with (first | (go_at_call 88; refine (HAD.out _ (by have hp := HW2.out; repeat' (first | with_reducible assumption | with_reducible exact Below.refl _ _ | with_reducible apply Below.drew | with_reducible apply below_drewN | with_reducible apply Below.setCell | with_reducible apply Below.alloc | omega | (simp; done) | (simp; omega)))).mono ?_; rintro e w3 ⟨rfl, S3, o1, o2, o3⟩; have HG : Hid (∃ Wc, Below w.heap.size w Wc ∧ w.heap.size + 2 ≤ Wc.heap.size ∧ (∀ b, S3 b → S b ∨ Wc.heap.size ≤ b) ∧ Chg S Wc w3) := ⟨_, by have hp := HW2.out; repeat' (first | with_reducible assumption | with_reducible exact Below.refl _ _ | with_reducible apply Below.drew | with_reducible apply below_drewN | with_reducible apply Below.setCell | with_reducible apply Below.alloc | omega | (simp; done) | (simp; omega)), by have hz := HB2.out.size; simp at hz ⊢; omega, o2, o3⟩; have HA : Hid (BkAt w3 x S3 { s with nets := insH s.nets ⟨l.a, l.n, l.o⟩ }) := o1; have RB3 : Hid (Blk w3 (w.heap.size + 1) #[.int .i64 0, .slice none 0 0] 79) := (o3.block _ (by have hz := HB2.out.size; simp at hz ⊢; omega) (fun q => by have := HS.out _ q; omega)).trans (LIVE.out _ (by have hp := HB2.out; repeat' (first | with_reducible assumption | with_reducible exact Below.refl _ _ | with_reducible apply Below.drew | with_reducible apply below_drewN | with_reducible apply Below.setCell | with_reducible apply Below.alloc | omega | (simp; done) | (simp; omega)))).rb; have z1_3 : w.heap.size + 1 < w3.heap.size := RB3.out.lt; clear o1 o2 o3) | (go_at_call 81; refine (ok_any none 0 0 _).mono ?_; rintro e w4 ⟨rfl, HQ⟩; have HQ4 : Hid (Below w3.heap.size w3 w4) := HQ; have RB4 : Blk w4 (w.heap.size + 1) #[.int .i64 0, .slice none 0 0] 79 := (HQ.block _ z1_3).trans RB3.out; clear HQ; have HR4 : Hid (Blk w4 (w.heap.size + 1) #[.int .i64 0, .slice none 0 0] 79) := RB4; have r0_4 : w4.cell? ⟨w.heap.size + 1, 0, none⟩ = some (.int .i64 0) := RB4.cell 0; have r1_4 : w4.cell? ⟨w.heap.size + 1, 1, none⟩ = some (.slice none 0 0) := RB4.cell 1; have g0_4 : w4.frozen? ⟨w.heap.size + 1, 0, none⟩ = false := RB4.frozen 0; have g1_4 : w4.frozen? ⟨w.heap.size + 1, 1, none⟩ = false := RB4.frozen 1; clear RB4))
      obtain ⟨kk0, kk1⟩ := two_set HR4.out (.int .i64 0) (.slice none 0 0)
      obtain ⟨Wc, hc1, hc2, hc3, hc4⟩ := HG.out
      have hfin := res_new HS.out hc1 hc2 HA.out hc3 hc4 HQ4.out okA rfl (.slice none 0 0) (fun _ _ _ => rd_nil _ _ _ _)
      exact bodyPost_ret (v := .agg #[.int .i64 0, .slice none 0 0]) (by simp [results, Tryz.results61, go_sem, kk0, kk1]) rfl hfin))

theorem carveJust_any (w : World) (x : Nat) (S : Nat → Prop) (s : Bk) (l : Ln) (hI : Inv s) (hL : LnOk l) (h : BkAt w x S s) : Calls Tryz.prog 61 #[.pointer (some ⟨x, 0, none⟩), .agg (lnC l)] w (Res w x S (doBlock s l)) := by
  unfold doBlock
  by_cases h1 : l.n < 22
  · rw [if_pos h1]; exact block_range w x S s l hI hL h h1
  · rw [if_neg h1]
    rcases fi_cases (spansH l.a l.n) s.pools hd0 with ⟨e, _⟩ | ⟨k, hk, e, hp, _⟩
    · have e1 : spanH s.pools l.a l.n = -1 := e
      rw [if_pos (by rw [e1]; decide)]; exact block_pool w x S s l hI hL h h1 e1
    · have e1 : spanH s.pools l.a l.n = k := e
      rw [if_neg (by rw [e1]; omega)]
      by_cases h3 : anyH s.nets l.a l.n = true
      · rw [if_pos h3]; exact block_over w x S s l hI hL h h1 k e1 h3
      · rw [if_neg h3]
        by_cases h4 : 24 ≤ s.nets.length
        · rw [if_pos h4]; exact block_limit w x S s l hI hL h h1 k e1 (by simpa using h3) h4
        · rw [if_neg h4]; exact block_ok w x S s l hI hL h h1 k e1 (by simpa using h3) h4
end Go.Proofs.YtlikdnmikdldfaaGreatDoor
