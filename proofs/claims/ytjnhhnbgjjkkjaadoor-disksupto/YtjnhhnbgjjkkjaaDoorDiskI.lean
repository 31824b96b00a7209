/-
  Disks: the document's Crash.
-/
import Derived.Test.YtjnhhnbgjjkkjaaDoorDiskG
import Derived.Deep.LoopGhost
import Derived.Deep.CutRange
import Derived.Deep.DeepCutAuto
namespace Go.Proofs.YtjnhhnbgjjkkjaaDoor
open Go.ChangeShapes Go.WideShapes Go.ChangeAt Go.RowKit
set_option linter.unusedVariables false
set_option linter.unusedSimpArgs false

/-- how many bytes of the k-th write are left -/
def xR (L : List Int) (safe k : Nat) : Int := if k < safe then 64 else L.getD ((k - safe) % L.length) 0
def crR (L : List Int) (safe : Nat) (puts : List (Int × ByteArray)) : Nat → List (Int × ByteArray)
  | 0 => []
  | k + 1 => if 0 < clampN (xR L safe k) then crR L safe puts k ++ [((cAt puts k).1, mixB (clampN (xR L safe k)) (cAt puts k).2 (lookR (crR L safe puts k) (cAt puts k).1))] else crR L safe puts k
theorem lookR_size {l : List (Int × ByteArray)} (h : Whole64 l) (s : Int) : (lookR l s).size = 64 := by
  have : ∀ (l : List (Int × ByteArray)) (a : ByteArray), Whole64 l → a.size = 64 → (l.foldl (fun a c => if c.1 = s then c.2 else a) a).size = 64 := by
    intro l
    induction l with
    | nil => intro a _ ha; exact ha
    | cons c r ih =>
      intro a h ha
      refine ih _ (fun x hx => h x (List.mem_cons_of_mem _ hx)) ?_
      show (if c.1 = s then c.2 else a).size = 64
      split
      · exact h c (List.mem_cons_self ..)
      · exact ha
  exact this l _ h (by simp [zb, bs_size])
theorem crR_facts (L : List Int) (safe : Nat) (puts : List (Int × ByteArray)) (hp : Whole64 puts) (k : Nat) (hk : k ≤ puts.length) : Whole64 (crR L safe puts k) ∧ (crR L safe puts k).length ≤ k := by
  induction k with
  | zero => exact ⟨fun c h => by simp [crR] at h, Nat.le_refl _⟩
  | succ k ih =>
    obtain ⟨h1, h2⟩ := ih (by omega)
    simp only [crR]
    split
    · refine ⟨fun c hc => ?_, by simp; omega⟩
      rcases List.mem_append.1 hc with hc | hc
      · exact h1 c hc
      · simp at hc
        subst hc
        exact mixB_size (clampN_le _) (hp _ (cAt_mem (by omega))) (lookR_size h1 _)
    · exact ⟨h1, by omega⟩
theorem int_eq' {k : IntKind} {a b : Int} (h : a = b) : Value.int k a = Value.int k b := by rw [h]
/-- what a crash leaves, so far -/
def CrQ (ρ : Nat → Nat) (kn : Nat) (w : World) (wr : World) (l : List (Int × ByteArray)) : Prop :=
  Below w.heap.size w wr ∧ ∃ ρr vo, Clean ρr wr ∧ (∀ b, b < w.heap.size → ρr b = ρ b) ∧ RPt ρr kn wr w.heap.size vo ⟨l, 0, -1, false⟩
theorem CrQ.below {ρ : Nat → Nat} {kn : Nat} {w wr wz : World} {l : List (Int × ByteArray)} (h : CrQ ρ kn w wr l) (hb : Below wr.heap.size wr wz) : CrQ ρ kn w wz l := by
  obtain ⟨h1, ρr, vo, h2, h3, h4⟩ := h
  have St : Stp (fun _ => False) ρr ρr wr wz := Stp.below h2 hb
  exact ⟨h1.trans (hb.mono h1.size), ρr, vo, St.clean, h3, h4.step St (fun h => h) (fun h => h)⟩
theorem CrQ.step {ρ ρr ρ' : Nat → Nat} {kn : Nat} {w wr wf : World} {l : List (Int × ByteArray)} {vo : Value} (hf : ∀ b, ¬ RRk kn (ρ b)) (h1 : Below w.heap.size w wr) (h3 : ∀ b, b < w.heap.size → ρr b = ρ b) (hS : Stp (RRk kn) ρr ρ' wr wf) (h4 : RPt ρ' kn wf w.heap.size vo ⟨l, 0, -1, false⟩) : CrQ ρ kn w wf l := by
  refine ⟨h1.trans (hS.toBelow h1.size (fun b hb hr => ?_)), ρ', vo, hS.clean, fun b hb => (hS.role b (Nat.lt_of_lt_of_le hb h1.size)).trans (h3 b hb), h4⟩
  rw [h3 b hb] at hr
  exact hf b hr
theorem crash_r_end {ρ : Nat → Nat} {kn : Nat} {w wr : World} {l : List (Int × ByteArray)} {ρr : Nat → Nat} {vo : Value} (hb : Below w.heap.size w wr) (hc : Clean ρr wr) (h3 : ∀ b, b < w.heap.size → ρr b = ρ b) (h4 : RPt ρr kn wr w.heap.size vo ⟨l, 0, -1, false⟩) :
    ∃ ρ', RAt ρ' kn (wr.setCell ⟨w.heap.size, 1, none⟩ (.int .i64 l.length)) w.heap.size ⟨l, l.length, -1, false⟩ ∧ Stp (fun _ => False) ρ ρ' w (wr.setCell ⟨w.heap.size, 1, none⟩ (.int .i64 l.length)) := by
  obtain ⟨hr, hB, hO⟩ := h4
  have S2 : Stp (fun r => r = 4 * kn + 2) ρr ρr wr (wr.setCell ⟨w.heap.size, 1, none⟩ (.int .i64 l.length)) := Stp.set hc hr 1 _
  have hb2 := hb.setCell (p := ⟨w.heap.size, 1, none⟩) (Nat.le_refl _) (.int .i64 l.length)
  exact ⟨ρr, ⟨hr, vo, hB.set 1 _, hO.step S2 (by omega)⟩, ⟨hb2.os, hb2.tape, hb2.output, hb2.size, h3, fun b h _ => hb2.block b h, S2.clean⟩⟩

set_option maxRecDepth 1000000 in
set_option maxHeartbeats 2000000 in
theorem crash_r (ρ : Nat → Nat) (k kn : Nat) (w : World) (g : Nat) (B : RD) (v : Value) (L : List Int) (hc : Clean ρ w) (hf : ∀ b, ¬ RRk kn (ρ b)) (h : RAt ρ k w g B) (hL : IntsAt w v L) (hLm : L.length ≤ 2097152) (w1 : Whole64 B.puts) (hn : B.puts.length ≤ 2097152) (hsf : B.safe ≤ B.puts.length) :
    Calls Tryd.prog 32 #[.pointer (some ⟨g, 0, none⟩), v] w fun e w' => e = .returned (.pointer (some ⟨w.heap.size, 0, none⟩)) ∧
      ∃ ρ', RAt ρ' kn w' w.heap.size ⟨crR L B.safe B.puts B.puts.length, (crR L B.safe B.puts B.puts.length).length, -1, false⟩ ∧ Stp (fun _ => False) ρ ρ' w w' := by
  obtain ⟨hr, vp, hb, hl⟩ := h
  obtain ⟨puts, safe, left, st⟩ := B
  simp only [] at *
  have c0 : w.cell? ⟨g, 0, none⟩ = some vp := hb.cell 0
  have c1 : w.cell? ⟨g, 1, none⟩ = some (.int .i64 (safe : Nat)) := hb.cell 1
  have gz : g < w.heap.size := hb.lt
  have HF : Hid (∀ b, ¬ RRk kn (ρ b)) := hf
  have HC0 : Hid (CrQ ρ kn w (w.alloc (.cells #[.slice none 0 0, .int .i64 0, .int .i64 (-1), .bool false] 83)) []) := by
    have S0 : Stp (fun _ => False) ρ (ru ρ w.heap.size (4 * kn + 2)) w (w.alloc (.cells #[.slice none 0 0, .int .i64 0, .int .i64 (-1), .bool false] 83)) := Stp.alloc hc _ _
    exact ⟨(Below.refl _ _).alloc (Nat.le_refl _) _, _, .slice none 0 0, S0.clean, fun b hb => ru_ne _ _ _ (by omega), ru_at _ _ _, Blk.new _ _ _, Own.nil _ _ _ _⟩
  have HLo : Hid (Reads w vp puts) := reads_of_owns hl.1
  have HI : Hid (IntsAt w v L) := hL
  have hfacts : Hid (∀ k, k ≤ puts.length → Whole64 (crR L safe puts k) ∧ (crR L safe puts k).length ≤ k) := crR_facts L safe puts w1
  have hw2 : Hid (∀ k, k < puts.length → (cAt puts k).2.size = 64) := fun k hk => w1 _ (cAt_mem hk)
  clear w1 hf
  obtain ⟨al, cl, rfl, hl1, hl2, hl3⟩ := HLo.out
  have H3 : Hid (puts ≠ [] → ∃ g, al = some ⟨g, 0, none⟩ ∧ g < w.heap.size ∧ ∀ j, j < puts.length → w.cell? ⟨g, j * 2, none⟩ = some (.int .i64 (cAt puts j).1) ∧ w.cell? ⟨g, j * 2 + 1, none⟩ = some (.string (cAt puts j).2)) := hl3
  unfold maxLen at hl2
  obtain ⟨aL, cL, rfl, hL1, hL2, hL3⟩ := HI.out
  have H4 : Hid (L ≠ [] → ∃ b o, aL = some ⟨b, o, none⟩ ∧ b < w.heap.size ∧ ∀ j, j < L.length → w.cell? ⟨b, o + j, none⟩ = some (.int .i64 (L.getD j 0))) := hL3
  unfold maxLen at hL2
  clear hb hl HLo HI hL hl3 hL3 hc
  go_enter Tryd.func32, Tryd.ntmps32
  go_wp2_with (go_at_call 18; refine (new_r _).mono ?_; rintro e w1 ⟨rfl, rfl⟩; unfold rB)
  go_loopg [6] puts.length (fun gh i wr => ∃ n : Nat, n ≤ puts.length ∧ gh = puts.length - n ∧ i = .int .i64 n ∧ CrQ ρ kn w wr (crR L safe puts n))
  case atStart => exact ⟨0, by omega, by omega, rfl, HC0.out⟩
  case round =>
    obtain ⟨n, hn', hgk, rfl, hcr⟩ := hrel
    have HGK : Hid (gk = puts.length - n) := hgk
    clear hgk HC0
    obtain ⟨hb, ρr, vo, hcl, hrr, hR⟩ := hcr
    obtain ⟨hW, hLen⟩ := hfacts.out n hn'
    have HCR : Hid (CrQ ρ kn w wr (crR L safe puts n)) := ⟨hb, ρr, vo, hcl, hrr, hR⟩
    have hB := hR.2.1
    have b0 : wr.cell? ⟨w.heap.size, 0, none⟩ = some vo := hB.cell 0
    have b1 : wr.cell? ⟨w.heap.size, 1, none⟩ = some (.int .i64 0) := hB.cell 1
    have e0 : wr.frozen? ⟨w.heap.size, 0, none⟩ = false := hB.frozen 0
    have e1 : wr.frozen? ⟨w.heap.size, 1, none⟩ = false := hB.frozen 1
    have hz : w.heap.size < wr.heap.size := hB.lt
    have g0 := (hb.cell (p := ⟨g, 0, none⟩) gz).trans c0
    have g1 := (hb.cell (p := ⟨g, 1, none⟩) gz).trans c1
    have gzr : g < wr.heap.size := by omega
    by_cases hlt : n < puts.length
    · obtain ⟨q, rfl, hq, hcc⟩ := H3.out (by intro e; rw [e] at hlt; simp at hlt)
      have d0 := (hb.cell (p := ⟨q, n * 2, none⟩) hq).trans (hcc n hlt).1
      have d1 := (hb.cell (p := ⟨q, n * 2 + 1, none⟩) hq).trans (hcc n hlt).2
      have hds := hw2.out n hlt
      clear hcc
      have hnxt : Hid (crR L safe puts (n + 1) = if 0 < clampN (xR L safe n) then crR L safe puts n ++ [((cAt puts n).1, mixB (clampN (xR L safe n)) (cAt puts n).2 (lookR (crR L safe puts n) (cAt puts n).1))] else crR L safe puts n) := rfl
      have hys : (lookR (crR L safe puts n) (cAt puts n).1).size = 64 := lookR_size hW _
      have hrd : Hid (∀ wz, Below wr.heap.size wr wz → Calls Tryd.prog 25 #[.pointer (some ⟨w.heap.size, 0, none⟩), .int .i64 (cAt puts n).1] wz fun e w' => e = .returned (.string (lookR (crR L safe puts n) (cAt puts n).1)) ∧ Below wz.heap.size wz w') := fun wz hbz =>
        read_r ρr kn wz w.heap.size ⟨crR L safe puts n, 0, -1, false⟩ _ (by show (crR L safe puts n).length ≤ _; omega) (hR.step (R := fun _ => False) (Stp.below hcl hbz) (fun h => h) (fun h => h)).at
      obtain ⟨Q, hQ⟩ : ∃ Q, Q = crR L safe puts n := ⟨_, rfl⟩
      rw [← hQ] at hnxt hys hrd HCR hLen hR hW
      generalize (cAt puts n).1 = sc at *
      generalize (cAt puts n).2 = sd at *
      generalize lookR Q sc = y at *
      have HR : Hid (RPt ρr kn wr w.heap.size vo ⟨Q, 0, -1, false⟩ ∧ Clean ρr wr ∧ (∀ b, b < w.heap.size → ρr b = ρ b) ∧ Below w.heap.size w wr) := ⟨hR, hcl, hrr, hb⟩
      have HX : Hid (∀ j, j < L.length → ∀ b o, aL = some ⟨b, o, none⟩ → b < wr.heap.size ∧ wr.cell? ⟨b, o + j, none⟩ = some (.int .i64 (L.getD j 0))) := fun j hj b o he => by
        obtain ⟨b', o', he', hb', hcc⟩ := H4.out (by intro e; rw [e] at hj; simp at hj)
        rw [he'] at he
        simp at he
        obtain ⟨rfl, rfl⟩ := he
        exact ⟨by omega, (hb.cell (p := ⟨b', o' + j, none⟩) hb').trans (hcc j hj)⟩
      clear hR hB hQ hcl hrr hb hfacts hw2 hW
      go_upto_if 32 with fail
      go_cut [8] from 11 to 75 (fun u8 wc => u8 = .int .i64 (xR L safe n) ∧ wc = wr.alloc (.cells #[.int .i64 sc, .string sd] 89))
      case first =>
        by_cases hs : n < safe
        · have hs' : (n : Int) < safe := by omega
          have hx : Hid (xR L safe n = 64) := by show _ = _; unfold xR; rw [if_pos hs]
          go_wp2
          go_meet
          exact ⟨by rw [hx.out], rfl⟩
        · have hs' : ¬ (n : Int) < safe := by omega
          by_cases hL0 : L.length = 0
          · have hx : Hid (xR L safe n = 0) := by show _ = _; unfold xR; rw [if_neg hs, List.eq_nil_of_length_eq_zero hL0]; rfl
            have hL0' : ¬ (0 : Int) < L.length := by omega
            clear hL0
            go_wp2
            go_meet
            exact ⟨by rw [hx.out], rfl⟩
          · obtain ⟨bL, oL, rfl, _, _⟩ := H4.out (by intro e; rw [e] at hL0; exact hL0 rfl)
            obtain ⟨t, ht⟩ : ∃ t, t = n - safe := ⟨_, rfl⟩
            have hj : t % L.length < L.length := Nat.mod_lt _ (by omega)
            obtain ⟨hbLr, l0⟩ := HX.out _ hj bL oL rfl
            have hx : Hid (xR L safe n = L.getD (t % L.length) 0) := by show _ = _; unfold xR; rw [if_neg hs, ht]
            have ht' : (n : Int) - safe = t := by omega
            clear ht
            generalize L.getD (t % L.length) 0 = x at l0 hx
            have hLp : (0 : Int) < L.length := by omega
            go_wp2
            go_meet
            exact ⟨by rw [hx.out], rfl⟩
      case rest =>
        obtain ⟨hu8, rfl⟩ := hcut
        obtain ⟨X, hX⟩ : ∃ X, X = xR L safe n := ⟨_, rfl⟩
        rw [← hX] at hu8
        subst hu8
        rw [← hX] at hnxt
        obtain ⟨m, hm⟩ : ∃ m, m = clampN X := ⟨_, rfl⟩
        rw [← hm] at hnxt
        have HM : Hid (m = clampN X) := hm
        have hm64 : m ≤ 64 := by rw [hm]; exact clampN_le X
        clear hX hm
        go_upto_if 49 with fail
        go_cut [8] from 11 to 75 (fun u8 wc => ∃ Y : Int, u8 = .int .i64 Y ∧ Hid ((Y ≤ 0 ∧ m = 0) ∨ (Y = m ∧ 0 < m)) ∧ wc = wr.alloc (.cells #[.int .i64 sc, .string sd] 89))
        case first =>
          go_wp2
          all_goals go_meet
          all_goals (
            refine ⟨_, rfl, ?_, rfl⟩
            have := HM.out
            unfold clampN at this
            show _ ∨ _
            omega)
        case rest =>
          obtain ⟨Y, rfl, hY, rfl⟩ := hcut
          rcases hY.out with ⟨hy0, hm0⟩ | ⟨rfl, hm0⟩
          · have HN : Hid (crR L safe puts (n + 1) = Q) := by rw [hnxt.out, hm0]; rfl
            clear hnxt
            go_wp2
            go_roundg (puts.length - (n + 1))
            case measure => have := HGK.out; omega
            case rel => exact ⟨n + 1, by omega, rfl, by go_num, by rw [HN.out]; exact HCR.out.below (by repeat' (first | with_reducible assumption | with_reducible exact Below.refl _ _ | with_reducible apply Below.drew | with_reducible apply below_drewN | with_reducible apply Below.setCell | with_reducible apply Below.alloc | omega | (simp; done) | (simp; omega)))⟩
          · have HN : Hid (crR L safe puts (n + 1) = Q ++ [(sc, sd.extract 0 m ++ y.extract m 64)]) := by
              rw [hnxt.out, if_pos hm0]; unfold mixB; rw [hys]; rfl
            have hm1 : (m : Int) ≤ 64 := by omega
            have hm2 : (0 : Int) < m := by omega
            have hcat : ¬ 9223372036854775807 < min m 64 + (64 - m) := by omega
            have HO : Hid (∀ wz, Below wr.heap.size wr wz → wz.ownsRow 0 89 2 vo Q.length (cvs Q)) := fun wz hbz => (HR.out.1.2.2.step (R := fun _ => False) (Stp.below HR.out.2.1 hbz) (fun h => h)).1
            have HNE : Hid (some w.heap.size ≠ vo.ownBlock) := fun e => by have h1 := HR.out.1.2.2.2 w.heap.size e.symm; have h2 := HR.out.1.1; omega
            obtain ⟨i0, hi, hz0, hz1, hz2⟩ := info_parts infoP
            clear hnxt hY d0 d1 g0 g1 HX
            go_wp2_with (go_at_call 25; refine (hrd.out _ (by repeat' (first | with_reducible assumption | with_reducible exact Below.refl _ _ | with_reducible apply Below.drew | with_reducible apply below_drewN | with_reducible apply Below.setCell | with_reducible apply Below.alloc | omega | (simp; done) | (simp; omega)))).mono ?_; rintro e w2 ⟨rfl, hb2⟩; have k0 : w2.cell? ⟨wr.heap.size, 0, none⟩ = some (.int .i64 sc) := (by rw [hb2.cell (p := ⟨wr.heap.size, 0, none⟩) (by simp)]; simp [go_sem]); have k1 : w2.cell? ⟨wr.heap.size, 1, none⟩ = some (.string sd) := (by rw [hb2.cell (p := ⟨wr.heap.size, 1, none⟩) (by simp)]; simp [go_sem]); have k3 : w2.cell? ⟨w.heap.size, 0, none⟩ = some vo := (by rw [hb2.cell (p := ⟨w.heap.size, 0, none⟩) (by simp; omega)]; simp [go_sem, b0, hz]); have k4 : w2.frozen? ⟨w.heap.size, 0, none⟩ = false := (by rw [hb2.frozen (p := ⟨w.heap.size, 0, none⟩) (by simp; omega)]; simp [go_sem, e0, hz]); have z2 : wr.heap.size < w2.heap.size := (by have := hb2.size; simp at this; omega); have HB2 : Hid (Below wr.heap.size wr w2) := Below.trans (by repeat' (first | with_reducible assumption | with_reducible exact Below.refl _ _ | with_reducible apply Below.drew | with_reducible apply below_drewN | with_reducible apply Below.setCell | with_reducible apply Below.alloc | omega | (simp; done) | (simp; omega))) (hb2.mono (by simp)); clear hb2)
            clear b0 e0 b1 e1
            obtain ⟨ql, hql⟩ : ∃ ql, ql = Q.length := ⟨_, rfl⟩
            rw [← hql] at HO hLen
            have HQL : Hid (ql = Q.length) := hql
            clear hql hrd
            have hz3 : w.heap.size < w2.heap.size := by omega
            go_region_law (refine step_append_lies _ rfl _ _ 81 rfl 0 89 i0 _ 2 24 Tryd.underlying81 hi hz0 hz1 hz2 rfl (by decide) vo ql (cvs Q) (by first | rfl | simp) (HO.out _ (by have hq := HB2.out; repeat' (first | with_reducible assumption | with_reducible exact Below.refl _ _ | with_reducible apply Below.drew | with_reducible apply below_drewN | with_reducible apply Below.setCell | with_reducible apply Below.alloc | omega | (simp; done) | (simp; omega)))) ⟨w2.heap.size, 0, none⟩ 1 1 [.int .i64 sc, .string (sd.extract 0 m ++ y.extract m 64)] (by first | rfl | simp) rfl (newcells (by simp [go_sem]) (by simp [go_sem])) (two_one _ _) (by omega) (by unfold maxLen; omega) (by omega) (by omega) (w2.heap.size + 1) (by simp) ?_; intro g3 cap3 w3 hown3 hgrow3 hat3 hlt3; have c32 : w3.cell? ⟨w.heap.size, 0, none⟩ = some vo := (by rw [hgrow3.cell_far ⟨w.heap.size, 0, none⟩ (by simp; omega) HNE.out]; simp [go_sem, k3, hz3]); have f32 : w3.frozen? ⟨w.heap.size, 0, none⟩ = false := (by rw [hgrow3.frozen_far ⟨w.heap.size, 0, none⟩ (by simp; omega) HNE.out]; simp [go_sem, k4, hz3]))
            all_goals go_goals
            all_goals (
              go_wp2
              go_roundg (puts.length - (n + 1))
              case measure => have := HGK.out; omega
              case rel =>
                have S1 : Stp (fun _ => False) ρr ρr wr w2 := Stp.below HR.out.2.1 HB2.out
                have hp2 : RPt ρr kn w2 w.heap.size vo ⟨Q, 0, -1, false⟩ := HR.out.1.step S1 (fun h => h) (fun h => h)
                rw [HQL.out] at hown3
                obtain ⟨ρ', q1, q2⟩ := put_r_end S1.clean hp2 (by repeat' (first | with_reducible assumption | with_reducible exact Below.refl _ _ | with_reducible apply Below.drew | with_reducible apply below_drewN | with_reducible apply Below.setCell | with_reducible apply Below.alloc | omega | (simp; done) | (simp; omega))) hown3 hgrow3 (or_of hat3 (fun h => by rw [h]; simp)) hlt3
                refine ⟨n + 1, by omega, rfl, by go_num, ?_⟩
                rw [HN.out, HQL.out]
                have q3 : Stp (RRk kn) ρr ρ' wr _ := (S1.mono (fun _ h => h.elim)).trans q2
                exact CrQ.step HF.out HR.out.2.2.2 HR.out.2.2.1 q3 q1)
    · have HN : Hid (n = puts.length) := (by omega : n = puts.length)
      obtain ⟨ao, co, rfl, _, _⟩ := hR.2.2.slice
      have hfin : Hid (∃ ρ', RAt ρ' kn (wr.setCell ⟨w.heap.size, 1, none⟩ (.int .i64 (crR L safe puts n).length)) w.heap.size ⟨crR L safe puts n, (crR L safe puts n).length, -1, false⟩ ∧ Stp (fun _ => False) ρ ρ' w (wr.setCell ⟨w.heap.size, 1, none⟩ (.int .i64 (crR L safe puts n).length))) := crash_r_end hb hcl hrr hR
      clear hR hB hfacts hw2 hcl hrr
      go_wp2
      go_ret
      refine ⟨rfl, ?_⟩
      rw [← HN.out]
      exact hfin.out
end Go.Proofs.YtjnhhnbgjjkkjaaDoor
