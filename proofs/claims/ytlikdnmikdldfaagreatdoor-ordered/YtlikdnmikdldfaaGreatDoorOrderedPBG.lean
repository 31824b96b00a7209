/-
  BkMh
-/
import Derived.Test.YtlikdnmikdldfaaGreatDoorOrderedPAO
import Derived.Test.YtlikdnmikdldfaaGreatDoorOrderedPAX
namespace Go.Proofs.YtlikdnmikdldfaaGreatDoor
open Go.ChangeShapes Go.WideShapes Go.ChangeAt Go.RowKit
set_option linter.unusedVariables false
set_option linter.unusedSimpArgs false

theorem use_le (a n : Int) (ha : ad a) (hr : rt a n = true) : ad (useA a n) ∧ useA a n ≤ useZ a n ∧ useZ a n < 4294967296 := by
  obtain ⟨h0, h1, h2⟩ := rt_iff.1 hr
  have hp := sz_pos n
  have he := end_le a n h0 h1 ha.1 ha.2 h2
  have h3 := ha.1
  have h30 : n ≤ 30 → 4 ≤ sz n := fun hn => by
    have a1 := sz_succ n (by omega)
    have a2 := sz_succ (n + 1) (by omega)
    have a3 := sz_pos (n + 1 + 1)
    omega
  unfold useA useZ lst ad
  split
  · rename_i hn
    have := h30 hn
    omega
  · omega
theorem drop_cons_at {α : Type} (l : List α) (d : α) (k : Nat) (hk : k < l.length) : l.drop k = l.getD k d :: l.drop (k + 1) := by
  rw [List.drop_eq_getElem_cons hk, List.getD_eq_getElem?_getD, List.getElem?_eq_getElem hk]; rfl
set_option maxRecDepth 100000 in
set_option maxHeartbeats 2000000 in
theorem leastFree_any (w : World) (x : Nat) (ls : List Ls) (q : Hd) (vl : Value) (hx : x < w.heap.size) (cx : w.cell? ⟨x, 2, none⟩ = some vl) (hr : Rd 2 encL ls0 w vl ls) (hn : ls.length ≤ 1000) (ha : ∀ h, h ∈ ls → ad h.a) (hq : ad q.a) (hqr : rt q.a q.n = true) :
    Calls Tryz.prog 95 #[.pointer (some ⟨x, 0, none⟩), vH q] w fun e w' => e = .returned (.tuple #[.int .u32 ((least ls q.a q.n).getD 0), .bool (least ls q.a q.n).isSome]) ∧ Below w.heap.size w w' := by
  have HUS : Hid (∀ Wc : World, Calls Tryz.prog 100 #[vH q] Wc fun e w' => e = .returned (.tuple #[.int .u32 (useA q.a q.n), .int .u32 (useZ q.a q.n)]) ∧ Below Wc.heap.size Wc w') := fun Wc => usable_any q Wc hq hqr
  have HLO : Hid (∀ Wc, Below w.heap.size w Wc → Calls Tryz.prog 93 #[.pointer (some ⟨x, 0, none⟩), vH q] Wc fun e w' => ∃ v, e = .returned v ∧ Rd 2 encL ls0 w' v (leasesOf ls q.a q.n) ∧ Below Wc.heap.size Wc w') := fun Wc hW => by
    refine (leasesOf_any x ls q vl Wc (Nat.lt_of_lt_of_le hx hW.size) ((hW.cell (p := ⟨x, 2, none⟩) hx).trans cx) (hr.below hW) hn ha hq).mono ?_
    rintro e w' ⟨v, rfl, o1, o2⟩
    exact ⟨v, rfl, Rd.of_owns (k := 2) (enc := encL) (fun _ => rfl) ls0 o1, o2⟩
  obtain ⟨u0, u1, u2⟩ := use_le q.a q.n hq hqr
  have hll : (leasesOf ls q.a q.n).length ≤ 1000 := Nat.le_trans (List.length_filter_le _ _) hn
  unfold least
  generalize useA q.a q.n = ua at HUS u0 u1 ⊢
  generalize useZ q.a q.n = uz at HUS u1 u2 ⊢
  generalize leasesOf ls q.a q.n = L at HLO hll ⊢
  generalize hres : leastGo uz ua L = r
  have HR : Hid (leastGo uz ua L = r) := hres
  have u3 := u0.1
  clear hres hq hqr ha hr cx hn u0
  obtain ⟨qa, qn, qo⟩ := q
  unfold vH at HUS HLO
  unfold vH
  dsimp only at *
  go_enter Tryz.func95, Tryz.ntmps95
  go_wp2_with (first | (go_at_call 100; refine (HUS.out _).mono ?_; rintro e w1 ⟨rfl, hb1⟩; have HB1 : Hid (Below w.heap.size w w1) := bup (by repeat' (first | with_reducible assumption | with_reducible exact Below.refl _ _ | with_reducible apply Below.drew | with_reducible apply below_drewN | with_reducible apply Below.setCell | with_reducible apply Below.alloc | omega | (simp; done) | (simp; omega))) hb1; have k0 : w1.cell? ⟨w.heap.size, 0, none⟩ = some (.int .u32 qa) := (by rw [hb1.cell (p := ⟨w.heap.size, 0, none⟩) (by simp)]; simp [go_sem]); have k1 : w1.cell? ⟨w.heap.size, 1, none⟩ = some (.int .i64 qn) := (by rw [hb1.cell (p := ⟨w.heap.size, 1, none⟩) (by simp)]; simp [go_sem]); have k2 : w1.cell? ⟨w.heap.size, 2, none⟩ = some (.string qo) := (by rw [hb1.cell (p := ⟨w.heap.size, 2, none⟩) (by simp)]; simp [go_sem]); clear hb1) | (go_at_call 93; refine (HLO.out _ HB1.out).mono ?_; rintro e w2 ⟨v2, rfl, hr2, hb2⟩; obtain ⟨b2, c2, rfl, h21, h22, h23⟩ := hr2; have HB2 : Hid (Below w.heap.size w w2) := bup HB1.out hb2; have HR2 : Hid (Rd 2 encL ls0 w2 (.slice b2 L.length c2) L) := ⟨b2, c2, rfl, h21, h22, h23⟩; clear hb2 h21 h22 h23 k0 k1 k2))
  go_loopg [6, 9, 19] L.length (fun gg s6 _ s19 wr => ∃ (k : Nat) (y : Int), k ≤ L.length ∧ L.length - k ≤ gg ∧ s19 = .int .i64 k ∧ s6 = .int .u32 y ∧ 0 ≤ y ∧ y ≤ uz ∧ Hid (Below w2.heap.size w2 wr) ∧ Hid (leastGo uz y (L.drop k) = r))
  case atStart => exact ⟨0, ua, Nat.zero_le _, by omega, rfl, rfl, u3, u1, Below.refl _ _, (by rw [List.drop_zero]; exact HR.out : leastGo uz ua (L.drop 0) = r)⟩
  case round =>
    obtain ⟨k, y, hk, hg, rfl, rfl, y0, y1, BW, HL⟩ := hrel
    have BW2 : Hid (Below w.heap.size w wr) := bup HB2.out BW.out
    by_cases hlt : k < L.length
    · obtain ⟨b3, c3, e3, _, _, h3⟩ := HR2.out.below BW.out
      obtain ⟨g, e4, hglt, hcell⟩ := h3 (by intro e; rw [e] at hlt; simp at hlt)
      have hc := hcell k hlt
      cases e3
      cases e4
      have hd := drop_cons_at L ls0 k hlt
      have c0 : wr.cell? ⟨g, k * 2, none⟩ = some (.int .u32 (L.getD k ls0).a) := hc 0 _ rfl
      have c1 : wr.cell? ⟨g, k * 2 + 1, none⟩ = some (.string (L.getD k ls0).o) := hc 1 _ rfl
      generalize L.getD k ls0 = z at c0 c1 hd
      have HD : Hid (L.drop k = z :: L.drop (k + 1)) := hd
      have hltz : (k : Int) < (L.length : Int) := by omega
      clear h3 hcell hc hd HR2 HUS HLO
      by_cases hza : z.a = y
      · by_cases hyz : y = uz
        · have HQ : Hid (r = none) := by
            have q := HL.out
            rw [HD.out, leastGo, if_neg (by rw [hza]; exact fun q => q rfl), if_pos hyz] at q
            exact q.symm
          subst hyz
          go_wp2
          go_ret2
          exact ⟨by rw [HQ.out]; rfl, bup BW2.out (by repeat' (first | with_reducible assumption | with_reducible exact Below.refl _ _ | with_reducible apply Below.drew | with_reducible apply below_drewN | with_reducible apply Below.setCell | with_reducible apply Below.alloc | omega | (simp; done) | (simp; omega)))⟩
        · have hw1 : IntKind.u32.wrap (y + 1) = y + 1 := by rw [IntKind.wrap_u32']; omega
          have HQ : Hid (leastGo uz (y + 1) (L.drop (k + 1)) = r) := by
            have q := HL.out
            rw [HD.out, leastGo, if_neg (by rw [hza]; exact fun q => q rfl), if_neg hyz] at q
            exact q
          go_wp2
          go_roundg (L.length - (k + 1))
          case measure => omega
          case rel => exact ⟨k + 1, y + 1, by omega, by omega, by go_num, by first | rfl | rw [hw1], by omega, by omega, bup BW.out (by repeat' (first | with_reducible assumption | with_reducible exact Below.refl _ _ | with_reducible apply Below.drew | with_reducible apply below_drewN | with_reducible apply Below.setCell | with_reducible apply Below.alloc | omega | (simp; done) | (simp; omega))), HQ⟩
      · have HQ : Hid (r = some y) := by
          have q := HL.out
          rw [HD.out, leastGo, if_pos hza] at q
          exact q.symm
        go_wp2
        go_ret2
        exact ⟨by rw [HQ.out]; rfl, bup BW2.out (by repeat' (first | with_reducible assumption | with_reducible exact Below.refl _ _ | with_reducible apply Below.drew | with_reducible apply below_drewN | with_reducible apply Below.setCell | with_reducible apply Below.alloc | omega | (simp; done) | (simp; omega)))⟩
    · have hkl : k = L.length := by omega
      subst hkl
      have HQ : Hid (r = some y) := by
        have q := HL.out
        rw [List.drop_length] at q
        exact q.symm
      clear HR2 HUS HLO
      go_wp2
      go_ret2
      exact ⟨by rw [HQ.out]; rfl, BW2.out⟩

theorem Env.low {w w' : World} (h : Env w) (hb : Below 10 w w') : Env w' where
  lo := by have := h.lo; have := hb.size; omega
  mx := by obtain ⟨m, e⟩ := h.mx; exact ⟨m, (hb.cell (p := ⟨2, 0, none⟩) (by decide)).trans e⟩
  syn := by obtain ⟨tp, p, e⟩ := h.syn; exact ⟨tp, p, var?_below hb gSyn (by decide) e⟩
  rng := by obtain ⟨tp, p, e⟩ := h.rng; exact ⟨tp, p, var?_below hb gRng (by decide) e⟩
  tab := var?_below hb gTab (by decide) h.tab
theorem Chg.low {S : Nat → Prop} {w w' : World} (h : Chg S w w') (hS : ∀ b, S b → 10 ≤ b) (hz : 10 ≤ w.heap.size) : Below 10 w w' := ⟨h.os, h.tape, h.output, h.size, fun b hb => h.block b (by omega) (fun q => by have := hS b q; omega)⟩

set_option maxRecDepth 100000 in
set_option maxHeartbeats 2000000 in
theorem lease_none (w : World) (x : Nat) (S : Nat → Prop) (s : Bk) (l : Ln) (hI : Inv s) (hL : LnOk l) (h : BkAt w x S s) (h1 : findH s.nets l.a l.n = -1) :
    Calls Tryz.prog 63 #[.pointer (some ⟨x, 0, none⟩), .agg (lnC l)] w (Res w x S (s, ref 11)) := by
  obtain ⟨vp, vn, vl, c, B⟩ := h
  have hx := B.blk.lt
  have H : Hid (BkAt w x S s) := ⟨vp, vn, vl, c, B⟩
  have x0 : w.cell? ⟨x, 0, none⟩ = some vp := B.blk.cell 0
  have x1 : w.cell? ⟨x, 1, none⟩ = some vn := B.blk.cell 1
  have x2 : w.cell? ⟨x, 2, none⟩ = some vl := B.blk.cell 2
  have LIVE : Hid (∀ wk, Below (w.heap.size + 2) ((w.alloc (.cells #[.int .i64 l.v, .string l.t, .string l.o, .int .u32 l.a, .int .i64 l.n, .int .u32 l.d, .int .i64 l.g] 74)).alloc (.cells #[.int .i64 0, .slice none 0 0] 79)) wk → Live w wk x vp vn vl l) := live_of l B
  have HBA : Hid (BA w x S vp vn vl c s) := B
  have hxa : ¬ (x = w.heap.size) := by omega
  have hxb : ¬ (w.heap.size = x) := by omega
  have HF : Hid (∀ Wc, Below w.heap.size w Wc → Calls Tryz.prog 92 #[vn, .agg #[.int .u32 l.a, .int .i64 l.n]] Wc fun e w' => e = .returned (.int .i64 (findH s.nets l.a l.n)) ∧ Below Wc.heap.size Wc w') := fun Wc hW => findS s.nets l.a l.n vn Wc (fun q hq => (hI.na q hq).1) hL.a ((Rd.of_owns (k := 3) (enc := encH) (fun _ => rfl) hd0 B.on).below hW)
  rw [h1] at HF
  obtain ⟨bn, cn, en, _, _⟩ := owns_slice B.on
  subst en
  clear B
  unfold lnC
  go_enter Tryz.func63, Tryz.ntmps63
  go_wp2
  go_region_held3 (fun w' => w'.cell? ⟨x, 1, none⟩ = some (.slice bn s.nets.length cn) ∧ w'.cell? ⟨w.heap.size, 3, none⟩ = some (.int .u32 l.a) ∧ w'.cell? ⟨w.heap.size, 4, none⟩ = some (.int .i64 l.n)) (go_keep) (first | (go_at_call 92; refine (HF.out _ (by repeat' (first | with_reducible assumption | with_reducible exact Below.refl _ _ | with_reducible apply Below.drew | with_reducible apply below_drewN | with_reducible apply Below.setCell | with_reducible apply Below.alloc | omega | (simp; done) | (simp; omega)))).mono ?_; rintro e w1 ⟨rfl, HQ⟩; have HB1 : Hid (Below (w.heap.size + 2) ((w.alloc (.cells #[.int .i64 l.v, .string l.t, .string l.o, .int .u32 l.a, .int .i64 l.n, .int .u32 l.d, .int .i64 l.g] 74)).alloc (.cells #[.int .i64 0, .slice none 0 0] 79)) w1) := bstep (by repeat' (first | with_reducible assumption | with_reducible exact Below.refl _ _ | with_reducible apply Below.drew | with_reducible apply below_drewN | with_reducible apply Below.setCell | with_reducible apply Below.alloc | omega | (simp; done) | (simp; omega))) (by simp) HQ; clear HQ; have HW1 : Hid (Below w.heap.size w w1) := (w0_below w l).trans (HB1.out.mono (by omega)); have LV1 := LIVE.out w1 HB1.out; have x1_1 := LV1.x1; have o_1 := LV1.o; have a_1 := LV1.a; have n_1 := LV1.n; have zx_1 := LV1.zx; have z0_1 := LV1.z0; have z1_1 := LV1.z1; have r0_1 := LV1.r0; have r1_1 := LV1.r1; have g0_1 := LV1.g0; have g1_1 := LV1.g1; clear LV1))
  all_goals (
    go_wp2_with (go_at_call 31; refine (refuse_any 11 _).mono ?_; rintro e w9 ⟨rfl, HQ⟩; have HB9 : Hid (Below (w.heap.size + 2) ((w.alloc (.cells #[.int .i64 l.v, .string l.t, .string l.o, .int .u32 l.a, .int .i64 l.n, .int .u32 l.d, .int .i64 l.g] 74)).alloc (.cells #[.int .i64 0, .slice none 0 0] 79)) w9) := bstep (by have hp := HB1.out; repeat' (first | with_reducible assumption | with_reducible exact Below.refl _ _ | with_reducible apply Below.drew | with_reducible apply below_drewN | with_reducible apply Below.setCell | with_reducible apply Below.alloc | omega | (simp; done) | (simp; omega))) (by simp) HQ; clear HQ; have HW9 : Hid (Below w.heap.size w w9) := (w0_below w l).trans (HB9.out.mono (by omega)); have LV9 := LIVE.out w9 HB9.out; have r0_9 := LV9.r0; have r1_9 := LV9.r1; have g0_9 := LV9.g0; have g1_9 := LV9.g1; have z1_9 := LV9.z1; clear LV9)
    have hR := (LIVE.out w9 HB9.out).rb
    obtain ⟨kk0, kk1⟩ := two_set hR (.int .i64 11) (.slice none 0 0)
    have hfin := res_ref (l := l) 11 H.out HB9.out
    exact bodyPost_ret (v := .agg #[.int .i64 11, .slice none 0 0]) (by simp [results, Tryz.results63, go_sem, kk0, kk1]) rfl hfin)

set_option maxRecDepth 100000 in
set_option maxHeartbeats 2000000 in
theorem lease_full (w : World) (x : Nat) (S : Nat → Prop) (s : Bk) (l : Ln) (hI : Inv s) (hL : LnOk l) (h : BkAt w x S s) (k : Nat) (q : Hd) (hk : k < s.nets.length) (h1 : findH s.nets l.a l.n = k) (hq : s.nets.getD k hd0 = q) (hlf : least s.leases q.a q.n = none) :
    Calls Tryz.prog 63 #[.pointer (some ⟨x, 0, none⟩), .agg (lnC l)] w (Res w x S (s, ref 10)) := by
  obtain ⟨vp, vn, vl, c, B⟩ := h
  have hx := B.blk.lt
  have H : Hid (BkAt w x S s) := ⟨vp, vn, vl, c, B⟩
  have x0 : w.cell? ⟨x, 0, none⟩ = some vp := B.blk.cell 0
  have x1 : w.cell? ⟨x, 1, none⟩ = some vn := B.blk.cell 1
  have x2 : w.cell? ⟨x, 2, none⟩ = some vl := B.blk.cell 2
  have LIVE : Hid (∀ wk, Below (w.heap.size + 2) ((w.alloc (.cells #[.int .i64 l.v, .string l.t, .string l.o, .int .u32 l.a, .int .i64 l.n, .int .u32 l.d, .int .i64 l.g] 74)).alloc (.cells #[.int .i64 0, .slice none 0 0] 79)) wk → Live w wk x vp vn vl l) := live_of l B
  have HBA : Hid (BA w x S vp vn vl c s) := B
  have hxa : ¬ (x = w.heap.size) := by omega
  have hxb : ¬ (w.heap.size = x) := by omega
  have HF : Hid (∀ Wc, Below w.heap.size w Wc → Calls Tryz.prog 92 #[vn, .agg #[.int .u32 l.a, .int .i64 l.n]] Wc fun e w' => e = .returned (.int .i64 (findH s.nets l.a l.n)) ∧ Below Wc.heap.size Wc w') := fun Wc hW => findS s.nets l.a l.n vn Wc (fun q hq => (hI.na q hq).1) hL.a ((Rd.of_owns (k := 3) (enc := encH) (fun _ => rfl) hd0 B.on).below hW)
  rw [h1] at HF
  have hkk : ∀ q : Hd, (encH q).length = 3 := fun _ => rfl
  have hqm : q ∈ s.nets := by rw [← hq]; exact getD_mem s.nets hd0 k hk
  have hqi := hI.na q hqm
  have hrd := Rd.of_owns hkk hd0 B.on
  obtain ⟨bq, cq, ev, hq1, hq2, hq3⟩ := hrd
  obtain ⟨gq, rfl, hq4, hq5⟩ := hq3 (by intro e; rw [e] at hk; simp at hk)
  have hk5 := hq5 k hk
  rw [hq] at hk5
  have ROW : Hid (∀ wk, Below w.heap.size w wk → wk.cell? ⟨gq, k * 3, none⟩ = some (.int .u32 q.a) ∧ wk.cell? ⟨gq, k * 3 + 1, none⟩ = some (.int .i64 q.n) ∧ wk.cell? ⟨gq, k * 3 + 2, none⟩ = some (.string q.o)) := fun wk hw =>
    ⟨(hw.cell (p := ⟨gq, k * 3, none⟩) hq4).trans (hk5 0 _ rfl), (hw.cell (p := ⟨gq, k * 3 + 1, none⟩) hq4).trans (hk5 1 _ rfl), (hw.cell (p := ⟨gq, k * 3 + 2, none⟩) hq4).trans (hk5 2 _ rfl)⟩
  have hkz : (k : Int) < (s.nets.length : Int) := by omega
  have hkn : ¬ ((k : Int) < 0) := by omega
  have hk0 : (0 : Int) ≤ (k : Int) := by omega
  have HLF : Hid (∀ Wc, Below w.heap.size w Wc → Calls Tryz.prog 95 #[.pointer (some ⟨x, 0, none⟩), .agg #[.int .u32 q.a, .int .i64 q.n, .string q.o]] Wc fun e w' => e = .returned (.tuple #[.int .u32 0, .bool false]) ∧ Below Wc.heap.size Wc w') := fun Wc hW => by
    have := leastFree_any Wc x s.leases q vl (Nat.lt_of_lt_of_le hx hW.size) ((hW.cell (p := ⟨x, 2, none⟩) hx).trans x2) ((Rd.of_owns (k := 2) (enc := encL) (fun _ => rfl) ls0 B.ol).below hW) (by have := hI.l; omega) (fun q hq => (hI.la q hq).1) hqi.1 hqi.2.1
    rw [hlf] at this; exact this
  clear hq1 hq2 hq5 hk5 hq hqm hqi
  subst ev
  clear B
  unfold lnC
  go_enter Tryz.func63, Tryz.ntmps63
  go_wp2
  go_region_held3 (fun w' => w'.cell? ⟨x, 1, none⟩ = some (.slice (some ⟨gq, 0, none⟩) s.nets.length cq) ∧ w'.cell? ⟨w.heap.size, 3, none⟩ = some (.int .u32 l.a) ∧ w'.cell? ⟨w.heap.size, 4, none⟩ = some (.int .i64 l.n)) (go_keep) (first | (go_at_call 92; refine (HF.out _ (by repeat' (first | with_reducible assumption | with_reducible exact Below.refl _ _ | with_reducible apply Below.drew | with_reducible apply below_drewN | with_reducible apply Below.setCell | with_reducible apply Below.alloc | omega | (simp; done) | (simp; omega)))).mono ?_; rintro e w1 ⟨rfl, HQ⟩; have HB1 : Hid (Below (w.heap.size + 2) ((w.alloc (.cells #[.int .i64 l.v, .string l.t, .string l.o, .int .u32 l.a, .int .i64 l.n, .int .u32 l.d, .int .i64 l.g] 74)).alloc (.cells #[.int .i64 0, .slice none 0 0] 79)) w1) := bstep (by repeat' (first | with_reducible assumption | with_reducible exact Below.refl _ _ | with_reducible apply Below.drew | with_reducible apply below_drewN | with_reducible apply Below.setCell | with_reducible apply Below.alloc | omega | (simp; done) | (simp; omega))) (by simp) HQ; clear HQ; have HW1 : Hid (Below w.heap.size w w1) := (w0_below w l).trans (HB1.out.mono (by omega)); have LV1 := LIVE.out w1 HB1.out; have x1_1 := LV1.x1; have x2_1 := LV1.x2; have o_1 := LV1.o; have a_1 := LV1.a; have n_1 := LV1.n; have zx_1 := LV1.zx; have z0_1 := LV1.z0; have z1_1 := LV1.z1; have r0_1 := LV1.r0; have r1_1 := LV1.r1; have g0_1 := LV1.g0; have g1_1 := LV1.g1; obtain ⟨e0_1, e1_1, e2_1⟩ := ROW.out w1 HW1.out; clear LV1))
  all_goals (
    go_wp2_with (first | (go_at_call 95; refine (HLF.out _ (by have hp := HW1.out; repeat' (first | with_reducible assumption | with_reducible exact Below.refl _ _ | with_reducible apply Below.drew | with_reducible apply below_drewN | with_reducible apply Below.setCell | with_reducible apply Below.alloc | omega | (simp; done) | (simp; omega)))).mono ?_; rintro e w2 ⟨rfl, HQ⟩; have HB2 : Hid (Below (w.heap.size + 2) ((w.alloc (.cells #[.int .i64 l.v, .string l.t, .string l.o, .int .u32 l.a, .int .i64 l.n, .int .u32 l.d, .int .i64 l.g] 74)).alloc (.cells #[.int .i64 0, .slice none 0 0] 79)) w2) := bstep (by have hp := HB1.out; repeat' (first | with_reducible assumption | with_reducible exact Below.refl _ _ | with_reducible apply Below.drew | with_reducible apply below_drewN | with_reducible apply Below.setCell | with_reducible apply Below.alloc | omega | (simp; done) | (simp; omega))) (by simp) HQ; clear HQ; have HW2 : Hid (Below w.heap.size w w2) := (w0_below w l).trans (HB2.out.mono (by omega)); have LV2 := LIVE.out w2 HB2.out; have x2_2 := LV2.x2; have o_2 := LV2.o; have zx_2 := LV2.zx; have z0_2 := LV2.z0; have z1_2 := LV2.z1; have r0_2 := LV2.r0; have r1_2 := LV2.r1; have g0_2 := LV2.g0; have g1_2 := LV2.g1; clear LV2) | (go_at_call 31; refine (refuse_any 10 _).mono ?_; rintro e w9 ⟨rfl, HQ⟩; have HB9 : Hid (Below (w.heap.size + 2) ((w.alloc (.cells #[.int .i64 l.v, .string l.t, .string l.o, .int .u32 l.a, .int .i64 l.n, .int .u32 l.d, .int .i64 l.g] 74)).alloc (.cells #[.int .i64 0, .slice none 0 0] 79)) w9) := bstep (by have hp := HB2.out; repeat' (first | with_reducible assumption | with_reducible exact Below.refl _ _ | with_reducible apply Below.drew | with_reducible apply below_drewN | with_reducible apply Below.setCell | with_reducible apply Below.alloc | omega | (simp; done) | (simp; omega))) (by simp) HQ; clear HQ; have HW9 : Hid (Below w.heap.size w w9) := (w0_below w l).trans (HB9.out.mono (by omega)); have LV9 := LIVE.out w9 HB9.out; have r0_9 := LV9.r0; have r1_9 := LV9.r1; have g0_9 := LV9.g0; have g1_9 := LV9.g1; have z1_9 := LV9.z1; clear LV9))
    have hR := (LIVE.out w9 HB9.out).rb
    obtain ⟨kk0, kk1⟩ := two_set hR (.int .i64 10) (.slice none 0 0)
    have hfin := res_ref (l := l) 10 H.out HB9.out
    exact bodyPost_ret (v := .agg #[.int .i64 10, .slice none 0 0]) (by simp [results, Tryz.results63, go_sem, kk0, kk1]) rfl hfin)

set_option maxRecDepth 100000 in
set_option maxHeartbeats 2000000 in
theorem lease_limit (w : World) (x : Nat) (S : Nat → Prop) (s : Bk) (l : Ln) (hI : Inv s) (hL : LnOk l) (h : BkAt w x S s) (k : Nat) (q : Hd) (hk : k < s.nets.length) (h1 : findH s.nets l.a l.n = k) (hq : s.nets.getD k hd0 = q) (y : Int) (hlf : least s.leases q.a q.n = some y) (h2 : 40 ≤ s.leases.length) :
    Calls Tryz.prog 63 #[.pointer (some ⟨x, 0, none⟩), .agg (lnC l)] w (Res w x S (s, ref 6)) := by
  obtain ⟨vp, vn, vl, c, B⟩ := h
  have hx := B.blk.lt
  have H : Hid (BkAt w x S s) := ⟨vp, vn, vl, c, B⟩
  have x0 : w.cell? ⟨x, 0, none⟩ = some vp := B.blk.cell 0
  have x1 : w.cell? ⟨x, 1, none⟩ = some vn := B.blk.cell 1
  have x2 : w.cell? ⟨x, 2, none⟩ = some vl := B.blk.cell 2
  have LIVE : Hid (∀ wk, Below (w.heap.size + 2) ((w.alloc (.cells #[.int .i64 l.v, .string l.t, .string l.o, .int .u32 l.a, .int .i64 l.n, .int .u32 l.d, .int .i64 l.g] 74)).alloc (.cells #[.int .i64 0, .slice none 0 0] 79)) wk → Live w wk x vp vn vl l) := live_of l B
  have HBA : Hid (BA w x S vp vn vl c s) := B
  have hxa : ¬ (x = w.heap.size) := by omega
  have hxb : ¬ (w.heap.size = x) := by omega
  have HF : Hid (∀ Wc, Below w.heap.size w Wc → Calls Tryz.prog 92 #[vn, .agg #[.int .u32 l.a, .int .i64 l.n]] Wc fun e w' => e = .returned (.int .i64 (findH s.nets l.a l.n)) ∧ Below Wc.heap.size Wc w') := fun Wc hW => findS s.nets l.a l.n vn Wc (fun q hq => (hI.na q hq).1) hL.a ((Rd.of_owns (k := 3) (enc := encH) (fun _ => rfl) hd0 B.on).below hW)
  rw [h1] at HF
  have hkk : ∀ q : Hd, (encH q).length = 3 := fun _ => rfl
  have hqm : q ∈ s.nets := by rw [← hq]; exact getD_mem s.nets hd0 k hk
  have hqi := hI.na q hqm
  have hrd := Rd.of_owns hkk hd0 B.on
  obtain ⟨bq, cq, ev, hq1, hq2, hq3⟩ := hrd
  obtain ⟨gq, rfl, hq4, hq5⟩ := hq3 (by intro e; rw [e] at hk; simp at hk)
  have hk5 := hq5 k hk
  rw [hq] at hk5
  have ROW : Hid (∀ wk, Below w.heap.size w wk → wk.cell? ⟨gq, k * 3, none⟩ = some (.int .u32 q.a) ∧ wk.cell? ⟨gq, k * 3 + 1, none⟩ = some (.int .i64 q.n) ∧ wk.cell? ⟨gq, k * 3 + 2, none⟩ = some (.string q.o)) := fun wk hw =>
    ⟨(hw.cell (p := ⟨gq, k * 3, none⟩) hq4).trans (hk5 0 _ rfl), (hw.cell (p := ⟨gq, k * 3 + 1, none⟩) hq4).trans (hk5 1 _ rfl), (hw.cell (p := ⟨gq, k * 3 + 2, none⟩) hq4).trans (hk5 2 _ rfl)⟩
  have hkz : (k : Int) < (s.nets.length : Int) := by omega
  have hkn : ¬ ((k : Int) < 0) := by omega
  have hk0 : (0 : Int) ≤ (k : Int) := by omega
  have HLF : Hid (∀ Wc, Below w.heap.size w Wc → Calls Tryz.prog 95 #[.pointer (some ⟨x, 0, none⟩), .agg #[.int .u32 q.a, .int .i64 q.n, .string q.o]] Wc fun e w' => e = .returned (.tuple #[.int .u32 y, .bool true]) ∧ Below Wc.heap.size Wc w') := fun Wc hW => by
    have := leastFree_any Wc x s.leases q vl (Nat.lt_of_lt_of_le hx hW.size) ((hW.cell (p := ⟨x, 2, none⟩) hx).trans x2) ((Rd.of_owns (k := 2) (enc := encL) (fun _ => rfl) ls0 B.ol).below hW) (by have := hI.l; omega) (fun q hq => (hI.la q hq).1) hqi.1 hqi.2.1
    rw [hlf] at this; exact this
  clear hq1 hq2 hq5 hk5 hq hqm hqi
  subst ev
  obtain ⟨bl, cl, el, _, _⟩ := owns_slice B.ol
  subst el
  have h6 : (40 : Int) ≤ (s.leases.length : Int) := by omega
  clear B
  unfold lnC
  go_enter Tryz.func63, Tryz.ntmps63
  go_wp2
  go_region_held3 (fun w' => w'.cell? ⟨x, 1, none⟩ = some (.slice (some ⟨gq, 0, none⟩) s.nets.length cq) ∧ w'.cell? ⟨w.heap.size, 3, none⟩ = some (.int .u32 l.a) ∧ w'.cell? ⟨w.heap.size, 4, none⟩ = some (.int .i64 l.n)) (go_keep) (first | (go_at_call 92; refine (HF.out _ (by repeat' (first | with_reducible assumption | with_reducible exact Below.refl _ _ | with_reducible apply Below.drew | with_reducible apply below_drewN | with_reducible apply Below.setCell | with_reducible apply Below.alloc | omega | (simp; done) | (simp; omega)))).mono ?_; rintro e w1 ⟨rfl, HQ⟩; have HB1 : Hid (Below (w.heap.size + 2) ((w.alloc (.cells #[.int .i64 l.v, .string l.t, .string l.o, .int .u32 l.a, .int .i64 l.n, .int .u32 l.d, .int .i64 l.g] 74)).alloc (.cells #[.int .i64 0, .slice none 0 0] 79)) w1) := bstep (by repeat' (first | with_reducible assumption | with_reducible exact Below.refl _ _ | with_reducible apply Below.drew | with_reducible apply below_drewN | with_reducible apply Below.setCell | with_reducible apply Below.alloc | omega | (simp; done) | (simp; omega))) (by simp) HQ; clear HQ; have HW1 : Hid (Below w.heap.size w w1) := (w0_below w l).trans (HB1.out.mono (by omega)); have LV1 := LIVE.out w1 HB1.out; have x1_1 := LV1.x1; have x2_1 := LV1.x2; have o_1 := LV1.o; have a_1 := LV1.a; have n_1 := LV1.n; have zx_1 := LV1.zx; have z0_1 := LV1.z0; have z1_1 := LV1.z1; have r0_1 := LV1.r0; have r1_1 := LV1.r1; have g0_1 := LV1.g0; have g1_1 := LV1.g1; obtain ⟨e0_1, e1_1, e2_1⟩ := ROW.out w1 HW1.out; clear LV1))
  all_goals (
    go_wp2_with (first | (go_at_call 95; refine (HLF.out _ (by have hp := HW1.out; repeat' (first | with_reducible assumption | with_reducible exact Below.refl _ _ | with_reducible apply Below.drew | with_reducible apply below_drewN | with_reducible apply Below.setCell | with_reducible apply Below.alloc | omega | (simp; done) | (simp; omega)))).mono ?_; rintro e w2 ⟨rfl, HQ⟩; have HB2 : Hid (Below (w.heap.size + 2) ((w.alloc (.cells #[.int .i64 l.v, .string l.t, .string l.o, .int .u32 l.a, .int .i64 l.n, .int .u32 l.d, .int .i64 l.g] 74)).alloc (.cells #[.int .i64 0, .slice none 0 0] 79)) w2) := bstep (by have hp := HB1.out; repeat' (first | with_reducible assumption | with_reducible exact Below.refl _ _ | with_reducible apply Below.drew | with_reducible apply below_drewN | with_reducible apply Below.setCell | with_reducible apply Below.alloc | omega | (simp; done) | (simp; omega))) (by simp) HQ; clear HQ; have HW2 : Hid (Below w.heap.size w w2) := (w0_below w l).trans (HB2.out.mono (by omega)); have LV2 := LIVE.out w2 HB2.out; have x2_2 := LV2.x2; have o_2 := LV2.o; have zx_2 := LV2.zx; have z0_2 := LV2.z0; have z1_2 := LV2.z1; have r0_2 := LV2.r0; have r1_2 := LV2.r1; have g0_2 := LV2.g0; have g1_2 := LV2.g1; clear LV2) | (go_at_call 31; refine (refuse_any 6 _).mono ?_; rintro e w9 ⟨rfl, HQ⟩; have HB9 : Hid (Below (w.heap.size + 2) ((w.alloc (.cells #[.int .i64 l.v, .string l.t, .string l.o, .int .u32 l.a, .int .i64 l.n, .int .u32 l.d, .int .i64 l.g] 74)).alloc (.cells #[.int .i64 0, .slice none 0 0] 79)) w9) := bstep (by have hp := HB2.out; repeat' (first | with_reducible assumption | with_reducible exact Below.refl _ _ | with_reducible apply Below.drew | with_reducible apply below_drewN | with_reducible apply Below.setCell | with_reducible apply Below.alloc | omega | (simp; done) | (simp; omega))) (by simp) HQ; clear HQ; have HW9 : Hid (Below w.heap.size w w9) := (w0_below w l).trans (HB9.out.mono (by omega)); have LV9 := LIVE.out w9 HB9.out; have r0_9 := LV9.r0; have r1_9 := LV9.r1; have g0_9 := LV9.g0; have g1_9 := LV9.g1; have z1_9 := LV9.z1; clear LV9))
    have hR := (LIVE.out w9 HB9.out).rb
    obtain ⟨kk0, kk1⟩ := two_set hR (.int .i64 6) (.slice none 0 0)
    have hfin := res_ref (l := l) 6 H.out HB9.out
    exact bodyPost_ret (v := .agg #[.int .i64 6, .slice none 0 0]) (by simp [results, Tryz.results63, go_sem, kk0, kk1]) rfl hfin)

set_option maxRecDepth 100000 in
set_option maxHeartbeats 2000000 in
theorem lease_ok (w : World) (x : Nat) (S : Nat → Prop) (s : Bk) (l : Ln) (hI : Inv s) (hL : LnOk l) (h : BkAt w x S s) (k : Nat) (q : Hd) (hk : k < s.nets.length) (h1 : findH s.nets l.a l.n = k) (hq : s.nets.getD k hd0 = q) (y : Int) (hy : ad y) (hlf : least s.leases q.a q.n = some y) (h2 : ¬ 40 ≤ s.leases.length) (hE : Env w) (hG : ∀ b, S b → 10 ≤ b) (hZ : 10 ≤ w.heap.size) :
    Calls Tryz.prog 63 #[.pointer (some ⟨x, 0, none⟩), .agg (lnC l)] w (Res w x S ({ s with leases := insL s.leases ⟨y, l.o⟩ }, tell1 ⟨(dot y.toNat).toArray⟩)) := by
  obtain ⟨vp, vn, vl, c, B⟩ := h
  have hx := B.blk.lt
  have H : Hid (BkAt w x S s) := ⟨vp, vn, vl, c, B⟩
  have x0 : w.cell? ⟨x, 0, none⟩ = some vp := B.blk.cell 0
  have x1 : w.cell? ⟨x, 1, none⟩ = some vn := B.blk.cell 1
  have x2 : w.cell? ⟨x, 2, none⟩ = some vl := B.blk.cell 2
  have LIVE : Hid (∀ wk, Below (w.heap.size + 2) ((w.alloc (.cells #[.int .i64 l.v, .string l.t, .string l.o, .int .u32 l.a, .int .i64 l.n, .int .u32 l.d, .int .i64 l.g] 74)).alloc (.cells #[.int .i64 0, .slice none 0 0] 79)) wk → Live w wk x vp vn vl l) := live_of l B
  have HBA : Hid (BA w x S vp vn vl c s) := B
  have hxa : ¬ (x = w.heap.size) := by omega
  have hxb : ¬ (w.heap.size = x) := by omega
  have EN : Hid (Env w) := hE
  have GS : Hid (∀ b, S b → 10 ≤ b) := hG
  have ZG : Hid (10 ≤ w.heap.size) := hZ
  clear hE hG hZ
  have HS : Hid (∀ b, S b → b < w.heap.size) := B.sz
  have HF : Hid (∀ Wc, Below w.heap.size w Wc → Calls Tryz.prog 92 #[vn, .agg #[.int .u32 l.a, .int .i64 l.n]] Wc fun e w' => e = .returned (.int .i64 (findH s.nets l.a l.n)) ∧ Below Wc.heap.size Wc w') := fun Wc hW => findS s.nets l.a l.n vn Wc (fun q hq => (hI.na q hq).1) hL.a ((Rd.of_owns (k := 3) (enc := encH) (fun _ => rfl) hd0 B.on).below hW)
  rw [h1] at HF
  have hkk : ∀ q : Hd, (encH q).length = 3 := fun _ => rfl
  have hqm : q ∈ s.nets := by rw [← hq]; exact getD_mem s.nets hd0 k hk
  have hqi := hI.na q hqm
  have hrd := Rd.of_owns hkk hd0 B.on
  obtain ⟨bq, cq, ev, hq1, hq2, hq3⟩ := hrd
  obtain ⟨gq, rfl, hq4, hq5⟩ := hq3 (by intro e; rw [e] at hk; simp at hk)
  have hk5 := hq5 k hk
  rw [hq] at hk5
  have ROW : Hid (∀ wk, Below w.heap.size w wk → wk.cell? ⟨gq, k * 3, none⟩ = some (.int .u32 q.a) ∧ wk.cell? ⟨gq, k * 3 + 1, none⟩ = some (.int .i64 q.n) ∧ wk.cell? ⟨gq, k * 3 + 2, none⟩ = some (.string q.o)) := fun wk hw =>
    ⟨(hw.cell (p := ⟨gq, k * 3, none⟩) hq4).trans (hk5 0 _ rfl), (hw.cell (p := ⟨gq, k * 3 + 1, none⟩) hq4).trans (hk5 1 _ rfl), (hw.cell (p := ⟨gq, k * 3 + 2, none⟩) hq4).trans (hk5 2 _ rfl)⟩
  have hkz : (k : Int) < (s.nets.length : Int) := by omega
  have hkn : ¬ ((k : Int) < 0) := by omega
  have hk0 : (0 : Int) ≤ (k : Int) := by omega
  have HLF : Hid (∀ Wc, Below w.heap.size w Wc → Calls Tryz.prog 95 #[.pointer (some ⟨x, 0, none⟩), .agg #[.int .u32 q.a, .int .i64 q.n, .string q.o]] Wc fun e w' => e = .returned (.tuple #[.int .u32 y, .bool true]) ∧ Below Wc.heap.size Wc w') := fun Wc hW => by
    have := leastFree_any Wc x s.leases q vl (Nat.lt_of_lt_of_le hx hW.size) ((hW.cell (p := ⟨x, 2, none⟩) hx).trans x2) ((Rd.of_owns (k := 2) (enc := encL) (fun _ => rfl) ls0 B.ol).below hW) (by have := hI.l; omega) (fun q hq => (hI.la q hq).1) hqi.1 hqi.2.1
    rw [hlf] at this; exact this
  have HAD : Hid (∀ Wc, Below w.heap.size w Wc → Calls Tryz.prog 96 #[.pointer (some ⟨x, 0, none⟩), .int .u32 y, .string l.o] Wc fun e w' => e = .returned (.tuple #[]) ∧ ∃ S', BkAt w' x S' { s with leases := insL s.leases ⟨y, l.o⟩ } ∧ (∀ b, S' b → S b ∨ Wc.heap.size ≤ b) ∧ Chg S Wc w') := fun Wc hW => addLease_any Wc x S s y l.o hI (H.out.below hW)
  have HWA : Hid (∀ Wc, Env Wc → Calls Tryz.prog 97 #[.int .u32 y] Wc fun e w' => e = .returned (.string ⟨(dot y.toNat).toArray⟩) ∧ Below Wc.heap.size Wc w') := fun Wc hE => wa_any y Wc hE hy.1 hy.2
  generalize (⟨(dot y.toNat).toArray⟩ : ByteArray) = tt at HWA ⊢
  clear hq1 hq2 hq5 hk5 hq hqm hqi
  subst ev
  obtain ⟨bl, cl, el, _, _⟩ := owns_slice B.ol
  subst el
  have h6 : ¬ (40 : Int) ≤ (s.leases.length : Int) := by omega
  clear B
  unfold lnC
  go_enter Tryz.func63, Tryz.ntmps63
  go_wp2
  go_region_held3 (fun w' => w'.cell? ⟨x, 1, none⟩ = some (.slice (some ⟨gq, 0, none⟩) s.nets.length cq) ∧ w'.cell? ⟨w.heap.size, 3, none⟩ = some (.int .u32 l.a) ∧ w'.cell? ⟨w.heap.size, 4, none⟩ = some (.int .i64 l.n)) (go_keep) (first | (go_at_call 92; refine (HF.out _ (by repeat' (first | with_reducible assumption | with_reducible exact Below.refl _ _ | with_reducible apply Below.drew | with_reducible apply below_drewN | with_reducible apply Below.setCell | with_reducible apply Below.alloc | omega | (simp; done) | (simp; omega)))).mono ?_; rintro e w1 ⟨rfl, HQ⟩; have HB1 : Hid (Below (w.heap.size + 2) ((w.alloc (.cells #[.int .i64 l.v, .string l.t, .string l.o, .int .u32 l.a, .int .i64 l.n, .int .u32 l.d, .int .i64 l.g] 74)).alloc (.cells #[.int .i64 0, .slice none 0 0] 79)) w1) := bstep (by repeat' (first | with_reducible assumption | with_reducible exact Below.refl _ _ | with_reducible apply Below.drew | with_reducible apply below_drewN | with_reducible apply Below.setCell | with_reducible apply Below.alloc | omega | (simp; done) | (simp; omega))) (by simp) HQ; clear HQ; have HW1 : Hid (Below w.heap.size w w1) := (w0_below w l).trans (HB1.out.mono (by omega)); have LV1 := LIVE.out w1 HB1.out; have x1_1 := LV1.x1; have x2_1 := LV1.x2; have o_1 := LV1.o; have a_1 := LV1.a; have n_1 := LV1.n; have zx_1 := LV1.zx; have z0_1 := LV1.z0; have z1_1 := LV1.z1; have r0_1 := LV1.r0; have r1_1 := LV1.r1; have g0_1 := LV1.g0; have g1_1 := LV1.g1; obtain ⟨e0_1, e1_1, e2_1⟩ := ROW.out w1 HW1.out; clear LV1))
  all_goals (
    go_wp2_with (first | (go_at_call 95; refine (HLF.out _ (by have hp := HW1.out; repeat' (first | with_reducible assumption | with_reducible exact Below.refl _ _ | with_reducible apply Below.drew | with_reducible apply below_drewN | with_reducible apply Below.setCell | with_reducible apply Below.alloc | omega | (simp; done) | (simp; omega)))).mono ?_; rintro e w2 ⟨rfl, HQ⟩; have HB2 : Hid (Below (w.heap.size + 2) ((w.alloc (.cells #[.int .i64 l.v, .string l.t, .string l.o, .int .u32 l.a, .int .i64 l.n, .int .u32 l.d, .int .i64 l.g] 74)).alloc (.cells #[.int .i64 0, .slice none 0 0] 79)) w2) := bstep (by have hp := HB1.out; repeat' (first | with_reducible assumption | with_reducible exact Below.refl _ _ | with_reducible apply Below.drew | with_reducible apply below_drewN | with_reducible apply Below.setCell | with_reducible apply Below.alloc | omega | (simp; done) | (simp; omega))) (by simp) HQ; clear HQ; have HW2 : Hid (Below w.heap.size w w2) := (w0_below w l).trans (HB2.out.mono (by omega)); have LV2 := LIVE.out w2 HB2.out; have x2_2 := LV2.x2; have o_2 := LV2.o; have zx_2 := LV2.zx; have z0_2 := LV2.z0; have z1_2 := LV2.z1; have r0_2 := LV2.r0; have r1_2 := LV2.r1; have g0_2 := LV2.g0; have g1_2 := LV2.g1; clear LV2) | (go_at_call 96; refine (HAD.out _ (by have hp := HW2.out; repeat' (first | with_reducible assumption | with_reducible exact Below.refl _ _ | with_reducible apply Below.drew | with_reducible apply below_drewN | with_reducible apply Below.setCell | with_reducible apply Below.alloc | omega | (simp; done) | (simp; omega)))).mono ?_; rintro e w3 ⟨rfl, S3, o1, o2, o3⟩; have HG : Hid (∃ Wc, Below w.heap.size w Wc ∧ w.heap.size + 2 ≤ Wc.heap.size ∧ (∀ b, S3 b → S b ∨ Wc.heap.size ≤ b) ∧ Chg S Wc w3) := ⟨_, by have hp := HW2.out; repeat' (first | with_reducible assumption | with_reducible exact Below.refl _ _ | with_reducible apply Below.drew | with_reducible apply below_drewN | with_reducible apply Below.setCell | with_reducible apply Below.alloc | omega | (simp; done) | (simp; omega)), by have hz := HB2.out.size; simp at hz ⊢; omega, o2, o3⟩; have HA : Hid (BkAt w3 x S3 { s with leases := insL s.leases ⟨y, l.o⟩ }) := o1; have RB3 : Hid (Blk w3 (w.heap.size + 1) #[.int .i64 0, .slice none 0 0] 79) := (o3.block _ (by have hz := HB2.out.size; simp at hz ⊢; omega) (fun q => by have := HS.out _ q; omega)).trans (LIVE.out _ (by have hp := HB2.out; repeat' (first | with_reducible assumption | with_reducible exact Below.refl _ _ | with_reducible apply Below.drew | with_reducible apply below_drewN | with_reducible apply Below.setCell | with_reducible apply Below.alloc | omega | (simp; done) | (simp; omega)))).rb; have z1_3 : w.heap.size + 1 < w3.heap.size := RB3.out.lt; have HE3 : Hid (Env w3) := (EN.out.mono (by have hp := HW2.out; repeat' (first | with_reducible assumption | with_reducible exact Below.refl _ _ | with_reducible apply Below.drew | with_reducible apply below_drewN | with_reducible apply Below.setCell | with_reducible apply Below.alloc | omega | (simp; done) | (simp; omega)))).low (o3.low GS.out (by have hz := HB2.out.size; have := ZG.out; simp at hz ⊢; omega)); clear o1 o2 o3) | (go_at_call 97; refine (HWA.out _ HE3.out).mono ?_; rintro e w4 ⟨rfl, HQ⟩; have HT4 : Hid (Below w3.heap.size w3 w4) := HQ; clear HQ; have zz_4 : w3.heap.size ≤ w4.heap.size := HT4.out.size) | (go_at_call 81; refine (ok_any (some ⟨w4.heap.size, 0, none⟩) 1 1 _).mono ?_; rintro e w5 ⟨rfl, HQ⟩; have HQ5 : Hid (Below w3.heap.size w3 w5) := bup (Below.alloc HT4.out HT4.out.size _) HQ; have MC5 : Hid (w4.heap.size < w5.heap.size ∧ w5.cell? ⟨w4.heap.size, 0, none⟩ = some (.string tt)) := ⟨by have := HQ.size; simp at this; omega, (HQ.cell (p := ⟨w4.heap.size, 0, none⟩) (by simp)).trans (by simp [go_sem])⟩; have RB5 : Blk w5 (w.heap.size + 1) #[.int .i64 0, .slice none 0 0] 79 := (HQ5.out.block _ z1_3).trans RB3.out; clear HQ; have HR5 : Hid (Blk w5 (w.heap.size + 1) #[.int .i64 0, .slice none 0 0] 79) := RB5; have r0_5 : w5.cell? ⟨w.heap.size + 1, 0, none⟩ = some (.int .i64 0) := RB5.cell 0; have r1_5 : w5.cell? ⟨w.heap.size + 1, 1, none⟩ = some (.slice none 0 0) := RB5.cell 1; have g0_5 : w5.frozen? ⟨w.heap.size + 1, 0, none⟩ = false := RB5.frozen 0; have g1_5 : w5.frozen? ⟨w.heap.size + 1, 1, none⟩ = false := RB5.frozen 1; clear RB5))
    obtain ⟨kk0, kk1⟩ := two_set HR5.out (.int .i64 0) (.slice (some ⟨w4.heap.size, 0, none⟩) 1 1)
    obtain ⟨Wc, hc1, hc2, hc3, hc4⟩ := HG.out
    have hne : w4.heap.size ≠ w.heap.size + 1 := by omega
    have hfin := res_new HS.out hc1 hc2 HA.out hc3 hc4 HQ5.out (tell1 tt) rfl (.slice (some ⟨w4.heap.size, 0, none⟩) 1 1) (fun W' h1 h2 => rd_one (Nat.lt_of_lt_of_le MC5.out.1 h2) ((World.cell?_of_block (a := ⟨w4.heap.size, 0, none⟩) (h1 _ hne)).trans MC5.out.2))
    exact bodyPost_ret (v := .agg #[.int .i64 0, .slice (some ⟨w4.heap.size, 0, none⟩) 1 1]) (by simp [results, Tryz.results63, go_sem, kk0, kk1]) rfl hfin)
end Go.Proofs.YtlikdnmikdldfaaGreatDoor
