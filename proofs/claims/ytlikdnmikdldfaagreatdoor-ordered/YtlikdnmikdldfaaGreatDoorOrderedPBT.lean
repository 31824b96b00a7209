/-
  BkSv
-/
import Derived.Test.YtlikdnmikdldfaaGreatDoorOrderedPBS
import Derived.Test.YtlikdnmikdldfaaGreatDoorOrderedPBD
import Derived.Test.YtlikdnmikdldfaaGreatDoorOrderedPBR
namespace Go.Proofs.YtlikdnmikdldfaaGreatDoor
open Go.Conc Go.ChangeShapes Go.WideShapes Go.ChangeAt Go.RowKit
set_option linter.unusedVariables false
set_option linter.unusedSimpArgs false

theorem ent_cells (s : ByteArray) (q : List (List UInt8 × List UInt8)) (hs : s.size ≤ 900000) (h : entL s.data.toList = some q) (m : Nat) (hm : q.length = m) (T : Nat → ByteArray) (hT : ∀ j, j < m → bs (q.getD j ([], [])).1 = T j) (W : World) :
    Calls Tryz.prog 27 #[.string s] W fun e w' => ∃ (b : Option Addr) (c : Nat), e = .returned (.tuple #[.slice b m c, .bool true]) ∧ (∀ j, j < m → ∃ g : Nat, b = some ⟨g, 0, none⟩ ∧ w'.cell? ⟨g, j * 2, none⟩ = some (.string (T j))) ∧ Below W.heap.size W w' := by
  subst hm
  refine (ent_of s q hs h W).mono ?_
  rintro e w' ⟨b, c, rfl, ho, hb⟩
  refine ⟨b, c, rfl, fun j hj => ?_, hb⟩
  obtain ⟨g, cap, hv, hc⟩ := owns_ent ho j hj
  rw [hT j hj] at hc
  exact ⟨g, (Value.slice.inj hv).1, hc⟩
theorem sz_leB {n : Int} (h0 : 0 ≤ n) (h1 : n ≤ 32) : 1 ≤ sz n ∧ sz n ≤ 4294967296 := by
  have := sz_pos n
  have h := sz_mono (m := 0) (n := n) h0 h1
  have e : sz 0 = 4294967296 := by decide +kernel
  omega
theorem lin_any (w0 : World) (K : Nat → Prop) (x : Nat) (s : Bk) (E : EnvT w0) (hZ : 10 ≤ w0.heap.size) (hI : Inv s) (G : Good s) {h : Hd} (hh : h ∈ s.nets) (w : World) (H : HB w0 K x s w) :
    Calls Tryz.prog 70 #[.pointer (some ⟨x, 0, none⟩), .string (bs (bText h.a h.n)), .agg #[.int .u32 h.a, .int .i64 h.n]] w fun e w' => e = .returned (.bool true) ∧ Below w.heap.size w w' := by
  obtain ⟨g0, g1, gr, _⟩ := G.nr h hh
  obtain ⟨r1, r2, _⟩ := rt_iff.1 gr
  obtain ⟨z0, z1⟩ := sz_leB r1 r2
  obtain ⟨i1, i2, _⟩ := hI.na h hh
  have hlen := bText_len _ _ i1 i2
  obtain ⟨L, hL⟩ : ∃ L, L = leasesOf s.leases h.a h.n := ⟨_, rfl⟩
  have hLl : L.length ≤ 40 := by have := leasesOf_len s.leases h.a h.n; have := hI.l; rw [hL]; omega
  have hnx : ∀ j, j < L.length → nxL h L j ≤ (L.getD j ls0).a ∧ (L.getD j ls0).a ≤ useZ h.a h.n ∧ 0 ≤ (L.getD j ls0).a ∧ (L.getD j ls0).a < 4294967296 := fun j hj => by subst hL; exact lease_next G hh hj
  refine lin_at x w (bs (bText h.a h.n)) (by rw [bs_size]; omega) h.a h.n (sz h.n) (useZ h.a h.n) (bs (usedT s h)) L.length (by omega) (fun j => if j < L.length then bs (dot (L.getD j ls0).a.toNat) else bs []) ?_ (fun j => (L.getD j ls0).a) (nxL h L) g0 g1 r1 r2 z0 z1 ?_ ?_ ?_ ?_ ?_ ?_ ?_
  · intro j
    try dsimp only
    split
    · rename_i hj
      obtain ⟨_, _, q3, q4⟩ := hnx j hj
      rw [bs_size]
      have := dot_len (L.getD j ls0).a.toNat (by omega)
      omega
    · rw [bs_size]; simp
  · show nxL h L 0 = _
    unfold nxL useA; rfl
  · show useZ h.a h.n = _
    unfold useZ lst
    split <;> omega
  · intro j hj
    obtain ⟨q1, q2, q3, q4⟩ := hnx j hj
    exact ⟨q1, q2, q3, q4, rfl⟩
  · intro W hW
    have e := read_ask (k := 10) (by omega) g0 g1 gr
    have h1 := hb_ask w0 K x s (bs (verb 10 ++ 32 :: bText h.a h.n)) E hZ hI (fun l hl => by rw [bs_data] at hl; replace hl := e.symm.trans hl; injection hl with hl; rw [← hl]; show ¬ 10 < 8; omega) W (H.below hW)
    rw [ask_used G hh] at h1
    have e3 := ask_cat 10 (bText h.a h.n) [85, 83, 69, 68, 32] rfl
    rw [show (⟨#[85, 83, 69, 68, 32]⟩ : ByteArray) ++ bs (bText h.a h.n) = _ from e3]
    exact h1
  · intro W
    have := usedT_len hI h
    refine ent_cells (bs (usedT s h)) (L.map entS) (by rw [bs_size]; omega) (by rw [bs_data, hL]; exact ent_l _ fun y hy => G.lo y (leasesOf_sub hy)) L.length (by simp) _ (fun j hj => ?_) W
    rw [if_pos hj, getD_map entS L ls0 _ j hj]
    rfl
  · intro j W hj
    obtain ⟨_, _, q3, q4⟩ := hnx j hj
    have h1 := kread_any (L.getD j ls0).a 32 W q3 q4 rt_one
    rw [if_pos hj]
    have e : bs (dot (L.getD j ls0).a.toNat) ++ ⟨#[47, 51, 50]⟩ = bs (bText (L.getD j ls0).a 32) := by
      have e1 : (⟨#[47, 51, 50]⟩ : ByteArray) = bs [47, 51, 50] := rfl
      have e2 : bText (L.getD j ls0).a 32 = dot (L.getD j ls0).a.toNat ++ [47, 51, 50] := by
        unfold bText wr
        rw [show ((32 : Int).toNat) = 32 from rfl, show dec 32 = [51, 50] from by decide +kernel]
      rw [e1, bs_append, e2]
    rw [e]
    exact h1
  · intro W
    exact ksize_any h.n W r1 r2
theorem nin_any (w0 : World) (K : Nat → Prop) (x : Nat) (s : Bk) (E : EnvT w0) (hZ : 10 ≤ w0.heap.size) (hI : Inv s) (G : Good s) {p : Hd} (hp : p ∈ s.pools) (w : World) (H : HB w0 K x s w) :
    Calls Tryz.prog 37 #[.pointer (some ⟨x, 0, none⟩), .string (bs (bText p.a p.n)), .agg #[.int .u32 p.a, .int .i64 p.n]] w fun e w' => e = .returned (.bool true) ∧ Below w.heap.size w w' := by
  obtain ⟨g0, g1, gr⟩ := G.pr p hp
  obtain ⟨r1, r2, _⟩ := rt_iff.1 gr
  obtain ⟨z0, z1⟩ := sz_leB r1 r2
  obtain ⟨i1, i2, _⟩ := hI.pa p hp
  have hlen := bText_len _ _ i1 i2
  obtain ⟨L, hL⟩ : ∃ L, L = netsOf s.nets p.a p.n := ⟨_, rfl⟩
  have hLl : L.length ≤ 24 := by have := netsOf_len s.nets p.a p.n; have := hI.n; rw [hL]; omega
  have hnx : ∀ j, j < L.length → nxN p.a L j ≤ (L.getD j hd0).a ∧ (L.getD j hd0).a + sz (L.getD j hd0).n ≤ p.a + sz p.n ∧ L.getD j hd0 ∈ s.nets := fun j hj => by subst hL; exact net_next G hp hj
  refine nin_at x w (bs (bText p.a p.n)) (by rw [bs_size]; omega) p.a p.n (sz p.n) (bs (netsT s p)) L.length (by omega) (fun j => bs (bText (L.getD j hd0).a (L.getD j hd0).n)) (fun j => (L.getD j hd0).a) (fun j => (L.getD j hd0).n) (fun j => sz (L.getD j hd0).n) (nxN p.a L) g0 g1 r1 r2 z0 z1 ?_ ?_ ?_ ?_ ?_ ?_ ?_ ?_
  · rfl
  · intro j hj
    obtain ⟨q1, q2, q3⟩ := hnx j hj
    obtain ⟨m0, m1, mr, m2⟩ := G.nr _ q3
    obtain ⟨t1, t2, _⟩ := rt_iff.1 mr
    obtain ⟨y0, y1⟩ := sz_leB t1 t2
    exact ⟨q1, q2, m0, m1, m2, t2, y0, y1, rfl⟩
  · intro W hW
    have e := read_ask (k := 9) (by omega) g0 g1 gr
    have h1 := hb_ask w0 K x s (bs (verb 9 ++ 32 :: bText p.a p.n)) E hZ hI (fun l hl => by rw [bs_data] at hl; replace hl := e.symm.trans hl; injection hl with hl; rw [← hl]; show ¬ 9 < 8; omega) W (H.below hW)
    rw [ask_nets G hp] at h1
    have e3 := ask_cat 9 (bText p.a p.n) [78, 69, 84, 83, 32] rfl
    rw [show (⟨#[78, 69, 84, 83, 32]⟩ : ByteArray) ++ bs (bText p.a p.n) = _ from e3]
    exact h1
  · intro W
    have := netsT_len hI p
    refine ent_cells (bs (netsT s p)) (L.map entH) (by rw [bs_size]; omega) (by rw [bs_data, hL]; exact ent_h _ fun y hy => G.no y (netsOf_sub hy)) L.length (by simp) _ (fun j hj => ?_) W
    rw [getD_map entH L hd0 _ j hj]
    rfl
  · intro j W hj
    obtain ⟨m0, m1, mr, m2⟩ := G.nr _ (hnx j hj).2.2
    exact kread_any _ _ W m0 m1 mr
  · intro j W hj hW
    exact lin_any w0 K x s E hZ hI G (hnx j hj).2.2 W (H.below hW)
  · intro j W hj
    obtain ⟨m0, m1, mr, m2⟩ := G.nr _ (hnx j hj).2.2
    obtain ⟨t1, t2, _⟩ := rt_iff.1 mr
    exact ksize_any _ W t1 t2
  · intro W
    exact ksize_any p.n W r1 r2
/-- what a book shows is in order -/
theorem sure_any (w0 : World) (K : Nat → Prop) (x : Nat) (s : Bk) (E : EnvT w0) (hZ : 10 ≤ w0.heap.size) (hI : Inv s) (G : Good s) (w : World) (H : HB w0 K x s w) :
    Calls Tryz.prog 15 #[.pointer (some ⟨x, 0, none⟩)] w fun e w' => e = .returned (.bool true) ∧ Below w.heap.size w w' := by
  have hpl := hI.p
  refine sure_at x w (bs (poolsT s)) s.pools.length (by omega) (fun j => bs (bText (s.pools.getD j hd0).a (s.pools.getD j hd0).n)) (fun j => (s.pools.getD j hd0).a) (fun j => (s.pools.getD j hd0).n) (fun j => sz (s.pools.getD j hd0).n) (nxN 0 s.pools) ?_ ?_ ?_ ?_ ?_ ?_ ?_
  · rfl
  · intro j hj
    obtain ⟨q1, q3⟩ := pool_next G hj
    obtain ⟨m0, m1, mr⟩ := G.pr _ q3
    obtain ⟨t1, t2, _⟩ := rt_iff.1 mr
    obtain ⟨y0, y1⟩ := sz_leB t1 t2
    exact ⟨q1, m0, m1, t1, t2, y0, y1, rfl⟩
  · intro W hW
    have h1 := hb_ask w0 K x s (bs (verb 8)) E hZ hI (fun l hl => by rw [bs_data, read_pools] at hl; injection hl with hl; rw [← hl]; show ¬ 8 < 8; omega) W (H.below hW)
    rw [ask_pools] at h1
    exact h1
  · intro W
    have := poolsT_len hI
    refine ent_cells (bs (poolsT s)) (s.pools.map entH) (by rw [bs_size]; omega) (by rw [bs_data]; exact ent_h _ G.po) s.pools.length (by simp) _ (fun j hj => ?_) W
    rw [getD_map entH s.pools hd0 _ j hj]
    rfl
  · intro j W hj
    obtain ⟨m0, m1, mr⟩ := G.pr _ (pool_next G hj).2
    exact kread_any _ _ W m0 m1 mr
  · intro j W hj hW
    exact nin_any w0 K x s E hZ hI G (pool_next G hj).2 W (H.below hW)
  · intro j W hj
    obtain ⟨m0, m1, mr⟩ := G.pr _ (pool_next G hj).2
    obtain ⟨t1, t2, _⟩ := rt_iff.1 mr
    exact ksize_any _ W t1 t2
end Go.Proofs.YtlikdnmikdldfaaGreatDoor
