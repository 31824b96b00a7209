/-
  The law Back, walked.
-/
import Derived.Test.YtjnhhnbgjjkkjaaDoorBackA
import Derived.Test.YtjnhhnbgjjkkjaaDoorBackB
import Derived.Test.YtjnhhnbgjjkkjaaDoorBackC
import Derived.Test.YtjnhhnbgjjkkjaaDoorBackD
namespace Go.Proofs.YtjnhhnbgjjkkjaaDoor
open Go.ChangeShapes Go.WideShapes Go.ChangeAt Go.RowKit
set_option linter.unusedVariables false
set_option linter.unusedSimpArgs false
attribute [local go_sem ↓] Go.wp_at_zero Go.wp_at_succ

theorem back_walk (a0 c0 : Int) (more s : ByteArray) (w : World) (E : Env w) (h0 : 0 ≤ a0) (h1 : a0 < 4294967296) (hc : -9223372036854775808 ≤ c0 ∧ c0 ≤ 9223372036854775807) (hm : more.size ≤ 1048576) (hs : s.size ≤ 1048576) :
    Calls Tryd.prog 5 #[.agg #[.int .u32 a0, .int .i64 c0], .string more, .string s] w fun e w' => e = .returned (.bool true) ∧ Below w.heap.size w w' := by
  obtain ⟨p0, p1⟩ := pk_bd c0 33 (by omega)
  obtain ⟨g0, g1⟩ := pk_bd c0 1000 (by omega)
  obtain ⟨A0, A2⟩ := shp_bd a0 (pk c0 33) h0 h1
  have hr := shp_rt a0 (pk c0 33) p0 (by omega)
  obtain ⟨A, hA⟩ : ∃ A, A = shp a0 (pk c0 33) := ⟨_, rfl⟩
  obtain ⟨N, hN⟩ : ∃ N, N = pk c0 33 := ⟨_, rfl⟩
  obtain ⟨g, hg⟩ : ∃ g, g = pk c0 1000 := ⟨_, rfl⟩
  rw [← hA] at A0 A2 hr
  rw [← hN] at hr
  have cs : ∀ w, Calls Tryd.prog 12 #[.agg #[.int .u32 a0, .int .i64 c0]] w fun e w' => e = .returned (.agg #[.int .u32 A, .int .i64 N]) ∧ Below w.heap.size w w' := by rw [hA, hN]; exact fun w => shaped_any a0 c0 w h0 h1 hc
  rw [← hN] at p0 p1
  rw [← hg] at g0 g1
  have hS : wrS A N = bs (wr A.toNat N.toNat) := by simp [wrS, hr]
  have hE : wrE A N = 0 := by simp [wrE, hr]
  have hdot : (dot A.toNat).length ≤ 15 := dot_len _ (by omega)
  have hdec : (dec N.toNat).length ≤ 3 := dec_len3 _ (by omega)
  have hwr : (wr A.toNat N.toNat).length ≤ 20 := by simp only [wr, List.length_append, List.length_cons]; omega
  obtain ⟨t, ht'⟩ : ∃ t, t = bs (wr A.toNat N.toNat) := ⟨_, rfl⟩
  obtain ⟨d, hd'⟩ : ∃ d, d = bs (dot A.toNat) := ⟨_, rfl⟩
  obtain ⟨q, hq'⟩ : ∃ q, q = bs (dec N.toNat) := ⟨_, rfl⟩
  have ht : t.size ≤ 20 := by rw [ht', bs_size]; exact hwr
  have hd : d.size ≤ 15 := by rw [hd', bs_size]; exact hdot
  have hq : q.size ≤ 3 := by rw [hq', bs_size]; exact hdec
  have htd : t.data.toList = wr A.toNat N.toNat := by rw [ht', bs_data]
  have heq : (t.toList == (d ++ (⟨#[47]⟩ : ByteArray) ++ q).toList) = true := by
    rw [ht', hd', hq', wr_cat]; simp
  have hrt := rd_wr A0 A2 hr
  have cw1 : ∀ w, Env w → Calls Tryd.prog 10 #[.agg #[.int .u32 A, .int .i64 N]] w fun e w' => e = .returned (.tuple #[.string t, .int .i64 0]) ∧ Below w.heap.size w w' := fun w E => by
    have h := awrite_any A N w E A0 A2
    rw [hS, hE, ← ht'] at h; exact h
  have rdd : ∀ (x : ByteArray), x.size ≤ 2097152 → ∀ w, Env w → Calls Tryd.prog 6 #[.string x] w fun e w' => e = .returned (.tuple #[.agg #[.int .u32 (rdB x.data.toList), .int .i64 (rdN x.data.toList)], .int .i64 (rdE x.data.toList)]) ∧ Below w.heap.size w w' := fun x hx w E => aread_any x w E hx
  have cr1 : ∀ w, Env w → Calls Tryd.prog 6 #[.string t] w fun e w' => e = .returned (.tuple #[.agg #[.int .u32 (A), .int .i64 (N)], .int .i64 (0)]) ∧ Below w.heap.size w w' := fun w E => by
    have h := rdd t (by omega) w E
    rw [htd] at h
    obtain ⟨q1, q2, q3⟩ := rd_some hrt
    rw [q1, q2, q3] at h; exact h
  have ca : ∀ w, Calls Tryd.prog 13 #[.int .u32 A] w fun e w' => e = .returned (.string d) ∧ Below w.heap.size w w' := fun w => by rw [hd']; exact kaddr_any A w A0 A2
  have cd : ∀ w, Calls Tryd.prog 14 #[.int .i64 N] w fun e w' => e = .returned (.string q) ∧ Below w.heap.size w w' := fun w => by rw [hq']; exact kdigits_any N w p0 (by omega)
  have cp : ∀ w, Calls Tryd.prog 15 #[.int .i64 c0, .int .i64 1000] w fun e w' => e = .returned (.int .i64 g) ∧ w' = w := fun w => by rw [hg]; exact pick_any c0 1000 w hc (by omega) (by omega)
  have cbad : ∀ x y : Int, 0 ≤ x → x < 4294967296 → rt x y = false → ∀ w, Env w → Calls Tryd.prog 10 #[.agg #[.int .u32 x, .int .i64 y]] w fun e w' => e = .returned (.tuple #[.string ⟨#[]⟩, .int .i64 2]) ∧ Below w.heap.size w w' := fun x y x0 x1 hf w E => by
    have h := awrite_any x y w E x0 x1
    rw [show wrS x y = ⟨#[]⟩ by simp [wrS, hf], show wrE x y = 2 by simp [wrE, hf]] at h; exact h
  have cw3 := cbad 0 (33 + g) (by omega) (by omega) (rt_out (by omega))
  have cw2 : N < 32 → _ := fun hlt => cbad (A + 1) N (by omega) (rt_next A0 A2 hr hlt).2 (rt_next A0 A2 hr hlt).1
  have A1 : A + 1 < 4294967296 ∨ N = 32 := by
    by_cases h : N < 32
    · exact .inl (rt_next A0 A2 hr h).2
    · exact .inr (by omega)
  have cr3n : rd s.data.toList = none → ∀ w, Env w → Calls Tryd.prog 6 #[.string s] w fun e w' => e = .returned (.tuple #[.agg #[.int .u32 (0), .int .i64 (0)], .int .i64 (1)]) ∧ Below w.heap.size w w' := fun hz w E => by
    have h := rdd s (by omega) w E
    obtain ⟨q1, q2, q3⟩ := rd_none hz
    rw [q1, q2, q3] at h; exact h
  have cr3s : ∀ za zn, rd s.data.toList = some (za, zn) → ∀ w, Env w → Calls Tryd.prog 6 #[.string s] w fun e w' => e = .returned (.tuple #[.agg #[.int .u32 (za), .int .i64 (zn)], .int .i64 (0)]) ∧ Below w.heap.size w w' := fun za zn hz w E => by
    have h := rdd s (by omega) w E
    obtain ⟨q1, q2, q3⟩ := rd_some hz
    rw [q1, q2, q3] at h; exact h
  have cw4 : ∀ za zn, rd s.data.toList = some (za, zn) → ∀ w, Env w → Calls Tryd.prog 10 #[.agg #[.int .u32 za, .int .i64 zn]] w fun e w' => e = .returned (.tuple #[.string s, .int .i64 0]) ∧ Below w.heap.size w w' := fun za zn hz w E => by
    obtain ⟨hl, hr', z0, z1, _, _⟩ := rd_text hz
    have h := awrite_any za zn w E z0 z1
    rw [show wrS za zn = s by simp only [wrS, hr']; rw [← hl]; simp [bs_of], show wrE za zn = 0 by simp [wrE, hr']] at h; exact h
  have hms : (t ++ more).size ≤ 2097152 := by rw [ByteArray.size_append]; omega
  have hmd : (t ++ more).data.toList = wr A.toNat N.toNat ++ more.data.toList := by rw [ht', ← bs_of more, bs_append, bs_data, bs_data]
  rcases hy : rd (t ++ more).data.toList with _ | ⟨ya, yn⟩
  · have cr2 : ∀ w, Env w → Calls Tryd.prog 6 #[.string (t ++ more)] w fun e w' => e = .returned (.tuple #[.agg #[.int .u32 (0), .int .i64 (0)], .int .i64 (1)]) ∧ Below w.heap.size w w' := fun w E => by
      have h := rdd (t ++ more) hms w E
      obtain ⟨q1, q2, q3⟩ := rd_none hy
      rw [q1, q2, q3] at h; exact h
    by_cases h32 : N = 32
    · rcases hz : rd s.data.toList with _ | ⟨za, zn⟩
      · exact back_none_32 a0 c0 A N g t d q more s w E cs cw1 cr1 ca cd cp cw3 A0 A1 A2 g0 g1 ht hd hq hm heq  cr2 h32 (cr3n hz)
      · exact back_none_32_z a0 c0 A N g t d q more s w E cs cw1 cr1 ca cd cp cw3 A0 A1 A2 g0 g1 ht hd hq hm heq  cr2 h32 za zn (cr3s za zn hz) (cw4 za zn hz)
    · have hN : N < 32 := by omega
      rcases hz : rd s.data.toList with _ | ⟨za, zn⟩
      · exact back_none a0 c0 A N g t d q more s w E cs cw1 cr1 ca cd cp cw3 A0 A1 A2 g0 g1 ht hd hq hm heq  cr2 hN (cw2 hN) (cr3n hz)
      · exact back_none_z a0 c0 A N g t d q more s w E cs cw1 cr1 ca cd cp cw3 A0 A1 A2 g0 g1 ht hd hq hm heq  cr2 hN (cw2 hN) za zn (cr3s za zn hz) (cw4 za zn hz)
  · have cr2 : ∀ w, Env w → Calls Tryd.prog 6 #[.string (t ++ more)] w fun e w' => e = .returned (.tuple #[.agg #[.int .u32 (ya), .int .i64 (yn)], .int .i64 (0)]) ∧ Below w.heap.size w w' := fun w E => by
      have h := rdd (t ++ more) hms w E
      obtain ⟨q1, q2, q3⟩ := rd_some hy
      rw [q1, q2, q3] at h; exact h
    rcases hye : (ya == A) with _ | _
    · by_cases h32 : N = 32
      · rcases hz : rd s.data.toList with _ | ⟨za, zn⟩
        · exact back_other_32 a0 c0 A N g t d q more s w E cs cw1 cr1 ca cd cp cw3 A0 A1 A2 g0 g1 ht hd hq hm heq ya yn hye cr2 h32 (cr3n hz)
        · exact back_other_32_z a0 c0 A N g t d q more s w E cs cw1 cr1 ca cd cp cw3 A0 A1 A2 g0 g1 ht hd hq hm heq ya yn hye cr2 h32 za zn (cr3s za zn hz) (cw4 za zn hz)
      · have hN : N < 32 := by omega
        rcases hz : rd s.data.toList with _ | ⟨za, zn⟩
        · exact back_other a0 c0 A N g t d q more s w E cs cw1 cr1 ca cd cp cw3 A0 A1 A2 g0 g1 ht hd hq hm heq ya yn hye cr2 hN (cw2 hN) (cr3n hz)
        · exact back_other_z a0 c0 A N g t d q more s w E cs cw1 cr1 ca cd cp cw3 A0 A1 A2 g0 g1 ht hd hq hm heq ya yn hye cr2 hN (cw2 hN) za zn (cr3s za zn hz) (cw4 za zn hz)
    rcases hyn : (yn == N) with _ | _
    · by_cases h32 : N = 32
      · rcases hz : rd s.data.toList with _ | ⟨za, zn⟩
        · exact back_bits_32 a0 c0 A N g t d q more s w E cs cw1 cr1 ca cd cp cw3 A0 A1 A2 g0 g1 ht hd hq hm heq ya yn hye hyn cr2 h32 (cr3n hz)
        · exact back_bits_32_z a0 c0 A N g t d q more s w E cs cw1 cr1 ca cd cp cw3 A0 A1 A2 g0 g1 ht hd hq hm heq ya yn hye hyn cr2 h32 za zn (cr3s za zn hz) (cw4 za zn hz)
      · have hN : N < 32 := by omega
        rcases hz : rd s.data.toList with _ | ⟨za, zn⟩
        · exact back_bits a0 c0 A N g t d q more s w E cs cw1 cr1 ca cd cp cw3 A0 A1 A2 g0 g1 ht hd hq hm heq ya yn hye hyn cr2 hN (cw2 hN) (cr3n hz)
        · exact back_bits_z a0 c0 A N g t d q more s w E cs cw1 cr1 ca cd cp cw3 A0 A1 A2 g0 g1 ht hd hq hm heq ya yn hye hyn cr2 hN (cw2 hN) za zn (cr3s za zn hz) (cw4 za zn hz)
    · have e1 : ya = A := by simpa using hye
      have e2 : yn = N := by simpa using hyn
      rw [e1, e2] at hy cr2
      have hmo : more.toList = [] := by
        rw [hmd] at hy
        rw [Lib.toList_data]; exact rd_more A0 A2 hr hy
      by_cases h32 : N = 32
      · rcases hz : rd s.data.toList with _ | ⟨za, zn⟩
        · exact back_same_32 a0 c0 A N g t d q more s w E cs cw1 cr1 ca cd cp cw3 A0 A1 A2 g0 g1 ht hd hq hm heq hmo cr2 h32 (cr3n hz)
        · exact back_same_32_z a0 c0 A N g t d q more s w E cs cw1 cr1 ca cd cp cw3 A0 A1 A2 g0 g1 ht hd hq hm heq hmo cr2 h32 za zn (cr3s za zn hz) (cw4 za zn hz)
      · have hN : N < 32 := by omega
        rcases hz : rd s.data.toList with _ | ⟨za, zn⟩
        · exact back_same a0 c0 A N g t d q more s w E cs cw1 cr1 ca cd cp cw3 A0 A1 A2 g0 g1 ht hd hq hm heq hmo cr2 hN (cw2 hN) (cr3n hz)
        · exact back_same_z a0 c0 A N g t d q more s w E cs cw1 cr1 ca cd cp cw3 A0 A1 A2 g0 g1 ht hd hq hm heq hmo cr2 hN (cw2 hN) za zn (cr3s za zn hz) (cw4 za zn hz)
end Go.Proofs.YtjnhhnbgjjkkjaaDoor
