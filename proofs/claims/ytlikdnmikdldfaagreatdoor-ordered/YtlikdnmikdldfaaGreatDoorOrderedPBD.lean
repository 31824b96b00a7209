/-
  BkTold, BkNm, BkFill, BkFillB, BkLease, BkAg, BkOr, BkSr
-/
import Derived.Test.YtlikdnmikdldfaaGreatDoorOrderedPBC
namespace Go.Proofs.YtlikdnmikdldfaaGreatDoor
open Go.RowKit
set_option linter.unusedVariables false
set_option linter.unusedSimpArgs false

def ansT (L : List (List UInt8)) : List UInt8 := [79, 75] ++ L.flatMap (fun t => 32 :: t)
def poolsT (s : Bk) : List UInt8 := ansT (s.pools.map hText)
def netsT (s : Bk) (p : Hd) : List UInt8 := ansT ((netsOf s.nets p.a p.n).map hText)
def usedT (s : Bk) (h : Hd) : List UInt8 := ansT ((leasesOf s.leases h.a h.n).map lText)
def toldP (s : Bk) (p : Hd) : List (List UInt8) := netsT s p :: (netsOf s.nets p.a p.n).map (usedT s)
def toldS (s : Bk) : List (List UInt8) := poolsT s :: s.pools.flatMap (toldP s)
theorem anText_ok {α : Type} (f : α → List UInt8) (L : List α) : anText ⟨0, L.map fun h => ⟨(f h).toArray⟩⟩ = ansT (L.map f) := by
  unfold anText ansT
  simp only [if_true]
  congr 1
  induction L with
  | nil => rfl
  | cons x r ih => simp only [List.map_cons, List.flatMap_cons]; rw [ih]
theorem parts_ans (L : List (List UInt8)) (h : ∀ x, x ∈ L → (32 : UInt8) ∉ x) : parts 32 (ansT L) = [79, 75] :: L := parts_told [79, 75] L (by decide) h
theorem ans_len {L M : List (List UInt8)} (hL : ∀ x, x ∈ L → (32 : UInt8) ∉ x) (hM : ∀ x, x ∈ M → (32 : UInt8) ∉ x) (e : ansT L = ansT M) : L.length = M.length := by
  have h1 := parts_ans L hL
  rw [e, parts_ans M hM] at h1
  simp at h1
  rw [h1]
theorem hTs_no {l : List Hd} (h : ∀ x, x ∈ l → isName x.o.data.toList = true) : ∀ x, x ∈ l.map hText → (32 : UInt8) ∉ x := fun x hx => by
  obtain ⟨y, hy, rfl⟩ := List.mem_map.1 hx
  exact hText_no (h y hy)
theorem lTs_no {l : List Ls} (h : ∀ x, x ∈ l → isName x.o.data.toList = true) : ∀ x, x ∈ l.map lText → (32 : UInt8) ∉ x := fun x hx => by
  obtain ⟨y, hy, rfl⟩ := List.mem_map.1 hx
  exact lText_no (h y hy)
theorem netsOf_sub {l : List Hd} {a n : Int} {x : Hd} (h : x ∈ netsOf l a n) : x ∈ l := (List.mem_filter.1 h).1
theorem leasesOf_sub {l : List Ls} {a n : Int} {x : Ls} (h : x ∈ leasesOf l a n) : x ∈ l := (List.mem_filter.1 h).1
theorem flat_lt {α β : Type} (f g : α → List β) (l : List α) (h : ∀ x, x ∈ l → (f x).length ≤ (g x).length) (hx : ∃ x, x ∈ l ∧ (f x).length < (g x).length) : (l.flatMap f).length < (l.flatMap g).length := by
  have hle : ∀ r : List α, (∀ x, x ∈ r → (f x).length ≤ (g x).length) → (r.flatMap f).length ≤ (r.flatMap g).length := by
    intro r
    induction r with
    | nil => intro _; simp
    | cons y q ih =>
      intro h
      have h1 := h y (by simp)
      have h2 := ih (fun x hx => h x (by simp [hx]))
      simp only [List.flatMap_cons, List.length_append]; omega
  induction l with
  | nil => obtain ⟨x, hx, _⟩ := hx; simp at hx
  | cons y q ih =>
    have h1 := h y (by simp)
    have h2 := hle q (fun x hx => h x (by simp [hx]))
    simp only [List.flatMap_cons, List.length_append]
    obtain ⟨x, hx, hlt⟩ := hx
    rcases List.mem_cons.1 hx with rfl | hx
    · omega
    · have := ih (fun x hx => h x (by simp [hx])) ⟨x, hx, hlt⟩; omega
theorem flat_eq {α β : Type} (f g : α → List β) (l : List α) (h : ∀ x, x ∈ l → (f x).length = (g x).length) (e : l.flatMap f = l.flatMap g) : ∀ x, x ∈ l → f x = g x := by
  induction l with
  | nil => intro x hx; simp at hx
  | cons y q ih =>
    simp only [List.flatMap_cons] at e
    obtain ⟨e1, e2⟩ := List.append_inj e (h y (by simp))
    intro x hx
    rcases List.mem_cons.1 hx with rfl | hx
    · exact e1
    · exact ih (fun x hx => h x (by simp [hx])) e2 x hx
theorem filter_ins {α : Type} (p : α → Bool) (l : List α) (c : Nat) (x : α) : ((l.take c ++ x :: l.drop c).filter p).length = (l.filter p).length + (if p x then 1 else 0) := by
  conv => rhs; rw [← List.take_append_drop c l]
  rw [List.filter_append, List.filter_append, List.filter_cons]
  split <;> simp <;> omega
theorem filter_del {α : Type} (p : α → Bool) (l : List α) (k : Nat) (d : α) (h : k < l.length) : ((delAt l k).filter p).length + (if p (l.getD k d) then 1 else 0) = (l.filter p).length := by
  unfold delAt
  conv => rhs; rw [← List.take_append_drop k l, List.drop_eq_getElem_cons h]
  rw [List.filter_append, List.filter_append, List.filter_cons, List.getD_eq_getElem?_getD, List.getElem?_eq_getElem h, Option.getD_some]
  split <;> simp <;> omega
theorem toldP_len (s : Bk) (p : Hd) : (toldP s p).length = 1 + (netsOf s.nets p.a p.n).length := by unfold toldP; simp; omega
/-- a subnet more shows -/
theorem shows_net {s s' : Bk} (hp : s'.pools = s.pools) {x : Hd} (hn : ∀ a n, (netsOf s'.nets a n).length = (netsOf s.nets a n).length + (if inn x.a x.n a n then 1 else 0)) (hi : ∃ p, p ∈ s.pools ∧ inn x.a x.n p.a p.n = true) : toldS s' ≠ toldS s := by
  intro e
  have := congrArg List.length e
  unfold toldS at this
  rw [hp, List.length_cons, List.length_cons] at this
  have hlt := flat_lt (toldP s) (toldP s') s.pools (fun p hp => by rw [toldP_len, toldP_len, hn]; omega) (by
    obtain ⟨p, hp, hi⟩ := hi
    exact ⟨p, hp, by rw [toldP_len, toldP_len, hn, if_pos hi]; omega⟩)
  omega
/-- a lease more shows -/
theorem shows_lease {s s' : Bk} (G : Good s) (G' : Good s') (hp : s'.pools = s.pools) (hn : s'.nets = s.nets) {h : Hd} (hh : h ∈ s.nets) (hl : (leasesOf s'.leases h.a h.n).length ≠ (leasesOf s.leases h.a h.n).length) : toldS s' ≠ toldS s := by
  intro e
  unfold toldS at e
  rw [hp, List.cons.injEq] at e
  obtain ⟨p, hpp, hi⟩ := G.ni h hh
  have h1 := flat_eq (toldP s') (toldP s) s.pools (fun p hp => by rw [toldP_len, toldP_len, hn]) e.2 p hpp
  unfold toldP at h1
  rw [hn, List.cons.injEq] at h1
  have h2 := List.map_inj_left.1 h1.2 h (List.mem_filter.2 ⟨hh, hi⟩)
  unfold usedT at h2
  have h3 := ans_len (lTs_no fun x hx => G'.lo x (leasesOf_sub hx)) (lTs_no fun x hx => G.lo x (leasesOf_sub hx)) h2
  simp at h3
  exact hl h3
theorem shows_pool {s s' : Bk} (G : Good s) (G' : Good s') (h : s'.pools.length ≠ s.pools.length) : toldS s' ≠ toldS s := by
  intro e
  unfold toldS at e
  rw [List.cons.injEq] at e
  have h3 := ans_len (hTs_no G'.po) (hTs_no G.po) e.1
  simp at h3
  exact h h3
theorem insH_lenT (l : List Hd) (x : Hd) : (insH l x).length = l.length + 1 := by unfold insH; simp; omega
theorem delAt_lenT {α : Type} (l : List α) (k : Nat) (h : k < l.length) : (delAt l k).length + 1 = l.length := by unfold delAt; simp; omega
theorem findH_lt {l : List Hd} {a n : Int} (h : ¬ findH l a n < 0) : (findH l a n).toNat < l.length := by
  unfold findH at *
  rcases fi_cases (isH a n) l hd0 with ⟨e, _⟩ | ⟨k, hk, e, hp, _⟩
  · rw [e] at h; omega
  · rw [e, Int.toNat_natCast]; exact hk
theorem ins_nets (l : List Hd) (x : Hd) (a n : Int) : (netsOf (insH l x) a n).length = (netsOf l a n).length + (if inn x.a x.n a n then 1 else 0) := filter_ins _ _ _ _
theorem ins_leases (l : List Ls) (x : Ls) (a n : Int) : (leasesOf (insL l x) a n).length = (leasesOf l a n).length + (if inn x.a 32 a n then 1 else 0) := filter_ins _ _ _ _
/-- a command: refused, it changes nothing; done, it shows -/
theorem ln_shows {s : Bk} {l : Ln} (G : Good s) (hg : LnGd l) (hv : l.v < 8) : ((doLn s l).2.e ≠ 0 ∧ (doLn s l).1 = s) ∨ ((doLn s l).2.e = 0 ∧ toldS (doLn s l).1 ≠ toldS s) := by
  have G' := good_ln G hg
  obtain ⟨a0, a1, ar, g1, ho⟩ := hg
  have hc : l.v = 0 ∨ l.v = 1 ∨ l.v = 2 ∨ l.v = 3 ∨ l.v = 4 ∨ l.v = 5 ∨ l.v = 6 ∨ l.v = 7 := by omega
  rcases hc with e | e | e | e | e | e | e | e
  · have hd : doLn s l = doPool s l := by unfold doLn; rw [e]; rfl
    rw [hd] at G' ⊢
    revert G'; unfold doPool
    split
    · intro _; exact .inl ⟨by simp [ref], rfl⟩
    split
    · intro _; exact .inl ⟨by simp [ref], rfl⟩
    split
    · intro _; exact .inl ⟨by simp [ref], rfl⟩
    · intro G'; exact .inr ⟨rfl, shows_pool G G' (by show (insH s.pools _).length ≠ _; rw [insH_lenT]; omega)⟩
  · have hd : doLn s l = doDrop s l := by unfold doLn; rw [e]; rfl
    rw [hd] at G' ⊢
    revert G'; unfold doDrop
    split
    · intro _; exact .inl ⟨by simp [ref], rfl⟩
    split
    · intro _; exact .inl ⟨by simp [ref], rfl⟩
    split
    · intro _; exact .inl ⟨by simp [ref], rfl⟩
    · rename_i h1 _ _
      intro G'; exact .inr ⟨rfl, shows_pool G G' (by have := delAt_lenT s.pools _ (findH_lt h1); show (delAt s.pools _).length ≠ _; omega)⟩
  · have hd : doLn s l = doNet s l := by unfold doLn; rw [e]; rfl
    rw [hd] at G' ⊢
    unfold doNet
    split
    · exact .inl ⟨by simp [ref], rfl⟩
    split
    · exact .inl ⟨by simp [ref], rfl⟩
    rename_i h1 h2
    rcases hb : best (frees 33 (netsOf s.nets l.a l.n) l.a l.n) l.g with _ | b
    · exact .inl ⟨by simp [ref], rfl⟩
    · dsimp only
      split
      · exact .inl ⟨by simp [ref], rfl⟩
      · obtain ⟨r1, r2, r3, r4, r5⟩ := net_apart G g1 h1 hb
        exact .inr ⟨rfl, shows_net (x := ⟨b.1, l.g, l.o⟩) rfl (fun a n => ins_nets _ _ a n) r5⟩
  · have hd : doLn s l = doBlock s l := by unfold doLn; rw [e]; rfl
    rw [hd] at G' ⊢
    unfold doBlock
    split
    · exact .inl ⟨by simp [ref], rfl⟩
    split
    · exact .inl ⟨by simp [ref], rfl⟩
    split
    · exact .inl ⟨by simp [ref], rfl⟩
    split
    · exact .inl ⟨by simp [ref], rfl⟩
    rename_i h1 h2 h3 h4
    obtain ⟨hm, hi⟩ := spanH_at h2
    exact .inr ⟨rfl, shows_net (x := ⟨l.a, l.n, l.o⟩) rfl (fun a n => ins_nets _ _ a n) ⟨_, hm, hi⟩⟩
  · have hd : doLn s l = doFree s l := by unfold doLn; rw [e]; rfl
    rw [hd] at G' ⊢
    unfold doFree
    split
    · exact .inl ⟨by simp [ref], rfl⟩
    split
    · exact .inl ⟨by simp [ref], rfl⟩
    split
    · exact .inl ⟨by simp [ref], rfl⟩
    rename_i h1 h2 h3
    obtain ⟨hm, hma, hmn⟩ := findH_at h1
    refine .inr ⟨rfl, fun q => ?_⟩
    refine shows_net (s := { s with nets := delAt s.nets (findH s.nets l.a l.n).toNat }) (s' := s) (x := s.nets.getD (findH s.nets l.a l.n).toNat hd0) rfl (fun a n => ?_) (G.ni _ hm) q.symm
    exact (filter_del (fun h => inn h.a h.n a n) s.nets _ hd0 (findH_lt h1)).symm
  · have hd : doLn s l = doLease s l := by unfold doLn; rw [e]; rfl
    rw [hd] at G' ⊢
    revert G'; unfold doLease
    split
    · intro _; exact .inl ⟨by simp [ref], rfl⟩
    rename_i h1
    rcases hb : least s.leases l.a l.n with _ | d
    · intro _; exact .inl ⟨by simp [ref], rfl⟩
    · dsimp only
      split
      · intro _; exact .inl ⟨by simp [ref], rfl⟩
      · intro G'
        obtain ⟨hm, hma, hmn⟩ := findH_at h1
        obtain ⟨p, hpe⟩ : ∃ p, p = s.nets.getD (findH s.nets l.a l.n).toNat hd0 := ⟨_, rfl⟩
        rw [← hpe] at hm hma hmn
        rw [← hma, ← hmn] at hb
        obtain ⟨r1, r2, r3⟩ := least_free G hm hb
        obtain ⟨u1, u2⟩ := use_in r1 r2
        refine .inr ⟨rfl, shows_lease G G' rfl rfl hm ?_⟩
        show (leasesOf (insL s.leases ⟨d, l.o⟩) p.a p.n).length ≠ _
        rw [ins_leases, if_pos (inn_use (G.nr p hm).2.2.1 u1 u2)]; omega
  · have hd : doLn s l = doTake s l := by unfold doLn; rw [e]; rfl
    rw [hd] at G' ⊢
    revert G'; unfold doTake
    split
    · intro _; exact .inl ⟨by simp [ref], rfl⟩
    split
    · intro _; exact .inl ⟨by simp [ref], rfl⟩
    split
    · intro _; exact .inl ⟨by simp [ref], rfl⟩
    split
    · intro _; exact .inl ⟨by simp [ref], rfl⟩
    rename_i h1 h2 h3 h4
    intro G'
    obtain ⟨hm, hi⟩ := spanH_at h1
    refine .inr ⟨rfl, shows_lease G G' rfl rfl hm ?_⟩
    show (leasesOf (insL s.leases ⟨l.d, l.o⟩) _ _).length ≠ _
    rw [ins_leases, if_pos hi]; omega
  · have hd : doLn s l = doGive s l := by unfold doLn; rw [e]; rfl
    rw [hd] at G' ⊢
    revert G'; unfold doGive
    split
    · rename_i h1
      split
      · intro _; exact .inl ⟨by simp [ref], rfl⟩
      · intro G'
        have hk : cntL s.leases l.d < s.leases.length ∧ (s.leases.getD (cntL s.leases l.d) ls0).a = l.d := by
          unfold hasL at h1
          simpa using h1
        have hmem : s.leases.getD (cntL s.leases l.d) ls0 ∈ s.leases := by
          rw [List.getD_eq_getElem?_getD, List.getElem?_eq_getElem hk.1]; exact List.getElem_mem hk.1
        obtain ⟨h, hh, q1, q2⟩ := G.li _ hmem
        obtain ⟨u1, u2⟩ := use_in q1 q2
        refine .inr ⟨rfl, shows_lease G G' rfl rfl hh ?_⟩
        have := filter_del (fun y : Ls => inn y.a 32 h.a h.n) s.leases _ ls0 hk.1
        rw [if_pos (inn_use (G.nr h hh).2.2.1 u1 u2)] at this
        show (leasesOf (delAt s.leases (cntL s.leases l.d)) h.a h.n).length ≠ (leasesOf s.leases h.a h.n).length
        unfold leasesOf
        omega
    · intro _; exact .inl ⟨by simp [ref], rfl⟩
end Go.Proofs.YtlikdnmikdldfaaGreatDoor
namespace Go.Proofs.YtlikdnmikdldfaaGreatDoor
open Go.RowKit
set_option linter.unusedVariables false
set_option linter.unusedSimpArgs false

/-! ### what is read -/
theorem rdPart_o {l l' : Ln} {p : Nat} {w : List UInt8} (h : rdPart l p w = some l') : l'.v = l.v ∧ (p = 2 → isName l'.o.data.toList = true) ∧ (p ≠ 2 → l'.o = l.o) ∧ (p = 1 → l'.t = ⟨w.toArray⟩) ∧ (p ≠ 1 → l'.t = l.t) ∧ (p = 1 → isName w = true) := by
  unfold rdPart at h
  split at h
  · split at h
    · rename_i e hn; cases h; exact ⟨rfl, fun q => by omega, fun _ => rfl, fun _ => rfl, fun q => absurd e q, fun _ => hn⟩
    · cases h
  · split at h
    · split at h
      · rename_i e1 e hn
        cases h; exact ⟨rfl, fun _ => by simpa using hn, fun q => absurd e q, fun q => absurd q e1, fun _ => rfl, fun q => absurd q e1⟩
      · cases h
    · rename_i e1 e2
      split at h
      · split at h
        · cases h; exact ⟨rfl, fun q => absurd q e2, fun _ => rfl, fun q => absurd q e1, fun _ => rfl, fun q => absurd q e1⟩
        · cases h
      · split at h
        · split at h
          · cases h; exact ⟨rfl, fun q => absurd q e2, fun _ => rfl, fun q => absurd q e1, fun _ => rfl, fun q => absurd q e1⟩
          · cases h
        · split at h
          · split at h
            · cases h; exact ⟨rfl, fun q => absurd q e2, fun _ => rfl, fun q => absurd q e1, fun _ => rfl, fun q => absurd q e1⟩
            · cases h
          · cases h
theorem rdParts_v : ∀ (ps : List Nat) (ws : List (List UInt8)) (l l' : Ln), rdParts l ps ws = some l' → l'.v = l.v ∧ ((isName l.o.data.toList = true ∨ 2 ∈ ps) → isName l'.o.data.toList = true) ∧ (1 ∉ ps → l'.t = l.t)
  | [], [], l, l', h => by simp [rdParts] at h; subst h; exact ⟨rfl, fun q => q.elim id (by simp), fun _ => rfl⟩
  | [], _ :: _, l, l', h => by simp [rdParts] at h
  | _ :: _, [], l, l', h => by simp [rdParts] at h
  | p :: ps, w :: ws, l, l', h => by
    rw [rdParts] at h
    split at h
    · rename_i l2 e
      obtain ⟨a1, a2, a3, a4, a5, _⟩ := rdPart_o e
      obtain ⟨b1, b2, b3⟩ := rdParts_v ps ws l2 l' h
      refine ⟨b1.trans a1, fun q => b2 ?_, fun q => ?_⟩
      · by_cases hp : p = 2
        · exact .inl (a2 hp)
        · rcases q with q | q
          · rw [a3 hp]; exact .inl q
          · rcases List.mem_cons.1 q with q | q
            · exact absurd q.symm hp
            · exact .inr q
      · simp only [List.mem_cons, not_or] at q
        rw [b3 q.2, a5 (fun e => q.1 e.symm)]
    · cases h
theorem form_cmd {k : Nat} (h : k < 8) : ∃ ps, form k = 1 :: 2 :: ps ∧ 1 ∉ ps := by
  have hc : k = 0 ∨ k = 1 ∨ k = 2 ∨ k = 3 ∨ k = 4 ∨ k = 5 ∨ k = 6 ∨ k = 7 := by omega
  rcases hc with rfl | rfl | rfl | rfl | rfl | rfl | rfl | rfl <;> exact ⟨_, rfl, by decide⟩
/-- a command that is put together of its words: if it is read, its token is the second word -/
theorem read_cmd {k : Nat} (hk : k < 8) {t o r : List UInt8} {l : Ln} (ht : (32 : UInt8) ∉ t) (ho : (32 : UInt8) ∉ o) (h : rdLine (verb k ++ 32 :: (t ++ 32 :: (o ++ 32 :: r))) = some l) : l.v = k ∧ l.t = ⟨t.toArray⟩ := by
  have hs : (verb k ++ 32 :: (t ++ 32 :: (o ++ 32 :: r))).length ≤ 100 := by
    unfold rdLine at h
    split at h
    · assumption
    · cases h
  have hp : parts 32 (verb k ++ 32 :: (t ++ 32 :: (o ++ 32 :: r))) = verb k :: t :: o :: parts 32 r := by
    rw [parts_cons 32 _ _ (verb_no k (by omega)).1, parts_cons 32 _ _ ht, parts_cons 32 _ _ ho]
  rw [rdLine_of hs (by omega) hp] at h
  obtain ⟨ps, e, h1⟩ := form_cmd hk
  rw [e, rdParts] at h
  split at h
  · rename_i l2 e2
    obtain ⟨a1, _, _, a4, _, _⟩ := rdPart_o e2
    obtain ⟨b1, _, b3⟩ := rdParts_v _ _ _ _ h
    have hv : l.v = k := b1.trans (by rw [a1]; rfl)
    refine ⟨hv, ?_⟩
    rw [b3 (by simp [h1]), a4 rfl]
  · cases h
theorem rdPart_gd {l l' : Ln} {p : Nat} {w : List UInt8} (hL : 0 ≤ l.a ∧ l.a < 4294967296 ∧ rt l.a l.n = true ∧ l.g ≤ 32) (h : rdPart l p w = some l') : 0 ≤ l'.a ∧ l'.a < 4294967296 ∧ rt l'.a l'.n = true ∧ l'.g ≤ 32 := by
  unfold rdPart at h
  split at h
  · split at h
    · cases h; exact hL
    · cases h
  · split at h
    · split at h
      · cases h; exact hL
      · cases h
    · split at h
      · split at h
        · rename_i b e
          cases h
          have hb := rd_text (a := b.1) (n := b.2) e
          exact ⟨hb.2.2.1, hb.2.2.2.1, hb.2.1, hL.2.2.2⟩
        · cases h
      · split at h
        · split at h
          · cases h; exact hL
          · cases h
        · split at h
          · split at h
            · rename_i g e
              cases h
              have hb := (num_some.1 e).1
              exact ⟨hL.1, hL.2.1, hL.2.2.1, by dsimp only; omega⟩
            · cases h
          · cases h
theorem rdParts_gd : ∀ (ps : List Nat) (ws : List (List UInt8)) (l l' : Ln), (0 ≤ l.a ∧ l.a < 4294967296 ∧ rt l.a l.n = true ∧ l.g ≤ 32) → rdParts l ps ws = some l' → 0 ≤ l'.a ∧ l'.a < 4294967296 ∧ rt l'.a l'.n = true ∧ l'.g ≤ 32
  | [], [], l, l', hL, h => by simp [rdParts] at h; subst h; exact hL
  | [], _ :: _, l, l', hL, h => by simp [rdParts] at h
  | _ :: _, [], l, l', hL, h => by simp [rdParts] at h
  | p :: ps, w :: ws, l, l', hL, h => by
    rw [rdParts] at h
    split at h
    · rename_i l2 e
      exact rdParts_gd ps ws l2 l' (rdPart_gd hL e) h
    · cases h
theorem rdLine_gd {s : List UInt8} {l : Ln} (h : rdLine s = some l) : LnGd l := by
  unfold rdLine at h
  split at h
  · split at h
    · rename_i w ws e
      split at h
      · cases h
      · have h1 := rdParts_gd _ _ _ _ ⟨Int.le_refl _, by simp [ln0], rt_iff.2 ⟨by simp [ln0], by simp [ln0], by simp [ln0]⟩, by simp [ln0]⟩ h
        obtain ⟨h2, h3, _⟩ := rdParts_v _ _ _ _ h
        refine ⟨h1.1, h1.2.1, h1.2.2.1, h1.2.2.2, fun hv => h3 (.inr ?_)⟩
        obtain ⟨ps, e, _⟩ := form_cmd hv
        rw [h2] at e
        show 2 ∈ form (ln0 (fi (fun v => v == w) verbT).toNat).v
        rw [e]; simp
    · cases h
  · cases h
/-- every line keeps a book in order -/
theorem good_all {s : Bk} (G : Good s) (line : ByteArray) : Good (doAll s line).1 := by
  unfold doAll
  rcases e : rdLine line.data.toList with _ | l
  · exact G
  · have hg := good_ln G (rdLine_gd e)
    have ht : ∀ T, Good { (doLn s l).1 with toks := T } := fun T => ⟨hg.pr, hg.nr, hg.po, hg.no, hg.lo, hg.pp, hg.np, hg.lp, hg.ni, hg.li⟩
    dsimp only
    split
    · split
      · split <;> exact G
      · split
        · exact ht _
        · exact hg
    · exact hg
/-! ### tokens: a letter, and a number to the base 36 -/
def dig36 (d : Nat) : UInt8 := if d < 10 then UInt8.ofNat (48 + d) else UInt8.ofNat (87 + d)
def b36f : Nat → Nat → List UInt8
  | 0, _ => []
  | f + 1, n => (if n / 36 = 0 then [] else b36f f (n / 36)) ++ [dig36 (n % 36)]
def b36 (n : Nat) : List UInt8 := b36f (n + 1) n
def val36 (l : List UInt8) : Nat := l.foldl (fun a c => 36 * a + (if c.toNat < 58 then c.toNat - 48 else c.toNat - 87)) 0
theorem dig36_val : ∀ d : Fin 36, (if (dig36 d).toNat < 58 then (dig36 d).toNat - 48 else (dig36 d).toNat - 87) = (d : Nat) := by decide +kernel
theorem dig36_name : ∀ d : Fin 36, (97 ≤ (dig36 d).toNat ∧ (dig36 d).toNat ≤ 122) ∨ (48 ≤ (dig36 d).toNat ∧ (dig36 d).toNat ≤ 57) := by decide +kernel
theorem val36_snoc (l : List UInt8) (c : UInt8) : val36 (l ++ [c]) = 36 * val36 l + (if c.toNat < 58 then c.toNat - 48 else c.toNat - 87) := by simp [val36]
theorem val36_f (f : Nat) : ∀ n, n < f → val36 (b36f f n) = n := by
  induction f with
  | zero => intro n h; omega
  | succ f ih =>
    intro n h
    unfold b36f
    rw [val36_snoc, dig36_val ⟨n % 36, by omega⟩]
    show 36 * _ + n % 36 = n
    split
    · simp [val36]; omega
    · rw [ih (n / 36) (by omega)]; omega
theorem val36_b (n : Nat) : val36 (b36 n) = n := val36_f (n + 1) n (by omega)
theorem b36_inj {a b : Nat} (h : b36 a = b36 b) : a = b := by rw [← val36_b a, ← val36_b b, h]
theorem b36f_more (f : Nat) : ∀ n g, n < f → f ≤ g → b36f g n = b36f f n := by
  induction f with
  | zero => intro n g h; omega
  | succ f ih =>
    intro n g h hg
    obtain ⟨g, rfl⟩ : ∃ q, g = q + 1 := ⟨g - 1, by omega⟩
    unfold b36f
    split
    · rfl
    · rw [ih (n / 36) g (by omega) (by omega)]
theorem b36_eq (n : Nat) : b36 n = (if n / 36 = 0 then [] else b36 (n / 36)) ++ [dig36 (n % 36)] := by
  unfold b36
  conv => lhs; unfold b36f
  split
  · rfl
  · rw [b36f_more (n / 36 + 1) (n / 36) n (by omega) (by omega)]
theorem b36_len (n : Nat) (k : Nat) : n < 36 ^ k → (b36 n).length ≤ k + 1 := by
  induction k generalizing n with
  | zero => intro h; rw [b36_eq, if_pos (by omega)]; simp
  | succ k ih =>
    intro h
    rw [b36_eq]
    split
    · simp
    · have := ih (n / 36) (by rw [Nat.pow_succ] at h; omega)
      simp; omega
theorem b36_all (n : Nat) : ∀ c, c ∈ b36 n → (97 ≤ c.toNat ∧ c.toNat ≤ 122) ∨ (48 ≤ c.toNat ∧ c.toNat ≤ 57) := by
  induction n using Nat.strongRecOn with
  | ind n ih =>
    intro c hc
    rw [b36_eq] at hc
    rcases List.mem_append.1 hc with hc | hc
    · split at hc
      · simp at hc
      · exact ih (n / 36) (by omega) c hc
    · rw [List.mem_singleton] at hc
      subst hc
      exact dig36_name ⟨n % 36, by omega⟩
end Go.Proofs.YtlikdnmikdldfaaGreatDoor
namespace Go.Proofs.YtlikdnmikdldfaaGreatDoor
open Go.RowKit
set_option linter.unusedVariables false
set_option linter.unusedSimpArgs false

def B0 : Int := 167772160
def annT : List UInt8 := [97, 110, 110]
def bobT : List UInt8 := [98, 111, 98]
def cyT : List UInt8 := [99, 121]
end Go.Proofs.YtlikdnmikdldfaaGreatDoor
namespace Go.Proofs.YtlikdnmikdldfaaGreatDoor
open Go.RowKit
set_option linter.unusedVariables false
set_option linter.unusedSimpArgs false

end Go.Proofs.YtlikdnmikdldfaaGreatDoor
namespace Go.Proofs.YtlikdnmikdldfaaGreatDoor
open Go.RowKit
set_option linter.unusedVariables false
set_option linter.unusedSimpArgs false

/-- one of three owners -/
def own3 (k : Nat) : List UInt8 := if k % 3 = 0 then annT else if k % 3 = 1 then bobT else cyT
end Go.Proofs.YtlikdnmikdldfaaGreatDoor
namespace Go.Proofs.YtlikdnmikdldfaaGreatDoor
open Go.RowKit
set_option linter.unusedVariables false
set_option linter.unusedSimpArgs false

/-- a command by its words: verb, token, owner, and the rest -/
def cmdL (k : Nat) (t o r : List UInt8) : List UInt8 := verb k ++ 32 :: (t ++ 32 :: (o ++ 32 :: r))
def byt (l : List UInt8) : ByteArray := ⟨l.toArray⟩
theorem byt_data (l : List UInt8) : (byt l).data.toList = l := rfl
theorem byt_inj {a b : List UInt8} (h : byt a = byt b) : a = b := by
  have := congrArg (fun x => x.data.toList) h
  simpa [byt] using this
def okS (s : ByteArray) : Bool := decide (s.data.toList.take 2 = [79, 75])
theorem okS_an (a : An) : okS (byt (anText a)) = decide (a.e = 0) := by
  unfold okS
  rw [byt_data]
  unfold anText
  split
  · rename_i h; simp [h]
  · rename_i h; simp [h]
theorem ln_toks (s : Bk) (l : Ln) : (doLn s l).1.toks = s.toks := by
  unfold doLn doPool doDrop doNet doBlock doFree doLease doTake doGive
  repeat' (first | rfl | split)
theorem findT_noneA {l : List Tk} {t : ByteArray} (h : ∀ x, x ∈ l → x.t ≠ t) : findT l t = none := by
  unfold findT
  rw [List.filter_eq_nil_iff.2 (fun x hx => by simpa using h x hx)]
  rfl
theorem no_line {s : Bk} {L : ByteArray} (e : rdLine L.data.toList = none) : doAll s L = (s, byt (anText (ref 2))) := by
  unfold doAll
  rw [e]
  rfl
theorem some_line {s : Bk} {L : ByteArray} {l : Ln} (e : rdLine L.data.toList = some l) (hv : l.v < 8) : doAll s L =
    match findT s.toks l.t with
    | some x => if x.l ≠ L then (s, byt (anText (ref 3))) else (s, x.r)
    | none => if (doLn s l).2.e = 0 then ({ (doLn s l).1 with toks := addT (doLn s l).1.toks ⟨l.t, L, byt (anText (doLn s l).2)⟩ }, byt (anText (doLn s l).2)) else ((doLn s l).1, byt (anText (doLn s l).2)) := by
  unfold doAll
  rw [e]
  dsimp only
  rw [if_pos hv]
  rfl
/-- what a command does to the tokens -/
theorem cmd_toks {s : Bk} {k : Nat} (hk : k < 8) {t o r : List UInt8} (ht : (32 : UInt8) ∉ t) (ho : (32 : UInt8) ∉ o) :
    (doAll s (byt (cmdL k t o r))).1.toks = s.toks ∨ ∃ y : Tk, y.t = byt t ∧ (doAll s (byt (cmdL k t o r))).1.toks = addT s.toks y := by
  rcases e : rdLine (byt (cmdL k t o r)).data.toList with _ | l
  · rw [no_line e]; exact .inl rfl
  · obtain ⟨h1, h2⟩ := read_cmd hk ht ho (by rw [byt_data] at e; exact e)
    rw [some_line e (by omega)]
    split
    · split <;> exact .inl rfl
    · split
      · exact .inr ⟨_, h2, by rw [ln_toks]⟩
      · exact .inl (ln_toks s l)
/-- a line that opens with a question's verb is a question, or none -/
theorem ask_verb {k : Nat} (hk : k < 11) {r : List UInt8} {l : Ln} (h : rdLine (verb k ++ 32 :: r) = some l) : l.v = k := by
  have hs : (verb k ++ 32 :: r).length ≤ 100 := by
    unfold rdLine at h
    split at h
    · assumption
    · cases h
  rw [rdLine_of hs hk (parts_cons 32 _ _ (verb_no k hk).1)] at h
  exact (rdParts_v _ _ _ _ h).1.trans rfl
theorem addT_mem {l : List Tk} {x y : Tk} (h : y ∈ addT l x) : y ∈ l ∨ y = x := by
  unfold addT at h
  rcases List.mem_append.1 h with h | h
  · split at h
    · exact .inl (List.mem_of_mem_drop h)
    · exact .inl h
  · exact .inr (by simpa using h)
end Go.Proofs.YtlikdnmikdldfaaGreatDoor
namespace Go.Proofs.YtlikdnmikdldfaaGreatDoor
open Go.RowKit
set_option linter.unusedVariables false
set_option linter.unusedSimpArgs false

/-- the token of the n-th step -/
def tkT (n : Nat) : List UInt8 := 116 :: b36 n
theorem tkT_no (c : UInt8) (n : Nat) : (32 : UInt8) ∉ c :: b36 n ∨ c = 32 := by
  by_cases h : c = 32
  · exact .inr h
  · refine .inl fun q => ?_
    rcases List.mem_cons.1 q with e | e
    · exact h e.symm
    · have := b36_all n _ e
      simp at this
theorem tkT_blank (n : Nat) : (32 : UInt8) ∉ tkT n := (tkT_no 116 n).resolve_right (by decide)
theorem tkT_inj {a b : Nat} (h : tkT a = tkT b) : a = b := b36_inj (List.cons.inj h).2
/-- the tokens are those of earlier steps -/
def Frsh (n : Nat) (s : Bk) : Prop := ∀ x, x ∈ s.toks → ∃ j, j < n ∧ x.t = byt (tkT j)
theorem frsh_next {n : Nat} {s : Bk} (h : Frsh n s) {k : Nat} (hk : k < 8) {o r : List UInt8} (ho : (32 : UInt8) ∉ o) : Frsh (n + 1) (doAll s (byt (cmdL k (tkT n) o r))).1 := by
  intro x hx
  rcases cmd_toks (s := s) (r := r) hk (tkT_blank n) ho with e | ⟨y, hy, e⟩
  · rw [e] at hx
    obtain ⟨j, q1, q2⟩ := h x hx
    exact ⟨j, by omega, q2⟩
  · rw [e] at hx
    rcases addT_mem hx with q | q
    · obtain ⟨j, q1, q2⟩ := h x q
      exact ⟨j, by omega, q2⟩
    · exact ⟨n, by omega, by rw [q, hy]⟩
/-- refused: nothing shows; done: it shows -/
theorem or_step {n : Nat} {s : Bk} (G : Good s) (h : Frsh n s) {k : Nat} (hk : k < 8) {o r : List UInt8} (ho : (32 : UInt8) ∉ o) :
    okS (doAll s (byt (cmdL k (tkT n) o r))).2 = decide (toldS (doAll s (byt (cmdL k (tkT n) o r))).1 ≠ toldS s) := by
  rcases e : rdLine (byt (cmdL k (tkT n) o r)).data.toList with _ | l
  · rw [no_line e, okS_an]; simp [ref]
  · have e' : rdLine (cmdL k (tkT n) o r) = some l := by rw [byt_data] at e; exact e
    obtain ⟨h1, h2⟩ := read_cmd hk (tkT_blank n) ho e'
    have hf : findT s.toks l.t = none := findT_noneA (fun x hx q => by
      obtain ⟨j, q1, q2⟩ := h x hx
      rw [h2] at q
      have := tkT_inj (byt_inj (q2.symm.trans q))
      omega)
    rw [some_line e (by omega), hf]
    dsimp only
    rcases ln_shows G (rdLine_gd e') (by omega) with ⟨a1, a2⟩ | ⟨a1, a2⟩
    · rw [if_neg a1]
      dsimp only
      rw [okS_an, a2]; simp [a1]
    · rw [if_pos a1]
      dsimp only
      rw [okS_an]
      have e3 : toldS { (doLn s l).1 with toks := addT (doLn s l).1.toks ⟨l.t, byt (cmdL k (tkT n) o r), byt (anText (doLn s l).2)⟩ } = toldS (doLn s l).1 := rfl
      rw [e3]
      simp [a1, a2]
end Go.Proofs.YtlikdnmikdldfaaGreatDoor
namespace Go.Proofs.YtlikdnmikdldfaaGreatDoor
open Go.RowKit
set_option linter.unusedVariables false
set_option linter.unusedSimpArgs false

theorem pair_at {α : Type} {R : α → α → Prop} {l : List α} (h : l.Pairwise R) (d : α) {k : Nat} (hk : k + 1 < l.length) : R (l.getD k d) (l.getD (k + 1) d) := by
  rw [List.getD_eq_getElem?_getD, List.getD_eq_getElem?_getD, List.getElem?_eq_getElem hk, List.getElem?_eq_getElem (by omega)]
  exact List.pairwise_iff_getElem.1 h k (k + 1) (by omega) hk (by omega)
theorem getD_mem {α : Type} {l : List α} (d : α) {k : Nat} (hk : k < l.length) : l.getD k d ∈ l := by
  rw [List.getD_eq_getElem?_getD, List.getElem?_eq_getElem hk]; exact List.getElem_mem hk
/-- where the next lease may lie -/
def nxL (h : Hd) (L : List Ls) : Nat → Int
  | 0 => useA h.a h.n
  | k + 1 => (L.getD k ls0).a + 1
def nxN (st : Int) (N : List Hd) : Nat → Int
  | 0 => st
  | k + 1 => (N.getD k hd0).a + sz (N.getD k hd0).n
theorem use_bd {a n : Int} (h0 : 0 ≤ a) (h1 : a < 4294967296) (hr : rt a n = true) : a ≤ useA a n ∧ useZ a n ≤ a + sz n - 1 ∧ a + sz n ≤ 4294967296 := by
  obtain ⟨r1, r2, r3⟩ := rt_iff.1 hr
  have e : a + sz n ≤ 4294967296 := by
    obtain ⟨m, hm, _⟩ := sz_whole n r1 r2
    have hs := sz_pos n
    have h2 : a = sz n * (a / sz n) := by have := Int.mul_ediv_add_emod a (sz n); omega
    have h3 : a / sz n < m := by
      rcases Int.lt_or_le (a / sz n) m with q | q
      · exact q
      · exfalso
        have := Int.mul_le_mul_of_nonneg_left q (Int.le_of_lt hs)
        omega
    have h4 : sz n * (a / sz n + 1) ≤ sz n * m := Int.mul_le_mul_of_nonneg_left (by omega) (Int.le_of_lt hs)
    rw [Int.mul_add, Int.mul_one] at h4
    omega
  unfold useA useZ lst
  split <;> exact ⟨by omega, by omega, e⟩
theorem lease_next {s : Bk} (G : Good s) {h : Hd} (hh : h ∈ s.nets) {k : Nat} (hk : k < (leasesOf s.leases h.a h.n).length) :
    nxL h (leasesOf s.leases h.a h.n) k ≤ ((leasesOf s.leases h.a h.n).getD k ls0).a ∧ ((leasesOf s.leases h.a h.n).getD k ls0).a ≤ useZ h.a h.n ∧ 0 ≤ ((leasesOf s.leases h.a h.n).getD k ls0).a ∧ ((leasesOf s.leases h.a h.n).getD k ls0).a < 4294967296 := by
  have hm := getD_mem ls0 hk
  obtain ⟨m1, m2⟩ := List.mem_filter.1 hm
  have hu := use_of G hh m1 m2
  obtain ⟨g1, g2, g3, _⟩ := G.nr h hh
  have hb := use_bd g1 g2 g3
  refine ⟨?_, hu.2, by omega, by omega⟩
  cases k with
  | zero => exact hu.1
  | succ k =>
    have hp : (leasesOf s.leases h.a h.n).Pairwise fun x y => x.a < y.a := G.lp.filter _
    have := pair_at hp ls0 hk
    show (List.getD _ k ls0).a + 1 ≤ _
    omega
theorem net_next {s : Bk} (G : Good s) {p : Hd} (hp : p ∈ s.pools) {k : Nat} (hk : k < (netsOf s.nets p.a p.n).length) :
    nxN p.a (netsOf s.nets p.a p.n) k ≤ ((netsOf s.nets p.a p.n).getD k hd0).a ∧ ((netsOf s.nets p.a p.n).getD k hd0).a + sz ((netsOf s.nets p.a p.n).getD k hd0).n ≤ p.a + sz p.n ∧ ((netsOf s.nets p.a p.n).getD k hd0) ∈ s.nets := by
  have hm := getD_mem hd0 hk
  obtain ⟨m1, m2⟩ := List.mem_filter.1 hm
  obtain ⟨g1, g2, g3, _⟩ := G.nr _ m1
  obtain ⟨q1, q2, q3⟩ := G.pr p hp
  obtain ⟨i1, i2, i3⟩ := (inn_in g3 q3).1 m2
  refine ⟨?_, i3, m1⟩
  cases k with
  | zero => exact i2
  | succ k =>
    have hw : (netsOf s.nets p.a p.n).Pairwise fun x y => x.a + sz x.n ≤ y.a := G.np.filter _
    exact pair_at hw hd0 hk
theorem pool_next {s : Bk} (G : Good s) {k : Nat} (hk : k < s.pools.length) : nxN 0 s.pools k ≤ (s.pools.getD k hd0).a ∧ s.pools.getD k hd0 ∈ s.pools := by
  have hm := getD_mem hd0 hk
  refine ⟨?_, hm⟩
  cases k with
  | zero => exact (G.pr _ hm).1
  | succ k => exact pair_at G.pp hd0 hk
end Go.Proofs.YtlikdnmikdldfaaGreatDoor
