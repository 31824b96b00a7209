/-
  BkTold, BkNm, BkDe, BkHb, BkLease, BkFw, BkFx, BkFz, FilledWalk, GreatEnv, FilledProof
-/
import Derived.Test.YtlikdnmikdldfaaGreatDoorCards
import Derived.Test.YtlikdnmikdldfaaGreatDoorTie
import Derived.Deep.DeepHandedRow
import Derived.Lib.LaidTab
import Derived.Stop.LaidErr
import Derived.Lay
import Derived.OpenShut
import Derived.Lib.SmallJoins
import Derived.Test.YtlikdnmikdldfaaGreatDoorFilledPH
namespace Go.Proofs.YtlikdnmikdldfaaGreatDoor
open Go.RowKit
set_option linter.unusedVariables false
set_option linter.unusedSimpArgs false

def ansT (L : List (List UInt8)) : List UInt8 := [79, 75] ++ L.flatMap (fun t => 32 :: t)
def poolsT (s : Bk) : List UInt8 := ansT (s.pools.map hText)
def netsT (s : Bk) (p : Hd) : List UInt8 := ansT ((netsOf s.nets p.a p.n).map hText)
def usedT (s : Bk) (h : Hd) : List UInt8 := ansT ((leasesOf s.leases h.a h.n).map lText)
def toldP (s : Bk) (p : Hd) : List (List UInt8) := netsT s p :: (netsOf s.nets p.a p.n).map (usedT s)
def toldS (s : Bk) : List (List UInt8) := poolsT s :: s.pools.flatMap (toldP s)
theorem anText_ok {α : Type} (f : α → List UInt8) (L : List α) : anText ⟨0, L.map fun h => ⟨(f h).toArray⟩⟩ = ansT (L.map f) := by
  unfold anText ansT
  simp only [if_true]
  congr 1
  induction L with
  | nil => rfl
  | cons x r ih => simp only [List.map_cons, List.flatMap_cons]; rw [ih]
theorem parts_ans (L : List (List UInt8)) (h : ∀ x, x ∈ L → (32 : UInt8) ∉ x) : parts 32 (ansT L) = [79, 75] :: L := parts_told [79, 75] L (by decide) h
theorem ans_len {L M : List (List UInt8)} (hL : ∀ x, x ∈ L → (32 : UInt8) ∉ x) (hM : ∀ x, x ∈ M → (32 : UInt8) ∉ x) (e : ansT L = ansT M) : L.length = M.length := by
  have h1 := parts_ans L hL
  rw [e, parts_ans M hM] at h1
  simp at h1
  rw [h1]
theorem hTs_no {l : List Hd} (h : ∀ x, x ∈ l → isName x.o.data.toList = true) : ∀ x, x ∈ l.map hText → (32 : UInt8) ∉ x := fun x hx => by
  obtain ⟨y, hy, rfl⟩ := List.mem_map.1 hx
  exact hText_no (h y hy)
theorem lTs_no {l : List Ls} (h : ∀ x, x ∈ l → isName x.o.data.toList = true) : ∀ x, x ∈ l.map lText → (32 : UInt8) ∉ x := fun x hx => by
  obtain ⟨y, hy, rfl⟩ := List.mem_map.1 hx
  exact lText_no (h y hy)
theorem netsOf_sub {l : List Hd} {a n : Int} {x : Hd} (h : x ∈ netsOf l a n) : x ∈ l := (List.mem_filter.1 h).1
theorem leasesOf_sub {l : List Ls} {a n : Int} {x : Ls} (h : x ∈ leasesOf l a n) : x ∈ l := (List.mem_filter.1 h).1
theorem flat_lt {α β : Type} (f g : α → List β) (l : List α) (h : ∀ x, x ∈ l → (f x).length ≤ (g x).length) (hx : ∃ x, x ∈ l ∧ (f x).length < (g x).length) : (l.flatMap f).length < (l.flatMap g).length := by
  have hle : ∀ r : List α, (∀ x, x ∈ r → (f x).length ≤ (g x).length) → (r.flatMap f).length ≤ (r.flatMap g).length := by
    intro r
    induction r with
    | nil => intro _; simp
    | cons y q ih =>
      intro h
      have h1 := h y (by simp)
      have h2 := ih (fun x hx => h x (by simp [hx]))
      simp only [List.flatMap_cons, List.length_append]; omega
  induction l with
  | nil => obtain ⟨x, hx, _⟩ := hx; simp at hx
  | cons y q ih =>
    have h1 := h y (by simp)
    have h2 := hle q (fun x hx => h x (by simp [hx]))
    simp only [List.flatMap_cons, List.length_append]
    obtain ⟨x, hx, hlt⟩ := hx
    rcases List.mem_cons.1 hx with rfl | hx
    · omega
    · have := ih (fun x hx => h x (by simp [hx])) ⟨x, hx, hlt⟩; omega
theorem flat_eq {α β : Type} (f g : α → List β) (l : List α) (h : ∀ x, x ∈ l → (f x).length = (g x).length) (e : l.flatMap f = l.flatMap g) : ∀ x, x ∈ l → f x = g x := by
  induction l with
  | nil => intro x hx; simp at hx
  | cons y q ih =>
    simp only [List.flatMap_cons] at e
    obtain ⟨e1, e2⟩ := List.append_inj e (h y (by simp))
    intro x hx
    rcases List.mem_cons.1 hx with rfl | hx
    · exact e1
    · exact ih (fun x hx => h x (by simp [hx])) e2 x hx
theorem filter_ins {α : Type} (p : α → Bool) (l : List α) (c : Nat) (x : α) : ((l.take c ++ x :: l.drop c).filter p).length = (l.filter p).length + (if p x then 1 else 0) := by
  conv => rhs; rw [← List.take_append_drop c l]
  rw [List.filter_append, List.filter_append, List.filter_cons]
  split <;> simp <;> omega
theorem filter_del {α : Type} (p : α → Bool) (l : List α) (k : Nat) (d : α) (h : k < l.length) : ((delAt l k).filter p).length + (if p (l.getD k d) then 1 else 0) = (l.filter p).length := by
  unfold delAt
  conv => rhs; rw [← List.take_append_drop k l, List.drop_eq_getElem_cons h]
  rw [List.filter_append, List.filter_append, List.filter_cons, List.getD_eq_getElem?_getD, List.getElem?_eq_getElem h, Option.getD_some]
  split <;> simp <;> omega
theorem toldP_len (s : Bk) (p : Hd) : (toldP s p).length = 1 + (netsOf s.nets p.a p.n).length := by unfold toldP; simp; omega
/-- a subnet more shows -/
theorem shows_net {s s' : Bk} (hp : s'.pools = s.pools) {x : Hd} (hn : ∀ a n, (netsOf s'.nets a n).length = (netsOf s.nets a n).length + (if inn x.a x.n a n then 1 else 0)) (hi : ∃ p, p ∈ s.pools ∧ inn x.a x.n p.a p.n = true) : toldS s' ≠ toldS s := by
  intro e
  have := congrArg List.length e
  unfold toldS at this
  rw [hp, List.length_cons, List.length_cons] at this
  have hlt := flat_lt (toldP s) (toldP s') s.pools (fun p hp => by rw [toldP_len, toldP_len, hn]; omega) (by
    obtain ⟨p, hp, hi⟩ := hi
    exact ⟨p, hp, by rw [toldP_len, toldP_len, hn, if_pos hi]; omega⟩)
  omega
/-- a lease more shows -/
theorem shows_lease {s s' : Bk} (G : Good s) (G' : Good s') (hp : s'.pools = s.pools) (hn : s'.nets = s.nets) {h : Hd} (hh : h ∈ s.nets) (hl : (leasesOf s'.leases h.a h.n).length ≠ (leasesOf s.leases h.a h.n).length) : toldS s' ≠ toldS s := by
  intro e
  unfold toldS at e
  rw [hp, List.cons.injEq] at e
  obtain ⟨p, hpp, hi⟩ := G.ni h hh
  have h1 := flat_eq (toldP s') (toldP s) s.pools (fun p hp => by rw [toldP_len, toldP_len, hn]) e.2 p hpp
  unfold toldP at h1
  rw [hn, List.cons.injEq] at h1
  have h2 := List.map_inj_left.1 h1.2 h (List.mem_filter.2 ⟨hh, hi⟩)
  unfold usedT at h2
  have h3 := ans_len (lTs_no fun x hx => G'.lo x (leasesOf_sub hx)) (lTs_no fun x hx => G.lo x (leasesOf_sub hx)) h2
  simp at h3
  exact hl h3
theorem shows_pool {s s' : Bk} (G : Good s) (G' : Good s') (h : s'.pools.length ≠ s.pools.length) : toldS s' ≠ toldS s := by
  intro e
  unfold toldS at e
  rw [List.cons.injEq] at e
  have h3 := ans_len (hTs_no G'.po) (hTs_no G.po) e.1
  simp at h3
  exact h h3
theorem insH_lenT (l : List Hd) (x : Hd) : (insH l x).length = l.length + 1 := by unfold insH; simp; omega
theorem delAt_lenT {α : Type} (l : List α) (k : Nat) (h : k < l.length) : (delAt l k).length + 1 = l.length := by unfold delAt; simp; omega
theorem findH_lt {l : List Hd} {a n : Int} (h : ¬ findH l a n < 0) : (findH l a n).toNat < l.length := by
  unfold findH at *
  rcases fi_cases (isH a n) l hd0 with ⟨e, _⟩ | ⟨k, hk, e, hp, _⟩
  · rw [e] at h; omega
  · rw [e, Int.toNat_natCast]; exact hk
theorem ins_nets (l : List Hd) (x : Hd) (a n : Int) : (netsOf (insH l x) a n).length = (netsOf l a n).length + (if inn x.a x.n a n then 1 else 0) := filter_ins _ _ _ _
theorem ins_leases (l : List Ls) (x : Ls) (a n : Int) : (leasesOf (insL l x) a n).length = (leasesOf l a n).length + (if inn x.a 32 a n then 1 else 0) := filter_ins _ _ _ _
/-- a command: refused, it changes nothing; done, it shows -/
theorem ln_shows {s : Bk} {l : Ln} (G : Good s) (hg : LnGd l) (hv : l.v < 8) : ((doLn s l).2.e ≠ 0 ∧ (doLn s l).1 = s) ∨ ((doLn s l).2.e = 0 ∧ toldS (doLn s l).1 ≠ toldS s) := by
  have G' := good_ln G hg
  obtain ⟨a0, a1, ar, g1, ho⟩ := hg
  have hc : l.v = 0 ∨ l.v = 1 ∨ l.v = 2 ∨ l.v = 3 ∨ l.v = 4 ∨ l.v = 5 ∨ l.v = 6 ∨ l.v = 7 := by omega
  rcases hc with e | e | e | e | e | e | e | e
  · have hd : doLn s l = doPool s l := by unfold doLn; rw [e]; rfl
    rw [hd] at G' ⊢
    revert G'; unfold doPool
    split
    · intro _; exact .inl ⟨by simp [ref], rfl⟩
    split
    · intro _; exact .inl ⟨by simp [ref], rfl⟩
    split
    · intro _; exact .inl ⟨by simp [ref], rfl⟩
    · intro G'; exact .inr ⟨rfl, shows_pool G G' (by show (insH s.pools _).length ≠ _; rw [insH_lenT]; omega)⟩
  · have hd : doLn s l = doDrop s l := by unfold doLn; rw [e]; rfl
    rw [hd] at G' ⊢
    revert G'; unfold doDrop
    split
    · intro _; exact .inl ⟨by simp [ref], rfl⟩
    split
    · intro _; exact .inl ⟨by simp [ref], rfl⟩
    split
    · intro _; exact .inl ⟨by simp [ref], rfl⟩
    · rename_i h1 _ _
      intro G'; exact .inr ⟨rfl, shows_pool G G' (by have := delAt_lenT s.pools _ (findH_lt h1); show (delAt s.pools _).length ≠ _; omega)⟩
  · have hd : doLn s l = doNet s l := by unfold doLn; rw [e]; rfl
    rw [hd] at G' ⊢
    unfold doNet
    split
    · exact .inl ⟨by simp [ref], rfl⟩
    split
    · exact .inl ⟨by simp [ref], rfl⟩
    rename_i h1 h2
    rcases hb : best (frees 33 (netsOf s.nets l.a l.n) l.a l.n) l.g with _ | b
    · exact .inl ⟨by simp [ref], rfl⟩
    · dsimp only
      split
      · exact .inl ⟨by simp [ref], rfl⟩
      · obtain ⟨r1, r2, r3, r4, r5⟩ := net_apart G g1 h1 hb
        exact .inr ⟨rfl, shows_net (x := ⟨b.1, l.g, l.o⟩) rfl (fun a n => ins_nets _ _ a n) r5⟩
  · have hd : doLn s l = doBlock s l := by unfold doLn; rw [e]; rfl
    rw [hd] at G' ⊢
    unfold doBlock
    split
    · exact .inl ⟨by simp [ref], rfl⟩
    split
    · exact .inl ⟨by simp [ref], rfl⟩
    split
    · exact .inl ⟨by simp [ref], rfl⟩
    split
    · exact .inl ⟨by simp [ref], rfl⟩
    rename_i h1 h2 h3 h4
    obtain ⟨hm, hi⟩ := spanH_at h2
    exact .inr ⟨rfl, shows_net (x := ⟨l.a, l.n, l.o⟩) rfl (fun a n => ins_nets _ _ a n) ⟨_, hm, hi⟩⟩
  · have hd : doLn s l = doFree s l := by unfold doLn; rw [e]; rfl
    rw [hd] at G' ⊢
    unfold doFree
    split
    · exact .inl ⟨by simp [ref], rfl⟩
    split
    · exact .inl ⟨by simp [ref], rfl⟩
    split
    · exact .inl ⟨by simp [ref], rfl⟩
    rename_i h1 h2 h3
    obtain ⟨hm, hma, hmn⟩ := findH_at h1
    refine .inr ⟨rfl, fun q => ?_⟩
    refine shows_net (s := { s with nets := delAt s.nets (findH s.nets l.a l.n).toNat }) (s' := s) (x := s.nets.getD (findH s.nets l.a l.n).toNat hd0) rfl (fun a n => ?_) (G.ni _ hm) q.symm
    exact (filter_del (fun h => inn h.a h.n a n) s.nets _ hd0 (findH_lt h1)).symm
  · have hd : doLn s l = doLease s l := by unfold doLn; rw [e]; rfl
    rw [hd] at G' ⊢
    revert G'; unfold doLease
    split
    · intro _; exact .inl ⟨by simp [ref], rfl⟩
    rename_i h1
    rcases hb : least s.leases l.a l.n with _ | d
    · intro _; exact .inl ⟨by simp [ref], rfl⟩
    · dsimp only
      split
      · intro _; exact .inl ⟨by simp [ref], rfl⟩
      · intro G'
        obtain ⟨hm, hma, hmn⟩ := findH_at h1
        obtain ⟨p, hpe⟩ : ∃ p, p = s.nets.getD (findH s.nets l.a l.n).toNat hd0 := ⟨_, rfl⟩
        rw [← hpe] at hm hma hmn
        rw [← hma, ← hmn] at hb
        obtain ⟨r1, r2, r3⟩ := least_free G hm hb
        obtain ⟨u1, u2⟩ := use_in r1 r2
        refine .inr ⟨rfl, shows_lease G G' rfl rfl hm ?_⟩
        show (leasesOf (insL s.leases ⟨d, l.o⟩) p.a p.n).length ≠ _
        rw [ins_leases, if_pos (inn_use (G.nr p hm).2.2.1 u1 u2)]; omega
  · have hd : doLn s l = doTake s l := by unfold doLn; rw [e]; rfl
    rw [hd] at G' ⊢
    revert G'; unfold doTake
    split
    · intro _; exact .inl ⟨by simp [ref], rfl⟩
    split
    · intro _; exact .inl ⟨by simp [ref], rfl⟩
    split
    · intro _; exact .inl ⟨by simp [ref], rfl⟩
    split
    · intro _; exact .inl ⟨by simp [ref], rfl⟩
    rename_i h1 h2 h3 h4
    intro G'
    obtain ⟨hm, hi⟩ := spanH_at h1
    refine .inr ⟨rfl, shows_lease G G' rfl rfl hm ?_⟩
    show (leasesOf (insL s.leases ⟨l.d, l.o⟩) _ _).length ≠ _
    rw [ins_leases, if_pos hi]; omega
  · have hd : doLn s l = doGive s l := by unfold doLn; rw [e]; rfl
    rw [hd] at G' ⊢
    revert G'; unfold doGive
    split
    · rename_i h1
      split
      · intro _; exact .inl ⟨by simp [ref], rfl⟩
      · intro G'
        have hk : cntL s.leases l.d < s.leases.length ∧ (s.leases.getD (cntL s.leases l.d) ls0).a = l.d := by
          unfold hasL at h1
          simpa using h1
        have hmem : s.leases.getD (cntL s.leases l.d) ls0 ∈ s.leases := by
          rw [List.getD_eq_getElem?_getD, List.getElem?_eq_getElem hk.1]; exact List.getElem_mem hk.1
        obtain ⟨h, hh, q1, q2⟩ := G.li _ hmem
        obtain ⟨u1, u2⟩ := use_in q1 q2
        refine .inr ⟨rfl, shows_lease G G' rfl rfl hh ?_⟩
        have := filter_del (fun y : Ls => inn y.a 32 h.a h.n) s.leases _ ls0 hk.1
        rw [if_pos (inn_use (G.nr h hh).2.2.1 u1 u2)] at this
        show (leasesOf (delAt s.leases (cntL s.leases l.d)) h.a h.n).length ≠ (leasesOf s.leases h.a h.n).length
        unfold leasesOf
        omega
    · intro _; exact .inl ⟨by simp [ref], rfl⟩
end Go.Proofs.YtlikdnmikdldfaaGreatDoor
namespace Go.Proofs.YtlikdnmikdldfaaGreatDoor
open Go.RowKit
set_option linter.unusedVariables false
set_option linter.unusedSimpArgs false

/-! ### what is read -/
theorem rdPart_o {l l' : Ln} {p : Nat} {w : List UInt8} (h : rdPart l p w = some l') : l'.v = l.v ∧ (p = 2 → isName l'.o.data.toList = true) ∧ (p ≠ 2 → l'.o = l.o) ∧ (p = 1 → l'.t = ⟨w.toArray⟩) ∧ (p ≠ 1 → l'.t = l.t) ∧ (p = 1 → isName w = true) := by
  unfold rdPart at h
  split at h
  · split at h
    · rename_i e hn; cases h; exact ⟨rfl, fun q => by omega, fun _ => rfl, fun _ => rfl, fun q => absurd e q, fun _ => hn⟩
    · cases h
  · split at h
    · split at h
      · rename_i e1 e hn
        cases h; exact ⟨rfl, fun _ => by simpa using hn, fun q => absurd e q, fun q => absurd q e1, fun _ => rfl, fun q => absurd q e1⟩
      · cases h
    · rename_i e1 e2
      split at h
      · split at h
        · cases h; exact ⟨rfl, fun q => absurd q e2, fun _ => rfl, fun q => absurd q e1, fun _ => rfl, fun q => absurd q e1⟩
        · cases h
      · split at h
        · split at h
          · cases h; exact ⟨rfl, fun q => absurd q e2, fun _ => rfl, fun q => absurd q e1, fun _ => rfl, fun q => absurd q e1⟩
          · cases h
        · split at h
          · split at h
            · cases h; exact ⟨rfl, fun q => absurd q e2, fun _ => rfl, fun q => absurd q e1, fun _ => rfl, fun q => absurd q e1⟩
            · cases h
          · cases h
theorem rdParts_v : ∀ (ps : List Nat) (ws : List (List UInt8)) (l l' : Ln), rdParts l ps ws = some l' → l'.v = l.v ∧ ((isName l.o.data.toList = true ∨ 2 ∈ ps) → isName l'.o.data.toList = true) ∧ (1 ∉ ps → l'.t = l.t)
  | [], [], l, l', h => by simp [rdParts] at h; subst h; exact ⟨rfl, fun q => q.elim id (by simp), fun _ => rfl⟩
  | [], _ :: _, l, l', h => by simp [rdParts] at h
  | _ :: _, [], l, l', h => by simp [rdParts] at h
  | p :: ps, w :: ws, l, l', h => by
    rw [rdParts] at h
    split at h
    · rename_i l2 e
      obtain ⟨a1, a2, a3, a4, a5, _⟩ := rdPart_o e
      obtain ⟨b1, b2, b3⟩ := rdParts_v ps ws l2 l' h
      refine ⟨b1.trans a1, fun q => b2 ?_, fun q => ?_⟩
      · by_cases hp : p = 2
        · exact .inl (a2 hp)
        · rcases q with q | q
          · rw [a3 hp]; exact .inl q
          · rcases List.mem_cons.1 q with q | q
            · exact absurd q.symm hp
            · exact .inr q
      · simp only [List.mem_cons, not_or] at q
        rw [b3 q.2, a5 (fun e => q.1 e.symm)]
    · cases h
theorem form_cmd {k : Nat} (h : k < 8) : ∃ ps, form k = 1 :: 2 :: ps ∧ 1 ∉ ps := by
  have hc : k = 0 ∨ k = 1 ∨ k = 2 ∨ k = 3 ∨ k = 4 ∨ k = 5 ∨ k = 6 ∨ k = 7 := by omega
  rcases hc with rfl | rfl | rfl | rfl | rfl | rfl | rfl | rfl <;> exact ⟨_, rfl, by decide⟩
/-- a command that is put together of its words: if it is read, its token is the second word -/
theorem read_cmd {k : Nat} (hk : k < 8) {t o r : List UInt8} {l : Ln} (ht : (32 : UInt8) ∉ t) (ho : (32 : UInt8) ∉ o) (h : rdLine (verb k ++ 32 :: (t ++ 32 :: (o ++ 32 :: r))) = some l) : l.v = k ∧ l.t = ⟨t.toArray⟩ := by
  have hs : (verb k ++ 32 :: (t ++ 32 :: (o ++ 32 :: r))).length ≤ 100 := by
    unfold rdLine at h
    split at h
    · assumption
    · cases h
  have hp : parts 32 (verb k ++ 32 :: (t ++ 32 :: (o ++ 32 :: r))) = verb k :: t :: o :: parts 32 r := by
    rw [parts_cons 32 _ _ (verb_no k (by omega)).1, parts_cons 32 _ _ ht, parts_cons 32 _ _ ho]
  rw [rdLine_of hs (by omega) hp] at h
  obtain ⟨ps, e, h1⟩ := form_cmd hk
  rw [e, rdParts] at h
  split at h
  · rename_i l2 e2
    obtain ⟨a1, _, _, a4, _, _⟩ := rdPart_o e2
    obtain ⟨b1, _, b3⟩ := rdParts_v _ _ _ _ h
    have hv : l.v = k := b1.trans (by rw [a1]; rfl)
    refine ⟨hv, ?_⟩
    rw [b3 (by simp [h1]), a4 rfl]
  · cases h
/-- its words cut off behind the owner: no line -/
theorem read_short {k : Nat} (hk : k < 8) {t o : List UInt8} (ht : (32 : UInt8) ∉ t) (ho : (32 : UInt8) ∉ o) : rdLine (verb k ++ 32 :: (t ++ 32 :: o)) = none := by
  rcases e : rdLine (verb k ++ 32 :: (t ++ 32 :: o)) with _ | l
  · rfl
  · exfalso
    have hs : (verb k ++ 32 :: (t ++ 32 :: o)).length ≤ 100 := by
      unfold rdLine at e
      split at e
      · assumption
      · cases e
    have hp : parts 32 (verb k ++ 32 :: (t ++ 32 :: o)) = [verb k, t, o] := by
      rw [parts_cons 32 _ _ (verb_no k (by omega)).1, parts_cons 32 _ _ ht, parts_none 32 _ ho]
    rw [rdLine_of hs (by omega) hp] at e
    have hf : form k = [1, 2, 3] ∨ form k = [1, 2, 4] ∨ form k = [1, 2, 3, 5] := by
      have hc : k = 0 ∨ k = 1 ∨ k = 2 ∨ k = 3 ∨ k = 4 ∨ k = 5 ∨ k = 6 ∨ k = 7 := by omega
      rcases hc with rfl | rfl | rfl | rfl | rfl | rfl | rfl | rfl <;> decide
    rcases hf with q | q | q <;> rw [q] at e <;> simp only [rdParts] at e <;> (split at e <;> first | (split at e <;> simp at e) | simp at e)
theorem rdPart_gd {l l' : Ln} {p : Nat} {w : List UInt8} (hL : 0 ≤ l.a ∧ l.a < 4294967296 ∧ rt l.a l.n = true ∧ l.g ≤ 32) (h : rdPart l p w = some l') : 0 ≤ l'.a ∧ l'.a < 4294967296 ∧ rt l'.a l'.n = true ∧ l'.g ≤ 32 := by
  unfold rdPart at h
  split at h
  · split at h
    · cases h; exact hL
    · cases h
  · split at h
    · split at h
      · cases h; exact hL
      · cases h
    · split at h
      · split at h
        · rename_i b e
          cases h
          have hb := rd_text (a := b.1) (n := b.2) e
          exact ⟨hb.2.2.1, hb.2.2.2.1, hb.2.1, hL.2.2.2⟩
        · cases h
      · split at h
        · split at h
          · cases h; exact hL
          · cases h
        · split at h
          · split at h
            · rename_i g e
              cases h
              have hb := (num_some.1 e).1
              exact ⟨hL.1, hL.2.1, hL.2.2.1, by dsimp only; omega⟩
            · cases h
          · cases h
theorem rdParts_gd : ∀ (ps : List Nat) (ws : List (List UInt8)) (l l' : Ln), (0 ≤ l.a ∧ l.a < 4294967296 ∧ rt l.a l.n = true ∧ l.g ≤ 32) → rdParts l ps ws = some l' → 0 ≤ l'.a ∧ l'.a < 4294967296 ∧ rt l'.a l'.n = true ∧ l'.g ≤ 32
  | [], [], l, l', hL, h => by simp [rdParts] at h; subst h; exact hL
  | [], _ :: _, l, l', hL, h => by simp [rdParts] at h
  | _ :: _, [], l, l', hL, h => by simp [rdParts] at h
  | p :: ps, w :: ws, l, l', hL, h => by
    rw [rdParts] at h
    split at h
    · rename_i l2 e
      exact rdParts_gd ps ws l2 l' (rdPart_gd hL e) h
    · cases h
theorem rdLine_gd {s : List UInt8} {l : Ln} (h : rdLine s = some l) : LnGd l := by
  unfold rdLine at h
  split at h
  · split at h
    · rename_i w ws e
      split at h
      · cases h
      · have h1 := rdParts_gd _ _ _ _ ⟨Int.le_refl _, by simp [ln0], rt_iff.2 ⟨by simp [ln0], by simp [ln0], by simp [ln0]⟩, by simp [ln0]⟩ h
        obtain ⟨h2, h3, _⟩ := rdParts_v _ _ _ _ h
        refine ⟨h1.1, h1.2.1, h1.2.2.1, h1.2.2.2, fun hv => h3 (.inr ?_)⟩
        obtain ⟨ps, e, _⟩ := form_cmd hv
        rw [h2] at e
        show 2 ∈ form (ln0 (fi (fun v => v == w) verbT).toNat).v
        rw [e]; simp
    · cases h
  · cases h
/-- every line keeps a book in order -/
theorem good_all {s : Bk} (G : Good s) (line : ByteArray) : Good (doAll s line).1 := by
  unfold doAll
  rcases e : rdLine line.data.toList with _ | l
  · exact G
  · have hg := good_ln G (rdLine_gd e)
    have ht : ∀ T, Good { (doLn s l).1 with toks := T } := fun T => ⟨hg.pr, hg.nr, hg.po, hg.no, hg.lo, hg.pp, hg.np, hg.lp, hg.ni, hg.li⟩
    dsimp only
    split
    · split
      · split <;> exact G
      · split
        · exact ht _
        · exact hg
    · exact hg
/-! ### tokens: a letter, and a number to the base 36 -/
def dig36 (d : Nat) : UInt8 := if d < 10 then UInt8.ofNat (48 + d) else UInt8.ofNat (87 + d)
def b36f : Nat → Nat → List UInt8
  | 0, _ => []
  | f + 1, n => (if n / 36 = 0 then [] else b36f f (n / 36)) ++ [dig36 (n % 36)]
def b36 (n : Nat) : List UInt8 := b36f (n + 1) n
def val36 (l : List UInt8) : Nat := l.foldl (fun a c => 36 * a + (if c.toNat < 58 then c.toNat - 48 else c.toNat - 87)) 0
theorem dig36_val : ∀ d : Fin 36, (if (dig36 d).toNat < 58 then (dig36 d).toNat - 48 else (dig36 d).toNat - 87) = (d : Nat) := by decide +kernel
theorem dig36_name : ∀ d : Fin 36, (97 ≤ (dig36 d).toNat ∧ (dig36 d).toNat ≤ 122) ∨ (48 ≤ (dig36 d).toNat ∧ (dig36 d).toNat ≤ 57) := by decide +kernel
theorem val36_snoc (l : List UInt8) (c : UInt8) : val36 (l ++ [c]) = 36 * val36 l + (if c.toNat < 58 then c.toNat - 48 else c.toNat - 87) := by simp [val36]
theorem val36_f (f : Nat) : ∀ n, n < f → val36 (b36f f n) = n := by
  induction f with
  | zero => intro n h; omega
  | succ f ih =>
    intro n h
    unfold b36f
    rw [val36_snoc, dig36_val ⟨n % 36, by omega⟩]
    show 36 * _ + n % 36 = n
    split
    · simp [val36]; omega
    · rw [ih (n / 36) (by omega)]; omega
theorem val36_b (n : Nat) : val36 (b36 n) = n := val36_f (n + 1) n (by omega)
theorem b36_inj {a b : Nat} (h : b36 a = b36 b) : a = b := by rw [← val36_b a, ← val36_b b, h]
theorem b36f_more (f : Nat) : ∀ n g, n < f → f ≤ g → b36f g n = b36f f n := by
  induction f with
  | zero => intro n g h; omega
  | succ f ih =>
    intro n g h hg
    obtain ⟨g, rfl⟩ : ∃ q, g = q + 1 := ⟨g - 1, by omega⟩
    unfold b36f
    split
    · rfl
    · rw [ih (n / 36) g (by omega) (by omega)]
theorem b36_eq (n : Nat) : b36 n = (if n / 36 = 0 then [] else b36 (n / 36)) ++ [dig36 (n % 36)] := by
  unfold b36
  conv => lhs; unfold b36f
  split
  · rfl
  · rw [b36f_more (n / 36 + 1) (n / 36) n (by omega) (by omega)]
theorem b36_len (n : Nat) (k : Nat) : n < 36 ^ k → (b36 n).length ≤ k + 1 := by
  induction k generalizing n with
  | zero => intro h; rw [b36_eq, if_pos (by omega)]; simp
  | succ k ih =>
    intro h
    rw [b36_eq]
    split
    · simp
    · have := ih (n / 36) (by rw [Nat.pow_succ] at h; omega)
      simp; omega
theorem b36_all (n : Nat) : ∀ c, c ∈ b36 n → (97 ≤ c.toNat ∧ c.toNat ≤ 122) ∨ (48 ≤ c.toNat ∧ c.toNat ≤ 57) := by
  induction n using Nat.strongRecOn with
  | ind n ih =>
    intro c hc
    rw [b36_eq] at hc
    rcases List.mem_append.1 hc with hc | hc
    · split at hc
      · simp at hc
      · exact ih (n / 36) (by omega) c hc
    · rw [List.mem_singleton] at hc
      subst hc
      exact dig36_name ⟨n % 36, by omega⟩
theorem b36_name (c : UInt8) (hc : 97 ≤ c.toNat ∧ c.toNat ≤ 122) (n : Nat) (h : n < 2176782336) : isName (c :: b36 n) = true := by
  have hl := b36_len n 6 (by simpa using h)
  unfold isName
  simp only [Bool.and_eq_true, decide_eq_true_eq, List.all_eq_true, Bool.or_eq_true, List.length_cons, List.mem_cons]
  refine ⟨⟨by omega, by omega⟩, ?_⟩
  rintro x (rfl | hx)
  · exact .inl hc
  · exact b36_all n x hx
end Go.Proofs.YtlikdnmikdldfaaGreatDoor
namespace Go.Proofs.YtlikdnmikdldfaaGreatDoor
open Go.Conc Go.ChangeShapes Go.WideShapes Go.ChangeAt Go.RowKit
set_option linter.unusedVariables false
set_option linter.unusedSimpArgs false

theorem addT_len {l : List Tk} (x : Tk) (h : l.length ≤ 8) : (addT l x).length ≤ 8 := by
  unfold addT
  split <;> simp <;> omega
theorem inv_toks {s : Bk} (h : Inv s) {T : List Tk} (hT : T.length ≤ 8) : Inv { s with toks := T } := ⟨h.p, h.n, h.l, hT, h.pa, h.na, h.la, h.pu, h.nu, h.lu⟩
theorem inv_all {s : Bk} (hI : Inv s) (line : ByteArray) : Inv (doAll s line).1 := by
  unfold doAll
  rcases e : rdLine line.data.toList with _ | l
  · exact hI
  · have hn := inv_ln hI (rdLine_ok e).1
    dsimp only
    split
    · split
      · split <;> exact hI
      · split
        · exact inv_toks hn (addT_len _ hn.t)
        · exact hn
    · exact hn
/-- what holds of every book that is met -/
def Ok (s : Bk) : Prop := Inv s ∧ Good s
theorem bk0_ok : Ok bk0 := ⟨⟨by simp [bk0], by simp [bk0], by simp [bk0], by simp [bk0], by simp [bk0], by simp [bk0], by simp [bk0], fun j k h1 h2 => by simp [bk0] at h2, fun j k h1 h2 => by simp [bk0] at h2, fun j k h1 h2 => by simp [bk0] at h2⟩, bk0_good⟩
theorem ok_all {s : Bk} (h : Ok s) (line : ByteArray) : Ok (doAll s line).1 := ⟨inv_all h.1 line, good_all h.2 line⟩
theorem doAll_cmd {s : Bk} {line : ByteArray} {l : Ln} (e : rdLine line.data.toList = some l) (hv : l.v < 8) : doAll s line = doCmd s l line := by
  unfold doAll doCmd
  rw [e]
  dsimp only
  rw [if_pos hv]
  rfl
theorem doAll_ask {s : Bk} {line : ByteArray} {l : Ln} (e : rdLine line.data.toList = some l) (hv : ¬ l.v < 8) : doAll s line = ((doLn s l).1, ⟨(anText (doLn s l).2).toArray⟩) := by
  unfold doAll
  rw [e]
  dsimp only
  rw [if_neg hv]
theorem doAll_none {s : Bk} {line : ByteArray} (e : rdLine line.data.toList = none) : doAll s line = (s, ⟨(anText (ref 2)).toArray⟩) := by
  unfold doAll
  rw [e]
theorem ask_same {s : Bk} {l : Ln} (h8 : ¬ l.v < 8) (hv : l.v < 11) : (doLn s l).1 = s := by
  have hc : l.v = 8 ∨ l.v = 9 ∨ l.v = 10 := by omega
  unfold doLn
  rcases hc with e | e | e <;> rw [e] <;> rfl
theorem hread {line : ByteArray} (w : World) (E : EnvT w) (hZ : 10 ≤ w.heap.size) : ∀ W, Below w.heap.size w W → Calls Tryz.prog 30 #[.string line] W fun e w' => e = .returned (.tuple #[.agg (lnC (rlC line)), .bool (rlOk line)]) ∧ Below W.heap.size W w' := fun W hW => lread_any line W (E.mono hW) (Nat.le_trans hZ hW.size)
/-- a line that is none, and a question: nothing is written -/
theorem ado_still (w : World) (x : Nat) (S : Nat → Prop) (s : Bk) (line : ByteArray) (E : EnvT w) (hI : Inv s) (h : BkAt w x S s) (hG : ∀ b, S b → 10 ≤ b) (hZ : 10 ≤ w.heap.size) (hq : ∀ l, rdLine line.data.toList = some l → ¬ l.v < 8) :
    Calls Tryz.prog 14 #[.pointer (some ⟨x, 0, none⟩), .string line] w fun e w' => e = .returned (.string (doAll s line).2) ∧ (doAll s line).1 = s ∧ Below w.heap.size w w' := by
  have HR := hread (line := line) w E hZ
  rcases e : rdLine line.data.toList with _ | l
  · rw [doAll_none e]
    have e1 : rlC line = ln0 0 := by unfold rlC; rw [e]; rfl
    have e2 : rlOk line = false := by unfold rlOk; rw [e]; rfl
    rw [e1, e2] at HR
    refine (ado_none w x line _ HR (fun W => refuse_any 2 W) (fun W hW => reftext_any 2 (by omega) W (E.mono hW))).mono ?_
    rintro e w' ⟨rfl, hb⟩
    exact ⟨rfl, rfl, hb⟩
  · have hv := hq l e
    obtain ⟨hL, h11⟩ := rdLine_ok e
    rw [doAll_ask e hv]
    have e1 : rlC line = l := by unfold rlC; rw [e]; rfl
    have e2 : rlOk line = true := by unfold rlOk; rw [e]; rfl
    rw [e1, e2] at HR
    obtain ⟨o1, o2, o3⟩ := ans_ok hI hL
    refine (ado_ask w x l line ⟨(anText (doLn s l).2).toArray⟩ (doLn s l).2.e (doLn s l).2.s HR (fun W => ?_) (fun W hW => ?_) (fun W bt nt ct hW hr => atext_any (doLn s l).2 o1 o2 o3 _ W (E.mono hW) hr)).mono ?_
    · have h := isCmd_any l.v W
      rw [decide_eq_false (by omega)] at h
      exact h
    · refine (bookAsk_any W x S s l (E.env.mono hW) hI hL (h.below hW) hG (Nat.le_trans hZ hW.size) (by omega) h11).mono ?_
      rintro e w3 ⟨⟨v, S', rfl, hrd, _⟩, hb⟩
      obtain ⟨bt, ct, rfl, k⟩ := hrd
      exact ⟨bt, _, ct, rfl, ⟨bt, ct, rfl, k⟩, hb⟩
    · rintro e w' ⟨rfl, hb⟩
      exact ⟨rfl, ask_same hv h11, hb⟩
/-- whatever the line is -/
theorem ado_any (w : World) (x : Nat) (S : Nat → Prop) (s : Bk) (line : ByteArray) (E : EnvT w) (hI : Inv s) (h : BkAt w x S s) (hG : ∀ b, S b → 10 ≤ b) (hZ : 10 ≤ w.heap.size) :
    Calls Tryz.prog 14 #[.pointer (some ⟨x, 0, none⟩), .string line] w (DoR w x S (doAll s line)) := by
  by_cases hq : ∀ l, rdLine line.data.toList = some l → ¬ l.v < 8
  · refine (ado_still w x S s line E hI h hG hZ hq).mono ?_
    rintro e w' ⟨rfl, hs, hb⟩
    exact ⟨S, rfl, by rw [hs]; exact h.below hb, fun b q => .inl q, Chg.below hb⟩
  · obtain ⟨l, e, hv⟩ : ∃ l, rdLine line.data.toList = some l ∧ l.v < 8 := by
      rcases e : rdLine line.data.toList with _ | l
      · exact absurd (fun l hl => by rw [e] at hl; cases hl) hq
      · by_cases hv : l.v < 8
        · exact ⟨l, rfl, hv⟩
        · exact absurd (fun l' hl => by rw [e] at hl; cases hl; exact hv) hq
    obtain ⟨hL, h11⟩ := rdLine_ok e
    rw [doAll_cmd e hv]
    have HR := hread (line := line) w E hZ
    have e1 : rlC line = l := by unfold rlC; rw [e]; rfl
    have e2 : rlOk line = true := by unfold rlOk; rw [e]; rfl
    rw [e1, e2] at HR
    have hs : line.size ≤ 100 := by
      have := Lib.size_eq line
      unfold rdLine at e
      split at e
      · omega
      · cases e
    refine ado_cmd w x S l line _ HR (fun W => ?_) (fun W hW => command_any W x S s l line (E.mono hW) hI hL h11 (h.below hW) hG (Nat.le_trans hZ hW.size) (by omega))
    have h := isCmd_any l.v W
    rw [decide_eq_true (by omega)] at h
    exact h
end Go.Proofs.YtlikdnmikdldfaaGreatDoor
namespace Go.Proofs.YtlikdnmikdldfaaGreatDoor
open Go.Conc Go.ChangeShapes Go.WideShapes Go.ChangeAt Go.RowKit
set_option linter.unusedVariables false
set_option linter.unusedSimpArgs false

/-- the book x is s; its blocks, and all that changed since w0, were made since w0; K: blocks of others that stay -/
def HB (w0 : World) (K : Nat → Prop) (x : Nat) (s : Bk) (W : World) : Prop := ∃ S, BkAt W x S s ∧ (∀ b, S b → w0.heap.size ≤ b ∧ ¬ K b) ∧ Below w0.heap.size w0 W
theorem HB.low {w0 W : World} {K : Nat → Prop} {x : Nat} {s : Bk} (h : HB w0 K x s W) : Below w0.heap.size w0 W := by obtain ⟨S, _, _, h⟩ := h; exact h
theorem HB.below {w0 W W' : World} {K : Nat → Prop} {x : Nat} {s : Bk} (h : HB w0 K x s W) (hb : Below W.heap.size W W') : HB w0 K x s W' := by
  obtain ⟨S, h1, h2, h3⟩ := h
  exact ⟨S, h1.below hb, h2, h3.trans (hb.mono h3.size)⟩
/-- other blocks may be kept, if they were made by now -/
theorem HB.keep {w0 W W' : World} {K : Nat → Prop} {x : Nat} {s : Bk} (K' : Nat → Prop) (h : HB w0 K x s W) (hb : Below W.heap.size W W') (hK : ∀ b, K' b → K b ∨ W.heap.size ≤ b) : HB w0 K' x s W' := by
  obtain ⟨S, h1, h2, h3⟩ := h
  refine ⟨S, h1.below hb, fun b q => ⟨(h2 b q).1, fun k => ?_⟩, h3.trans (hb.mono h3.size)⟩
  rcases hK b k with e | e
  · exact (h2 b q).2 e
  · have := h1.lt b q; omega
theorem HB.drew {w0 W : World} {K : Nat → Prop} {x : Nat} {s : Bk} (h : HB w0 K x s W) : HB w0 K x s W.drew := h.below (Below.drew (Below.refl _ _))
theorem HB.alloc {w0 W : World} {K : Nat → Prop} {x : Nat} {s : Bk} {o : Obj} (h : HB w0 K x s W) : HB w0 K x s (W.alloc o) := h.below (Below.alloc (Below.refl _ _) (Nat.le_refl _) _)
theorem hb_do (w0 : World) (K : Nat → Prop) (x : Nat) (s : Bk) (line : ByteArray) (E : EnvT w0) (hZ : 10 ≤ w0.heap.size) (hI : Inv s) (W : World) (h : HB w0 K x s W) (hK : ∀ b, K b → b < W.heap.size) :
    Calls Tryz.prog 14 #[.pointer (some ⟨x, 0, none⟩), .string line] W fun e W' => e = .returned (.string (doAll s line).2) ∧ HB w0 K x (doAll s line).1 W' ∧ (∀ b, K b → W'.heap[b]? = W.heap[b]?) ∧ W.heap.size ≤ W'.heap.size := by
  obtain ⟨S, h1, h2, h3⟩ := h
  refine (ado_any W x S s line (E.mono h3) hI h1 (fun b q => Nat.le_trans hZ (h2 b q).1) (Nat.le_trans hZ h3.size)).mono ?_
  rintro e W' ⟨S', rfl, b1, b2, b3⟩
  refine ⟨rfl, ⟨S', b1, fun b q => ?_, ?_⟩, fun b k => b3.block b (hK b k) (fun q => (h2 b q).2 k), b3.size⟩
  · rcases b2 b q with e | e
    · exact h2 b e
    · have := h3.size
      exact ⟨by omega, fun k => by have := hK b k; omega⟩
  · exact h3.trans ⟨b3.os, b3.tape, b3.output, b3.size, fun b hb => b3.block b (Nat.lt_of_lt_of_le hb h3.size) (fun q => by have := (h2 b q).1; omega)⟩
/-- a question, or no line -/
theorem hb_ask (w0 : World) (K : Nat → Prop) (x : Nat) (s : Bk) (line : ByteArray) (E : EnvT w0) (hZ : 10 ≤ w0.heap.size) (hI : Inv s) (hq : ∀ l, rdLine line.data.toList = some l → ¬ l.v < 8) (W : World) (h : HB w0 K x s W) :
    Calls Tryz.prog 14 #[.pointer (some ⟨x, 0, none⟩), .string line] W fun e W' => e = .returned (.string (doAll s line).2) ∧ Below W.heap.size W W' := by
  obtain ⟨S, h1, h2, h3⟩ := h
  refine (ado_still W x S s line (E.mono h3) hI h1 (fun b q => Nat.le_trans hZ (h2 b q).1) (Nat.le_trans hZ h3.size) hq).mono ?_
  rintro e W' ⟨rfl, _, hb⟩
  exact ⟨rfl, hb⟩
set_option maxRecDepth 100000 in
set_option maxHeartbeats 400000 in
theorem dnew_any (w : World) : Calls Tryz.prog 25 #[] w fun e w' => ∃ d, e = .returned (.pointer (some ⟨d, 0, none⟩)) ∧ Below w.heap.size w w' := by
  go_enter Tryz.func25, Tryz.ntmps25
  go_wp2
  go_returns
  exact ⟨_, rfl, (by repeat' (first | with_reducible assumption | with_reducible exact Below.refl _ _ | with_reducible apply Below.drew | with_reducible apply below_drewN | with_reducible apply Below.setCell | with_reducible apply Below.alloc | omega | (simp; done) | (simp; omega)))⟩
set_option maxRecDepth 100000 in
set_option maxHeartbeats 400000 in
/-- a book of a new disk -/
theorem opened_any (w0 w : World) (h : Below w0.heap.size w0 w) : Calls Tryz.prog 9 #[] w fun e w' => ∃ x d, e = .returned (.tuple #[.pointer (some ⟨x, 0, none⟩), .pointer (some ⟨d, 0, none⟩)]) ∧ HB w0 (fun _ => False) x bk0 w' ∧ Below w.heap.size w w' := by
  have HN : Hid (∀ W, Calls Tryz.prog 25 #[] W fun e w' => ∃ d, e = .returned (.pointer (some ⟨d, 0, none⟩)) ∧ Below W.heap.size W w') := fun W => dnew_any W
  have HO : Hid (∀ d W, Calls Tryz.prog 26 #[d] W fun e w' => ∃ x S, e = .returned (.tuple #[.pointer (some ⟨x, 0, none⟩), .int .i64 0]) ∧ BkAt w' x S bk0 ∧ (∀ b, S b → W.heap.size ≤ b) ∧ Below W.heap.size W w') := fun d W => open_any d W
  have H0 : Hid (Below w0.heap.size w0 w) := h
  clear h
  go_enter Tryz.func9, Tryz.ntmps9
  go_wp2_with (first | (go_at_call 25; refine (HN.out _).mono ?_; rintro e w1 ⟨d, rfl, hq1⟩; replace hq1 : Hid (Below w.heap.size w w1) := hq1) | (go_at_call 26; refine (HO.out _ _).mono ?_; rintro e w2 ⟨x, S, rfl, hbk, hS, hq2⟩; replace hbk : Hid (BkAt w2 x S bk0) := hbk; replace hS : Hid (∀ b, S b → w1.heap.size ≤ b) := hS; replace hq2 : Hid (Below w1.heap.size w1 w2) := hq2))
  have hb2 := hq1.out.trans (hq2.out.mono hq1.out.size)
  have hz := H0.out.size
  have hz1 := hq1.out.size
  have hfin : ∃ x' d', Ending.returned (Value.tuple #[.pointer (some ⟨x, 0, none⟩), .pointer (some ⟨d, 0, none⟩)]) = Ending.returned (.tuple #[.pointer (some ⟨x', 0, none⟩), .pointer (some ⟨d', 0, none⟩)]) ∧ HB w0 (fun _ => False) x' bk0 w2 ∧ Below w.heap.size w w2 :=
    ⟨x, d, rfl, ⟨S, hbk.out, fun b q => ⟨by have := hS.out b q; omega, fun k => k⟩, H0.out.trans (hb2.mono hz)⟩, hb2⟩
  exact bodyPost_ret (v := .tuple #[.pointer (some ⟨x, 0, none⟩), .pointer (some ⟨d, 0, none⟩)]) (by simp [results, Tryz.results9]) rfl hfin
end Go.Proofs.YtlikdnmikdldfaaGreatDoor
namespace Go.Proofs.YtlikdnmikdldfaaGreatDoor
open Go.RowKit
set_option linter.unusedVariables false
set_option linter.unusedSimpArgs false

/-- one of three owners -/
def own3 (k : Nat) : List UInt8 := if k % 3 = 0 then annT else if k % 3 = 1 then bobT else cyT
def fst1 (n : Int) : Int := if n ≤ 30 then B0 + 1 else B0
def fitL (n : Int) : Nat := if n ≤ 30 then (sz n).toNat - 2 else (sz n).toNat
def lsn (n : Int) (i : Nat) : List Ls := (List.range i).map fun (j : Nat) => (⟨fst1 n + (j : Int), bA (own3 j)⟩ : Ls)
def eqL (x y : Ls) : Bool := decide (x.a = y.a) && decide (x.o = y.o)
def eqLs : List Ls → List Ls → Bool
  | [], [] => true
  | x :: r, y :: q => eqL x y && eqLs r q
  | _, _ => false
theorem eqL_eq {x y : Ls} (h : eqL x y = true) : x = y := by
  unfold eqL at h
  simp only [Bool.and_eq_true, decide_eq_true_eq] at h
  cases x; cases y; simp_all
theorem eqLs_eq : ∀ {l q : List Ls}, eqLs l q = true → l = q
  | [], [], _ => rfl
  | [], _ :: _, h => by simp [eqLs] at h
  | _ :: _, [], h => by simp [eqLs] at h
  | x :: r, y :: q, h => by
    simp only [eqLs, Bool.and_eq_true] at h
    rw [eqL_eq h.1, eqLs_eq h.2]
def chkL (n : Int) (i : Nat) : Bool :=
  decide (least (lsn n i) B0 n = some (fst1 n + (i : Int))) && eqLs (insL (lsn n i) ⟨fst1 n + (i : Int), bA (own3 i)⟩) (lsn n (i + 1)) && decide ((lsn n i).length < 40) &&
  decide (spanH [⟨B0, n, bA annT⟩] (fst1 n + (i : Int)) 32 = 0) && decide (useA B0 n ≤ fst1 n + (i : Int)) && decide (fst1 n + (i : Int) ≤ useZ B0 n) &&
  hasL (lsn n (fitL n)) (fst1 n + (i : Int)) && decide (cntL (lsn n (fitL n)) (fst1 n + (i : Int)) = i) && decide (((lsn n (fitL n)).getD i ls0).o = bA (own3 i)) &&
  decide (least (delAt (lsn n (fitL n)) i) B0 n = some (fst1 n + (i : Int))) && decide ((delAt (lsn n (fitL n)) i).length < 40) &&
  decide (0 < (leasesOf (insL (delAt (lsn n (fitL n)) i) ⟨fst1 n + (i : Int), bA bobT⟩) B0 n).length)
def chkLs (n : Int) : Bool := (List.range (fitL n)).all (fun i => chkL n i) && decide (least (lsn n (fitL n)) B0 n = none) && decide (findH [⟨B0, n, bA annT⟩] B0 n = 0) && decide (spanH (fP 24) B0 n = 0) && decide (fitL n ≤ 30) && decide (1 ≤ fitL n)
set_option maxRecDepth 100000 in
theorem chkL_fin : ∀ n : Fin 6, chkLs ((27 + (n : Nat) : Nat) : Int) = true := by decide +kernel
structure Le (n : Int) : Prop where
  one : ∀ i, i < fitL n → least (lsn n i) B0 n = some (fst1 n + (i : Int)) ∧ insL (lsn n i) ⟨fst1 n + (i : Int), bA (own3 i)⟩ = lsn n (i + 1) ∧ (lsn n i).length < 40
  take : ∀ i, i < fitL n → spanH [⟨B0, n, bA annT⟩] (fst1 n + (i : Int)) 32 = 0 ∧ useA B0 n ≤ fst1 n + (i : Int) ∧ fst1 n + (i : Int) ≤ useZ B0 n ∧ hasL (lsn n (fitL n)) (fst1 n + (i : Int)) = true ∧ cntL (lsn n (fitL n)) (fst1 n + (i : Int)) = i ∧ ((lsn n (fitL n)).getD i ls0).o = bA (own3 i)
  back : ∀ i, i < fitL n → least (delAt (lsn n (fitL n)) i) B0 n = some (fst1 n + (i : Int)) ∧ (delAt (lsn n (fitL n)) i).length < 40 ∧ 0 < (leasesOf (insL (delAt (lsn n (fitL n)) i) ⟨fst1 n + (i : Int), bA bobT⟩) B0 n).length
  full : least (lsn n (fitL n)) B0 n = none
  net : findH [⟨B0, n, bA annT⟩] B0 n = 0
  pool : spanH (fP 24) B0 n = 0
  le : fitL n ≤ 30
  pos : 1 ≤ fitL n
theorem le_of {n : Int} (h : chkLs n = true) : Le n := by
  unfold chkLs at h
  simp only [Bool.and_eq_true, decide_eq_true_eq, List.all_eq_true, List.mem_range] at h
  obtain ⟨⟨⟨⟨⟨h1, h2⟩, h3⟩, h4⟩, h5⟩, h6⟩ := h
  have hc : ∀ i, i < fitL n → _ := fun i hi => by
    have := h1 i hi
    unfold chkL at this
    simp only [Bool.and_eq_true, decide_eq_true_eq] at this
    exact this
  refine ⟨fun i hi => ?_, fun i hi => ?_, fun i hi => ?_, h2, h3, h4, h5, h6⟩
  · obtain ⟨⟨⟨⟨⟨⟨⟨⟨⟨⟨⟨a1, a2⟩, a3⟩, a4⟩, a5⟩, a6⟩, a7⟩, a8⟩, a9⟩, b1⟩, b2⟩, b3⟩ := hc i hi
    exact ⟨a1, eqLs_eq a2, a3⟩
  · obtain ⟨⟨⟨⟨⟨⟨⟨⟨⟨⟨⟨a1, a2⟩, a3⟩, a4⟩, a5⟩, a6⟩, a7⟩, a8⟩, a9⟩, b1⟩, b2⟩, b3⟩ := hc i hi
    exact ⟨a4, a5, a6, a7, a8, a9⟩
  · obtain ⟨⟨⟨⟨⟨⟨⟨⟨⟨⟨⟨a1, a2⟩, a3⟩, a4⟩, a5⟩, a6⟩, a7⟩, a8⟩, a9⟩, b1⟩, b2⟩, b3⟩ := hc i hi
    exact ⟨b1, b2, b3⟩
theorem le_any (n : Nat) (h0 : 27 ≤ n) (h1 : n ≤ 32) : Le (n : Int) := by
  have h := chkL_fin ⟨n - 27, by omega⟩
  simp only [show 27 + (n - 27) = n by omega] at h
  exact le_of h
def lN (n : Int) : List Hd := [⟨B0, n, bA annT⟩]
theorem lease_block {n : Int} (L : Le n) (h0 : 27 ≤ n) (t : List UInt8) (T : List Tk) : doLn ⟨fP 24, [], [], T⟩ (lnB 3 t annT B0 n) = (⟨fP 24, lN n, [], T⟩, okA) := by
  show doBlock _ _ = _
  unfold doBlock lnB
  dsimp only
  rw [if_neg (by omega), L.pool, if_neg (by omega)]
  rfl
theorem lease_one {n : Int} (L : Le n) (i : Nat) (hi : i < fitL n) (t : List UInt8) (T : List Tk) : doLn ⟨fP 24, lN n, lsn n i, T⟩ (lnB 5 t (own3 i) B0 n) = (⟨fP 24, lN n, lsn n (i + 1), T⟩, tell1 (bA (dot (fst1 n + (i : Int)).toNat))) := by
  obtain ⟨h1, h2, h3⟩ := L.one i hi
  show doLease _ _ = _
  unfold doLease lnB
  dsimp only
  have hn : findH (lN n) B0 n = 0 := L.net
  rw [hn, if_neg (by omega), h1]
  dsimp only
  rw [if_neg (by omega)]
  show (Bk.mk _ _ (insL (lsn n i) ⟨fst1 n + (i : Int), bA (own3 i)⟩) _, _) = _
  rw [h2]; rfl
theorem lease_fullL {n : Int} (L : Le n) (t o : List UInt8) (T : List Tk) : doLn ⟨fP 24, lN n, lsn n (fitL n), T⟩ (lnB 5 t o B0 n) = (⟨fP 24, lN n, lsn n (fitL n), T⟩, ref 10) := by
  show doLease _ _ = _
  unfold doLease lnB
  dsimp only
  have hn : findH (lN n) B0 n = 0 := L.net
  rw [hn, if_neg (by omega), L.full]
theorem lease_taken {n : Int} (L : Le n) (i : Nat) (hi : i < fitL n) (t o : List UInt8) (T : List Tk) : doLn ⟨fP 24, lN n, lsn n (fitL n), T⟩ { lnB 6 t o 0 0 with d := fst1 n + (i : Int) } = (⟨fP 24, lN n, lsn n (fitL n), T⟩, ref 13) := by
  obtain ⟨h1, h2, h3, h4, h5, h6⟩ := L.take i hi
  show doTake _ _ = _
  unfold doTake lnB
  dsimp only
  have hs : spanH (lN n) (fst1 n + (i : Int)) 32 = 0 := h1
  rw [hs, if_neg (by omega)]
  show (if fst1 n + (i : Int) < useA B0 n ∨ useZ B0 n < fst1 n + (i : Int) then _ else _) = _
  rw [if_neg (by omega), if_pos h4]
theorem lease_owner {n : Int} (L : Le n) (i : Nat) (hi : i < fitL n) (t o : List UInt8) (T : List Tk) (ho : o ≠ own3 i) : doLn ⟨fP 24, lN n, lsn n (fitL n), T⟩ { lnB 7 t o 0 0 with d := fst1 n + (i : Int) } = (⟨fP 24, lN n, lsn n (fitL n), T⟩, ref 8) := by
  obtain ⟨h1, h2, h3, h4, h5, h6⟩ := L.take i hi
  show doGive _ _ = _
  unfold doGive lnB
  dsimp only
  rw [if_pos h4, h5, h6, if_pos]
  intro e
  apply ho
  have := congrArg (fun x : ByteArray => x.data.toList) e
  simpa [bA] using this.symm
theorem lease_give {n : Int} (L : Le n) (i : Nat) (hi : i < fitL n) (t : List UInt8) (T : List Tk) : doLn ⟨fP 24, lN n, lsn n (fitL n), T⟩ { lnB 7 t (own3 i) 0 0 with d := fst1 n + (i : Int) } = (⟨fP 24, lN n, delAt (lsn n (fitL n)) i, T⟩, okA) := by
  obtain ⟨h1, h2, h3, h4, h5, h6⟩ := L.take i hi
  show doGive _ _ = _
  unfold doGive lnB
  dsimp only
  rw [if_pos h4, h5, h6, if_neg (by simp [bA])]
theorem lease_again {n : Int} (L : Le n) (i : Nat) (hi : i < fitL n) (t : List UInt8) (T : List Tk) : doLn ⟨fP 24, lN n, delAt (lsn n (fitL n)) i, T⟩ (lnB 5 t bobT B0 n) = (⟨fP 24, lN n, insL (delAt (lsn n (fitL n)) i) ⟨fst1 n + (i : Int), bA bobT⟩, T⟩, tell1 (bA (dot (fst1 n + (i : Int)).toNat))) := by
  obtain ⟨h1, h2, h3⟩ := L.back i hi
  show doLease _ _ = _
  unfold doLease lnB
  dsimp only
  have hn : findH (lN n) B0 n = 0 := L.net
  rw [hn, if_neg (by omega), h1]
  dsimp only
  rw [if_neg (by omega)]
  rfl
theorem lease_busy {n : Int} (L : Le n) (i : Nat) (hi : i < fitL n) (t : List UInt8) (T : List Tk) : doLn ⟨fP 24, lN n, insL (delAt (lsn n (fitL n)) i) ⟨fst1 n + (i : Int), bA bobT⟩, T⟩ (lnB 4 t annT B0 n) = (⟨fP 24, lN n, insL (delAt (lsn n (fitL n)) i) ⟨fst1 n + (i : Int), bA bobT⟩, T⟩, ref 9) := by
  obtain ⟨h1, h2, h3⟩ := L.back i hi
  show doFree _ _ = _
  unfold doFree lnB
  dsimp only
  have hn : findH (lN n) B0 n = 0 := L.net
  rw [hn, if_neg (by omega)]
  show (if bA annT ≠ bA annT then _ else _) = _
  rw [if_neg (by simp), if_pos (fun e => by rw [e] at h3; simp at h3)]
end Go.Proofs.YtlikdnmikdldfaaGreatDoor
namespace Go.Proofs.YtlikdnmikdldfaaGreatDoor
open Go.Conc Go.ChangeShapes Go.WideShapes Go.ChangeAt Go.RowKit
set_option linter.unusedVariables false
set_option linter.unusedSimpArgs false

set_option maxRecDepth 100000 in
set_option maxHeartbeats 800000 in
theorem filled_go (bits more which : Int) (n d fit k : Nat) (m : Int) (SZ : Int) (D : Int → ByteArray) (AA : Int → ByteArray) (st : Nat → Bk) (sF sG sH : Bk) (w : World) (hn : 22 ≤ n ∧ n ≤ 30) (hnm : (n : Int) ≤ m) (hm2 : m ≤ 32) (hd : (n : Int) + (d : Int) = m)
    (hp1 : pk bits 9 = (n : Int) - 22) (hp2 : pk more 5 = d) (hp3 : pk which fit = k) (hk : k < fit) (hf : fit ≤ 16) (hf1 : 1 ≤ fit)
    (hD : ∀ j, (D j).size ≤ 3) (hA : ∀ a, (AA a).size ≤ 15) (hsh : wrap64 ((2 : Int) ^ (m.toNat - n)) = (fit : Int)) (hS0 : 0 < SZ) (hS1 : ∀ i : Nat, i < fit → (i : Int) * SZ < 1024)
    (HO : Hid (Calls Tryz.prog 9 #[] w fun e w' => ∃ x d, e = .returned (.tuple #[.pointer (some ⟨x, 0, none⟩), .pointer (some ⟨d, 0, none⟩)]) ∧ HB w (fun _ => False) x bk0 w' ∧ Below w.heap.size w w'))
    (HP : Hid (∀ c k W, (k = 9 ∨ k = 5 ∨ k = fit) → (c = bits ∨ c = more ∨ c = which) → Calls Tryz.prog 18 #[.int .i64 c, .int .i64 k] W fun e w' => e = .returned (.int .i64 (pk c k)) ∧ Below W.heap.size W w'))
    (HG : Hid (∀ (j : Int) W, 0 ≤ j → j ≤ 32 → Calls Tryz.prog 19 #[.int .i64 j] W fun e w' => e = .returned (.string (D j)) ∧ Below W.heap.size W w'))
    (HZ : Hid (∀ W, Calls Tryz.prog 21 #[.int .i64 m] W fun e w' => e = .returned (.int .i64 SZ) ∧ Below W.heap.size W w'))
    (HA : Hid (∀ (a : Int) W, 0 ≤ a → a < 4294967296 → Calls Tryz.prog 20 #[.int .u32 a] W fun e w' => e = .returned (.string (AA a)) ∧ Below W.heap.size W w'))
    (H0 : Hid (∀ x W, HB w (fun _ => False) x bk0 W → Calls Tryz.prog 14 #[.pointer (some ⟨x, 0, none⟩), .string ((⟨#[80, 79, 79, 76, 32, 112, 32, 97, 110, 110, 32]⟩ : ByteArray) ++ ((⟨#[49, 48, 46, 48, 46, 48, 46, 48, 47]⟩ : ByteArray) ++ D n))] W fun e w' => e = .returned (.string (⟨#[79, 75]⟩ : ByteArray)) ∧ HB w (fun _ => False) x (st 0) w'))
    (HN : Hid (∀ (i : Nat) (hi : i < fit) x W, HB w (fun _ => False) x (st i) W → Calls Tryz.prog 14 #[.pointer (some ⟨x, 0, none⟩), .string ((⟨#[78, 69, 84, 32, 110]⟩ : ByteArray) ++ D i ++ (⟨#[32, 97, 110, 110, 32]⟩ : ByteArray) ++ ((⟨#[49, 48, 46, 48, 46, 48, 46, 48, 47]⟩ : ByteArray) ++ D n) ++ (⟨#[32]⟩ : ByteArray) ++ D m)] W fun e w' => e = .returned (.string ((⟨#[79, 75, 32]⟩ : ByteArray) ++ AA (167772160 + (i : Int) * SZ) ++ (⟨#[47]⟩ : ByteArray) ++ D m)) ∧ HB w (fun _ => False) x (st (i + 1)) w'))
    (HF : Hid (∀ x W, HB w (fun _ => False) x (st fit) W → Calls Tryz.prog 14 #[.pointer (some ⟨x, 0, none⟩), .string ((⟨#[78, 69, 84, 32, 102, 32, 97, 110, 110, 32]⟩ : ByteArray) ++ ((⟨#[49, 48, 46, 48, 46, 48, 46, 48, 47]⟩ : ByteArray) ++ D n) ++ (⟨#[32]⟩ : ByteArray) ++ D m)] W fun e w' => e = .returned (.string (⟨#[69, 82, 82, 32, 70, 85, 76, 76]⟩ : ByteArray)) ∧ HB w (fun _ => False) x sF w'))
    (HR : Hid (∀ x W, HB w (fun _ => False) x sF W → Calls Tryz.prog 14 #[.pointer (some ⟨x, 0, none⟩), .string ((⟨#[70, 82, 69, 69, 32, 103, 32, 97, 110, 110, 32]⟩ : ByteArray) ++ (AA (167772160 + (k : Int) * SZ) ++ (⟨#[47]⟩ : ByteArray) ++ D m))] W fun e w' => e = .returned (.string (⟨#[79, 75]⟩ : ByteArray)) ∧ HB w (fun _ => False) x sG w'))
    (HH : Hid (∀ x W, HB w (fun _ => False) x sG W → Calls Tryz.prog 14 #[.pointer (some ⟨x, 0, none⟩), .string ((⟨#[78, 69, 84, 32, 104, 32, 98, 111, 98, 32]⟩ : ByteArray) ++ ((⟨#[49, 48, 46, 48, 46, 48, 46, 48, 47]⟩ : ByteArray) ++ D n) ++ (⟨#[32]⟩ : ByteArray) ++ D m)] W fun e w' => e = .returned (.string ((⟨#[79, 75, 32]⟩ : ByteArray) ++ (AA (167772160 + (k : Int) * SZ) ++ (⟨#[47]⟩ : ByteArray) ++ D m))) ∧ HB w (fun _ => False) x sH w'))
    (HI : Hid (∀ x W, HB w (fun _ => False) x sH W → Calls Tryz.prog 14 #[.pointer (some ⟨x, 0, none⟩), .string ((⟨#[78, 69, 84, 32, 105, 32, 98, 111, 98, 32]⟩ : ByteArray) ++ ((⟨#[49, 48, 46, 48, 46, 48, 46, 48, 47]⟩ : ByteArray) ++ D n) ++ (⟨#[32]⟩ : ByteArray) ++ D m)] W fun e w' => e = .returned (.string (⟨#[69, 82, 82, 32, 70, 85, 76, 76]⟩ : ByteArray)) ∧ HB w (fun _ => False) x sH w'))
 :
    Calls Tryz.prog 5 #[.int .i64 bits, .int .i64 more, .int .i64 which] w fun e w' => e = .returned (.bool true) ∧ Below w.heap.size w w' := by
  have hDn := hD n
  have hDm := hD m
  have e1 : (22 : Int) + ((n : Int) - 22) = n := by omega
  have e2 : ¬ (32 : Int) < m := by omega
  have e3 : (n : Int) ≤ m := by omega
  go_enter Tryz.func5, Tryz.ntmps5
  go_wp2_with (first | (go_at_call 9; refine HO.out.mono ?_; rintro e wN ⟨x, dd, rfl, HBC, hq⟩; replace HBC : Hid (HB w (fun _ => False) x bk0 wN) := HBC; clear hq) | (go_at_call 18; refine (HP.out _ _ _ (by simp) (by simp)).mono ?_; rintro e wN ⟨rfl, hq⟩; replace HBC : Hid (HB w (fun _ => False) x _ wN) := HB.below (by repeat' (first | with_reducible exact HBC.out | with_reducible apply HB.drew | with_reducible apply HB.alloc)) hq; clear hq) | (go_at_call 19; refine (HG.out _ _ (by omega) (by omega)).mono ?_; rintro e wN ⟨rfl, hq⟩; replace HBC : Hid (HB w (fun _ => False) x _ wN) := HB.below (by repeat' (first | with_reducible exact HBC.out | with_reducible apply HB.drew | with_reducible apply HB.alloc)) hq; clear hq) | (go_at_call 14; have hst : HB w (fun _ => False) x bk0 wN := HBC.out; clear hst; refine (H0.out x _ (by repeat' (first | with_reducible exact HBC.out | with_reducible apply HB.drew | with_reducible apply HB.alloc))).mono ?_; rintro e wN ⟨rfl, hq⟩; replace HBC : Hid (HB w (fun _ => False) x _ wN) := hq; clear hq))
  rw [hsh]
  clear e1 e2 e3 hd hp1 hp2 hsh
  go_loopw [14, 15] (fun ok i wr => ∃ j : Nat, j ≤ fit ∧ ok = .bool true ∧ i = .int .i64 j ∧ Hid (HB w (fun _ => False) x (st j) wr)) (fun _ i _ => (fit - intOf i).toNat)
  case atStart => exact ⟨0, by omega, rfl, rfl, HBC.out⟩
  case round =>
    clear HBC
    obtain ⟨j, hjf, rfl, rfl, HBC⟩ := hrel
    by_cases hlt : j < fit
    · have hlt2 : (j : Int) < (fit : Int) := by omega
      obtain ⟨p, hp⟩ : ∃ p : Int, p = (j : Int) * SZ := ⟨_, rfl⟩
      have hp0 : 0 ≤ p := by rw [hp]; exact Int.mul_nonneg (by omega) (by omega)
      have hp9 : p < 1024 := by rw [hp]; exact hS1 j hlt
      have hmul : (j : Int) * SZ = p := hp.symm
      have HNj := HN.out j hlt
      rw [hmul] at HNj
      replace HNj : Hid _ := HNj
      have hDj := hD j
      have hAj := hA (167772160 + p)
      clear hp
      go_wp2_with (first | (go_at_call 19; refine (HG.out _ _ (by omega) (by omega)).mono ?_; rintro e wN ⟨rfl, hq⟩; replace HBC : Hid (HB w (fun _ => False) x _ wN) := HB.below (by repeat' (first | with_reducible exact HBC.out | with_reducible apply HB.drew | with_reducible apply HB.alloc)) hq; clear hq) | (go_at_call 21; refine (HZ.out _).mono ?_; rintro e wN ⟨rfl, hq⟩; replace HBC : Hid (HB w (fun _ => False) x _ wN) := HB.below (by repeat' (first | with_reducible exact HBC.out | with_reducible apply HB.drew | with_reducible apply HB.alloc)) hq; clear hq) | (go_at_call 20; refine (HA.out _ _ (by omega) (by omega)).mono ?_; rintro e wN ⟨rfl, hq⟩; replace HBC : Hid (HB w (fun _ => False) x _ wN) := HB.below (by repeat' (first | with_reducible exact HBC.out | with_reducible apply HB.drew | with_reducible apply HB.alloc)) hq; clear hq) | (go_at_call 14; have hst : HB w (fun _ => False) x (st j) wN := HBC.out; clear hst; refine (HNj.out x _ (by repeat' (first | with_reducible exact HBC.out | with_reducible apply HB.drew | with_reducible apply HB.alloc))).mono ?_; rintro e wN ⟨rfl, hq⟩; replace HBC : Hid (HB w (fun _ => False) x _ wN) := hq; clear hq))
      go_roundw
      case rel => exact ⟨j + 1, by omega, rfl, by simp, HBC.out⟩
      case measure => simp [intOf]; omega
    · obtain rfl : j = fit := by omega
      have hlt2 : ¬ (j : Int) < (j : Int) := by omega
      obtain ⟨p, hp⟩ : ∃ p : Int, p = (k : Int) * SZ := ⟨_, rfl⟩
      have hp0 : 0 ≤ p := by rw [hp]; exact Int.mul_nonneg (by omega) (by omega)
      have hp9 : p < 1024 := by rw [hp]; exact hS1 k hk
      have hmul : (k : Int) * SZ = p := hp.symm
      rw [hmul] at HR HH
      have hAj := hA (167772160 + p)
      clear hp
      go_wp2_with (first | (go_at_call 19; refine (HG.out _ _ (by omega) (by omega)).mono ?_; rintro e wN ⟨rfl, hq⟩; replace HBC : Hid (HB w (fun _ => False) x _ wN) := HB.below (by repeat' (first | with_reducible exact HBC.out | with_reducible apply HB.drew | with_reducible apply HB.alloc)) hq; clear hq) | (go_at_call 21; refine (HZ.out _).mono ?_; rintro e wN ⟨rfl, hq⟩; replace HBC : Hid (HB w (fun _ => False) x _ wN) := HB.below (by repeat' (first | with_reducible exact HBC.out | with_reducible apply HB.drew | with_reducible apply HB.alloc)) hq; clear hq) | (go_at_call 18; refine (HP.out _ _ _ (by simp) (by simp)).mono ?_; rintro e wN ⟨rfl, hq⟩; replace HBC : Hid (HB w (fun _ => False) x _ wN) := HB.below (by repeat' (first | with_reducible exact HBC.out | with_reducible apply HB.drew | with_reducible apply HB.alloc)) hq; clear hq) | (go_at_call 20; refine (HA.out _ _ (by omega) (by omega)).mono ?_; rintro e wN ⟨rfl, hq⟩; replace HBC : Hid (HB w (fun _ => False) x _ wN) := HB.below (by repeat' (first | with_reducible exact HBC.out | with_reducible apply HB.drew | with_reducible apply HB.alloc)) hq; clear hq) | (go_at_call 14; have hst : HB w (fun _ => False) x (st j) wN := HBC.out; clear hst; refine (HF.out x _ (by repeat' (first | with_reducible exact HBC.out | with_reducible apply HB.drew | with_reducible apply HB.alloc))).mono ?_; rintro e wN ⟨rfl, hq⟩; replace HBC : Hid (HB w (fun _ => False) x _ wN) := hq; clear hq) | (go_at_call 14; have hst : HB w (fun _ => False) x sF wN := HBC.out; clear hst; refine (HR.out x _ (by repeat' (first | with_reducible exact HBC.out | with_reducible apply HB.drew | with_reducible apply HB.alloc))).mono ?_; rintro e wN ⟨rfl, hq⟩; replace HBC : Hid (HB w (fun _ => False) x _ wN) := hq; clear hq) | (go_at_call 14; have hst : HB w (fun _ => False) x sG wN := HBC.out; clear hst; refine (HH.out x _ (by repeat' (first | with_reducible exact HBC.out | with_reducible apply HB.drew | with_reducible apply HB.alloc))).mono ?_; rintro e wN ⟨rfl, hq⟩; replace HBC : Hid (HB w (fun _ => False) x _ wN) := hq; clear hq) | (go_at_call 14; have hst : HB w (fun _ => False) x sH wN := HBC.out; clear hst; refine (HI.out x _ (by repeat' (first | with_reducible exact HBC.out | with_reducible apply HB.drew | with_reducible apply HB.alloc))).mono ?_; rintro e wN ⟨rfl, hq⟩; replace HBC : Hid (HB w (fun _ => False) x _ wN) := hq; clear hq))
      go_ret
      exact ⟨rfl, HBC.out.low⟩
end Go.Proofs.YtlikdnmikdldfaaGreatDoor
namespace Go.Proofs.YtlikdnmikdldfaaGreatDoor
open Go.Conc Go.ChangeShapes Go.WideShapes Go.ChangeAt Go.RowKit
set_option linter.unusedVariables false
set_option linter.unusedSimpArgs false

set_option maxRecDepth 100000 in
set_option maxHeartbeats 800000 in
theorem filled_go32 (bits more which : Int) (n d fit k : Nat) (q : Int) (SZ : Int) (D : Int → ByteArray) (AA : Int → ByteArray) (st : Nat → Bk) (sF sG sH : Bk) (w : World) (hn : 22 ≤ n ∧ n ≤ 30) (hnm : (n : Int) ≤ 32) (hm2 : 32 ≤ 32) (hd : (n : Int) + (d : Int) = q) (hq : 32 < q) (hq2 : q ≤ 40)
    (hp1 : pk bits 9 = (n : Int) - 22) (hp2 : pk more 5 = d) (hp3 : pk which fit = k) (hk : k < fit) (hf : fit ≤ 16) (hf1 : 1 ≤ fit)
    (hD : ∀ j, (D j).size ≤ 3) (hA : ∀ a, (AA a).size ≤ 15) (hsh : wrap64 ((2 : Int) ^ (32 - n)) = (fit : Int)) (hS0 : 0 < SZ) (hS1 : ∀ i : Nat, i < fit → (i : Int) * SZ < 1024)
    (HO : Hid (Calls Tryz.prog 9 #[] w fun e w' => ∃ x d, e = .returned (.tuple #[.pointer (some ⟨x, 0, none⟩), .pointer (some ⟨d, 0, none⟩)]) ∧ HB w (fun _ => False) x bk0 w' ∧ Below w.heap.size w w'))
    (HP : Hid (∀ c k W, (k = 9 ∨ k = 5 ∨ k = fit) → (c = bits ∨ c = more ∨ c = which) → Calls Tryz.prog 18 #[.int .i64 c, .int .i64 k] W fun e w' => e = .returned (.int .i64 (pk c k)) ∧ Below W.heap.size W w'))
    (HG : Hid (∀ (j : Int) W, 0 ≤ j → j ≤ 32 → Calls Tryz.prog 19 #[.int .i64 j] W fun e w' => e = .returned (.string (D j)) ∧ Below W.heap.size W w'))
    (HZ : Hid (∀ W, Calls Tryz.prog 21 #[.int .i64 32] W fun e w' => e = .returned (.int .i64 SZ) ∧ Below W.heap.size W w'))
    (HA : Hid (∀ (a : Int) W, 0 ≤ a → a < 4294967296 → Calls Tryz.prog 20 #[.int .u32 a] W fun e w' => e = .returned (.string (AA a)) ∧ Below W.heap.size W w'))
    (H0 : Hid (∀ x W, HB w (fun _ => False) x bk0 W → Calls Tryz.prog 14 #[.pointer (some ⟨x, 0, none⟩), .string ((⟨#[80, 79, 79, 76, 32, 112, 32, 97, 110, 110, 32]⟩ : ByteArray) ++ ((⟨#[49, 48, 46, 48, 46, 48, 46, 48, 47]⟩ : ByteArray) ++ D n))] W fun e w' => e = .returned (.string (⟨#[79, 75]⟩ : ByteArray)) ∧ HB w (fun _ => False) x (st 0) w'))
    (HN : Hid (∀ (i : Nat) (hi : i < fit) x W, HB w (fun _ => False) x (st i) W → Calls Tryz.prog 14 #[.pointer (some ⟨x, 0, none⟩), .string ((⟨#[78, 69, 84, 32, 110]⟩ : ByteArray) ++ D i ++ (⟨#[32, 97, 110, 110, 32]⟩ : ByteArray) ++ ((⟨#[49, 48, 46, 48, 46, 48, 46, 48, 47]⟩ : ByteArray) ++ D n) ++ (⟨#[32]⟩ : ByteArray) ++ D 32)] W fun e w' => e = .returned (.string ((⟨#[79, 75, 32]⟩ : ByteArray) ++ AA (167772160 + (i : Int) * SZ) ++ (⟨#[47]⟩ : ByteArray) ++ D 32)) ∧ HB w (fun _ => False) x (st (i + 1)) w'))
    (HF : Hid (∀ x W, HB w (fun _ => False) x (st fit) W → Calls Tryz.prog 14 #[.pointer (some ⟨x, 0, none⟩), .string ((⟨#[78, 69, 84, 32, 102, 32, 97, 110, 110, 32]⟩ : ByteArray) ++ ((⟨#[49, 48, 46, 48, 46, 48, 46, 48, 47]⟩ : ByteArray) ++ D n) ++ (⟨#[32]⟩ : ByteArray) ++ D 32)] W fun e w' => e = .returned (.string (⟨#[69, 82, 82, 32, 70, 85, 76, 76]⟩ : ByteArray)) ∧ HB w (fun _ => False) x sF w'))
    (HR : Hid (∀ x W, HB w (fun _ => False) x sF W → Calls Tryz.prog 14 #[.pointer (some ⟨x, 0, none⟩), .string ((⟨#[70, 82, 69, 69, 32, 103, 32, 97, 110, 110, 32]⟩ : ByteArray) ++ (AA (167772160 + (k : Int) * SZ) ++ (⟨#[47]⟩ : ByteArray) ++ D 32))] W fun e w' => e = .returned (.string (⟨#[79, 75]⟩ : ByteArray)) ∧ HB w (fun _ => False) x sG w'))
    (HH : Hid (∀ x W, HB w (fun _ => False) x sG W → Calls Tryz.prog 14 #[.pointer (some ⟨x, 0, none⟩), .string ((⟨#[78, 69, 84, 32, 104, 32, 98, 111, 98, 32]⟩ : ByteArray) ++ ((⟨#[49, 48, 46, 48, 46, 48, 46, 48, 47]⟩ : ByteArray) ++ D n) ++ (⟨#[32]⟩ : ByteArray) ++ D 32)] W fun e w' => e = .returned (.string ((⟨#[79, 75, 32]⟩ : ByteArray) ++ (AA (167772160 + (k : Int) * SZ) ++ (⟨#[47]⟩ : ByteArray) ++ D 32))) ∧ HB w (fun _ => False) x sH w'))
    (HI : Hid (∀ x W, HB w (fun _ => False) x sH W → Calls Tryz.prog 14 #[.pointer (some ⟨x, 0, none⟩), .string ((⟨#[78, 69, 84, 32, 105, 32, 98, 111, 98, 32]⟩ : ByteArray) ++ ((⟨#[49, 48, 46, 48, 46, 48, 46, 48, 47]⟩ : ByteArray) ++ D n) ++ (⟨#[32]⟩ : ByteArray) ++ D 32)] W fun e w' => e = .returned (.string (⟨#[69, 82, 82, 32, 70, 85, 76, 76]⟩ : ByteArray)) ∧ HB w (fun _ => False) x sH w'))
 :
    Calls Tryz.prog 5 #[.int .i64 bits, .int .i64 more, .int .i64 which] w fun e w' => e = .returned (.bool true) ∧ Below w.heap.size w w' := by
  have hDn := hD n
  have hDm := hD 32
  have e1 : (22 : Int) + ((n : Int) - 22) = n := by omega
  have e2 : (32 : Int) < q := hq
  have e3 : (n : Int) ≤ 32 := by omega
  go_enter Tryz.func5, Tryz.ntmps5
  go_wp2_with (first | (go_at_call 9; refine HO.out.mono ?_; rintro e wN ⟨x, dd, rfl, HBC, hq⟩; replace HBC : Hid (HB w (fun _ => False) x bk0 wN) := HBC; clear hq) | (go_at_call 18; refine (HP.out _ _ _ (by simp) (by simp)).mono ?_; rintro e wN ⟨rfl, hq⟩; replace HBC : Hid (HB w (fun _ => False) x _ wN) := HB.below (by repeat' (first | with_reducible exact HBC.out | with_reducible apply HB.drew | with_reducible apply HB.alloc)) hq; clear hq) | (go_at_call 19; refine (HG.out _ _ (by omega) (by omega)).mono ?_; rintro e wN ⟨rfl, hq⟩; replace HBC : Hid (HB w (fun _ => False) x _ wN) := HB.below (by repeat' (first | with_reducible exact HBC.out | with_reducible apply HB.drew | with_reducible apply HB.alloc)) hq; clear hq) | (go_at_call 14; have hst : HB w (fun _ => False) x bk0 wN := HBC.out; clear hst; refine (H0.out x _ (by repeat' (first | with_reducible exact HBC.out | with_reducible apply HB.drew | with_reducible apply HB.alloc))).mono ?_; rintro e wN ⟨rfl, hq⟩; replace HBC : Hid (HB w (fun _ => False) x _ wN) := hq; clear hq))
  rw [hsh]
  clear e1 e2 e3 hd hp1 hp2 hsh hq hq2
  go_loopw [14, 15] (fun ok i wr => ∃ j : Nat, j ≤ fit ∧ ok = .bool true ∧ i = .int .i64 j ∧ Hid (HB w (fun _ => False) x (st j) wr)) (fun _ i _ => (fit - intOf i).toNat)
  case atStart => exact ⟨0, by omega, rfl, rfl, HBC.out⟩
  case round =>
    clear HBC
    obtain ⟨j, hjf, rfl, rfl, HBC⟩ := hrel
    by_cases hlt : j < fit
    · have hlt2 : (j : Int) < (fit : Int) := by omega
      obtain ⟨p, hp⟩ : ∃ p : Int, p = (j : Int) * SZ := ⟨_, rfl⟩
      have hp0 : 0 ≤ p := by rw [hp]; exact Int.mul_nonneg (by omega) (by omega)
      have hp9 : p < 1024 := by rw [hp]; exact hS1 j hlt
      have hmul : (j : Int) * SZ = p := hp.symm
      have HNj := HN.out j hlt
      rw [hmul] at HNj
      replace HNj : Hid _ := HNj
      have hDj := hD j
      have hAj := hA (167772160 + p)
      clear hp
      go_wp2_with (first | (go_at_call 19; refine (HG.out _ _ (by omega) (by omega)).mono ?_; rintro e wN ⟨rfl, hq⟩; replace HBC : Hid (HB w (fun _ => False) x _ wN) := HB.below (by repeat' (first | with_reducible exact HBC.out | with_reducible apply HB.drew | with_reducible apply HB.alloc)) hq; clear hq) | (go_at_call 21; refine (HZ.out _).mono ?_; rintro e wN ⟨rfl, hq⟩; replace HBC : Hid (HB w (fun _ => False) x _ wN) := HB.below (by repeat' (first | with_reducible exact HBC.out | with_reducible apply HB.drew | with_reducible apply HB.alloc)) hq; clear hq) | (go_at_call 20; refine (HA.out _ _ (by omega) (by omega)).mono ?_; rintro e wN ⟨rfl, hq⟩; replace HBC : Hid (HB w (fun _ => False) x _ wN) := HB.below (by repeat' (first | with_reducible exact HBC.out | with_reducible apply HB.drew | with_reducible apply HB.alloc)) hq; clear hq) | (go_at_call 14; have hst : HB w (fun _ => False) x (st j) wN := HBC.out; clear hst; refine (HNj.out x _ (by repeat' (first | with_reducible exact HBC.out | with_reducible apply HB.drew | with_reducible apply HB.alloc))).mono ?_; rintro e wN ⟨rfl, hq⟩; replace HBC : Hid (HB w (fun _ => False) x _ wN) := hq; clear hq))
      go_roundw
      case rel => exact ⟨j + 1, by omega, rfl, by simp, HBC.out⟩
      case measure => simp [intOf]; omega
    · obtain rfl : j = fit := by omega
      have hlt2 : ¬ (j : Int) < (j : Int) := by omega
      obtain ⟨p, hp⟩ : ∃ p : Int, p = (k : Int) * SZ := ⟨_, rfl⟩
      have hp0 : 0 ≤ p := by rw [hp]; exact Int.mul_nonneg (by omega) (by omega)
      have hp9 : p < 1024 := by rw [hp]; exact hS1 k hk
      have hmul : (k : Int) * SZ = p := hp.symm
      rw [hmul] at HR HH
      have hAj := hA (167772160 + p)
      clear hp
      go_wp2_with (first | (go_at_call 19; refine (HG.out _ _ (by omega) (by omega)).mono ?_; rintro e wN ⟨rfl, hq⟩; replace HBC : Hid (HB w (fun _ => False) x _ wN) := HB.below (by repeat' (first | with_reducible exact HBC.out | with_reducible apply HB.drew | with_reducible apply HB.alloc)) hq; clear hq) | (go_at_call 21; refine (HZ.out _).mono ?_; rintro e wN ⟨rfl, hq⟩; replace HBC : Hid (HB w (fun _ => False) x _ wN) := HB.below (by repeat' (first | with_reducible exact HBC.out | with_reducible apply HB.drew | with_reducible apply HB.alloc)) hq; clear hq) | (go_at_call 18; refine (HP.out _ _ _ (by simp) (by simp)).mono ?_; rintro e wN ⟨rfl, hq⟩; replace HBC : Hid (HB w (fun _ => False) x _ wN) := HB.below (by repeat' (first | with_reducible exact HBC.out | with_reducible apply HB.drew | with_reducible apply HB.alloc)) hq; clear hq) | (go_at_call 20; refine (HA.out _ _ (by omega) (by omega)).mono ?_; rintro e wN ⟨rfl, hq⟩; replace HBC : Hid (HB w (fun _ => False) x _ wN) := HB.below (by repeat' (first | with_reducible exact HBC.out | with_reducible apply HB.drew | with_reducible apply HB.alloc)) hq; clear hq) | (go_at_call 14; have hst : HB w (fun _ => False) x (st j) wN := HBC.out; clear hst; refine (HF.out x _ (by repeat' (first | with_reducible exact HBC.out | with_reducible apply HB.drew | with_reducible apply HB.alloc))).mono ?_; rintro e wN ⟨rfl, hq⟩; replace HBC : Hid (HB w (fun _ => False) x _ wN) := hq; clear hq) | (go_at_call 14; have hst : HB w (fun _ => False) x sF wN := HBC.out; clear hst; refine (HR.out x _ (by repeat' (first | with_reducible exact HBC.out | with_reducible apply HB.drew | with_reducible apply HB.alloc))).mono ?_; rintro e wN ⟨rfl, hq⟩; replace HBC : Hid (HB w (fun _ => False) x _ wN) := hq; clear hq) | (go_at_call 14; have hst : HB w (fun _ => False) x sG wN := HBC.out; clear hst; refine (HH.out x _ (by repeat' (first | with_reducible exact HBC.out | with_reducible apply HB.drew | with_reducible apply HB.alloc))).mono ?_; rintro e wN ⟨rfl, hq⟩; replace HBC : Hid (HB w (fun _ => False) x _ wN) := hq; clear hq) | (go_at_call 14; have hst : HB w (fun _ => False) x sH wN := HBC.out; clear hst; refine (HI.out x _ (by repeat' (first | with_reducible exact HBC.out | with_reducible apply HB.drew | with_reducible apply HB.alloc))).mono ?_; rintro e wN ⟨rfl, hq⟩; replace HBC : Hid (HB w (fun _ => False) x _ wN) := hq; clear hq))
      go_ret
      exact ⟨rfl, HBC.out.low⟩
end Go.Proofs.YtlikdnmikdldfaaGreatDoor
namespace Go.Proofs.YtlikdnmikdldfaaGreatDoor
open Go.Conc Go.ChangeShapes Go.WideShapes Go.ChangeAt Go.RowKit
set_option linter.unusedVariables false
set_option linter.unusedSimpArgs false

theorem sz_fit {n m : Nat} (h : n ≤ m) (hm : m ≤ 32) : sz (n : Int) = (fitN n m : Int) * sz (m : Int) := by
  unfold sz fitN
  rw [show ((m : Int) - (n : Int)).toNat = m - n by omega, show (32 - (n : Int)).toNat = (m - n) + (32 - m) by omega, show (32 - (m : Int)).toNat = 32 - m by omega, Int.pow_add]
  simp
theorem fit_lt {n m : Nat} (h : n ≤ m) (hm : m ≤ 32) (h22 : 22 ≤ n) {i : Nat} (hi : i < fitN n m) : (i : Int) * sz (m : Int) < 1024 ∧ 0 ≤ (i : Int) * sz (m : Int) := by
  have h1 := sz_fit h hm
  have h2 : sz (n : Int) ≤ sz 22 := sz_mono (by omega) (by omega)
  have h3 : sz 22 = 1024 := by decide
  have h4 := sz_pos (m : Int)
  have h5 : (i : Int) * sz (m : Int) < (fitN n m : Int) * sz (m : Int) := Int.mul_lt_mul_of_pos_right (by omega) h4
  exact ⟨by omega, Int.mul_nonneg (by omega) (by omega)⟩
theorem k_rt {m : Nat} (h : 22 ≤ m) (hm : m ≤ 32) (k : Int) : rt (B0 + k * sz (m : Int)) m = true := by
  obtain ⟨_, _, h1⟩ := rt_iff.1 (B0_rt (m : Int) (by omega) (by omega))
  exact rt_iff.2 ⟨by omega, by omega, by rw [Int.add_mul_emod_self_right]; exact h1⟩
def tokIn (T : List Tk) (f : Nat) (more : List (List UInt8)) : Prop := ∀ x, x ∈ T → x.t = bA [112] ∨ (∃ j, j < f ∧ x.t = bA (110 :: dec j)) ∨ ∃ t, t ∈ more ∧ x.t = bA t
theorem tokIn_ne {T : List Tk} {f : Nat} {more : List (List UInt8)} (h : tokIn T f more) {t : List UInt8} (h1 : t ≠ [112]) (h2 : ∀ l, t ≠ 110 :: l) (h3 : t ∉ more) : ∀ x, x ∈ T → x.t ≠ bA t := fun x hx => by
  rcases h x hx with e | ⟨j, _, e⟩ | ⟨u, hu, e⟩
  · rw [e]; exact tok_ne (fun q => h1 q.symm)
  · rw [e]; exact tok_ne (fun q => h2 _ q.symm)
  · rw [e]; exact tok_ne (fun q => h3 (q ▸ hu))
theorem tokIn_add {T : List Tk} {f : Nat} {more : List (List UInt8)} (h : tokIn T f more) (y : Tk) {t : List UInt8} (hy : y.t = bA t) : tokIn (addT T y) f (t :: more) := fun x hx => by
  rcases mem_addT hx with e | e
  · exact .inr (.inr ⟨t, by simp, by rw [e]; exact hy⟩)
  · rcases h x e with q | q | ⟨u, hu, q⟩
    · exact .inl q
    · exact .inr (.inl q)
    · exact .inr (.inr ⟨u, by simp [hu], q⟩)
/-- behind the last one that fits -/
theorem fill_rest {n m : Nat} (F : Fl (n : Int) (m : Int)) (h0 : 22 ≤ n) (h1 : n ≤ 30) (hm : m ≤ 32) (hnm : n ≤ m) {s : Bk} (hs : AtN n m (fitN n m) s) {k : Nat} (hk : k < fitN n m) :
    ∃ sG sH, doAll s (bs ([78, 69, 84, 32, 102, 32, 97, 110, 110, 32] ++ ([49, 48, 46, 48, 46, 48, 46, 48, 47] ++ dec n) ++ [32] ++ dec m)) = (s, (⟨#[69, 82, 82, 32, 70, 85, 76, 76]⟩ : ByteArray)) ∧
      doAll s (bs ([70, 82, 69, 69, 32, 103, 32, 97, 110, 110, 32] ++ wr (B0 + (k : Int) * sz m).toNat m)) = (sG, okB) ∧
      doAll sG (bs ([78, 69, 84, 32, 104, 32, 98, 111, 98, 32] ++ ([49, 48, 46, 48, 46, 48, 46, 48, 47] ++ dec n) ++ [32] ++ dec m)) = (sH, bs ([79, 75, 32] ++ wr (B0 + (k : Int) * sz m).toNat m)) ∧
      doAll sH (bs ([78, 69, 84, 32, 105, 32, 98, 111, 98, 32] ++ ([49, 48, 46, 48, 46, 48, 46, 48, 47] ++ dec n) ++ [32] ++ dec m)) = (sH, (⟨#[69, 82, 82, 32, 70, 85, 76, 76]⟩ : ByteArray)) := by
  obtain ⟨T, rfl, hT⟩ := hs
  have hT0 : tokIn T (fitN n m) [] := fun x hx => (hT x hx).imp id .inl
  obtain ⟨_, _, _, _, b5⟩ := F.back k hk
  have hb := fit_lt hnm hm h0 hk
  have hbb : (0 : Int) ≤ B0 + (k : Int) * sz m ∧ B0 + (k : Int) * sz m < 4294967296 := by unfold B0; omega
  have hl : ∀ (t o : List UInt8), [78, 69, 84, 32] ++ t ++ [32] ++ o ++ [32] ++ ([49, 48, 46, 48, 46, 48, 46, 48, 47] ++ dec n) ++ [32] ++ dec m = verb 2 ++ 32 :: (t ++ 32 :: (o ++ 32 :: (wr B0.toNat n ++ 32 :: dec m))) := fun t o => by
    rw [wr10]; simp [verb, verbT]
  have hrF : rdLine (bs ([70, 82, 69, 69, 32, 103, 32, 97, 110, 110, 32] ++ wr (B0 + (k : Int) * sz m).toNat m)).data.toList = some (lnB 4 [103] annT (B0 + (k : Int) * sz m) m) := by
    rw [bs_data]
    have := read_block (k := 4) (t := [103]) (o := annT) (a := B0 + (k : Int) * sz m) (n := m) (by omega) (by decide) (by decide) hbb.1 hbb.2 (k_rt (by omega) hm k)
    rw [Int.toNat_natCast] at this
    exact this
  have hrH : rdLine (bs ([78, 69, 84, 32, 104, 32, 98, 111, 98, 32] ++ ([49, 48, 46, 48, 46, 48, 46, 48, 47] ++ dec n) ++ [32] ++ dec m)).data.toList = some { lnB 2 [104] bobT B0 n with g := m } := by
    rw [bs_data]
    have := read_net (t := [104]) (o := bobT) (a := B0) (n := n) (g := m) (by decide) (by decide) (by decide) (by decide) (B0_rt n (by omega) (by omega)) hm
    rw [Int.toNat_natCast, ← hl [104] bobT] at this
    exact this
  have d1 := step_full F.pool h0 h1 hm hnm F.full (T := T) (t := [102]) (o := annT) (by decide) (by decide) (tokIn_ne hT0 (by decide) (fun l q => by cases q) (by simp)) (hl [102] annT)
  have d2 := doAll_new (s := ⟨fP n, nat m (fitN n m), [], T⟩) hrF (by show 4 < 8; omega) (findT_none (tokIn_ne hT0 (t := [103]) (by decide) (fun l q => by cases q) (by simp))) (fill_free F k hk [103] T)
  rw [if_pos (show okA.e = 0 from rfl), ok_text] at d2
  have hT1 := tokIn_add hT0 (⟨(lnB 4 [103] annT (B0 + (k : Int) * sz m) m).t, bs ([70, 82, 69, 69, 32, 103, 32, 97, 110, 110, 32] ++ wr (B0 + (k : Int) * sz m).toNat m), okB⟩ : Tk) (t := [103]) rfl
  have d3 := doAll_new (s := ⟨fP n, delAt (nat m (fitN n m)) k, [], addT T ⟨(lnB 4 [103] annT (B0 + (k : Int) * sz m) m).t, bs ([70, 82, 69, 69, 32, 103, 32, 97, 110, 110, 32] ++ wr (B0 + (k : Int) * sz m).toNat m), okB⟩⟩) hrH (by show 2 < 8; omega) (findT_none (tokIn_ne hT1 (t := [104]) (by decide) (fun l q => by cases q) (by decide))) (fill_again F (by omega) (by omega) k hk [104] _)
  rw [if_pos (show (tell1 (bA (bText (B0 + (k : Int) * sz m) m))).e = 0 from rfl), tell_text] at d3
  have hT2 := tokIn_add hT1 (⟨({ lnB 2 [104] bobT B0 n with g := m } : Ln).t, bs ([78, 69, 84, 32, 104, 32, 98, 111, 98, 32] ++ ([49, 48, 46, 48, 46, 48, 46, 48, 47] ++ dec n) ++ [32] ++ dec m), bs ([79, 75, 32] ++ bText (B0 + (k : Int) * sz m) m)⟩ : Tk) (t := [104]) rfl
  have d4 := step_full F.pool h0 h1 hm hnm b5 (t := [105]) (o := bobT) (by decide) (by decide) (tokIn_ne hT2 (by decide) (fun l q => by cases q) (by decide)) (hl [105] bobT)
  exact ⟨_, _, d1, d2, d3, d4⟩
/-- the states of the law -/
def fillSt (n m : Nat) : Nat → Bk
  | 0 => (doAll bk0 (bs ([80, 79, 79, 76, 32, 112, 32, 97, 110, 110, 32] ++ ([49, 48, 46, 48, 46, 48, 46, 48, 47] ++ dec n)))).1
  | i + 1 => (doAll (fillSt n m i) (bs ([78, 69, 84, 32, 110] ++ dec i ++ [32, 97, 110, 110, 32] ++ ([49, 48, 46, 48, 46, 48, 46, 48, 47] ++ dec n) ++ [32] ++ dec m))).1
theorem fillSt_inv (n m : Nat) : ∀ i, Inv (fillSt n m i)
  | 0 => inv_all bk0_ok.1 _
  | i + 1 => inv_all (fillSt_inv n m i) _
theorem fillSt_at {n m : Nat} (F : Fl (n : Int) (m : Int)) (h0 : 22 ≤ n) (h1 : n ≤ 30) (hm : m ≤ 32) (hnm : n ≤ m) : ∀ i, i ≤ fitN n m → AtN n m i (fillSt n m i)
  | 0, _ => by
    obtain ⟨s, e, h⟩ := step_pool h0 h1 (m : Int)
    unfold fillSt; rw [e]; exact h
  | i + 1, hi => by
    have ih := fillSt_at F h0 h1 hm hnm i (by omega)
    have := F.le
    obtain ⟨s, e, h⟩ := step_net F h0 h1 hm hnm (i := i) (by omega) (by omega) ih
    unfold fillSt; rw [e]; exact h
theorem fillSt_net {n m : Nat} (F : Fl (n : Int) (m : Int)) (h0 : 22 ≤ n) (h1 : n ≤ 30) (hm : m ≤ 32) (hnm : n ≤ m) {i : Nat} (hi : i < fitN n m) :
    doAll (fillSt n m i) (bs ([78, 69, 84, 32, 110] ++ dec i ++ [32, 97, 110, 110, 32] ++ ([49, 48, 46, 48, 46, 48, 46, 48, 47] ++ dec n) ++ [32] ++ dec m)) = (fillSt n m (i + 1), bs ([79, 75, 32] ++ wr (B0 + (i : Int) * sz m).toNat m)) := by
  have := F.le
  obtain ⟨s, e, h⟩ := step_net F h0 h1 hm hnm (i := i) hi (by omega) (fillSt_at F h0 h1 hm hnm i (by omega))
  rw [e]
  show _ = ((doAll (fillSt n m i) _).1, _)
  rw [e]
end Go.Proofs.YtlikdnmikdldfaaGreatDoor
namespace Go.Proofs.YtlikdnmikdldfaaGreatDoor
open Go.Conc Go.ChangeShapes Go.WideShapes Go.ChangeAt Go.RowKit
set_option linter.unusedVariables false
set_option linter.unusedSimpArgs false

/-- a line whose answer is known -/
theorem hb_known (w : World) (E : EnvT w) (hZ : 10 ≤ w.heap.size) (x : Nat) (s s' : Bk) (line line' ans : ByteArray) (hl : line = line') (he : doAll s line' = (s', ans)) (hI : Inv s) (W : World) (hW : HB w (fun _ => False) x s W) :
    Calls Tryz.prog 14 #[.pointer (some ⟨x, 0, none⟩), .string line] W fun e w' => e = .returned (.string ans) ∧ HB w (fun _ => False) x s' w' := by
  subst hl
  refine (hb_do w (fun _ => False) x s line E hZ hI W hW (fun b k => k.elim)).mono ?_
  rintro e w' ⟨rfl, h1, _⟩
  rw [he] at h1 ⊢
  exact ⟨rfl, h1⟩
def DI (j : Int) : ByteArray := bs (dec j.toNat)
def AI (a : Int) : ByteArray := bs (dot a.toNat)
theorem DI_size (j : Int) (h : j.toNat < 100) : (DI j).size ≤ 3 := by unfold DI; rw [bs_size]; have := dec_len2 h; omega

theorem filled_a (bits more which : Int) (n d : Nat) (m : Nat) (k : Nat) (w : World) (E : EnvT w) (hZ : 10 ≤ w.heap.size) (h0 : 22 ≤ n) (h1 : n ≤ 30) (hd : n + d = m) (hm : m ≤ 32) (F : Fl (n : Int) (m : Nat))
    (hb : ∀ c, (c = bits ∨ c = more ∨ c = which) → -9223372036854775808 ≤ c ∧ c ≤ 9223372036854775807) (hp1 : pk bits 9 = (n : Int) - 22) (hp2 : pk more 5 = d) (hp3 : pk which (fitN n (m : Nat) : Int) = k) (hk : k < fitN n (m : Nat)) :
    Calls Tryz.prog 5 #[.int .i64 bits, .int .i64 more, .int .i64 which] w fun e w' => e = .returned (.bool true) ∧ Below w.heap.size w w' := by
  have hfl := F.le
  have hmm : n ≤ (m : Nat) := by omega
  have hm32 : (m : Nat) ≤ 32 := by omega
  obtain ⟨sG, sH, d1, d2, d3, d4⟩ := fill_rest F h0 h1 hm32 hmm (fillSt_at F h0 h1 hm32 hmm _ (Nat.le_refl _)) hk
  have hIf := fillSt_inv n (m : Nat) (fitN n (m : Nat))
  have hIG : Inv sG := by have h := inv_all hIf (bs ([70, 82, 69, 69, 32, 103, 32, 97, 110, 110, 32] ++ wr (B0 + (k : Int) * sz (m : Nat)).toNat (m : Nat))); rw [d2] at h; exact h
  have hIH : Inv sH := by have h := inv_all hIG (bs ([78, 69, 84, 32, 104, 32, 98, 111, 98, 32] ++ ([49, 48, 46, 48, 46, 48, 46, 48, 47] ++ dec n) ++ [32] ++ dec (m : Nat))); rw [d3] at h; exact h
  have hsz := sz_pos ((m : Nat) : Int)
  have hw : ∀ a : Nat, bs (wr a (m : Nat)) = bs (dot a) ++ (⟨#[47]⟩ : ByteArray) ++ bs (dec (m : Nat)) := fun a => by
    show _ = bs (dot a) ++ bs [47] ++ bs (dec (m : Nat))
    rw [bs_append, bs_append]; unfold wr; simp
  have hDn : ∀ j : Nat, j ≤ 32 → (if 0 ≤ (j : Int) ∧ (j : Int) ≤ 32 then DI (j : Int) else ⟨#[]⟩) = bs (dec j) := fun j hj => by rw [if_pos ⟨by omega, by omega⟩]; rfl
  have hDm : (if 0 ≤ (m : Int) ∧ (m : Int) ≤ 32 then DI (m : Int) else ⟨#[]⟩) = bs (dec (m : Nat)) := by rw [if_pos ⟨by omega, by omega⟩]; rfl
  have hfk := fit_lt hmm hm32 h0 hk
  have hAI : ∀ a : Int, 0 ≤ a → a < 4294967296 → (if 0 ≤ a ∧ a < 4294967296 then AI a else ⟨#[]⟩) = bs (dot a.toNat) := fun a q1 q2 => by rw [if_pos ⟨q1, q2⟩]; rfl
  have ok3 : (⟨#[79, 75, 32]⟩ : ByteArray) = bs [79, 75, 32] := rfl
  have app3 : ∀ a b c d : ByteArray, a ++ (b ++ c ++ d) = a ++ b ++ c ++ d := fun a b c d => by simp [ByteArray.append_assoc]
  have he0 : doAll bk0 (bs ([80, 79, 79, 76, 32, 112, 32, 97, 110, 110, 32] ++ ([49, 48, 46, 48, 46, 48, 46, 48, 47] ++ dec n))) = (fillSt n (m : Nat) 0, okB) := by
    obtain ⟨s, e, _⟩ := step_pool h0 h1 0
    show _ = ((doAll bk0 _).1, _)
    rw [e]
  refine filled_go bits more which n d (fitN n (m : Nat)) k (m : Int) (sz ((m : Nat) : Int)) (fun j => if 0 ≤ j ∧ j ≤ 32 then DI j else ⟨#[]⟩) (fun a => if 0 ≤ a ∧ a < 4294967296 then AI a else ⟨#[]⟩) (fillSt n (m : Nat)) (fillSt n (m : Nat) (fitN n (m : Nat))) sG sH w ⟨h0, h1⟩ (by omega) (by omega) ?_ hp1 hp2 hp3 hk (by omega) (by unfold fitN; exact Nat.one_le_two_pow) ?_ ?_ ?_ hsz (fun i hi => (fit_lt hmm hm32 h0 hi).1) (opened_any w w (Below.refl _ _)) ?_ ?_ ?_ ?_ ?_ ?_ ?_ ?_ ?_ ?_
  · omega
  · intro j
    split
    · exact DI_size j (by omega)
    · decide
  · intro a
    split
    · unfold AI; rw [bs_size]; exact (dot_lenB a.toNat (by omega)).2
    · decide
  · have h := ksize_fin ⟨(m : Nat) - n, by omega⟩
    have e : (fitN n (m : Nat) : Int) = 2 ^ ((m : Nat) - n) := by unfold fitN; rw [show (((m : Nat) : Int) - (n : Int)).toNat = (m : Nat) - n by omega]; simp
    rw [e]; exact h
  · intro c k W hk hc
    have hf1 : 1 ≤ fitN n (m : Nat) := (by unfold fitN; exact Nat.one_le_two_pow)
    refine (pick_any c k W (hb c hc) (by omega) (by omega)).mono ?_
    rintro e w' ⟨rfl, rfl⟩
    exact ⟨rfl, Below.refl _ _⟩
  · intro j W hj0 hj1
    rw [if_pos ⟨hj0, hj1⟩]
    exact kdigits_any j W hj0 (by omega)
  · intro W
    refine (ksize_any ((m : Nat) : Int) W (by omega) (by omega)).mono ?_
    rintro e w' ⟨rfl, rfl⟩
    exact ⟨rfl, Below.refl _ _⟩
  · intro a W ha0 ha1
    rw [if_pos ⟨ha0, ha1⟩]
    exact kaddr_any a W ha0 ha1
  · intro x W hW
    refine hb_known w E hZ x bk0 _ _ _ _ ?_ (he0) bk0_ok.1 W hW
    rw [hDn n (by omega)]
    show bs _ ++ (bs _ ++ bs _) = _
    rw [bs_append, bs_append]
  · intro i hi x W hW
    have hfi := fit_lt hmm hm32 h0 hi
    refine (hb_known w E hZ x _ _ _ _ _ ?_ (fillSt_net F h0 h1 hm32 hmm hi) (fillSt_inv n _ i) W hW).mono ?_
    · rw [hDn n (by omega), hDn i (by omega), hDm]
      show bs _ ++ bs _ ++ bs _ ++ (bs _ ++ bs _) ++ bs _ ++ bs _ = _
      simp only [bs_append]
    · rintro e w' ⟨rfl, h⟩
      refine ⟨?_, h⟩
      rw [hDm, hAI (167772160 + (i : Int) * sz ((m : Nat) : Int)) (by omega) (by omega), ok3]
      show _ = Ending.returned (.string (bs [79, 75, 32] ++ bs (dot (B0 + (i : Int) * sz (m : Nat)).toNat) ++ (⟨#[47]⟩ : ByteArray) ++ bs (dec (m : Nat))))
      rw [← bs_append, hw, ← app3]
  · intro x W hW
    refine hb_known w E hZ x _ _ _ _ _ ?_ d1 hIf W hW
    rw [hDn n (by omega), hDm]
    show bs _ ++ (bs _ ++ bs _) ++ bs _ ++ bs _ = _
    simp only [bs_append]
  · intro x W hW
    refine hb_known w E hZ x _ _ _ _ _ ?_ d2 hIf W hW
    rw [hDm, hAI (167772160 + (k : Int) * sz ((m : Nat) : Int)) (by omega) (by omega)]
    show bs _ ++ (bs (dot (B0 + (k : Int) * sz (m : Nat)).toNat) ++ (⟨#[47]⟩ : ByteArray) ++ bs (dec (m : Nat))) = _
    rw [← hw, bs_append]
  · intro x W hW
    refine (hb_known w E hZ x _ _ _ _ _ ?_ d3 hIG W hW).mono ?_
    · rw [hDn n (by omega), hDm]
      show bs _ ++ (bs _ ++ bs _) ++ bs _ ++ bs _ = _
      simp only [bs_append]
    · rintro e w' ⟨rfl, h⟩
      refine ⟨?_, h⟩
      rw [hDm, hAI (167772160 + (k : Int) * sz ((m : Nat) : Int)) (by omega) (by omega), ok3]
      show _ = Ending.returned (.string (bs [79, 75, 32] ++ (bs (dot (B0 + (k : Int) * sz (m : Nat)).toNat) ++ (⟨#[47]⟩ : ByteArray) ++ bs (dec (m : Nat)))))
      rw [← bs_append, hw]
  · intro x W hW
    refine hb_known w E hZ x _ _ _ _ _ ?_ d4 hIH W hW
    rw [hDn n (by omega), hDm]
    show bs _ ++ (bs _ ++ bs _) ++ bs _ ++ bs _ = _
    simp only [bs_append]

theorem filled_b (bits more which : Int) (n d : Nat) (q : Int) (k : Nat) (w : World) (E : EnvT w) (hZ : 10 ≤ w.heap.size) (h0 : 22 ≤ n) (h1 : n ≤ 30) (hd : (n : Int) + (d : Int) = q) (hq : 32 < q) (hq2 : q ≤ 40) (F : Fl (n : Int) (32 : Nat))
    (hb : ∀ c, (c = bits ∨ c = more ∨ c = which) → -9223372036854775808 ≤ c ∧ c ≤ 9223372036854775807) (hp1 : pk bits 9 = (n : Int) - 22) (hp2 : pk more 5 = d) (hp3 : pk which (fitN n (32 : Nat) : Int) = k) (hk : k < fitN n (32 : Nat)) :
    Calls Tryz.prog 5 #[.int .i64 bits, .int .i64 more, .int .i64 which] w fun e w' => e = .returned (.bool true) ∧ Below w.heap.size w w' := by
  have hfl := F.le
  have hmm : n ≤ (32 : Nat) := by omega
  have hm32 : (32 : Nat) ≤ 32 := by omega
  obtain ⟨sG, sH, d1, d2, d3, d4⟩ := fill_rest F h0 h1 hm32 hmm (fillSt_at F h0 h1 hm32 hmm _ (Nat.le_refl _)) hk
  have hIf := fillSt_inv n (32 : Nat) (fitN n (32 : Nat))
  have hIG : Inv sG := by have h := inv_all hIf (bs ([70, 82, 69, 69, 32, 103, 32, 97, 110, 110, 32] ++ wr (B0 + (k : Int) * sz (32 : Nat)).toNat (32 : Nat))); rw [d2] at h; exact h
  have hIH : Inv sH := by have h := inv_all hIG (bs ([78, 69, 84, 32, 104, 32, 98, 111, 98, 32] ++ ([49, 48, 46, 48, 46, 48, 46, 48, 47] ++ dec n) ++ [32] ++ dec (32 : Nat))); rw [d3] at h; exact h
  have hsz := sz_pos ((32 : Nat) : Int)
  have hw : ∀ a : Nat, bs (wr a (32 : Nat)) = bs (dot a) ++ (⟨#[47]⟩ : ByteArray) ++ bs (dec (32 : Nat)) := fun a => by
    show _ = bs (dot a) ++ bs [47] ++ bs (dec (32 : Nat))
    rw [bs_append, bs_append]; unfold wr; simp
  have hDn : ∀ j : Nat, j ≤ 32 → (if 0 ≤ (j : Int) ∧ (j : Int) ≤ 32 then DI (j : Int) else ⟨#[]⟩) = bs (dec j) := fun j hj => by rw [if_pos ⟨by omega, by omega⟩]; rfl
  have hDm : (if 0 ≤ (32 : Int) ∧ (32 : Int) ≤ 32 then DI (32 : Int) else ⟨#[]⟩) = bs (dec (32 : Nat)) := by rw [if_pos ⟨by omega, by omega⟩]; rfl
  have hfk := fit_lt hmm hm32 h0 hk
  have hAI : ∀ a : Int, 0 ≤ a → a < 4294967296 → (if 0 ≤ a ∧ a < 4294967296 then AI a else ⟨#[]⟩) = bs (dot a.toNat) := fun a q1 q2 => by rw [if_pos ⟨q1, q2⟩]; rfl
  have ok3 : (⟨#[79, 75, 32]⟩ : ByteArray) = bs [79, 75, 32] := rfl
  have app3 : ∀ a b c d : ByteArray, a ++ (b ++ c ++ d) = a ++ b ++ c ++ d := fun a b c d => by simp [ByteArray.append_assoc]
  have he0 : doAll bk0 (bs ([80, 79, 79, 76, 32, 112, 32, 97, 110, 110, 32] ++ ([49, 48, 46, 48, 46, 48, 46, 48, 47] ++ dec n))) = (fillSt n (32 : Nat) 0, okB) := by
    obtain ⟨s, e, _⟩ := step_pool h0 h1 0
    show _ = ((doAll bk0 _).1, _)
    rw [e]
  refine filled_go32 bits more which n d (fitN n (32 : Nat)) k q (sz ((32 : Nat) : Int)) (fun j => if 0 ≤ j ∧ j ≤ 32 then DI j else ⟨#[]⟩) (fun a => if 0 ≤ a ∧ a < 4294967296 then AI a else ⟨#[]⟩) (fillSt n (32 : Nat)) (fillSt n (32 : Nat) (fitN n (32 : Nat))) sG sH w ⟨h0, h1⟩ (by omega) (by omega) ?_ ?_ ?_ hp1 hp2 hp3 hk (by omega) (by unfold fitN; exact Nat.one_le_two_pow) ?_ ?_ ?_ hsz (fun i hi => (fit_lt hmm hm32 h0 hi).1) (opened_any w w (Below.refl _ _)) ?_ ?_ ?_ ?_ ?_ ?_ ?_ ?_ ?_ ?_
  · exact hd
  · exact hq
  · exact hq2
  · intro j
    split
    · exact DI_size j (by omega)
    · decide
  · intro a
    split
    · unfold AI; rw [bs_size]; exact (dot_lenB a.toNat (by omega)).2
    · decide
  · have h := ksize_fin ⟨(32 : Nat) - n, by omega⟩
    have e : (fitN n (32 : Nat) : Int) = 2 ^ ((32 : Nat) - n) := by unfold fitN; rw [show (((32 : Nat) : Int) - (n : Int)).toNat = (32 : Nat) - n by omega]; simp
    rw [e]; exact h
  · intro c k W hk hc
    have hf1 : 1 ≤ fitN n (32 : Nat) := (by unfold fitN; exact Nat.one_le_two_pow)
    refine (pick_any c k W (hb c hc) (by omega) (by omega)).mono ?_
    rintro e w' ⟨rfl, rfl⟩
    exact ⟨rfl, Below.refl _ _⟩
  · intro j W hj0 hj1
    rw [if_pos ⟨hj0, hj1⟩]
    exact kdigits_any j W hj0 (by omega)
  · intro W
    refine (ksize_any ((32 : Nat) : Int) W (by omega) (by omega)).mono ?_
    rintro e w' ⟨rfl, rfl⟩
    exact ⟨rfl, Below.refl _ _⟩
  · intro a W ha0 ha1
    rw [if_pos ⟨ha0, ha1⟩]
    exact kaddr_any a W ha0 ha1
  · intro x W hW
    refine hb_known w E hZ x bk0 _ _ _ _ ?_ (he0) bk0_ok.1 W hW
    rw [hDn n (by omega)]
    show bs _ ++ (bs _ ++ bs _) = _
    rw [bs_append, bs_append]
  · intro i hi x W hW
    have hfi := fit_lt hmm hm32 h0 hi
    refine (hb_known w E hZ x _ _ _ _ _ ?_ (fillSt_net F h0 h1 hm32 hmm hi) (fillSt_inv n _ i) W hW).mono ?_
    · rw [hDn n (by omega), hDn i (by omega), hDm]
      show bs _ ++ bs _ ++ bs _ ++ (bs _ ++ bs _) ++ bs _ ++ bs _ = _
      simp only [bs_append]
    · rintro e w' ⟨rfl, h⟩
      refine ⟨?_, h⟩
      rw [hDm, hAI (167772160 + (i : Int) * sz ((32 : Nat) : Int)) (by omega) (by omega), ok3]
      show _ = Ending.returned (.string (bs [79, 75, 32] ++ bs (dot (B0 + (i : Int) * sz (32 : Nat)).toNat) ++ (⟨#[47]⟩ : ByteArray) ++ bs (dec (32 : Nat))))
      rw [← bs_append, hw, ← app3]
  · intro x W hW
    refine hb_known w E hZ x _ _ _ _ _ ?_ d1 hIf W hW
    rw [hDn n (by omega), hDm]
    show bs _ ++ (bs _ ++ bs _) ++ bs _ ++ bs _ = _
    simp only [bs_append]
  · intro x W hW
    refine hb_known w E hZ x _ _ _ _ _ ?_ d2 hIf W hW
    rw [hDm, hAI (167772160 + (k : Int) * sz ((32 : Nat) : Int)) (by omega) (by omega)]
    show bs _ ++ (bs (dot (B0 + (k : Int) * sz (32 : Nat)).toNat) ++ (⟨#[47]⟩ : ByteArray) ++ bs (dec (32 : Nat))) = _
    rw [← hw, bs_append]
  · intro x W hW
    refine (hb_known w E hZ x _ _ _ _ _ ?_ d3 hIG W hW).mono ?_
    · rw [hDn n (by omega), hDm]
      show bs _ ++ (bs _ ++ bs _) ++ bs _ ++ bs _ = _
      simp only [bs_append]
    · rintro e w' ⟨rfl, h⟩
      refine ⟨?_, h⟩
      rw [hDm, hAI (167772160 + (k : Int) * sz ((32 : Nat) : Int)) (by omega) (by omega), ok3]
      show _ = Ending.returned (.string (bs [79, 75, 32] ++ (bs (dot (B0 + (k : Int) * sz (32 : Nat)).toNat) ++ (⟨#[47]⟩ : ByteArray) ++ bs (dec (32 : Nat)))))
      rw [← bs_append, hw]
  · intro x W hW
    refine hb_known w E hZ x _ _ _ _ _ ?_ d4 hIH W hW
    rw [hDn n (by omega), hDm]
    show bs _ ++ (bs _ ++ bs _) ++ bs _ ++ bs _ = _
    simp only [bs_append]

theorem filled_walk (bits more which : Int) (w : World) (E : EnvT w) (hZ : 10 ≤ w.heap.size) (hb : ∀ c, (c = bits ∨ c = more ∨ c = which) → -9223372036854775808 ≤ c ∧ c ≤ 9223372036854775807) :
    Calls Tryz.prog 5 #[.int .i64 bits, .int .i64 more, .int .i64 which] w fun e w' => e = .returned (.bool true) ∧ Below w.heap.size w w' := by
  have p1 := pk_bd bits 9 (by omega)
  have p2 := pk_bd more 5 (by omega)
  obtain ⟨n, hn⟩ : ∃ n : Nat, (n : Int) = pk bits 9 + 22 := ⟨(pk bits 9 + 22).toNat, by omega⟩
  obtain ⟨d, hd⟩ : ∃ d : Nat, (d : Int) = pk more 5 := ⟨(pk more 5).toNat, by omega⟩
  have F := fl_any n d (by omega) (by omega) (by omega)
  by_cases hm : n + d ≤ 32
  · have e : mOf n d = ((n + d : Nat) : Int) := by unfold mOf; rw [if_neg (by omega)]
    rw [e] at F
    have hf : 1 ≤ fitN (n : Int) ((n + d : Nat) : Int) := by unfold fitN; exact Nat.one_le_two_pow
    have p3 := pk_bd which (fitN (n : Int) ((n + d : Nat) : Int) : Int) (by omega)
    exact filled_a bits more which n d (n + d) (pk which (fitN (n : Int) ((n + d : Nat) : Int) : Int)).toNat w E hZ (by omega) (by omega) rfl hm F hb (by omega) hd.symm (by omega) (by omega)
  · have e : mOf n d = ((32 : Nat) : Int) := by unfold mOf; rw [if_pos (by omega)]; rfl
    rw [e] at F
    have hf : 1 ≤ fitN (n : Int) ((32 : Nat) : Int) := by unfold fitN; exact Nat.one_le_two_pow
    have p3 := pk_bd which (fitN (n : Int) ((32 : Nat) : Int) : Int) (by omega)
    exact filled_b bits more which n d ((n : Int) + (d : Int)) (pk which (fitN (n : Int) ((32 : Nat) : Int) : Int)).toNat w E hZ (by omega) (by omega) rfl (by omega) (by omega) F hb (by omega) hd.symm (by omega) (by omega)
end Go.Proofs.YtlikdnmikdldfaaGreatDoor
namespace Go.Proofs.YtlikdnmikdldfaaGreatDoor
open Go.ChangeShapes Go.WideShapes Go.ChangeAt Go.RowKit
set_option linter.unusedVariables false
set_option linter.unusedSimpArgs false

def laidAt : List (String × DataW Unit) := [("math/bits.deBruijn32tab", Rows.laid_math_bits_deBruijn32tab), ("math/bits.deBruijn64tab", Rows.laid_math_bits_deBruijn64tab), ("internal/strconv.uint64pow10", Rows.laid_internal_strconv_uint64pow10), ("unicode/utf8.acceptRanges", Rows.laid_unicode_utf8_acceptRanges), ("strconv.ErrRange", Rows.laid_strconv_ErrRange), ("strconv.ErrSyntax", Rows.laid_strconv_ErrSyntax), ("acre/answers.words", Rows.laid_acre_answers_words), ("acre/lines.forms", Rows.laid_acre_lines_forms), ("unicode/utf8.first", Rows.laid_unicode_utf8_first)]
theorem own : ownKnob Tryz.prog.godebug = none := by kernel_rfl
theorem tSyn : (Tryz.prog.globals[6]?).map (·.type) = some 128 := by kernel_rfl
theorem tRng : (Tryz.prog.globals[7]?).map (·.type) = some 128 := by kernel_rfl
theorem tTab : (Tryz.prog.globals[5]?).map (·.type) = some 285 := by kernel_rfl
theorem cellsTab : Tryz.prog.cellsOf 285 = 20 := by kernel_rfl
theorem cellsU64 : Tryz.prog.cellsOf 269 = 1 := by kernel_rfl
theorem cellsErr : Tryz.prog.cellsOf 298 = 1 := by kernel_rfl
theorem cellsStr : Tryz.prog.cellsOf 9 = 1 := by kernel_rfl
theorem tabEq : (Rows.laid_internal_strconv_uint64pow10 : DataW Unit) = Lib.tabData .u64 Lib.pow10Tab := by kernel_rfl
theorem var_lt {W : World} {n : String} {g : Nat} {cs : Array Value} (hg : Tryz.prog.globalNamed n = some g) (h : W.var? Tryz.prog n = some cs) : g < W.heap.size := by
  unfold World.var? at h
  simp only [hg, Option.bind_some] at h
  rcases Nat.lt_or_ge g W.heap.size with e | e
  · exact e
  · rw [Array.getElem?_eq_none e] at h; cases h
theorem star : "*" ++ "errors.errorString" = "*errors.errorString" := by decide
theorem rowErr (u : TypeId) (h : Tryz.prog.typeName? 3 u = some "*errors.errorString") : u = 296 :=
  typeName_ptr_named (nm := "errors.errorString") (by rw [star]; kernel_rfl) (by kernel_rfl) (by decide) u (by rw [star]; exact h)
theorem gWords : Tryz.prog.globalNamed "acre/answers.words" = some 1 := by kernel_rfl
theorem gForms : Tryz.prog.globalNamed "acre/lines.forms" = some 0 := by kernel_rfl
theorem gBr : Tryz.prog.globalNamed "math/bits.deBruijn64tab" = some 9 := by kernel_rfl
theorem tWords : (Tryz.prog.globals[1]?).map (·.type) = some 123 := by kernel_rfl
theorem tForms : (Tryz.prog.globals[0]?).map (·.type) = some 122 := by kernel_rfl
theorem cForm : Tryz.prog.cellsOf 121 = 5 := by kernel_rfl
theorem cPart : Tryz.prog.cellsOf 118 = 1 := by kernel_rfl
theorem cParts : Tryz.prog.cellsOf 119 = 4 := by kernel_rfl

section
variable {H : Type} {enc : TypeId × Value → H} {w : World} {base : Nat} {sp : Nat → Bool} {held : Bool}
theorem sub_at (cs : List Value) (a b j : Nat) (hj : j < b) : ((cs.drop a).take b)[j]? = cs[a + j]? := by
  rw [List.getElem?_take, if_pos hj, List.getElem?_drop]
theorem one_at {cs : List Value} {a : Nat} {v : Value} (h : (cs.drop a).take 1 = [v]) : cs[a]? = some v := by
  have := congrArg (·[0]?) h
  rw [sub_at cs a 1 0 (by omega)] at this
  simpa using this
theorem str_at {fuel : Nat} {cs : List Value} {a : Nat} {l : List UInt8} {p : List MemPlace} (h : DataW.trod enc Tryz.prog w base sp held fuel 9 ((cs.drop a).take 1) = some (.lit (.string l), p)) : cs[a]? = some (.string ⟨l.toArray⟩) := by
  obtain ⟨s, hc, hx, _⟩ := DataW.trod_string Tryz.underlying9 h
  have e : l = s.data.toList := by simpa using congrArg Prod.fst hx
  rw [one_at hc, e]
theorem int_at {fuel : Nat} {cs : List Value} {a : Nat} {z : Int} {p : List MemPlace} (h : DataW.trod enc Tryz.prog w base sp held fuel 118 ((cs.drop a).take 1) = some (.lit (.int .i64 z), p)) : cs[a]? = some (.int .i64 z) := by
  obtain ⟨n, hc, hx, _⟩ := DataW.trod_int Tryz.underlying118 h
  have e : z = n := by simpa using congrArg Prod.fst hx
  rw [one_at hc, e]
theorem words_cells {fuel : Nat} {cs : List Value} {L : List (List UInt8)} {p : List MemPlace} (h : DataW.trod enc Tryz.prog w base sp held fuel 123 cs = some (.agg (L.map fun l => .lit (.string l)), p)) (i : Nat) (hi : i < 14) (l : List UInt8) (hl : L[i]? = some l) : cs[i]? = some (.string ⟨l.toArray⟩) := by
  obtain ⟨xs, m, rfl, hx, _, hxl, hxs⟩ := DataW.trod_array Tryz.underlying123 h
  have h1 := hxs i hi
  rw [cellsStr, Nat.mul_one] at h1
  have h2 : L.map (fun l => (DataW.lit (.string l) : DataW H)) = xs.map (·.1) := by simpa using congrArg Prod.fst hx
  have h3 : (xs.map (·.1))[i]? = some (DataW.lit (.string l)) := by rw [← h2]; simp [hl]
  rw [List.getElem?_map] at h3
  rcases hxi : xs[i]? with _ | y
  · rw [hxi] at h3; cases h3
  · rw [hxi] at h1 h3
    obtain ⟨y1, y2⟩ := y
    have e : y1 = DataW.lit (.string l) := by simpa using h3
    rw [e] at h1
    exact str_at h1
theorem form_cells_at {fuel : Nat} {cs : List Value} {a : Nat} {l : List UInt8} {z0 z1 z2 z3 : Int} {p : List MemPlace} (h : DataW.trod enc Tryz.prog w base sp held fuel 121 ((cs.drop a).take 5) = some (.agg [.lit (.string l), .agg [.lit (.int .i64 z0), .lit (.int .i64 z1), .lit (.int .i64 z2), .lit (.int .i64 z3)]], p)) :
    cs[a]? = some (.string ⟨l.toArray⟩) ∧ cs[a + 1]? = some (.int .i64 z0) ∧ cs[a + 2]? = some (.int .i64 z1) ∧ cs[a + 3]? = some (.int .i64 z2) ∧ cs[a + 4]? = some (.int .i64 z3) := by
  obtain ⟨xs, m, rfl, hx, _, hxl, hxs⟩ := DataW.trod_struct Tryz.underlying121 h
  have hx1 : [DataW.lit (.string l), .agg [.lit (.int .i64 z0), .lit (.int .i64 z1), .lit (.int .i64 z2), .lit (.int .i64 z3)]] = xs.map (·.1) := by simpa using congrArg Prod.fst hx
  obtain ⟨x0, x1, rfl⟩ : ∃ x0 x1, xs = [x0, x1] := by
    rcases xs with _ | ⟨x0, _ | ⟨x1, _ | ⟨x2, r⟩⟩⟩
    · simp at hx1
    · simp at hx1
    · exact ⟨x0, x1, rfl⟩
    · simp at hx1
  simp only [List.map_cons, List.map_nil, List.cons.injEq, and_true] at hx1
  have f0 : DataW.trod enc Tryz.prog w base sp held m 9 ((((cs.drop a).take 5).drop 0).take (Tryz.prog.cellsOf 9)) = some x0 := hxs 0 _ rfl
  have f1 : DataW.trod enc Tryz.prog w base sp held m 119 ((((cs.drop a).take 5).drop 1).take (Tryz.prog.cellsOf 119)) = some x1 := hxs 1 _ rfl
  rw [cellsStr] at f0
  rw [cParts] at f1
  obtain ⟨y0, q0⟩ := x0
  obtain ⟨y1, q1⟩ := x1
  simp only at hx1
  rw [← hx1.1] at f0
  rw [← hx1.2] at f1
  have s0 := str_at f0
  rw [sub_at cs a 5 0 (by omega)] at s0
  obtain ⟨us, m2, e2, hu, _, hul, hus⟩ := DataW.trod_array Tryz.underlying119 f1
  have hu1 : [DataW.lit (.int .i64 z0), .lit (.int .i64 z1), .lit (.int .i64 z2), .lit (.int .i64 z3)] = us.map (·.1) := by simpa using congrArg Prod.fst hu
  have hget : ∀ j z, j < 4 → ([z0, z1, z2, z3] : List Int)[j]? = some z → cs[a + 1 + j]? = some (.int .i64 z) := fun j z hj hz => by
    have h1 := hus j hj
    rw [cPart, Nat.mul_one] at h1
    have h3 : (us.map (·.1))[j]? = some (DataW.lit (.int .i64 z)) := by
      rw [← hu1]
      have : ([z0, z1, z2, z3] : List Int).map (fun z => (DataW.lit (.int .i64 z) : DataW H)) = [DataW.lit (.int .i64 z0), .lit (.int .i64 z1), .lit (.int .i64 z2), .lit (.int .i64 z3)] := rfl
      rw [← this, List.getElem?_map, hz]; rfl
    rw [List.getElem?_map] at h3
    rcases hxi : us[j]? with _ | y
    · rw [hxi] at h3; cases h3
    · rw [hxi] at h1 h3
      obtain ⟨y1, y2⟩ := y
      have e : y1 = DataW.lit (.int .i64 z) := by simpa using h3
      rw [e] at h1
      have h4 := int_at h1
      rw [sub_at _ 1 4 j hj, sub_at cs a 5 (1 + j) (by omega)] at h4
      rw [show a + 1 + j = a + (1 + j) by omega]; exact h4
  exact ⟨s0, hget 0 z0 (by omega) rfl, hget 1 z1 (by omega) rfl, hget 2 z2 (by omega) rfl, hget 3 z3 (by omega) rfl⟩
end
theorem laid_head {W : World} {nm : String} {d : DataW Unit} {rest : List (String × DataW Unit)} {g : Nat} {t : TypeId} (hg : Tryz.prog.globalNamed nm = some g) (ht : (Tryz.prog.globals[g]?).map (·.type) = some t) (h : laidMet Tryz.prog ((nm, d) :: rest) W) :
    ∃ cs fuel p, W.var? Tryz.prog nm = some cs ∧ DataW.trod (fun _ => ()) Tryz.prog W 0 (fun _ => true) false fuel t cs.toList = some (d, p) := by
  obtain ⟨ps, ⟨g', t', cs, fuel, p, q, hg', ht', hvar, hd, _, _⟩, _⟩ := h
  obtain rfl := Option.some.inj (hg.symm.trans hg')
  obtain rfl := Option.some.inj (ht.symm.trans ht')
  exact ⟨cs, fuel, p, hvar, hd⟩
theorem tBr : (Tryz.prog.globals[9]?).map (·.type) = some 300 := by kernel_rfl
def formsL : List (List UInt8 × Int × Int × Int × Int) := [([80, 79, 79, 76], 1, 2, 3, 0), ([68, 82, 79, 80], 1, 2, 3, 0), ([78, 69, 84], 1, 2, 3, 5), ([66, 76, 79, 67, 75], 1, 2, 3, 0), ([70, 82, 69, 69], 1, 2, 3, 0), ([76, 69, 65, 83, 69], 1, 2, 3, 0), ([84, 65, 75, 69], 1, 2, 4, 0), ([71, 73, 86, 69], 1, 2, 4, 0), ([80, 79, 79, 76, 83], 0, 0, 0, 0), ([78, 69, 84, 83], 3, 0, 0, 0), ([85, 83, 69, 68], 3, 0, 0, 0)]
theorem formsEq : (Rows.laid_acre_lines_forms : DataW Unit) = .agg (formsL.map fun f => .agg [.lit (.string f.1), .agg [.lit (.int .i64 f.2.1), .lit (.int .i64 f.2.2.1), .lit (.int .i64 f.2.2.2.1), .lit (.int .i64 f.2.2.2.2)]]) := by kernel_rfl
theorem wordsEq : (Rows.laid_acre_answers_words : DataW Unit) = .agg (wordsT.map fun l => .lit (.string l)) := by kernel_rfl
theorem forms_cell (k : Nat) (hk : k < 11) : ∃ f, formsL[k]? = some f ∧ formsC[k * 5]? = some (.string ⟨f.1.toArray⟩) ∧ formsC[k * 5 + 1]? = some (.int .i64 f.2.1) ∧ formsC[k * 5 + 2]? = some (.int .i64 f.2.2.1) ∧ formsC[k * 5 + 3]? = some (.int .i64 f.2.2.2.1) ∧ formsC[k * 5 + 4]? = some (.int .i64 f.2.2.2.2) := by
  have hc : k = 0 ∨ k = 1 ∨ k = 2 ∨ k = 3 ∨ k = 4 ∨ k = 5 ∨ k = 6 ∨ k = 7 ∨ k = 8 ∨ k = 9 ∨ k = 10 := by omega
  rcases hc with rfl | rfl | rfl | rfl | rfl | rfl | rfl | rfl | rfl | rfl | rfl <;> exact ⟨_, rfl, rfl, rfl, rfl, rfl, rfl⟩
/-- WHAT THE ROW's LIST AND THE WORLD's SHAPE GIVE -/
theorem env_of_laid {W : World} (h : laidMetH Tryz.prog laidAt W) (hsh : W.ShapedOpen Tryz.prog) : EnvT W ∧ 10 ≤ W.heap.size := by
  rw [MakeChecks.laidMetH_plain _ _ _ (by kernel_rfl)] at h
  obtain ⟨csb, _, _, hvb, _⟩ := laid_head gBr tBr h.tail
  have h2 := h.tail.tail
  have ht : Lib.TabIs Tryz.prog W "internal/strconv.uint64pow10" .u64 Lib.pow10Tab := by
    have h3 := h2
    rw [tabEq] at h3
    exact Lib.tabIs_of_head gTab tTab Tryz.underlying285 Tryz.underlying269 cellsU64 cellsTab h3
  obtain ⟨a1, s1, hv1, _, _, _⟩ := laid_sentinel h2.tail.tail gRng tRng Tryz.underlying128 rowErr Tryz.underlying296 Tryz.underlying298 rfl rfl Tryz.underlying9 cellsErr cellsStr
  obtain ⟨a2, s2, hv2, _, _, _⟩ := laid_sentinel h2.tail.tail.tail gSyn tSyn Tryz.underlying128 rowErr Tryz.underlying296 Tryz.underlying298 rfl rfl Tryz.underlying9 cellsErr cellsStr
  have h4 := h2.tail.tail.tail.tail
  obtain ⟨cw, fw, pw, hvw, hdw⟩ := laid_head gWords tWords h4
  obtain ⟨cf, ff, pf, hvf, hdf⟩ := laid_head gForms tForms h4.tail
  rw [wordsEq] at hdw
  rw [formsEq] at hdf
  obtain ⟨m, hm⟩ := Tryz.laysM147.s1_3 W hsh
  have hb := var_lt gBr hvb
  refine ⟨⟨⟨⟨block_lt_of_cell hm, var_lt gSyn hv2, var_lt gRng hv1, var_lt gTab ht⟩, ⟨m, hm⟩, ⟨_, _, hv2⟩, ⟨_, _, hv1⟩, ht⟩, var_lt gWords hvw, var_lt gForms hvf, fun i v hi => ?_, fun i v hi => ?_⟩, hb⟩
  · have hi14 : i < 14 := by
      rcases Nat.lt_or_ge i 14 with q | q
      · exact q
      · rw [Array.getElem?_eq_none (by exact q)] at hi; cases hi
    obtain ⟨l, hl⟩ : ∃ l, wordsT[i]? = some l := ⟨wordsT[i]'(by exact hi14), List.getElem?_eq_getElem _⟩
    have h5 := words_cells hdw i hi14 l hl
    have h6 : wordsC[i]? = some (.string ⟨l.toArray⟩) := by
      have hc : i = 0 ∨ i = 1 ∨ i = 2 ∨ i = 3 ∨ i = 4 ∨ i = 5 ∨ i = 6 ∨ i = 7 ∨ i = 8 ∨ i = 9 ∨ i = 10 ∨ i = 11 ∨ i = 12 ∨ i = 13 := by omega
      rcases hc with rfl | rfl | rfl | rfl | rfl | rfl | rfl | rfl | rfl | rfl | rfl | rfl | rfl | rfl <;> (cases hl; rfl)
    rw [h6] at hi
    rw [World.var?_cell gWords hvw i, ← hi, ← h5]; simp
  · have hi55 : i < 55 := by
      rcases Nat.lt_or_ge i 55 with q | q
      · exact q
      · rw [Array.getElem?_eq_none (by exact q)] at hi; cases hi
    obtain ⟨xs, mm, rfl, hx, _, hxl, hxs⟩ := DataW.trod_array Tryz.underlying122 hdf
    obtain ⟨f, hf, c0, c1, c2, c3, c4⟩ := forms_cell (i / 5) (by omega)
    have h1 := hxs (i / 5) (by omega)
    rw [cForm] at h1
    have hx1 : formsL.map (fun f => (DataW.agg [.lit (.string f.1), .agg [.lit (.int .i64 f.2.1), .lit (.int .i64 f.2.2.1), .lit (.int .i64 f.2.2.2.1), .lit (.int .i64 f.2.2.2.2)]] : DataW Unit)) = xs.map (·.1) := by simpa using congrArg Prod.fst hx
    have h3 : (xs.map (·.1))[i / 5]? = some (DataW.agg [.lit (.string f.1), .agg [.lit (.int .i64 f.2.1), .lit (.int .i64 f.2.2.1), .lit (.int .i64 f.2.2.2.1), .lit (.int .i64 f.2.2.2.2)]]) := by rw [← hx1, List.getElem?_map, hf]; rfl
    rw [List.getElem?_map] at h3
    rcases hxi : xs[i / 5]? with _ | y
    · rw [hxi] at h3; cases h3
    · rw [hxi] at h1 h3
      obtain ⟨y1, y2⟩ := y
      have e : y1 = _ := Option.some.inj h3
      rw [e] at h1
      obtain ⟨k0, k1, k2, k3, k4⟩ := form_cells_at h1
      rw [World.var?_cell gForms hvf i]
      have hr : i = i / 5 * 5 ∨ i = i / 5 * 5 + 1 ∨ i = i / 5 * 5 + 2 ∨ i = i / 5 * 5 + 3 ∨ i = i / 5 * 5 + 4 := by omega
      rcases hr with q | q | q | q | q
      · rw [q] at hi ⊢; rw [c0] at hi; rw [← hi, ← k0]; simp
      · rw [q] at hi ⊢; rw [c1] at hi; rw [← hi, ← k1]; simp
      · rw [q] at hi ⊢; rw [c2] at hi; rw [← hi, ← k2]; simp
      · rw [q] at hi ⊢; rw [c3] at hi; rw [← hi, ← k3]; simp
      · rw [q] at hi ⊢; rw [c4] at hi; rw [← hi, ← k4]; simp
theorem laid_met (os : Os) (args : Array Value) : laidMetH Tryz.prog laidAt ((World.laidAll Tryz.prog os laidAt).forCall (fun _ _ => 0) ⟨#[], args, []⟩).memory := by
  rw [MakeChecks.laidMetH_plain _ _ _ (by kernel_rfl)]
  exact laidMet_laidAll _ (by kernel_rfl) (by kernel_rfl)
end Go.Proofs.YtlikdnmikdldfaaGreatDoor
namespace Go.Proofs.YtlikdnmikdldfaaGreatDoor
open Go.ChangeShapes Go.WideShapes Go.ChangeAt Go.RowKit Go.Joins
open Go.ChangeMaps (open_string shut_string)
set_option linter.unusedVariables false
namespace filled

set_option maxRecDepth 100000 in
theorem contract (H : Type) (enc : TypeId × Value → H) (W : World) (base : Nat) (args : Array Value) (ds gs : List (DataW H)) (before : List MemPlace)
    (hval : ∀ (j : Nat) t v, Tryz.f5.params[j]? = some t → args[j]? = some v → Value.okWide Tryz.prog W .any base t v)
    (hW : DataW.Whole enc Tryz.prog Tryz.f5.params.toList Rows.filledSpec.vars false W args.toList ds gs before) (hL : laidMetH Tryz.prog laidAt W) (hsh : W.ShapedOpen Tryz.prog) :
    Calls Tryz.prog 5 args W fun e W' => ∃ v, e = .returned v ∧ Rows.filledSpec.post enc Tryz.prog Tryz.f5 false true false false W args v W' := by
  have hW' := hW
  obtain ⟨p, q, hA0, hV, rfl, hfz, hnd⟩ := hW
  have hA : DataW.TrodAll enc Tryz.prog W 0 (fun _ => true) true Tryz.f5.params.toList args.toList ds p := hA0
  rw [Tryz.params5] at hA hval
  obtain ⟨v0, v1, v2, d0, d1, d2, p0, p1, p2, rfl, rfl, rfl, h0, h1, h2⟩ := trodAll_three hA
  obtain ⟨rfl, rfl⟩ := trodVars_none hV
  obtain ⟨a0, rfl, rfl, rfl, w0⟩ := open_int Tryz.underlying3 (hval 0 3 v0 rfl rfl) h0
  obtain ⟨a1, rfl, rfl, rfl, w1⟩ := open_int Tryz.underlying3 (hval 1 3 v1 rfl rfl) h1
  obtain ⟨a2, rfl, rfl, rfl, w2⟩ := open_int Tryz.underlying3 (hval 2 3 v2 rfl rfl) h2
  clear hA0
  simp only [List.append_nil] at hW'
  obtain ⟨E, hZ⟩ := env_of_laid hL hsh
  have b0 := bounds_i64 w0
  have b1 := bounds_i64 w1
  have b2 := bounds_i64 w2
  refine (filled_walk a0 a1 a2 W E hZ (by rintro c (rfl | rfl | rfl) <;> omega)).mono fun e W' ⟨he, hg⟩ => ?_
  subst he
  exact ⟨_, rfl, _, _, _, [], [], [], hW', trodAll_mk1 (shut_bool Tryz.underlying4 _), trodAll_mk3 (shut_int Tryz.underlying3 w0) (shut_int Tryz.underlying3 w1) (shut_int Tryz.underlying3 w2), rfl, hg.frame _, fun h => by cases h⟩

theorem okArgs (os : Os) : Input.okWideB Tryz.prog ((World.laidAll Tryz.prog os laidAt).forCall (fun _ _ => 0) ⟨#[], #[.int .i64 0, .int .i64 0, .int .i64 0], []⟩) 5 ⟨#[], #[.int .i64 0, .int .i64 0, .int .i64 0], []⟩ = true := by kernel_rfl
theorem reads0 (os : Os) {H : Type} (enc : TypeId × Value → H) : ∃ places, DataW.whole enc Tryz.prog ((World.laidAll Tryz.prog os laidAt).forCall (fun _ _ => 0) ⟨#[], #[.int .i64 0, .int .i64 0, .int .i64 0], []⟩).memory Tryz.f5.params.toList Rows.filledSpec.vars false (#[.int .i64 0, .int .i64 0, .int .i64 0] : Array Value).toList 8 = some ([.lit (.int .i64 0), .lit (.int .i64 0), .lit (.int .i64 0)], [], places) :=
  ⟨[], by kernel_rfl⟩

set_option maxRecDepth 100000 in
theorem lifted (os : Os) (started : os.Started) (H : Type) (enc : TypeId × Value → H) (F : Stop.Interp) :
    ReturnsInHanded {} Tryz.checked os 5 .any ((OpenSpec.ofChange Rows.filledSpec).preRow enc Tryz.prog Tryz.f5 Rows.filledRow.domain false Rows.filledRow.laid) (((OpenSpec.ofChange Rows.filledSpec).at F).post enc Tryz.prog Tryz.f5 false true false false) := by
  obtain ⟨places, hx⟩ := reads0 os enc
  refine returnsInHanded_of_row (C := Tryz.checked) (s := OpenSpec.ofChange Rows.filledSpec) own started (by kernel_rfl) Tryz.func5
    ⟨World.laidAll Tryz.prog os laidAt, fun _ _ => 0, ⟨#[], #[.int .i64 0, .int .i64 0, .int .i64 0], []⟩, World.laidAll_os _ _ _, World.shaped_of_ZipB (by kernel_rfl) (by kernel_rfl), (Input.okWide_of_okWideB (base := 0) (okArgs os)).1, (Input.okWide_of_okWideB (okArgs os)).2,
      OpenSpec.preRow_of_cond 8 hx (by kernel_rfl) (fun k hk => by cases hk) (by kernel_rfl) (by have h := laid_met os #[.int .i64 0, .int .i64 0, .int .i64 0]; rw [MakeChecks.laidMetH_plain _ _ _ (by kernel_rfl)] at h; exact h), by
      simp only [Assume.holds]
      exact ⟨by simp, by simp, fun _ => Modest.zero, by simp, by simp⟩⟩ ?_
  intro W base args ds gs before hval hW _ hcond _ hL hsh _
  exact contract H enc W base args ds gs before hval hW hL hsh

theorem said : Rows.FilledSaid :=
  OpenClaim.holds_of_cond 5 Tryz.f5 rfl rfl rfl rfl rfl rfl rfl ⟨rfl, rfl, rfl, rfl, rfl⟩ rfl rfl rfl rfl rfl (by kernel_rfl) Tryz.func5 (by kernel_rfl)
    (of_decide_eq_true (by kernel_rfl)) (by unfold Func.isWrapper; rw [if_neg (of_decide_eq_false (by kernel_rfl))]; exact ⟨rfl, rfl⟩)
    (fun os started H enc _ F => by rw [OpenClaim.pre_eq_preRow]; exact lifted os started H enc F)

theorem plain (f : FuncId) (fn : Func) (hf : Tryz.pinned.checked.prog.funcNamed "acre/acrekeep.Filled" = some f) (hfn : Tryz.pinned.checked.prog.funcs[f]? = some fn) :
    true = Tryz.pinned.checked.prog.looks [] ∧ ∀ (j : Nat) t, fn.params[j]? = some t → Tryz.pinned.checked.prog.wantsStandIn t = false := by
  obtain rfl : f = 5 := Option.some.inj ((show Tryz.prog.funcNamed "acre/acrekeep.Filled" = some 5 by kernel_rfl).symm.trans hf) |>.symm
  obtain rfl : fn = Tryz.f5 := (Option.some.inj (Tryz.func5.symm.trans hfn)).symm
  refine ⟨by kernel_rfl, fun j t ht => ?_⟩
  rw [Tryz.params5] at ht
  have hm : t ∈ [3, 3, 3] := by simpa using Array.mem_of_getElem? ht
  have hall : ([3, 3, 3].all fun u => !Tryz.prog.wantsStandIn u) = true := by kernel_rfl
  exact (show Tryz.prog.wantsStandIn t = false by simpa using List.all_eq_true.1 hall t hm)
end filled

theorem filled_holds : Rows.FilledCardSaid :=
  Claim7.holds_tied_plain_at .later [] _ _ _ _ filled.said (fun _ h => by cases h) (by kernel_rfl) (fun _ h => by cases h) filled_row_tie rfl ⟨rfl, rfl⟩ (by kernel_rfl) rfl filled.plain (by kernel_rfl)
#print axioms filled_holds
end Go.Proofs.YtlikdnmikdldfaaGreatDoor
