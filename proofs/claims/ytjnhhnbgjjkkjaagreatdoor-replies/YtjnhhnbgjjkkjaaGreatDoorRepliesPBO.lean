/-
  BkMl, BkInv
-/
import Derived.Test.YtjnhhnbgjjkkjaaGreatDoorRepliesPBN
set_option linter.unusedVariables false
set_option linter.unusedSimpArgs false
set_option maxRecDepth 100000
set_option maxHeartbeats 2000000
namespace Go.Proofs.YtjnhhnbgjjkkjaaGreatDoor
section
open Go.ChangeShapes Go.WideShapes Go.ChangeAt Go.RowKit Go.Proofs.Tryz
theorem ry(uz:Int):∀ (L:List Ls) (x y:Int),x<=uz->bO uz x L=some y->x<=y/\y<=uz:=by
 intro L;induction L with
 | nil=>intro x y hx h;simp[bO] at h;omega
 | cons z r ih =>
  intro x y hx h;unfold bO at h;split at h
  ·simp at h;omega
  ·split at h
   ·cases h
   ·have:=ih (x+1) y om h
    omega
theorem iU{ls:List Ls}{a n y:Int}(ha:ad a)(hr:rt a n=true)(h:dm ls a n=some y):ad y:=by
 obtain⟨u0,u1,u2⟩:=xw a n ha hr;have:=ry _ _ _ _ u1 h
 unfold ad at u0 ⊢
 omega
theorem iH{bits:Int}(L:List (Int×Int)):∀ (s:Option (Int×Int)) (b:Int×Int),L.foldl (aW bits) s=some b->(b∈L/\b.2<=bits)\/s=some b:=by
 induction L with
 | nil=>intro s b h;exact .inr h
 | cons c r ih =>
  intro s b h;rw[List.foldl_cons] at h;rcases ih _ b h with⟨h1,h2⟩|h1
  ·exact .inl ⟨List.mem_cons_of_mem _ h1,h2⟩
  ·unfold aW at h1;split at h1
   ·rename_i hc
    cases s with
    | none=>simp at h1;subst h1;exact .inl ⟨List.mem_cons_self,hc⟩
    | some d =>
     simp only at h1
     split at h1
     ·simp at h1;subst h1;exact .inl ⟨List.mem_cons_self,hc⟩
     ·exact .inr h1
   ·exact .inr h1
theorem jc(l:List Hd)(hl:∀ h,h∈l->h.n<=32)(k:Nat):∀ (a n:Int),ad a->rt a n=true->∀ b,b∈aL k l a n->ad b.1/\rt b.1 b.2=true:=by
 induction k with
 | zero=>intro a n _ _ b hb;simp[aL] at hb
 | succ k ih =>
  intro a n ha hr b hb;simp only[aL] at hb
  split at hb
  ·simp at hb;subst hb;exact⟨ha,hr⟩
  ·rename_i h1;split at hb
   ·simp at hb
   ·rename_i h2;have hn:=qE hl (by simpa using h1) om
    obtain⟨⟨p1,p2⟩,p3,p4⟩:=up ha hr hn;rcases List.mem_append.1 hb with q|q
    ·exact ih _ _ p1 p2 b q
    ·exact ih _ _ p3 p4 b q
theorem uP(w:World)(x:Nat)(S:Nat->Prop)(s:Bk)(l:Ln)(hI:Inv s)(hL:aY l)(h:aq w x S s)(hE:Env w)(hG:∀ b,S b->10<=b)(hZ:10<=w.heap.size):Calls prog 74 #[.pointer (some (At x 0)),.agg (lnC l)] w (Res w x S (bS s l)):=by
 unfold bS;rcases aV (isH l.a l.n) s.nets hd0 with⟨e,_⟩|⟨k,hk,e,hp,_⟩
 ·have e1:aj s.nets l.a l.n=-1:=e
  rw[if_pos (by rw[e1];decide)];exact sG w x S s l hI hL h e1
 ·have e1:aj s.nets l.a l.n=k:=e
  rw[if_neg (by rw[e1];omega)]
  have hk6:(s.nets.getD k hd0).a=l.a/\(s.nets.getD k hd0).n=l.n:=by simpa[isH] using hp
  rcases hlf:dm s.leases l.a l.n with _|y
  ·exact sK w x S s l hI hL h k _ hk e1 rfl (by rw[hk6.1,hk6.2];exact hlf)
  ·have hy:=iU hL.a hL.r hlf;have hlf2:dm s.leases (s.nets.getD k hd0).a (s.nets.getD k hd0).n=some y:=by rw[hk6.1,hk6.2];exact hlf
   dsimp only;by_cases h5:40<=s.leases.length
   ·rw[if_pos h5];exact oX w x S s l hI hL h k _ hk e1 rfl y hlf2 h5
   ·rw[if_neg h5];exact yd w x S s l hI hL h k _ hk e1 rfl y hy hlf2 h5 hE hG hZ
theorem vC(w:World)(x:Nat)(S:Nat->Prop)(s:Bk)(l:Ln)(hI:Inv s)(hL:aY l)(h:aq w x S s)(hE:Env w)(hG:∀ b,S b->10<=b)(hZ:10<=w.heap.size):Calls prog 71 #[.pointer (some (At x 0)),.agg (lnC l)] w (Res w x S (dC s l)):=by
 unfold dC;rcases aV (isH l.a l.n) s.pools hd0 with⟨e,_⟩|⟨k,hk,e,hp,_⟩
 ·have e1:aj s.pools l.a l.n=-1:=e
  rw[if_pos (by rw[e1];decide)];exact zT w x S s l hI hL h e1
 ·have e1:aj s.pools l.a l.n=k:=e
  rw[if_neg (by rw[e1];omega)]
  by_cases h2:l.g<22\/l.g<l.n
  ·rw[if_pos h2];exact vh w x S s l hI hL h k _ hk e1 hp rfl h2
  ·rw[if_neg h2];have n1:¬l.g<22:=fun q=>h2 (.inl q)
   have n2:¬l.g<l.n:=fun q=>h2 (.inr q)
   rcases hb:dL (aL 33 (af s.nets l.a l.n) l.a l.n) l.g with _|⟨ba,bn⟩
   ·exact AH w x S s l hI hL h k _ hk e1 hp rfl _ hb n1 n2 rfl
   ·have hmem:=iH _ none _ hb;have hin:(ba,bn)∈aL 33 (af s.nets l.a l.n) l.a l.n/\bn<=l.g:=by
     rcases hmem with q|q
     ·exact q
     ·cases q
    have hrt:=jc (af s.nets l.a l.n) (fun q hq=>by have hm:=hI.na q (List.mem_filter.1 hq).1;exact(ah.1 hm.2.1).2.1) 33 l.a l.n hL.a hL.r _ hin.1
    have hba:ad ba/\rt ba l.g=true:=by
     obtain⟨g0,g1,g2⟩:=ah.1 hrt.2;exact⟨hrt.1,ah.2 ⟨by have:=hin.2;omega,hL.g1,d8 ba bn l.g hin.2 hL.g1 g2⟩⟩
    dsimp only;by_cases h5:24<=s.nets.length
    ·rw[if_pos h5];exact vX w x S s l hI hL h k _ hk e1 hp rfl _ hb n1 n2 _ rfl h5
    ·rw[if_neg h5];exact D6 w x S s l hI hL h k _ hk e1 hp rfl _ hb n1 n2 ba bn hba rfl h5 hE hG hZ
end
section
theorem Au{α:Type}(f:α->Int)(d:α)(l:List α):Up f d l ↔ l.Pairwise (fun a b=>f a<=f b):=by
 rw[List.pairwise_iff_getElem];constructor
 ·intro h i j hi hj hij;have:=h i j om hj
  simpa[List.getD_eq_getElem?_getD,List.getElem?_eq_getElem hi,List.getElem?_eq_getElem hj] using this
 ·intro h i j hij hj;have hi:i<l.length:=by omega
  rcases Nat.lt_or_ge i j with q|q
  ·have:=h i j hi hj q
   simpa[List.getD_eq_getElem?_getD,List.getElem?_eq_getElem hi,List.getElem?_eq_getElem hj] using this
  ·obtain rfl:i=j:=by omega
   exact Int.le_refl _
theorem EQ{α:Type}(f:α->Int)(a:Int)(l:List α)(h:l.Pairwise (fun a b=>f a<=f b)):
  (∀ y,y∈l.take (l.countP fun y=>decide (f y<a))->f y<a)/\∀ y,y∈l.drop (l.countP fun y=>decide (f y<a))->a<=f y:=by
 induction l with
 | nil=>simp
 | cons x r ih =>
  have hr:=List.pairwise_cons.1 h;have ih:=ih hr.2;by_cases hx:f x<a
  ·rw[List.countP_cons_of_pos (by simpa using hx)]
   refine⟨fun y hy=>?_,fun y hy=>ih.2 y (by simpa using hy)⟩
   rw[List.take_succ_cons] at hy;rcases List.mem_cons.1 hy with rfl|hy
   ·exact hx
   ·exact ih.1 y hy
  ·have h0:(x::r).countP (fun y=>decide (f y<a))=0:=by
    rw[List.countP_eq_zero];intro y hy;rcases List.mem_cons.1 hy with rfl|hy
    ·simpa using hx
    ·have:=hr.1 y hy;simp;omega
   rw[h0];refine⟨by simp,fun y hy=>?_⟩
   rcases List.mem_cons.1 (by simpa using hy) with rfl|hy
   ·omega
   ·have:=hr.1 y hy;omega
theorem rS{α:Type}(f:α->Int)(d x:α)(l:List α)(h:Up f d l):Up f d (l.take (l.countP fun y=>decide (f y<f x))++x::l.drop (l.countP fun y=>decide (f y<f x))):=by
 rw[Au] at h ⊢;have hc:=EQ f (f x) l h
 refine List.pairwise_append.2 ⟨h.sublist (List.take_sublist _ _),List.pairwise_cons.2 ⟨fun y hy=>hc.2 y hy,h.sublist (List.drop_sublist _ _)⟩,fun y hy z hz=>?_⟩
 have h1:=hc.1 y hy;rcases List.mem_cons.1 hz with rfl|hz
 ·omega
 ·have:=hc.2 z hz;omega
theorem ga{α:Type}(l:List α)(k:Nat):List.Sublist (az l k) l:=by
 unfold az;have h:=(List.Sublist.refl (l.take k)).append (show List.Sublist (l.drop (k+1)) (l.drop k) by rw[<- List.drop_drop];exact List.drop_sublist _ _)
 rwa [List.take_append_drop] at h
theorem sh{α:Type}(f:α->Int)(d:α)(l:List α)(k:Nat)(h:Up f d l):Up f d (az l k):=by
 rw[Au] at h ⊢;exact h.sublist (ga l k)
theorem nF{α:Type}{l:List α}{c:Nat}{x y:α}(h:y∈l.take c++x::l.drop c):y=x\/y∈l:=by
 rcases List.mem_append.1 h with h|h
 ·exact .inr (List.mem_of_mem_take h)
 ·rcases List.mem_cons.1 h with h|h
  ·exact .inl h
  ·exact .inr (List.mem_of_mem_drop h)
theorem oG{α:Type}(l:List α)(c:Nat)(x:α):(l.take c++x::l.drop c).length=l.length+1:=by simp;omega
theorem vQ{s:Bk}(h:Inv s)(x:Hd)(hn:¬6<=s.pools.length)(hx:ad x.a/\rt x.a x.n=true/\8<=x.n/\x.n<=30/\x.o.size<=8):Inv { s with pools:=b9 s.pools x } :=
 ⟨by have:=oG s.pools (fa s.pools x.a) x;simp only[b9];omega,h.n,h.l,h.t,fun y hy=>(nF hy).elim (fun e=>e ▸ hx) (h.pa y),h.na,h.la,rS Hd.a hd0 x s.pools h.pu,h.nu,h.lu⟩
theorem p8{s:Bk}(h:Inv s)(x:Hd)(hn:¬24<=s.nets.length)(hx:ad x.a/\rt x.a x.n=true/\22<=x.n/\x.o.size<=8):Inv { s with nets:=b9 s.nets x } :=
 ⟨h.p,by have:=oG s.nets (fa s.nets x.a) x;simp only[b9];omega,h.l,h.t,h.pa,fun y hy=>(nF hy).elim (fun e=>e ▸ hx) (h.na y),h.la,h.pu,rS Hd.a hd0 x s.nets h.nu,h.lu⟩
theorem lh{s:Bk}(h:Inv s)(x:Ls)(hn:¬40<=s.leases.length)(hx:ad x.a/\x.o.size<=8):Inv { s with leases:=dN s.leases x } :=
 ⟨h.p,h.n,by have:=oG s.leases (bL s.leases x.a) x;simp only[dN];omega,h.t,h.pa,h.na,fun y hy=>(nF hy).elim (fun e=>e ▸ hx) (h.la y),h.pu,h.nu,rS Ls.a ls0 x s.leases h.lu⟩
theorem l9{s:Bk}(h:Inv s)(k:Nat):Inv { s with pools:=az s.pools k } :=
 ⟨Nat.le_trans (ga _ _).length_le h.p,h.n,h.l,h.t,fun y hy=>h.pa y ((ga _ _).subset hy),h.na,h.la,sh _ _ _ _ h.pu,h.nu,h.lu⟩
theorem oh{s:Bk}(h:Inv s)(k:Nat):Inv { s with nets:=az s.nets k } :=
 ⟨h.p,Nat.le_trans (ga _ _).length_le h.n,h.l,h.t,h.pa,fun y hy=>h.na y ((ga _ _).subset hy),h.la,h.pu,sh _ _ _ _ h.nu,h.lu⟩
theorem lA{s:Bk}(h:Inv s)(k:Nat):Inv { s with leases:=az s.leases k } :=
 ⟨h.p,h.n,Nat.le_trans (ga _ _).length_le h.l,h.t,h.pa,h.na,fun y hy=>h.la y ((ga _ _).subset hy),h.pu,h.nu,sh _ _ _ _ h.lu⟩
theorem CJ{s:Bk}{l:Ln}(hI:Inv s)(hL:aY l):Inv (dC s l).1:=by
 unfold dC;by_cases h1:aj s.pools l.a l.n<0
 ·rw[if_pos h1];exact hI
 ·rw[if_neg h1];by_cases h2:l.g<22\/l.g<l.n
  ·rw[if_pos h2];exact hI
  ·rw[if_neg h2];have n1:¬l.g<22:=fun q=>h2 (.inl q)
   have n2:¬l.g<l.n:=fun q=>h2 (.inr q)
   rcases hb:dL (aL 33 (af s.nets l.a l.n) l.a l.n) l.g with _|⟨ba,bn⟩
   ·exact hI
   ·have hmem:=iH _ none _ hb;have hin:(ba,bn)∈aL 33 (af s.nets l.a l.n) l.a l.n/\bn<=l.g:=by
     rcases hmem with q|q
     ·exact q
     ·cases q
    have hrt:=jc (af s.nets l.a l.n) (fun q hq=>by have hm:=hI.na q (List.mem_filter.1 hq).1;exact(ah.1 hm.2.1).2.1) 33 l.a l.n hL.a hL.r _ hin.1
    have hba:ad ba/\rt ba l.g=true:=by
     obtain⟨g0,g1,g2⟩:=ah.1 hrt.2;exact⟨hrt.1,ah.2 ⟨by have:=hin.2;omega,hL.g1,d8 ba bn l.g hin.2 hL.g1 g2⟩⟩
    dsimp only;by_cases h5:24<=s.nets.length
    ·rw[if_pos h5];exact hI
    ·rw[if_neg h5];exact p8 hI _ h5 ⟨hba.1,hba.2,by dsimp only;omega,hL.o⟩
theorem vo{s:Bk}{l:Ln}(hI:Inv s)(hL:aY l):Inv (bS s l).1:=by
 unfold bS;by_cases h1:aj s.nets l.a l.n<0
 ·rw[if_pos h1];exact hI
 ·rw[if_neg h1];rcases hlf:dm s.leases l.a l.n with _|y
  ·exact hI
  ·dsimp only;by_cases h5:40<=s.leases.length
   ·rw[if_pos h5];exact hI
   ·rw[if_neg h5];exact lh hI _ h5 ⟨iU hL.a hL.r hlf,hL.o⟩
theorem Ar{s:Bk}{l:Ln}(hI:Inv s)(hL:aY l):Inv (aG s l).1:=by
 unfold aG;split
 ·unfold cr;split
  ·exact hI
  ·rename_i h1;split
   ·exact hI
   ·split
    ·exact hI
    ·rename_i h3;exact vQ hI _ h3 ⟨hL.a,hL.r,by dsimp only;omega,by dsimp only;omega,hL.o⟩
 ·unfold cP;repeat' split
  all_goals first|exact hI|exact l9 hI _
 ·exact CJ hI hL
 ·unfold bG;split
  ·exact hI
  ·rename_i h1;split
   ·exact hI
   ·split
    ·exact hI
    ·split
     ·exact hI
     ·rename_i h4;exact p8 hI _ h4 ⟨hL.a,hL.r,by dsimp only;omega,hL.o⟩
 ·unfold cQ;repeat' split
  all_goals first|exact hI|exact oh hI _
 ·exact vo hI hL
 ·unfold cu;split
  ·exact hI
  ·split
   ·exact hI
   ·split
    ·exact hI
    ·split
     ·exact hI
     ·rename_i h4;exact lh hI _ h4 ⟨hL.d,hL.o⟩
 ·unfold cO;repeat' split
  all_goals first|exact hI|exact lA hI _
 all_goals exact hI
end
end Go.Proofs.YtjnhhnbgjjkkjaaGreatDoor
