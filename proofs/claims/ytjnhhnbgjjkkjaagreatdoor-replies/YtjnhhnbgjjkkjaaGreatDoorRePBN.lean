import Derived.Test.YtjnhhnbgjjkkjaaGreatDoorRePBM
set_option linter.all false
set_option maxRecDepth 100000
set_option maxHeartbeats 2000000
namespace Go.Proofs.YtjnhhnbgjjkkjaaGreatDoor
theorem BC{α:Type}(f:α->Int)(d:α)(l:List α):Up f d l ↔ l.Pairwise (fun a b=>f a<=f b):=by
 rw[List.pairwise_iff_getElem];constructor
 ·intro h i j hi hj hij;have:=h i j om hj
  simpa[List.getD_eq_getElem?_getD,List.getElem?_eq_getElem hi,List.getElem?_eq_getElem hj] using this
 ·intro h i j hij hj;have hi:i<l.length:=by omega
  rcases Nat.lt_or_ge i j with q|q
  ·have:=h i j hi hj q
   simpa[List.getD_eq_getElem?_getD,List.getElem?_eq_getElem hi,List.getElem?_eq_getElem hj] using this
  ·obtain rfl:i=j:=by omega
   exact Int.le_refl _
theorem Et{α:Type}(f:α->Int)(a:Int)(l:List α)(h:l.Pairwise (fun a b=>f a<=f b)):
  (∀ y,y∈l.take (l.countP fun y=>decide (f y<a))->f y<a)/\∀ y,y∈l.drop (l.countP fun y=>decide (f y<a))->a<=f y:=by
 induction l with
 | nil=>simp
 | cons x r ih =>
  have hr:=List.pairwise_cons.1 h;have ih:=ih hr.2;by_cases hx:f x<a
  ·rw[List.countP_cons_of_pos (by simpa using hx)]
   refine⟨fun y hy=>?_,fun y hy=>ih.2 y (by simpa using hy)⟩
   rw[List.take_succ_cons] at hy;rcases List.mem_cons.1 hy with rfl|hy
   ·exact hx
   ·exact ih.1 y hy
  ·have h0:(x::r).countP (fun y=>decide (f y<a))=0:=by
    rw[List.countP_eq_zero];intro y hy;rcases List.mem_cons.1 hy with rfl|hy
    ·simpa using hx
    ·have:=hr.1 y hy;simp;omega
   rw[h0];refine⟨by simp,fun y hy=>?_⟩
   rcases List.mem_cons.1 (by simpa using hy) with rfl|hy
   ·omega
   ·have:=hr.1 y hy;omega
theorem tS{α:Type}(f:α->Int)(d x:α)(l:List α)(h:Up f d l):Up f d (l.take (l.countP fun y=>decide (f y<f x))++x::l.drop (l.countP fun y=>decide (f y<f x))):=by
 rw[BC] at h ⊢;have hc:=Et f (f x) l h
 refine List.pairwise_append.2 ⟨h.sublist (List.take_sublist _ _),List.pairwise_cons.2 ⟨fun y hy=>hc.2 y hy,h.sublist (List.drop_sublist _ _)⟩,fun y hy z hz=>?_⟩
 have h1:=hc.1 y hy;rcases List.mem_cons.1 hz with rfl|hz
 ·omega
 ·have:=hc.2 z hz;omega
theorem fZ{α:Type}(l:List α)(k:Nat):List.Sublist (aA l k) l:=by
 unfold aA;have h:=(List.Sublist.refl (l.take k)).append (show List.Sublist (l.drop (k+1)) (l.drop k) by rw[<- List.drop_drop];exact List.drop_sublist _ _)
 rwa [List.take_append_drop] at h
theorem tR{α:Type}(f:α->Int)(d:α)(l:List α)(k:Nat)(h:Up f d l):Up f d (aA l k):=by
 rw[BC] at h ⊢;exact h.sublist (fZ l k)
theorem oy{α:Type}{l:List α}{c:Nat}{x y:α}(h:y∈l.take c++x::l.drop c):y=x\/y∈l:=by
 rcases List.mem_append.1 h with h|h
 ·exact .inr (List.mem_of_mem_take h)
 ·rcases List.mem_cons.1 h with h|h
  ·exact .inl h
  ·exact .inr (List.mem_of_mem_drop h)
theorem oq{α:Type}(l:List α)(c:Nat)(x:α):(l.take c++x::l.drop c).length=l.length+1:=by simp;omega
theorem wj{s:Bk}(h:Inv s)(x:Hd)(hn:¬6<=s.pools.length)(hx:ad x.a/\rt x.a x.n=true/\8<=x.n/\x.n<=30/\x.o.size<=8):Inv { s with pools:=cm s.pools x } :=
 ⟨by have:=oq s.pools (fk s.pools x.a) x;simp only[cm];omega,h.n,h.l,h.t,fun y hy=>(oy hy).elim (fun e=>e ▸ hx) (h.pa y),h.na,h.la,tS Hd.a hd0 x s.pools h.pu,h.nu,h.lu⟩
theorem qj{s:Bk}(h:Inv s)(x:Hd)(hn:¬24<=s.nets.length)(hx:ad x.a/\rt x.a x.n=true/\22<=x.n/\x.o.size<=8):Inv { s with nets:=cm s.nets x } :=
 ⟨h.p,by have:=oq s.nets (fk s.nets x.a) x;simp only[cm];omega,h.l,h.t,h.pa,fun y hy=>(oy hy).elim (fun e=>e ▸ hx) (h.na y),h.la,h.pu,tS Hd.a hd0 x s.nets h.nu,h.lu⟩
theorem lG{s:Bk}(h:Inv s)(x:Ls)(hn:¬40<=s.leases.length)(hx:ad x.a/\x.o.size<=8):Inv { s with leases:=dR s.leases x } :=
 ⟨h.p,h.n,by have:=oq s.leases (bO s.leases x.a) x;simp only[dR];omega,h.t,h.pa,h.na,fun y hy=>(oy hy).elim (fun e=>e ▸ hx) (h.la y),h.pu,h.nu,tS Ls.a ls0 x s.leases h.lu⟩
theorem mn{s:Bk}(h:Inv s)(k:Nat):Inv { s with pools:=aA s.pools k } :=
 ⟨Nat.le_trans (fZ _ _).length_le h.p,h.n,h.l,h.t,fun y hy=>h.pa y ((fZ _ _).subset hy),h.na,h.la,tR _ _ _ _ h.pu,h.nu,h.lu⟩
theorem oo{s:Bk}(h:Inv s)(k:Nat):Inv { s with nets:=aA s.nets k } :=
 ⟨h.p,Nat.le_trans (fZ _ _).length_le h.n,h.l,h.t,h.pa,fun y hy=>h.na y ((fZ _ _).subset hy),h.la,h.pu,tR _ _ _ _ h.nu,h.lu⟩
theorem lH{s:Bk}(h:Inv s)(k:Nat):Inv { s with leases:=aA s.leases k } :=
 ⟨h.p,h.n,Nat.le_trans (fZ _ _).length_le h.l,h.t,h.pa,h.na,fun y hy=>h.la y ((fZ _ _).subset hy),h.pu,h.nu,tR _ _ _ _ h.lu⟩
theorem CV{s:Bk}{l:Ln}(hI:Inv s)(hL:aZ l):Inv (dH s l).1:=by
 unfold dH;by_cases h1:ah s.pools l.a l.n<0
 ·rw[if_pos h1];exact hI
 ·rw[if_neg h1];by_cases h2:l.g<22\/l.g<l.n
  ·rw[if_pos h2];exact hI
  ·rw[if_neg h2];have n1:¬l.g<22:=fun q=>h2 (.inl q)
   have n2:¬l.g<l.n:=fun q=>h2 (.inr q)
   rcases hb:dN (aM 33 (af s.nets l.a l.n) l.a l.n) l.g with _|⟨ba,bn⟩
   ·exact hI
   ·have hmem:=iU _ none _ hb;have hin:(ba,bn)∈aM 33 (af s.nets l.a l.n) l.a l.n/\bn<=l.g:=by
     rcases hmem with q|q
     ·exact q
     ·cases q
    have hrt:=ja (af s.nets l.a l.n) (fun q hq=>by have hm:=hI.na q (List.mem_filter.1 hq).1;exact(aj.1 hm.2.1).2.1) 33 l.a l.n hL.a hL.r _ hin.1
    have hba:ad ba/\rt ba l.g=true:=by
     obtain⟨g0,g1,g2⟩:=aj.1 hrt.2;exact⟨hrt.1,aj.2 ⟨by have:=hin.2;omega,hL.g1,et ba bn l.g hin.2 hL.g1 g2⟩⟩
    dsimp only;by_cases h5:24<=s.nets.length
    ·rw[if_pos h5];exact hI
    ·rw[if_neg h5];exact qj hI _ h5 ⟨hba.1,hba.2,by dsimp only;omega,hL.o⟩
theorem wi{s:Bk}{l:Ln}(hI:Inv s)(hL:aZ l):Inv (bU s l).1:=by
 unfold bU;by_cases h1:ah s.nets l.a l.n<0
 ·rw[if_pos h1];exact hI
 ·rw[if_neg h1];rcases hlf:du s.leases l.a l.n with _|y
  ·exact hI
  ·dsimp only;by_cases h5:40<=s.leases.length
   ·rw[if_pos h5];exact hI
   ·rw[if_neg h5];exact lG hI _ h5 ⟨jf hL.a hL.r hlf,hL.o⟩
theorem zu{s:Bk}{l:Ln}(hI:Inv s)(hL:aZ l):Inv (aH s l).1:=by
 unfold aH;split
 ·unfold cy;split
  ·exact hI
  ·rename_i h1;split
   ·exact hI
   ·split
    ·exact hI
    ·rename_i h3;exact wj hI _ h3 ⟨hL.a,hL.r,by dsimp only;omega,by dsimp only;omega,hL.o⟩
 ·unfold cR;repeat' split
  all_goals first|exact hI|exact mn hI _
 ·exact CV hI hL
 ·unfold bI;split
  ·exact hI
  ·rename_i h1;split
   ·exact hI
   ·split
    ·exact hI
    ·split
     ·exact hI
     ·rename_i h4;exact qj hI _ h4 ⟨hL.a,hL.r,by dsimp only;omega,hL.o⟩
 ·unfold cS;repeat' split
  all_goals first|exact hI|exact oo hI _
 ·exact wi hI hL
 ·unfold cA;split
  ·exact hI
  ·split
   ·exact hI
   ·split
    ·exact hI
    ·split
     ·exact hI
     ·rename_i h4;exact lG hI _ h4 ⟨hL.d,hL.o⟩
 ·unfold cU;repeat' split
  all_goals first|exact hI|exact lH hI _
 all_goals exact hI
end Go.Proofs.YtjnhhnbgjjkkjaaGreatDoor
