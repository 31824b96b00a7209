import Derived.Test.YtjnhhnbgjjkkjaaGreatDoorRePBM
set_option linter.all false
set_option maxRecDepth 100000
set_option maxHeartbeats 2000000
namespace Go.Proofs.YtjnhhnbgjjkkjaaGreatDoor
theorem Ba{α:Type}(f:α->Int)(d:α)(l:List α):Up f d l ↔ l.Pairwise (fun a b=>f a<=f b):=by
 rw[List.pairwise_iff_getElem];constructor
 ·intro h i j hi hj hij;have:=h i j om hj
  simpa[List.getD_eq_getElem?_getD,List.getElem?_eq_getElem hi,List.getElem?_eq_getElem hj] using this
 ·intro h i j hij hj;have hi:i<l.length:=by omega
  rcases Nat.lt_or_ge i j with q|q
  ·have:=h i j hi hj q
   simpa[List.getD_eq_getElem?_getD,List.getElem?_eq_getElem hi,List.getElem?_eq_getElem hj] using this
  ·obtain rfl:i=j:=by omega
   exact Int.le_refl _
theorem DZ{α:Type}(f:α->Int)(a:Int)(l:List α)(h:l.Pairwise (fun a b=>f a<=f b)):
  (∀ y,y∈l.take (l.countP fun y=>decide (f y<a))->f y<a)/\∀ y,y∈l.drop (l.countP fun y=>decide (f y<a))->a<=f y:=by
 induction l with
 | nil=>simp
 | cons x r ih =>
  have hr:=List.pairwise_cons.1 h;have ih:=ih hr.2;by_cases hx:f x<a
  ·rw[List.countP_cons_of_pos (by simpa using hx)]
   refine⟨fun y hy=>?_,fun y hy=>ih.2 y (by simpa using hy)⟩
   rw[List.take_succ_cons] at hy;rcases List.mem_cons.1 hy with rfl|hy
   ·exact hx
   ·exact ih.1 y hy
  ·have h0:(x::r).countP (fun y=>decide (f y<a))=0:=by
    rw[List.countP_eq_zero];intro y hy;rcases List.mem_cons.1 hy with rfl|hy
    ·simpa using hx
    ·have:=hr.1 y hy;simp;omega
   rw[h0];refine⟨by simp,fun y hy=>?_⟩
   rcases List.mem_cons.1 (by simpa using hy) with rfl|hy
   ·omega
   ·have:=hr.1 y hy;omega
theorem tB{α:Type}(f:α->Int)(d x:α)(l:List α)(h:Up f d l):Up f d (l.take (l.countP fun y=>decide (f y<f x))++x::l.drop (l.countP fun y=>decide (f y<f x))):=by
 rw[Ba] at h ⊢;have hc:=DZ f (f x) l h
 refine List.pairwise_append.2 ⟨h.sublist (List.take_sublist _ _),List.pairwise_cons.2 ⟨fun y hy=>hc.2 y hy,h.sublist (List.drop_sublist _ _)⟩,fun y hy z hz=>?_⟩
 have h1:=hc.1 y hy;rcases List.mem_cons.1 hz with rfl|hz
 ·omega
 ·have:=hc.2 z hz;omega
theorem fT{α:Type}(l:List α)(k:Nat):List.Sublist (az l k) l:=by
 unfold az;have h:=(List.Sublist.refl (l.take k)).append (show List.Sublist (l.drop (k+1)) (l.drop k) by rw[<- List.drop_drop];exact List.drop_sublist _ _)
 rwa [List.take_append_drop] at h
theorem tA{α:Type}(f:α->Int)(d:α)(l:List α)(k:Nat)(h:Up f d l):Up f d (az l k):=by
 rw[Ba] at h ⊢;exact h.sublist (fT l k)
theorem n7{α:Type}{l:List α}{c:Nat}{x y:α}(h:y∈l.take c++x::l.drop c):y=x\/y∈l:=by
 rcases List.mem_append.1 h with h|h
 ·exact .inr (List.mem_of_mem_take h)
 ·rcases List.mem_cons.1 h with h|h
  ·exact .inl h
  ·exact .inr (List.mem_of_mem_drop h)
theorem nX{α:Type}(l:List α)(c:Nat)(x:α):(l.take c++x::l.drop c).length=l.length+1:=by simp;omega
theorem vG{s:Bk}(h:Inv s)(x:Hd)(hn:¬6<=s.pools.length)(hx:ad x.a/\rt x.a x.n=true/\8<=x.n/\x.n<=30/\x.o.size<=8):Inv { s with pools:=cd s.pools x } :=
 ⟨by have:=nX s.pools (fc s.pools x.a) x;simp only[cd];omega,h.n,h.l,h.t,fun y hy=>(n7 hy).elim (fun e=>e ▸ hx) (h.pa y),h.na,h.la,tB Hd.a hd0 x s.pools h.pu,h.nu,h.lu⟩
theorem pS{s:Bk}(h:Inv s)(x:Hd)(hn:¬24<=s.nets.length)(hx:ad x.a/\rt x.a x.n=true/\22<=x.n/\x.o.size<=8):Inv { s with nets:=cd s.nets x } :=
 ⟨h.p,by have:=nX s.nets (fc s.nets x.a) x;simp only[cd];omega,h.l,h.t,h.pa,fun y hy=>(n7 hy).elim (fun e=>e ▸ hx) (h.na y),h.la,h.pu,tB Hd.a hd0 x s.nets h.nu,h.lu⟩
theorem lg{s:Bk}(h:Inv s)(x:Ls)(hn:¬40<=s.leases.length)(hx:ad x.a/\x.o.size<=8):Inv { s with leases:=dN s.leases x } :=
 ⟨h.p,h.n,by have:=nX s.leases (bM s.leases x.a) x;simp only[dN];omega,h.t,h.pa,h.na,fun y hy=>(n7 hy).elim (fun e=>e ▸ hx) (h.la y),h.pu,h.nu,tB Ls.a ls0 x s.leases h.lu⟩
theorem lZ{s:Bk}(h:Inv s)(k:Nat):Inv { s with pools:=az s.pools k } :=
 ⟨Nat.le_trans (fT _ _).length_le h.p,h.n,h.l,h.t,fun y hy=>h.pa y ((fT _ _).subset hy),h.na,h.la,tA _ _ _ _ h.pu,h.nu,h.lu⟩
theorem nW{s:Bk}(h:Inv s)(k:Nat):Inv { s with nets:=az s.nets k } :=
 ⟨h.p,Nat.le_trans (fT _ _).length_le h.n,h.l,h.t,h.pa,fun y hy=>h.na y ((fT _ _).subset hy),h.la,h.pu,tA _ _ _ _ h.nu,h.lu⟩
theorem lh{s:Bk}(h:Inv s)(k:Nat):Inv { s with leases:=az s.leases k } :=
 ⟨h.p,h.n,Nat.le_trans (fT _ _).length_le h.l,h.t,h.pa,h.na,fun y hy=>h.la y ((fT _ _).subset hy),h.pu,h.nu,tA _ _ _ _ h.lu⟩
theorem Ct{s:Bk}{l:Ln}(hI:Inv s)(hL:aY l):Inv (dC s l).1:=by
 unfold dC;by_cases h1:ah s.pools l.a l.n<0
 ·rw[if_pos h1];exact hI
 ·rw[if_neg h1];by_cases h2:l.g<22\/l.g<l.n
  ·rw[if_pos h2];exact hI
  ·rw[if_neg h2];have n1:¬l.g<22:=fun q=>h2 (.inl q)
   have n2:¬l.g<l.n:=fun q=>h2 (.inr q)
   rcases hb:dJ (aL 33 (af s.nets l.a l.n) l.a l.n) l.g with _|⟨ba,bn⟩
   ·exact hI
   ·have hmem:=iK _ none _ hb;have hin:(ba,bn)∈aL 33 (af s.nets l.a l.n) l.a l.n/\bn<=l.g:=by
     rcases hmem with q|q
     ·exact q
     ·cases q
    have hrt:=iT (af s.nets l.a l.n) (fun q hq=>by have hm:=hI.na q (List.mem_filter.1 hq).1;exact(aj.1 hm.2.1).2.1) 33 l.a l.n hL.a hL.r _ hin.1
    have hba:ad ba/\rt ba l.g=true:=by
     obtain⟨g0,g1,g2⟩:=aj.1 hrt.2;exact⟨hrt.1,aj.2 ⟨by have:=hin.2;omega,hL.g1,eh ba bn l.g hin.2 hL.g1 g2⟩⟩
    dsimp only;by_cases h5:24<=s.nets.length
    ·rw[if_pos h5];exact hI
    ·rw[if_neg h5];exact pS hI _ h5 ⟨hba.1,hba.2,by dsimp only;omega,hL.o⟩
theorem vF{s:Bk}{l:Ln}(hI:Inv s)(hL:aY l):Inv (bS s l).1:=by
 unfold bS;by_cases h1:ah s.nets l.a l.n<0
 ·rw[if_pos h1];exact hI
 ·rw[if_neg h1];rcases hlf:dp s.leases l.a l.n with _|y
  ·exact hI
  ·dsimp only;by_cases h5:40<=s.leases.length
   ·rw[if_pos h5];exact hI
   ·rw[if_neg h5];exact lg hI _ h5 ⟨iY hL.a hL.r hlf,hL.o⟩
theorem yU{s:Bk}{l:Ln}(hI:Inv s)(hL:aY l):Inv (aG s l).1:=by
 unfold aG;split
 ·unfold co;split
  ·exact hI
  ·rename_i h1;split
   ·exact hI
   ·split
    ·exact hI
    ·rename_i h3;exact vG hI _ h3 ⟨hL.a,hL.r,by dsimp only;omega,by dsimp only;omega,hL.o⟩
 ·unfold cO;repeat' split
  all_goals first|exact hI|exact lZ hI _
 ·exact Ct hI hL
 ·unfold bG;split
  ·exact hI
  ·rename_i h1;split
   ·exact hI
   ·split
    ·exact hI
    ·split
     ·exact hI
     ·rename_i h4;exact pS hI _ h4 ⟨hL.a,hL.r,by dsimp only;omega,hL.o⟩
 ·unfold cP;repeat' split
  all_goals first|exact hI|exact nW hI _
 ·exact vF hI hL
 ·unfold cr;split
  ·exact hI
  ·split
   ·exact hI
   ·split
    ·exact hI
    ·split
     ·exact hI
     ·rename_i h4;exact lg hI _ h4 ⟨hL.d,hL.o⟩
 ·unfold cQ;repeat' split
  all_goals first|exact hI|exact lh hI _
 all_goals exact hI
end Go.Proofs.YtjnhhnbgjjkkjaaGreatDoor
