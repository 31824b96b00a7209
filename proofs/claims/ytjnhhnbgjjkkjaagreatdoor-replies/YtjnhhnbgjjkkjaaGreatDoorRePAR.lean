import Derived.Test.YtjnhhnbgjjkkjaaGreatDoorRePAO
import Derived.Test.YtjnhhnbgjjkkjaaGreatDoorRePAQ
set_option linter.all false
set_option maxRecDepth 100000
set_option maxHeartbeats 2000000
namespace Go.Proofs.YtjnhhnbgjjkkjaaGreatDoor
open Go.ChangeShapes Go.WideShapes Go.ChangeAt Go.RowKit Go.Proofs.Tryz
def vb(w:Lu):Int:=fi (fun v=>v==w) aX
theorem Bf(w:Lu)(j:Nat)(hj:j<11):w=aX.getD j [] ↔ vb w=j:=by
 constructor
 ·rintro rfl
  revert j
  decide
 ·intro h;rcases aU (fun v=>v==w) aX [] with⟨e,_⟩|⟨k,hk,e,hp,_⟩
  ·unfold vb at h;omega
  ·obtain rfl:k=j:=by unfold vb at h;omega
   have:=hp
   simp only[beq_iff_eq] at this
   exact this.symm
theorem DK(w:Lu)(j:Nat)(hj:j<11):((bs w).toList==aX.getD j [])=decide (vb w=j):=by
 rw[gK];rcases h:decide (vb w=j) with _|_
 ·have:¬vb w=j:=by simpa using h
  simp only[beq_eq_false_iff_ne]
  exact fun q=>this ((Bf w j hj).1 q)
 ·have:vb w=j:=by simpa using h
  simp only[beq_iff_eq]
  exact(Bf w j hj).2 this
theorem bZ{w:Lu}{j:Nat}{c:Lu}(hj:j<11)(hc:aX.getD j []=c)(h:vb w=j):((bs w).toList==c)=true:=by rw[<- hc,DK w j hj];simpa using h
theorem aE{w:Lu}{j:Nat}{c:Lu}(hj:j<11)(hc:aX.getD j []=c)(h:vb w≠j):((bs w).toList==c)=false:=by rw[<- hc,DK w j hj];simpa using h
theorem lV(w:Lu):-1<=vb w/\vb w<=10:=by
 rcases aU (fun v=>v==w) aX [] with⟨e,_⟩|⟨k,hk,e,_⟩
 ·unfold vb;omega
 ·have:aX.length=11:=rfl
  unfold vb;omega
def fa(ls:List (Lu)):Bool:=bX (vb (ls.getD 0 [])) ls.length (ag (ls.getD 1 [])) (ag (ls.getD 2 [])) (bW (ls.getD 3 [])) (rdE (ls.getD 3 [])) (cV (ls.getD 4 []) 32)
theorem Av(W:World)(g cap m:Nat)(ls:List (Lu))(h:Wd W g m ls)(hs:∀ i,(ls.getD i []).length<=100):Cr prog 135 #[Sq g m cap] W (.bool (fa ls)):=by
 obtain⟨hm,hg,hc⟩:=h;have hz:∀ i,(bs (ls.getD i [])).size<=2097152:=fun i=>by rw[aM];have:=hs i;omega
 obtain⟨p,hp⟩:∃ p:Nat->Bz,(fun i=>bs (ls.getD i []))=p:=⟨_,rfl⟩
 have hpi:∀ i,p i=bs (ls.getD i []):=fun i=>by rw[<- hp]
 have IQ:∀ Q:World->Prop,(∀ V,Bl W V->Q V)->IH W Q p (ag (ls.getD 1 [])) (ag (ls.getD 2 [])) (bW (ls.getD 3 [])) (rdB (ls.getD 3 [])) (rdN (ls.getD 3 [])) (rdE (ls.getD 3 [])) (cV (ls.getD 4 []) 32):=fun Q hQ=>by
  refine⟨hQ W (Below.refl _ _),fun V hV=>?_,fun V hV=>?_,fun V hV=>?_,fun V hV=>?_,fun V hV=>?_⟩
  ·rw[hpi];exact(nj _ V (hz 1)).mono (fun e w' q=>by rw[bL] at q;exact⟨q.1,hQ _ (bup hV q.2)⟩)
  ·rw[hpi];exact(nj _ V (hz 2)).mono (fun e w' q=>by rw[bL] at q;exact⟨q.1,hQ _ (bup hV q.2)⟩)
  ·rw[hpi];exact(f8 _ V (hz 3)).mono (fun e w' q=>by rw[bL] at q;exact⟨q.1,hQ _ (bup hV q.2)⟩)
  ·rw[hpi];exact(jN _ V (hz 3)).mono (fun e w' q=>by rw[bL] at q;exact⟨q.1,hQ _ (bup hV q.2)⟩)
  ·rw[hpi];exact(fk _ 32 V dE dE).mono (fun e w' q=>by rw[bL] at q;exact⟨q.1,hQ _ (bup hV q.2)⟩)
 have hr:=lV (ls.getD 0 [])
 have hre:rdE (ls.getD 3 [])=0\/rdE (ls.getD 3 [])=1:=by
  rcases hq:rd (ls.getD 3 []) with _|⟨a,n⟩
  ·exact .inr (cS hq).2.2
  ·exact .inl (f9 hq).2.2
 have G:∀ {b:Bool},(Cr prog 135 #[Sq g m cap] W (.bool b))->b=fa ls->Cr prog 135 #[Sq g m cap] W (.bool (fa ls)):=fun q e=>by rw[<- e];exact q
 have cell:∀ V,Bl W V->∀ i,i<m->V.cell? (At g i)=some (.string (p i)):=fun V hV i hi=>by rw[hpi];exact(hV.cell (p:=At g i) hg).trans (hc i hi)
 have C4:4<=m->∀ V,Bl W V->Wq4 W g p V:=fun q V hV=>⟨hV,cell V hV 0 om,cell V hV 1 om,cell V hV 2 om,cell V hV 3 om,Nat.lt_of_lt_of_le hg hV.size⟩
 have C5:5<=m->∀ V,Bl W V->Wq5 W g p V:=fun q V hV=>⟨C4 om V hV,cell V hV 4 om⟩
 unfold fa at G ⊢
 rw[<- hm] at G ⊢;have hp0:=hpi 0;clear hp hpi cell;generalize hv:vb (ls.getD 0 [])=v at G hr ⊢
 have bZ:∀ {j:Nat} {c:Lu},j<11->aX.getD j []=c->v=j->((p 0).toList==c)=true:=fun h1 h2 h3=>by rw[hp0];exact bZ h1 h2 (hv.trans h3)
 have aE:∀ {j:Nat} {c:Lu},j<11->aX.getD j []=c->v≠j->((p 0).toList==c)=false:=fun h1 h2 h3=>by rw[hp0];exact aE h1 h2 (fun q=>h3 (hv.symm.trans q))
 generalize ag (ls.getD 1 [])=t at IQ G ⊢
 generalize ag (ls.getD 2 [])=o at IQ G ⊢
 generalize bW (ls.getD 3 [])=ai at IQ G ⊢
 generalize rdE (ls.getD 3 [])=e at IQ G hre ⊢
 generalize cV (ls.getD 4 []) 32=nu at IQ G ⊢
 clear hv hp0;by_cases m4:m=4
 ·subst m4;have I:=IQ _ (C4 om)
  rcases t with _|_
  ·exact G (Ex W g cap _ false o _ _ _ _ _ I rfl) (by simp[bX])
  rcases o with _|_
  ·exact G (Ev W g cap _ true false _ _ _ _ _ I rfl rfl) (by simp[bX])
  by_cases v67:v=6\/v=7
  ·have hv:VbA (p 0):=by rcases v67 with rfl|rfl;exact .inl (bZ (j:=6) dE rfl om);exact .inr (⟨(aE (j:=6) dE rfl om),(bZ (j:=7) dE rfl om)⟩)
   by_cases hq:0<=ai
   ·exact G (En W g cap _ true true _ _ _ _ _ I rfl rfl hv hq) (by simp[bX,hq,v67])
   ·exact G (Em W g cap _ true true _ _ _ _ _ I rfl rfl hv hq) (by simp[bX,hq,v67])
  by_cases v2:v=2
  ·exact G (Er W g cap _ true true _ _ _ _ _ I rfl rfl ⟨(aE (j:=6) dE rfl om),(aE (j:=7) dE rfl om),(bZ (j:=2) dE rfl om)⟩ ) (by simp[bX,v2])
  by_cases v05:0<=v/\v<=5
  ·have hv:VbB (p 0):=by
    rcases (show v=0\/v=1\/v=3\/v=4\/v=5 by omega) with rfl|rfl|rfl|rfl|rfl
    ·exact .inl ⟨(aE (j:=6) dE rfl om),(aE (j:=7) dE rfl om),(aE (j:=2) dE rfl om),(bZ (j:=0) dE rfl om)⟩
    ·exact .inr (.inl ⟨(aE (j:=6) dE rfl om),(aE (j:=7) dE rfl om),(aE (j:=2) dE rfl om),(aE (j:=0) dE rfl om),(bZ (j:=1) dE rfl om)⟩)
    ·exact .inr (.inr (.inl ⟨(aE (j:=6) dE rfl om),(aE (j:=7) dE rfl om),(aE (j:=2) dE rfl om),(aE (j:=0) dE rfl om),(aE (j:=1) dE rfl om),(bZ (j:=3) dE rfl om)⟩))
    ·exact .inr (.inr (.inr (.inl ⟨(aE (j:=6) dE rfl om),(aE (j:=7) dE rfl om),(aE (j:=2) dE rfl om),(aE (j:=0) dE rfl om),(aE (j:=1) dE rfl om),(aE (j:=3) dE rfl om),(bZ (j:=4) dE rfl om)⟩)))
    ·exact .inr (.inr (.inr (.inr (⟨(aE (j:=6) dE rfl om),(aE (j:=7) dE rfl om),(aE (j:=2) dE rfl om),(aE (j:=0) dE rfl om),(aE (j:=1) dE rfl om),(aE (j:=3) dE rfl om),(aE (j:=4) dE rfl om),(bZ (j:=5) dE rfl om)⟩))))
   rcases hre with rfl|rfl
   ·exact G (Eq W g cap _ true true _ _ _ _ _ I rfl rfl hv rfl) (by unfold bX;rw[if_neg v67,if_neg v2,if_pos v05];simp)
   ·exact G (Ep W g cap _ true true _ _ _ _ _ I rfl rfl hv sM) (by unfold bX;rw[if_neg v67,if_neg v2,if_pos v05];simp)
  exact G (Ez W g cap _ true true _ _ _ _ _ I rfl rfl ⟨(aE (j:=6) dE rfl om),(aE (j:=7) dE rfl om),(aE (j:=2) dE rfl om),(aE (j:=0) dE rfl om),(aE (j:=1) dE rfl om),(aE (j:=3) dE rfl om),(aE (j:=4) dE rfl om),(aE (j:=5) dE rfl om)⟩ ) (by unfold bX;rw[if_neg v67,if_neg v2,if_neg v05];simp)
 ·by_cases m5:m=5
  ·subst m5;have I:=IQ _ (C5 om)
   rcases t with _|_
   ·exact G (Ey W g cap _ false o _ _ _ _ _ I rfl) (by simp[bX])
   rcases o with _|_
   ·exact G (Ew W g cap _ true false _ _ _ _ _ I rfl rfl) (by simp[bX])
   by_cases v67:v=6\/v=7
   ·have hv:VbA (p 0):=by rcases v67 with rfl|rfl;exact .inl (bZ (j:=6) dE rfl om);exact .inr (⟨(aE (j:=6) dE rfl om),(bZ (j:=7) dE rfl om)⟩)
    exact G (El W g cap _ true true _ _ _ _ _ I rfl rfl hv ) (by simp[bX,v67])
   by_cases v2:v=2
   ·rcases hre with rfl|rfl
    ·by_cases hq:0<=nu
     ·exact G (Eu W g cap _ true true _ _ _ _ _ I rfl rfl ⟨(aE (j:=6) dE rfl om),(aE (j:=7) dE rfl om),(bZ (j:=2) dE rfl om)⟩ rfl hq) (by simp[bX,hq,v2])
     ·exact G (Et W g cap _ true true _ _ _ _ _ I rfl rfl ⟨(aE (j:=6) dE rfl om),(aE (j:=7) dE rfl om),(bZ (j:=2) dE rfl om)⟩ rfl hq) (by simp[bX,hq,v2])
    ·exact G (Es W g cap _ true true _ _ _ _ _ I rfl rfl ⟨(aE (j:=6) dE rfl om),(aE (j:=7) dE rfl om),(bZ (j:=2) dE rfl om)⟩ sM) (by simp[bX,v2])
   by_cases v05:0<=v/\v<=5
   ·have hv:VbB (p 0):=by
     rcases (show v=0\/v=1\/v=3\/v=4\/v=5 by omega) with rfl|rfl|rfl|rfl|rfl
     ·exact .inl ⟨(aE (j:=6) dE rfl om),(aE (j:=7) dE rfl om),(aE (j:=2) dE rfl om),(bZ (j:=0) dE rfl om)⟩
     ·exact .inr (.inl ⟨(aE (j:=6) dE rfl om),(aE (j:=7) dE rfl om),(aE (j:=2) dE rfl om),(aE (j:=0) dE rfl om),(bZ (j:=1) dE rfl om)⟩)
     ·exact .inr (.inr (.inl ⟨(aE (j:=6) dE rfl om),(aE (j:=7) dE rfl om),(aE (j:=2) dE rfl om),(aE (j:=0) dE rfl om),(aE (j:=1) dE rfl om),(bZ (j:=3) dE rfl om)⟩))
     ·exact .inr (.inr (.inr (.inl ⟨(aE (j:=6) dE rfl om),(aE (j:=7) dE rfl om),(aE (j:=2) dE rfl om),(aE (j:=0) dE rfl om),(aE (j:=1) dE rfl om),(aE (j:=3) dE rfl om),(bZ (j:=4) dE rfl om)⟩)))
     ·exact .inr (.inr (.inr (.inr (⟨(aE (j:=6) dE rfl om),(aE (j:=7) dE rfl om),(aE (j:=2) dE rfl om),(aE (j:=0) dE rfl om),(aE (j:=1) dE rfl om),(aE (j:=3) dE rfl om),(aE (j:=4) dE rfl om),(bZ (j:=5) dE rfl om)⟩))))
    exact G (Eo W g cap _ true true _ _ _ _ _ I rfl rfl hv ) (by unfold bX;rw[if_neg v67,if_neg v2,if_pos v05];simp)
   exact G (EA W g cap _ true true _ _ _ _ _ I rfl rfl ⟨(aE (j:=6) dE rfl om),(aE (j:=7) dE rfl om),(aE (j:=2) dE rfl om),(aE (j:=0) dE rfl om),(aE (j:=1) dE rfl om),(aE (j:=3) dE rfl om),(aE (j:=4) dE rfl om),(aE (j:=5) dE rfl om)⟩ ) (by unfold bX;rw[if_neg v67,if_neg v2,if_neg v05];simp)
  ·exact G (FJ W g cap m (by simp;omega) (by simp;omega)) (by simp[bX,m4,m5])
end Go.Proofs.YtjnhhnbgjjkkjaaGreatDoor
