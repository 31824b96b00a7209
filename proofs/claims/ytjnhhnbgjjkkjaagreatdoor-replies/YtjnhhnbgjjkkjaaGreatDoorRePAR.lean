import Derived.Test.YtjnhhnbgjjkkjaaGreatDoorRePAO
import Derived.Test.YtjnhhnbgjjkkjaaGreatDoorRePAQ
set_option linter.all false
set_option maxRecDepth 100000
set_option maxHeartbeats 2000000
namespace Go.Proofs.YtjnhhnbgjjkkjaaGreatDoor
open Go.ChangeShapes Go.WideShapes Go.ChangeAt Go.RowKit Go.Proofs.Tryz
def vb(w:Lu):Int:=fi (fun v=>v==w) aY
theorem BI(w:Lu)(j:Nat)(hj:j<11):w=aY.getD j [] ↔ vb w=j:=by
 constructor
 ·rintro rfl
  revert j
  decide
 ·intro h;rcases aV (fun v=>v==w) aY [] with⟨e,_⟩|⟨k,hk,e,hp,_⟩
  ·unfold vb at h;omega
  ·obtain rfl:k=j:=by unfold vb at h;omega
   have:=hp
   simp only[beq_iff_eq] at this
   exact this.symm
theorem Ee(w:Lu)(j:Nat)(hj:j<11):((bs w).toList==aY.getD j [])=decide (vb w=j):=by
 rw[gT];rcases h:decide (vb w=j) with _|_
 ·have:¬vb w=j:=by simpa using h
  simp only[beq_eq_false_iff_ne]
  exact fun q=>this ((BI w j hj).1 q)
 ·have:vb w=j:=by simpa using h
  simp only[beq_iff_eq]
  exact(BI w j hj).2 this
theorem b8{w:Lu}{j:Nat}{c:Lu}(hj:j<11)(hc:aY.getD j []=c)(h:vb w=j):((bs w).toList==c)=true:=by rw[<- hc,Ee w j hj];simpa using h
theorem aF{w:Lu}{j:Nat}{c:Lu}(hj:j<11)(hc:aY.getD j []=c)(h:vb w≠j):((bs w).toList==c)=false:=by rw[<- hc,Ee w j hj];simpa using h
theorem mh(w:Lu):-1<=vb w/\vb w<=10:=by
 rcases aV (fun v=>v==w) aY [] with⟨e,_⟩|⟨k,hk,e,_⟩
 ·unfold vb;omega
 ·have:aY.length=11:=rfl
  unfold vb;omega
def fj(ls:List (Lu)):Bool:=bZ (vb (ls.getD 0 [])) ls.length (ag (ls.getD 1 [])) (ag (ls.getD 2 [])) (bY (ls.getD 3 [])) (rdE (ls.getD 3 [])) (cY (ls.getD 4 []) 32)
theorem AV(W:World)(g cap m:Nat)(ls:List (Lu))(h:Wd W g m ls)(hs:∀ i,(ls.getD i []).length<=100):Cr prog 135 #[Sq g m cap] W (.bool (fj ls)):=by
 obtain⟨hm,hg,hc⟩:=h;have hz:∀ i,(bs (ls.getD i [])).size<=2097152:=fun i=>by rw[aN];have:=hs i;omega
 obtain⟨p,hp⟩:∃ p:Nat->Bz,(fun i=>bs (ls.getD i []))=p:=⟨_,rfl⟩
 have hpi:∀ i,p i=bs (ls.getD i []):=fun i=>by rw[<- hp]
 have IQ:∀ Q:World->Prop,(∀ V,Bl W V->Q V)->IH W Q p (ag (ls.getD 1 [])) (ag (ls.getD 2 [])) (bY (ls.getD 3 [])) (rdB (ls.getD 3 [])) (rdN (ls.getD 3 [])) (rdE (ls.getD 3 [])) (cY (ls.getD 4 []) 32):=fun Q hQ=>by
  refine⟨hQ W (Below.refl _ _),fun V hV=>?_,fun V hV=>?_,fun V hV=>?_,fun V hV=>?_,fun V hV=>?_⟩
  ·rw[hpi];exact(nK _ V (hz 1)).mono (fun e w' q=>by rw[bN] at q;exact⟨q.1,hQ _ (bup hV q.2)⟩)
  ·rw[hpi];exact(nK _ V (hz 2)).mono (fun e w' q=>by rw[bN] at q;exact⟨q.1,hQ _ (bup hV q.2)⟩)
  ·rw[hpi];exact(gh _ V (hz 3)).mono (fun e w' q=>by rw[bN] at q;exact⟨q.1,hQ _ (bup hV q.2)⟩)
  ·rw[hpi];exact(jY _ V (hz 3)).mono (fun e w' q=>by rw[bN] at q;exact⟨q.1,hQ _ (bup hV q.2)⟩)
  ·rw[hpi];exact(fy _ 32 V dE dE).mono (fun e w' q=>by rw[bN] at q;exact⟨q.1,hQ _ (bup hV q.2)⟩)
 have hr:=mh (ls.getD 0 [])
 have hre:rdE (ls.getD 3 [])=0\/rdE (ls.getD 3 [])=1:=by
  rcases hq:rd (ls.getD 3 []) with _|⟨a,n⟩
  ·exact .inr (cW hq).2.2
  ·exact .inl (gi hq).2.2
 have G:∀ {b:Bool},(Cr prog 135 #[Sq g m cap] W (.bool b))->b=fj ls->Cr prog 135 #[Sq g m cap] W (.bool (fj ls)):=fun q e=>by rw[<- e];exact q
 have cell:∀ V,Bl W V->∀ i,i<m->V.cell? (At g i)=some (.string (p i)):=fun V hV i hi=>by rw[hpi];exact(hV.cell (p:=At g i) hg).trans (hc i hi)
 have C4:4<=m->∀ V,Bl W V->Wq4 W g p V:=fun q V hV=>⟨hV,cell V hV 0 om,cell V hV 1 om,cell V hV 2 om,cell V hV 3 om,Nat.lt_of_lt_of_le hg hV.size⟩
 have C5:5<=m->∀ V,Bl W V->Wq5 W g p V:=fun q V hV=>⟨C4 om V hV,cell V hV 4 om⟩
 unfold fj at G ⊢
 rw[<- hm] at G ⊢;have hp0:=hpi 0;clear hp hpi cell;generalize hv:vb (ls.getD 0 [])=v at G hr ⊢
 have b8:∀ {j:Nat} {c:Lu},j<11->aY.getD j []=c->v=j->((p 0).toList==c)=true:=fun h1 h2 h3=>by rw[hp0];exact b8 h1 h2 (hv.trans h3)
 have aF:∀ {j:Nat} {c:Lu},j<11->aY.getD j []=c->v≠j->((p 0).toList==c)=false:=fun h1 h2 h3=>by rw[hp0];exact aF h1 h2 (fun q=>h3 (hv.symm.trans q))
 generalize ag (ls.getD 1 [])=t at IQ G ⊢
 generalize ag (ls.getD 2 [])=o at IQ G ⊢
 generalize bY (ls.getD 3 [])=ai at IQ G ⊢
 generalize rdE (ls.getD 3 [])=e at IQ G hre ⊢
 generalize cY (ls.getD 4 []) 32=nu at IQ G ⊢
 clear hv hp0;by_cases m4:m=4
 ·subst m4;have I:=IQ _ (C4 om)
  rcases t with _|_
  ·exact G (E5 W g cap _ false o _ _ _ _ _ I rfl) (by simp[bZ])
  rcases o with _|_
  ·exact G (EY W g cap _ true false _ _ _ _ _ I rfl rfl) (by simp[bZ])
  by_cases v67:v=6\/v=7
  ·have hv:VbA (p 0):=by rcases v67 with rfl|rfl;exact .inl (b8 (j:=6) dE rfl om);exact .inr (⟨(aF (j:=6) dE rfl om),(b8 (j:=7) dE rfl om)⟩)
   by_cases hq:0<=ai
   ·exact G (EO W g cap _ true true _ _ _ _ _ I rfl rfl hv hq) (by simp[bZ,hq,v67])
   ·exact G (EM W g cap _ true true _ _ _ _ _ I rfl rfl hv hq) (by simp[bZ,hq,v67])
  by_cases v2:v=2
  ·exact G (ET W g cap _ true true _ _ _ _ _ I rfl rfl ⟨(aF (j:=6) dE rfl om),(aF (j:=7) dE rfl om),(b8 (j:=2) dE rfl om)⟩ ) (by simp[bZ,v2])
  by_cases v05:0<=v/\v<=5
  ·have hv:VbB (p 0):=by
    rcases (show v=0\/v=1\/v=3\/v=4\/v=5 by omega) with rfl|rfl|rfl|rfl|rfl
    ·exact .inl ⟨(aF (j:=6) dE rfl om),(aF (j:=7) dE rfl om),(aF (j:=2) dE rfl om),(b8 (j:=0) dE rfl om)⟩
    ·exact .inr (.inl ⟨(aF (j:=6) dE rfl om),(aF (j:=7) dE rfl om),(aF (j:=2) dE rfl om),(aF (j:=0) dE rfl om),(b8 (j:=1) dE rfl om)⟩)
    ·exact .inr (.inr (.inl ⟨(aF (j:=6) dE rfl om),(aF (j:=7) dE rfl om),(aF (j:=2) dE rfl om),(aF (j:=0) dE rfl om),(aF (j:=1) dE rfl om),(b8 (j:=3) dE rfl om)⟩))
    ·exact .inr (.inr (.inr (.inl ⟨(aF (j:=6) dE rfl om),(aF (j:=7) dE rfl om),(aF (j:=2) dE rfl om),(aF (j:=0) dE rfl om),(aF (j:=1) dE rfl om),(aF (j:=3) dE rfl om),(b8 (j:=4) dE rfl om)⟩)))
    ·exact .inr (.inr (.inr (.inr (⟨(aF (j:=6) dE rfl om),(aF (j:=7) dE rfl om),(aF (j:=2) dE rfl om),(aF (j:=0) dE rfl om),(aF (j:=1) dE rfl om),(aF (j:=3) dE rfl om),(aF (j:=4) dE rfl om),(b8 (j:=5) dE rfl om)⟩))))
   rcases hre with rfl|rfl
   ·exact G (ES W g cap _ true true _ _ _ _ _ I rfl rfl hv rfl) (by unfold bZ;rw[if_neg v67,if_neg v2,if_pos v05];simp)
   ·exact G (ER W g cap _ true true _ _ _ _ _ I rfl rfl hv sM) (by unfold bZ;rw[if_neg v67,if_neg v2,if_pos v05];simp)
  exact G (E7 W g cap _ true true _ _ _ _ _ I rfl rfl ⟨(aF (j:=6) dE rfl om),(aF (j:=7) dE rfl om),(aF (j:=2) dE rfl om),(aF (j:=0) dE rfl om),(aF (j:=1) dE rfl om),(aF (j:=3) dE rfl om),(aF (j:=4) dE rfl om),(aF (j:=5) dE rfl om)⟩ ) (by unfold bZ;rw[if_neg v67,if_neg v2,if_neg v05];simp)
 ·by_cases m5:m=5
  ·subst m5;have I:=IQ _ (C5 om)
   rcases t with _|_
   ·exact G (E6 W g cap _ false o _ _ _ _ _ I rfl) (by simp[bZ])
   rcases o with _|_
   ·exact G (EZ W g cap _ true false _ _ _ _ _ I rfl rfl) (by simp[bZ])
   by_cases v67:v=6\/v=7
   ·have hv:VbA (p 0):=by rcases v67 with rfl|rfl;exact .inl (b8 (j:=6) dE rfl om);exact .inr (⟨(aF (j:=6) dE rfl om),(b8 (j:=7) dE rfl om)⟩)
    exact G (EL W g cap _ true true _ _ _ _ _ I rfl rfl hv ) (by simp[bZ,v67])
   by_cases v2:v=2
   ·rcases hre with rfl|rfl
    ·by_cases hq:0<=nu
     ·exact G (EX W g cap _ true true _ _ _ _ _ I rfl rfl ⟨(aF (j:=6) dE rfl om),(aF (j:=7) dE rfl om),(b8 (j:=2) dE rfl om)⟩ rfl hq) (by simp[bZ,hq,v2])
     ·exact G (EV W g cap _ true true _ _ _ _ _ I rfl rfl ⟨(aF (j:=6) dE rfl om),(aF (j:=7) dE rfl om),(b8 (j:=2) dE rfl om)⟩ rfl hq) (by simp[bZ,hq,v2])
    ·exact G (EU W g cap _ true true _ _ _ _ _ I rfl rfl ⟨(aF (j:=6) dE rfl om),(aF (j:=7) dE rfl om),(b8 (j:=2) dE rfl om)⟩ sM) (by simp[bZ,v2])
   by_cases v05:0<=v/\v<=5
   ·have hv:VbB (p 0):=by
     rcases (show v=0\/v=1\/v=3\/v=4\/v=5 by omega) with rfl|rfl|rfl|rfl|rfl
     ·exact .inl ⟨(aF (j:=6) dE rfl om),(aF (j:=7) dE rfl om),(aF (j:=2) dE rfl om),(b8 (j:=0) dE rfl om)⟩
     ·exact .inr (.inl ⟨(aF (j:=6) dE rfl om),(aF (j:=7) dE rfl om),(aF (j:=2) dE rfl om),(aF (j:=0) dE rfl om),(b8 (j:=1) dE rfl om)⟩)
     ·exact .inr (.inr (.inl ⟨(aF (j:=6) dE rfl om),(aF (j:=7) dE rfl om),(aF (j:=2) dE rfl om),(aF (j:=0) dE rfl om),(aF (j:=1) dE rfl om),(b8 (j:=3) dE rfl om)⟩))
     ·exact .inr (.inr (.inr (.inl ⟨(aF (j:=6) dE rfl om),(aF (j:=7) dE rfl om),(aF (j:=2) dE rfl om),(aF (j:=0) dE rfl om),(aF (j:=1) dE rfl om),(aF (j:=3) dE rfl om),(b8 (j:=4) dE rfl om)⟩)))
     ·exact .inr (.inr (.inr (.inr (⟨(aF (j:=6) dE rfl om),(aF (j:=7) dE rfl om),(aF (j:=2) dE rfl om),(aF (j:=0) dE rfl om),(aF (j:=1) dE rfl om),(aF (j:=3) dE rfl om),(aF (j:=4) dE rfl om),(b8 (j:=5) dE rfl om)⟩))))
    exact G (EP W g cap _ true true _ _ _ _ _ I rfl rfl hv ) (by unfold bZ;rw[if_neg v67,if_neg v2,if_pos v05];simp)
   exact G (E8 W g cap _ true true _ _ _ _ _ I rfl rfl ⟨(aF (j:=6) dE rfl om),(aF (j:=7) dE rfl om),(aF (j:=2) dE rfl om),(aF (j:=0) dE rfl om),(aF (j:=1) dE rfl om),(aF (j:=3) dE rfl om),(aF (j:=4) dE rfl om),(aF (j:=5) dE rfl om)⟩ ) (by unfold bZ;rw[if_neg v67,if_neg v2,if_neg v05];simp)
  ·exact G (Gj W g cap m (by simp;omega) (by simp;omega)) (by simp[bZ,m4,m5])
end Go.Proofs.YtjnhhnbgjjkkjaaGreatDoor
