import Derived.Test.YtjnhhnbgjjkkjaaGreatDoorRePBD
import Derived.Test.YtjnhhnbgjjkkjaaGreatDoorRePBF
import Derived.Test.YtjnhhnbgjjkkjaaGreatDoorRePBG
set_option linter.all false
set_option maxRecDepth 100000
set_option maxHeartbeats 2000000
namespace Go.Proofs.YtjnhhnbgjjkkjaaGreatDoor
section
open Go.ChangeShapes Go.WideShapes Go.ChangeAt Go.RowKit Go.Proofs.Tryz
theorem Bm(g a:Nat)(w:World)(D:Nat->Bz)(P:Nat->Bz)(f:Nat->Bool)(acc:Nat->Lu)(ha:a<=1)
  (hf:∀ i,128<=i->f i=true) (h0:acc 0=[]) (hacc:∀ i,acc (i+1)=acc i++(P i).data.toList) (hsz:∀ i,i<=129->(acc i).length+(P i).size<=100000) (R:Bz->Prop) (hR:∀ i,(∀ j,j<i->f j=false)->f i=true->R ⟨(acc (i+1)).toArray⟩)
  (HA:Hid (∀ W,Bl w W->Cr prog 86 #[.agg #[Pq g]] W (I6 a)))
  (HD:Hid (∀ i W,Bl w W->Cr prog 88 #[Pq g,I6 (bd a i)] W (.string (D i))))
  (HC:Hid (∀ i W,Bl w W->Calls prog 87 #[.string (D i),.string ⟨#[0]⟩] W fun e w'=>∃ q,e=.returned (.tuple #[.string (P i),.string q,.bool (f i)])/\Bl W w')) :
  Calls prog 48 #[.agg #[Pq g]] w fun e w'=>∃ t,e=.returned (.string t)/\R t/\Bl w w':=by
 have HS:Hid (∀ i W,i<=1000->Calls prog 89 #[I6 a,I6 (i:Nat)] W fun e w'=>e=.returned (I6 (bd a i))/\w'=W):=fun i W hi=>l8 a i W ha om
 replace hacc:Hid (∀ i,acc (i+1)=acc i++(P i).data.toList):=hacc;replace hsz:Hid (∀ i,i<=129->(acc i).length+(P i).size<=100000):=hsz;replace hR:Hid (∀ i,(∀ j,j<i->f j=false)->f i=true->R ⟨(acc (i+1)).toArray⟩):=hR;replace hf:Hid (∀ i,128<=i->f i=true):=hf;obtain⟨W0,hW0⟩:∃ W0,W0=(w.alloc (.cells #[Pq g] 84)).alloc (.cells #[.pointer none,.slice none 0 0] 139):=⟨_,rfl⟩
 have B0:Blk W0 w.heap.size #[Pq g] 84:=by rw[hW0];exact(Blk.new w _ _).alloc _
 have z0:W0.heap.size=w.heap.size+2:=by rw[hW0];simp
 have l0:Bl w W0:=by rw[hW0];exact upB
 have I0:IsB (w.heap.size+1) (w.heap.size+1) [] W0:=by
  have h:=Lib.fresh_isBuilder 139 5 (w.alloc (.cells #[Pq g] 84))
  rw[World.size_alloc] at h;rw[hW0];exact h
 replace HA:Hid (Calls prog 86 #[.agg #[Pq g]] ((w.alloc (.cells #[Pq g] 84)).alloc (.cells #[.pointer none,.slice none 0 0] 139)) fun e w'=>e=.returned (I6 a)/\Hid (IsB (w.heap.size+1) (w.heap.size+1) [] w'/\Below (w.heap.size+1) W0 w')):=by
  rw[<- hW0];refine(HA.o W0 l0).mono ?_
  rintro e w' ⟨rfl,hb⟩
  refine⟨rfl,?_,hb.mono om⟩
  have hx:∀ p,Lib.BuilderAt 139 5 (w.heap.size+1) (w.heap.size+1) p (Lib.byteCells []) W0->Lib.BuilderAt 139 5 (w.heap.size+1) (w.heap.size+1) p (Lib.byteCells []) w':=by
   rintro p ⟨hB,v,hb',ho,hne⟩
   exact⟨hB,v,(hb.block _ (Array.getElem?_eq_some_iff.1 hb').1).trans hb',av ho hb,hne⟩
  exact I0.elim (fun q=>.inl (hx _ q)) (fun q=>.inr (hx _ q))
 have LW:Hid (∀ W,Below (w.heap.size+1) W0 W->Bl w W/\W.cell? (At w.heap.size 0)=some (Pq g)):=fun W hW=>⟨l0.trans (hW.mono om),(hW.cell (p:=At w.heap.size 0) (by show w.heap.size < _;omega)).trans (B0.cell 0)⟩
 have IB:Hid (∀ W W' l,IsB (w.heap.size+1) (w.heap.size+1) l W->Bl W W'->IsB (w.heap.size+1) (w.heap.size+1) l W'):=fun W W' l hI hb=>by
  have hx:∀ p,Lib.BuilderAt 139 5 (w.heap.size+1) (w.heap.size+1) p (Lib.byteCells l) W->Lib.BuilderAt 139 5 (w.heap.size+1) (w.heap.size+1) p (Lib.byteCells l) W':=by
   rintro p ⟨hB,v,hb',ho,hne⟩
   exact⟨hB,v,(hb.block _ (Array.getElem?_eq_some_iff.1 hb').1).trans hb',av ho hb,hne⟩
  exact hI.elim (fun q=>.inl (hx _ q)) (fun q=>.inr (hx _ q))
 clear B0 I0 hW0;go_enter func48,ntmps48
 go_wp2_with (go_at_call 86;refine HA.o.mono ?_;rintro e w1 ⟨rfl,q1⟩)
 go_loopw [5,6,7,8] (fun i _ _ _ wr=>∃ j:Nat,i=I6 j/\Hid (j<=128/\(∀ m,m<j->f m=false)/\IsB (w.heap.size+1) (w.heap.size+1) (acc j) wr/\Below (w.heap.size+1) W0 wr)) (fun i _ _ _ _=>130-(intOf i).toNat)
 case atStart=>exact⟨0,rfl,Nat.zero_le _,fun m hm=>om,by rw[h0];exact q1.o.1,q1.o.2⟩
 case round =>
  obtain⟨j,rfl,H⟩:=hrel;have hj:=H.o.1;have c0:=(LW.o _ H.o.2.2.2).2
  have hzr:w.heap.size+1<=wr.heap.size:=by have:=H.o.2.2.2.size;omega
  have hjw:IntKind.i64.wrap ((j:Int)+1)=(j:Int)+1:=dD _ om om
  have HJ:Hid ((acc j).length+(P j).size<=100000):=hsz.o j om
  replace HC:Hid (∀ W,Bl w W->Calls prog 87 #[.string (D j),.string ⟨#[0]⟩] W fun e w'=>∃ q,e=.returned (.tuple #[.string (P j),.string q,.bool (f j)])/\Bl W w'):=HC.o j
  rcases hfj:f j with _|_
  ·have hj2:j<128:=by
    rcases Nat.lt_or_ge j 128 with q|q
    ·exact q
    ·have:=hf.o j q;rw[hfj] at this;cases this
   have HN:Hid (∀ m,m<j+1->f m=false):=fun m hm=>by
    rcases Nat.lt_or_ge m j with q|q
    ·exact H.o.2.1 m q
    ·obtain rfl:m=j:=by omega
     exact hfj
   rw[hfj] at HC;go_wp2;go_region_held3 (fun w'=>w'.cell? (At w.heap.size 0)=some (Pq g)) (go_keep) ((first
    | (go_at_call 89;refine(HS.o j _ om).mono ?_;rintro e w2 ⟨rfl,rfl⟩)
    | (go_at_call 88;refine Mo (HD.o j _ (LW.o _ (H.o.2.2.2.drew)).1) fun w3 hq3=>?_;have hb3:Hid (IsB (w.heap.size+1) (w.heap.size+1) (acc j) w3/\Below (w.heap.size+1) W0 w3):=⟨IB.o _ _ _ (IB.o _ _ _ H.o.2.2.1 (Below.drew (Below.refl _ _))) hq3,H.o.2.2.2.drew.trans (hq3.mono hzr)⟩;clear hq3;have c3:=(LW.o _ hb3.o.2).2)
    | (go_at_call 87;refine(HC.o _ (LW.o _ hb3.o.2).1).mono ?_;rintro e w4 ⟨q,rfl,hq4⟩;have hb4:Hid (IsB (w.heap.size+1) (w.heap.size+1) (acc j) w4/\Below (w.heap.size+1) W0 w4):=⟨IB.o _ _ _ hb3.o.1 hq4,hb3.o.2.trans (hq4.mono (Nat.le_trans om hb3.o.2.size))⟩;clear hq4;have c4:=(LW.o _ hb4.o.2).2)))
   all_goals (
    go_wp2_with (go_at_call 62;refine(gR (w.heap.size+1) (w.heap.size+1) (acc j) (P j) _ hb4.o.1 (by have:=HJ.o;omega) (Nat.le_trans om hb4.o.2.size)).mono ?_;rintro e w5 ⟨rfl,i5,hq5⟩;have hb5:Hid (IsB (w.heap.size+1) (w.heap.size+1) (acc (j+1)) w5/\Below (w.heap.size+1) W0 w5):=⟨by rw[hacc.o j];exact i5,hb4.o.2.trans hq5⟩;clear i5 hq5)
    go_roundw
    case rel=>exact⟨j+1,by go_num,by omega,HN.o,hb5.o.1,hb5.o.2⟩
    case measure=>simp[intOf];omega)
  ·have hfin:Hid (R ⟨(acc (j+1)).toArray⟩):=hR.o j H.o.2.1 hfj
   rw[hfj] at HC;go_wp2;go_region_held3 (fun w'=>w'.cell? (At w.heap.size 0)=some (Pq g)) (go_keep) ((first
    | (go_at_call 89;refine(HS.o j _ om).mono ?_;rintro e w2 ⟨rfl,rfl⟩)
    | (go_at_call 88;refine Mo (HD.o j _ (LW.o _ (H.o.2.2.2.drew)).1) fun w3 hq3=>?_;have hb3:Hid (IsB (w.heap.size+1) (w.heap.size+1) (acc j) w3/\Below (w.heap.size+1) W0 w3):=⟨IB.o _ _ _ (IB.o _ _ _ H.o.2.2.1 (Below.drew (Below.refl _ _))) hq3,H.o.2.2.2.drew.trans (hq3.mono hzr)⟩;clear hq3;have c3:=(LW.o _ hb3.o.2).2)
    | (go_at_call 87;refine(HC.o _ (LW.o _ hb3.o.2).1).mono ?_;rintro e w4 ⟨q,rfl,hq4⟩;have hb4:Hid (IsB (w.heap.size+1) (w.heap.size+1) (acc j) w4/\Below (w.heap.size+1) W0 w4):=⟨IB.o _ _ _ hb3.o.1 hq4,hb3.o.2.trans (hq4.mono (Nat.le_trans om hb3.o.2.size))⟩;clear hq4;have c4:=(LW.o _ hb4.o.2).2)))
   all_goals (
    go_wp2_with (first
     | (go_at_call 62;refine(gR (w.heap.size+1) (w.heap.size+1) (acc j) (P j) _ hb4.o.1 (by have:=HJ.o;omega) (Nat.le_trans om hb4.o.2.size)).mono ?_;rintro e w5 ⟨rfl,i5,hq5⟩;have hb5:Hid (IsB (w.heap.size+1) (w.heap.size+1) (acc (j+1)) w5/\Below (w.heap.size+1) W0 w5):=⟨by rw[hacc.o j];exact i5,hb4.o.2.trans hq5⟩;clear i5 hq5)
     | (go_at_call 63;refine Mo (pC (w.heap.size+1) (w.heap.size+1) (acc (j+1)) _ hb5.o.1 (Nat.le_trans om hb5.o.2.size)) fun w6 hq6=>?_;have hb6:Hid (Below (w.heap.size+1) W0 w6):=hb5.o.2.trans hq6;clear hq6))
    go_ret;exact⟨_,rfl,hfin.o,(LW.o _ hb6.o).1⟩)
def kZ(l:CL)(a:Nat):Nat->Lu
 | 0=>[]
 | i+1=>kZ l a i++(bT l (bd a i)).data.toList.takeWhile (fun c=>c != 0)
theorem wW(l:CL)(a:Nat):∀ i f,(∀ j,j<i->(0:UInt8)∉(bT l (bd a j)).data.toList)->eI l a (f+i) 0=kZ l a i++eI l a f i:=by
 intro i;induction i with
 | zero=>intro f _;simp[kZ]
 | succ i ih =>
  intro f h;rw[show f+(i+1)=(f+1)+i by omega,ih (f+1) (fun j hj=>h j om)]
  simp only[eI,kZ]
  rw[if_neg (h i om),List.append_assoc]
theorem DK(l:CL)(i:Nat)(hi:i<200)(h:∀ j,j<i->(0:UInt8)∉(bT l (bd (bH l) j)).data.toList)(h1:(0:UInt8)∈(bT l (bd (bH l) i)).data.toList):dg l=kZ l (bH l) (i+1):=by
 unfold dg;obtain⟨f,hf⟩:∃ f,200=(f+1)+i:=⟨199-i,by omega⟩
 rw[hf,wW l _ i (f+1) h];simp only[eI,kZ]
 rw[if_pos h1,List.append_nil]
theorem sq:∀ t:Lu,(0:UInt8)∈t->∃ x y,t=x++0::y/\(0:UInt8)∉x:=by
 intro t;induction t with
 | nil=>intro h;simp at h
 | cons c r ih =>
  intro h;by_cases hc:c=0
  ·exact⟨[],r,by rw[hc];rfl,by simp⟩
  ·obtain⟨x,y,e,hx⟩:=ih (by rcases List.mem_cons.1 h with q|q;exact absurd q.symm hc;exact q)
   exact⟨c::x,y,by rw[e];rfl,fun q=>by rcases List.mem_cons.1 q with q|q;exact hc q.symm;exact hx q⟩
theorem yJ(t:Lu):∃ q,Lib.cut t [0]=(t.takeWhile (fun c=>c != 0),q,decide ((0:UInt8)∈t)):=by
 by_cases h:(0:UInt8)∈t
 ·obtain⟨x,y,e,hx⟩:=sq t h;refine⟨y,?_⟩
  rw[decide_eq_true h,e,r8 0 x y hx,List.takeWhile_append_of_pos (by intro c hc;simp;rintro rfl;exact hx hc)]
  simp
 ·refine⟨[],?_⟩
  rw[decide_eq_false h,r9 0 t h,kW (fun c hc=>by simp;rintro rfl;exact h hc)]
theorem o7(l:CL)(hw:dL l)(a:Nat):∀ i,(kZ l a i).length<=64*i:=by
 intro i;induction i with
 | zero=>simp[kZ]
 | succ i ih =>
  have h1:((bT l (bd a i)).data.toList.takeWhile (fun c=>c != 0)).length<=64:=by
   have h2:=(List.takeWhile_sublist (fun c:UInt8=>c != 0) (l:=(bT l (bd a i)).data.toList)).length_le
   have h3:(bT l (bd a i)).data.toList.length=64:=by rw[Array.length_toList];exact g8 hw _
   omega
  simp only[kZ,List.length_append];omega
theorem xA(ρ:Nat->Nat)(k:Nat)(w:World)(g:Nat)(A:PD)(E:Env w)(hwf:WF A.now)(hd:DAt ρ k w g A)(hc:cO ρ w):Cr prog 48 #[.agg #[Pq g]] w (.string (bs (dg A.now))):=by
 have hal:=ld A.now;have hn:=hwf.len;have hdW:∀ W,Bl w W->DAt ρ k W g A:=fun W hW=>hd.step (Stp.below (R:=fun _=>False) hc hW) (fun q=>q) (fun q=>q) (fun q=>q)
 refine(Bm g (bH A.now) w (fun i=>bT A.now (bd (bH A.now) i)) (fun i=>bs ((bT A.now (bd (bH A.now) i)).data.toList.takeWhile (fun c=>c != 0))) (fun i=>decide ((0:UInt8)∈(bT A.now (bd (bH A.now) i)).data.toList)) (kZ A.now (bH A.now)) om ?_ rfl (fun i=>rfl) ?_ (fun t=>t=bs (dg A.now)) ?_ ?_ ?_ ?_).mono ?_
 ·intro i hi;rw[nh hwf (.inr (by unfold bd;omega))]
  decide +kernel
 ·intro i hi;have h1:=o7 A.now hwf.w (bH A.now) i
  have h2:=o7 A.now hwf.w (bH A.now) (i+1)
  simp only[kZ,List.length_append] at h2
  rw[aN];omega
 ·intro i h h1;have h1':=of_decide_eq_true h1;have hi:i<200:=by
   rcases Nat.lt_or_ge i 200 with q|q
   ·exact q
   ·have:=of_decide_eq_false (h 128 om)
    rw[nh hwf (.inr (by unfold bd;omega))] at this
    exact absurd (by decide +kernel) this
  rw[DK A.now i hi (fun j hj=>of_decide_eq_false (h j hj)) h1']
  rfl
 ·intro W hW;refine(tZ g (bT A.now 0) (g8 hwf.w 0) W (fun W' hb=>tD ρ k W' g A 0 om (hdW W' (hW.trans (hb.mono hW.size))))).mono ?_
  rintro e w' ⟨rfl,hb⟩
  exact⟨rfl,hb⟩
 ·intro i W hW;exact tD ρ k W g A _ om (hdW W hW)
 ·intro i W hW;obtain⟨m,hm⟩:=(E.mono hW).mx
  have hz:=g8 hwf.w (bd (bH A.now) i)
  refine(Tryz.strings_Cut (bT A.now (bd (bH A.now) i)) ⟨#[0]⟩ m W om hm).mono ?_
  rintro e w' ⟨rfl,hdr⟩
  obtain⟨q,hq⟩:=yJ (bT A.now (bd (bH A.now) i)).data.toList
  rw[show (⟨#[0]⟩:Bz).data.toList=[0] from rfl,hq];exact⟨_,rfl,iC hdr⟩
 ·rintro e w' ⟨t,rfl,rfl,hb⟩
  exact⟨rfl,hb⟩
end
section
open Go.RowKit Go.Shelf Go.Proofs.Tryz
attribute [local go_sem] Oper.semAt_some
theorem wt(t:Bz)(w:World):Calls prog 83 #[.string t] w fun e w'=>e=.returned (.func (.func 129) #[] #[Pq w.heap.size])/\w'=w.alloc (.cells #[.string t] 9):=by
 go_enter func83,ntmps83
 go_wp2;go_ret;exact⟨rfl,rfl⟩
theorem vk{B:Nat}{w W:World}(h:Below B w W){b:Nat}(hb:B<=b)(o:Obj):Below B w (W.putObj b o) :=
 ⟨h.os,h.tape,h.output,by rw[World.putObj_size];exact h.size,fun c hc=>(World.putObj_heap_other om).trans (h.block c hc)⟩
end
end Go.Proofs.YtjnhhnbgjjkkjaaGreatDoor
