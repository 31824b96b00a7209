/-
  StF, OpA
-/
import Derived.Test.YtjnhhnbgjjkkjaaGreatDoorBesidesPAA
import Derived.Test.YtjnhhnbgjjkkjaaGreatDoorBesidesPAW
import Derived.Test.YtjnhhnbgjjkkjaaGreatDoorBesidesPAZ
import Derived.Test.YtjnhhnbgjjkkjaaGreatDoorBesidesPBA
import Derived.Test.YtjnhhnbgjjkkjaaGreatDoorBesidesPAX
namespace Go.Proofs.YtjnhhnbgjjkkjaaGreatDoor
open Go.ChangeShapes Go.WideShapes Go.ChangeAt Go.RowKit
set_option linter.unusedVariables false
set_option linter.unusedSimpArgs false
set_option maxRecDepth 100000 in
set_option maxHeartbeats 2000000 in
theorem stext_go (g a:Nat) (w:World) (D:Nat->ByteArray) (P:Nat->ByteArray) (f:Nat->Bool) (acc:Nat->List UInt8) (ha:a<=1)
    (hf:∀ i,128<=i->f i=true) (h0:acc 0=[]) (hacc:∀ i,acc (i+1)=acc i++(P i).data.toList) (hsz:∀ i,i<=129->(acc i).length+(P i).size<=100000) (R:ByteArray->Prop) (hR:∀ i,(∀ j,j<i->f j=false)->f i=true->R ⟨(acc (i+1)).toArray⟩)
    (HA:Hid (∀ W,Below w.heap.size w W->Calls Tryz.prog 86 #[.agg #[.pointer (some ⟨g,0,none⟩)]] W fun e w'=>e=.returned (.int .i64 a)/\Below W.heap.size W w'))
    (HD:Hid (∀ i W,Below w.heap.size w W->Calls Tryz.prog 88 #[.pointer (some ⟨g,0,none⟩),.int .i64 (secN a i)] W fun e w'=>e=.returned (.string (D i))/\Below W.heap.size W w'))
    (HC:Hid (∀ i W,Below w.heap.size w W->Calls Tryz.prog 87 #[.string (D i),.string ⟨#[0]⟩] W fun e w'=>∃ q,e=.returned (.tuple #[.string (P i),.string q,.bool (f i)])/\Below W.heap.size W w')) :
    Calls Tryz.prog 48 #[.agg #[.pointer (some ⟨g,0,none⟩)]] w fun e w'=>∃ t,e=.returned (.string t)/\R t/\Below w.heap.size w w':=by
  have HS:Hid (∀ i W,i<=1000->Calls Tryz.prog 89 #[.int .i64 a,.int .i64 (i:Nat)] W fun e w'=>e=.returned (.int .i64 (secN a i))/\w'=W):=fun i W hi=>sector_any a i W ha om
  replace hacc:Hid (∀ i,acc (i+1)=acc i++(P i).data.toList):=hacc;replace hsz:Hid (∀ i,i<=129->(acc i).length+(P i).size<=100000):=hsz;replace hR:Hid (∀ i,(∀ j,j<i->f j=false)->f i=true->R ⟨(acc (i+1)).toArray⟩):=hR;replace hf:Hid (∀ i,128<=i->f i=true):=hf;obtain⟨W0,hW0⟩:∃ W0,W0=(w.alloc (.cells #[.pointer (some ⟨g,0,none⟩)] 84)).alloc (.cells #[.pointer none,.slice none 0 0] 139):=⟨_,rfl⟩
  have B0:Blk W0 w.heap.size #[.pointer (some ⟨g,0,none⟩)] 84:=by rw[hW0];exact(Blk.new w _ _).alloc _
  have z0:W0.heap.size=w.heap.size+2:=by rw[hW0];simp
  have l0:Below w.heap.size w W0:=by rw[hW0];exact upB
  have I0:IsB (w.heap.size+1) (w.heap.size+1) [] W0:=by
    have h:=Lib.fresh_isBuilder 139 5 (w.alloc (.cells #[.pointer (some ⟨g,0,none⟩)] 84))
    rw[World.size_alloc] at h;rw[hW0];exact h
  replace HA:Hid (Calls Tryz.prog 86 #[.agg #[.pointer (some ⟨g,0,none⟩)]] ((w.alloc (.cells #[.pointer (some ⟨g,0,none⟩)] 84)).alloc (.cells #[.pointer none,.slice none 0 0] 139)) fun e w'=>e=.returned (.int .i64 a)/\Hid (IsB (w.heap.size+1) (w.heap.size+1) [] w'/\Below (w.heap.size+1) W0 w')):=by
    rw[<- hW0];refine(HA.out W0 l0).mono ?_
    rintro e w' ⟨rfl,hb⟩
    refine⟨rfl,?_,hb.mono om⟩
    have hx:∀ p,Lib.BuilderAt 139 5 (w.heap.size+1) (w.heap.size+1) p (Lib.byteCells []) W0->Lib.BuilderAt 139 5 (w.heap.size+1) (w.heap.size+1) p (Lib.byteCells []) w':=by
      rintro p ⟨hB,v,hb',ho,hne⟩
      exact⟨hB,v,(hb.block _ (Array.getElem?_eq_some_iff.1 hb').1).trans hb',owns_below ho hb,hne⟩
    exact I0.elim (fun q=>.inl (hx _ q)) (fun q=>.inr (hx _ q))
  have LW:Hid (∀ W,Below (w.heap.size+1) W0 W->Below w.heap.size w W/\W.cell? ⟨w.heap.size,0,none⟩=some (.pointer (some ⟨g,0,none⟩))):=fun W hW=>⟨l0.trans (hW.mono om),(hW.cell (p:=⟨w.heap.size,0,none⟩) (by show w.heap.size < _;omega)).trans (B0.cell 0)⟩
  have IB:Hid (∀ W W' l,IsB (w.heap.size+1) (w.heap.size+1) l W->Below W.heap.size W W'->IsB (w.heap.size+1) (w.heap.size+1) l W'):=fun W W' l hI hb=>by
    have hx:∀ p,Lib.BuilderAt 139 5 (w.heap.size+1) (w.heap.size+1) p (Lib.byteCells l) W->Lib.BuilderAt 139 5 (w.heap.size+1) (w.heap.size+1) p (Lib.byteCells l) W':=by
      rintro p ⟨hB,v,hb',ho,hne⟩
      exact⟨hB,v,(hb.block _ (Array.getElem?_eq_some_iff.1 hb').1).trans hb',owns_below ho hb,hne⟩
    exact hI.elim (fun q=>.inl (hx _ q)) (fun q=>.inr (hx _ q))
  clear B0 I0 hW0;go_enter Tryz.func48,Tryz.ntmps48
  go_wp2_with (go_at_call 86;refine HA.out.mono ?_;rintro e w1 ⟨rfl,q1⟩)
  go_loopw [5,6,7,8] (fun i _ _ _ wr=>∃ j:Nat,i=.int .i64 j/\Hid (j<=128/\(∀ m,m<j->f m=false)/\IsB (w.heap.size+1) (w.heap.size+1) (acc j) wr/\Below (w.heap.size+1) W0 wr)) (fun i _ _ _ _=>130-(intOf i).toNat)
  case atStart=>exact⟨0,rfl,Nat.zero_le _,fun m hm=>om,by rw[h0];exact q1.out.1,q1.out.2⟩
  case round =>
    obtain⟨j,rfl,H⟩:=hrel;have hj:=H.out.1;have c0:=(LW.out _ H.out.2.2.2).2
    have hzr:w.heap.size+1<=wr.heap.size:=by have:=H.out.2.2.2.size;omega
    have hjw:IntKind.i64.wrap ((j:Int)+1)=(j:Int)+1:=i64_smallS _ om om
    have HJ:Hid ((acc j).length+(P j).size<=100000):=hsz.out j om
    replace HC:Hid (∀ W,Below w.heap.size w W->Calls Tryz.prog 87 #[.string (D j),.string ⟨#[0]⟩] W fun e w'=>∃ q,e=.returned (.tuple #[.string (P j),.string q,.bool (f j)])/\Below W.heap.size W w'):=HC.out j
    rcases hfj:f j with _|_
    . have hj2:j<128:=by
        rcases Nat.lt_or_ge j 128 with q|q
        . exact q
        . have:=hf.out j q;rw[hfj] at this;cases this
      have HN:Hid (∀ m,m<j+1->f m=false):=fun m hm=>by
        rcases Nat.lt_or_ge m j with q|q
        . exact H.out.2.1 m q
        . obtain rfl:m=j:=by omega
          exact hfj
      rw[hfj] at HC;go_wp2;go_region_held3 (fun w'=>w'.cell? ⟨w.heap.size,0,none⟩=some (.pointer (some ⟨g,0,none⟩))) (go_keep) ((first
        | (go_at_call 89;refine(HS.out j _ om).mono ?_;rintro e w2 ⟨rfl,rfl⟩)
        | (go_at_call 88;refine(HD.out j _ (LW.out _ (H.out.2.2.2.drew)).1).mono ?_;rintro e w3 ⟨rfl,hq3⟩;have hb3:Hid (IsB (w.heap.size+1) (w.heap.size+1) (acc j) w3/\Below (w.heap.size+1) W0 w3):=⟨IB.out _ _ _ (IB.out _ _ _ H.out.2.2.1 (Below.drew (Below.refl _ _))) hq3,H.out.2.2.2.drew.trans (hq3.mono hzr)⟩;clear hq3;have c3:=(LW.out _ hb3.out.2).2)
        | (go_at_call 87;refine(HC.out _ (LW.out _ hb3.out.2).1).mono ?_;rintro e w4 ⟨q,rfl,hq4⟩;have hb4:Hid (IsB (w.heap.size+1) (w.heap.size+1) (acc j) w4/\Below (w.heap.size+1) W0 w4):=⟨IB.out _ _ _ hb3.out.1 hq4,hb3.out.2.trans (hq4.mono (Nat.le_trans om hb3.out.2.size))⟩;clear hq4;have c4:=(LW.out _ hb4.out.2).2)))
      all_goals (
        go_wp2_with (go_at_call 62;refine(wstr_any (w.heap.size+1) (w.heap.size+1) (acc j) (P j) _ hb4.out.1 (by have:=HJ.out;omega) (Nat.le_trans om hb4.out.2.size)).mono ?_;rintro e w5 ⟨rfl,i5,hq5⟩;have hb5:Hid (IsB (w.heap.size+1) (w.heap.size+1) (acc (j+1)) w5/\Below (w.heap.size+1) W0 w5):=⟨by rw[hacc.out j];exact i5,hb4.out.2.trans hq5⟩;clear i5 hq5)
        go_roundw
        case rel=>exact⟨j+1,by go_num,by omega,HN.out,hb5.out.1,hb5.out.2⟩
        case measure=>simp[intOf];omega)
    . have hfin:Hid (R ⟨(acc (j+1)).toArray⟩):=hR.out j H.out.2.1 hfj
      rw[hfj] at HC;go_wp2;go_region_held3 (fun w'=>w'.cell? ⟨w.heap.size,0,none⟩=some (.pointer (some ⟨g,0,none⟩))) (go_keep) ((first
        | (go_at_call 89;refine(HS.out j _ om).mono ?_;rintro e w2 ⟨rfl,rfl⟩)
        | (go_at_call 88;refine(HD.out j _ (LW.out _ (H.out.2.2.2.drew)).1).mono ?_;rintro e w3 ⟨rfl,hq3⟩;have hb3:Hid (IsB (w.heap.size+1) (w.heap.size+1) (acc j) w3/\Below (w.heap.size+1) W0 w3):=⟨IB.out _ _ _ (IB.out _ _ _ H.out.2.2.1 (Below.drew (Below.refl _ _))) hq3,H.out.2.2.2.drew.trans (hq3.mono hzr)⟩;clear hq3;have c3:=(LW.out _ hb3.out.2).2)
        | (go_at_call 87;refine(HC.out _ (LW.out _ hb3.out.2).1).mono ?_;rintro e w4 ⟨q,rfl,hq4⟩;have hb4:Hid (IsB (w.heap.size+1) (w.heap.size+1) (acc j) w4/\Below (w.heap.size+1) W0 w4):=⟨IB.out _ _ _ hb3.out.1 hq4,hb3.out.2.trans (hq4.mono (Nat.le_trans om hb3.out.2.size))⟩;clear hq4;have c4:=(LW.out _ hb4.out.2).2)))
      all_goals (
        go_wp2_with (first
          | (go_at_call 62;refine(wstr_any (w.heap.size+1) (w.heap.size+1) (acc j) (P j) _ hb4.out.1 (by have:=HJ.out;omega) (Nat.le_trans om hb4.out.2.size)).mono ?_;rintro e w5 ⟨rfl,i5,hq5⟩;have hb5:Hid (IsB (w.heap.size+1) (w.heap.size+1) (acc (j+1)) w5/\Below (w.heap.size+1) W0 w5):=⟨by rw[hacc.out j];exact i5,hb4.out.2.trans hq5⟩;clear i5 hq5)
          | (go_at_call 63;refine(bstr_any (w.heap.size+1) (w.heap.size+1) (acc (j+1)) _ hb5.out.1 (Nat.le_trans om hb5.out.2.size)).mono ?_;rintro e w6 ⟨rfl,hq6⟩;have hb6:Hid (Below (w.heap.size+1) W0 w6):=hb5.out.2.trans hq6;clear hq6))
        go_ret;exact⟨_,rfl,hfin.out,(LW.out _ hb6.out).1⟩)
def accL (l:CL) (a:Nat):Nat->List UInt8
  | 0=>[]
  | i+1=>accL l a i++(look l (secN a i)).data.toList.takeWhile (fun c=>c != 0)
theorem readT_acc (l:CL) (a:Nat):∀ i f,(∀ j,j<i->(0:UInt8)∉(look l (secN a j)).data.toList)->readT l a (f+i) 0=accL l a i++readT l a f i:=by
  intro i;induction i with
  | zero=>intro f _;simp[accL]
  | succ i ih =>
    intro f h;rw[show f+(i+1)=(f+1)+i by omega,ih (f+1) (fun j hj=>h j om)]
    simp only[readT,accL]
    rw[if_neg (h i om),List.append_assoc]
theorem text_at (l:CL) (i:Nat) (hi:i<200) (h:∀ j,j<i->(0:UInt8)∉(look l (secN (areaL l) j)).data.toList) (h1:(0:UInt8)∈(look l (secN (areaL l) i)).data.toList):textL l=accL l (areaL l) (i+1):=by
  unfold textL;obtain⟨f,hf⟩:∃ f,200=(f+1)+i:=⟨199-i,by omega⟩
  rw[hf,readT_acc l _ i (f+1) h];simp only[readT,accL]
  rw[if_pos h1,List.append_nil]
theorem first_zero:∀ t:List UInt8,(0:UInt8)∈t->∃ x y,t=x++0::y/\(0:UInt8)∉x:=by
  intro t;induction t with
  | nil=>intro h;simp at h
  | cons c r ih =>
    intro h;by_cases hc:c=0
    . exact⟨[],r,by rw[hc];rfl,by simp⟩
    . obtain⟨x,y,e,hx⟩:=ih (by rcases List.mem_cons.1 h with q|q;exact absurd q.symm hc;exact q)
      exact⟨c::x,y,by rw[e];rfl,fun q=>by rcases List.mem_cons.1 q with q|q;exact hc q.symm;exact hx q⟩
theorem cut_zero (t:List UInt8):∃ q,Lib.cut t [0]=(t.takeWhile (fun c=>c != 0),q,decide ((0:UInt8)∈t)):=by
  by_cases h:(0:UInt8)∈t
  . obtain⟨x,y,e,hx⟩:=first_zero t h;refine⟨y,?_⟩
    rw[decide_eq_true h,e,cut_at 0 x y hx,List.takeWhile_append_of_pos (by intro c hc;simp;rintro rfl;exact hx hc)]
    simp
  . refine⟨[],?_⟩
    rw[decide_eq_false h,cut_no 0 t h,tw_allB (fun c hc=>by simp;rintro rfl;exact h hc)]
theorem accL_len (l:CL) (hw:Whole64 l) (a:Nat):∀ i,(accL l a i).length<=64*i:=by
  intro i;induction i with
  | zero=>simp[accL]
  | succ i ih =>
    have h1:((look l (secN a i)).data.toList.takeWhile (fun c=>c != 0)).length<=64:=by
      have h2:=(List.takeWhile_sublist (fun c:UInt8=>c != 0) (l:=(look l (secN a i)).data.toList)).length_le
      have h3:(look l (secN a i)).data.toList.length=64:=by rw[Array.length_toList];exact look_size hw _
      omega
    simp only[accL,List.length_append];omega
set_option maxHeartbeats 400000 in
theorem stext_any (ρ:Nat->Nat) (k:Nat) (w:World) (g:Nat) (A:PD) (E:Env w) (hwf:WF A.now) (hd:DAt ρ k w g A) (hc:Clean ρ w) :
    Calls Tryz.prog 48 #[.agg #[.pointer (some ⟨g,0,none⟩)]] w fun e w'=>e=.returned (.string (bs (textL A.now)))/\Below w.heap.size w w':=by
  have hal:=areaL_lt A.now;have hn:=hwf.len;have hdW:∀ W,Below w.heap.size w W->DAt ρ k W g A:=fun W hW=>hd.step (Stp.below (R:=fun _=>False) hc hW) (fun q=>q) (fun q=>q) (fun q=>q)
  refine(stext_go g (areaL A.now) w (fun i=>look A.now (secN (areaL A.now) i)) (fun i=>bs ((look A.now (secN (areaL A.now) i)).data.toList.takeWhile (fun c=>c != 0))) (fun i=>decide ((0:UInt8)∈(look A.now (secN (areaL A.now) i)).data.toList)) (accL A.now (areaL A.now)) om ?_ rfl (fun i=>rfl) ?_ (fun t=>t=bs (textL A.now)) ?_ ?_ ?_ ?_).mono ?_
  . intro i hi;rw[look_none hwf (.inr (by unfold secN;omega))]
    decide +kernel
  . intro i hi;have h1:=accL_len A.now hwf.w (areaL A.now) i
    have h2:=accL_len A.now hwf.w (areaL A.now) (i+1)
    simp only[accL,List.length_append] at h2
    rw[bs_size];omega
  . intro i h h1;have h1':=of_decide_eq_true h1;have hi:i<200:=by
      rcases Nat.lt_or_ge i 200 with q|q
      . exact q
      . have:=of_decide_eq_false (h 128 om)
        rw[look_none hwf (.inr (by unfold secN;omega))] at this
        exact absurd (by decide +kernel) this
    rw[text_at A.now i hi (fun j hj=>of_decide_eq_false (h j hj)) h1']
    rfl
  . intro W hW;refine(area_at g (look A.now 0) (look_size hwf.w 0) W (fun W' hb=>read_d ρ k W' g A 0 om (hdW W' (hW.trans (hb.mono hW.size))))).mono ?_
    rintro e w' ⟨rfl,hb⟩
    exact⟨rfl,hb⟩
  . intro i W hW;exact read_d ρ k W g A _ om (hdW W hW)
  . intro i W hW;obtain⟨m,hm⟩:=(E.mono hW).mx
    have hz:=look_size hwf.w (secN (areaL A.now) i)
    refine(Tryz.strings_Cut (look A.now (secN (areaL A.now) i)) ⟨#[0]⟩ m W om hm).mono ?_
    rintro e w' ⟨rfl,hdr⟩
    obtain⟨q,hq⟩:=cut_zero (look A.now (secN (areaL A.now) i)).data.toList
    rw[show (⟨#[0]⟩:ByteArray).data.toList=[0] from rfl,hq];exact⟨_,rfl,drew_below hdr⟩
  . rintro e w' ⟨t,rfl,rfl,hb⟩
    exact⟨rfl,hb⟩
end Go.Proofs.YtjnhhnbgjjkkjaaGreatDoor
namespace Go.Proofs.YtjnhhnbgjjkkjaaGreatDoor
open Go.RowKit Go.Shelf
set_option linter.unusedVariables false
set_option linter.unusedSimpArgs false
attribute [local go_sem] Oper.semAt_some
set_option maxHeartbeats 400000 in
theorem lines_any (t:ByteArray) (w:World):Calls Tryz.prog 83 #[.string t] w fun e w'=>e=.returned (.func (.func 129) #[] #[.pointer (some ⟨w.heap.size,0,none⟩)])/\w'=w.alloc (.cells #[.string t] 9):=by
  go_enter Tryz.func83,Tryz.ntmps83
  go_wp2;go_ret;exact⟨rfl,rfl⟩
set_option maxRecDepth 100000 in
set_option maxHeartbeats 2000000 in
theorem lines_nil (n:Nat) (hn:1<=n) (l b:Nat) (W1:World) (hs:W1.cell? ⟨b,0,none⟩=some (.string ⟨#[]⟩)) :
    CallsIn Fence.wide n Tryz.prog 129 #[.func (.yield l) #[] #[],.pointer (some ⟨b,0,none⟩)] W1 fun e V=>(∃ v,e=.returned v)/\V=W1:=by
  refine callsIn_of_wp Tryz.func129 rfl trivial ?_ rfl
  simp only[Tryz.ntmps129,List.size_toArray,List.length_cons,List.length_nil,Nat.reduceAdd,Nat.reduceSub,Array.replicate_succ,Array.replicate_zero,List.push_toArray,List.append_toArray,List.nil_append,List.cons_append]
  gi_wp2
  gi_loopw [3,4] (fun _ _ wr=>wr=W1) (fun _ _ _=>0)
  case atStart=>rfl
  case round =>
    subst hrel;gi_wp2
    go_end0
    exact⟨⟨_,rfl⟩,rfl⟩
theorem below_put {B:Nat} {w W:World} (h:Below B w W) {b:Nat} (hb:B<=b) (o:Obj):Below B w (W.putObj b o) :=
  ⟨h.os,h.tape,h.output,by rw[World.putObj_size];exact h.size,fun c hc=>(World.putObj_heap_other om).trans (h.block c hc)⟩
set_option maxRecDepth 100000 in
set_option maxHeartbeats 2000000 in
theorem sread_nil (w:World) (HN:Hid (∀ W,Calls Tryz.prog 82 #[] W fun e w'=>∃ c,e=.returned (.agg #[.chan (some c)])/\Ch w' c []/\W.heap.size<=c/\Below W.heap.size W w')) :
    Calls Tryz.prog 47 #[.string ⟨#[]⟩] w fun e w'=>∃ b c,e=.returned (.tuple #[.pointer (some ⟨b,0,none⟩),.agg #[.chan (some c)],.bool true])/\Blk w' b #[.slice none 0 0,.slice none 0 0,.slice none 0 0] 160/\Ch w' c []/\w.heap.size<=b/\w.heap.size<=c/\Below w.heap.size w w':=by
  obtain⟨RR,hRR⟩:∃ RR:Ending->World->Prop,RR=fun e w'=>∃ b c,e=.returned (.tuple #[.pointer (some ⟨b,0,none⟩),.agg #[.chan (some c)],.bool true])/\Blk w' b #[.slice none 0 0,.slice none 0 0,.slice none 0 0] 160/\Ch w' c []/\w.heap.size<=b/\w.heap.size<=c/\Below w.heap.size w w':=⟨_,rfl⟩
  rw[<- hRR];refine(callsIn_wide (n:=7)).1 ?_
  refine callsIn_of_wp_marks Tryz.func47 rfl trivial ?_ rfl
  simp only[Tryz.ntmps47,List.size_toArray,List.length_cons,List.length_nil,Nat.reduceAdd,Nat.reduceSub,Array.replicate_succ,Array.replicate_zero,List.push_toArray,List.append_toArray,List.nil_append,List.cons_append]
  gi_wp2_with (first
    | (refine⟨trivial,?_⟩;gi_at_call 82;refine(callsIn_wide.2 (HN.out _)).mono ?_;rintro e w1 ⟨c,rfl,hch,hc,hb1⟩;replace hch:Hid (Ch w1 c []):=hch;replace hb1:Hid _:=hb1)
    | (refine⟨trivial,?_⟩;gi_at_call 83;refine(callsIn_wide.2 (lines_any _ _)).mono ?_;rintro e w2 ⟨rfl,rfl⟩))
  obtain⟨W4,hW4⟩:∃ W4,W4=((((w.alloc (.cells #[.pointer none] 85)).alloc (.cells #[.chan none] 88)).alloc (.cells #[.bool false] 4)).alloc (.cells #[.slice none 0 0,.slice none 0 0,.slice none 0 0] 160)):=⟨_,rfl⟩
  rw[<- hW4] at hc hb1;have q4:W4.heap.size=w.heap.size+4:=by rw[hW4];simp
  have l4:Below w.heap.size w W4:=by rw[hW4];exact upB
  have p2:Blk W4 w.heap.size #[.pointer none] 85:=by rw[hW4];exact(((Blk.new w _ _).alloc _).alloc _).alloc _
  have p3:Blk W4 (w.heap.size+1) #[.chan none] 88:=by
    have h:=((Blk.new (w.alloc (.cells #[.pointer none] 85)) #[.chan none] 88).alloc (.cells #[.bool false] 4)).alloc (.cells #[.slice none 0 0,.slice none 0 0,.slice none 0 0] 160)
    rw[World.size_alloc] at h;rw[hW4];exact h
  have p4:Blk W4 (w.heap.size+2) #[.bool false] 4:=by
    have h:=(Blk.new ((w.alloc (.cells #[.pointer none] 85)).alloc (.cells #[.chan none] 88)) #[.bool false] 4).alloc (.cells #[.slice none 0 0,.slice none 0 0,.slice none 0 0] 160)
    rw[World.size_alloc,World.size_alloc] at h;rw[hW4];exact h
  have pb:Blk W4 (w.heap.size+3) #[.slice none 0 0,.slice none 0 0,.slice none 0 0] 160:=by
    have h:=Blk.new (((w.alloc (.cells #[.pointer none] 85)).alloc (.cells #[.chan none] 88)).alloc (.cells #[.bool false] 4)) #[.slice none 0 0,.slice none 0 0,.slice none 0 0] 160
    rw[World.size_alloc,World.size_alloc,World.size_alloc] at h;rw[hW4];exact h
  clear hW4;obtain⟨V0,hV0⟩:∃ V0,V0=((w1.alloc (.cells #[.pointer (some ⟨w.heap.size+1+1+1,0,none⟩)] 85)).alloc (.cells #[.chan (some c)] 88)).alloc (.cells #[.string ⟨#[]⟩] 9):=⟨_,rfl⟩
  rw[<- hV0];have z1:=hb1.out.size;have q0:V0.heap.size=w1.heap.size+3:=by rw[hV0];simp
  have lv:Below w1.heap.size w1 V0:=by rw[hV0];exact upB
  have p5:Blk V0 w1.heap.size #[.pointer (some ⟨w.heap.size+1+1+1,0,none⟩)] 85:=by rw[hV0];exact((Blk.new w1 _ _).alloc _).alloc _
  have p6:Blk V0 (w1.heap.size+1) #[.chan (some c)] 88:=by
    have h:=(Blk.new (w1.alloc (.cells #[.pointer (some ⟨w.heap.size+1+1+1,0,none⟩)] 85)) #[.chan (some c)] 88).alloc (.cells #[.string ⟨#[]⟩] 9)
    rw[World.size_alloc] at h;rw[hV0];exact h
  have p7:Blk V0 (w1.heap.size+1+1) #[.string ⟨#[]⟩] 9:=by
    have h:=Blk.new ((w1.alloc (.cells #[.pointer (some ⟨w.heap.size+1+1+1,0,none⟩)] 85)).alloc (.cells #[.chan (some c)] 88)) #[.string ⟨#[]⟩] 9
    rw[World.size_alloc,World.size_alloc] at h;rw[hV0];exact h
  clear hV0;have u4:Below W4.heap.size W4 V0:=hb1.out.trans (lv.mono z1)
  replace p2:=p2.below u4
  replace p3:=p3.below u4
  replace p4:=p4.below u4
  replace pb:=pb.below u4
  have lw:Below w.heap.size w V0:=l4.trans (u4.mono l4.size)
  have hcV:Ch V0 c []:=by
    obtain⟨s',r',hh⟩:=hch.out;exact⟨s',r',(lv.block c (Array.getElem?_eq_some_iff.1 hh).1).trans hh⟩
  have hcl:=hcV.lt;have hcw:c<w1.heap.size:=by
    obtain⟨s',r',hh⟩:=hch.out;exact(Array.getElem?_eq_some_iff.1 hh).1
  refine range_law rfl om (gf:=129) (lb:=#[.pointer (some ⟨w1.heap.size+1+1,0,none⟩)]) rfl trivial (enters_of Tryz.func129 (by kernel_rfl) rfl) (fun V=>Below V0.heap.size V0 V) (fun _=>False) (fun W o h=>below_put h om o) (fun W o h=>h) ?hit ?hdone ?hstop
  case hit =>
    intro fn hfn R hR W1 hrdy hbW hzW;refine(lines_nil 6 om _ (w1.heap.size+1+1) W1 ((hbW.cell (p:=⟨w1.heap.size+1+1,0,none⟩) p7.lt).trans (p7.cell 0))).mono ?_
    rintro e V ⟨hv,rfl⟩
    exact⟨hv,.inl ⟨hbW,hrdy⟩⟩
  case hstop=>intro V hX;exact hX.elim
  case hdone =>
    intro V hE hK;have g2:=p2.below hE;have g3:=p3.below hE;have g4:=p4.below hE;have g5:=p5.below hE;have g6:=p6.below hE;have c2:=g2.cell 0;have c3:=g3.cell 0;have c4:=g4.cell 0;have c5:=g5.cell 0;have c6:=g6.cell 0;have f2:=g2.frozen 0;have f3:=g3.frozen 0;have f4:=g4.frozen 0;have n1:¬(w1.heap.size=w.heap.size):=by omega
    have n2:¬(w1.heap.size=w.heap.size+1):=by omega
    have n3:¬(w1.heap.size=w.heap.size+1+1):=by omega
    have n4:¬(w1.heap.size+1=w.heap.size):=by omega
    have n5:¬(w1.heap.size+1=w.heap.size+1):=by omega
    have n6:¬(w1.heap.size+1=w.heap.size+1+1):=by omega
    gi_wp2
    gi_region
    obtain⟨U,hU⟩:∃ U,U=(((V.setCell ⟨w.heap.size,0,none⟩ (.pointer (some ⟨w.heap.size+1+1+1,0,none⟩))).setCell ⟨w.heap.size+1,0,none⟩ (.chan (some c))).setCell ⟨w.heap.size+1+1,0,none⟩ (.bool true)).drew:=⟨_,rfl⟩
    rw[<- hU];have hoth:∀ b,b≠w.heap.size->b≠w.heap.size+1->b≠w.heap.size+2->U.heap[b]?=V.heap[b]?:=fun b h1 h2 h3=>by
      rw[hU];exact(Below.heap_setCell _ _ _ _ (show b≠w.heap.size+1+1 by omega)).trans ((Below.heap_setCell _ _ _ _ h2).trans (Below.heap_setCell _ _ _ _ h1))
    have zU:U.heap.size=V.heap.size:=by rw[hU];simp[World.setCell]
    have G2:Blk U w.heap.size #[.pointer (some ⟨w.heap.size+1+1+1,0,none⟩)] 85:=by
      rw[hU];have h:=g2.set 0 (.pointer (some ⟨w.heap.size+1+1+1,0,none⟩))
      exact((show Blk _ _ #[_] _ from h).other (b:=w.heap.size+1) om _).other (b:=w.heap.size+1+1) om _
    have G3:Blk U (w.heap.size+1) #[.chan (some c)] 88:=by
      rw[hU];have h:=(g3.other (b:=w.heap.size) (i:=0) om (.pointer (some ⟨w.heap.size+1+1+1,0,none⟩))).set 0 (.chan (some c))
      exact(show Blk _ _ #[_] _ from h).other (b:=w.heap.size+1+1) om _
    have G4:Blk U (w.heap.size+2) #[.bool true] 4:=by
      rw[hU];exact((g4.other (b:=w.heap.size) (i:=0) om (.pointer (some ⟨w.heap.size+1+1+1,0,none⟩))).other (b:=w.heap.size+1) (i:=0) om (.chan (some c))).set 0 (.bool true)
    have GB:Blk U (w.heap.size+3) #[.slice none 0 0,.slice none 0 0,.slice none 0 0] 160:=(hoth _ om om om).trans (pb.below hE)
    have hK':U.heap[V0.heap.size]?=some (.deferred (some [])):=(hoth _ om om om).trans hK
    have hfin:RR (.returned (.tuple #[.pointer (some ⟨w.heap.size+1+1+1,0,none⟩),.agg #[.chan (some c)],.bool true])) (U.putObj V0.heap.size (.deferred none)):=by
      rw[hRR];refine⟨w.heap.size+3,c,rfl,GB.put om _,?_,by omega,by omega,?_⟩
      . obtain⟨s',r',hh⟩:=hcV;exact⟨s',r',(World.putObj_heap_other om).trans ((hoth c om om om).trans ((hE.block c hcl).trans hh))⟩
      . refine below_put ⟨?_,?_,?_,?_,fun b hb=>?_⟩ om _
        . rw[hU];exact hE.os.trans lw.os
        . rw[hU];exact hE.tape.trans lw.tape
        . rw[hU];exact hE.output.trans lw.output
        . rw[zU];exact Nat.le_trans lw.size hE.size
        . exact(hoth b om om om).trans ((hE.block b om).trans (lw.block b hb))
    have k2:=(G2.put (b:=V0.heap.size) om (.deferred none)).cell 0
    have k3:=(G3.put (b:=V0.heap.size) om (.deferred none)).cell 0
    have k4:=(G4.put (b:=V0.heap.size) om (.deferred none)).cell 0
    clear hU c2 c3 c4 c5 c6 f2 f3 f4 hRR G2 G3 G4 GB g2 g3 g4 g5 g6;gi_wp2
    refine⟨by simp,.inl ⟨_,_,rfl,run_takeDeferred hK',?_⟩⟩
    exact⟨_,by simp[results,Tryz.f47,go_sem,k2,k3,k4],hfin⟩
end Go.Proofs.YtjnhhnbgjjkkjaaGreatDoor
