/-
  BkAi
-/
import Derived.Test.YtjnhhnbgjjkkjaaGreatDoorBasePAA
import Derived.Test.YtjnhhnbgjjkkjaaGreatDoorAgainPAA
import Derived.Test.YtjnhhnbgjjkkjaaGreatDoorBasePBV
import Derived.Test.YtjnhhnbgjjkkjaaGreatDoorBasePBT
import Derived.Test.YtjnhhnbgjjkkjaaGreatDoorBasePAI
namespace Go.Proofs.YtjnhhnbgjjkkjaaGreatDoor
open Go.Conc Go.ChangeShapes Go.WideShapes Go.ChangeAt Go.RowKit
set_option linter.unusedVariables false
set_option linter.unusedSimpArgs false
theorem ext_last (L:List UInt8):(byt L).extract 0 ((byt L).size-1)=byt L.dropLast:=by
  have e:(byt L).size=L.length:=arr_size L
  rw[ext_bs,byt_data,e,List.drop_zero,List.dropLast_eq_take];rfl
theorem again_walk (v:Value) (n:Nat) (f:Nat->SV) (so:SV) (ot:Int) (w:World) (E:EnvT w) (hZ:10<=w.heap.size) (hS:StpsAt w v n f) (hn:n<=1048576) (hso:SOk so) (hot:i64ok ot) :
    Calls Tryz.prog 7 #[v,.agg #[.int .i64 so.k,.int .i64 so.o,.int .i64 so.p,.int .i64 so.a,.int .i64 so.b],.int .i64 ot] w fun e w'=>e=.returned (.bool true)/\Below w.heap.size w w':=by
  obtain⟨av,cv,rfl,_,_,h3⟩:=hS;have hpk:=pk_bd ot 8 (om)
  obtain⟨w1,hw1⟩:∃ w1,w1=w.alloc (.cells #[.int .i64 so.k,.int .i64 so.o,.int .i64 so.p,.int .i64 so.a,.int .i64 so.b] 37):=⟨_,rfl⟩
  have hb1:Below w.heap.size w w1:=by rw[hw1];exact Below.alloc (Below.refl _ _) (Nat.le_refl _) _
  have hk1:Blk w1 w.heap.size #[.int .i64 so.k,.int .i64 so.o,.int .i64 so.p,.int .i64 so.a,.int .i64 so.b] 37:=by rw[hw1];exact Blk.new _ _ _
  have dn:∀ {W:World},Below w1.heap.size w1 W->Below w.heap.size w W:=fun h=>hb1.trans (h.mono hb1.size)
  replace E:EnvT w1:=E.mono hb1
  replace hZ:10<=w1.heap.size:=Nat.le_trans hZ hb1.size
  have hE:∀ W,Below w1.heap.size w1 W->EnvT W/\10<=W.heap.size:=fun W hW=>⟨E.mono hW,Nat.le_trans hZ hW.size⟩
  have hdv:i64ok (ot.tdiv 8):=by
    unfold i64ok at *
    rcases Int.lt_or_le ot 0 with q|q
    . have e:ot.tdiv 8=-((-ot) / 8):=by
        have h1:ot=-(-ot):=by omega
        rw[h1,Int.neg_tdiv,Int.tdiv_eq_ediv_of_nonneg (om),Int.neg_neg]
      omega
    . rw[Int.tdiv_eq_ediv_of_nonneg q];omega
  let FF:Nat->Prop:=fun _=>False
  have hFF:∀ (W:World) b,FF b->b<W.heap.size:=fun W b h=>h.elim
  refine again_go w n hn av cv f so ot (ot.tdiv 8) (by unfold wrap64;unfold i64ok at hdv;omega) (pk ot 8).toNat (om)
    (fun x W=>∃ s,Ok3 s/\NoAg s/\HB w1 FF x s W)
    (fun t=>∃ T:List UInt8,t=byt T/\(32:UInt8)∉T/\T≠agT/\t.size<=1000)
    (fun L=>∃ (k:Nat) (T o r:List UInt8),L=byt (cmdL k T o r)/\k<8/\(32:UInt8)∉T/\(32:UInt8)∉o/\T≠agT)
    (fun L=>∃ (k:Nat) (o r:List UInt8),L=byt (cmdL k agT o r)/\k<8/\(32:UInt8)∉o)
    (fun t=>∃ T:List UInt8,t=byt T/\(32:UInt8)∉T/\T≠agT/\t.size<=1000)
    (fun L=>∃ (k:Nat) (T o r:List UInt8),L=byt (cmdL k T o r)/\k<8/\(32:UInt8)∉T/\(32:UInt8)∉o/\T≠agT)
    (fun a g=>okS a=g/\a.size<=2097152)
    (fun x L a W=>∃ s,Ok3 s/\HB w1 FF x s W/\(doAll s L).2=a)
    (fun x L a j W=>∃ s,Ok3 s/\HB w1 FF x s W/\Kept L a j s/\∃ (k:Nat) (o r:List UInt8),L=byt (cmdL k agT o r)/\k<8/\(32:UInt8)∉o/\∃ l,rdLine (cmdL k agT o r)=some l)
    (fun x L a v W=>∃ s K g,Ok3 s/\HB w1 K x s W/\(∀ b,K b->b<W.heap.size)/\K g/\RdG g W v (toldB s)/\(∃ j,Kept L a j s)/\∃ (k:Nat) (o r:List UInt8),L=byt (cmdL k agT o r)/\k<8/\(32:UInt8)∉o/\∃ l,rdLine (cmdL k agT o r)=some l)
    (fun v u W=>∃ A,Rd 1 encS ⟨#[]⟩ W v A/\Rd 1 encS ⟨#[]⟩ W u A/\A.length<=1000000/\Below w.heap.size w W)
    ?_ ?_ ?_ ?_ ?_ ?_ ?_ ?_ ?_ ?_ ?_ ?_ ?_ ?_ ?_ ?_ ?_ ?_ ?_ ?_ ?_ ?_ ?_
  . intro h0;obtain⟨b,o,rfl,hb,hst⟩:=h3 h0;exact⟨b,o,rfl,fun x wr ⟨s,_,_,hs⟩ i hi=>by
      exact(hst i hi).below (dn hs.low)⟩
  . rintro x wr ⟨s,_,_,hs⟩
    have hk:=hk1.below hs.low;exact⟨hk.cell 0,hk.cell 1,hk.cell 2,hk.cell 3,hk.cell 4,hso⟩
  . intro _;rw[<- hw1];refine(opened_any w1 w1 (Below.refl _ _)).mono ?_
    rintro e w' ⟨x,d,rfl,h,_⟩
    exact⟨x,d,rfl,bk0,bk0_ok3,fun y hy=>by simp[bk0] at hy,h⟩
  . rintro x W ⟨s,a1,a2,a3⟩
    obtain⟨E',hZ'⟩:=hE W a3.low;refine(awake_any W E' hZ').mono ?_
    rintro e w' ⟨rfl,hb⟩
    exact⟨rfl,s,a1,a2,a3.below hb⟩
  . rintro x W W' ⟨s,a1,a2,a3⟩ hb
    exact⟨s,a1,a2,a3.below hb⟩
  . rintro x W k hk _
    refine(name_any ⟨#[116]⟩ k W (om) (om) (by decide)).mono ?_
    rintro e w' ⟨rfl,hb⟩
    have hl:=b36_len k 4 (om)
    refine⟨_,rfl,⟨116::b36 k,?_,tkT_blank k,?_,?_⟩,hb⟩
    . show bs [116]++bs (b36 (k:Int).toNat)=_
      rw[bs_append];rfl
    . intro q;have:=(List.cons.inj q).1;simp at this
    . show (bs [116]++bs (b36 (k:Int).toNat)).size<=1000
      rw[bs_append,bs_size];simp at hl ⊢;omega
  . rintro x W t sv ⟨s,a1,a2,a3⟩ ⟨T,rfl,hT,hTa,hTz⟩ hsv
    refine(line_any w1 FF x s E hZ a1.1.1 (byt T) hTz sv.k sv.o sv.p sv.a sv.b hsv.k hsv.o hsv.p hsv.a hsv.b W a3).mono ?_
    rintro e w' ⟨k,o,r,rfl,hk,ho,hz,hb⟩
    rw[byt_data];exact⟨_,rfl,⟨k,T,o,r,rfl,hk,hT,ho,hTa⟩,s,a1,a2,a3.below hb⟩
  . rintro x W L ⟨s,a1,a2,a3⟩ ⟨k,T,o,r,rfl,hk,hT,ho,hTa⟩
    refine(hb_do w1 FF x s _ E hZ a1.1.1 W a3 (hFF W)).mono ?_
    rintro e w' ⟨rfl,hb,_,_⟩
    exact⟨_,rfl,_,ok3_all a1 _,noAg_next a2 hk hT ho hTa,hb⟩
  . rintro x W ⟨s,a1,a2,a3⟩
    refine(line_any w1 FF x s E hZ a1.1.1 ⟨#[97,103,97,105,110]⟩ (by decide) so.k so.o so.p so.a so.b hso.k hso.o hso.p hso.a hso.b W a3).mono ?_
    rintro e w' ⟨k,o,r,rfl,hk,ho,hz,hb⟩
    refine⟨_,rfl,⟨k,o,r,rfl,hk,ho⟩,?_,hz,s,a1,a2,a3.below hb⟩
    show 1<=(byt (cmdL k agT o r)).size
    rw[show (byt (cmdL k agT o r)).size=(cmdL k agT o r).length from arr_size _];unfold cmdL;simp;omega
  . rintro x W L ⟨s,a1,a2,a3⟩ ⟨k,o,r,rfl,hk,ho⟩
    refine(hb_do w1 FF x s _ E hZ a1.1.1 W a3 (hFF W)).mono ?_
    rintro e w' ⟨rfl,hb,_,_⟩
    have hsz:=(ans_short a1.1.1 a1.2 (byt (cmdL k agT o r))).2
    have hk3:=ok3_all a1 (byt (cmdL k agT o r))
    rcases ag_first a1.1.2 a2 hk ho (r:=r) with⟨b1,b2⟩|⟨b1,b2,b3⟩
    . refine⟨_,false,rfl,⟨b1,by omega⟩,.inl ⟨rfl,_,hk3,hb,?_⟩⟩
      rw[b2]
    . exact⟨_,true,rfl,⟨b1,by omega⟩,.inr ⟨rfl,_,hk3,hb,b2,k,o,r,rfl,hk,ho,b3⟩⟩
  . rintro a g W ⟨rfl,hz⟩
    exact fine_ok a W hz
  . rintro x L a W W' ⟨s,a1,a2,a3⟩ hb
    exact⟨s,a1,a2.below hb,a3⟩
  . rintro x L a k W W' ⟨s,a1,a2,a3⟩ hb
    exact⟨s,a1,a2.below hb,a3⟩
  . rintro x L a W ⟨s,a1,a2,a3⟩
    refine(hb_do w1 FF x s _ E hZ a1.1.1 W a2 (hFF W)).mono ?_
    rintro e w' ⟨rfl,hb,_,_⟩
    exact⟨by rw[a3],dn hb.low⟩
  . intro W;refine(pick_any ot 8 W hot (om) (om)).mono ?_
    rintro e w' ⟨rfl,rfl⟩
    exact⟨by rw[Int.toNat_of_nonneg hpk.1],rfl⟩
  . intro W k hk;refine(name_any ⟨#[117]⟩ k W (om) (om) (by decide)).mono ?_
    rintro e w' ⟨rfl,hb⟩
    have hl:=b36_len k 4 (om)
    refine⟨_,rfl,⟨117::b36 k,?_,(tkT_no 117 k).resolve_right (by decide),?_,?_⟩,hb⟩
    . show bs [117]++bs (b36 (k:Int).toNat)=_
      rw[bs_append];rfl
    . intro q;have:=(List.cons.inj q).1;simp at this
    . show (bs [117]++bs (b36 (k:Int).toNat)).size<=1000
      rw[bs_append,bs_size];simp at hl ⊢;omega
  . rintro x L a W t k ⟨s,a1,a2,a3,a4⟩ ⟨T,rfl,hT,hTa,hTz⟩ hk
    refine(line_any w1 FF x s E hZ a1.1.1 (byt T) hTz 5 0 k 0 (ot.tdiv 8) (om) (om) (om) (om) hdv W a2).mono ?_
    rintro e w' ⟨k',o,r,rfl,hk',ho,hz,hb⟩
    rw[byt_data];exact⟨_,rfl,⟨k',T,o,r,rfl,hk',hT,ho,hTa⟩,s,a1,a2.below hb,a3,a4⟩
  . rintro x L a W M k ⟨s,a1,a2,a3,a4⟩ hk ⟨k',T,o,r,rfl,hk',hT,ho,hTa⟩
    refine(hb_do w1 FF x s _ E hZ a1.1.1 W a2 (hFF W)).mono ?_
    rintro e w' ⟨rfl,hb,_,_⟩
    have hsz:=(ans_short a1.1.1 a1.2 (byt (cmdL k' T o r))).2
    exact⟨_,_,rfl,⟨rfl,by omega⟩,_,ok3_all a1 _,hb,kept_next a3 a1.1.1.t hk hk' hT ho hTa,a4⟩
  . rintro x L a W k ⟨s,a1,a2,a3,a4⟩
    refine(told_keep w1 FF x s E hZ a1.1 W a2 (hFF W)).mono ?_
    rintro e w' ⟨g,m,c,rfl,b1,b2,b3,b4⟩
    exact⟨_,m,c,rfl,s,_,g,a1,b1,b2,.inr rfl,b3,⟨k,a3⟩,a4⟩
  . rintro x L a v W ⟨s,K,g,a1,a2,a3,a4,a5,⟨j,a6⟩,k,o,r,rfl,hk,ho,hl⟩
    refine(hb_do w1 K x s _ E hZ a1.1.1 W a2 a3).mono ?_
    rintro e w' ⟨rfl,hb,hsame,hz⟩
    have ek:=kept_again hk ho a6 hl;rw[ek] at hb ⊢;exact⟨rfl,s,K,g,a1,hb,fun b q=>Nat.lt_of_lt_of_le (a3 b q) hz,a4,a5.same (hsame g a4) hz,⟨j,a6⟩,k,o,r,rfl,hk,ho,hl⟩
  . rintro x L a v W ⟨s,K,g,a1,a2,a3,a4,a5,⟨j,a6⟩,k,o,r,rfl,hk,ho,hl⟩
    rw[ext_last];refine(hb_do w1 K x s _ E hZ a1.1.1 W a2 a3).mono ?_
    rintro e w' ⟨rfl,hb,hsame,hz⟩
    rcases kept_cut hk ho a6 with ek|ek
    . rw[ek] at hb ⊢;exact⟨_,rfl,.inl (by rw[Lib.toList_data];rfl),s,K,g,a1,hb,fun b q=>Nat.lt_of_lt_of_le (a3 b q) hz,a4,a5.same (hsame g a4) hz,⟨j,a6⟩,k,o,r,rfl,hk,ho,hl⟩
    . rw[ek] at hb ⊢;exact⟨_,rfl,.inr (by rw[Lib.toList_data];rfl),s,K,g,a1,hb,fun b q=>Nat.lt_of_lt_of_le (a3 b q) hz,a4,a5.same (hsame g a4) hz,⟨j,a6⟩,k,o,r,rfl,hk,ho,hl⟩
  . rintro x L a v W ⟨s,K,g,a1,a2,a3,a4,a5,a6,_⟩
    refine(told_keep w1 K x s E hZ a1.1 W a2 a3).mono ?_
    rintro e w' ⟨g',m,c,rfl,b1,b2,b3,b4⟩
    exact⟨_,m,c,rfl,toldB s,(a5.below b4).1,b3.1,told_short a1.1.1,dn b1.low⟩
  . rintro v u W ⟨A,a1,a2,a3,a4⟩
    refine(alike_any A A v u W a1 a2 a3).mono ?_
    rintro e w' ⟨rfl,hb⟩
    exact⟨by simp,a4.trans (hb.mono a4.size)⟩
end Go.Proofs.YtjnhhnbgjjkkjaaGreatDoor
