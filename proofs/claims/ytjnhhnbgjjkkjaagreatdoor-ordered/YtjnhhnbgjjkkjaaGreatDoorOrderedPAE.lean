/-
  BkOx
-/
import Derived.Test.YtjnhhnbgjjkkjaaGreatDoorBasePAA
import Derived.Test.YtjnhhnbgjjkkjaaGreatDoorOrderedPAA
import Derived.Test.YtjnhhnbgjjkkjaaGreatDoorBasePBV
import Derived.Test.YtjnhhnbgjjkkjaaGreatDoorBasePBT
import Derived.Test.YtjnhhnbgjjkkjaaGreatDoorBasePAI
import Derived.Test.YtjnhhnbgjjkkjaaGreatDoorOrderedPAD
namespace Go.Proofs.YtjnhhnbgjjkkjaaGreatDoor
open Go.Conc Go.ChangeShapes Go.WideShapes Go.ChangeAt Go.RowKit
set_option linter.unusedVariables false
set_option linter.unusedSimpArgs false
theorem bs_injB {a b:List UInt8} (h:bs a=bs b):a=b:=by
  have:=congrArg (fun x:ByteArray=>x.data.toList) h
  simpa[bs_data] using this
theorem toldB_eq (s t:Bk):toldB s=toldB t ↔ toldS s=toldS t:=by
  unfold toldB;constructor
  . intro h;exact(List.map_inj_right (fun a b=>bs_injB)).1 h
  . intro h;rw[h]
def OW (w:World) (x k:Nat) (v:Value) (W:World):Prop:=∃ s K g,Ok3 s/\Frsh k s/\HB w K x s W/\(∀ b,K b->b<W.heap.size)/\K g/\RdG g W v (toldB s)
theorem OW.below {w:World} {x k:Nat} {v:Value} {W W':World} (h:OW w x k v W) (hb:Below W.heap.size W W'):OW w x k v W':=by
  obtain⟨s,K,g,a1,a2,a3,a4,a5,a6⟩:=h;exact⟨s,K,g,a1,a2,a3.below hb,fun b q=>Nat.lt_of_lt_of_le (a4 b q) hb.size,a5,a6.below hb⟩
def OD (w:World) (x k:Nat) (v:Value) (a:ByteArray) (W:World):Prop:=∃ s s' K g,Ok3 s/\Ok3 s'/\Frsh (k+1) s'/\HB w K x s' W/\(∀ b,K b->b<W.heap.size)/\K g/\RdG g W v (toldB s)/\okS a=decide (toldS s'≠toldS s)/\a.size<=200000
def OT (w:World) (x k:Nat) (v u:Value) (a:ByteArray) (W:World):Prop:=∃ s s' K g g',Ok3 s/\Ok3 s'/\Frsh (k+1) s'/\HB w K x s' W/\(∀ b,K b->b<W.heap.size)/\K g/\K g'/\RdG g W v (toldB s)/\RdG g' W u (toldB s')/\okS a=decide (toldS s'≠toldS s)/\a.size<=200000
theorem OT.below {w:World} {x k:Nat} {v u:Value} {a:ByteArray} {W W':World} (h:OT w x k v u a W) (hb:Below W.heap.size W W'):OT w x k v u a W':=by
  obtain⟨s,s',K,g,g',a1,a2,a3,a4,a5,a6,a7,a8,a9,a10,a11⟩:=h;exact⟨s,s',K,g,g',a1,a2,a3,a4.below hb,fun b q=>Nat.lt_of_lt_of_le (a5 b q) hb.size,a6,a7,a8.below hb,a9.below hb,a10,a11⟩
theorem ordered_walk (v:Value) (n:Nat) (f:Nat->SV) (w:World) (E:EnvT w) (hZ:10<=w.heap.size) (hS:StpsAt w v n f) (hn:n<=1048576) :
    Calls Tryz.prog 4 #[v] w fun e w'=>e=.returned (.bool true)/\Below w.heap.size w w':=by
  obtain⟨av,cv,rfl,_,_,h3⟩:=hS;have hE:∀ W,Below w.heap.size w W->EnvT W/\10<=W.heap.size:=fun W hW=>⟨E.mono hW,Nat.le_trans hZ hW.size⟩
  let FF:Nat->Prop:=fun _=>False
  have hFF:∀ (W:World) b,FF b->b<W.heap.size:=fun W b h=>h.elim
  refine ord_go w n hn av cv f
    (fun x W=>HB w FF x bk0 W)
    (OW w)
    (fun k t=>t=byt (tkT k)/\t.size<=1000)
    (fun k L=>∃ (q:Nat) (o r:List UInt8),L=byt (cmdL q (tkT k) o r)/\q<8/\(32:UInt8)∉o)
    (OD w) (OT w)
    (fun a b=>okS a=!b/\a.size<=200000)
    ?_ ?_ ?_ ?_ ?_ ?_ ?_ ?_ ?_ ?_ ?_ ?_ ?_ ?_
  . intro h0;obtain⟨b,o,rfl,hb,hst⟩:=h3 h0;exact⟨b,o,rfl,fun x k v wr ⟨s,K,g,a1,a2,a3,_⟩ i hi=>(hst i hi).below a3.low⟩
  . intro _;refine(opened_any w w (Below.refl _ _)).mono ?_
    rintro e w' ⟨x,d,rfl,h,_⟩
    exact⟨x,d,rfl,h⟩
  . rintro x W a3
    obtain⟨E',hZ'⟩:=hE W a3.low;refine(awake_any W E' hZ').mono ?_
    rintro e w' ⟨rfl,hb⟩
    exact⟨rfl,a3.below hb⟩
  . rintro x W a3
    refine(told_keep w FF x bk0 E hZ bk0_ok3.1 W a3 (hFF W)).mono ?_
    rintro e w' ⟨g,m,c,rfl,b1,b2,b3,b4⟩
    exact⟨_,m,c,rfl,bk0,_,g,bk0_ok3,fun y hy=>by simp[bk0] at hy,b1,b2,.inr rfl,b3⟩
  . rintro x k v W W' h hb
    exact h.below hb
  . intro W k hk;refine(name_any ⟨#[116]⟩ k W (om) (om) (by decide)).mono ?_
    rintro e w' ⟨rfl,hb⟩
    have hl:=b36_len k 4 (om)
    refine⟨_,rfl,⟨?_,?_⟩,hb⟩
    . show bs [116]++bs (b36 (k:Int).toNat)=_
      rw[bs_append];rfl
    . show (bs [116]++bs (b36 (k:Int).toNat)).size<=1000
      rw[bs_append,bs_size];simp at hl ⊢;omega
  . rintro x k v W t sv ⟨s,K,g,a1,a2,a3,a4,a5,a6⟩ ⟨rfl,hTz⟩ hsv
    refine(line_any w K x s E hZ a1.1.1 (byt (tkT k)) hTz sv.k sv.o sv.p sv.a sv.b hsv.k hsv.o hsv.p hsv.a hsv.b W a3).mono ?_
    rintro e w' ⟨q,o,r,rfl,hk,ho,hz,hb⟩
    rw[byt_data];exact⟨_,rfl,⟨q,o,r,rfl,hk,ho⟩,OW.below ⟨s,K,g,a1,a2,a3,a4,a5,a6⟩ hb⟩
  . rintro x k v W L ⟨s,K,g,a1,a2,a3,a4,a5,a6⟩ ⟨q,o,r,rfl,hk,ho⟩
    refine(hb_do w K x s _ E hZ a1.1.1 W a3 a4).mono ?_
    rintro e w' ⟨rfl,hb,hsame,hz⟩
    exact⟨_,rfl,s,_,K,g,a1,ok3_all a1 _,frsh_next a2 hk ho,hb,fun b q=>Nat.lt_of_lt_of_le (a4 b q) hz,a5,a6.same (hsame g a5) hz,or_step a1.1.2 a2 hk ho,(ans_short a1.1.1 a1.2 _).2⟩
  . rintro x k v a W ⟨s,s',K,g,a1,a2,a3,a4,a5,a6,a7,a8,a9⟩
    refine(told_keep w K x s' E hZ a2.1 W a4 a5).mono ?_
    rintro e w' ⟨g',m,c,rfl,b1,b2,b3,b4⟩
    exact⟨_,m,c,rfl,s,s',_,g,g',a1,a2,a3,b1,b2,.inl a6,.inr rfl,a7.below b4,b3,a8,a9⟩
  . rintro x k v u a W h
    have h':=h;obtain⟨s,s',K,g,g',a1,a2,a3,a4,_⟩:=h';refine(sure_any w K x s' E hZ a2.1.1 a2.1.2 W a4).mono ?_
    rintro e w' ⟨rfl,hb⟩
    exact⟨rfl,h.below hb⟩
  . rintro x k v u a W h
    have h':=h;obtain⟨s,s',K,g,g',a1,a2,a3,a4,a5,a6,a7,a8,a9,a10,a11⟩:=h';refine(alike_any (toldB s) (toldB s') v u W a8.1 a9.1 (told_short a1.1.1)).mono ?_
    rintro e w' ⟨rfl,hb⟩
    refine⟨_,rfl,⟨?_,a11⟩,h.below hb⟩
    rw[a10];by_cases q:toldS s'=toldS s
    . have q2:toldB s=toldB s':=(toldB_eq s s').2 q.symm
      simp[q,q2]
    . have q2:¬toldB s=toldB s':=fun e=>q ((toldB_eq s s').1 e).symm
      simp[q,q2]
  . rintro a b W ⟨h1,h2⟩
    have:=fine_ok a W (om)
    rw[h1] at this;exact this
  . rintro x k v u a W W' h hb
    obtain⟨s,s',K,g,g',a1,a2,a3,a4,a5,a6,a7,a8,a9,a10,a11⟩:=h.below hb;exact⟨s',K,g',a2,a3,a4,a5,a7,a9⟩
  . rintro x k v W ⟨s,K,g,a1,a2,a3,_⟩
    exact a3.low
end Go.Proofs.YtjnhhnbgjjkkjaaGreatDoor
