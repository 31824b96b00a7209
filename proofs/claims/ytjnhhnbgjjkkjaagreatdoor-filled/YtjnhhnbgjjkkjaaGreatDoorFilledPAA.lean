/-
  BkFw, BkFx, BkFz, FilledWalk
-/
import Derived.Test.YtjnhhnbgjjkkjaaGreatDoorBasePAA
import Derived.Test.YtjnhhnbgjjkkjaaGreatDoorBasePBS
import Derived.Test.YtjnhhnbgjjkkjaaGreatDoorBasePAE
import Derived.Test.YtjnhhnbgjjkkjaaGreatDoorBasePAI
import Derived.Test.YtjnhhnbgjjkkjaaGreatDoorBasePAH
namespace Go.Proofs.YtjnhhnbgjjkkjaaGreatDoor
open Go.Conc Go.ChangeShapes Go.WideShapes Go.ChangeAt Go.RowKit
set_option linter.unusedVariables false
set_option linter.unusedSimpArgs false
set_option maxRecDepth 100000 in
set_option maxHeartbeats 800000 in
theorem filled_go (bits more which:Int) (n d fit k:Nat) (m:Int) (SZ:Int) (D:Int->ByteArray) (AA:Int->ByteArray) (st:Nat->Bk) (sF sG sH:Bk) (w:World) (hn:22<=n/\n<=30) (hnm:(n:Int)<=m) (hm2:m<=32) (hd:(n:Int)+(d:Int)=m)
    (hp1:pk bits 9=(n:Int)-22) (hp2:pk more 5=d) (hp3:pk which fit=k) (hk:k<fit) (hf:fit<=16) (hf1:1<=fit)
    (hD:∀ j,(D j).size<=3) (hA:∀ a,(AA a).size<=15) (hsh:wrap64 ((2:Int)^(m.toNat-n))=(fit:Int)) (hS0:0<SZ) (hS1:∀ i:Nat,i<fit->(i:Int)*SZ<1024)
    (HO:Hid (Calls Tryz.prog 11 #[] w fun e w'=>∃ x d,e=.returned (.tuple #[.pointer (some ⟨x,0,none⟩),.pointer (some ⟨d,0,none⟩)])/\HB w (fun _=>False) x bk0 w'/\Below w.heap.size w w'))
    (HP:Hid (∀ c k W,(k=9\/k=5\/k=fit)->(c=bits\/c=more\/c=which)->Calls Tryz.prog 20 #[.int .i64 c,.int .i64 k] W fun e w'=>e=.returned (.int .i64 (pk c k))/\Below W.heap.size W w'))
    (HG:Hid (∀ (j:Int) W,0<=j->j<=32->Calls Tryz.prog 21 #[.int .i64 j] W fun e w'=>e=.returned (.string (D j))/\Below W.heap.size W w'))
    (HZ:Hid (∀ W,Calls Tryz.prog 23 #[.int .i64 m] W fun e w'=>e=.returned (.int .i64 SZ)/\Below W.heap.size W w'))
    (HA:Hid (∀ (a:Int) W,0<=a->a<4294967296->Calls Tryz.prog 22 #[.int .u32 a] W fun e w'=>e=.returned (.string (AA a))/\Below W.heap.size W w'))
    (H0:Hid (∀ x W,HB w (fun _=>False) x bk0 W->Calls Tryz.prog 16 #[.pointer (some ⟨x,0,none⟩),.string ((⟨#[80,79,79,76,32,112,32,97,110,110,32]⟩:ByteArray)++((⟨#[49,48,46,48,46,48,46,48,47]⟩:ByteArray)++D n))] W fun e w'=>e=.returned (.string (⟨#[79,75]⟩:ByteArray))/\HB w (fun _=>False) x (st 0) w'))
    (HN:Hid (∀ (i:Nat) (hi:i<fit) x W,HB w (fun _=>False) x (st i) W->Calls Tryz.prog 16 #[.pointer (some ⟨x,0,none⟩),.string ((⟨#[78,69,84,32,110]⟩:ByteArray)++D i++(⟨#[32,97,110,110,32]⟩:ByteArray)++((⟨#[49,48,46,48,46,48,46,48,47]⟩:ByteArray)++D n)++(⟨#[32]⟩:ByteArray)++D m)] W fun e w'=>e=.returned (.string ((⟨#[79,75,32]⟩:ByteArray)++AA (167772160+(i:Int)*SZ)++(⟨#[47]⟩:ByteArray)++D m))/\HB w (fun _=>False) x (st (i+1)) w'))
    (HF:Hid (∀ x W,HB w (fun _=>False) x (st fit) W->Calls Tryz.prog 16 #[.pointer (some ⟨x,0,none⟩),.string ((⟨#[78,69,84,32,102,32,97,110,110,32]⟩:ByteArray)++((⟨#[49,48,46,48,46,48,46,48,47]⟩:ByteArray)++D n)++(⟨#[32]⟩:ByteArray)++D m)] W fun e w'=>e=.returned (.string (⟨#[69,82,82,32,70,85,76,76]⟩:ByteArray))/\HB w (fun _=>False) x sF w'))
    (HR:Hid (∀ x W,HB w (fun _=>False) x sF W->Calls Tryz.prog 16 #[.pointer (some ⟨x,0,none⟩),.string ((⟨#[70,82,69,69,32,103,32,97,110,110,32]⟩:ByteArray)++(AA (167772160+(k:Int)*SZ)++(⟨#[47]⟩:ByteArray)++D m))] W fun e w'=>e=.returned (.string (⟨#[79,75]⟩:ByteArray))/\HB w (fun _=>False) x sG w'))
    (HH:Hid (∀ x W,HB w (fun _=>False) x sG W->Calls Tryz.prog 16 #[.pointer (some ⟨x,0,none⟩),.string ((⟨#[78,69,84,32,104,32,98,111,98,32]⟩:ByteArray)++((⟨#[49,48,46,48,46,48,46,48,47]⟩:ByteArray)++D n)++(⟨#[32]⟩:ByteArray)++D m)] W fun e w'=>e=.returned (.string ((⟨#[79,75,32]⟩:ByteArray)++(AA (167772160+(k:Int)*SZ)++(⟨#[47]⟩:ByteArray)++D m)))/\HB w (fun _=>False) x sH w'))
    (HI:Hid (∀ x W,HB w (fun _=>False) x sH W->Calls Tryz.prog 16 #[.pointer (some ⟨x,0,none⟩),.string ((⟨#[78,69,84,32,105,32,98,111,98,32]⟩:ByteArray)++((⟨#[49,48,46,48,46,48,46,48,47]⟩:ByteArray)++D n)++(⟨#[32]⟩:ByteArray)++D m)] W fun e w'=>e=.returned (.string (⟨#[69,82,82,32,70,85,76,76]⟩:ByteArray))/\HB w (fun _=>False) x sH w'))
 :
    Calls Tryz.prog 5 #[.int .i64 bits,.int .i64 more,.int .i64 which] w fun e w'=>e=.returned (.bool true)/\Below w.heap.size w w':=by
  have hDn:=hD n;have hDm:=hD m;have e1:(22:Int)+((n:Int)-22)=n:=by omega
  have e2:¬(32:Int)<m:=by omega
  have e3:(n:Int)<=m:=by omega
  go_enter Tryz.func5,Tryz.ntmps5
  go_wp2_with (first|(go_at_call 11;refine HO.out.mono ?_;rintro e wN ⟨x,dd,rfl,HBC,hq⟩;replace HBC:Hid (HB w (fun _=>False) x bk0 wN):=HBC;clear hq)|(go_at_call 20;refine(HP.out _ _ _ (by simp) (by simp)).mono ?_;rintro e wN ⟨rfl,hq⟩;replace HBC:Hid (HB w (fun _=>False) x _ wN):=HB.below (by repeat' (first|with_reducible exact HBC.out|with_reducible apply HB.drew|with_reducible apply HB.alloc)) hq;clear hq)|(go_at_call 21;refine(HG.out _ _ (om) (om)).mono ?_;rintro e wN ⟨rfl,hq⟩;replace HBC:Hid (HB w (fun _=>False) x _ wN):=HB.below (by repeat' (first|with_reducible exact HBC.out|with_reducible apply HB.drew|with_reducible apply HB.alloc)) hq;clear hq)|(go_at_call 16;have hst:HB w (fun _=>False) x bk0 wN:=HBC.out;clear hst;refine(H0.out x _ (by repeat' (first|with_reducible exact HBC.out|with_reducible apply HB.drew|with_reducible apply HB.alloc))).mono ?_;rintro e wN ⟨rfl,hq⟩;replace HBC:Hid (HB w (fun _=>False) x _ wN):=hq;clear hq))
  rw[hsh];clear e1 e2 e3 hd hp1 hp2 hsh;go_loopw [14,15] (fun ok i wr=>∃ j:Nat,j<=fit/\ok=.bool true/\i=.int .i64 j/\Hid (HB w (fun _=>False) x (st j) wr)) (fun _ i _=>(fit-intOf i).toNat)
  case atStart=>exact⟨0,by omega,rfl,rfl,HBC.out⟩
  case round =>
    clear HBC;obtain⟨j,hjf,rfl,rfl,HBC⟩:=hrel;by_cases hlt:j<fit
    . have hlt2:(j:Int)<(fit:Int):=by omega
      obtain⟨p,hp⟩:∃ p:Int,p=(j:Int)*SZ:=⟨_,rfl⟩
      have hp0:0<=p:=by rw[hp];exact Int.mul_nonneg (om) (om)
      have hp9:p<1024:=by rw[hp];exact hS1 j hlt
      have hmul:(j:Int)*SZ=p:=hp.symm
      have HNj:=HN.out j hlt;rw[hmul] at HNj;replace HNj:Hid _:=HNj;have hDj:=hD j;have hAj:=hA (167772160+p)
      clear hp;go_wp2_with (first|(go_at_call 21;refine(HG.out _ _ (om) (om)).mono ?_;rintro e wN ⟨rfl,hq⟩;replace HBC:Hid (HB w (fun _=>False) x _ wN):=HB.below (by repeat' (first|with_reducible exact HBC.out|with_reducible apply HB.drew|with_reducible apply HB.alloc)) hq;clear hq)|(go_at_call 23;refine(HZ.out _).mono ?_;rintro e wN ⟨rfl,hq⟩;replace HBC:Hid (HB w (fun _=>False) x _ wN):=HB.below (by repeat' (first|with_reducible exact HBC.out|with_reducible apply HB.drew|with_reducible apply HB.alloc)) hq;clear hq)|(go_at_call 22;refine(HA.out _ _ (om) (om)).mono ?_;rintro e wN ⟨rfl,hq⟩;replace HBC:Hid (HB w (fun _=>False) x _ wN):=HB.below (by repeat' (first|with_reducible exact HBC.out|with_reducible apply HB.drew|with_reducible apply HB.alloc)) hq;clear hq)|(go_at_call 16;have hst:HB w (fun _=>False) x (st j) wN:=HBC.out;clear hst;refine(HNj.out x _ (by repeat' (first|with_reducible exact HBC.out|with_reducible apply HB.drew|with_reducible apply HB.alloc))).mono ?_;rintro e wN ⟨rfl,hq⟩;replace HBC:Hid (HB w (fun _=>False) x _ wN):=hq;clear hq))
      go_roundw
      case rel=>exact⟨j+1,by omega,rfl,by simp,HBC.out⟩
      case measure=>simp[intOf];omega
    . obtain rfl:j=fit:=by omega
      have hlt2:¬(j:Int)<(j:Int):=by omega
      obtain⟨p,hp⟩:∃ p:Int,p=(k:Int)*SZ:=⟨_,rfl⟩
      have hp0:0<=p:=by rw[hp];exact Int.mul_nonneg (om) (om)
      have hp9:p<1024:=by rw[hp];exact hS1 k hk
      have hmul:(k:Int)*SZ=p:=hp.symm
      rw[hmul] at HR HH;have hAj:=hA (167772160+p)
      clear hp;go_wp2_with (first|(go_at_call 21;refine(HG.out _ _ (om) (om)).mono ?_;rintro e wN ⟨rfl,hq⟩;replace HBC:Hid (HB w (fun _=>False) x _ wN):=HB.below (by repeat' (first|with_reducible exact HBC.out|with_reducible apply HB.drew|with_reducible apply HB.alloc)) hq;clear hq)|(go_at_call 23;refine(HZ.out _).mono ?_;rintro e wN ⟨rfl,hq⟩;replace HBC:Hid (HB w (fun _=>False) x _ wN):=HB.below (by repeat' (first|with_reducible exact HBC.out|with_reducible apply HB.drew|with_reducible apply HB.alloc)) hq;clear hq)|(go_at_call 20;refine(HP.out _ _ _ (by simp) (by simp)).mono ?_;rintro e wN ⟨rfl,hq⟩;replace HBC:Hid (HB w (fun _=>False) x _ wN):=HB.below (by repeat' (first|with_reducible exact HBC.out|with_reducible apply HB.drew|with_reducible apply HB.alloc)) hq;clear hq)|(go_at_call 22;refine(HA.out _ _ (om) (om)).mono ?_;rintro e wN ⟨rfl,hq⟩;replace HBC:Hid (HB w (fun _=>False) x _ wN):=HB.below (by repeat' (first|with_reducible exact HBC.out|with_reducible apply HB.drew|with_reducible apply HB.alloc)) hq;clear hq)|(go_at_call 16;have hst:HB w (fun _=>False) x (st j) wN:=HBC.out;clear hst;refine(HF.out x _ (by repeat' (first|with_reducible exact HBC.out|with_reducible apply HB.drew|with_reducible apply HB.alloc))).mono ?_;rintro e wN ⟨rfl,hq⟩;replace HBC:Hid (HB w (fun _=>False) x _ wN):=hq;clear hq)|(go_at_call 16;have hst:HB w (fun _=>False) x sF wN:=HBC.out;clear hst;refine(HR.out x _ (by repeat' (first|with_reducible exact HBC.out|with_reducible apply HB.drew|with_reducible apply HB.alloc))).mono ?_;rintro e wN ⟨rfl,hq⟩;replace HBC:Hid (HB w (fun _=>False) x _ wN):=hq;clear hq)|(go_at_call 16;have hst:HB w (fun _=>False) x sG wN:=HBC.out;clear hst;refine(HH.out x _ (by repeat' (first|with_reducible exact HBC.out|with_reducible apply HB.drew|with_reducible apply HB.alloc))).mono ?_;rintro e wN ⟨rfl,hq⟩;replace HBC:Hid (HB w (fun _=>False) x _ wN):=hq;clear hq)|(go_at_call 16;have hst:HB w (fun _=>False) x sH wN:=HBC.out;clear hst;refine(HI.out x _ (by repeat' (first|with_reducible exact HBC.out|with_reducible apply HB.drew|with_reducible apply HB.alloc))).mono ?_;rintro e wN ⟨rfl,hq⟩;replace HBC:Hid (HB w (fun _=>False) x _ wN):=hq;clear hq))
      go_ret;exact⟨rfl,HBC.out.low⟩
set_option maxRecDepth 100000 in
set_option maxHeartbeats 800000 in
theorem filled_go32 (bits more which:Int) (n d fit k:Nat) (q:Int) (SZ:Int) (D:Int->ByteArray) (AA:Int->ByteArray) (st:Nat->Bk) (sF sG sH:Bk) (w:World) (hn:22<=n/\n<=30) (hnm:(n:Int)<=32) (hm2:32<=32) (hd:(n:Int)+(d:Int)=q) (hq:32<q) (hq2:q<=40)
    (hp1:pk bits 9=(n:Int)-22) (hp2:pk more 5=d) (hp3:pk which fit=k) (hk:k<fit) (hf:fit<=16) (hf1:1<=fit)
    (hD:∀ j,(D j).size<=3) (hA:∀ a,(AA a).size<=15) (hsh:wrap64 ((2:Int)^(32-n))=(fit:Int)) (hS0:0<SZ) (hS1:∀ i:Nat,i<fit->(i:Int)*SZ<1024)
    (HO:Hid (Calls Tryz.prog 11 #[] w fun e w'=>∃ x d,e=.returned (.tuple #[.pointer (some ⟨x,0,none⟩),.pointer (some ⟨d,0,none⟩)])/\HB w (fun _=>False) x bk0 w'/\Below w.heap.size w w'))
    (HP:Hid (∀ c k W,(k=9\/k=5\/k=fit)->(c=bits\/c=more\/c=which)->Calls Tryz.prog 20 #[.int .i64 c,.int .i64 k] W fun e w'=>e=.returned (.int .i64 (pk c k))/\Below W.heap.size W w'))
    (HG:Hid (∀ (j:Int) W,0<=j->j<=32->Calls Tryz.prog 21 #[.int .i64 j] W fun e w'=>e=.returned (.string (D j))/\Below W.heap.size W w'))
    (HZ:Hid (∀ W,Calls Tryz.prog 23 #[.int .i64 32] W fun e w'=>e=.returned (.int .i64 SZ)/\Below W.heap.size W w'))
    (HA:Hid (∀ (a:Int) W,0<=a->a<4294967296->Calls Tryz.prog 22 #[.int .u32 a] W fun e w'=>e=.returned (.string (AA a))/\Below W.heap.size W w'))
    (H0:Hid (∀ x W,HB w (fun _=>False) x bk0 W->Calls Tryz.prog 16 #[.pointer (some ⟨x,0,none⟩),.string ((⟨#[80,79,79,76,32,112,32,97,110,110,32]⟩:ByteArray)++((⟨#[49,48,46,48,46,48,46,48,47]⟩:ByteArray)++D n))] W fun e w'=>e=.returned (.string (⟨#[79,75]⟩:ByteArray))/\HB w (fun _=>False) x (st 0) w'))
    (HN:Hid (∀ (i:Nat) (hi:i<fit) x W,HB w (fun _=>False) x (st i) W->Calls Tryz.prog 16 #[.pointer (some ⟨x,0,none⟩),.string ((⟨#[78,69,84,32,110]⟩:ByteArray)++D i++(⟨#[32,97,110,110,32]⟩:ByteArray)++((⟨#[49,48,46,48,46,48,46,48,47]⟩:ByteArray)++D n)++(⟨#[32]⟩:ByteArray)++D 32)] W fun e w'=>e=.returned (.string ((⟨#[79,75,32]⟩:ByteArray)++AA (167772160+(i:Int)*SZ)++(⟨#[47]⟩:ByteArray)++D 32))/\HB w (fun _=>False) x (st (i+1)) w'))
    (HF:Hid (∀ x W,HB w (fun _=>False) x (st fit) W->Calls Tryz.prog 16 #[.pointer (some ⟨x,0,none⟩),.string ((⟨#[78,69,84,32,102,32,97,110,110,32]⟩:ByteArray)++((⟨#[49,48,46,48,46,48,46,48,47]⟩:ByteArray)++D n)++(⟨#[32]⟩:ByteArray)++D 32)] W fun e w'=>e=.returned (.string (⟨#[69,82,82,32,70,85,76,76]⟩:ByteArray))/\HB w (fun _=>False) x sF w'))
    (HR:Hid (∀ x W,HB w (fun _=>False) x sF W->Calls Tryz.prog 16 #[.pointer (some ⟨x,0,none⟩),.string ((⟨#[70,82,69,69,32,103,32,97,110,110,32]⟩:ByteArray)++(AA (167772160+(k:Int)*SZ)++(⟨#[47]⟩:ByteArray)++D 32))] W fun e w'=>e=.returned (.string (⟨#[79,75]⟩:ByteArray))/\HB w (fun _=>False) x sG w'))
    (HH:Hid (∀ x W,HB w (fun _=>False) x sG W->Calls Tryz.prog 16 #[.pointer (some ⟨x,0,none⟩),.string ((⟨#[78,69,84,32,104,32,98,111,98,32]⟩:ByteArray)++((⟨#[49,48,46,48,46,48,46,48,47]⟩:ByteArray)++D n)++(⟨#[32]⟩:ByteArray)++D 32)] W fun e w'=>e=.returned (.string ((⟨#[79,75,32]⟩:ByteArray)++(AA (167772160+(k:Int)*SZ)++(⟨#[47]⟩:ByteArray)++D 32)))/\HB w (fun _=>False) x sH w'))
    (HI:Hid (∀ x W,HB w (fun _=>False) x sH W->Calls Tryz.prog 16 #[.pointer (some ⟨x,0,none⟩),.string ((⟨#[78,69,84,32,105,32,98,111,98,32]⟩:ByteArray)++((⟨#[49,48,46,48,46,48,46,48,47]⟩:ByteArray)++D n)++(⟨#[32]⟩:ByteArray)++D 32)] W fun e w'=>e=.returned (.string (⟨#[69,82,82,32,70,85,76,76]⟩:ByteArray))/\HB w (fun _=>False) x sH w'))
 :
    Calls Tryz.prog 5 #[.int .i64 bits,.int .i64 more,.int .i64 which] w fun e w'=>e=.returned (.bool true)/\Below w.heap.size w w':=by
  have hDn:=hD n;have hDm:=hD 32;have e1:(22:Int)+((n:Int)-22)=n:=by omega
  have e2:(32:Int)<q:=hq
  have e3:(n:Int)<=32:=by omega
  go_enter Tryz.func5,Tryz.ntmps5
  go_wp2_with (first|(go_at_call 11;refine HO.out.mono ?_;rintro e wN ⟨x,dd,rfl,HBC,hq⟩;replace HBC:Hid (HB w (fun _=>False) x bk0 wN):=HBC;clear hq)|(go_at_call 20;refine(HP.out _ _ _ (by simp) (by simp)).mono ?_;rintro e wN ⟨rfl,hq⟩;replace HBC:Hid (HB w (fun _=>False) x _ wN):=HB.below (by repeat' (first|with_reducible exact HBC.out|with_reducible apply HB.drew|with_reducible apply HB.alloc)) hq;clear hq)|(go_at_call 21;refine(HG.out _ _ (om) (om)).mono ?_;rintro e wN ⟨rfl,hq⟩;replace HBC:Hid (HB w (fun _=>False) x _ wN):=HB.below (by repeat' (first|with_reducible exact HBC.out|with_reducible apply HB.drew|with_reducible apply HB.alloc)) hq;clear hq)|(go_at_call 16;have hst:HB w (fun _=>False) x bk0 wN:=HBC.out;clear hst;refine(H0.out x _ (by repeat' (first|with_reducible exact HBC.out|with_reducible apply HB.drew|with_reducible apply HB.alloc))).mono ?_;rintro e wN ⟨rfl,hq⟩;replace HBC:Hid (HB w (fun _=>False) x _ wN):=hq;clear hq))
  rw[hsh];clear e1 e2 e3 hd hp1 hp2 hsh hq hq2;go_loopw [14,15] (fun ok i wr=>∃ j:Nat,j<=fit/\ok=.bool true/\i=.int .i64 j/\Hid (HB w (fun _=>False) x (st j) wr)) (fun _ i _=>(fit-intOf i).toNat)
  case atStart=>exact⟨0,by omega,rfl,rfl,HBC.out⟩
  case round =>
    clear HBC;obtain⟨j,hjf,rfl,rfl,HBC⟩:=hrel;by_cases hlt:j<fit
    . have hlt2:(j:Int)<(fit:Int):=by omega
      obtain⟨p,hp⟩:∃ p:Int,p=(j:Int)*SZ:=⟨_,rfl⟩
      have hp0:0<=p:=by rw[hp];exact Int.mul_nonneg (om) (om)
      have hp9:p<1024:=by rw[hp];exact hS1 j hlt
      have hmul:(j:Int)*SZ=p:=hp.symm
      have HNj:=HN.out j hlt;rw[hmul] at HNj;replace HNj:Hid _:=HNj;have hDj:=hD j;have hAj:=hA (167772160+p)
      clear hp;go_wp2_with (first|(go_at_call 21;refine(HG.out _ _ (om) (om)).mono ?_;rintro e wN ⟨rfl,hq⟩;replace HBC:Hid (HB w (fun _=>False) x _ wN):=HB.below (by repeat' (first|with_reducible exact HBC.out|with_reducible apply HB.drew|with_reducible apply HB.alloc)) hq;clear hq)|(go_at_call 23;refine(HZ.out _).mono ?_;rintro e wN ⟨rfl,hq⟩;replace HBC:Hid (HB w (fun _=>False) x _ wN):=HB.below (by repeat' (first|with_reducible exact HBC.out|with_reducible apply HB.drew|with_reducible apply HB.alloc)) hq;clear hq)|(go_at_call 22;refine(HA.out _ _ (om) (om)).mono ?_;rintro e wN ⟨rfl,hq⟩;replace HBC:Hid (HB w (fun _=>False) x _ wN):=HB.below (by repeat' (first|with_reducible exact HBC.out|with_reducible apply HB.drew|with_reducible apply HB.alloc)) hq;clear hq)|(go_at_call 16;have hst:HB w (fun _=>False) x (st j) wN:=HBC.out;clear hst;refine(HNj.out x _ (by repeat' (first|with_reducible exact HBC.out|with_reducible apply HB.drew|with_reducible apply HB.alloc))).mono ?_;rintro e wN ⟨rfl,hq⟩;replace HBC:Hid (HB w (fun _=>False) x _ wN):=hq;clear hq))
      go_roundw
      case rel=>exact⟨j+1,by omega,rfl,by simp,HBC.out⟩
      case measure=>simp[intOf];omega
    . obtain rfl:j=fit:=by omega
      have hlt2:¬(j:Int)<(j:Int):=by omega
      obtain⟨p,hp⟩:∃ p:Int,p=(k:Int)*SZ:=⟨_,rfl⟩
      have hp0:0<=p:=by rw[hp];exact Int.mul_nonneg (om) (om)
      have hp9:p<1024:=by rw[hp];exact hS1 k hk
      have hmul:(k:Int)*SZ=p:=hp.symm
      rw[hmul] at HR HH;have hAj:=hA (167772160+p)
      clear hp;go_wp2_with (first|(go_at_call 21;refine(HG.out _ _ (om) (om)).mono ?_;rintro e wN ⟨rfl,hq⟩;replace HBC:Hid (HB w (fun _=>False) x _ wN):=HB.below (by repeat' (first|with_reducible exact HBC.out|with_reducible apply HB.drew|with_reducible apply HB.alloc)) hq;clear hq)|(go_at_call 23;refine(HZ.out _).mono ?_;rintro e wN ⟨rfl,hq⟩;replace HBC:Hid (HB w (fun _=>False) x _ wN):=HB.below (by repeat' (first|with_reducible exact HBC.out|with_reducible apply HB.drew|with_reducible apply HB.alloc)) hq;clear hq)|(go_at_call 20;refine(HP.out _ _ _ (by simp) (by simp)).mono ?_;rintro e wN ⟨rfl,hq⟩;replace HBC:Hid (HB w (fun _=>False) x _ wN):=HB.below (by repeat' (first|with_reducible exact HBC.out|with_reducible apply HB.drew|with_reducible apply HB.alloc)) hq;clear hq)|(go_at_call 22;refine(HA.out _ _ (om) (om)).mono ?_;rintro e wN ⟨rfl,hq⟩;replace HBC:Hid (HB w (fun _=>False) x _ wN):=HB.below (by repeat' (first|with_reducible exact HBC.out|with_reducible apply HB.drew|with_reducible apply HB.alloc)) hq;clear hq)|(go_at_call 16;have hst:HB w (fun _=>False) x (st j) wN:=HBC.out;clear hst;refine(HF.out x _ (by repeat' (first|with_reducible exact HBC.out|with_reducible apply HB.drew|with_reducible apply HB.alloc))).mono ?_;rintro e wN ⟨rfl,hq⟩;replace HBC:Hid (HB w (fun _=>False) x _ wN):=hq;clear hq)|(go_at_call 16;have hst:HB w (fun _=>False) x sF wN:=HBC.out;clear hst;refine(HR.out x _ (by repeat' (first|with_reducible exact HBC.out|with_reducible apply HB.drew|with_reducible apply HB.alloc))).mono ?_;rintro e wN ⟨rfl,hq⟩;replace HBC:Hid (HB w (fun _=>False) x _ wN):=hq;clear hq)|(go_at_call 16;have hst:HB w (fun _=>False) x sG wN:=HBC.out;clear hst;refine(HH.out x _ (by repeat' (first|with_reducible exact HBC.out|with_reducible apply HB.drew|with_reducible apply HB.alloc))).mono ?_;rintro e wN ⟨rfl,hq⟩;replace HBC:Hid (HB w (fun _=>False) x _ wN):=hq;clear hq)|(go_at_call 16;have hst:HB w (fun _=>False) x sH wN:=HBC.out;clear hst;refine(HI.out x _ (by repeat' (first|with_reducible exact HBC.out|with_reducible apply HB.drew|with_reducible apply HB.alloc))).mono ?_;rintro e wN ⟨rfl,hq⟩;replace HBC:Hid (HB w (fun _=>False) x _ wN):=hq;clear hq))
      go_ret;exact⟨rfl,HBC.out.low⟩
theorem sz_fit {n m:Nat} (h:n<=m) (hm:m<=32):sz (n:Int)=(fitN n m:Int)*sz (m:Int):=by
  unfold sz fitN;rw[show ((m:Int)-(n:Int)).toNat=m-n by omega,show (32-(n:Int)).toNat=(m-n)+(32-m) by omega,show (32-(m:Int)).toNat=32-m by omega,Int.pow_add]
  simp
theorem fit_lt {n m:Nat} (h:n<=m) (hm:m<=32) (h22:22<=n) {i:Nat} (hi:i<fitN n m):(i:Int)*sz (m:Int)<1024/\0<=(i:Int)*sz (m:Int):=by
  have h1:=sz_fit h hm;have h2:sz (n:Int)<=sz 22:=sz_mono (om) (om)
  have h3:sz 22=1024:=by decide
  have h4:=sz_pos (m:Int)
  have h5:(i:Int)*sz (m:Int)<(fitN n m:Int)*sz (m:Int):=Int.mul_lt_mul_of_pos_right (om) h4
  exact⟨by omega,Int.mul_nonneg (om) (om)⟩
theorem k_rt {m:Nat} (h:22<=m) (hm:m<=32) (k:Int):rt (B0+k*sz (m:Int)) m=true:=by
  obtain⟨_,_,h1⟩:=rt_iff.1 (B0_rt (m:Int) (om) (om))
  exact rt_iff.2 ⟨by omega,by omega,by rw[Int.add_mul_emod_self_right];exact h1⟩
def tokIn (T:List Tk) (f:Nat) (more:List (List UInt8)):Prop:=∀ x,x∈T->x.t=bA [112]\/(∃ j,j<f/\x.t=bA (110::dec j))\/∃ t,t∈more/\x.t=bA t
theorem tokIn_ne {T:List Tk} {f:Nat} {more:List (List UInt8)} (h:tokIn T f more) {t:List UInt8} (h1:t≠[112]) (h2:∀ l,t≠110::l) (h3:t∉more):∀ x,x∈T->x.t≠bA t:=fun x hx=>by
  rcases h x hx with e|⟨j,_,e⟩|⟨u,hu,e⟩
  . rw[e];exact tok_ne (fun q=>h1 q.symm)
  . rw[e];exact tok_ne (fun q=>h2 _ q.symm)
  . rw[e];exact tok_ne (fun q=>h3 (q ▸ hu))
theorem tokIn_add {T:List Tk} {f:Nat} {more:List (List UInt8)} (h:tokIn T f more) (y:Tk) {t:List UInt8} (hy:y.t=bA t):tokIn (addT T y) f (t::more):=fun x hx=>by
  rcases mem_addT hx with e|e
  . exact .inr (.inr ⟨t,by simp,by rw[e];exact hy⟩)
  . rcases h x e with q|q|⟨u,hu,q⟩
    . exact .inl q
    . exact .inr (.inl q)
    . exact .inr (.inr ⟨u,by simp[hu],q⟩)
theorem fill_rest {n m:Nat} (F:Fl (n:Int) (m:Int)) (h0:22<=n) (h1:n<=30) (hm:m<=32) (hnm:n<=m) {s:Bk} (hs:AtN n m (fitN n m) s) {k:Nat} (hk:k<fitN n m) :
    ∃ sG sH,doAll s (bs ([78,69,84,32,102,32,97,110,110,32]++([49,48,46,48,46,48,46,48,47]++dec n)++[32]++dec m))=(s,(⟨#[69,82,82,32,70,85,76,76]⟩:ByteArray)) /\
      doAll s (bs ([70,82,69,69,32,103,32,97,110,110,32]++wr (B0+(k:Int)*sz m).toNat m))=(sG,okB) /\
      doAll sG (bs ([78,69,84,32,104,32,98,111,98,32]++([49,48,46,48,46,48,46,48,47]++dec n)++[32]++dec m))=(sH,bs ([79,75,32]++wr (B0+(k:Int)*sz m).toNat m)) /\
      doAll sH (bs ([78,69,84,32,105,32,98,111,98,32]++([49,48,46,48,46,48,46,48,47]++dec n)++[32]++dec m))=(sH,(⟨#[69,82,82,32,70,85,76,76]⟩:ByteArray)):=by
  obtain⟨T,rfl,hT⟩:=hs;have hT0:tokIn T (fitN n m) []:=fun x hx=>(hT x hx).imp id .inl
  obtain⟨_,_,_,_,b5⟩:=F.back k hk;have hb:=fit_lt hnm hm h0 hk;have hbb:(0:Int)<=B0+(k:Int)*sz m/\B0+(k:Int)*sz m<4294967296:=by unfold B0;omega
  have hl:∀ (t o:List UInt8),[78,69,84,32]++t++[32]++o++[32]++([49,48,46,48,46,48,46,48,47]++dec n)++[32]++dec m=verb 2++32::(t++32::(o++32::(wr B0.toNat n++32::dec m))):=fun t o=>by
    rw[wr10];simp[verb,verbT]
  have hrF:rdLine (bs ([70,82,69,69,32,103,32,97,110,110,32]++wr (B0+(k:Int)*sz m).toNat m)).data.toList=some (lnB 4 [103] annT (B0+(k:Int)*sz m) m):=by
    rw[bs_data];have:=read_block (k:=4) (t:=[103]) (o:=annT) (a:=B0+(k:Int)*sz m) (n:=m) (om) (by decide) (by decide) hbb.1 hbb.2 (k_rt (om) hm k)
    rw[Int.toNat_natCast] at this;exact this
  have hrH:rdLine (bs ([78,69,84,32,104,32,98,111,98,32]++([49,48,46,48,46,48,46,48,47]++dec n)++[32]++dec m)).data.toList=some { lnB 2 [104] bobT B0 n with g:=m }:=by
    rw[bs_data];have:=read_net (t:=[104]) (o:=bobT) (a:=B0) (n:=n) (g:=m) (by decide) (by decide) (by decide) (by decide) (B0_rt n (om) (om)) hm
    rw[Int.toNat_natCast,<- hl [104] bobT] at this;exact this
  have d1:=step_full F.pool h0 h1 hm hnm F.full (T:=T) (t:=[102]) (o:=annT) (by decide) (by decide) (tokIn_ne hT0 (by decide) (fun l q=>by cases q) (by simp)) (hl [102] annT)
  have d2:=doAll_new (s:=⟨fP n,nat m (fitN n m),[],T⟩) hrF (by show 4<8;omega) (findT_none (tokIn_ne hT0 (t:=[103]) (by decide) (fun l q=>by cases q) (by simp))) (fill_free F k hk [103] T)
  rw[if_pos (show okA.e=0 from rfl),ok_text] at d2;have hT1:=tokIn_add hT0 (⟨(lnB 4 [103] annT (B0+(k:Int)*sz m) m).t,bs ([70,82,69,69,32,103,32,97,110,110,32]++wr (B0+(k:Int)*sz m).toNat m),okB⟩:Tk) (t:=[103]) rfl
  have d3:=doAll_new (s:=⟨fP n,delAt (nat m (fitN n m)) k,[],addT T ⟨(lnB 4 [103] annT (B0+(k:Int)*sz m) m).t,bs ([70,82,69,69,32,103,32,97,110,110,32]++wr (B0+(k:Int)*sz m).toNat m),okB⟩⟩) hrH (by show 2<8;omega) (findT_none (tokIn_ne hT1 (t:=[104]) (by decide) (fun l q=>by cases q) (by decide))) (fill_again F (om) (om) k hk [104] _)
  rw[if_pos (show (tell1 (bA (bText (B0+(k:Int)*sz m) m))).e=0 from rfl),tell_text] at d3;have hT2:=tokIn_add hT1 (⟨({ lnB 2 [104] bobT B0 n with g:=m }:Ln).t,bs ([78,69,84,32,104,32,98,111,98,32]++([49,48,46,48,46,48,46,48,47]++dec n)++[32]++dec m),bs ([79,75,32]++bText (B0+(k:Int)*sz m) m)⟩:Tk) (t:=[104]) rfl
  have d4:=step_full F.pool h0 h1 hm hnm b5 (t:=[105]) (o:=bobT) (by decide) (by decide) (tokIn_ne hT2 (by decide) (fun l q=>by cases q) (by decide)) (hl [105] bobT)
  exact⟨_,_,d1,d2,d3,d4⟩
def fillSt (n m:Nat):Nat->Bk
  | 0=>(doAll bk0 (bs ([80,79,79,76,32,112,32,97,110,110,32]++([49,48,46,48,46,48,46,48,47]++dec n)))).1
  | i+1=>(doAll (fillSt n m i) (bs ([78,69,84,32,110]++dec i++[32,97,110,110,32]++([49,48,46,48,46,48,46,48,47]++dec n)++[32]++dec m))).1
theorem fillSt_inv (n m:Nat):∀ i,Inv (fillSt n m i)
  | 0=>inv_all bk0_ok.1 _
  | i+1=>inv_all (fillSt_inv n m i) _
theorem fillSt_at {n m:Nat} (F:Fl (n:Int) (m:Int)) (h0:22<=n) (h1:n<=30) (hm:m<=32) (hnm:n<=m):∀ i,i<=fitN n m->AtN n m i (fillSt n m i)
  | 0,_=>by
    obtain⟨s,e,h⟩:=step_pool h0 h1 (m:Int)
    unfold fillSt;rw[e];exact h
  | i+1,hi=>by
    have ih:=fillSt_at F h0 h1 hm hnm i (om)
    have:=F.le
    obtain⟨s,e,h⟩:=step_net F h0 h1 hm hnm (i:=i) (om) (om) ih
    unfold fillSt;rw[e];exact h
theorem fillSt_net {n m:Nat} (F:Fl (n:Int) (m:Int)) (h0:22<=n) (h1:n<=30) (hm:m<=32) (hnm:n<=m) {i:Nat} (hi:i<fitN n m) :
    doAll (fillSt n m i) (bs ([78,69,84,32,110]++dec i++[32,97,110,110,32]++([49,48,46,48,46,48,46,48,47]++dec n)++[32]++dec m))=(fillSt n m (i+1),bs ([79,75,32]++wr (B0+(i:Int)*sz m).toNat m)):=by
  have:=F.le
  obtain⟨s,e,h⟩:=step_net F h0 h1 hm hnm (i:=i) hi (om) (fillSt_at F h0 h1 hm hnm i (om))
  rw[e];show _=((doAll (fillSt n m i) _).1,_)
  rw[e]
theorem filled_a (bits more which:Int) (n d:Nat) (m:Nat) (k:Nat) (w:World) (E:EnvT w) (hZ:10<=w.heap.size) (h0:22<=n) (h1:n<=30) (hd:n+d=m) (hm:m<=32) (F:Fl (n:Int) (m:Nat))
    (hb:∀ c,(c=bits\/c=more\/c=which)->-9223372036854775808<=c/\c<=9223372036854775807) (hp1:pk bits 9=(n:Int)-22) (hp2:pk more 5=d) (hp3:pk which (fitN n (m:Nat):Int)=k) (hk:k<fitN n (m:Nat)) :
    Calls Tryz.prog 5 #[.int .i64 bits,.int .i64 more,.int .i64 which] w fun e w'=>e=.returned (.bool true)/\Below w.heap.size w w':=by
  have hfl:=F.le;have hmm:n<=(m:Nat):=by omega
  have hm32:(m:Nat)<=32:=by omega
  obtain⟨sG,sH,d1,d2,d3,d4⟩:=fill_rest F h0 h1 hm32 hmm (fillSt_at F h0 h1 hm32 hmm _ (Nat.le_refl _)) hk
  have hIf:=fillSt_inv n (m:Nat) (fitN n (m:Nat))
  have hIG:Inv sG:=by have h:=inv_all hIf (bs ([70,82,69,69,32,103,32,97,110,110,32]++wr (B0+(k:Int)*sz (m:Nat)).toNat (m:Nat)));rw[d2] at h;exact h
  have hIH:Inv sH:=by have h:=inv_all hIG (bs ([78,69,84,32,104,32,98,111,98,32]++([49,48,46,48,46,48,46,48,47]++dec n)++[32]++dec (m:Nat)));rw[d3] at h;exact h
  have hsz:=sz_pos ((m:Nat):Int)
  have hw:∀ a:Nat,bs (wr a (m:Nat))=bs (dot a)++(⟨#[47]⟩:ByteArray)++bs (dec (m:Nat)):=fun a=>by
    show _=bs (dot a)++bs [47]++bs (dec (m:Nat))
    rw[bs_append,bs_append];unfold wr;simp
  have hDn:∀ j:Nat,j<=32->(if 0<=(j:Int)/\(j:Int)<=32 then DI (j:Int) else ⟨#[]⟩)=bs (dec j):=fun j hj=>by rw[if_pos ⟨by omega,by omega⟩];rfl
  have hDm:(if 0<=(m:Int)/\(m:Int)<=32 then DI (m:Int) else ⟨#[]⟩)=bs (dec (m:Nat)):=by rw[if_pos ⟨by omega,by omega⟩];rfl
  have hfk:=fit_lt hmm hm32 h0 hk;have hAI:∀ a:Int,0<=a->a<4294967296->(if 0<=a/\a<4294967296 then AI a else ⟨#[]⟩)=bs (dot a.toNat):=fun a q1 q2=>by rw[if_pos ⟨q1,q2⟩];rfl
  have ok3:(⟨#[79,75,32]⟩:ByteArray)=bs [79,75,32]:=rfl
  have app3:∀ a b c d:ByteArray,a++(b++c++d)=a++b++c++d:=fun a b c d=>by simp[ByteArray.append_assoc]
  have he0:doAll bk0 (bs ([80,79,79,76,32,112,32,97,110,110,32]++([49,48,46,48,46,48,46,48,47]++dec n)))=(fillSt n (m:Nat) 0,okB):=by
    obtain⟨s,e,_⟩:=step_pool h0 h1 0;show _=((doAll bk0 _).1,_)
    rw[e]
  refine filled_go bits more which n d (fitN n (m:Nat)) k (m:Int) (sz ((m:Nat):Int)) (fun j=>if 0<=j/\j<=32 then DI j else ⟨#[]⟩) (fun a=>if 0<=a/\a<4294967296 then AI a else ⟨#[]⟩) (fillSt n (m:Nat)) (fillSt n (m:Nat) (fitN n (m:Nat))) sG sH w ⟨h0,h1⟩ (om) (om) ?_ hp1 hp2 hp3 hk (om) (by unfold fitN;exact Nat.one_le_two_pow) ?_ ?_ ?_ hsz (fun i hi=>(fit_lt hmm hm32 h0 hi).1) (opened_any w w (Below.refl _ _)) ?_ ?_ ?_ ?_ ?_ ?_ ?_ ?_ ?_ ?_
  . omega
  . intro j;split
    . exact DI_size j (om)
    . decide
  . intro a;split
    . unfold AI;rw[bs_size];exact(dot_lenB a.toNat (om)).2
    . decide
  . have h:=ksize_fin ⟨(m:Nat)-n,by omega⟩
    have e:(fitN n (m:Nat):Int)=2^((m:Nat)-n):=by unfold fitN;rw[show (((m:Nat):Int)-(n:Int)).toNat=(m:Nat)-n by omega];simp
    rw[e];exact h
  . intro c k W hk hc;have hf1:1<=fitN n (m:Nat):=(by unfold fitN;exact Nat.one_le_two_pow)
    refine(pick_any c k W (hb c hc) (om) (om)).mono ?_
    rintro e w' ⟨rfl,rfl⟩
    exact⟨rfl,Below.refl _ _⟩
  . intro j W hj0 hj1;rw[if_pos ⟨hj0,hj1⟩];exact kdigits_any j W hj0 (om)
  . intro W;refine(ksize_any ((m:Nat):Int) W (om) (om)).mono ?_
    rintro e w' ⟨rfl,rfl⟩
    exact⟨rfl,Below.refl _ _⟩
  . intro a W ha0 ha1;rw[if_pos ⟨ha0,ha1⟩];exact kaddr_any a W ha0 ha1
  . intro x W hW;refine hb_known w E hZ x bk0 _ _ _ _ ?_ (he0) bk0_ok.1 W hW
    rw[hDn n (om)];show bs _++(bs _++bs _)=_
    rw[bs_append,bs_append]
  . intro i hi x W hW;have hfi:=fit_lt hmm hm32 h0 hi;refine(hb_known w E hZ x _ _ _ _ _ ?_ (fillSt_net F h0 h1 hm32 hmm hi) (fillSt_inv n _ i) W hW).mono ?_
    . rw[hDn n (om),hDn i (om),hDm];show bs _++bs _++bs _++(bs _++bs _)++bs _++bs _=_
      simp only[bs_append]
    . rintro e w' ⟨rfl,h⟩
      refine⟨?_,h⟩
      rw[hDm,hAI (167772160+(i:Int)*sz ((m:Nat):Int)) (om) (om),ok3];show _=Ending.returned (.string (bs [79,75,32]++bs (dot (B0+(i:Int)*sz (m:Nat)).toNat)++(⟨#[47]⟩:ByteArray)++bs (dec (m:Nat))))
      rw[<- bs_append,hw,<- app3]
  . intro x W hW;refine hb_known w E hZ x _ _ _ _ _ ?_ d1 hIf W hW
    rw[hDn n (om),hDm];show bs _++(bs _++bs _)++bs _++bs _=_
    simp only[bs_append]
  . intro x W hW;refine hb_known w E hZ x _ _ _ _ _ ?_ d2 hIf W hW
    rw[hDm,hAI (167772160+(k:Int)*sz ((m:Nat):Int)) (om) (om)];show bs _++(bs (dot (B0+(k:Int)*sz (m:Nat)).toNat)++(⟨#[47]⟩:ByteArray)++bs (dec (m:Nat)))=_
    rw[<- hw,bs_append]
  . intro x W hW;refine(hb_known w E hZ x _ _ _ _ _ ?_ d3 hIG W hW).mono ?_
    . rw[hDn n (om),hDm];show bs _++(bs _++bs _)++bs _++bs _=_
      simp only[bs_append]
    . rintro e w' ⟨rfl,h⟩
      refine⟨?_,h⟩
      rw[hDm,hAI (167772160+(k:Int)*sz ((m:Nat):Int)) (om) (om),ok3];show _=Ending.returned (.string (bs [79,75,32]++(bs (dot (B0+(k:Int)*sz (m:Nat)).toNat)++(⟨#[47]⟩:ByteArray)++bs (dec (m:Nat)))))
      rw[<- bs_append,hw]
  . intro x W hW;refine hb_known w E hZ x _ _ _ _ _ ?_ d4 hIH W hW
    rw[hDn n (om),hDm];show bs _++(bs _++bs _)++bs _++bs _=_
    simp only[bs_append]
theorem filled_b (bits more which:Int) (n d:Nat) (q:Int) (k:Nat) (w:World) (E:EnvT w) (hZ:10<=w.heap.size) (h0:22<=n) (h1:n<=30) (hd:(n:Int)+(d:Int)=q) (hq:32<q) (hq2:q<=40) (F:Fl (n:Int) (32:Nat))
    (hb:∀ c,(c=bits\/c=more\/c=which)->-9223372036854775808<=c/\c<=9223372036854775807) (hp1:pk bits 9=(n:Int)-22) (hp2:pk more 5=d) (hp3:pk which (fitN n (32:Nat):Int)=k) (hk:k<fitN n (32:Nat)) :
    Calls Tryz.prog 5 #[.int .i64 bits,.int .i64 more,.int .i64 which] w fun e w'=>e=.returned (.bool true)/\Below w.heap.size w w':=by
  have hfl:=F.le;have hmm:n<=(32:Nat):=by omega
  have hm32:(32:Nat)<=32:=by omega
  obtain⟨sG,sH,d1,d2,d3,d4⟩:=fill_rest F h0 h1 hm32 hmm (fillSt_at F h0 h1 hm32 hmm _ (Nat.le_refl _)) hk
  have hIf:=fillSt_inv n (32:Nat) (fitN n (32:Nat))
  have hIG:Inv sG:=by have h:=inv_all hIf (bs ([70,82,69,69,32,103,32,97,110,110,32]++wr (B0+(k:Int)*sz (32:Nat)).toNat (32:Nat)));rw[d2] at h;exact h
  have hIH:Inv sH:=by have h:=inv_all hIG (bs ([78,69,84,32,104,32,98,111,98,32]++([49,48,46,48,46,48,46,48,47]++dec n)++[32]++dec (32:Nat)));rw[d3] at h;exact h
  have hsz:=sz_pos ((32:Nat):Int)
  have hw:∀ a:Nat,bs (wr a (32:Nat))=bs (dot a)++(⟨#[47]⟩:ByteArray)++bs (dec (32:Nat)):=fun a=>by
    show _=bs (dot a)++bs [47]++bs (dec (32:Nat))
    rw[bs_append,bs_append];unfold wr;simp
  have hDn:∀ j:Nat,j<=32->(if 0<=(j:Int)/\(j:Int)<=32 then DI (j:Int) else ⟨#[]⟩)=bs (dec j):=fun j hj=>by rw[if_pos ⟨by omega,by omega⟩];rfl
  have hDm:(if 0<=(32:Int)/\(32:Int)<=32 then DI (32:Int) else ⟨#[]⟩)=bs (dec (32:Nat)):=by rw[if_pos ⟨by omega,by omega⟩];rfl
  have hfk:=fit_lt hmm hm32 h0 hk;have hAI:∀ a:Int,0<=a->a<4294967296->(if 0<=a/\a<4294967296 then AI a else ⟨#[]⟩)=bs (dot a.toNat):=fun a q1 q2=>by rw[if_pos ⟨q1,q2⟩];rfl
  have ok3:(⟨#[79,75,32]⟩:ByteArray)=bs [79,75,32]:=rfl
  have app3:∀ a b c d:ByteArray,a++(b++c++d)=a++b++c++d:=fun a b c d=>by simp[ByteArray.append_assoc]
  have he0:doAll bk0 (bs ([80,79,79,76,32,112,32,97,110,110,32]++([49,48,46,48,46,48,46,48,47]++dec n)))=(fillSt n (32:Nat) 0,okB):=by
    obtain⟨s,e,_⟩:=step_pool h0 h1 0;show _=((doAll bk0 _).1,_)
    rw[e]
  refine filled_go32 bits more which n d (fitN n (32:Nat)) k q (sz ((32:Nat):Int)) (fun j=>if 0<=j/\j<=32 then DI j else ⟨#[]⟩) (fun a=>if 0<=a/\a<4294967296 then AI a else ⟨#[]⟩) (fillSt n (32:Nat)) (fillSt n (32:Nat) (fitN n (32:Nat))) sG sH w ⟨h0,h1⟩ (om) (om) ?_ ?_ ?_ hp1 hp2 hp3 hk (om) (by unfold fitN;exact Nat.one_le_two_pow) ?_ ?_ ?_ hsz (fun i hi=>(fit_lt hmm hm32 h0 hi).1) (opened_any w w (Below.refl _ _)) ?_ ?_ ?_ ?_ ?_ ?_ ?_ ?_ ?_ ?_
  . exact hd
  . exact hq
  . exact hq2
  . intro j;split
    . exact DI_size j (om)
    . decide
  . intro a;split
    . unfold AI;rw[bs_size];exact(dot_lenB a.toNat (om)).2
    . decide
  . have h:=ksize_fin ⟨(32:Nat)-n,by omega⟩
    have e:(fitN n (32:Nat):Int)=2^((32:Nat)-n):=by unfold fitN;rw[show (((32:Nat):Int)-(n:Int)).toNat=(32:Nat)-n by omega];simp
    rw[e];exact h
  . intro c k W hk hc;have hf1:1<=fitN n (32:Nat):=(by unfold fitN;exact Nat.one_le_two_pow)
    refine(pick_any c k W (hb c hc) (om) (om)).mono ?_
    rintro e w' ⟨rfl,rfl⟩
    exact⟨rfl,Below.refl _ _⟩
  . intro j W hj0 hj1;rw[if_pos ⟨hj0,hj1⟩];exact kdigits_any j W hj0 (om)
  . intro W;refine(ksize_any ((32:Nat):Int) W (om) (om)).mono ?_
    rintro e w' ⟨rfl,rfl⟩
    exact⟨rfl,Below.refl _ _⟩
  . intro a W ha0 ha1;rw[if_pos ⟨ha0,ha1⟩];exact kaddr_any a W ha0 ha1
  . intro x W hW;refine hb_known w E hZ x bk0 _ _ _ _ ?_ (he0) bk0_ok.1 W hW
    rw[hDn n (om)];show bs _++(bs _++bs _)=_
    rw[bs_append,bs_append]
  . intro i hi x W hW;have hfi:=fit_lt hmm hm32 h0 hi;refine(hb_known w E hZ x _ _ _ _ _ ?_ (fillSt_net F h0 h1 hm32 hmm hi) (fillSt_inv n _ i) W hW).mono ?_
    . rw[hDn n (om),hDn i (om),hDm];show bs _++bs _++bs _++(bs _++bs _)++bs _++bs _=_
      simp only[bs_append]
    . rintro e w' ⟨rfl,h⟩
      refine⟨?_,h⟩
      rw[hDm,hAI (167772160+(i:Int)*sz ((32:Nat):Int)) (om) (om),ok3];show _=Ending.returned (.string (bs [79,75,32]++bs (dot (B0+(i:Int)*sz (32:Nat)).toNat)++(⟨#[47]⟩:ByteArray)++bs (dec (32:Nat))))
      rw[<- bs_append,hw,<- app3]
  . intro x W hW;refine hb_known w E hZ x _ _ _ _ _ ?_ d1 hIf W hW
    rw[hDn n (om),hDm];show bs _++(bs _++bs _)++bs _++bs _=_
    simp only[bs_append]
  . intro x W hW;refine hb_known w E hZ x _ _ _ _ _ ?_ d2 hIf W hW
    rw[hDm,hAI (167772160+(k:Int)*sz ((32:Nat):Int)) (om) (om)];show bs _++(bs (dot (B0+(k:Int)*sz (32:Nat)).toNat)++(⟨#[47]⟩:ByteArray)++bs (dec (32:Nat)))=_
    rw[<- hw,bs_append]
  . intro x W hW;refine(hb_known w E hZ x _ _ _ _ _ ?_ d3 hIG W hW).mono ?_
    . rw[hDn n (om),hDm];show bs _++(bs _++bs _)++bs _++bs _=_
      simp only[bs_append]
    . rintro e w' ⟨rfl,h⟩
      refine⟨?_,h⟩
      rw[hDm,hAI (167772160+(k:Int)*sz ((32:Nat):Int)) (om) (om),ok3];show _=Ending.returned (.string (bs [79,75,32]++(bs (dot (B0+(k:Int)*sz (32:Nat)).toNat)++(⟨#[47]⟩:ByteArray)++bs (dec (32:Nat)))))
      rw[<- bs_append,hw]
  . intro x W hW;refine hb_known w E hZ x _ _ _ _ _ ?_ d4 hIH W hW
    rw[hDn n (om),hDm];show bs _++(bs _++bs _)++bs _++bs _=_
    simp only[bs_append]
theorem filled_walk (bits more which:Int) (w:World) (E:EnvT w) (hZ:10<=w.heap.size) (hb:∀ c,(c=bits\/c=more\/c=which)->-9223372036854775808<=c/\c<=9223372036854775807) :
    Calls Tryz.prog 5 #[.int .i64 bits,.int .i64 more,.int .i64 which] w fun e w'=>e=.returned (.bool true)/\Below w.heap.size w w':=by
  have p1:=pk_bd bits 9 (om)
  have p2:=pk_bd more 5 (om)
  obtain⟨n,hn⟩:∃ n:Nat,(n:Int)=pk bits 9+22:=⟨(pk bits 9+22).toNat,by omega⟩
  obtain⟨d,hd⟩:∃ d:Nat,(d:Int)=pk more 5:=⟨(pk more 5).toNat,by omega⟩
  have F:=fl_any n d (om) (om) (om)
  by_cases hm:n+d<=32
  . have e:mOf n d=((n+d:Nat):Int):=by unfold mOf;rw[if_neg (om)]
    rw[e] at F;have hf:1<=fitN (n:Int) ((n+d:Nat):Int):=by unfold fitN;exact Nat.one_le_two_pow
    have p3:=pk_bd which (fitN (n:Int) ((n+d:Nat):Int):Int) (om)
    exact filled_a bits more which n d (n+d) (pk which (fitN (n:Int) ((n+d:Nat):Int):Int)).toNat w E hZ (om) (om) rfl hm F hb (om) hd.symm (om) (om)
  . have e:mOf n d=((32:Nat):Int):=by unfold mOf;rw[if_pos (om)];rfl
    rw[e] at F;have hf:1<=fitN (n:Int) ((32:Nat):Int):=by unfold fitN;exact Nat.one_le_two_pow
    have p3:=pk_bd which (fitN (n:Int) ((32:Nat):Int):Int) (om)
    exact filled_b bits more which n d ((n:Int)+(d:Int)) (pk which (fitN (n:Int) ((32:Nat):Int):Int)).toNat w E hZ (om) (om) rfl (om) (om) F hb (om) hd.symm (om) (om)
end Go.Proofs.YtjnhhnbgjjkkjaaGreatDoor
