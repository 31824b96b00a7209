/-
  PrF, PrG
-/
import Derived.Deep.CutRange
import Derived.Test.YtjnhhnbgjjkkjaaGreatDoorBesidesPAA
import Derived.Test.YtjnhhnbgjjkkjaaGreatDoorBesidesPBT
import Derived.Test.YtjnhhnbgjjkkjaaGreatDoorBesidesPAO
import Derived.Test.YtjnhhnbgjjkkjaaGreatDoorBesidesPAX
import Derived.Test.YtjnhhnbgjjkkjaaGreatDoorBesidesPAK
import Derived.Test.YtjnhhnbgjjkkjaaGreatDoorBesidesPBW
import Derived.Test.YtjnhhnbgjjkkjaaGreatDoorBesidesPBQ
namespace Go.Proofs.YtjnhhnbgjjkkjaaGreatDoor
open Go.Conc Go.ChangeShapes Go.WideShapes Go.ChangeAt Go.RowKit
set_option linter.unusedVariables false
set_option linter.unusedSimpArgs false
theorem wrap_mid (x:Int) (h0:-1000000000<=x) (h1:x<=1000000000):IntKind.i64.wrap x=x:=by
  simp[IntKind.wrap,IntKind.signed,IntKind.bits]
  omega
set_option maxRecDepth 100000 in
set_option maxHeartbeats 2000000 in
theorem reopened_go (w:World) (n m:Nat) (hn6:n<=1048576) (hm6:m<=1048576) (av am al:Option Addr) (cv cm nl cl:Nat) (f fm:Nat->SV)
    (P1:Nat->Nat->Nat->Nat->Value->Nat->World->Prop) (P2 P3 P4 P7:Nat->Nat->Nat->Nat->Value->Nat->Nat->World->Prop) (P5:Nat->Nat->Nat->Nat->Value->Nat->ByteArray->ByteArray->World->Prop) (P6:Nat->Nat->World->Prop)
    (H3:Hid (0<n->∃ b o,av=some ⟨b,o,none⟩/\∀ p x y d v k wr,P1 p x y d v k wr->∀ i,i<n->StpAt wr b (o+i*5) (f i)))
    (H4:Hid (0<m->∃ b o,am=some ⟨b,o,none⟩/\∀ p x y d v k wr,P1 p x y d v k wr->∀ i,i<m->StpAt wr b (o+i*5) (fm i)))
    (H0:Hid (∀ (_:Unit),Calls Tryz.prog 25 #[] w fun e w'=>∃ p x y d,e=.returned (.pointer (some ⟨p,0,none⟩))/\P1 p x y d (.slice none 0 0) 0 w'))
    (K1:Hid (∀ p x y d v k W W',P1 p x y d v k W->Below W.heap.size W W'->P1 p x y d v k W'))
    (K5:Hid (∀ p x y d v k L a W W',P5 p x y d v k L a W->Below W.heap.size W W'->P5 p x y d v k L a W'))
    (C1:Hid (∀ p x y d v k W,P1 p x y d v k W->W.cell? ⟨p,0,none⟩=some (.pointer (some ⟨x,0,none⟩))/\W.cell? ⟨p,1,none⟩=some (.pointer (some ⟨y,0,none⟩))/\W.cell? ⟨p,2,none⟩=some (.pointer (some ⟨d,0,none⟩))))
    (C3:Hid (∀ p x y d v k z W,P3 p x y d v k z W->W.cell? ⟨p,1,none⟩=some (.pointer (some ⟨y,0,none⟩))/\W.cell? ⟨p,2,none⟩=some (.pointer (some ⟨d,0,none⟩))))
    (C7:Hid (∀ p x y d v k z W,P7 p x y d v k z W->W.cell? ⟨p,1,none⟩=some (.pointer (some ⟨y,0,none⟩))))
    (C4:Hid (∀ p x y d v k x' W,P4 p x y d v k x' W->W.cell? ⟨p,1,none⟩=some (.pointer (some ⟨y,0,none⟩))/\W.cell? ⟨p,0,none⟩=some (.pointer (some ⟨x,0,none⟩))/\W.frozen? ⟨p,0,none⟩=false/\P1 p x' y d v k (W.setCell ⟨p,0,none⟩ (.pointer (some ⟨x',0,none⟩)))))
    (C5:Hid (∀ p x y d v k L a W,P5 p x y d v k L a W->W.cell? ⟨p,0,none⟩=some (.pointer (some ⟨x,0,none⟩))/\W.cell? ⟨p,1,none⟩=some (.pointer (some ⟨y,0,none⟩))))
    (C6:Hid (∀ p d W,P6 p d W->W.cell? ⟨p,2,none⟩=some (.pointer (some ⟨d,0,none⟩))))
    (HO:Hid (∀ p x y d b k cap W,P1 p x y d (.slice b k cap) k W->∃ l:List Value,(∀ u,u∈l->∃ L,u=.string L)/\∀ W',Below W.heap.size W W'->W'.ownsRow 0 9 1 (.slice b k cap) k l))
    (HAp:Hid (∀ p x y d b k cap W l L g cap3 w3,P1 p x y d (.slice b k cap) k W->(∀ u,u∈l->∃ L,u=.string L)->W.ownsRow 0 9 1 (.slice b k cap) k l->w3.ownsRow 0 9 1 (.slice (some ⟨g,0,none⟩) (k+1) cap3) (k+1) (l++[.string L])->W.grownBy w3 (Value.slice b k cap).ownBlock->((Value.slice b k cap).ownBlock=some g\/g=W.heap.size)->g<w3.heap.size->P1 p x y d (.slice (some ⟨g,0,none⟩) (k+1) cap3) (k+1) w3))
    (HRd:Hid (∀ p x y d b k cap W,P1 p x y d (.slice b k cap) k W->∀ j,j<k->∃ g L,b=some ⟨g,0,none⟩/\W.cell? ⟨g,j,none⟩=some (.string L)))
    (HBo:Hid (∀ p x y d v k W (i:Int) (so:SV),P1 p x y d v k W->0<=i->i<=4294967296->SOk so->Calls Tryz.prog 26 #[.pointer (some ⟨p,0,none⟩),.int .i64 i,.agg #[.int .i64 so.k,.int .i64 so.o,.int .i64 so.p,.int .i64 so.a,.int .i64 so.b]] W fun e w'=>∃ L,e=.returned (.tuple #[.string L,.bool true])/\P1 p x y d v k w'))
    (HC:Hid (∀ p x y d v k W,P1 p x y d v k W->Calls Tryz.prog 28 #[.pointer (some ⟨d,0,none⟩),.slice al nl cl] W fun e w'=>∃ dz,e=.returned (.pointer (some ⟨dz,0,none⟩))/\P2 p x y d v k dz w'))
    (HOz:Hid (∀ p x y d v k dz W,P2 p x y d v k dz W->Calls Tryz.prog 27 #[.pointer (some ⟨dz,0,none⟩)] W fun e w'=>∃ z,e=.returned (.tuple #[.pointer (some ⟨z,0,none⟩),.int .i64 0])/\P7 p x y d v k z w'))
    (HSz:Hid (∀ p x y d v k z W,P7 p x y d v k z W->Calls Tryz.prog 29 #[.pointer (some ⟨z,0,none⟩),.pointer (some ⟨y,0,none⟩)] W fun e w'=>e=.returned (.bool true)/\P3 p x y d v k z w'))
    (HDz:Hid (∀ p x y d v k z L W,P3 p x y d v k z W->Calls Tryz.prog 16 #[.pointer (some ⟨z,0,none⟩),.string L] W fun e w'=>∃ a,e=.returned (.string a)/\P3 p x y d v k z w'))
    (HOx:Hid (∀ p x y d v k z W,P3 p x y d v k z W->Calls Tryz.prog 27 #[.pointer (some ⟨d,0,none⟩)] W fun e w'=>∃ x',e=.returned (.tuple #[.pointer (some ⟨x',0,none⟩),.int .i64 0])/\P4 p x y d v k x' w'))
    (HSx:Hid (∀ p x y d v k x' W,P4 p x y d v k x' W->Calls Tryz.prog 29 #[.pointer (some ⟨x',0,none⟩),.pointer (some ⟨y,0,none⟩)] W fun e w'=>e=.returned (.bool true)/\P4 p x y d v k x' w'))
    (HDx:Hid (∀ p x y d g k cap j L W,P1 p x y d (.slice (some ⟨g,0,none⟩) k cap) k W->j<k->W.cell? ⟨g,j,none⟩=some (.string L)->Calls Tryz.prog 16 #[.pointer (some ⟨x,0,none⟩),.string L] W fun e w'=>∃ a,e=.returned (.string a)/\P5 p x y d (.slice (some ⟨g,0,none⟩) k cap) k L a w'/\w'.cell? ⟨g,j,none⟩=some (.string L)))
    (HDy:Hid (∀ p x y d g k cap j L a W,P5 p x y d (.slice (some ⟨g,0,none⟩) k cap) k L a W->W.cell? ⟨g,j,none⟩=some (.string L)->Calls Tryz.prog 16 #[.pointer (some ⟨y,0,none⟩),.string L] W fun e w'=>e=.returned (.string a)/\P1 p x y d (.slice (some ⟨g,0,none⟩) k cap) k w'/\w'.cell? ⟨g,j,none⟩=some (.string L)))
    (HSf:Hid (∀ p x y d v k W,P1 p x y d v k W->Calls Tryz.prog 29 #[.pointer (some ⟨x,0,none⟩),.pointer (some ⟨y,0,none⟩)] W fun e w'=>e=.returned (.bool true)/\P1 p x y d v k w'))
    (HSt:Hid (∀ p x y d v k W,P1 p x y d v k W->Calls Tryz.prog 30 #[.pointer (some ⟨d,0,none⟩),.int .i64 0] W fun e w'=>e=.returned (.tuple #[])/\P6 p d w'))
    (HOd:Hid (∀ p d W,P6 p d W->Calls Tryz.prog 27 #[.pointer (some ⟨d,0,none⟩)] W fun e w'=>e=.returned (.tuple #[.pointer none,.int .i64 3])/\Below w.heap.size w w')) :
    Calls Tryz.prog 8 #[.slice av n cv,.slice am m cm,.slice al nl cl] w fun e w'=>e=.returned (.bool true)/\Below w.heap.size w w':=by
  obtain⟨i0,hi0,hz0,hz1,hz2⟩:=info_parts infoStr;go_enter Tryz.func8,Tryz.ntmps8
  go_wp2_with (go_at_call 25;refine(H0.out ()).mono ?_;rintro e w1 ⟨p,x,y,d,rfl,q1⟩;replace q1:Hid (P1 p x y d (.slice none 0 0) 0 w1):=q1)
  go_loopw [8,9] (fun l i wr=>∃ (k:Nat) (b:Option Addr) (cap:Nat),k<=n/\l=.slice b k cap/\i=.int .i64 k/\P1 p x y d (.slice b k cap) k wr) (fun _ i _=>n-(intOf i).toNat)
  case atStart=>exact⟨0,none,0,by omega,rfl,rfl,q1.out⟩
  case round =>
    obtain⟨k,b,cap,hk,rfl,rfl,hpk⟩:=hrel;replace hpk:Hid (P1 p x y d (.slice b k cap) k wr):=hpk;clear q1;by_cases hlt:k<n
    . obtain⟨sb,so,rfl,hst⟩:=H3.out om;have A:=hst _ _ _ _ _ _ wr hpk.out k hlt;have k0:=A.c0;have k1:=A.c1;have k2:=A.c2;have k3:=A.c3;have k4:=A.c4;have hA:Hid (SOk (f k)):=A.ok
      clear A hst H3 H4;go_wp2_with (first
        | (go_at_call 26;refine(HBo.out _ _ _ _ _ _ _ k (f k) hpk.out om om hA.out).mono ?_;rintro e w2 ⟨L,rfl,q2⟩;replace q2:Hid (P1 p x y d (.slice b k cap) k w2):=q2;obtain⟨l2,hl2,ho2⟩:=HO.out _ _ _ _ _ _ _ _ q2.out;replace hl2:Hid (∀ u,u∈l2->∃ L,u=.string L):=hl2;replace ho2:Hid (∀ W',Below w2.heap.size w2 W'->W'.ownsRow 0 9 1 (.slice b k cap) k l2):=ho2;clear k0 k1 k2 k3 k4)
        | (at_builtin;refine wpList_append_lies _ rfl _ _ 31 rfl 0 9 i0 _ 1 16 Tryz.underlying31 hi0 hz0 hz1 hz2 rfl (by decide) (.slice b k cap) k l2 rfl (ho2.out _ upB) ⟨w2.heap.size,0,none⟩ 1 1 [.string L] rfl rfl (fun j u hj=>by rw[Addr.add_lit,Nat.zero_add];match j,hj with|0,hj=>simp at hj;rw[<- hj];simp[go_sem]|j+1,hj=>simp at hj) (by intro u hu;simp at hu;rw[hu];rfl) om (by unfold maxLen;omega) om (Nat.zero_le _) _ rfl ?_;intro g3 cap3 w3 hown3 hgrow3 hat3 hlt3;have q3:Hid (P1 p x y d (.slice (some ⟨g3,0,none⟩) (k+1) cap3) (k+1) w3):=HAp.out _ _ _ _ _ _ _ _ l2 L _ _ _ (K1.out _ _ _ _ _ _ _ _ q2.out upB) hl2.out (ho2.out _ upB) hown3 hgrow3 hat3 hlt3;clear hown3 hgrow3 hat3 hlt3))
      go_roundw
      case rel=>exact⟨k+1,_,cap3,by omega,rfl,by go_num,q3.out⟩
      case measure=>simp[intOf];omega
    . obtain rfl:k=n:=by omega
      clear H3;have g1:=(C1.out _ _ _ _ _ _ _ hpk.out).2.2
      have hw1:IntKind.i64.wrap ((k:Int)-1)=(k:Int)-1:=wrap_mid _ om om
      have hw8:IntKind.i64.wrap ((k:Int)-8)=(k:Int)-8:=wrap_mid _ om om
      go_wp2_with (first
        | (go_at_call 28;refine(HC.out _ _ _ _ _ _ _ hpk.out).mono ?_;rintro e w2 ⟨dz,rfl,q2⟩;replace q2:Hid (P2 p x y d (.slice b k cap) k dz w2):=q2;clear g1 hpk)
        | (go_at_call 27;refine(HOx.out _ _ _ _ _ _ _ _ q6.out).mono ?_;rintro e w7 ⟨x7,rfl,q7⟩;replace q7:Hid (P4 p x y d (.slice b k cap) k x7 w7):=q7;have y7:=(C4.out _ _ _ _ _ _ _ _ q7.out).1;clear q6 g6)
        | (go_at_call 27;refine(HOz.out _ _ _ _ _ _ _ _ q2.out).mono ?_;rintro e w3 ⟨z,rfl,q3⟩;replace q3:Hid (P7 p x y d (.slice b k cap) k z w3):=q3;have y3:=C7.out _ _ _ _ _ _ _ _ q3.out;clear q2)
        | (go_at_call 29;refine(HSx.out _ _ _ _ _ _ _ _ q7.out).mono ?_;rintro e w8 ⟨rfl,q8⟩;replace q8:Hid (P4 p x y d (.slice b k cap) k x7 w8):=q8;have x8:=(C4.out _ _ _ _ _ _ _ _ q8.out).2.1;have f8:=(C4.out _ _ _ _ _ _ _ _ q8.out).2.2.1;have q9:Hid (P1 p x7 y d (.slice b k cap) k (w8.setCell ⟨p,0,none⟩ (.pointer (some ⟨x7,0,none⟩)))):=(C4.out _ _ _ _ _ _ _ _ q8.out).2.2.2;clear q7 y7 q8)
        | (go_at_call 29;refine(HSz.out _ _ _ _ _ _ _ _ q3.out).mono ?_;rintro e w4 ⟨rfl,q4⟩;replace q4:Hid (P3 p x y d (.slice b k cap) k z w4):=q4;clear y3 q3)
        | (go_at_call 16;refine(HDz.out _ _ _ _ _ _ _ _ _ q5.out).mono ?_;rintro e w6 ⟨a6,rfl,q6⟩;replace q6:Hid (P3 p x y d (.slice b k cap) k z w6):=q6;have g6:=(C3.out _ _ _ _ _ _ _ _ q6.out).2;clear q5)
        | (go_at_call 16;refine(HDz.out _ _ _ _ _ _ _ _ _ q4.out).mono ?_;rintro e w5 ⟨a5,rfl,q5⟩;replace q5:Hid (P3 p x y d (.slice b k cap) k z w5):=q5;clear q4))
      obtain⟨wv,hwv⟩:∃ wv,wv=w8.setCell ⟨p,0,none⟩ (.pointer (some ⟨x7,0,none⟩)):=⟨_,rfl⟩
      rw[<- hwv] at q9 ⊢;clear hwv x8 f8;go_loopw [18] (fun i wr=>∃ q:Int,-1<=q/\q<(k:Int)/\i=.int .i64 q/\P1 p x7 y d (.slice b k cap) k wr) (fun i _=>(intOf i+1).toNat)
      case atStart=>exact⟨(k:Int)-1,by omega,by omega,rfl,q9.out⟩
      case round =>
        obtain⟨q,hq0,hq1,rfl,hpq⟩:=hrel;replace hpq:Hid (P1 p x7 y d (.slice b k cap) k wr):=hpq;clear q9;by_cases hin:0<=q/\(k:Int)-8<=q
        . obtain⟨hq2,hq8⟩:=hin;obtain⟨j,rfl⟩:∃ j:Nat,q=(j:Int):=⟨q.toNat,by omega⟩
          have hjk:j<k:=by omega
          have hwj:IntKind.i64.wrap ((j:Int)-1)=(j:Int)-1:=wrap_mid _ om om
          obtain⟨gr,L,rfl,cL⟩:=HRd.out _ _ _ _ _ _ _ _ hpq.out j hjk;have x0:=(C1.out _ _ _ _ _ _ _ hpq.out).1
          go_wp2;go_region_held3 (fun w'=>w'.cell? ⟨p,0,none⟩=some (.pointer (some ⟨x7,0,none⟩))/\w'.cell? ⟨gr,j,none⟩=some (.string L)) (go_keep) ((go_at_call 16;refine(HDx.out _ _ _ _ gr k cap j L _ (K1.out _ _ _ _ _ _ _ _ hpq.out upB) hjk (by simp[go_sem,cL])).mono ?_;rintro e w2 ⟨a2,rfl,q2,cL2⟩;replace q2:Hid (P5 p x7 y d (.slice (some ⟨gr,0,none⟩) k cap) k L a2 w2):=q2;have y2:=(C5.out _ _ _ _ _ _ _ _ _ q2.out).2;have x2:=(C5.out _ _ _ _ _ _ _ _ _ q2.out).1;clear x0 cL))
          all_goals (
            go_wp2_with fail
            go_region_held3 (fun w'=>w'.cell? ⟨p,1,none⟩=some (.pointer (some ⟨y,0,none⟩))/\w'.cell? ⟨gr,j,none⟩=some (.string L)) (go_keep) ((go_at_call 16;refine(HDy.out _ _ _ _ gr k cap j L a2 _ (K5.out _ _ _ _ _ _ _ _ _ _ q2.out upB) (by simp[go_sem,cL2])).mono ?_;rintro e w3 ⟨rfl,q3,cL3⟩;replace q3:Hid (P1 p x7 y d (.slice (some ⟨gr,0,none⟩) k cap) k w3):=q3;have y3:=(C1.out _ _ _ _ _ _ _ q3.out).2.1;clear x2 y2 cL2 q2))
            all_goals (
              go_wp2_with fail
              go_roundw
              case rel=>exact⟨(j:Int)-1,by omega,by omega,by go_num,q3.out⟩
              case measure=>first|(simp[intOf];done)|(simp[intOf];omega)))
        . obtain⟨gd,hgd⟩:∃ gd:Bool,gd=decide (0<=q):=⟨_,rfl⟩
          rcases (show ¬0<=q\/(0<=q/\¬(k:Int)-8<=q) by omega) with hq2|⟨hq2,hq8⟩
          all_goals (
            clear hin hgd;go_wp2;go_loopw [21] (fun i wr=>∃ j:Nat,j<=m/\i=.int .i64 j/\P1 p x7 y d (.slice b k cap) k wr) (fun i _=>m-(intOf i).toNat)
            case atStart=>exact⟨0,by omega,rfl,hpq.out⟩
            case round =>
              obtain⟨j,hj,rfl,hpj⟩:=hrel;replace hpj:Hid (P1 p x7 y d (.slice b k cap) k wr):=hpj;clear hpq;by_cases hjm:j<m
              . obtain⟨sb,so,rfl,hst⟩:=H4.out om;have A:=hst _ _ _ _ _ _ wr hpj.out j hjm;have k0:=A.c0;have k1:=A.c1;have k2:=A.c2;have k3:=A.c3;have k4:=A.c4;have hA:Hid (SOk (fm j)):=A.ok
                have hwa:IntKind.i64.wrap ((k:Int)+(j:Int))=(k:Int)+(j:Int):=wrap_small _ om om
                clear A hst H4;go_wp2_with (go_at_call 26;refine(HBo.out _ _ _ _ _ _ _ ((k:Int)+(j:Int)) (fm j) hpj.out om om hA.out).mono ?_;rintro e w2 ⟨L,rfl,q2⟩;replace q2:Hid (P1 p x7 y d (.slice b k cap) k w2):=q2;clear k0 k1 k2 k3 k4)
                go_roundw
                case rel=>exact⟨j+1,by omega,by go_num,q2.out⟩
                case measure=>simp[intOf];omega
              . obtain rfl:j=m:=by omega
                clear H4;have x0:=(C1.out _ _ _ _ _ _ _ hpj.out).1
                have y0:=(C1.out _ _ _ _ _ _ _ hpj.out).2.1
                go_wp2;go_region_held3 (fun w'=>w'.cell? ⟨p,0,none⟩=some (.pointer (some ⟨x7,0,none⟩))/\w'.cell? ⟨p,1,none⟩=some (.pointer (some ⟨y,0,none⟩))) (go_keep) ((go_at_call 29;refine(HSf.out _ _ _ _ _ _ _ (K1.out _ _ _ _ _ _ _ _ hpj.out upB)).mono ?_;rintro e w2 ⟨rfl,q2⟩;replace q2:Hid (P1 p x7 y d (.slice b k cap) k w2):=q2;have g2:=(C1.out _ _ _ _ _ _ _ q2.out).2.2;have x2:=(C1.out _ _ _ _ _ _ _ q2.out).1;have y2:=(C1.out _ _ _ _ _ _ _ q2.out).2.1;clear x0 y0))
                all_goals (
                  go_wp2_with (first
                    | (go_at_call 30;refine(HSt.out _ _ _ _ _ _ _ (K1.out _ _ _ _ _ _ _ _ q2.out upB)).mono ?_;rintro e w3 ⟨rfl,q3⟩;replace q3:Hid (P6 p d w3):=q3;have g3:=C6.out _ _ _ q3.out;clear g2 q2)
                    | (go_at_call 27;refine(HOd.out _ _ _ q3.out).mono ?_;rintro e w4 ⟨rfl,q4⟩;replace q4:Hid (Below w.heap.size w w4):=q4;clear g3 q3))
                  go_ret;exact⟨by simp,q4.out⟩))
set_option maxRecDepth 100000 in
set_option maxHeartbeats 400000 in
theorem open_down (d:Nat) (w:World) (HS:Hid (Calls Tryz.prog 31 #[.pointer (some ⟨d,0,none⟩)] w fun e w'=>e=.returned (.bool true)/\w'=w)) :
    Calls Tryz.prog 27 #[.pointer (some ⟨d,0,none⟩)] w fun e w'=>e=.returned (.tuple #[.pointer none,.int .i64 3])/\Below w.heap.size w w':=by
  go_enter Tryz.func27,Tryz.ntmps27
  go_wp2_with (go_at_call 31;refine HS.out.mono ?_;rintro e w1 ⟨rfl,h1⟩;obtain rfl:w=w1:=h1.symm)
  have hfin:Ending.returned (Value.tuple #[.pointer none,.int .i64 3])=.returned (.tuple #[.pointer none,.int .i64 3])/\Below w.heap.size w w:=⟨rfl,Below.refl _ _⟩
  exact bodyPost_ret (v:=.tuple #[.pointer none,.int .i64 3]) (by simp[results,Tryz.results27]) rfl hfin
theorem leftP_ok {left n:Int} {st:Bool} (h1:left=-1) (h2:st=false) (hn:0<=n):leftP left st n=n:=by
  subst h1;subst h2
  unfold leftP;rw[if_neg (by decide),if_neg om]
def Re2 (w:World) (p x y d:Nat) (v:Value) (k dz:Nat) (W:World):Prop:=∃ ρ dy s,Two w ρ W x d y dy s s/\Pl ρ W p x y d/\Lr ρ W v k/\DkH ρ 2 W dz (snapT s)
def Re7 (w:World) (p x y d:Nat) (v:Value) (k z:Nat) (W:World):Prop:=∃ ρ dy s dz,Two w ρ W x d y dy s s/\Pl ρ W p x y d/\Lr ρ W v k/\Hb ρ 2 W z dz s
def Re3 (w:World) (p x y d:Nat) (v:Value) (k z:Nat) (W:World):Prop:=∃ ρ dy s dz sz,Two w ρ W x d y dy s s/\Pl ρ W p x y d/\Lr ρ W v k/\Hb ρ 2 W z dz sz
def Re4 (w:World) (p x y d:Nat) (v:Value) (k x':Nat) (W:World):Prop:=∃ ρ dy s,Two w ρ W x' d y dy s s/\Pl ρ W p x y d/\Lr ρ W v k
def Re6 (w:World) (p d:Nat) (W:World):Prop:=∃ ρ x y A,Pl ρ W p x y d/\DAt ρ 0 W d A/\stS A.left A.st=true/\Below w.heap.size w W
theorem Re.crash {w:World} {p x y d:Nat} {v:Value} {k:Nat} {W:World} (h:Re w p x y d v k W) (vl:Value) (L:List Int) (hL:IntsAt w vl L) (hLm:L.length<=2097152):Calls Tryz.prog 28 #[.pointer (some ⟨d,0,none⟩),vl] W fun e w'=>∃ dz,e=.returned (.pointer (some ⟨dz,0,none⟩))/\Re2 w p x y d v k dz w':=by
  obtain⟨ρ,dy,s,h1,h2,h3⟩:=h;obtain⟨⟨A,d1,d2,d3⟩,d4⟩:=h1.hx.dk;have hL':IntsAt W vl L:=by
    obtain⟨a,c,rfl,q1,q2,q3⟩:=hL;refine⟨a,c,rfl,q1,q2,fun hl=>?_⟩
    obtain⟨b,o,rfl,hb,hc⟩:=q3 hl;exact⟨b,o,rfl,Nat.lt_of_lt_of_le hb h1.low.size,fun j hj=>(h1.low.cell (p:=⟨b,o+j,none⟩) hb).trans (hc j hj)⟩
  refine(crash_on 2 d1 d4 d3 vl L hL' hLm).mono ?_
  rintro e w' ⟨rfl,ρ',a1,a2,a3⟩
  exact⟨_,rfl,ρ',dy,s,⟨h1.hx.calm a2,h1.hy.calm a2,a2.ro h1.low h1.ro,a2.low h1.low h1.ro (fun q=>q)⟩,h2.step a2 (fun q=>q),h3.step a2 (fun q=>q),a1⟩
theorem Re2.openz {w:World} (E:EnvT w) (hZ:10<=w.heap.size) {p x y d:Nat} {v:Value} {k:Nat} {W:World} {dz:Nat} (h:Re2 w p x y d v k dz W):Calls Tryz.prog 27 #[.pointer (some ⟨dz,0,none⟩)] W fun e w'=>∃ z,e=.returned (.tuple #[.pointer (some ⟨z,0,none⟩),.int .i64 0])/\Re7 w p x y d v k z w':=by
  obtain⟨ρ,dy,s,h1,h2,h3,h4⟩:=h;refine(dk_open h4 h1.clean h1.hx.kp (E.mono h1.low) (Nat.le_trans hZ h1.low.size)).mono ?_
  rintro e w' ⟨z,ρ',rfl,a1,a2,a3⟩
  exact⟨z,rfl,ρ',dy,s,dz,h1.calm a2 a3,h2.step a2 (fun q=>q),h3.step a2 (fun q=>q),a1⟩
theorem Re7.shows {w:World} (E:EnvT w) (hZ:10<=w.heap.size) {p x y d:Nat} {v:Value} {k:Nat} {W:World} {z:Nat} (h:Re7 w p x y d v k z W):Calls Tryz.prog 29 #[.pointer (some ⟨z,0,none⟩),.pointer (some ⟨y,0,none⟩)] W fun e w'=>e=.returned (.bool true)/\Re3 w p x y d v k z w':=by
  obtain⟨ρ,dy,s,dz,h1,h2,h3,h4⟩:=h;refine(shows_any w (fun _=>False) z y s s E hZ h4.kp.inv h4.kp.good h4.kp.inv h4.kp.good (told_short h4.kp.inv) W (h4.hb (fun q e=>⟨h1.ro q e,fun k=>k⟩) h1.low) h1.hby).mono ?_
  rintro e w' ⟨rfl,hb⟩
  have S:Stp (fun _=>False) ρ ρ W w':=Stp.below h1.clean hb
  exact⟨by simp,ρ,dy,s,dz,s,h1.below hb,h2.step S (fun q=>q),h3.step S (fun q=>q),h4.calm S⟩
theorem Re3.doz {w:World} (E:EnvT w) (hZ:10<=w.heap.size) {p x y d:Nat} {v:Value} {k:Nat} {W:World} {z:Nat} (h:Re3 w p x y d v k z W) (L:ByteArray):Calls Tryz.prog 16 #[.pointer (some ⟨z,0,none⟩),.string L] W fun e w'=>∃ a,e=.returned (.string a)/\Re3 w p x y d v k z w':=by
  obtain⟨ρ,dy,s,dz,sz,h1,h2,h3,h4⟩:=h;refine(hb3_do h4 L (E.mono h1.low) (fun q e=>Nat.le_trans hZ (h1.ro q e)) (Nat.le_trans hZ h1.low.size)).mono ?_
  rintro e w' ⟨rfl,ρ',a1,a2⟩
  exact⟨_,rfl,ρ',dy,s,dz,_,⟨h1.hx.by om a2,h1.hy.by om a2,a2.ro h1.low h1.ro,a2.low h1.low h1.ro (rok0 2)⟩,h2.step a2 (rok_no 2 _ om om),h3.step a2 (rok_no 2 _ om om),a1⟩
theorem Re3.openx {w:World} (E:EnvT w) (hZ:10<=w.heap.size) {p x y d:Nat} {v:Value} {k:Nat} {W:World} {z:Nat} (h:Re3 w p x y d v k z W):Calls Tryz.prog 27 #[.pointer (some ⟨d,0,none⟩)] W fun e w'=>∃ x',e=.returned (.tuple #[.pointer (some ⟨x',0,none⟩),.int .i64 0])/\Re4 w p x y d v k x' w':=by
  obtain⟨ρ,dy,s,dz,sz,h1,h2,h3,h4⟩:=h;refine(hb3_open h1.hx (E.mono h1.low) (Nat.le_trans hZ h1.low.size)).mono ?_
  rintro e w' ⟨x',ρ',rfl,a1,a2,a3⟩
  exact⟨x',rfl,ρ',dy,s,⟨a1,h1.hy.calm a2,a2.ro h1.low h1.ro,a2.low h1.low h1.ro (fun q=>q)⟩,h2.step a2 (fun q=>q),h3.step a2 (fun q=>q)⟩
theorem Re4.shows {w:World} (E:EnvT w) (hZ:10<=w.heap.size) {p x y d:Nat} {v:Value} {k:Nat} {W:World} {x':Nat} (h:Re4 w p x y d v k x' W):Calls Tryz.prog 29 #[.pointer (some ⟨x',0,none⟩),.pointer (some ⟨y,0,none⟩)] W fun e w'=>e=.returned (.bool true)/\Re4 w p x y d v k x' w':=by
  obtain⟨ρ,dy,s,h1,h2,h3⟩:=h;refine(shows_any w (fun _=>False) x' y s s E hZ h1.hx.kp.inv h1.hx.kp.good h1.hy.kp.inv h1.hy.kp.good (told_short h1.hx.kp.inv) W h1.hbx h1.hby).mono ?_
  rintro e w' ⟨rfl,hb⟩
  have S:Stp (fun _=>False) ρ ρ W w':=Stp.below h1.clean hb
  exact⟨by simp,ρ,dy,s,h1.below hb,h2.step S (fun q=>q),h3.step S (fun q=>q)⟩
theorem Re4.put {w:World} {p x y d:Nat} {v:Value} {k:Nat} {W:World} {x':Nat} (h:Re4 w p x y d v k x' W):Re w p x' y d v k (W.setCell ⟨p,0,none⟩ (.pointer (some ⟨x',0,none⟩))):=by
  obtain⟨ρ,dy,s,h1,h2,h3⟩:=h;have S:Stp (fun r=>r=100) ρ ρ W (W.setCell ⟨p,0,none⟩ (.pointer (some ⟨x',0,none⟩))):=Stp.set h1.clean h2.2 0 _
  have n0:∀ k' r,k'<=2->ROk k' r->¬r=100:=fun k' r hk hr=>by unfold ROk at hr;omega
  have hac:∀ {x d s} k',k'<=2->Hb ρ k' W x d s->Hb ρ k' (W.setCell ⟨p,0,none⟩ (.pointer (some ⟨x',0,none⟩))) x d s:=fun k' hk hh=>by
    obtain⟨A,b,c,q1,q2,q3⟩:=hh.ac;exact⟨⟨A,b,c,q1.other S om om om om om,q2,q3⟩,hh.kp⟩
  refine⟨ρ,dy,s,⟨hac 0 om h1.hx,hac 1 om h1.hy,h1.ro,S.low h1.low h1.ro om⟩,⟨?_,h2.2⟩,h3.step S om⟩
  exact Blk.set h2.1 0 _
theorem Re.stop {w:World} {p x y d:Nat} {v:Value} {k:Nat} {W:World} (h:Re w p x y d v k W):Calls Tryz.prog 30 #[.pointer (some ⟨d,0,none⟩),.int .i64 0] W fun e w'=>e=.returned (.tuple #[])/\Re6 w p d w':=by
  obtain⟨ρ,dy,s,h1,h2,h3⟩:=h;obtain⟨⟨A,d1,d2,d3⟩,d4⟩:=h1.hx.dk;refine(stop_at ρ 0 W d A 0 d4 om om d1).mono ?_
  rintro e w' ⟨rfl,a1,a2⟩
  refine⟨rfl,ρ,x,y,_,h2.step a2 (rdk_no 0 _ om om),a1,?_,a2.low h1.low h1.ro (rdk0 0)⟩
  rw[leftP_ok d2.1 d2.2 (Int.le_refl 0),d2.2];rfl
theorem Re6.down {w:World} {p d:Nat} {W:World} (h:Re6 w p d W):Calls Tryz.prog 27 #[.pointer (some ⟨d,0,none⟩)] W fun e w'=>e=.returned (.tuple #[.pointer none,.int .i64 3])/\Below w.heap.size w w':=by
  obtain⟨ρ,x,y,A,h1,h2,h3,h4⟩:=h;have hs:=stopped_at ρ 0 W d A h2;rw[h3] at hs;refine(open_down d W hs).mono ?_
  rintro e w' ⟨rfl,hb⟩
  exact⟨rfl,h4.trans (hb.mono h4.size)⟩
theorem reopened_walk (v vm vl:Value) (n m:Nat) (f fm:Nat->SV) (L:List Int) (w:World) (E:EnvT w) (hZ:10<=w.heap.size) (hS:StpsAt w v n f) (hM:StpsAt w vm m fm) (hL:IntsAt w vl L) (hn:n<=1048576) (hm:m<=1048576) (hLm:L.length<=2097152) :
    Calls Tryz.prog 8 #[v,vm,vl] w fun e w'=>e=.returned (.bool true)/\Below w.heap.size w w':=by
  obtain⟨av,cv,rfl,_,_,h3⟩:=hS;obtain⟨am,cm,rfl,_,_,h4⟩:=hM;have hL0:=hL;obtain⟨al,cl,rfl,_,_,_⟩:=hL;refine reopened_go w n m hn hm av am al cv cm L.length cl f fm (Re w) (Re2 w) (Re3 w) (Re4 w) (Re7 w) (Re5 w) (Re6 w)
    ?_ ?_ ?_ ?_ ?_ ?_ ?_ ?_ ?_ ?_ ?_ ?_ ?_ ?_ ?_ ?_ ?_ ?_ ?_ ?_ ?_ ?_ ?_ ?_ ?_ ?_
  . intro h0;obtain⟨b,o,rfl,hb,hst⟩:=h3 h0;exact⟨b,o,rfl,fun p x y d v k wr hr i hi=>(hst i hi).below hr.low⟩
  . intro h0;obtain⟨b,o,rfl,hb,hst⟩:=h4 h0;exact⟨b,o,rfl,fun p x y d v k wr hr i hi=>(hst i hi).below hr.low⟩
  . intro _;refine(paired_any w E hZ (fun W E' hZ'=>awake_any W E' hZ')).mono ?_
    rintro e w' ⟨p,x,y,d,dy,ρ,rfl,a1,a2,a3,a4⟩
    exact⟨p,x,y,d,rfl,ρ,dy,bk0,a4,⟨a1,a3⟩,Lr.nil _ _⟩
  . exact fun p x y d v k W W' h hb=>h.below hb
  . exact fun p x y d v k L a W W' h hb=>h.below hb
  . rintro p x y d v k W ⟨ρ,dy,s,h1,h2,h3⟩
    exact⟨h2.1.cell 0,h2.1.cell 1,h2.1.cell 2⟩
  . rintro p x y d v k z W ⟨ρ,dy,s,dz,sz,h1,h2,h3,h4⟩
    exact⟨h2.1.cell 1,h2.1.cell 2⟩
  . rintro p x y d v k z W ⟨ρ,dy,s,dz,h1,h2,h3,h4⟩
    exact h2.1.cell 1
  . intro p x y d v k x' W h;have h':=h;obtain⟨ρ,dy,s,h1,h2,h3⟩:=h;exact⟨h2.1.cell 1,h2.1.cell 0,h2.1.frozen 0,h'.put⟩
  . rintro p x y d v k L a W ⟨ρ,dy,s,h1,h2,h3,h4⟩
    exact⟨h2.1.cell 0,h2.1.cell 1⟩
  . rintro p d W ⟨ρ,x,y,A,h1,h2,h3,h4⟩
    exact h1.1.cell 2
  . rintro p x y d b k cap W ⟨ρ,dy,s,h1,h2,l,h3,h4,h5⟩
    refine⟨l,h3,fun W' hb=>?_⟩
    obtain⟨l',q1,q2,q3⟩:∃ l',l'=l/\W'.ownsRow 0 9 1 (.slice b k cap) k l'/\True:=by
      refine⟨l,rfl,⟨h4.1,?_⟩,trivial⟩
      have hlt:=h4.lt;rcases h4.2 with hn|⟨g,cap,cur,e,hb',hg,rest⟩
      . exact .inl hn
      . refine .inr ⟨g,cap,cur,e,hb',?_,rest⟩
        cases e;rw[hb.block g (hlt g rfl).2];exact hg
    rw[<- q1];exact q2
  . rintro p x y d b k cap W l L g cap3 w3 ⟨ρ,dy,s,h1,h2,l',h3,h4,h5⟩ hl ho ho3 hg hat hlt
    have S:Stp (fun r=>r=101) ρ (ru ρ g 101) W w3:=Stp.grown h1.clean hg h5 rfl hat hlt
    have hac:∀ {x d s} k',k'<=2->Hb ρ k' W x d s->Hb (ru ρ g 101) k' w3 x d s:=fun k' hk hh=>by
      obtain⟨A,b,c,q1,q2,q3⟩:=hh.ac;exact⟨⟨A,b,c,q1.other S om om om om om,q2,q3⟩,hh.kp⟩
    refine⟨ru ρ g 101,dy,s,⟨hac 0 om h1.hx,hac 1 om h1.hy,S.ro h1.low h1.ro,S.low h1.low h1.ro om⟩,h2.step S om,l++[.string L],?_,ho3,fun b' hb'=>?_⟩
    . intro u hu;rcases List.mem_append.1 hu with hu|hu
      . exact hl u hu
      . exact⟨L,by simpa using hu⟩
    . obtain rfl:g=b':=by simpa[Value.ownBlock] using hb'
      exact ru_at _ _ _
  . rintro p x y d b k cap W ⟨ρ,dy,s,h1,h2,l,h3,h4,h5⟩ j hj
    obtain⟨g,cap',e⟩:∃ g cap',Value.slice b k cap=.slice (some ⟨g,0,none⟩) k cap':=by
      rcases h4.2 with⟨_,e⟩|⟨g,cap',_,e,_⟩
      . omega
      . exact⟨g,cap',e⟩
    cases e;have hc:=h4.cellAt j om;have hjl:j<l.length:=by rw[h4.1];omega
    obtain⟨L,hL⟩:=h3 l[j] (List.getElem_mem hjl)
    exact⟨g,L,rfl,by rw[hc,List.getElem?_eq_getElem hjl,hL]⟩
  . intro p x y d v k W i so h i0 i1 hso;exact both_any E hZ h i i0 i1 so hso
  . exact fun p x y d v k W h=>h.crash _ L hL0 hLm
  . exact fun p x y d v k dz W h=>h.openz E hZ
  . exact fun p x y d v k z W h=>h.shows E hZ
  . exact fun p x y d v k z L W h=>h.doz E hZ L
  . exact fun p x y d v k z W h=>h.openx E hZ
  . exact fun p x y d v k x' W h=>h.shows E hZ
  . intro p x y d g k cap j L W h hj hc;refine(Re.dox E hZ h L).mono ?_
    rintro e w' ⟨a,rfl,b1,b2⟩
    exact⟨a,rfl,b1,b2 g j _ rfl hc⟩
  . intro p x y d g k cap j L a W h hc;refine(Re5.doy E hZ h).mono ?_
    rintro e w' ⟨rfl,b1,b2⟩
    exact⟨rfl,b1,b2 g j _ rfl hc⟩
  . exact fun p x y d v k W h=>Re.shows E hZ h
  . exact fun p x y d v k W h=>h.stop
  . exact fun p d W h=>h.down
end Go.Proofs.YtjnhhnbgjjkkjaaGreatDoor
