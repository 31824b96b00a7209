/-
  HtA, HtB, HtC
-/
import Derived.Deep.CutRange
import Derived.Test.YtjnhhnbgjjkkjaaGreatDoorBesidesPAA
import Derived.Test.YtjnhhnbgjjkkjaaGreatDoorBesidesPBT
import Derived.Test.YtjnhhnbgjjkkjaaGreatDoorBesidesPAO
import Derived.Test.YtjnhhnbgjjkkjaaGreatDoorBesidesPBW
import Derived.Test.YtjnhhnbgjjkkjaaGreatDoorBesidesPBQ
import Derived.Test.YtjnhhnbgjjkkjaaGreatDoorBesidesPBA
namespace Go.Proofs.YtjnhhnbgjjkkjaaGreatDoor
open Go.Conc Go.ChangeShapes Go.WideShapes Go.ChangeAt Go.RowKit
set_option linter.unusedVariables false
set_option linter.unusedSimpArgs false
set_option maxRecDepth 100000 in
set_option maxHeartbeats 2000000 in
theorem halted_go (w:World) (n:Nat) (hn6:n<=1048576) (av al:Option Addr) (cv nl cl:Nat) (f:Nat->SV) (st sp:Int)
    (Q0 Q1:Nat->Nat->Nat->Nat->World->Prop) (TT LL:ByteArray->Prop) (Q2 Q3:Nat->Nat->Nat->Nat->ByteArray->World->Prop) (QA:Nat->Nat->Nat->Nat->ByteArray->ByteArray->World->Prop)
    (R1:Nat->Nat->ByteArray->Nat->World->Prop) (R2:Nat->Nat->ByteArray->Nat->Nat->World->Prop) (R3:Nat->Nat->ByteArray->Nat->Nat->Value->World->Prop) (R4 R6:Nat->Nat->ByteArray->Nat->Nat->Value->Nat->World->Prop) (R5:Nat->Nat->ByteArray->Nat->Nat->Value->Nat->Nat->World->Prop) (R7 R8:Nat->Nat->ByteArray->Nat->Value->Nat->World->Prop) (R9:Nat->Nat->ByteArray->Nat->Value->Value->World->Prop) (R10:Nat->Nat->ByteArray->Nat->World->Prop) (R11:Nat->Nat->ByteArray->Nat->ByteArray->World->Prop) (R12:Nat->Nat->Nat->World->Prop)
    (H3:Hid (0<n->∃ b o,av=some ⟨b,o,none⟩/\∀ p x y d wr,Q1 p x y d wr->∀ i,i<n->StpAt wr b (o+i*5) (f i)))
    (H0:Hid (∀ (_:Unit),Calls Tryz.prog 25 #[] w fun e w'=>∃ p x y d,e=.returned (.pointer (some ⟨p,0,none⟩))/\Q0 p x y d w'))
    (K0:Hid (∀ p x y d W W',Q0 p x y d W->Below W.heap.size W W'->Q0 p x y d W'))
    (K1:Hid (∀ p x y d W W',Q1 p x y d W->Below W.heap.size W W'->Q1 p x y d W'))
    (C0:Hid (∀ p x y d W,Q0 p x y d W->W.cell? ⟨p,2,none⟩=some (.pointer (some ⟨d,0,none⟩))))
    (HPk:Hid (∀ W,Calls Tryz.prog 20 #[.int .i64 st,.int .i64 400] W fun e w'=>e=.returned (.int .i64 sp)/\w'=W))
    (HSp:Hid (∀ p x y d W,Q0 p x y d W->Calls Tryz.prog 30 #[.pointer (some ⟨d,0,none⟩),.int .i64 sp] W fun e w'=>e=.returned (.tuple #[])/\Q1 p x y d w'))
    (C1:Hid (∀ p x y d W,Q1 p x y d W->W.cell? ⟨p,0,none⟩=some (.pointer (some ⟨x,0,none⟩))/\W.cell? ⟨p,1,none⟩=some (.pointer (some ⟨y,0,none⟩))/\W.cell? ⟨p,2,none⟩=some (.pointer (some ⟨d,0,none⟩))))
    (HN:Hid (∀ W (k:Nat),k<=1048576->Calls Tryz.prog 15 #[.string ⟨#[116]⟩,.int .i64 k] W fun e w'=>∃ t,e=.returned (.string t)/\TT t/\Below W.heap.size W w'))
    (HL:Hid (∀ p x y d W t (so:SV),Q1 p x y d W->TT t->SOk so->Calls Tryz.prog 14 #[.pointer (some ⟨y,0,none⟩),.string t,.agg #[.int .i64 so.k,.int .i64 so.o,.int .i64 so.p,.int .i64 so.a,.int .i64 so.b]] W fun e w'=>∃ L,e=.returned (.string L)/\LL L/\Q1 p x y d w'))
    (HLn:Hid (∀ L,LL L->(L.toList==[])=false))
    (HDx:Hid (∀ p x y d L W,Q1 p x y d W->LL L->Calls Tryz.prog 16 #[.pointer (some ⟨x,0,none⟩),.string L] W fun e w'=>∃ a:ByteArray,e=.returned (.string a)/\((a=⟨#[]⟩/\Q3 p x y d L w')\/((a.toList==[])=false/\QA p x y d L a w'))))
    (CA:Hid (∀ p x y d L a W,QA p x y d L a W->W.cell? ⟨p,1,none⟩=some (.pointer (some ⟨y,0,none⟩))))
    (HDy:Hid (∀ p x y d L a W,QA p x y d L a W->Calls Tryz.prog 16 #[.pointer (some ⟨y,0,none⟩),.string L] W fun e w'=>e=.returned (.string a)/\Q1 p x y d w'))
    (C3:Hid (∀ p x y d L W,Q3 p x y d L W->W.cell? ⟨p,0,none⟩=some (.pointer (some ⟨x,0,none⟩))/\W.cell? ⟨p,2,none⟩=some (.pointer (some ⟨d,0,none⟩))))
    (HD3:Hid (∀ p x y d L W,Q3 p x y d L W->Calls Tryz.prog 16 #[.pointer (some ⟨x,0,none⟩),.string ⟨#[80,79,79,76,83]⟩] W fun e w'=>e=.returned (.string ⟨#[]⟩)/\Q3 p x y d L w'))
    (HSd:Hid (∀ p x y d L W,Q3 p x y d L W->Calls Tryz.prog 31 #[.pointer (some ⟨d,0,none⟩)] W fun e w'=>e=.returned (.bool true)/\Q2 p x y d L w'))
    (H12:Hid (∀ p x y d W,Q1 p x y d W->Q2 p x y d ⟨#[]⟩ W))
    (C2:Hid (∀ p x y d L W,Q2 p x y d L W->W.cell? ⟨p,2,none⟩=some (.pointer (some ⟨d,0,none⟩))))
    (HCr:Hid (∀ p x y d L W,Q2 p x y d L W->Calls Tryz.prog 28 #[.pointer (some ⟨d,0,none⟩),.slice al nl cl] W fun e w'=>∃ dd,e=.returned (.pointer (some ⟨dd,0,none⟩))/\R1 p y L dd w'))
    (HOz:Hid (∀ p y L dd W,R1 p y L dd W->Calls Tryz.prog 27 #[.pointer (some ⟨dd,0,none⟩)] W fun e w'=>∃ z,e=.returned (.tuple #[.pointer (some ⟨z,0,none⟩),.int .i64 0])/\R2 p y L dd z w'))
    (HTz:Hid (∀ p y L dd z W,R2 p y L dd z W->Calls Tryz.prog 13 #[.pointer (some ⟨z,0,none⟩)] W fun e w'=>∃ b m c,e=.returned (.tuple #[.slice b m c,.bool true])/\R3 p y L dd z (.slice b m c) w'))
    (HC1:Hid (∀ p y L dd z v W,R3 p y L dd z v W->Calls Tryz.prog 28 #[.pointer (some ⟨dd,0,none⟩),.slice none 0 0] W fun e w'=>∃ c1,e=.returned (.pointer (some ⟨c1,0,none⟩))/\R4 p y L dd z v c1 w'))
    (HC2:Hid (∀ p y L dd z v c1 W,R4 p y L dd z v c1 W->Calls Tryz.prog 28 #[.pointer (some ⟨dd,0,none⟩),.slice none 0 0] W fun e w'=>∃ c2,e=.returned (.pointer (some ⟨c2,0,none⟩))/\R5 p y L dd z v c1 c2 w'))
    (HO2:Hid (∀ p y L dd z v c1 c2 W,R5 p y L dd z v c1 c2 W->Calls Tryz.prog 27 #[.pointer (some ⟨c2,0,none⟩)] W fun e w'=>∃ t,e=.returned (.tuple #[.pointer (some ⟨t,0,none⟩),.int .i64 0])/\R6 p y L z t v c1 w'))
    (HD2:Hid (∀ p y L z t v c1 M W,R6 p y L z t v c1 W->Calls Tryz.prog 16 #[.pointer (some ⟨t,0,none⟩),.string M] W fun e w'=>∃ a,e=.returned (.string a)/\R7 p y L z v c1 w'))
    (HO1:Hid (∀ p y L z v c1 W,R7 p y L z v c1 W->Calls Tryz.prog 27 #[.pointer (some ⟨c1,0,none⟩)] W fun e w'=>∃ u,e=.returned (.tuple #[.pointer (some ⟨u,0,none⟩),.int .i64 0])/\R8 p y L z v u w'))
    (HT1:Hid (∀ p y L z v u W,R8 p y L z v u W->Calls Tryz.prog 13 #[.pointer (some ⟨u,0,none⟩)] W fun e w'=>∃ b m c,e=.returned (.tuple #[.slice b m c,.bool true])/\R9 p y L z v (.slice b m c) w'))
    (HAl:Hid (∀ p y L z v v' W,R9 p y L z v v' W->Calls Tryz.prog 18 #[v,v'] W fun e w'=>e=.returned (.bool true)/\R10 p y L z w'))
    (H10:Hid (∀ p y z W,R10 p y ⟨#[]⟩ z W->R12 p y z W))
    (HDz:Hid (∀ p y L z W,R10 p y L z W->LL L->Calls Tryz.prog 16 #[.pointer (some ⟨z,0,none⟩),.string L] W fun e w'=>∃ a,e=.returned (.string a)/\R11 p y L z a w'))
    (C11:Hid (∀ p y L z a W,R11 p y L z a W->W.cell? ⟨p,1,none⟩=some (.pointer (some ⟨y,0,none⟩))))
    (HDf:Hid (∀ p y L z a W,R11 p y L z a W->Calls Tryz.prog 16 #[.pointer (some ⟨y,0,none⟩),.string L] W fun e w'=>e=.returned (.string a)/\R12 p y z w'))
    (C12:Hid (∀ p y z W,R12 p y z W->W.cell? ⟨p,1,none⟩=some (.pointer (some ⟨y,0,none⟩))))
    (HS:Hid (∀ p y z W,R12 p y z W->Calls Tryz.prog 29 #[.pointer (some ⟨z,0,none⟩),.pointer (some ⟨y,0,none⟩)] W fun e w'=>e=.returned (.bool true)/\Below w.heap.size w w')) :
    Calls Tryz.prog 9 #[.slice av n cv,.int .i64 st,.slice al nl cl] w fun e w'=>e=.returned (.bool true)/\Below w.heap.size w w':=by
  go_enter Tryz.func9,Tryz.ntmps9
  go_wp2_with (go_at_call 25;refine(H0.out ()).mono ?_;rintro e w1 ⟨p,x,y,d,rfl,q1⟩;replace q1:Hid (Q0 p x y d w1):=q1;have d1:=C0.out _ _ _ _ _ q1.out)
  go_region_held3 (fun w'=>w'.cell? ⟨p,2,none⟩=some (.pointer (some ⟨d,0,none⟩))) (go_keep) (first
    | (go_at_call 20;refine(HPk.out _).mono ?_;rintro e w2 ⟨rfl,rfl⟩)
    | (go_at_call 30;refine(HSp.out _ _ _ _ _ (K0.out _ _ _ _ _ _ q1.out upB)).mono ?_;rintro e w3 ⟨rfl,q3⟩;replace q3:Hid (Q1 p x y d w3):=q3;have d3:=(C1.out _ _ _ _ _ q3.out).2.2))
  all_goals (
    clear d1 q1 d3;go_wp2_with fail
    go_loopw [8,9] (fun l i wr=>∃ k:Nat,k<=n/\l=.string ⟨#[]⟩/\i=.int .i64 k/\Q1 p x y d wr) (fun _ i _=>n-(intOf i).toNat)
    case atStart=>exact⟨0,by omega,rfl,rfl,by first|exact q3.out|exact K1.out _ _ _ _ _ _ q3.out upB⟩
    case round =>
      obtain⟨k,hk,rfl,rfl,hpk⟩:=hrel;replace hpk:Hid (Q1 p x y d wr):=hpk;clear q3;by_cases hlt:k<n
      . obtain⟨b,o,rfl,hst⟩:=H3.out om;have HST:Hid (∀ wr,Q1 p x y d wr->StpAt wr b (o+k*5) (f k)):=fun wr h=>hst _ _ _ _ wr h k hlt
        have A:=HST.out wr hpk.out;have k0:=A.c0;have k1:=A.c1;have k2:=A.c2;have k3:=A.c3;have k4:=A.c4;have hA:Hid (SOk (f k)):=A.ok
        have y0:=(C1.out _ _ _ _ _ hpk.out).2.1
        clear A hst H3;have hkn:k<=1048576:=by omega
        go_wp2;go_region_held3 (fun w'=>w'.cell? ⟨p,1,none⟩=some (.pointer (some ⟨y,0,none⟩))/\w'.cell? ⟨b,o+k*5,none⟩=some (.int .i64 (f k).k)/\w'.cell? ⟨b,o+k*5+1,none⟩=some (.int .i64 (f k).o)/\w'.cell? ⟨b,o+k*5+2,none⟩=some (.int .i64 (f k).p)/\w'.cell? ⟨b,o+k*5+3,none⟩=some (.int .i64 (f k).a)/\w'.cell? ⟨b,o+k*5+4,none⟩=some (.int .i64 (f k).b)) (go_keep) (first
          | (go_at_call 15;refine(HN.out _ k hkn).mono ?_;rintro e w4 ⟨t,rfl,ht,hq4⟩;have q4:Hid (Q1 p x y d w4):=K1.out _ _ _ _ _ _ (K1.out _ _ _ _ _ _ hpk.out upB) hq4;replace ht:Hid (TT t):=ht;have A:=HST.out w4 q4.out;have l0:=A.c0;have l1:=A.c1;have l2:=A.c2;have l3:=A.c3;have l4:=A.c4;have y4:=(C1.out _ _ _ _ _ q4.out).2.1;clear A hq4 k0 k1 k2 k3 k4 y0)
          | (go_at_call 14;refine(HL.out _ _ _ _ _ t (f k) (K1.out _ _ _ _ _ _ q4.out upB) ht.out hA.out).mono ?_;rintro e w5 ⟨L,rfl,hL,q5⟩;have hLn:=HLn.out L hL;replace hL:Hid (LL L):=hL;replace q5:Hid (Q1 p x y d w5):=q5;have A:=HST.out w5 q5.out;have m0:=A.c0;have m1:=A.c1;have m2:=A.c2;have m3:=A.c3;have m4:=A.c4;have x5:=(C1.out _ _ _ _ _ q5.out).1;have y5:=(C1.out _ _ _ _ _ q5.out).2.1;clear A l0 l1 l2 l3 l4 y4))
        all_goals (
          clear m0 m1 m2 m3 m4 y5;go_upto_region 11 with (go_at_call 16;refine(HDx.out _ _ _ _ L _ (K1.out _ _ _ _ _ _ q5.out upB) hL.out).mono ?_;rintro e w6 ⟨a6,rfl,q6⟩;replace q6:Hid ((a6=⟨#[]⟩/\Q3 p x y d L w6)\/((a6.toList==[])=false/\QA p x y d L a6 w6)):=q6)
          rcases q6.out with⟨rfl,q7⟩|⟨ha6,q7⟩
          . replace q7:Hid (Q3 p x y d L w6):=q7;have x7:=(C3.out _ _ _ _ _ _ q7.out).1
            clear q6 x5 q5 hpk HST;go_wp2_with (first
              | (go_at_call 16;refine(HD3.out _ _ _ _ _ _ q7.out).mono ?_;rintro e w8 ⟨rfl,q8⟩;replace q8:Hid (Q3 p x y d L w8):=q8;have d8:=(C3.out _ _ _ _ _ _ q8.out).2;clear x7 q7)
              | (go_at_call 31;refine(HSd.out _ _ _ _ _ _ q8.out).mono ?_;rintro e w9 ⟨rfl,q9⟩;replace q9:Hid (Q2 p x y d L w9):=q9;have d9:=C2.out _ _ _ _ _ _ q9.out;clear d8 q8)
              | (go_at_call 28;refine(HC2.out _ _ _ _ _ _ _ _ qd.out).mono ?_;rintro e w14 ⟨c2,rfl,qe⟩;replace qe:Hid (R5 p y L dd z (.slice b12 m12 c12) c1 c2 w14):=qe;clear qd)
              | (go_at_call 28;refine(HC1.out _ _ _ _ _ _ _ qc.out).mono ?_;rintro e w13 ⟨c1,rfl,qd⟩;replace qd:Hid (R4 p y L dd z (.slice b12 m12 c12) c1 w13):=qd;clear qc)
              | (go_at_call 28;refine(HCr.out _ _ _ _ _ _ q9.out).mono ?_;rintro e w10 ⟨dd,rfl,qa⟩;replace qa:Hid (R1 p y L dd w10):=qa;clear d9;clear q9)
              | (go_at_call 27;refine(HO1.out _ _ _ _ _ _ _ qm.out).mono ?_;rintro e w17 ⟨u,rfl,qh⟩;replace qh:Hid (R8 p y L z (.slice b12 m12 c12) u w17):=qh;clear qm)
              | (go_at_call 27;refine(HO2.out _ _ _ _ _ _ _ _ _ qe.out).mono ?_;rintro e w15 ⟨t15,rfl,ql⟩;replace ql:Hid (R6 p y L z t15 (.slice b12 m12 c12) c1 w15):=ql;clear qe)
              | (go_at_call 27;refine(HOz.out _ _ _ _ _ qa.out).mono ?_;rintro e w11 ⟨z,rfl,qb⟩;replace qb:Hid (R2 p y L dd z w11):=qb;clear qa)
              | (go_at_call 13;refine(HT1.out _ _ _ _ _ _ _ qh.out).mono ?_;rintro e w18 ⟨b18,m18,c18,rfl,qi⟩;replace qi:Hid (R9 p y L z (.slice b12 m12 c12) (.slice b18 m18 c18) w18):=qi;clear qh)
              | (go_at_call 13;refine(HTz.out _ _ _ _ _ _ qb.out).mono ?_;rintro e w12 ⟨b12,m12,c12,rfl,qc⟩;replace qc:Hid (R3 p y L dd z (.slice b12 m12 c12) w12):=qc;clear qb)
              | (go_at_call 16;refine(HD2.out _ _ _ _ _ _ _ _ _ ql.out).mono ?_;rintro e w16 ⟨a16,rfl,qm⟩;replace qm:Hid (R7 p y L z (.slice b12 m12 c12) c1 w16):=qm;clear ql)
              | (go_at_call 18;refine(HAl.out _ _ _ _ _ _ _ qi.out).mono ?_;rintro e w19 ⟨rfl,qj⟩;replace qj:Hid (R10 p y L z w19):=qj;clear qi)
              | (go_at_call 16;refine(HDf.out _ _ _ _ _ _ qk.out).mono ?_;rintro e w21 ⟨rfl,qf⟩;replace qf:Hid (R12 p y z w21):=qf;have yf:=C12.out _ _ _ _ qf.out;clear yk qk)
              | (go_at_call 16;refine(HDz.out _ _ _ _ _ qj.out hL.out).mono ?_;rintro e w20 ⟨a20,rfl,qk⟩;replace qk:Hid (R11 p y L z a20 w20):=qk;have yk:=C11.out _ _ _ _ _ _ qk.out;clear qj)
              | (go_at_call 29;refine(HS.out _ _ _ _ qf.out).mono ?_;rintro e w22 ⟨rfl,qg⟩;replace qg:Hid (Below w.heap.size w w22):=qg;clear yf qf))
            go_ret;exact⟨rfl,qg.out⟩
          . replace q7:Hid (QA p x y d L a6 w6):=q7;have y7:=CA.out _ _ _ _ _ _ _ q7.out;clear q6 x5 q5 hpk HST;go_wp2_with (go_at_call 16;refine(HDy.out _ _ _ _ _ _ _ q7.out).mono ?_;rintro e w8 ⟨rfl,q8⟩;replace q8:Hid (Q1 p x y d w8):=q8;clear y7 q7)
            go_roundw
            case rel=>exact⟨k+1,by omega,rfl,by go_num,q8.out⟩
            case measure=>simp[intOf];omega)
      . obtain rfl:k=n:=by omega
        clear H3;have q9:Hid (Q2 p x y d ⟨#[]⟩ wr):=H12.out _ _ _ _ _ hpk.out
        have d9:=C2.out _ _ _ _ _ _ q9.out;clear hpk;go_wp2_with (first
          | (go_at_call 28;refine(HC2.out _ _ _ _ _ _ _ _ qd.out).mono ?_;rintro e w14 ⟨c2,rfl,qe⟩;replace qe:Hid (R5 p y ⟨#[]⟩ dd z (.slice b12 m12 c12) c1 c2 w14):=qe;clear qd)
          | (go_at_call 28;refine(HC1.out _ _ _ _ _ _ _ qc.out).mono ?_;rintro e w13 ⟨c1,rfl,qd⟩;replace qd:Hid (R4 p y ⟨#[]⟩ dd z (.slice b12 m12 c12) c1 w13):=qd;clear qc)
          | (go_at_call 28;refine(HCr.out _ _ _ _ _ _ q9.out).mono ?_;rintro e w10 ⟨dd,rfl,qa⟩;replace qa:Hid (R1 p y ⟨#[]⟩ dd w10):=qa;clear d9;clear q9)
          | (go_at_call 27;refine(HO1.out _ _ _ _ _ _ _ qm.out).mono ?_;rintro e w17 ⟨u,rfl,qh⟩;replace qh:Hid (R8 p y ⟨#[]⟩ z (.slice b12 m12 c12) u w17):=qh;clear qm)
          | (go_at_call 27;refine(HO2.out _ _ _ _ _ _ _ _ _ qe.out).mono ?_;rintro e w15 ⟨t15,rfl,ql⟩;replace ql:Hid (R6 p y ⟨#[]⟩ z t15 (.slice b12 m12 c12) c1 w15):=ql;clear qe)
          | (go_at_call 27;refine(HOz.out _ _ _ _ _ qa.out).mono ?_;rintro e w11 ⟨z,rfl,qb⟩;replace qb:Hid (R2 p y ⟨#[]⟩ dd z w11):=qb;clear qa)
          | (go_at_call 13;refine(HT1.out _ _ _ _ _ _ _ qh.out).mono ?_;rintro e w18 ⟨b18,m18,c18,rfl,qi⟩;replace qi:Hid (R9 p y ⟨#[]⟩ z (.slice b12 m12 c12) (.slice b18 m18 c18) w18):=qi;clear qh)
          | (go_at_call 13;refine(HTz.out _ _ _ _ _ _ qb.out).mono ?_;rintro e w12 ⟨b12,m12,c12,rfl,qc⟩;replace qc:Hid (R3 p y ⟨#[]⟩ dd z (.slice b12 m12 c12) w12):=qc;clear qb)
          | (go_at_call 16;refine(HD2.out _ _ _ _ _ _ _ _ _ ql.out).mono ?_;rintro e w16 ⟨a16,rfl,qm⟩;replace qm:Hid (R7 p y ⟨#[]⟩ z (.slice b12 m12 c12) c1 w16):=qm;clear ql)
          | (go_at_call 18;refine(HAl.out _ _ _ _ _ _ _ qi.out).mono ?_;rintro e w19 ⟨rfl,qj⟩;replace qj:Hid (R10 p y ⟨#[]⟩ z w19):=qj;have qf:Hid (R12 p y z w19):=H10.out _ _ _ _ qj.out;have yf:=C12.out _ _ _ _ qf.out;clear qi)
          | (go_at_call 29;refine(HS.out _ _ _ _ qf.out).mono ?_;rintro e w22 ⟨rfl,qg⟩;replace qg:Hid (Below w.heap.size w w22):=qg;clear yf qf))
        go_ret;exact⟨rfl,qg.out⟩)
theorem findT_all {l:List Tk} {t:ByteArray} (h:findT l t=none):∀ x,x∈l->x.t≠t:=fun x hx e=>by
  unfold findT at h;have h2:l.filter (fun x=>decide (x.t=t))=[]:=List.head?_eq_none_iff.1 h
  have:=List.filter_eq_nil_iff.1 h2 x hx
  simp[e] at this
theorem findT_new {l:List Tk} {X:Tk} (h:findT l X.t=none):findT (addT l X) X.t=some X:=by
  unfold addT;refine findT_at (post:=[]) (fun y hy=>findT_all h y ?_)
  split at hy
  . exact List.mem_of_mem_drop hy
  . exact hy
theorem again_same {s:Bk} (G:Good s) (L:ByteArray):doAll (doAll s L).1 L=doAll s L:=by
  by_cases hs:(doAll s L).1=s
  . rw[hs]
  . rcases e:rdLine L.data.toList with _|l
    . exact absurd (by rw[doAll_none e]) hs
    . by_cases hv:l.v<8
      . rcases hf:findT s.toks l.t with _|x
        . by_cases he:(doLn s l).2.e=0
          . have hd:doAll s L=({ (doLn s l).1 with toks:=addT (doLn s l).1.toks ⟨l.t,L,⟨(anText (doLn s l).2).toArray⟩⟩ },⟨(anText (doLn s l).2).toArray⟩):=by
              rw[doAll_cmd e hv];unfold doCmd;rw[hf];dsimp only;rw[if_pos he]
            have hn:findT (addT (doLn s l).1.toks ⟨l.t,L,⟨(anText (doLn s l).2).toArray⟩⟩) l.t=some ⟨l.t,L,⟨(anText (doLn s l).2).toArray⟩⟩ :=
              findT_new (X:=⟨l.t,L,⟨(anText (doLn s l).2).toArray⟩⟩) (by rw[doLn_toks];exact hf)
            rw[hd];dsimp only;rw[doAll_cmd e hv];unfold doCmd;dsimp only;rw[hn];simp
          . exact absurd (by rw[doAll_cmd e hv];unfold doCmd;rw[hf];dsimp only;rw[if_neg he];exact ref_same G e hv he) hs
        . refine absurd ?_ hs
          rw[doAll_cmd e hv];unfold doCmd;rw[hf];dsimp only
          split<;>rfl
      . exact absurd (by rw[doAll_ask e hv];exact ask_same hv (rdLine_ok e).2) hs
def TkNe (s:Bk):Prop:=∀ x,x∈s.toks->x.r.data.toList≠[]
theorem anText_ne (x:An):anText x≠[]:=by unfold anText;split<;>simp
theorem ans_ne {s:Bk} (h:TkNe s) (L:ByteArray):(doAll s L).2.data.toList≠[]:=by
  have ha:∀ x:An,(⟨(anText x).toArray⟩:ByteArray).data.toList≠[]:=fun x=>by simpa using anText_ne x
  rcases e:rdLine L.data.toList with _|l
  . rw[doAll_none e];exact ha _
  . by_cases hv:l.v<8
    . rw[doAll_cmd e hv];unfold doCmd;rcases hf:findT s.toks l.t with _|x
      . dsimp only;split<;>exact ha _
      . dsimp only;have hx:x∈s.toks:=by
          unfold findT at hf;exact(List.mem_filter.1 (List.mem_of_mem_head? hf)).1
        split
        . exact ha _
        . exact h x hx
    . rw[doAll_ask e hv];exact ha _
theorem tkne_all {s:Bk} (h:TkNe s) (L:ByteArray):TkNe (doAll s L).1:=by
  have ht:∀ l,TkNe (doLn s l).1:=fun l x hx=>by rw[doLn_toks] at hx;exact h x hx
  rcases e:rdLine L.data.toList with _|l
  . rw[doAll_none e];exact h
  . by_cases hv:l.v<8
    . rw[doAll_cmd e hv];unfold doCmd;rcases hf:findT s.toks l.t with _|x
      . dsimp only;split
        . intro y hy;rcases addT_mem hy with q|rfl
          . exact ht l y q
          . simpa using anText_ne _
        . exact ht l
      . dsimp only;split<;>exact h
    . rw[doAll_ask e hv];exact ht l
theorem no_empty {a:ByteArray} (h:a.data.toList≠[]):(a.toList==[])=false:=by
  rw[Lib.toList_data];rcases e:a.data.toList with _|⟨x,r⟩
  . exact absurd e h
  . rfl
theorem doAll_empty (s:Bk):(doAll s ⟨#[]⟩).1=s:=by
  rw[doAll_none (s:=s) (line:=⟨#[]⟩) (by rfl)]
theorem AC.onto {ρ ρ':Nat->Nat} {k:Nat} {w W:World} {x d b c:Nat} {s:Bk} {A A':PD} {dn:Bool} (h:AC ρ k w x d b c s A dn) (hs:Stp (RDk k) ρ ρ' w W) (hd:DAt ρ' k W d A'):AC ρ' k W x d b c s A' dn:=by
  have h2:¬RDk k (4*k+2):=by unfold RDk;omega
  have h4:¬RDk k (4*k+4):=by unfold RDk;omega
  have hsz:∀ q,RBk ρ' k q->q<W.heap.size:=fun q hq=>by
    rcases Nat.lt_or_ge q W.heap.size with e|e
    . exact e
    . have:=hs.clean q e;unfold RBk at hq;omega
  obtain⟨vp,vn,vl,z,B⟩:=h.bk;have B1:BA W b (RBk ρ k) vp vn vl z s:=B.same (fun q e=>hs.block q (B.sz q e) (by rw[show ρ q=4*k+2 from e];exact h2)) hs.size
  exact⟨h.blk.step hs (by rw[h.rx];exact h4),⟨vp,vn,vl,z,B1.mono (fun q e=>(hs.role q (B.sz q e)).trans e) hsz⟩,h.ch.same (hs.block c h.ch.lt (by rw[h.rc];exact h4)),hd,(hs.role x h.blk.lt).trans h.rx,(hs.role c h.ch.lt).trans h.rc,hs.clean⟩
structure Ba (w:World) (ρ:Nat->Nat) (W:World) (p y:Nat) (s:Bk):Prop where
  hy:∃ dy,Hb ρ 1 W y dy s
  pl:∃ x d,Pl ρ W p x y d
  ro:∀ q,ρ q≠0->w.heap.size<=q
  low:Below w.heap.size w W
theorem Ba.kp {w:World} {ρ:Nat->Nat} {W:World} {p y:Nat} {s:Bk} (h:Ba w ρ W p y s):Kp s:=by obtain⟨dy,h⟩:=h.hy;exact h.kp
theorem Ba.clean {w:World} {ρ:Nat->Nat} {W:World} {p y:Nat} {s:Bk} (h:Ba w ρ W p y s):Clean ρ W:=by obtain⟨dy,h⟩:=h.hy;exact h.dk.2
theorem Ba.calm {w:World} {ρ ρ':Nat->Nat} {W W':World} {p y:Nat} {s:Bk} (h:Ba w ρ W p y s) (hs:Stp (fun _=>False) ρ ρ' W W'):Ba w ρ' W' p y s:=by
  obtain⟨dy,h1⟩:=h.hy;obtain⟨x,d,h2⟩:=h.pl;exact⟨⟨dy,h1.calm hs⟩,⟨x,d,h2.step hs (fun q=>q)⟩,hs.ro h.low h.ro,hs.low h.low h.ro (fun q=>q)⟩
theorem Ba.by {w:World} {ρ ρ':Nat->Nat} {W W':World} {p y:Nat} {s:Bk} (h:Ba w ρ W p y s) {k:Nat} (hk:k≠1) (hk9:k<=9) (hs:Stp (ROk k) ρ ρ' W W'):Ba w ρ' W' p y s:=by
  obtain⟨dy,h1⟩:=h.hy;obtain⟨x,d,h2⟩:=h.pl;exact⟨⟨dy,h1.by (Ne.symm hk) hs⟩,⟨x,d,h2.step hs (by unfold ROk;omega)⟩,hs.ro h.low h.ro,hs.low h.low h.ro (rok0 k)⟩
theorem Ba.hb {w:World} {ρ:Nat->Nat} {W:World} {p y k z dz:Nat} {s sz:Bk} (h:Ba w ρ W p y s) (hz:Hb ρ k W z dz sz):HB w (fun _=>False) z sz W:=hz.hb (fun q e=>⟨h.ro q e,fun k=>k⟩) h.low
theorem Ba.doy {w:World} (E:EnvT w) (hZ:10<=w.heap.size) {ρ:Nat->Nat} {W:World} {p y:Nat} {s:Bk} (h:Ba w ρ W p y s) (L:ByteArray):Calls Tryz.prog 16 #[.pointer (some ⟨y,0,none⟩),.string L] W fun e W'=>e=.returned (.string (doAll s L).2)/\∃ ρ',Ba w ρ' W' p y (doAll s L).1/\Stp (ROk 1) ρ ρ' W W':=by
  obtain⟨dy,h1⟩:=h.hy;obtain⟨x,d,h2⟩:=h.pl;refine(hb3_do h1 L (E.mono h.low) (fun q e=>Nat.le_trans hZ (h.ro q e)) (Nat.le_trans hZ h.low.size)).mono ?_
  rintro e W' ⟨rfl,ρ',a1,a2⟩
  exact⟨rfl,ρ',⟨⟨dy,a1⟩,⟨x,d,h2.step a2 (by unfold ROk;omega)⟩,a2.ro h.low h.ro,a2.low h.low h.ro (rok0 1)⟩,a2⟩
theorem Ba.doz {w:World} (E:EnvT w) (hZ:10<=w.heap.size) {ρ:Nat->Nat} {W:World} {p y:Nat} {s:Bk} (h:Ba w ρ W p y s) {k z dz:Nat} {sz:Bk} (hz:Hb ρ k W z dz sz) (hk:k≠1) (hk9:k<=9) (L:ByteArray):Calls Tryz.prog 16 #[.pointer (some ⟨z,0,none⟩),.string L] W fun e W'=>e=.returned (.string (doAll sz L).2)/\∃ ρ',Ba w ρ' W' p y s/\Hb ρ' k W' z dz (doAll sz L).1/\Stp (ROk k) ρ ρ' W W':=by
  refine(hb3_do hz L (E.mono h.low) (fun q e=>Nat.le_trans hZ (h.ro q e)) (Nat.le_trans hZ h.low.size)).mono ?_
  rintro e W' ⟨rfl,ρ',a1,a2⟩
  exact⟨rfl,ρ',h.by hk hk9 a2,a1,a2⟩
theorem Ba.open {w:World} (E:EnvT w) (hZ:10<=w.heap.size) {ρ:Nat->Nat} {W:World} {p y:Nat} {s:Bk} (h:Ba w ρ W p y s) {k dz:Nat} {sz:Bk} (hd:DkH ρ k W dz (snapT sz)) (K:Kp sz):Calls Tryz.prog 27 #[.pointer (some ⟨dz,0,none⟩)] W fun e W'=>∃ z ρ',e=.returned (.tuple #[.pointer (some ⟨z,0,none⟩),.int .i64 0])/\Ba w ρ' W' p y s/\Hb ρ' k W' z dz sz/\Stp (fun _=>False) ρ ρ' W W':=by
  refine(dk_open hd h.clean K (E.mono h.low) (Nat.le_trans hZ h.low.size)).mono ?_
  rintro e w' ⟨z,ρ',rfl,a1,a2,a3⟩
  exact⟨z,ρ',rfl,h.calm a2,a1,a2⟩
theorem Ba.told {w:World} (E:EnvT w) (hZ:10<=w.heap.size) {ρ:Nat->Nat} {W:World} {p y:Nat} {s:Bk} (h:Ba w ρ W p y s) {k z dz:Nat} {sz:Bk} (hz:Hb ρ k W z dz sz):Calls Tryz.prog 13 #[.pointer (some ⟨z,0,none⟩)] W fun e w'=>∃ g m c,e=.returned (.tuple #[.slice (some ⟨g,0,none⟩) m c,.bool true])/\RdG g w' (.slice (some ⟨g,0,none⟩) m c) (toldB sz)/\ρ g=0/\Below W.heap.size W w':=by
  refine(ktold_any w (fun _=>False) z sz E hZ hz.kp.inv hz.kp.good W (h.hb hz)).mono ?_
  rintro e w' ⟨v,rfl,ho,hb⟩
  obtain⟨g,m,c,rfl,hr,hg⟩:=rdG_of ho;exact⟨g,m,c,rfl,hr,h.clean g hg,hb⟩
theorem crash_nil {w:World} {ρ:Nat->Nat} {W:World} {p y:Nat} {s:Bk} (h:Ba w ρ W p y s) {k d:Nat} {t:List UInt8} (kn:Nat) (hd:DkH ρ k W d t):Calls Tryz.prog 28 #[.pointer (some ⟨d,0,none⟩),.slice none 0 0] W fun e W'=>∃ dd ρ',e=.returned (.pointer (some ⟨dd,0,none⟩))/\DkH ρ' kn W' dd t/\Ba w ρ' W' p y s/\Stp (fun _=>False) ρ ρ' W W':=by
  obtain⟨A,d1,d2,d3⟩:=hd;refine(crash_on kn d1 h.clean d3 (.slice none 0 0) [] ⟨none,0,rfl,Nat.le_refl _,by unfold maxLen;omega,fun q=>absurd rfl q⟩ (by simp)).mono ?_
  rintro e w' ⟨rfl,ρ',a1,a2,a3⟩
  exact⟨_,ρ',rfl,a1,h.calm a2,a2⟩
theorem RdG.calm {R:Nat->Prop} {ρ ρ':Nat->Nat} {W W':World} {g:Nat} {v:Value} {A:List ByteArray} (h:RdG g W v A) (hg:ρ g=0) (hs:Stp R ρ ρ' W W') (h0:¬R 0):RdG g W' v A/\ρ' g=0 :=
  ⟨h.same (hs.block g h.2.2 (by rw[hg];exact h0)) hs.size,(hs.role g h.2.2).trans hg⟩
def Sz (s:Bk) (L:ByteArray) (sz:Bk):Prop:=sz=s\/sz=(doAll s L).1
def Ht0 (w:World) (p x y d:Nat) (W:World):Prop:=∃ ρ dy,Two w ρ W x d y dy bk0 bk0/\Pl ρ W p x y d
structure Hx (w:World) (ρ:Nat->Nat) (p x y d:Nat) (s u:Bk) (W:World):Prop where
  ba:Ba w ρ W p y u
  ac:∃ A b c,AC ρ 0 W x d b c s A false/\Has A (snapT s)/\A.left<9223372036854775808
  kp:Kp s
  pl:Pl ρ W p x y d
def Ht1 (w:World) (p x y d:Nat) (W:World):Prop:=∃ ρ s,Hx w ρ p x y d s s W/\TkNe s
def HtA (w:World) (p x y d:Nat) (L a:ByteArray) (W:World):Prop:=∃ ρ s,Hx w ρ p x y d (doAll s L).1 s W/\TkNe s/\a=(doAll s L).2
def Ht3 (w:World) (p x y d:Nat) (L:ByteArray) (W:World):Prop:=∃ ρ s A b c,Ba w ρ W p y s/\AC ρ 0 W x d b c (doAll s L).1 A true/\Half A (snapT s) (snapT (doAll s L).1)/\Kp (doAll s L).1/\Pl ρ W p x y d
def Ht2 (w:World) (p x y d:Nat) (L:ByteArray) (W:World):Prop:=∃ ρ s A,Ba w ρ W p y s/\DAt ρ 0 W d A/\(Has A (snapT s)\/Half A (snapT s) (snapT (doAll s L).1))/\Kp (doAll s L).1/\Pl ρ W p x y d
def Hr1 (w:World) (p y:Nat) (L:ByteArray) (dd:Nat) (W:World):Prop:=∃ ρ s sz,Ba w ρ W p y s/\DkH ρ 2 W dd (snapT sz)/\Kp sz/\Sz s L sz
def Hr2 (w:World) (p y:Nat) (L:ByteArray) (dd z:Nat) (W:World):Prop:=∃ ρ s sz,Ba w ρ W p y s/\Hb ρ 2 W z dd sz/\Sz s L sz
def Hr3 (w:World) (p y:Nat) (L:ByteArray) (dd z:Nat) (v:Value) (W:World):Prop:=∃ ρ s sz g,Ba w ρ W p y s/\Hb ρ 2 W z dd sz/\Sz s L sz/\RdG g W v (toldB sz)/\ρ g=0
def Hr4 (w:World) (p y:Nat) (L:ByteArray) (dd z:Nat) (v:Value) (c1:Nat) (W:World):Prop:=∃ ρ s sz g,Ba w ρ W p y s/\Hb ρ 2 W z dd sz/\Sz s L sz/\RdG g W v (toldB sz)/\ρ g=0/\DkH ρ 3 W c1 (snapT sz)
def Hr5 (w:World) (p y:Nat) (L:ByteArray) (dd z:Nat) (v:Value) (c1 c2:Nat) (W:World):Prop:=∃ ρ s sz g,Ba w ρ W p y s/\Hb ρ 2 W z dd sz/\Sz s L sz/\RdG g W v (toldB sz)/\ρ g=0/\DkH ρ 3 W c1 (snapT sz)/\DkH ρ 4 W c2 (snapT sz)
def Hr6 (w:World) (p y:Nat) (L:ByteArray) (z t:Nat) (v:Value) (c1:Nat) (W:World):Prop:=∃ ρ s sz g dd d2 st,Ba w ρ W p y s/\Hb ρ 2 W z dd sz/\Sz s L sz/\RdG g W v (toldB sz)/\ρ g=0/\DkH ρ 3 W c1 (snapT sz)/\Hb ρ 4 W t d2 st
def Hr7 (w:World) (p y:Nat) (L:ByteArray) (z:Nat) (v:Value) (c1:Nat) (W:World):Prop:=∃ ρ s sz g dd,Ba w ρ W p y s/\Hb ρ 2 W z dd sz/\Sz s L sz/\RdG g W v (toldB sz)/\ρ g=0/\DkH ρ 3 W c1 (snapT sz)
def Hr8 (w:World) (p y:Nat) (L:ByteArray) (z:Nat) (v:Value) (u:Nat) (W:World):Prop:=∃ ρ s sz g dd c1,Ba w ρ W p y s/\Hb ρ 2 W z dd sz/\Sz s L sz/\RdG g W v (toldB sz)/\ρ g=0/\Hb ρ 3 W u c1 sz
def Hr9 (w:World) (p y:Nat) (L:ByteArray) (z:Nat) (v v':Value) (W:World):Prop:=∃ ρ s sz dd,Ba w ρ W p y s/\Hb ρ 2 W z dd sz/\Sz s L sz/\Rd 1 encS ⟨#[]⟩ W v (toldB sz)/\Rd 1 encS ⟨#[]⟩ W v' (toldB sz)
def Hr10 (w:World) (p y:Nat) (L:ByteArray) (z:Nat) (W:World):Prop:=∃ ρ s sz dd,Ba w ρ W p y s/\Hb ρ 2 W z dd sz/\Sz s L sz
def Hr11 (w:World) (p y:Nat) (L:ByteArray) (z:Nat) (a:ByteArray) (W:World):Prop:=∃ ρ s dd,Ba w ρ W p y s/\Hb ρ 2 W z dd (doAll s L).1/\a=(doAll s L).2
def Hr12 (w:World) (p y z:Nat) (W:World):Prop:=∃ ρ s dd,Ba w ρ W p y s/\Hb ρ 2 W z dd s
theorem Ba.ycell {w:World} {ρ:Nat->Nat} {W:World} {p y:Nat} {s:Bk} (h:Ba w ρ W p y s):W.cell? ⟨p,1,none⟩=some (.pointer (some ⟨y,0,none⟩)):=by
  obtain⟨x,d,h2⟩:=h.pl;exact h2.1.cell 1
theorem Ht1.below {w:World} {p x y d:Nat} {W W':World} (h:Ht1 w p x y d W) (hb:Below W.heap.size W W'):Ht1 w p x y d W':=by
  obtain⟨ρ,s,h1,h2⟩:=h;have S:Stp (fun _=>False) ρ ρ W W':=Stp.below h1.ba.clean hb
  obtain⟨A,b,c,a1,a2,a3⟩:=h1.ac;exact⟨ρ,s,⟨h1.ba.calm S,⟨A,b,c,a1.calm S,a2,a3⟩,h1.kp,h1.pl.step S (fun q=>q)⟩,h2⟩
theorem Sz.next {s sz:Bk} {L:ByteArray} (h:Sz s L sz) (G:Good s):doAll sz L=doAll s L:=by
  rcases h with rfl|rfl
  . rfl
  . exact again_same G L
theorem Has.left {A:PD} {t:List UInt8} (h:Has A t) (l:Int):Has { A with left:=l } t:=⟨h.wf,h.safe,h.loose,h.text⟩
theorem leftP_bd {left n:Int} {st:Bool} (h1:left<9223372036854775808) (h2:n<9223372036854775808):leftP left st n<9223372036854775808:=by
  unfold leftP;split
  . exact h1
  . split<;>omega
theorem halted_walk (v vl:Value) (n:Nat) (f:Nat->SV) (st:Int) (L:List Int) (w:World) (E:EnvT w) (hZ:10<=w.heap.size) (hS:StpsAt w v n f) (hL:IntsAt w vl L) (hn:n<=1048576) (hst:i64ok st) (hLm:L.length<=2097152) :
    Calls Tryz.prog 9 #[v,.int .i64 st,vl] w fun e w'=>e=.returned (.bool true)/\Below w.heap.size w w':=by
  obtain⟨av,cv,rfl,_,_,h3⟩:=hS;have hL0:=hL;obtain⟨al,cl,rfl,_,_,_⟩:=hL;have hpk:=pk_bd st 400 om;have hLW:∀ {W:World},Below w.heap.size w W->IntsAt W (.slice al L.length cl) L:=fun {W} hW=>by
    obtain⟨a,c,e,q1,q2,q3⟩:=hL0;refine⟨a,c,e,q1,q2,fun hl=>?_⟩
    obtain⟨b,o,rfl,hb,hc⟩:=q3 hl;exact⟨b,o,rfl,Nat.lt_of_lt_of_le hb hW.size,fun j hj=>(hW.cell (p:=⟨b,o+j,none⟩) hb).trans (hc j hj)⟩
  refine halted_go w n hn av al cv L.length cl f st (pk st 400) (Ht0 w) (Ht1 w) (fun t=>t.size<=1000) (fun M=>(M.toList==[])=false) (Ht2 w) (Ht3 w) (HtA w) (Hr1 w) (Hr2 w) (Hr3 w) (Hr4 w) (Hr6 w) (Hr5 w) (Hr7 w) (Hr8 w) (Hr9 w) (Hr10 w) (Hr11 w) (Hr12 w)
    ?H3 ?H0 ?K0 ?K1 ?C0 ?HPk ?HSp ?C1 ?HN ?HL ?HLn ?HDx ?CA ?HDy ?C3 ?HD3 ?HSd ?H12 ?C2 ?HCr ?HOz ?HTz ?HC1 ?HC2 ?HO2 ?HD2 ?HO1 ?HT1 ?HAl ?H10 ?HDz ?C11 ?HDf ?C12 ?HS
  case H3 =>
    intro h0;obtain⟨b,o,rfl,hb,hst⟩:=h3 h0;exact⟨b,o,rfl,fun p x y d wr ⟨ρ,s,h1,_⟩ i hi=>(hst i hi).below h1.ba.low⟩
  case H0 =>
    intro _;refine(paired_any w E hZ (fun W E' hZ'=>awake_any W E' hZ')).mono ?_
    rintro e w' ⟨p,x,y,d,dy,ρ,rfl,a1,a2,a3,a4⟩
    exact⟨p,x,y,d,rfl,ρ,dy,a4,a1,a3⟩
  case K0 =>
    rintro p x y d W W' ⟨ρ,dy,h1,h2⟩ hb
    exact⟨ρ,dy,h1.below hb,h2.step (Stp.below (R:=fun _=>False) h1.clean hb) (fun q=>q)⟩
  case K1=>exact fun p x y d W W' h hb=>h.below hb
  case C0 =>
    rintro p x y d W ⟨ρ,dy,h1,h2⟩
    exact h2.1.cell 2
  case HPk=>exact fun W=>pick_any st 400 W hst om om
  case HSp =>
    rintro p x y d W ⟨ρ,dy,h1,h2⟩
    obtain⟨A,b,c,a1,a2,a3⟩:=h1.hx.ac;refine(stop_at ρ 0 W d A (pk st 400) h1.clean om om a1.dk).mono ?_
    rintro e w' ⟨rfl,b1,b2⟩
    have hy:Hb ρ 1 w' y dy bk0:=by
      obtain⟨A',b',c',q1,q2,q3⟩:=h1.hy.ac;exact⟨⟨A',b',c',q1.other b2 (by unfold RDk;omega) (by unfold RDk;omega) (by unfold RDk;omega) (by unfold RDk;omega) (by unfold RDk;omega),q2,q3⟩,h1.hy.kp⟩
    have hp:=h2.step b2 (rdk_no 0 _ om om)
    exact⟨rfl,ρ,bk0,⟨⟨⟨dy,hy⟩,⟨x,d,hp⟩,b2.ro h1.low h1.ro,b2.low h1.low h1.ro (rdk0 0)⟩,⟨_,b,c,a1.onto b2 b1,a3.left _,leftP_bd (by rw[a2.1];omega) om⟩,h1.hx.kp,hp⟩,fun q hq=>by simp[bk0] at hq⟩
  case C1 =>
    rintro p x y d W ⟨ρ,s,h1,h2⟩
    exact⟨h1.pl.1.cell 0,h1.pl.1.cell 1,h1.pl.1.cell 2⟩
  case HN =>
    intro W k hk;refine(name_any ⟨#[116]⟩ k W om om (by decide)).mono ?_
    rintro e w' ⟨rfl,hb⟩
    refine⟨_,rfl,?_,hb⟩
    have hl:=b36_len k 4 om;show (bs [116]++bs (b36 (k:Int).toNat)).size<=1000
    rw[bs_append,bs_size];simp at hl ⊢;omega
  case HL =>
    intro p x y d W t so h ht hso;have h':=h;obtain⟨ρ,s,h1,h2⟩:=h;obtain⟨dy,hy⟩:=h1.ba.hy;refine(line_any w (fun _=>False) y s E hZ h1.kp.inv t ht so.k so.o so.p so.a so.b hso.k hso.o hso.p hso.a hso.b W (h1.ba.hb hy)).mono ?_
    rintro e w' ⟨k',o,r,rfl,_,_,_,hb⟩
    refine⟨_,rfl,no_empty ?_,h'.below hb⟩
    rw[byt_data];unfold cmdL;simp
  case HLn=>exact fun M hM=>hM
  case HDx =>
    rintro p x y d M W ⟨ρ,s,h1,h2⟩ hM
    obtain⟨A,b,c,a1,a2,a3⟩:=h1.ac;refine(ado_any3 a1 M (E.mono h1.ba.low) h1.kp.inv h1.kp.tkb a2.wf a2.loose a3 (fun q e=>Nat.le_trans hZ (h1.ba.ro q e)) (Nat.le_trans hZ h1.ba.low.size)).mono ?_
    rintro e w' ⟨rfl,ρ',b1,b2⟩
    obtain⟨m1,m2,m3,_⟩:=doP_main h1.kp a2 M;have hba:=h1.ba.by (k:=0) om om b2
    have hpl:=h1.pl.step b2 (rok_no 0 _ om om)
    refine⟨_,rfl,?_⟩
    rcases hd:(doP s A false M).dn with _|_
    . obtain⟨r1,r2,r3,r4⟩:=m1 hd;rw[hd,r2] at b1;refine .inr ⟨by rw[r1];exact no_empty (ans_ne h2 M),ρ',s,⟨hba,⟨_,b,c,b1,by rw[<- r2];exact r4,by omega⟩,by rw[<- r2];exact r3,hpl⟩,h2,r1⟩
    . obtain⟨r1,r2,r3,r4⟩:=m2 hd;rw[hd,r2] at b1;rw[r2] at r3 r4;exact .inl ⟨r1,ρ',s,_,b,c,hba,b1,r4,r3,hpl⟩
  case CA =>
    rintro p x y d M a W ⟨ρ,s,h1,h2⟩
    exact h1.ba.ycell
  case HDy =>
    rintro p x y d M a W ⟨ρ,s,h1,h2,rfl⟩
    refine(h1.ba.doy E hZ M).mono ?_
    rintro e w' ⟨rfl,ρ',b1,b2⟩
    obtain⟨A,b,c,a1,a2,a3⟩:=h1.ac;exact⟨rfl,ρ',_,⟨b1,⟨A,b,c,a1.by om b2,a2,a3⟩,h1.kp,h1.pl.step b2 (rok_no 1 _ om om)⟩,tkne_all h2 M⟩
  case C3 =>
    rintro p x y d M W ⟨ρ,s,A,b,c,h1,h2,h3,h4,h5⟩
    exact⟨h5.1.cell 0,h5.1.cell 2⟩
  case HD3 =>
    rintro p x y d M W ⟨ρ,s,A,b,c,h1,h2,h3,h4,h5⟩
    refine(ado_down3 h2 _).mono ?_
    rintro e w' ⟨rfl,hb⟩
    have S:Stp (fun _=>False) ρ ρ W w':=Stp.below h1.clean hb
    exact⟨rfl,ρ,s,A,b,c,h1.calm S,h2.calm S,h3,h4,h5.step S (fun q=>q)⟩
  case HSd =>
    rintro p x y d M W ⟨ρ,s,A,b,c,h1,h2,h3,h4,h5⟩
    refine(stopped_at ρ 0 W d A h2.dk).mono ?_
    rintro e w' ⟨rfl,rfl⟩
    refine⟨by rw[h3.st];rfl,ρ,s,A,h1,h2.dk,.inr h3,h4,h5⟩
  case H12 =>
    rintro p x y d W ⟨ρ,s,h1,h2⟩
    obtain⟨A,b,c,a1,a2,a3⟩:=h1.ac;exact⟨ρ,s,A,h1.ba,a1.dk,.inl a2,by rw[doAll_empty];exact h1.kp,h1.pl⟩
  case C2 =>
    rintro p x y d M W ⟨ρ,s,A,h1,h2,h3,h4,h5⟩
    exact h5.1.cell 2
  case HCr =>
    rintro p x y d M W ⟨ρ,s,A,h1,h2,h3,h4,h5⟩
    rcases h3 with h3|h3
    . refine(crash_on 2 h2 h1.clean h3 _ L (hLW h1.low) hLm).mono ?_
      rintro e w' ⟨rfl,ρ',a1,a2,a3⟩
      exact⟨_,rfl,ρ',s,s,h1.calm a2,a1,h1.kp,.inl rfl⟩
    . refine(crash_mid 2 h2 h1.clean h3 _ L (hLW h1.low) hLm).mono ?_
      rintro e w' ⟨rfl,ρ',a1,a2,a3⟩
      rcases a1 with a1|a1
      . exact⟨_,rfl,ρ',s,s,h1.calm a2,a1,h1.kp,.inl rfl⟩
      . exact⟨_,rfl,ρ',s,_,h1.calm a2,a1,h4,.inr rfl⟩
  case HOz =>
    rintro p y M dd W ⟨ρ,s,sz,h1,h2,h3,h4⟩
    refine(h1.open E hZ h2 h3).mono ?_
    rintro e w' ⟨z,ρ',rfl,a1,a2,a3⟩
    exact⟨z,rfl,ρ',s,sz,a1,a2,h4⟩
  case HTz =>
    rintro p y M dd z W ⟨ρ,s,sz,h1,h2,h3⟩
    refine(h1.told E hZ h2).mono ?_
    rintro e w' ⟨g,m,c,rfl,a1,a2,hb⟩
    have S:Stp (fun _=>False) ρ ρ W w':=Stp.below h1.clean hb
    exact⟨_,m,c,rfl,ρ,s,sz,g,h1.calm S,h2.calm S,h3,a1,a2⟩
  case HC1 =>
    rintro p y M dd z v W ⟨ρ,s,sz,g,h1,h2,h3,h4,h5⟩
    refine(crash_nil h1 3 h2.dk.1).mono ?_
    rintro e w' ⟨c1,ρ',rfl,a1,a2,a3⟩
    obtain⟨k1,k2⟩:=h4.calm h5 a3 (fun q=>q)
    exact⟨c1,rfl,ρ',s,sz,g,a2,h2.calm a3,h3,k1,k2,a1⟩
  case HC2 =>
    rintro p y M dd z v c1 W ⟨ρ,s,sz,g,h1,h2,h3,h4,h5,h6⟩
    refine(crash_nil h1 4 h2.dk.1).mono ?_
    rintro e w' ⟨c2,ρ',rfl,a1,a2,a3⟩
    obtain⟨k1,k2⟩:=h4.calm h5 a3 (fun q=>q)
    exact⟨c2,rfl,ρ',s,sz,g,a2,h2.calm a3,h3,k1,k2,h6.calm a3,a1⟩
  case HO2 =>
    rintro p y M dd z v c1 c2 W ⟨ρ,s,sz,g,h1,h2,h3,h4,h5,h6,h7⟩
    refine(h1.open E hZ h7 h2.kp).mono ?_
    rintro e w' ⟨t,ρ',rfl,a1,a2,a3⟩
    obtain⟨k1,k2⟩:=h4.calm h5 a3 (fun q=>q)
    exact⟨t,rfl,ρ',s,sz,g,dd,c2,sz,a1,h2.calm a3,h3,k1,k2,h6.calm a3,a2⟩
  case HD2 =>
    rintro p y M z t v c1 N W ⟨ρ,s,sz,g,dd,d2,st',h1,h2,h3,h4,h5,h6,h7⟩
    refine(h1.doz E hZ h7 om om N).mono ?_
    rintro e w' ⟨rfl,ρ',a1,a2,a3⟩
    obtain⟨k1,k2⟩:=h4.calm h5 a3 (rok0 4)
    exact⟨_,rfl,ρ',s,sz,g,dd,a1,h2.by om a3,h3,k1,k2,h6.by om a3⟩
  case HO1 =>
    rintro p y M z v c1 W ⟨ρ,s,sz,g,dd,h1,h2,h3,h4,h5,h6⟩
    refine(h1.open E hZ h6 h2.kp).mono ?_
    rintro e w' ⟨u,ρ',rfl,a1,a2,a3⟩
    obtain⟨k1,k2⟩:=h4.calm h5 a3 (fun q=>q)
    exact⟨u,rfl,ρ',s,sz,g,dd,c1,a1,h2.calm a3,h3,k1,k2,a2⟩
  case HT1 =>
    rintro p y M z v u W ⟨ρ,s,sz,g,dd,c1,h1,h2,h3,h4,h5,h6⟩
    refine(h1.told E hZ h6).mono ?_
    rintro e w' ⟨g',m,c,rfl,a1,a2,hb⟩
    have S:Stp (fun _=>False) ρ ρ W w':=Stp.below h1.clean hb
    exact⟨_,m,c,rfl,ρ,s,sz,dd,h1.calm S,h2.calm S,h3,(h4.below hb).1,a1.1⟩
  case HAl =>
    rintro p y M z v v' W ⟨ρ,s,sz,dd,h1,h2,h3,h4,h5⟩
    refine(alike_any _ _ v v' W h4 h5 (told_short h2.kp.inv)).mono ?_
    rintro e w' ⟨rfl,hb⟩
    have S:Stp (fun _=>False) ρ ρ W w':=Stp.below h1.clean hb
    exact⟨by simp,ρ,s,sz,dd,h1.calm S,h2.calm S,h3⟩
  case H10 =>
    rintro p y z W ⟨ρ,s,sz,dd,h1,h2,h3⟩
    rcases h3 with rfl|h3
    . exact⟨ρ,sz,dd,h1,h2⟩
    . rw[doAll_empty] at h3;subst h3;exact⟨ρ,sz,dd,h1,h2⟩
  case HDz =>
    rintro p y M z W ⟨ρ,s,sz,dd,h1,h2,h3⟩ _
    refine(h1.doz E hZ h2 om om M).mono ?_
    rintro e w' ⟨rfl,ρ',a1,a2,a3⟩
    rw[h3.next h1.kp.good] at a2 ⊢;exact⟨_,rfl,ρ',s,dd,a1,a2,rfl⟩
  case C11 =>
    rintro p y M z a W ⟨ρ,s,dd,h1,h2,h3⟩
    exact h1.ycell
  case HDf =>
    rintro p y M z a W ⟨ρ,s,dd,h1,h2,rfl⟩
    refine(h1.doy E hZ M).mono ?_
    rintro e w' ⟨rfl,ρ',a1,a2⟩
    exact⟨rfl,ρ',_,dd,a1,h2.by om a2⟩
  case C12 =>
    rintro p y z W ⟨ρ,s,dd,h1,h2⟩
    exact h1.ycell
  case HS =>
    rintro p y z W ⟨ρ,s,dd,h1,h2⟩
    obtain⟨dy,hy⟩:=h1.hy;refine(shows_any w (fun _=>False) z y s s E hZ h2.kp.inv h2.kp.good h2.kp.inv h2.kp.good (told_short h2.kp.inv) W (h1.hb h2) (h1.hb hy)).mono ?_
    rintro e w' ⟨rfl,hb⟩
    exact⟨by simp,h1.low.trans (hb.mono h1.low.size)⟩
end Go.Proofs.YtjnhhnbgjjkkjaaGreatDoor
