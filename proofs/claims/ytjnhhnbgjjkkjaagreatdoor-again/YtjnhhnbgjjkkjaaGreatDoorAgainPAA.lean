/-
  BkAh
-/
import Derived.Deep.CutRange
import Derived.Test.YtjnhhnbgjjkkjaaGreatDoorBasePAA
import Derived.Test.YtjnhhnbgjjkkjaaGreatDoorBasePBQ
import Derived.Test.YtjnhhnbgjjkkjaaGreatDoorBasePAO
namespace Go.Proofs.YtjnhhnbgjjkkjaaGreatDoor
open Go.Conc Go.ChangeShapes Go.WideShapes Go.ChangeAt Go.RowKit
set_option linter.unusedVariables false
set_option linter.unusedSimpArgs false
set_option maxRecDepth 100000 in
set_option maxHeartbeats 1000000 in
theorem again_go (w:World) (n:Nat) (hn6:n<=1048576) (av:Option Addr) (cv:Nat) (f:Nat->SV) (so:SV) (ot od:Int) (hod:wrap64 (ot.tdiv 8)=od) (n2:Nat) (hn2:n2<8)
    (P1:Nat->World->Prop) (TT LL LA T2 L2:ByteArray->Prop) (FA:ByteArray->Bool->Prop) (PR:Nat->ByteArray->ByteArray->World->Prop) (P2:Nat->ByteArray->ByteArray->Nat->World->Prop) (P3:Nat->ByteArray->ByteArray->Value->World->Prop) (P4:Value->Value->World->Prop)
    (H3:Hid (0<n->∃ b o,av=some ⟨b,o,none⟩/\∀ x wr,P1 x wr->∀ i,i<n->StpAt wr b (o+i*5) (f i)))
    (HOo:Hid (∀ x wr,P1 x wr->StpAt wr w.heap.size 0 so))
    (HO:Hid (∀ (_:Unit),Calls Tryz.prog 11 #[] (w.alloc (.cells #[.int .i64 so.k,.int .i64 so.o,.int .i64 so.p,.int .i64 so.a,.int .i64 so.b] 37)) fun e w'=>∃ x d,e=.returned (.tuple #[.pointer (some ⟨x,0,none⟩),.pointer (some ⟨d,0,none⟩)])/\P1 x w'))
    (HA:Hid (∀ x W,P1 x W->Calls Tryz.prog 12 #[] W fun e w'=>e=.returned (.bool true)/\P1 x w'))
    (KP:Hid (∀ x W W',P1 x W->Below W.heap.size W W'->P1 x W'))
    (HN:Hid (∀ x W (k:Nat),k<=1048576->P1 x W->Calls Tryz.prog 15 #[.string ⟨#[116]⟩,.int .i64 k] W fun e w'=>∃ t,e=.returned (.string t)/\TT t/\Below W.heap.size W w'))
    (HL:Hid (∀ x W t (s:SV),P1 x W->TT t->SOk s->Calls Tryz.prog 14 #[.pointer (some ⟨x,0,none⟩),.string t,.agg #[.int .i64 s.k,.int .i64 s.o,.int .i64 s.p,.int .i64 s.a,.int .i64 s.b]] W fun e w'=>∃ L,e=.returned (.string L)/\LL L/\P1 x w'))
    (HD:Hid (∀ x W L,P1 x W->LL L->Calls Tryz.prog 16 #[.pointer (some ⟨x,0,none⟩),.string L] W fun e w'=>∃ a,e=.returned (.string a)/\P1 x w'))
    (HLa:Hid (∀ x W,P1 x W->Calls Tryz.prog 14 #[.pointer (some ⟨x,0,none⟩),.string ⟨#[97,103,97,105,110]⟩,.agg #[.int .i64 so.k,.int .i64 so.o,.int .i64 so.p,.int .i64 so.a,.int .i64 so.b]] W fun e w'=>∃ L,e=.returned (.string L)/\LA L/\1<=L.size/\L.size<=8000/\P1 x w'))
    (HDa:Hid (∀ x W L,P1 x W->LA L->Calls Tryz.prog 16 #[.pointer (some ⟨x,0,none⟩),.string L] W fun e w'=>∃ a g,e=.returned (.string a)/\FA a g/\((g=false/\PR x L a w')\/(g=true/\P2 x L a 0 w'))))
    (HF:Hid (∀ a g W,FA a g->Calls Tryz.prog 19 #[.string a] W fun e w'=>e=.returned (.bool g)/\Below W.heap.size W w'))
    (KR:Hid (∀ x L a W W',PR x L a W->Below W.heap.size W W'->PR x L a W'))
    (K2:Hid (∀ x L a k W W',P2 x L a k W->Below W.heap.size W W'->P2 x L a k W'))
    (HDr:Hid (∀ x L a W,PR x L a W->Calls Tryz.prog 16 #[.pointer (some ⟨x,0,none⟩),.string L] W fun e w'=>e=.returned (.string a)/\Below w.heap.size w w'))
    (HP:Hid (∀ W,Calls Tryz.prog 20 #[.int .i64 ot,.int .i64 8] W fun e w'=>e=.returned (.int .i64 n2)/\w'=W))
    (HN2:Hid (∀ W (k:Nat),k<8->Calls Tryz.prog 15 #[.string ⟨#[117]⟩,.int .i64 k] W fun e w'=>∃ t,e=.returned (.string t)/\T2 t/\Below W.heap.size W w'))
    (HL2:Hid (∀ x L a W t (k:Nat),P2 x L a k W->T2 t->k<8->Calls Tryz.prog 14 #[.pointer (some ⟨x,0,none⟩),.string t,.agg #[.int .i64 5,.int .i64 0,.int .i64 k,.int .i64 0,.int .i64 od]] W fun e w'=>∃ M,e=.returned (.string M)/\L2 M/\P2 x L a k w'))
    (HD2:Hid (∀ x L a W M (k:Nat),P2 x L a k W->k<7->L2 M->Calls Tryz.prog 16 #[.pointer (some ⟨x,0,none⟩),.string M] W fun e w'=>∃ c g,e=.returned (.string c)/\FA c g/\P2 x L a (k+1) w'))
    (HT:Hid (∀ x L a W (k:Nat),P2 x L a k W->Calls Tryz.prog 13 #[.pointer (some ⟨x,0,none⟩)] W fun e w'=>∃ b m c,e=.returned (.tuple #[.slice b m c,.bool true])/\P3 x L a (.slice b m c) w'))
    (HD3:Hid (∀ x L a v W,P3 x L a v W->Calls Tryz.prog 16 #[.pointer (some ⟨x,0,none⟩),.string L] W fun e w'=>e=.returned (.string a)/\P3 x L a v w'))
    (HE3:Hid (∀ x L a v W,P3 x L a v W->Calls Tryz.prog 16 #[.pointer (some ⟨x,0,none⟩),.string (L.extract 0 (L.size-1))] W fun e w'=>∃ c:ByteArray,e=.returned (.string c)/\(c.toList=[69,82,82,32,84,79,75,69,78]\/c.toList=[69,82,82,32,76,73,78,69])/\P3 x L a v w'))
    (HT3:Hid (∀ x L a v W,P3 x L a v W->Calls Tryz.prog 13 #[.pointer (some ⟨x,0,none⟩)] W fun e w'=>∃ b m c,e=.returned (.tuple #[.slice b m c,.bool true])/\P4 v (.slice b m c) w'))
    (HAl:Hid (∀ v u W,P4 v u W->Calls Tryz.prog 18 #[v,u] W fun e w'=>e=.returned (.bool true)/\Below w.heap.size w w')) :
    Calls Tryz.prog 7 #[.slice av n cv,.agg #[.int .i64 so.k,.int .i64 so.o,.int .i64 so.p,.int .i64 so.a,.int .i64 so.b],.int .i64 ot] w fun e w'=>e=.returned (.bool true)/\Below w.heap.size w w':=by
  go_enter Tryz.func7,Tryz.ntmps7
  go_wp2_with (first
    | (go_at_call 11;refine(HO.out ()).mono ?_;rintro e w1 ⟨x,d,rfl,hp1⟩;replace hp1:Hid (P1 x w1):=hp1)
    | (go_at_call 12;refine(HA.out _ _ hp1.out).mono ?_;rintro e w2 ⟨rfl,hp2⟩;replace hp2:Hid (P1 x w2):=hp2;clear hp1))
  go_loopw [10] (fun i wr=>∃ k:Nat,k<=n/\i=.int .i64 k/\P1 x wr) (fun i _=>n-(intOf i).toNat)
  case atStart=>exact⟨0,by omega,rfl,hp2.out⟩
  case round =>
    obtain⟨k,hk,rfl,hpk⟩:=hrel;replace hpk:Hid (P1 x wr):=hpk;clear hp2;by_cases hlt:k<n
    . obtain⟨b,o,rfl,hst⟩:=H3.out (om)
      have HST:Hid (∀ wr,P1 x wr->StpAt wr b (o+k*5) (f k)):=fun wr h=>hst x wr h k hlt
      have A:=HST.out wr hpk.out;have k0:=A.c0;have k1:=A.c1;have k2:=A.c2;have k3:=A.c3;have k4:=A.c4;have hA:Hid (SOk (f k)):=A.ok
      clear A hst H3;have hkn:k<=1048576:=by omega
      go_wp2;go_cut [11] from 40 to 56 (fun u11 wc=>∃ L,u11=.string L/\LL L/\P1 x wc)
      case first =>
        go_region_held3 (fun w'=>w'.cell? ⟨b,o+k*5,none⟩=some (.int .i64 (f k).k)/\w'.cell? ⟨b,o+k*5+1,none⟩=some (.int .i64 (f k).o)/\w'.cell? ⟨b,o+k*5+2,none⟩=some (.int .i64 (f k).p)/\w'.cell? ⟨b,o+k*5+3,none⟩=some (.int .i64 (f k).a)/\w'.cell? ⟨b,o+k*5+4,none⟩=some (.int .i64 (f k).b)) (go_keep) (first
          | (go_at_call 15;refine(HN.out x _ k hkn (KP.out _ _ _ hpk.out (upB))).mono ?_;rintro e w3 ⟨t,rfl,ht,hq3⟩;have hp3:Hid (P1 x w3):=KP.out _ _ _ (KP.out _ _ _ hpk.out (upB)) hq3;replace ht:Hid _:=ht;have A:=HST.out w3 hp3.out;have l0:=A.c0;have l1:=A.c1;have l2:=A.c2;have l3:=A.c3;have l4:=A.c4;clear A hq3 k0 k1 k2 k3 k4)
          | (go_at_call 14;refine(HL.out x _ t (f k) (KP.out _ _ _ hp3.out (upB)) ht.out hA.out).mono ?_;rintro e w4 ⟨L,rfl,hL,hp4⟩;replace hL:Hid (LL L):=hL;replace hp4:Hid (P1 x w4):=hp4;have A:=HST.out w4 hp4.out;have m0:=A.c0;have m1:=A.c1;have m2:=A.c2;have m3:=A.c3;have m4:=A.c4;clear A l0 l1 l2 l3 l4))
        all_goals (go_wp2_with fail;go_meet;exact⟨L,rfl,hL.out,hp4.out⟩)
      case rest =>
        obtain⟨L,rfl,hL,hp4⟩:=hcut;replace hL:Hid (LL L):=hL;replace hp4:Hid (P1 x wc):=hp4;clear k0 k1 k2 k3 k4;go_wp2_with (go_at_call 16;refine(HD.out x _ L hp4.out hL.out).mono ?_;rintro e w5 ⟨a5,rfl,hp5⟩;replace hp5:Hid (P1 x w5):=hp5)
        go_roundw
        case rel=>exact⟨k+1,by omega,by go_num,hp5.out⟩
        case measure=>simp[intOf];omega
    . obtain rfl:k=n:=by omega
      clear H3;have A:=HOo.out x wr hpk.out;have k0:=A.c0;have k1:=A.c1;have k2:=A.c2;have k3:=A.c3;have k4:=A.c4;clear A;go_upto_region 13 with (first
        | (go_at_call 14;refine(HLa.out x _ (KP.out _ _ _ hpk.out (upB))).mono ?_;rintro e w3 ⟨L,rfl,hL,hLz,hLy,hp3⟩;replace hL:Hid (LA L):=hL;replace hp3:Hid (P1 x w3):=hp3;clear k0 k1 k2 k3 k4 hpk)
        | (go_at_call 16;refine(HDa.out x _ L (KP.out _ _ _ hp3.out (upB)) hL.out).mono ?_;rintro e w4 ⟨a4,g4,rfl,hf4,hp4⟩;replace hf4:Hid (FA a4 g4):=hf4;replace hp4:Hid ((g4=false/\PR x L a4 w4)\/(g4=true/\P2 x L a4 0 w4)):=hp4;clear hp3)
        | (go_at_call 19;refine(HF.out a4 g4 _ hf4.out).mono ?_;rintro e w5 ⟨rfl,hq5⟩;replace hq5:Hid (Below w4.heap.size w4 w5):=hq5))
      rcases hp4.out with⟨rfl,hpr⟩|⟨rfl,hp2⟩
      . have hpr5:Hid (PR x L a4 w5):=KR.out _ _ _ _ _ hpr hq5.out
        clear hpr hp4 hq5;go_wp2_with (go_at_call 16;refine(HDr.out x L a4 _ hpr5.out).mono ?_;rintro e w6 ⟨rfl,hq6⟩;replace hq6:Hid _:=hq6)
        go_ret;exact⟨by simp,hq6.out⟩
      . have hp5:Hid (P2 x L a4 0 w5):=K2.out _ _ _ _ _ _ hp2 hq5.out
        clear hp2 hp4 hq5;go_wp2_with (go_at_call 20;refine(HP.out _).mono ?_;rintro e w6 ⟨rfl,rfl⟩)
        have hn2i:(n2:Int)<8:=by omega
        go_loopw [17,18] (fun gd i wr=>∃ (k:Nat) (g:Nat),k<=n2/\g<=k/\i=.int .i64 k/\gd=.int .i64 g/\P2 x L a4 k wr) (fun _ i _=>n2-(intOf i).toNat)
        case atStart=>exact⟨0,0,by omega,by omega,rfl,rfl,hp5.out⟩
        case round =>
          obtain⟨j,g,hj,hg,rfl,rfl,hpj⟩:=hrel;replace hpj:Hid (P2 x L a4 j wr):=hpj;clear hp5;by_cases hjt:j<n2
          . have hj8:j<8:=by omega
            have hj7:j<7:=by omega
            have hwg:IntKind.i64.wrap ((g:Int)+1)=g+1:=wrap_small _ (om) (om)
            go_wp2_with (first
              | (go_at_call 15;refine(HN2.out _ j hj8).mono ?_;rintro e w7 ⟨t7,rfl,ht7,hq7⟩;have hp7:Hid (P2 x L a4 j w7):=K2.out _ _ _ _ _ _ (K2.out _ _ _ _ _ _ hpj.out (upB)) hq7;replace ht7:Hid _:=ht7;clear hq7)
              | (go_at_call 14;refine(HL2.out x L a4 _ t7 j (K2.out _ _ _ _ _ _ hp7.out (upB)) ht7.out hj8).mono ?_;rintro e w8 ⟨M8,rfl,hM8,hp8⟩;replace hM8:Hid _:=hM8;replace hp8:Hid (P2 x L a4 j w8):=hp8)
              | (go_at_call 16;refine(HD2.out x L a4 _ M8 j (K2.out _ _ _ _ _ _ hp8.out (upB)) hj7 hM8.out).mono ?_;rintro e w9 ⟨c9,g9,rfl,hf9,hp9⟩;replace hf9:Hid _:=hf9;replace hp9:Hid (P2 x L a4 (j+1) w9):=hp9)
              | (go_at_call 19;refine(HF.out c9 g9 _ hf9.out).mono ?_;rintro e w10 ⟨rfl,hq10⟩;have hp10:Hid (P2 x L a4 (j+1) w10):=K2.out _ _ _ _ _ _ (K2.out _ _ _ _ _ _ hp9.out (upB)) hq10;clear hq10))
            . go_roundw
              case rel=>exact⟨j+1,g+1,by omega,by omega,by go_num,by go_num,hp10.out⟩
              case measure=>simp[intOf];omega
            . go_roundw
              case rel=>exact⟨j+1,g,by omega,by omega,by go_num,rfl,hp10.out⟩
              case measure=>simp[intOf];omega
          . obtain rfl:j=n2:=by omega
            have hgi:(g:Int)<=(j:Int):=by omega
            have hLs:L.size-1<=L.size:=by omega
            have hLi:IntKind.i64.wrap ((L.size:Int)-1)=((L.size-1:Nat):Int):=by rw[wrap_small _ (om) (om)];omega
            go_wp2_with (first
              | (go_at_call 13;refine(HT.out x L a4 _ j (K2.out _ _ _ _ _ _ hpj.out (upB))).mono ?_;rintro e w7 ⟨b7,m7,c7,rfl,hp7⟩;replace hp7:Hid _:=hp7;clear hpj)
              | (go_at_call 16;refine(HD3.out x L a4 _ _ hp7.out).mono ?_;rintro e w8 ⟨rfl,hp8⟩;replace hp8:Hid _:=hp8;clear hp7)
              | (go_at_call 16;refine(HE3.out x L a4 _ _ hp8.out).mono ?_;rintro e w9 ⟨c9,rfl,hc9,hp9⟩;replace hp9:Hid _:=hp9;replace hc9:Hid _:=hc9;clear hp8)
              | (go_at_call 13;refine(HT3.out x L a4 _ _ hp9.out).mono ?_;rintro e w10 ⟨b10,m10,c10,rfl,hp10⟩;replace hp10:Hid _:=hp10;clear hp9)
              | (go_at_call 18;refine(HAl.out _ _ _ hp10.out).mono ?_;rintro e w11 ⟨rfl,hq11⟩;replace hq11:Hid _:=hq11;clear hp10))
            all_goals first
              | (exfalso;rcases hc9.out with q|q<;>contradiction)
              | (go_ret;exact⟨rfl,hq11.out⟩)
end Go.Proofs.YtjnhhnbgjjkkjaaGreatDoor
