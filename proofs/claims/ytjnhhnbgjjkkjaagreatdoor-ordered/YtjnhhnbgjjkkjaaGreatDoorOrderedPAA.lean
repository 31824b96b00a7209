/-
  BkOg
-/
import Derived.Deep.CutRange
import Derived.Test.YtjnhhnbgjjkkjaaGreatDoorBasePAA
import Derived.Test.YtjnhhnbgjjkkjaaGreatDoorBasePBQ
import Derived.Test.YtjnhhnbgjjkkjaaGreatDoorBasePAO
namespace Go.Proofs.YtjnhhnbgjjkkjaaGreatDoor
open Go.Conc Go.ChangeShapes Go.WideShapes Go.ChangeAt Go.RowKit
set_option linter.unusedVariables false
set_option linter.unusedSimpArgs false
set_option maxRecDepth 100000 in
set_option maxHeartbeats 1000000 in
theorem ord_go (w:World) (n:Nat) (hn6:n<=1048576) (av:Option Addr) (cv:Nat) (f:Nat->SV)
    (P0:Nat->World->Prop) (PW:Nat->Nat->Value->World->Prop) (TT LL:Nat->ByteArray->Prop) (PD:Nat->Nat->Value->ByteArray->World->Prop) (PT:Nat->Nat->Value->Value->ByteArray->World->Prop) (FB:ByteArray->Bool->Prop)
    (H3:Hid (0<n->∃ b o,av=some ⟨b,o,none⟩/\∀ x k v wr,PW x k v wr->∀ i,i<n->StpAt wr b (o+i*5) (f i)))
    (HO:Hid (∀ (_:Unit),Calls Tryz.prog 11 #[] w fun e w'=>∃ x d,e=.returned (.tuple #[.pointer (some ⟨x,0,none⟩),.pointer (some ⟨d,0,none⟩)])/\P0 x w'))
    (HA:Hid (∀ x W,P0 x W->Calls Tryz.prog 12 #[] W fun e w'=>e=.returned (.bool true)/\P0 x w'))
    (HT0:Hid (∀ x W,P0 x W->Calls Tryz.prog 13 #[.pointer (some ⟨x,0,none⟩)] W fun e w'=>∃ b m c,e=.returned (.tuple #[.slice b m c,.bool true])/\PW x 0 (.slice b m c) w'))
    (KP:Hid (∀ x k v W W',PW x k v W->Below W.heap.size W W'->PW x k v W'))
    (HN:Hid (∀ W (k:Nat),k<=1048576->Calls Tryz.prog 15 #[.string ⟨#[116]⟩,.int .i64 k] W fun e w'=>∃ t,e=.returned (.string t)/\TT k t/\Below W.heap.size W w'))
    (HL:Hid (∀ x k v W t (s:SV),PW x k v W->TT k t->SOk s->Calls Tryz.prog 14 #[.pointer (some ⟨x,0,none⟩),.string t,.agg #[.int .i64 s.k,.int .i64 s.o,.int .i64 s.p,.int .i64 s.a,.int .i64 s.b]] W fun e w'=>∃ L,e=.returned (.string L)/\LL k L/\PW x k v w'))
    (HD:Hid (∀ x k v W L,PW x k v W->LL k L->Calls Tryz.prog 16 #[.pointer (some ⟨x,0,none⟩),.string L] W fun e w'=>∃ a,e=.returned (.string a)/\PD x k v a w'))
    (HT:Hid (∀ x k v a W,PD x k v a W->Calls Tryz.prog 13 #[.pointer (some ⟨x,0,none⟩)] W fun e w'=>∃ b m c,e=.returned (.tuple #[.slice b m c,.bool true])/\PT x k v (.slice b m c) a w'))
    (HS:Hid (∀ x k v u a W,PT x k v u a W->Calls Tryz.prog 17 #[.pointer (some ⟨x,0,none⟩)] W fun e w'=>e=.returned (.bool true)/\PT x k v u a w'))
    (HAl:Hid (∀ x k v u a W,PT x k v u a W->Calls Tryz.prog 18 #[v,u] W fun e w'=>∃ b,e=.returned (.bool b)/\FB a b/\PT x k v u a w'))
    (HF:Hid (∀ a b W,FB a b->Calls Tryz.prog 19 #[.string a] W fun e w'=>e=.returned (.bool (!b))/\Below W.heap.size W w'))
    (KT:Hid (∀ x k v u a W W',PT x k v u a W->Below W.heap.size W W'->PW x (k+1) u W'))
    (HZ:Hid (∀ x k v W,PW x k v W->Below w.heap.size w W)) :
    Calls Tryz.prog 4 #[.slice av n cv] w fun e w'=>e=.returned (.bool true)/\Below w.heap.size w w':=by
  go_enter Tryz.func4,Tryz.ntmps4
  go_wp2_with (first
    | (go_at_call 11;refine(HO.out ()).mono ?_;rintro e w1 ⟨x,d,rfl,hp1⟩;replace hp1:Hid (P0 x w1):=hp1)
    | (go_at_call 12;refine(HA.out _ _ hp1.out).mono ?_;rintro e w2 ⟨rfl,hp2⟩;replace hp2:Hid (P0 x w2):=hp2;clear hp1)
    | (go_at_call 13;refine(HT0.out _ _ hp2.out).mono ?_;rintro e w3 ⟨b3,m3,c3,rfl,hp3⟩;replace hp3:Hid (PW x 0 (.slice b3 m3 c3) w3):=hp3;clear hp2))
  go_loopw [6,8] (fun v i wr=>∃ (k:Nat) (b:Option Addr) (m c:Nat),k<=n/\i=.int .i64 k/\v=.slice b m c/\PW x k (.slice b m c) wr) (fun _ i _=>n-(intOf i).toNat)
  case atStart=>exact⟨0,b3,m3,c3,by omega,rfl,rfl,hp3.out⟩
  case round =>
    obtain⟨k,b5,m5,c5,hk,rfl,rfl,hpk⟩:=hrel;replace hpk:Hid (PW x k (.slice b5 m5 c5) wr):=hpk;clear hp3;by_cases hlt:k<n
    . obtain⟨b,o,rfl,hst⟩:=H3.out (om)
      have HST:Hid (∀ wr,PW x k (.slice b5 m5 c5) wr->StpAt wr b (o+k*5) (f k)):=fun wr h=>hst x k _ wr h k hlt
      have A:=HST.out wr hpk.out;have k0:=A.c0;have k1:=A.c1;have k2:=A.c2;have k3:=A.c3;have k4:=A.c4;have hA:Hid (SOk (f k)):=A.ok
      clear A hst H3;have hkn:k<=1048576:=by omega
      go_wp2;go_cut [9] from 32 to 74 (fun u9 wc=>∃ L,u9=.string L/\LL k L/\PW x k (.slice b5 m5 c5) wc)
      case first =>
        go_region_held3 (fun w'=>w'.cell? ⟨b,o+k*5,none⟩=some (.int .i64 (f k).k)/\w'.cell? ⟨b,o+k*5+1,none⟩=some (.int .i64 (f k).o)/\w'.cell? ⟨b,o+k*5+2,none⟩=some (.int .i64 (f k).p)/\w'.cell? ⟨b,o+k*5+3,none⟩=some (.int .i64 (f k).a)/\w'.cell? ⟨b,o+k*5+4,none⟩=some (.int .i64 (f k).b)) (go_keep) (first
          | (go_at_call 15;refine(HN.out _ k hkn).mono ?_;rintro e w3 ⟨t,rfl,ht,hq3⟩;have hp3:Hid (PW x k (.slice b5 m5 c5) w3):=KP.out _ _ _ _ _ (KP.out _ _ _ _ _ hpk.out (upB)) hq3;replace ht:Hid _:=ht;have A:=HST.out w3 hp3.out;have l0:=A.c0;have l1:=A.c1;have l2:=A.c2;have l3:=A.c3;have l4:=A.c4;clear A hq3 k0 k1 k2 k3 k4)
          | (go_at_call 14;refine(HL.out x k _ _ t (f k) (KP.out _ _ _ _ _ hp3.out (upB)) ht.out hA.out).mono ?_;rintro e w4 ⟨L,rfl,hL,hp4⟩;replace hL:Hid (LL k L):=hL;replace hp4:Hid (PW x k (.slice b5 m5 c5) w4):=hp4;have A:=HST.out w4 hp4.out;have m0:=A.c0;have m1:=A.c1;have m2:=A.c2;have m3:=A.c3;have m4:=A.c4;clear A l0 l1 l2 l3 l4))
        all_goals (go_wp2_with fail;go_meet;exact⟨L,rfl,hL.out,hp4.out⟩)
      case rest =>
        obtain⟨L,rfl,hL,hp4⟩:=hcut;replace hL:Hid (LL k L):=hL;replace hp4:Hid (PW x k (.slice b5 m5 c5) wc):=hp4;clear k0 k1 k2 k3 k4;go_upto_region 17 with (first
          | (go_at_call 16;refine(HD.out x k _ _ L hp4.out hL.out).mono ?_;rintro e w5 ⟨a5,rfl,hp5⟩;replace hp5:Hid (PD x k (.slice b5 m5 c5) a5 w5):=hp5;clear hp4)
          | (go_at_call 13;refine(HT.out x k _ a5 _ hp5.out).mono ?_;rintro e w6 ⟨b6,m6,c6,rfl,hp6⟩;replace hp6:Hid (PT x k (.slice b5 m5 c5) (.slice b6 m6 c6) a5 w6):=hp6;clear hp5)
          | (go_at_call 17;refine(HS.out x k _ _ a5 _ hp6.out).mono ?_;rintro e w7 ⟨rfl,hp7⟩;replace hp7:Hid (PT x k (.slice b5 m5 c5) (.slice b6 m6 c6) a5 w7):=hp7;clear hp6)
          | (go_at_call 18;refine(HAl.out x k _ _ a5 _ hp7.out).mono ?_;rintro e w8 ⟨y8,rfl,hf8,hp8⟩;replace hp8:Hid (PT x k (.slice b5 m5 c5) (.slice b6 m6 c6) a5 w8):=hp8;replace hf8:Hid (FB a5 y8):=hf8;clear hp7)
          | (go_at_call 19;refine(HF.out a5 y8 _ hf8.out).mono ?_;rintro e w9 ⟨rfl,hq9⟩;have hp9:Hid (PW x (k+1) (.slice b6 m6 c6) w9):=KT.out _ _ _ _ _ _ _ hp8.out hq9;clear hq9 hp8))
        rcases y8 with _|_
        all_goals (
          go_wp2;go_roundw
          case rel=>exact⟨k+1,b6,m6,c6,by omega,by go_num,rfl,hp9.out⟩
          case measure=>simp[intOf];omega)
    . obtain rfl:k=n:=by omega
      have hkm:¬(k:Int)<(k:Int):=by omega
      clear H3;go_wp2;go_ret;exact⟨rfl,HZ.out _ _ _ _ hpk.out⟩
end Go.Proofs.YtjnhhnbgjjkkjaaGreatDoor
