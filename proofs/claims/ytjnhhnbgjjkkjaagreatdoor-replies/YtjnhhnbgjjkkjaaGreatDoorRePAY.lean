import Derived.Test.YtjnhhnbgjjkkjaaGreatDoorRePAX
import Derived.Test.YtjnhhnbgjjkkjaaGreatDoorRePAK
set_option linter.all false
set_option maxRecDepth 100000
set_option maxHeartbeats 2000000
namespace Go.Proofs.YtjnhhnbgjjkkjaaGreatDoor
open Go.ChangeShapes Go.WideShapes Go.ChangeAt Go.RowKit Go.Proofs.Tryz
theorem B5:∀ x:Fin 256,wrap64 (bits BinOp.and IntKind.u8 (x.val:Int) 1)=((x.val%2:Nat):Int):=by decide +kernel
theorem CK(d:Bz)(h:0<d.size):d.data.toList.headD 0=d[0]:=by
 have hl:d.data.toList.length=d.size:=Array.length_toList
 have:d[0]=d.data.toList[0]'om:=rfl
 rw[this,List.headD_eq_head?_getD,List.head?_eq_getElem?,List.getElem?_eq_getElem om];rfl
theorem tZ(g:Nat)(d:Bz)(hd:d.size=64)(w:World)(HR:Hid (∀ W,Bl w W->Cr prog 88 #[Pq g,I6 0] W (.string d))):Cr prog 86 #[.agg #[Pq g]] w (I6 (((d.data.toList.headD 0).toNat%2:Nat):Int)):=by
 have h0:(0:Int)<(d.size:Int):=by omega
 have h1:0<d.size:=by omega
 go_enter func86,ntmps86
 go_wp2_with (go_at_call 88;refine Mo (HR.o _ upB) fun w1 hq1=>?_;have hb1:Hid (Bl w w1):=al upB (Nat.le_refl _) hq1;clear hq1)
 go_ret;have e:=B5 ⟨d[0].toNat,d[0].toNat_lt⟩
 rw[CK d h1];exact⟨by show Ending.returned (I6 (wrap64 (bits BinOp.and IntKind.u8 (d[0].toNat:Int) 1)))=_;rw[e],hb1.o⟩
theorem l8(a i:Nat)(w:World)(ha:a<=1)(hi:i<=1000000):Calls prog 89 #[I6 a,I6 i] w fun e w'=>e=.returned (I6 (bd a i))/\w'=w:=by
 have e1:IntKind.i64.wrap (2*(i:Int))=2*i:=bf _ om om
 have e2:IntKind.i64.wrap (1+2*(i:Int))=1+2*i:=bf _ om om
 have e3:IntKind.i64.wrap (1+2*(i:Int)+a)=1+2*i+a:=bf _ om om
 go_enter func89,ntmps89
 go_wp2;go_ret;exact⟨rfl,rfl⟩
theorem Ft(g:Nat)(t:Bz)(ht:t.size<=100000)(w:World)(Q:Nat->World->Prop)(a:Nat)(ha:a<=1)(o1 o2 o3 o4:Bool)(R:Ending->World->Prop)
  (F1:Hid (o1=false->∀ w',Q 1 w'->R (.returned (.bool false)) w')) (F2:Hid (o1=true->o2=false->∀ w',Q 2 w'->R (.returned (.bool false)) w')) (F3:Hid (o1=true->o2=true->o3=false->∀ w',Q 3 w'->R (.returned (.bool false)) w')) (F4:Hid (o1=true->o2=true->o3=true->∀ w',Q 4 w'->R (.returned (.bool o4)) w'))
  (K:Hid (∀ i W W',Q i W->Bl W W'->Q i W'))
  (C:Hid (∀ i W,Q i W->W.cell? (Nw w 0)=some (Pq g)))
  (H0:Hid (Q 0 (w.alloc (.cells #[Pq g] 84))))
  (HA:Hid (∀ W,Q 0 W->Calls prog 86 #[.agg #[Pq g]] W fun e w'=>e=.returned (I6 (1-(a:Int)))/\Q 0 w'))
  (HW:Hid (∀ W,Q 0 W->Calls prog 99 #[.agg #[Pq g],I6 a,.string (t++⟨#[0]⟩)] W fun e w'=>e=.returned (.bool o1)/\Q 1 w'))
  (HS1:Hid (∀ W,Q 1 W->o1=true->Calls prog 100 #[Pq g] W fun e w'=>e=.returned (.bool o2)/\Q 2 w'))
  (HM:Hid (∀ W,Q 2 W->o2=true->Calls prog 101 #[Pq g,I6 0,.string (one a)] W fun e w'=>e=.returned (.bool o3)/\Q 3 w'))
  (HS2:Hid (∀ W,Q 3 W->o3=true->Calls prog 100 #[Pq g] W fun e w'=>e=.returned (.bool o4)/\Q 4 w')) :
  Calls prog 67 #[.agg #[Pq g],.string t] w R:=by
 have hc1:¬9223372036854775807<t.size+1:=by omega
 have ew:IntKind.i64.wrap (1-(1-(a:Int)))=a:=by rw[bf _ om om];omega
 have eu:IntKind.u8.wrap (a:Int)=a:=by rcases (show a=0\/a=1 by omega) with rfl|rfl<;>rfl
 have hcv:=pH (a:Int)
 cases o1 with
 | false =>
  go_enter func67,ntmps67
  go_wp2_with (first
   | (go_at_call 86;refine Mo (HA.o _ H0.o) fun w1 hq1=>?_;replace hq1:Hid _:=hq1;have c1:=C.o _ _ hq1.o)
   | (go_at_call 99;refine Mo (HW.o _ hq1.o) fun w2 hq2=>?_;replace hq2:Hid _:=hq2;have c2:=C.o _ _ hq2.o;clear c1))
  exact F1.o sM _ hq2.o
 | true =>
  replace HS1:Hid (∀ W,Q 1 W->Calls prog 100 #[Pq g] W fun e w'=>e=.returned (.bool o2)/\Q 2 w'):=fun W h=>HS1.o W h rfl
  cases o2 with
  | false =>
   go_enter func67,ntmps67
   go_wp2_with (first
    | (go_at_call 86;refine Mo (HA.o _ H0.o) fun w1 hq1=>?_;replace hq1:Hid _:=hq1;have c1:=C.o _ _ hq1.o)
    | (go_at_call 99;refine Mo (HW.o _ hq1.o) fun w2 hq2=>?_;replace hq2:Hid _:=hq2;have c2:=C.o _ _ hq2.o;clear c1)
    | (go_at_call 100;refine Mo (HS1.o _ hq2.o) fun w3 hq3=>?_;replace hq3:Hid _:=hq3;have c3:=C.o _ _ hq3.o;clear c2))
   exact F2.o sM sM _ hq3.o
  | true =>
   replace HM:Hid (∀ W,Q 2 W->Calls prog 101 #[Pq g,I6 0,.string (one a)] W fun e w'=>e=.returned (.bool o3)/\Q 3 w'):=fun W h=>HM.o W h rfl
   cases o3 with
   | false =>
    go_enter func67,ntmps67
    go_wp2_with (first
     | (go_at_call 86;refine Mo (HA.o _ H0.o) fun w1 hq1=>?_;replace hq1:Hid _:=hq1;have c1:=C.o _ _ hq1.o)
     | (go_at_call 99;refine Mo (HW.o _ hq1.o) fun w2 hq2=>?_;replace hq2:Hid _:=hq2;have c2:=C.o _ _ hq2.o;clear c1)
     | (go_at_call 100;refine Mo (HS1.o _ hq2.o) fun w3 hq3=>?_;replace hq3:Hid _:=hq3;have c3:=C.o _ _ hq3.o;clear c2)
     | (go_at_call 101;refine Mo (HM.o _ (K.o _ _ _ hq3.o upB)) fun w4 hq4=>?_;replace hq4:Hid _:=hq4;have c4:=C.o _ _ hq4.o;clear c3))
    exact F3.o sM sM sM _ hq4.o
   | true =>
    replace HS2:Hid (∀ W,Q 3 W->Calls prog 100 #[Pq g] W fun e w'=>e=.returned (.bool o4)/\Q 4 w'):=fun W h=>HS2.o W h rfl
    go_enter func67,ntmps67
    go_wp2_with (first
     | (go_at_call 86;refine Mo (HA.o _ H0.o) fun w1 hq1=>?_;replace hq1:Hid _:=hq1;have c1:=C.o _ _ hq1.o)
     | (go_at_call 99;refine Mo (HW.o _ hq1.o) fun w2 hq2=>?_;replace hq2:Hid _:=hq2;have c2:=C.o _ _ hq2.o;clear c1)
     | (go_at_call 100;refine Mo (HS2.o _ hq4.o) fun w5 hq5=>?_;replace hq5:Hid _:=hq5)
     | (go_at_call 100;refine Mo (HS1.o _ hq2.o) fun w3 hq3=>?_;replace hq3:Hid _:=hq3;have c3:=C.o _ _ hq3.o;clear c2)
     | (go_at_call 101;refine Mo (HM.o _ (K.o _ _ _ hq3.o upB)) fun w4 hq4=>?_;replace hq4:Hid _:=hq4;have c4:=C.o _ _ hq4.o;clear c3))
    exact F4.o sM sM sM _ hq5.o
end Go.Proofs.YtjnhhnbgjjkkjaaGreatDoor
