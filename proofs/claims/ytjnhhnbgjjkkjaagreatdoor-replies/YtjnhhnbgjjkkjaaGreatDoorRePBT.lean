import Derived.Test.YtjnhhnbgjjkkjaaGreatDoorRePBQ
import Derived.Test.YtjnhhnbgjjkkjaaGreatDoorRePAV
set_option linter.all false
set_option maxRecDepth 100000
set_option maxHeartbeats 2000000
namespace Go.Proofs.YtjnhhnbgjjkkjaaGreatDoor
open Go.ChangeShapes Go.WideShapes Go.ChangeAt Go.RowKit Go.Proofs.Tryz
theorem A9(b c:Nat)(w:World)(row:Bz)(l:Ln)(P Q:World->Prop)(hP:Hid (P w))
  (K:Hid (∀ W W',P W->Bl W W'->P W')) (K2:Hid (∀ W W',Q W->Bl W W'->Q W'))
  (HC:Hid (∀ W,P W->Calls prog 87 #[.string row,.string ⟨#[61]⟩] W fun e w'=>∃ q,e=.returned (.tuple #[.string row,.string q,.bool false])/\Bl W w'))
  (HR:Hid (∀ W,P W->Cr prog 38 #[.string row] W (.tuple #[.agg #[I6 l.v,.string l.t,.string l.o,U3 l.a,I6 l.n,U3 l.d,I6 l.g],.bool true])))
  (HI:Hid (∀ W,Cr prog 41 #[I6 l.v] W (.bool true)))
  (HD:Hid (∀ W,P W->Calls prog 43 #[Pq b,.agg #[I6 l.v,.string l.t,.string l.o,U3 l.a,I6 l.n,U3 l.d,I6 l.g]] W fun e w'=>∃ bt nt ct,e=.returned (.agg #[I6 0,.slice bt nt ct])/\Q w'))
  (HO:Hid (∀ bt nt ct W,Cr prog 61 #[.agg #[I6 0,.slice bt nt ct]] W (.bool true))) :
  Calls prog 84 #[Pq b,.agg #[.chan (some c)],.string row] w fun e w'=>e=.returned (.bool true)/\Q w':=by
 have h0:Hid (P (w.alloc (.cells #[.chan (some c)] 88))):=K.o _ _ hP.o upB
 clear hP;go_enter func84,ntmps84
 go_wp2_with (first
  | (go_at_call 87;refine(HC.o _ h0.o).mono ?_;rintro e w1 ⟨q,rfl,hq1⟩;have h1:Hid (P w1):=K.o _ _ h0.o hq1;clear hq1)
  | (go_at_call 38;refine Mo (HR.o _ h1.o) fun w2 hq2=>?_;have h2:Hid (P (w2.alloc (.cells #[I6 l.v,.string l.t,.string l.o,U3 l.a,I6 l.n,U3 l.d,I6 l.g] 93))):=K.o _ _ (K.o _ _ h1.o hq2) upB;clear hq2)
  | (go_at_call 41;refine Mo (HI.o _) fun w3 hq3=>?_;have h3:Hid (P w3):=K.o _ _ h2.o hq3;have B3:Hid (Blk w3 w2.heap.size #[I6 l.v,.string l.t,.string l.o,U3 l.a,I6 l.n,U3 l.d,I6 l.g] 93):=(Blk.new w2 _ _).below hq3;clear hq3;have m0:=B3.o.cell 0;have m1:=B3.o.cell 1;have m2:=B3.o.cell 2;have m3:=B3.o.cell 3;have m4:=B3.o.cell 4;have m5:=B3.o.cell 5;have m6:=B3.o.cell 6)
  | (go_at_call 43;refine(HD.o _ h3.o).mono ?_;rintro e w4 ⟨bt,nt,ct,rfl,h4⟩;replace h4:Hid (Q w4):=h4)
  | (go_at_call 61;refine Mo (HO.o bt nt ct _) fun w5 hq5=>?_;have h5:Hid (Q w5):=K2.o _ _ h4.o hq5;clear hq5))
 go_ret;exact⟨rfl,h5.o⟩
theorem Ba(b c:Nat)(w:World)(row t r:Bz)(l:Ln)(P Q:World->Prop)(hP:Hid (P w))
  (K:Hid (∀ W W',P W->Bl W W'->P W'))
  (HC:Hid (∀ W,P W->Cr prog 87 #[.string row,.string ⟨#[61]⟩] W (.tuple #[.string t,.string r,.bool true])))
  (HR:Hid (∀ W,P W->Cr prog 38 #[.string t] W (.tuple #[.agg #[I6 l.v,.string l.t,.string l.o,U3 l.a,I6 l.n,U3 l.d,I6 l.g],.bool true])))
  (HI:Hid (∀ W,Cr prog 41 #[I6 l.v] W (.bool true)))
  (HA:Hid (∀ W,P W->Calls prog 66 #[.agg #[.chan (some c)],.agg #[.string l.t,.string t,.string r]] W fun e w'=>e=.returned (.tuple #[])/\Q w')) :
  Calls prog 84 #[Pq b,.agg #[.chan (some c)],.string row] w fun e w'=>e=.returned (.bool true)/\Q w':=by
 have h0:Hid (P (w.alloc (.cells #[.chan (some c)] 88))):=K.o _ _ hP.o upB
 clear hP;go_enter func84,ntmps84
 go_wp2_with (first
  | (go_at_call 87;refine Mo (HC.o _ h0.o) fun w1 hq1=>?_;have h1:Hid (P w1):=K.o _ _ h0.o hq1;have A1:Hid (Blk w1 w.heap.size #[.chan (some c)] 88):=(Blk.new w _ _).below hq1;clear hq1)
  | (go_at_call 38;refine Mo (HR.o _ h1.o) fun w2 hq2=>?_;have h2:Hid (P (w2.alloc (.cells #[I6 l.v,.string l.t,.string l.o,U3 l.a,I6 l.n,U3 l.d,I6 l.g] 93))):=K.o _ _ (K.o _ _ h1.o hq2) upB;have A2:Hid (Blk w2 w.heap.size #[.chan (some c)] 88):=A1.o.below hq2;clear hq2)
  | (go_at_call 41;refine Mo (HI.o _) fun w3 hq3=>?_;have h3:Hid (P w3):=K.o _ _ h2.o hq3;have B3:Hid (Blk w3 w2.heap.size #[I6 l.v,.string l.t,.string l.o,U3 l.a,I6 l.n,U3 l.d,I6 l.g] 93):=(Blk.new w2 _ _).below hq3;have A3:Hid (Blk w3 w.heap.size #[.chan (some c)] 88):=(A2.o.alloc _).below hq3;clear hq3;have m1:=B3.o.cell 1;have a1:=A3.o.cell 0)
  | (go_at_call 66;refine Mo (HA.o _ h3.o) fun w4 h4=>?_;replace h4:Hid (Q w4):=h4))
 go_ret;exact⟨rfl,h4.o⟩
end Go.Proofs.YtjnhhnbgjjkkjaaGreatDoor
