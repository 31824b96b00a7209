import Derived.Test.YtjnhhnbgjjkkjaaGreatDoorRePAN
set_option linter.all false
set_option maxRecDepth 100000
set_option maxHeartbeats 2000000
namespace Go.Proofs.YtjnhhnbgjjkkjaaGreatDoor
section
open Go.ChangeShapes Go.WideShapes Go.ChangeAt Go.RowKit Go.Proofs.Tryz
def Wd(W:World)(g m:Nat)(ls:List (Lu)):Prop:=m=ls.length/\g<W.heap.size/\∀ i,i<m->W.cell? (At g i)=some (.string (bs (ls.getD i [])))
theorem Wd.below{W W':World}{g m:Nat}{ls:List (Lu)}(h:Wd W g m ls)(hb:Bl W W'):Wd W' g m ls:=⟨h.1,Nat.lt_of_lt_of_le h.2.1 hb.size,fun i hi=>(hb.cell (p:=At g i) h.2.1).trans (h.2.2 i hi)⟩
def bZ(v:Int)(m:Nat)(t o:Bool)(ai e nu:Int):Bool :=
 decide (m=4\/m=5)&&t&&o&&(if v=6\/v=7 then decide (m=4)&&decide (0<=ai) else if v=2 then decide (m=5)&&decide (e=0)&&decide (0<=nu) else if 0<=v/\v<=5 then decide (m=4)&&decide (e=0) else false)
def Wq4(W:World)(g:Nat)(p:Nat->Bz)(V:World):Prop:=Hid (Bl W V)/\V.cell? (At g 0)=some (.string (p 0))/\V.cell? (At g 1)=some (.string (p 1))/\V.cell? (At g 2)=some (.string (p 2))/\V.cell? (At g 3)=some (.string (p 3))/\g<V.heap.size
def Wq5(W:World)(g:Nat)(p:Nat->Bz)(V:World):Prop:=Wq4 W g p V/\V.cell? (At g 4)=some (.string (p 4))
structure IH(W:World)(Q:World->Prop)(p:Nat->Bz)(t o:Bool)(ai b n e nu:Int):Prop where
 q:Q W
 n1:∀ V,Bl W V->Calls prog 183 #[.string (p 1)] V fun x w'=>x=.returned (.bool t)/\Q w'
 n2:∀ V,Bl W V->Calls prog 183 #[.string (p 2)] V fun x w'=>x=.returned (.bool o)/\Q w'
 ra:∀ V,Bl W V->Calls prog 184 #[.string (p 3)] V fun x w'=>x=.returned (I6 ai)/\Q w'
 rd:∀ V,Bl W V->Calls prog 181 #[.string (p 3)] V fun x w'=>x=.returned (.tuple #[.agg #[U3 b,I6 n],I6 e])/\Q w'
 nm:∀ V,Bl W V->Calls prog 185 #[.string (p 4),I6 32] V fun x w'=>x=.returned (I6 nu)/\Q w'
def VbA(p0:Bz):Prop:=((p0.toList==[84,65,75,69])=true)\/((p0.toList==[84,65,75,69])=false/\(p0.toList==[71,73,86,69])=true)
def VbB(p0:Bz):Prop:=((p0.toList==[84,65,75,69])=false/\(p0.toList==[71,73,86,69])=false/\(p0.toList==[78,69,84])=false/\(p0.toList==[80,79,79,76])=true)\/((p0.toList==[84,65,75,69])=false/\(p0.toList==[71,73,86,69])=false/\(p0.toList==[78,69,84])=false/\(p0.toList==[80,79,79,76])=false/\(p0.toList==[68,82,79,80])=true)\/((p0.toList==[84,65,75,69])=false/\(p0.toList==[71,73,86,69])=false/\(p0.toList==[78,69,84])=false/\(p0.toList==[80,79,79,76])=false/\(p0.toList==[68,82,79,80])=false/\(p0.toList==[66,76,79,67,75])=true)\/((p0.toList==[84,65,75,69])=false/\(p0.toList==[71,73,86,69])=false/\(p0.toList==[78,69,84])=false/\(p0.toList==[80,79,79,76])=false/\(p0.toList==[68,82,79,80])=false/\(p0.toList==[66,76,79,67,75])=false/\(p0.toList==[70,82,69,69])=true)\/((p0.toList==[84,65,75,69])=false/\(p0.toList==[71,73,86,69])=false/\(p0.toList==[78,69,84])=false/\(p0.toList==[80,79,79,76])=false/\(p0.toList==[68,82,79,80])=false/\(p0.toList==[66,76,79,67,75])=false/\(p0.toList==[70,82,69,69])=false/\(p0.toList==[76,69,65,83,69])=true)
theorem E5(W:World)(g cap:Nat)(p:Nat->Bz)(t o:Bool)(ai b n e nu:Int)(h:IH W (Wq4 W g p) p t o ai b n e nu)(ht:t=false):Cr prog 135 #[Sq g 4 cap] W (.bool false):=by
 obtain⟨B0,c0,c1,c2,c3,cz⟩:=h.q;subst ht
 all_goals (
  go_enter func135,ntmps135
  go_wp2_with (first|(go_at_call_of 183 (Value.string (p 1));refine(h.n1 _ (upH B0)).mono ?_;rintro x w1 ⟨rfl,⟨B1,c0,c1,c2,c3,cz⟩⟩)|(go_at_call_of 183 (Value.string (p 2));refine(h.n2 _ (upH B1)).mono ?_;rintro x w2 ⟨rfl,⟨B2,c0,c1,c2,c3,cz⟩⟩))
  go_ret;exact⟨by first|rfl|(simp;omega),by have hh:=B2.o;have hg:=hh.size;exact upB⟩)
theorem EY(W:World)(g cap:Nat)(p:Nat->Bz)(t o:Bool)(ai b n e nu:Int)(h:IH W (Wq4 W g p) p t o ai b n e nu)(ht:t=true)(ho:o=false):Cr prog 135 #[Sq g 4 cap] W (.bool false):=by
 obtain⟨B0,c0,c1,c2,c3,cz⟩:=h.q;subst ht;subst ho
 all_goals (
  go_enter func135,ntmps135
  go_wp2_with (first|(go_at_call_of 183 (Value.string (p 1));refine(h.n1 _ (upH B0)).mono ?_;rintro x w1 ⟨rfl,⟨B1,c0,c1,c2,c3,cz⟩⟩)|(go_at_call_of 183 (Value.string (p 2));refine(h.n2 _ (upH B1)).mono ?_;rintro x w2 ⟨rfl,⟨B2,c0,c1,c2,c3,cz⟩⟩))
  go_ret;exact⟨by first|rfl|(simp;omega),by have hh:=B2.o;have hg:=hh.size;exact upB⟩)
theorem EO(W:World)(g cap:Nat)(p:Nat->Bz)(t o:Bool)(ai b n e nu:Int)(h:IH W (Wq4 W g p) p t o ai b n e nu)(ht:t=true)(ho:o=true)(hv:VbA (p 0))(ha:0<=ai):Cr prog 135 #[Sq g 4 cap] W (.bool true):=by
 obtain⟨B0,c0,c1,c2,c3,cz⟩:=h.q;subst ht;subst ho;rcases hv with h0|⟨h0,h1⟩
 all_goals (
  go_enter func135,ntmps135
  go_wp2_with (first|(go_at_call_of 183 (Value.string (p 1));refine(h.n1 _ (upH B0)).mono ?_;rintro x w1 ⟨rfl,⟨B1,c0,c1,c2,c3,cz⟩⟩)|(go_at_call_of 183 (Value.string (p 2));refine(h.n2 _ (upH B1)).mono ?_;rintro x w2 ⟨rfl,⟨B2,c0,c1,c2,c3,cz⟩⟩)|(go_at_call_of 184 (Value.string (p 3));refine(h.ra _ (upH B2)).mono ?_;rintro x w3 ⟨rfl,⟨B3,c0,c1,c2,c3,cz⟩⟩))
  go_ret;exact⟨by first|rfl|(simp;omega),by have hh:=B3.o;have hg:=hh.size;exact upB⟩)
theorem EM(W:World)(g cap:Nat)(p:Nat->Bz)(t o:Bool)(ai b n e nu:Int)(h:IH W (Wq4 W g p) p t o ai b n e nu)(ht:t=true)(ho:o=true)(hv:VbA (p 0))(ha:¬0<=ai):Cr prog 135 #[Sq g 4 cap] W (.bool false):=by
 obtain⟨B0,c0,c1,c2,c3,cz⟩:=h.q;subst ht;subst ho;rcases hv with h0|⟨h0,h1⟩
 all_goals (
  go_enter func135,ntmps135
  go_wp2_with (first|(go_at_call_of 183 (Value.string (p 1));refine(h.n1 _ (upH B0)).mono ?_;rintro x w1 ⟨rfl,⟨B1,c0,c1,c2,c3,cz⟩⟩)|(go_at_call_of 183 (Value.string (p 2));refine(h.n2 _ (upH B1)).mono ?_;rintro x w2 ⟨rfl,⟨B2,c0,c1,c2,c3,cz⟩⟩)|(go_at_call_of 184 (Value.string (p 3));refine(h.ra _ (upH B2)).mono ?_;rintro x w3 ⟨rfl,⟨B3,c0,c1,c2,c3,cz⟩⟩))
  go_ret;exact⟨by first|rfl|(simp;omega),by have hh:=B3.o;have hg:=hh.size;exact upB⟩)
theorem ET(W:World)(g cap:Nat)(p:Nat->Bz)(t o:Bool)(ai b n e nu:Int)(h:IH W (Wq4 W g p) p t o ai b n e nu)(ht:t=true)(ho:o=true)(hv:((p 0).toList==[84,65,75,69])=false/\((p 0).toList==[71,73,86,69])=false/\((p 0).toList==[78,69,84])=true):Cr prog 135 #[Sq g 4 cap] W (.bool false):=by
 obtain⟨B0,c0,c1,c2,c3,cz⟩:=h.q;subst ht;subst ho;obtain⟨h0,h1,h2⟩:=hv
 all_goals (
  go_enter func135,ntmps135
  go_wp2_with (first|(go_at_call_of 183 (Value.string (p 1));refine(h.n1 _ (upH B0)).mono ?_;rintro x w1 ⟨rfl,⟨B1,c0,c1,c2,c3,cz⟩⟩)|(go_at_call_of 183 (Value.string (p 2));refine(h.n2 _ (upH B1)).mono ?_;rintro x w2 ⟨rfl,⟨B2,c0,c1,c2,c3,cz⟩⟩)|(go_at_call_of 181 (Value.string (p 3));refine(h.rd _ (upH B2)).mono ?_;rintro x w3 ⟨rfl,⟨B3,c0,c1,c2,c3,cz⟩⟩))
  go_ret;exact⟨by first|rfl|(simp;omega),by have hh:=B3.o;have hg:=hh.size;exact upB⟩)
theorem ES(W:World)(g cap:Nat)(p:Nat->Bz)(t o:Bool)(ai b n e nu:Int)(h:IH W (Wq4 W g p) p t o ai b n e nu)(ht:t=true)(ho:o=true)(hv:VbB (p 0))(he:e=0):Cr prog 135 #[Sq g 4 cap] W (.bool true):=by
 obtain⟨B0,c0,c1,c2,c3,cz⟩:=h.q;subst he;subst ht;subst ho;rcases hv with⟨h0,h1,h2,h3⟩|⟨h0,h1,h2,h3,h4⟩|⟨h0,h1,h2,h3,h4,h5⟩|⟨h0,h1,h2,h3,h4,h5,h6⟩|⟨h0,h1,h2,h3,h4,h5,h6,h7⟩
 all_goals (
  go_enter func135,ntmps135
  go_wp2_with (first|(go_at_call_of 183 (Value.string (p 1));refine(h.n1 _ (upH B0)).mono ?_;rintro x w1 ⟨rfl,⟨B1,c0,c1,c2,c3,cz⟩⟩)|(go_at_call_of 183 (Value.string (p 2));refine(h.n2 _ (upH B1)).mono ?_;rintro x w2 ⟨rfl,⟨B2,c0,c1,c2,c3,cz⟩⟩)|(go_at_call_of 181 (Value.string (p 3));refine(h.rd _ (upH B2)).mono ?_;rintro x w3 ⟨rfl,⟨B3,c0,c1,c2,c3,cz⟩⟩))
  go_ret;exact⟨by first|rfl|(simp;omega),by have hh:=B3.o;have hg:=hh.size;exact upB⟩)
theorem ER(W:World)(g cap:Nat)(p:Nat->Bz)(t o:Bool)(ai b n e nu:Int)(h:IH W (Wq4 W g p) p t o ai b n e nu)(ht:t=true)(ho:o=true)(hv:VbB (p 0))(he:(e==0)=false):Cr prog 135 #[Sq g 4 cap] W (.bool false):=by
 obtain⟨B0,c0,c1,c2,c3,cz⟩:=h.q;subst ht;subst ho;rcases hv with⟨h0,h1,h2,h3⟩|⟨h0,h1,h2,h3,h4⟩|⟨h0,h1,h2,h3,h4,h5⟩|⟨h0,h1,h2,h3,h4,h5,h6⟩|⟨h0,h1,h2,h3,h4,h5,h6,h7⟩
 all_goals (
  go_enter func135,ntmps135
  go_wp2_with (first|(go_at_call_of 183 (Value.string (p 1));refine(h.n1 _ (upH B0)).mono ?_;rintro x w1 ⟨rfl,⟨B1,c0,c1,c2,c3,cz⟩⟩)|(go_at_call_of 183 (Value.string (p 2));refine(h.n2 _ (upH B1)).mono ?_;rintro x w2 ⟨rfl,⟨B2,c0,c1,c2,c3,cz⟩⟩)|(go_at_call_of 181 (Value.string (p 3));refine(h.rd _ (upH B2)).mono ?_;rintro x w3 ⟨rfl,⟨B3,c0,c1,c2,c3,cz⟩⟩))
  go_ret;exact⟨by first|rfl|(simp;omega),by have hh:=B3.o;have hg:=hh.size;exact upB⟩)
theorem E7(W:World)(g cap:Nat)(p:Nat->Bz)(t o:Bool)(ai b n e nu:Int)(h:IH W (Wq4 W g p) p t o ai b n e nu)(ht:t=true)(ho:o=true)(hv:((p 0).toList==[84,65,75,69])=false/\((p 0).toList==[71,73,86,69])=false/\((p 0).toList==[78,69,84])=false/\((p 0).toList==[80,79,79,76])=false/\((p 0).toList==[68,82,79,80])=false/\((p 0).toList==[66,76,79,67,75])=false/\((p 0).toList==[70,82,69,69])=false/\((p 0).toList==[76,69,65,83,69])=false):Cr prog 135 #[Sq g 4 cap] W (.bool false):=by
 obtain⟨B0,c0,c1,c2,c3,cz⟩:=h.q;subst ht;subst ho;obtain⟨h0,h1,h2,h3,h4,h5,h6,h7⟩:=hv
 all_goals (
  go_enter func135,ntmps135
  go_wp2_with (first|(go_at_call_of 183 (Value.string (p 1));refine(h.n1 _ (upH B0)).mono ?_;rintro x w1 ⟨rfl,⟨B1,c0,c1,c2,c3,cz⟩⟩)|(go_at_call_of 183 (Value.string (p 2));refine(h.n2 _ (upH B1)).mono ?_;rintro x w2 ⟨rfl,⟨B2,c0,c1,c2,c3,cz⟩⟩))
  go_ret;exact⟨by first|rfl|(simp;omega),by have hh:=B2.o;have hg:=hh.size;exact upB⟩)
theorem E6(W:World)(g cap:Nat)(p:Nat->Bz)(t o:Bool)(ai b n e nu:Int)(h:IH W (Wq5 W g p) p t o ai b n e nu)(ht:t=false):Cr prog 135 #[Sq g 5 cap] W (.bool false):=by
 obtain⟨⟨B0,c0,c1,c2,c3,cz⟩,c4⟩:=h.q;subst ht
 all_goals (
  go_enter func135,ntmps135
  go_wp2_with (first|(go_at_call_of 183 (Value.string (p 1));refine(h.n1 _ (upH B0)).mono ?_;rintro x w1 ⟨rfl,⟨⟨B1,c0,c1,c2,c3,cz⟩,c4⟩⟩)|(go_at_call_of 183 (Value.string (p 2));refine(h.n2 _ (upH B1)).mono ?_;rintro x w2 ⟨rfl,⟨⟨B2,c0,c1,c2,c3,cz⟩,c4⟩⟩))
  go_ret;exact⟨by first|rfl|(simp;omega),by have hh:=B2.o;have hg:=hh.size;exact upB⟩)
theorem EZ(W:World)(g cap:Nat)(p:Nat->Bz)(t o:Bool)(ai b n e nu:Int)(h:IH W (Wq5 W g p) p t o ai b n e nu)(ht:t=true)(ho:o=false):Cr prog 135 #[Sq g 5 cap] W (.bool false):=by
 obtain⟨⟨B0,c0,c1,c2,c3,cz⟩,c4⟩:=h.q;subst ht;subst ho
 all_goals (
  go_enter func135,ntmps135
  go_wp2_with (first|(go_at_call_of 183 (Value.string (p 1));refine(h.n1 _ (upH B0)).mono ?_;rintro x w1 ⟨rfl,⟨⟨B1,c0,c1,c2,c3,cz⟩,c4⟩⟩)|(go_at_call_of 183 (Value.string (p 2));refine(h.n2 _ (upH B1)).mono ?_;rintro x w2 ⟨rfl,⟨⟨B2,c0,c1,c2,c3,cz⟩,c4⟩⟩))
  go_ret;exact⟨by first|rfl|(simp;omega),by have hh:=B2.o;have hg:=hh.size;exact upB⟩)
theorem EL(W:World)(g cap:Nat)(p:Nat->Bz)(t o:Bool)(ai b n e nu:Int)(h:IH W (Wq5 W g p) p t o ai b n e nu)(ht:t=true)(ho:o=true)(hv:VbA (p 0)):Cr prog 135 #[Sq g 5 cap] W (.bool false):=by
 obtain⟨⟨B0,c0,c1,c2,c3,cz⟩,c4⟩:=h.q;subst ht;subst ho;rcases hv with h0|⟨h0,h1⟩
 all_goals (
  go_enter func135,ntmps135
  go_wp2_with (first|(go_at_call_of 183 (Value.string (p 1));refine(h.n1 _ (upH B0)).mono ?_;rintro x w1 ⟨rfl,⟨⟨B1,c0,c1,c2,c3,cz⟩,c4⟩⟩)|(go_at_call_of 183 (Value.string (p 2));refine(h.n2 _ (upH B1)).mono ?_;rintro x w2 ⟨rfl,⟨⟨B2,c0,c1,c2,c3,cz⟩,c4⟩⟩)|(go_at_call_of 184 (Value.string (p 3));refine(h.ra _ (upH B2)).mono ?_;rintro x w3 ⟨rfl,⟨⟨B3,c0,c1,c2,c3,cz⟩,c4⟩⟩))
  go_ret;exact⟨by first|rfl|(simp;omega),by have hh:=B3.o;have hg:=hh.size;exact upB⟩)
theorem EX(W:World)(g cap:Nat)(p:Nat->Bz)(t o:Bool)(ai b n e nu:Int)(h:IH W (Wq5 W g p) p t o ai b n e nu)(ht:t=true)(ho:o=true)(hv:((p 0).toList==[84,65,75,69])=false/\((p 0).toList==[71,73,86,69])=false/\((p 0).toList==[78,69,84])=true)(he:e=0)(hn:0<=nu):Cr prog 135 #[Sq g 5 cap] W (.bool true):=by
 obtain⟨⟨B0,c0,c1,c2,c3,cz⟩,c4⟩:=h.q;subst he;subst ht;subst ho;obtain⟨h0,h1,h2⟩:=hv
 all_goals (
  go_enter func135,ntmps135
  go_wp2_with (first|(go_at_call_of 183 (Value.string (p 1));refine(h.n1 _ (upH B0)).mono ?_;rintro x w1 ⟨rfl,⟨⟨B1,c0,c1,c2,c3,cz⟩,c4⟩⟩)|(go_at_call_of 183 (Value.string (p 2));refine(h.n2 _ (upH B1)).mono ?_;rintro x w2 ⟨rfl,⟨⟨B2,c0,c1,c2,c3,cz⟩,c4⟩⟩)|(go_at_call_of 181 (Value.string (p 3));refine(h.rd _ (upH B2)).mono ?_;rintro x w3 ⟨rfl,⟨⟨B3,c0,c1,c2,c3,cz⟩,c4⟩⟩)|(go_at_call_of 185 (Value.string (p 4));refine(h.nm _ (upH B3)).mono ?_;rintro x w4 ⟨rfl,⟨⟨B4,c0,c1,c2,c3,cz⟩,c4⟩⟩))
  go_ret;exact⟨by first|rfl|(simp;omega),by have hh:=B4.o;have hg:=hh.size;exact upB⟩)
theorem EV(W:World)(g cap:Nat)(p:Nat->Bz)(t o:Bool)(ai b n e nu:Int)(h:IH W (Wq5 W g p) p t o ai b n e nu)(ht:t=true)(ho:o=true)(hv:((p 0).toList==[84,65,75,69])=false/\((p 0).toList==[71,73,86,69])=false/\((p 0).toList==[78,69,84])=true)(he:e=0)(hn:¬0<=nu):Cr prog 135 #[Sq g 5 cap] W (.bool false):=by
 obtain⟨⟨B0,c0,c1,c2,c3,cz⟩,c4⟩:=h.q;subst he;subst ht;subst ho;obtain⟨h0,h1,h2⟩:=hv
 all_goals (
  go_enter func135,ntmps135
  go_wp2_with (first|(go_at_call_of 183 (Value.string (p 1));refine(h.n1 _ (upH B0)).mono ?_;rintro x w1 ⟨rfl,⟨⟨B1,c0,c1,c2,c3,cz⟩,c4⟩⟩)|(go_at_call_of 183 (Value.string (p 2));refine(h.n2 _ (upH B1)).mono ?_;rintro x w2 ⟨rfl,⟨⟨B2,c0,c1,c2,c3,cz⟩,c4⟩⟩)|(go_at_call_of 181 (Value.string (p 3));refine(h.rd _ (upH B2)).mono ?_;rintro x w3 ⟨rfl,⟨⟨B3,c0,c1,c2,c3,cz⟩,c4⟩⟩)|(go_at_call_of 185 (Value.string (p 4));refine(h.nm _ (upH B3)).mono ?_;rintro x w4 ⟨rfl,⟨⟨B4,c0,c1,c2,c3,cz⟩,c4⟩⟩))
  go_ret;exact⟨by first|rfl|(simp;omega),by have hh:=B4.o;have hg:=hh.size;exact upB⟩)
theorem EU(W:World)(g cap:Nat)(p:Nat->Bz)(t o:Bool)(ai b n e nu:Int)(h:IH W (Wq5 W g p) p t o ai b n e nu)(ht:t=true)(ho:o=true)(hv:((p 0).toList==[84,65,75,69])=false/\((p 0).toList==[71,73,86,69])=false/\((p 0).toList==[78,69,84])=true)(he:(e==0)=false):Cr prog 135 #[Sq g 5 cap] W (.bool false):=by
 obtain⟨⟨B0,c0,c1,c2,c3,cz⟩,c4⟩:=h.q;subst ht;subst ho;obtain⟨h0,h1,h2⟩:=hv
 all_goals (
  go_enter func135,ntmps135
  go_wp2_with (first|(go_at_call_of 183 (Value.string (p 1));refine(h.n1 _ (upH B0)).mono ?_;rintro x w1 ⟨rfl,⟨⟨B1,c0,c1,c2,c3,cz⟩,c4⟩⟩)|(go_at_call_of 183 (Value.string (p 2));refine(h.n2 _ (upH B1)).mono ?_;rintro x w2 ⟨rfl,⟨⟨B2,c0,c1,c2,c3,cz⟩,c4⟩⟩)|(go_at_call_of 181 (Value.string (p 3));refine(h.rd _ (upH B2)).mono ?_;rintro x w3 ⟨rfl,⟨⟨B3,c0,c1,c2,c3,cz⟩,c4⟩⟩))
  go_ret;exact⟨by first|rfl|(simp;omega),by have hh:=B3.o;have hg:=hh.size;exact upB⟩)
theorem EP(W:World)(g cap:Nat)(p:Nat->Bz)(t o:Bool)(ai b n e nu:Int)(h:IH W (Wq5 W g p) p t o ai b n e nu)(ht:t=true)(ho:o=true)(hv:VbB (p 0)):Cr prog 135 #[Sq g 5 cap] W (.bool false):=by
 obtain⟨⟨B0,c0,c1,c2,c3,cz⟩,c4⟩:=h.q;subst ht;subst ho;rcases hv with⟨h0,h1,h2,h3⟩|⟨h0,h1,h2,h3,h4⟩|⟨h0,h1,h2,h3,h4,h5⟩|⟨h0,h1,h2,h3,h4,h5,h6⟩|⟨h0,h1,h2,h3,h4,h5,h6,h7⟩
 all_goals (
  go_enter func135,ntmps135
  go_wp2_with (first|(go_at_call_of 183 (Value.string (p 1));refine(h.n1 _ (upH B0)).mono ?_;rintro x w1 ⟨rfl,⟨⟨B1,c0,c1,c2,c3,cz⟩,c4⟩⟩)|(go_at_call_of 183 (Value.string (p 2));refine(h.n2 _ (upH B1)).mono ?_;rintro x w2 ⟨rfl,⟨⟨B2,c0,c1,c2,c3,cz⟩,c4⟩⟩)|(go_at_call_of 181 (Value.string (p 3));refine(h.rd _ (upH B2)).mono ?_;rintro x w3 ⟨rfl,⟨⟨B3,c0,c1,c2,c3,cz⟩,c4⟩⟩))
  go_ret;exact⟨by first|rfl|(simp;omega),by have hh:=B3.o;have hg:=hh.size;exact upB⟩)
theorem E8(W:World)(g cap:Nat)(p:Nat->Bz)(t o:Bool)(ai b n e nu:Int)(h:IH W (Wq5 W g p) p t o ai b n e nu)(ht:t=true)(ho:o=true)(hv:((p 0).toList==[84,65,75,69])=false/\((p 0).toList==[71,73,86,69])=false/\((p 0).toList==[78,69,84])=false/\((p 0).toList==[80,79,79,76])=false/\((p 0).toList==[68,82,79,80])=false/\((p 0).toList==[66,76,79,67,75])=false/\((p 0).toList==[70,82,69,69])=false/\((p 0).toList==[76,69,65,83,69])=false):Cr prog 135 #[Sq g 5 cap] W (.bool false):=by
 obtain⟨⟨B0,c0,c1,c2,c3,cz⟩,c4⟩:=h.q;subst ht;subst ho;obtain⟨h0,h1,h2,h3,h4,h5,h6,h7⟩:=hv
 all_goals (
  go_enter func135,ntmps135
  go_wp2_with (first|(go_at_call_of 183 (Value.string (p 1));refine(h.n1 _ (upH B0)).mono ?_;rintro x w1 ⟨rfl,⟨⟨B1,c0,c1,c2,c3,cz⟩,c4⟩⟩)|(go_at_call_of 183 (Value.string (p 2));refine(h.n2 _ (upH B1)).mono ?_;rintro x w2 ⟨rfl,⟨⟨B2,c0,c1,c2,c3,cz⟩,c4⟩⟩))
  go_ret;exact⟨by first|rfl|(simp;omega),by have hh:=B2.o;have hg:=hh.size;exact upB⟩)
theorem Gj(W:World)(g cap m:Nat)(h4:((m:Int) != 4)=true)(h5:((m:Int) != 5)=true):Cr prog 135 #[Sq g m cap] W (.bool false):=by
 go_enter func135,ntmps135
 go_wp2;go_ret;exact⟨rfl,upB⟩
end
section
open Go.RowKit
def dK(x:Tk):List Value:=[.string x.t,.string x.l,.string x.r]
def TR(W:World)(v:Value)(b:Nat)(l:List Tk):Prop :=
 (v=.slice none 0 0/\l=[])\/∃ off cap cur,v=.slice (some (At b off)) l.length cap/\Blk W b cur 216/\l.length<=cap/\cap<=maxLen/\off+cap*3<=cur.size/\∀ j u,(l.flatMap dK)[j]?=some u->cur[off+j]?=some u
theorem i6(l:List Tk):(l.flatMap dK).length=l.length*3:=by
 induction l with
 | nil=>rfl
 | cons x r ih=>rw[List.flatMap_cons,List.length_append,ih,List.length_cons];simp[dK];omega
theorem TR.same{W W':World}{v:Value}{b:Nat}{l:List Tk}(h:TR W v b l)(hb:∀ cur,Blk W b cur 216->W'.heap[b]?=W.heap[b]?):TR W' v b l:=by
 rcases h with h|⟨off,cap,cur,h1,h2,h3⟩
 ·exact .inl h
 ·exact .inr ⟨off,cap,cur,h1,(hb cur h2).trans h2,h3⟩
theorem TR.below{W W':World}{v:Value}{b:Nat}{l:List Tk}(h:TR W v b l)(hb:Bl W W'):TR W' v b l:=h.same fun cur q=>hb.block b q.lt
theorem sk(l:List Tk)(k c:Nat)(hk:k<l.length)(hc:c<3):(l.flatMap dK)[k*3+c]?=(dK (l.getD k tk0))[c]?:=by
 induction l generalizing k with
 | nil=>simp at hk
 | cons x r ih =>
  rw[List.flatMap_cons]
  cases k with
  | zero =>
   rw[List.getElem?_append_left (by simp[dK];omega)]
   simp
  | succ k =>
   rw[List.getElem?_append_right (by simp[dK];omega)]
   have:=ih k (by simpa using hk)
   simp only[List.getD_cons_succ]
   rw[<- this];congr 1
   simp[dK];omega
theorem TR.at{W:World}{v:Value}{b:Nat}{l:List Tk}(h:TR W v b l){k:Nat}(hk:k<l.length):∃ off cap,v=.slice (some (At b off)) l.length cap/\b<W.heap.size/\W.cell? (At b (off+k*3))=some (.string (l.getD k tk0).t)/\W.cell? (At b (off+k*3+1))=some (.string (l.getD k tk0).l)/\W.cell? (At b (off+k*3+2))=some (.string (l.getD k tk0).r):=by
 rcases h with⟨_,rfl⟩|⟨off,cap,cur,h1,h2,h3,h4,h5,h6⟩
 ·simp at hk
 ·refine⟨off,cap,h1,h2.lt,?_,?_,?_⟩
  ·rw[h2.cell];exact h6 (k*3+0) _ (sk l k 0 hk dE)
  ·rw[h2.cell,Nat.add_assoc];exact h6 (k*3+1) _ (sk l k 1 hk dE)
  ·rw[h2.cell,Nat.add_assoc];exact h6 (k*3+2) _ (sk l k 2 hk dE)
theorem TR.cap{W:World}{b off n cap:Nat}{l:List Tk}(h:TR W (.slice (some (At b off)) n cap) b l):n<=cap:=by
 rcases h with⟨h,_⟩|⟨off',cap',cur,h1,h2,h3,_⟩
 ·cases h
 ·obtain⟨_,rfl,rfl⟩:off=off'/\n=l.length/\cap=cap':=by simpa using h1
  exact h3
theorem TR.tail{W:World}{b off n cap:Nat}{x:Tk}{l:List Tk}(h:TR W (.slice (some (At b off)) n cap) b (x::l)):n=l.length+1/\n<=cap/\TR W (.slice (some (At b (off+3))) l.length (cap-1)) b l:=by
 rcases h with⟨h,_⟩|⟨off',cap',cur,h1,h2,h3,h4,h5,h6⟩
 ·cases h
 ·obtain⟨rfl,rfl,rfl⟩:off=off'/\n=(x::l).length/\cap=cap':=by simpa using h1
  rw[List.length_cons] at h3;refine⟨rfl,h3,.inr ⟨off+3,cap-1,cur,rfl,h2,by omega,by omega,by omega,fun j u hj=>?_⟩⟩
  have:=h6 (3+j) u (by rw[List.flatMap_cons,List.getElem?_append_right (by simp[dK])];simpa[dK] using hj)
  rw[<- this];congr 1
  omega
theorem Ha(cur:Array Value)(o:Nat)(x y z:Value)(h:o+3<=cur.size)(j:Nat):(((cur.setIfInBounds o x).setIfInBounds (o+1) y).setIfInBounds (o+1+1) z)[j]?=if j=o then some x else if j=o+1 then some y else if j=o+2 then some z else cur[j]?:=by
 simp only[Array.getElem?_setIfInBounds,Array.size_setIfInBounds]
 by_cases h1:j=o
 ·subst h1;rw[if_neg om,if_neg om,if_pos rfl,if_pos om,if_pos rfl]
 ·by_cases h2:j=o+1
  ·subst h2;rw[if_neg om,if_pos rfl,if_pos om,if_neg om,if_pos rfl]
  ·by_cases h3:j=o+2
   ·subst h3;rw[if_pos rfl,if_pos om,if_neg om,if_neg om,if_pos rfl]
   ·rw[if_neg om,if_neg om,if_neg om,if_neg h1,if_neg h2,if_neg h3]
theorem mU(l:List Tk)(x:Tk):(l++[x]).flatMap dK=l.flatMap dK++dK x:=by simp
theorem TR.owned{W:World}{B:Nat}{v:Value}{l:List Tk}(h:W.ownsRow B 216 3 v l.length (l.flatMap dK))(hn:0<l.length):∃ b cap,v=Sq b l.length cap/\B<=b/\TR W v b l:=by
 rcases h.2 with⟨_,q⟩|⟨g,cap,cur,h1,h2,h3,h4,h5,h6,h7⟩
 ·omega
 ·refine⟨g,cap,h1,h2,.inr ⟨0,cap,cur,h1,h3,h4,h5,by omega,fun j u hj=>?_⟩⟩
  have hlt:j<(l.flatMap dK).length:=(List.getElem?_eq_some_iff.1 hj).1
  rw[<- h7,List.getElem?_take] at hj;rw[i6] at hlt;rw[if_pos hlt] at hj;rw[Nat.zero_add,<- Array.getElem?_toList];exact hj
section
variable {P:Program}
theorem lY(w:World)(t ty:TypeId)(i:TypeInfo)(z:Value)(bytes:Nat)(ht:P.underlying t=some (.slice 216))(hi:P.info? 216=some i)(hz:i.zero=some z)(hsize:i.size=3)(hby:i.bytes=bytes)(hzs:z.cells.size=3)
  (v:Value) (b:Nat) (l:List Tk) (h:TR w v b l) (ad:Addr) (c:Nat) (x:Tk) (hnews:∀ j u,(dK x)[j]?=some u->w.cell? (ad.add j)=some u) (h63:l.length+1<=maxLen) (hbytes:(l.length+1)*bytes<=140737488355328) :
  ∃ b' off cap w',(Builtin.append_ #[t,t] ty #[v,.slice (some ad) 1 c]).run P w=.ok (.slice (some (At b' off)) (l.length+1) cap) w'/\TR w' (.slice (some (At b' off)) (l.length+1) cap) b' (l++[x])/\(b'=b\/w.heap.size<=b')/\Chg (fun q=>q=b/\v≠.slice none 0 0) w w':=by
 have hl1:(l++[x]).length=l.length+1:=by simp
 rcases h with⟨rfl,rfl⟩|⟨off,cap,cur,rfl,h2,h3,h4,h5,h6⟩
 ·obtain⟨v',w',hrun,r1,r2,_⟩:=run_append_own (P:=P) w w.heap.size t ty 216 i z 3 bytes ht hi hz hsize hby hzs dE (.slice none 0 0) 0 [] (World.ownsRow_nil w _ _ 3) ad 1 c (dK x) rfl hnews (by intro u hu;simp[dK] at hu;rcases hu with rfl|rfl|rfl<;>rfl) (by simpa using h63) (by simpa using hbytes) (Nat.le_refl _)
  obtain⟨b',cap',rfl,q1,q2⟩:=TR.owned (l:=[x]) (by simpa using r1) sM
  exact⟨b',0,cap',w',hrun,q2,.inr q1,Chg.grown r2 (by simp[Value.ownBlock])⟩
 ·by_cases hr:l.length+1<=cap
  ·have hrun:=run_append_room_cells (P:=P) w t ty 216 i ht hi b off l.length cap ad 1 c (dK x) (by rw[hsize];rfl) hnews (by intro u hu;simp[dK] at hu;rcases hu with rfl|rfl|rfl<;>rfl) hr
    (fun j hj=>by rw[h2.cell,Array.getElem?_eq_getElem (by rw[hsize];simp[dK] at hj;omega)];rfl)
    (fun j hj=>h2.frozen _)
   refine⟨b,off,cap,_,hrun,.inr ⟨off,cap,((cur.setIfInBounds (off+l.length*3) (.string x.t)).setIfInBounds (off+l.length*3+1) (.string x.l)).setIfInBounds (off+l.length*3+1+1) (.string x.r),by rw[hl1],?_,by rw[hl1];exact hr,h4,by simpa using h5,fun j u hj=>?_⟩,.inl rfl,?_⟩
   ·rw[hsize];exact((h2.set _ _).set _ _).set _ _
   ·rw[mU] at hj;rw[Ha cur _ _ _ _ om];by_cases q:j<(l.flatMap dK).length
    ·rw[List.getElem?_append_left q] at hj;rw[i6] at q;rw[if_neg om,if_neg om,if_neg om];exact h6 j u hj
    ·rw[List.getElem?_append_right om] at hj;rw[i6] at hj q;have hlt:j-l.length*3<(dK x).length:=(List.getElem?_eq_some_iff.1 hj).1
     have hlt3:j-l.length*3<3:=hlt
     rcases (show j=l.length*3\/j=l.length*3+1\/j=l.length*3+2 by omega) with rfl|rfl|rfl
     ·rw[if_pos rfl];simpa[dK] using hj
     ·rw[if_neg om,if_pos om];simpa[dK] using hj
     ·rw[if_neg om,if_neg om,if_pos om];simpa[dK] using hj
   ·exact(Chg.refl _ w).sets b _ _ (.inl ⟨rfl,by simp⟩)
  ·obtain⟨v',w',hrun,r1,r2⟩:=run_append_arg_grows (P:=P) w t ty 216 i z 3 bytes ht hi hz hsize hby hzs dE (At b off) l.length cap (l.flatMap dK) (i6 l)
    (fun j u hu=>by rw[Addr.add_lit,h2.cell];exact h6 j u hu) ad 1 c (dK x) rfl hnews om h63 hbytes
   obtain⟨b',cap',rfl,q1,q2⟩:=TR.owned (l:=l++[x]) (by rw[mU,hl1];exact r1) sM
   rw[hl1] at hrun q2;exact⟨b',0,cap',w',hrun,q2,.inr q1,Chg.grown r2 sM⟩
theorem mv(w:World){o:Oper}{a:Act}{K:Act->World->Prop}{Q:Exit->Act->World->Prop}(s x:Operand)(t:TypeId)
  (ho:o.op=.call { callee:=.builtin .append,args:=#[s,x],argTypes:=#[t,t] })
  (i:TypeInfo) (z:Value) (bytes:Nat) (ht:P.underlying t=some (.slice 216)) (hi:P.info? 216=some i) (hz:i.zero=some z) (hsize:i.size=3) (hby:i.bytes=bytes) (hzs:z.cells.size=3)
  (v:Value) (b:Nat) (l:List Tk) (hs:a.eval s=v) (h:TR w v b l) (ad:Addr) (c:Nat) (y:Tk) (hx:a.eval x=.slice (some ad) 1 c) (hnews:∀ j u,(dK y)[j]?=some u->w.cell? (ad.add j)=some u) (h63:l.length+1<=maxLen) (hbytes:(l.length+1)*bytes<=140737488355328)
  (hk:∀ b' off cap w',TR w' (.slice (some (At b' off)) (l.length+1) cap) b' (l++[y])->(b'=b\/w.heap.size<=b')->Chg (fun q=>q=b/\v≠.slice none 0 0) w w'->K (a.put o.dst (.slice (some (At b' off)) (l.length+1) cap)) w'):o.wp P a w K Q:=by
 obtain⟨b',off,cap,w',hr,h2,h3,h4⟩:=lY (P:=P) w t o.type i z bytes ht hi hz hsize hby hzs v b l h ad c y hnews h63 hbytes
 unfold Oper.wp execOp;simp only[ho,resolve,invoke,builtin,Sem.run_bind,Sem.run_pure,Result.andThen_ok,List.map_toArray,List.map_cons,List.map_nil,hs,hx,hr]
 exact hk b' off cap w' h2 h3 h4
theorem kJ(w:World){ops:Array Oper}{o:Oper}{a:Act}{K:Act->World->Prop}{Q:Exit->Act->World->Prop}{E:Prop}(hgd:o.guard=none)(s x:Operand)(t:TypeId)
  (ho:o.op=.call { callee:=.builtin .append,args:=#[s,x],argTypes:=#[t,t] })
  (i:TypeInfo) (z:Value) (bytes:Nat) (ht:P.underlying t=some (.slice 216)) (hi:P.info? 216=some i) (hz:i.zero=some z) (hsize:i.size=3) (hby:i.bytes=bytes) (hzs:z.cells.size=3)
  (v:Value) (b:Nat) (l:List Tk) (hs:a.eval s=v) (h:TR w v b l) (ad:Addr) (c:Nat) (y:Tk) (hx:a.eval x=.slice (some ad) 1 c) (hnews:∀ j u,(dK y)[j]?=some u->w.cell? (ad.add j)=some u) (h63:l.length+1<=maxLen) (hbytes:(l.length+1)*bytes<=140737488355328)
  (hk:∀ b' off cap w',TR w' (.slice (some (At b' off)) (l.length+1) cap) b' (l++[y])->(b'=b\/w.heap.size<=b')->Chg (fun q=>q=b/\v≠.slice none 0 0) w w'->K (a.put o.dst (.slice (some (At b' off)) (l.length+1) cap)) w') :
  if Region.wanted o (yielded ops a.tmps)=true then Oper.wp P o a w K Q else E:=by
 have hw:Region.wanted o (yielded ops a.tmps)=true:=by simp[Region.wanted,hgd]
 rw[if_pos hw];exact mv w s x t ho i z bytes ht hi hz hsize hby hzs v b l hs h ad c y hx hnews h63 hbytes hk
end
end
end Go.Proofs.YtjnhhnbgjjkkjaaGreatDoor
