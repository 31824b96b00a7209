/-
  BkSt, PrD
-/
import Derived.Deep.Slices
import Derived.OpenShut
import Derived.Test.YtjnhhnbgjjkkjaaGreatDoorBesidesPAA
import Derived.Test.YtjnhhnbgjjkkjaaGreatDoorRows
import Derived.Test.YtjnhhnbgjjkkjaaGreatDoorBesidesPAO
import Derived.Deep.CutRange
namespace Go.Proofs.YtjnhhnbgjjkkjaaGreatDoor
open Go.ChangeShapes Go.WideShapes Go.ChangeAt Go.RowKit
set_option linter.unusedVariables false
set_option linter.unusedSimpArgs false
theorem bulk_pos {H:Type} (d:DataW H):1<=Rows.uptoBulk d:=by
  cases d with
  | lit l=>cases l<;>simp[Rows.uptoBulk]
  | _=>simp[Rows.uptoBulk]
theorem bulk_len {H:Type} (l:List (DataW H)):l.length<=Rows.uptoBulkAll l:=by
  induction l with
  | nil=>exact Nat.zero_le _
  | cons x r ih=>have:=bulk_pos x;simp only[Rows.uptoBulkAll,List.length_cons];omega
structure SV where
  k:Int
  o:Int
  p:Int
  a:Int
  b:Int
def sv0:SV:=⟨0,0,0,0,0⟩
def i64ok (x:Int):Prop:=-9223372036854775808<=x/\x<=9223372036854775807
structure SOk (x:SV):Prop where
  k:i64ok x.k
  o:i64ok x.o
  p:i64ok x.p
  a:i64ok x.a
  b:i64ok x.b
def svC (x:SV):Array Value:=#[.int .i64 x.k,.int .i64 x.o,.int .i64 x.p,.int .i64 x.a,.int .i64 x.b]
structure StpAt (W:World) (b o:Nat) (x:SV):Prop where
  c0:W.cell? ⟨b,o,none⟩=some (.int .i64 x.k)
  c1:W.cell? ⟨b,o+1,none⟩=some (.int .i64 x.o)
  c2:W.cell? ⟨b,o+2,none⟩=some (.int .i64 x.p)
  c3:W.cell? ⟨b,o+3,none⟩=some (.int .i64 x.a)
  c4:W.cell? ⟨b,o+4,none⟩=some (.int .i64 x.b)
  ok:SOk x
theorem StpAt.below {W W':World} {b o:Nat} {x:SV} (h:StpAt W b o x) (hb:Below W.heap.size W W'):StpAt W' b o x :=
  have hl:=block_lt_of_cell h.c0;⟨(hb.cell (p:=⟨b,o,none⟩) hl).trans h.c0,(hb.cell (p:=⟨b,o+1,none⟩) hl).trans h.c1,(hb.cell (p:=⟨b,o+2,none⟩) hl).trans h.c2,(hb.cell (p:=⟨b,o+3,none⟩) hl).trans h.c3,(hb.cell (p:=⟨b,o+4,none⟩) hl).trans h.c4,h.ok⟩
def StpsAt (W:World) (v:Value) (n:Nat) (f:Nat->SV):Prop :=
  ∃ a c,v=.slice a n c/\n<=c/\c<=maxLen/\(0<n->∃ b o,a=some ⟨b,o,none⟩/\b<W.heap.size/\∀ i,i<n->StpAt W b (o+i*5) (f i))
set_option maxRecDepth 100000 in
theorem open_step {H:Type} {enc:TypeId×Value->H} {W:World} {n:Nat} {cs:List Value} {d:DataW H} {ps:List MemPlace} (hl:cs.length=5)
    (h:DataW.trod enc Tryz.prog W 0 (fun _=>true) true n 37 cs=some (d,ps)):∃ x:SV,cs=(svC x).toList/\SOk x/\ps=[]/\d=.agg [.lit (.int .i64 x.k),.lit (.int .i64 x.o),.lit (.int .i64 x.p),.lit (.int .i64 x.a),.lit (.int .i64 x.b)]:=by
  obtain⟨xs,m,_,hd,hps,hxl,hf⟩:=DataW.trod_struct Tryz.underlying37 h;have hxl5:xs.length=5:=hxl
  clear hxl;match xs,hxl5,cs,hl with
  | [y0,y1,y2,y3,y4],_,[v0,v1,v2,v3,v4],_ =>
    have g0:=hf 0 _ rfl;have g1:=hf 1 _ rfl;have g2:=hf 2 _ rfl;have g3:=hf 3 _ rfl;have g4:=hf 4 _ rfl;have ci:Tryz.prog.cellsOf 3=1:=by kernel_rfl
    simp[ci] at g0 g1 g2 g3 g4
    obtain⟨z0,e0,q0,w0⟩:=DataW.trod_int Tryz.underlying3 g0;obtain⟨z1,e1,q1,w1⟩:=DataW.trod_int Tryz.underlying3 g1;obtain⟨z2,e2,q2,w2⟩:=DataW.trod_int Tryz.underlying3 g2;obtain⟨z3,e3,q3,w3⟩:=DataW.trod_int Tryz.underlying3 g3;obtain⟨z4,e4,q4,w4⟩:=DataW.trod_int Tryz.underlying3 g4;simp at e0 e1 e2 e3 e4;subst e0 e1 e2 e3 e4 q0 q1 q2 q3 q4;simp only[Prod.mk.injEq,List.map_cons,List.map_nil] at hd
    obtain⟨rfl,rfl⟩:=hd;exact⟨⟨z0,z1,z2,z3,z4⟩,rfl,⟨bounds_i64 w0,bounds_i64 w1,bounds_i64 w2,bounds_i64 w3,bounds_i64 w4⟩,by simp,rfl⟩
set_option maxRecDepth 100000 in
theorem open_steps {H:Type} {enc:TypeId×Value->H} {W:World} {v:Value} {d:DataW H} {ps:List MemPlace} (h:DataW.Trod enc Tryz.prog W 0 (fun _=>true) true 25 v d ps) (hv:v.cells.toList=[v]) (hb:Rows.uptoBulk d<=1048576) :
    ∃ n f,n<=1048576/\StpsAt W v n f:=by
  obtain⟨fuel,h⟩:=h;rw[hv] at h;have ce:Tryz.prog.cellsOf 37=5:=by kernel_rfl
  rcases Deep.open_slice Tryz.underlying25 h with⟨e,_⟩|⟨a,len,cap,m,n,D,Pl,e,_,h1,h2,h3,hx,hel⟩
  . simp at e;subst e;exact⟨0,fun _=>sv0,by omega,none,0,rfl,Nat.le_refl _,by unfold maxLen;omega,fun h=>by omega⟩
  . simp at e;subst e;simp only[Prod.mk.injEq] at hx
    obtain⟨rfl,_⟩:=hx;simp at h3;subst h3;simp only[Rows.uptoBulk] at hb
    have hn:len<=1048576:=by
      have:=bulk_len (H:=H) ((List.range len).map D)
      simp at this;omega
    by_cases hz:len=0
    . subst hz;exact⟨0,fun _=>sv0,by omega,some a,m,rfl,h1,h2,fun h=>by omega⟩
    . obtain⟨b,o,sp⟩:=a;have hsp:sp=none:=by
        obtain⟨cs',q1,_⟩:=hel 0 om;obtain⟨_,q2,q3⟩:=World.cells?_some q1
        have q4:=q3 0 (by rw[ce];omega)
        rw[List.getElem?_eq_getElem (by rw[q2,ce];omega)] at q4
        simpa[Addr.add] using World.cell?_spot q4
      subst hsp;have each:∀ i,i<len->∃ x:SV,StpAt W b (o+i*5) x:=fun i hi=>by
        obtain⟨cs',q1,q2⟩:=hel i om;obtain⟨_,q3,q4⟩:=World.cells?_some q1
        rw[ce] at q3 q4;obtain⟨x,ex,ox,_,_⟩:=open_step q3 q2;have hc:∀ j,j<5->W.cell? ⟨b,o+i*5+j,none⟩=(svC x).toList[j]?:=fun j hj=>by
          have:=q4 j hj
          rw[Deep.add_add,WideShapes.add_plain] at this;rw[<- ex,<- this,show o+i*5+j=o+(i*5+j) by omega]
        exact⟨x,hc 0 om,hc 1 om,hc 2 om,hc 3 om,hc 4 om,ox⟩
      obtain⟨f,hf⟩:=@Deep.choose_lt SV ⟨sv0⟩ len _ each
      exact⟨len,f,hn,some ⟨b,o,none⟩,m,rfl,h1,h2,fun hp=>⟨b,o,rfl,block_lt_of_cell (hf 0 hp).c0,hf⟩⟩
end Go.Proofs.YtjnhhnbgjjkkjaaGreatDoor
namespace Go.Proofs.YtjnhhnbgjjkkjaaGreatDoor
open Go.Conc Go.ChangeShapes Go.WideShapes Go.ChangeAt Go.RowKit
set_option linter.unusedVariables false
set_option linter.unusedSimpArgs false
set_option maxRecDepth 100000 in
set_option maxHeartbeats 1000000 in
theorem both_go (w:World) (p x y:Nat) (k:Int) (so:SV) (P:World->Prop) (TT LL:ByteArray->Prop) (Q:ByteArray->ByteArray->World->Prop) (F:ByteArray->World->Prop)
    (HP0:Hid (P (w.alloc (.cells #[.int .i64 so.k,.int .i64 so.o,.int .i64 so.p,.int .i64 so.a,.int .i64 so.b] 37))))
    (KP:Hid (∀ W W',P W->Below W.heap.size W W'->P W'))
    (CP:Hid (∀ W,P W->W.cell? ⟨p,1,none⟩=some (.pointer (some ⟨y,0,none⟩))/\W.cell? ⟨p,0,none⟩=some (.pointer (some ⟨x,0,none⟩))/\StpAt W w.heap.size 0 so))
    (CQ:Hid (∀ L a W,Q L a W->W.cell? ⟨p,1,none⟩=some (.pointer (some ⟨y,0,none⟩))))
    (HN:Hid (∀ W,P W->Calls Tryz.prog 15 #[.string ⟨#[116]⟩,.int .i64 k] W fun e w'=>∃ t,e=.returned (.string t)/\TT t/\Below W.heap.size W w'))
    (HL:Hid (∀ W t,P W->TT t->Calls Tryz.prog 14 #[.pointer (some ⟨y,0,none⟩),.string t,.agg #[.int .i64 so.k,.int .i64 so.o,.int .i64 so.p,.int .i64 so.a,.int .i64 so.b]] W fun e w'=>∃ L,e=.returned (.string L)/\LL L/\P w'))
    (HX:Hid (∀ W L,P W->LL L->Calls Tryz.prog 16 #[.pointer (some ⟨x,0,none⟩),.string L] W fun e w'=>∃ a,e=.returned (.string a)/\Q L a w'))
    (HY:Hid (∀ W L a,Q L a W->Calls Tryz.prog 16 #[.pointer (some ⟨y,0,none⟩),.string L] W fun e w'=>e=.returned (.string a)/\F L w')) :
    Calls Tryz.prog 26 #[.pointer (some ⟨p,0,none⟩),.int .i64 k,.agg #[.int .i64 so.k,.int .i64 so.o,.int .i64 so.p,.int .i64 so.a,.int .i64 so.b]] w fun e w'=>∃ L,e=.returned (.tuple #[.string L,.bool true])/\F L w':=by
  obtain⟨wb,hwb⟩:∃ wb,wb=w.heap.size:=⟨_,rfl⟩
  have A:=(CP.out _ HP0.out).2.2
  have k0:=A.c0;have k1:=A.c1;have k2:=A.c2;have k3:=A.c3;have k4:=A.c4;have y0:=(CP.out _ HP0.out).1
  clear A;go_enter Tryz.func26,Tryz.ntmps26
  go_wp2;go_region_held3 (fun w'=>w'.cell? ⟨p,1,none⟩=some (.pointer (some ⟨y,0,none⟩))/\w'.cell? ⟨w.heap.size,0,none⟩=some (.int .i64 so.k)/\w'.cell? ⟨w.heap.size,0+1,none⟩=some (.int .i64 so.o)/\w'.cell? ⟨w.heap.size,0+2,none⟩=some (.int .i64 so.p)/\w'.cell? ⟨w.heap.size,0+3,none⟩=some (.int .i64 so.a)/\w'.cell? ⟨w.heap.size,0+4,none⟩=some (.int .i64 so.b)) (go_keep) (first
    | (go_at_call 15;refine(HN.out _ (KP.out _ _ HP0.out upB)).mono ?_;rintro e w3 ⟨t,rfl,ht,hq3⟩;have hp3:Hid (P w3):=KP.out _ _ (KP.out _ _ HP0.out upB) hq3;replace ht:Hid (TT t):=ht;have A:=(CP.out w3 hp3.out).2.2;have l0:=A.c0;have l1:=A.c1;have l2:=A.c2;have l3:=A.c3;have l4:=A.c4;have y3:=(CP.out w3 hp3.out).1;clear A hq3 k0 k1 k2 k3 k4 y0)
    | (go_at_call 14;refine(HL.out _ t (KP.out _ _ hp3.out upB) ht.out).mono ?_;rintro e w4 ⟨L,rfl,hL,hp4⟩;replace hL:Hid (LL L):=hL;replace hp4:Hid (P w4):=hp4;have A:=(CP.out w4 hp4.out).2.2;have m0:=A.c0;have m1:=A.c1;have m2:=A.c2;have m3:=A.c3;have m4:=A.c4;have y4:=(CP.out w4 hp4.out).1;have x4:=(CP.out w4 hp4.out).2.1;clear A l0 l1 l2 l3 l4 y3))
  all_goals (
    go_wp2_with (first
      | (go_at_call 16;refine(HY.out _ L a5 q5.out).mono ?_;rintro e w6 ⟨rfl,q6⟩;replace q6:Hid (F L w6):=q6)
      | (go_at_call 16;refine(HX.out _ L (KP.out _ _ hp4.out upB) hL.out).mono ?_;rintro e w5 ⟨a5,rfl,q5⟩;replace q5:Hid (Q L a5 w5):=q5;have y5:=CQ.out _ _ _ q5.out;clear x4 y4))
    have hfin:∃ M,Ending.returned (Value.tuple #[.string L,.bool true])=.returned (.tuple #[.string M,.bool true])/\F M w6:=⟨L,rfl,q6.out⟩
    exact bodyPost_ret (v:=.tuple #[.string L,.bool true]) (by simp[results,Tryz.results26]) rfl hfin)
end Go.Proofs.YtjnhhnbgjjkkjaaGreatDoor
