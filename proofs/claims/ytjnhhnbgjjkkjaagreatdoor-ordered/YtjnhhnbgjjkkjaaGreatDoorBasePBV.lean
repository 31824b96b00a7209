/-
  BkKl, BkKm, BkRo
-/
import Derived.Deep.CutRange
import Derived.Test.YtjnhhnbgjjkkjaaGreatDoorBasePAA
import Derived.Test.YtjnhhnbgjjkkjaaGreatDoorBasePBT
import Derived.Test.YtjnhhnbgjjkkjaaGreatDoorBasePAI
import Derived.Test.YtjnhhnbgjjkkjaaGreatDoorBasePAQ
import Derived.Test.YtjnhhnbgjjkkjaaGreatDoorBasePBU
namespace Go.Proofs.YtjnhhnbgjjkkjaaGreatDoor
open Go.Conc Go.ChangeShapes Go.WideShapes Go.ChangeAt Go.RowKit
set_option linter.unusedVariables false
set_option linter.unusedSimpArgs false
def verbC:Array Value:=#[.string ⟨#[80,79,79,76]⟩,.string ⟨#[68,82,79,80]⟩,.string ⟨#[78,69,84]⟩,.string ⟨#[66,76,79,67,75]⟩,.string ⟨#[70,82,69,69]⟩,.string ⟨#[76,69,65,83,69]⟩,.string ⟨#[84,65,75,69]⟩,.string ⟨#[71,73,86,69]⟩]
theorem verbC_at {q:Nat} (h:q<8):verbC[q]?=some (.string (bs (verb q)))/\(bs (verb q)).size<=5:=by
  have hc:q=0\/q=1\/q=2\/q=3\/q=4\/q=5\/q=6\/q=7:=by omega
  rcases hc with rfl|rfl|rfl|rfl|rfl|rfl|rfl|rfl<;>exact⟨rfl,by decide⟩
theorem one_live {w w2:World} {c:Array Value} {t:TypeId} (h:Below (w.alloc (.cells c t)).heap.size (w.alloc (.cells c t)) w2):Blk w2 w.heap.size c t/\w.heap.size+1<=w2.heap.size/\Below w.heap.size w w2:=by
  have hz:=h.size;rw[World.size_alloc] at hz;exact⟨(h.block w.heap.size (by rw[World.size_alloc];omega)).trans (heap_alloc_new w _),hz,(Below.alloc (Below.refl _ _) (Nat.le_refl _) _).trans (h.mono (by rw[World.size_alloc];omega))⟩
theorem two_live {w w2:World} {c d:Array Value} {t u:TypeId} (h:Below ((w.alloc (.cells c t)).alloc (.cells d u)).heap.size ((w.alloc (.cells c t)).alloc (.cells d u)) w2):Blk w2 w.heap.size c t/\Blk w2 (w.heap.size+1) d u/\w.heap.size+2<=w2.heap.size/\Below w.heap.size w w2:=by
  obtain⟨h1,h2,h3⟩:=one_live h;rw[World.size_alloc] at h1 h2 h3;obtain⟨h4,h5,h6⟩:=one_live (w:=w) (c:=c) (t:=t) (by rw[World.size_alloc];exact h3)
  exact⟨h4,h1,h2,h6⟩
set_option maxRecDepth 100000 in
set_option maxHeartbeats 4000000 in
theorem line_go (x:Nat) (I:World->Prop) (hI:Hid (∀ W W',I W->Below W.heap.size W W'->I W')) (w:World) (h:Hid (I w)) (tok own V:ByteArray) (htk:tok.size<=1000) (how:own.size<=3) (o1 o2 o3 o4 o5 pa pn m ts u z ab z2 v2 av:Int) (q:Nat) (hq8:q<8) (hV:V=bs (verb q))
    (HP8:Hid (∀ W,Calls Tryz.prog 20 #[.int .i64 o1,.int .i64 8] W fun e w'=>e=.returned (.int .i64 q)/\w'=W))
    (HPO:Hid (∀ W,Calls Tryz.prog 36 #[.int .i64 o3] W fun e w'=>e=.returned (.agg #[.int .u32 pa,.int .i64 pn])/\Below W.heap.size W w'))
    (HTX:Hid (∀ a n W,0<=a->a<4294967296->0<=n->n<=32->Calls Tryz.prog 37 #[.agg #[.int .u32 a,.int .i64 n]] W fun e w'=>∃ T:ByteArray,e=.returned (.string T)/\T.size<=40/\Below W.heap.size W w'))
    (HOW:Hid (∀ W,Calls Tryz.prog 24 #[.int .i64 o2] W fun e w'=>e=.returned (.string own)/\Below W.heap.size W w'))
    (HPA:Hid (∀ W,Calls Tryz.prog 20 #[.int .i64 o4,.int .i64 (33-pn)] W fun e w'=>e=.returned (.int .i64 m)/\w'=W))
    (HPB:Hid (∀ W,Calls Tryz.prog 20 #[.int .i64 o5,.int .i64 ts] W fun e w'=>e=.returned (.int .i64 u)/\w'=W))
    (HSZ:Hid (∀ W,Calls Tryz.prog 23 #[.int .i64 (pn+m)] W fun e w'=>e=.returned (.int .i64 z)/\w'=W))
    (hts:IntKind.i64.wrap ((2:Int)^m.toNat)=ts) (hx1:IntKind.i64.wrap (u*z)=u*z) (hx2:IntKind.u32.wrap (u*z)=u*z) (hx3:IntKind.u32.wrap (pa+u*z)=ab) (hab0:0<=ab) (hab1:ab<4294967296)
    (HN:Hid (∀ T W,I W->Calls Tryz.prog 16 #[.pointer (some ⟨x,0,none⟩),.string (⟨#[78,69,84,83,32]⟩++T)] W fun e w'=>∃ P:ByteArray,e=.returned (.string P)/\P.size<=5000/\Below W.heap.size W w'))
    (HU:Hid (∀ T W,I W->Calls Tryz.prog 16 #[.pointer (some ⟨x,0,none⟩),.string (⟨#[85,83,69,68,32]⟩++T)] W fun e w'=>∃ P:ByteArray,e=.returned (.string P)/\P.size<=5000/\Below W.heap.size W w'))
    (HE:Hid (∀ (P:ByteArray) W,P.size<=5000->Calls Tryz.prog 35 #[.string P] W fun e w'=>∃ (b:Option Addr) (c n:Nat) (okb:Bool),e=.returned (.tuple #[.slice b n c,.bool okb])/\n<=10000/\(∀ j,j<n->∃ (g:Nat) (T:ByteArray),b=some ⟨g,0,none⟩/\T.size<=5000/\w'.cell? ⟨g,j*2,none⟩=some (.string T))/\Below W.heap.size W w'))
    (HPK:Hid (∀ c n W,(c=o4\/c=o5)->0<n->n<=1000000->Calls Tryz.prog 20 #[.int .i64 c,.int .i64 n] W fun e w'=>∃ j:Nat,e=.returned (.int .i64 j)/\(j:Int)<n/\w'=W))
    (HS2:Hid (∀ W,Calls Tryz.prog 23 #[.int .i64 pn] W fun e w'=>e=.returned (.int .i64 z2)/\w'=W))
    (HP2:Hid (∀ W,Calls Tryz.prog 20 #[.int .i64 o5,.int .i64 z2] W fun e w'=>e=.returned (.int .i64 v2)/\w'=W))
    (hz0:0<=z2) (hx4:IntKind.u32.wrap v2=v2) (hx5:IntKind.u32.wrap (pa+v2)=av)
    (HAD:Hid (∀ W,Calls Tryz.prog 22 #[.int .u32 av] W fun e w'=>∃ T:ByteArray,e=.returned (.string T)/\T.size<=40/\Below W.heap.size W w'))
    (HDG:Hid (∀ W,Calls Tryz.prog 21 #[.int .i64 (pn+m)] W fun e w'=>∃ T:ByteArray,e=.returned (.string T)/\T.size<=40/\Below W.heap.size W w'))
    (hm0:0<=m) (hm1:m<=32-pn) (hp0:0<=pa) (hp1:pa<4294967296) (hn0:22<=pn) (hn1:pn<=30) :
    Calls Tryz.prog 14 #[.pointer (some ⟨x,0,none⟩),.string tok,.agg #[.int .i64 o1,.int .i64 o2,.int .i64 o3,.int .i64 o4,.int .i64 o5]] w fun e w'=>∃ r:ByteArray,e=.returned (.string (V++⟨#[32]⟩++tok++⟨#[32]⟩++own++⟨#[32]⟩++r))/\r.size<=6000/\Below w.heap.size w w':=by
  go_enter Tryz.func14,Tryz.ntmps14
  go_wp2_with (first
    | (go_at_call 20;refine(HP8.out _).mono ?_;rintro e w1 ⟨rfl,rfl⟩)
    | (go_at_call 36;refine(HPO.out _).mono ?_;rintro e w2 ⟨rfl,hq2⟩)
    | (go_at_call 37;refine(HTX.out _ _ _ hp0 hp1 (om) (om)).mono ?_;rintro e w3 ⟨T3,rfl,hT3,hq3⟩))
  obtain⟨B0,B1,hz2,hb2⟩:=two_live hq2;obtain⟨B2,hz3,hb3⟩:=one_live hq3;obtain⟨hvq,hvz⟩:=verbC_at hq8;rw[<- hV] at hvq hvz;have LIVE:Hid (∀ wk,Below w3.heap.size w3 wk->(wk.cell? ⟨w.heap.size,1,none⟩=some (.int .i64 o2)/\wk.cell? ⟨w.heap.size,3,none⟩=some (.int .i64 o4)/\wk.cell? ⟨w.heap.size,4,none⟩=some (.int .i64 o5))/\wk.cell? ⟨w.heap.size+1,q,none⟩=some (.string V)/\(wk.cell? ⟨w2.heap.size,0,none⟩=some (.int .u32 pa)/\wk.cell? ⟨w2.heap.size,1,none⟩=some (.int .i64 pn))/\w2.heap.size<wk.heap.size):=fun wk hk=>by
    have b0:=(B0.below hb3).below hk
    have b1:=(B1.below hb3).below hk
    have b2:=B2.below hk;exact⟨⟨b0.cell 1,b0.cell 3,b0.cell 4⟩,(b1.cell q).trans hvq,⟨b2.cell 0,b2.cell 1⟩,b2.lt⟩
  have HLOW:Hid (Below w.heap.size w w3):=hb2.trans (hb3.mono (om))
  have hz:Hid (w.heap.size+3<=w3.heap.size):=(by omega:w.heap.size+3<=w3.heap.size)
  clear hq2 hq3 B0 B1 B2 hb2 hb3 hvq hV;have c1:¬9223372036854775807<V.size+1:=by omega
  have c2:¬9223372036854775807<V.size+1+tok.size:=by omega
  have c3:¬9223372036854775807<V.size+1+tok.size+1:=by omega
  have c4:¬9223372036854775807<V.size+1+tok.size+1+own.size:=by omega
  have c5:¬9223372036854775807<V.size+1+tok.size+1+own.size+1:=by omega
  obtain⟨⟨l1,l3,l4⟩,lv,⟨lp0,lp1⟩,lz⟩:=LIVE.out w3 (Below.refl _ _)
  have hqi:(q:Int)<8:=by omega
  have hqj:(0:Int)<=(q:Int):=by omega
  go_region_held3 (fun w'=>w'.cell? ⟨w.heap.size,1,none⟩=some (.int .i64 o2)/\w'.cell? ⟨w.heap.size+1,q,none⟩=some (.string V)) (go_keep) (
    (go_at_call 24;refine(HOW.out _).mono ?_;rintro e w4 ⟨rfl,HQ⟩;have HB4:Hid (Below w3.heap.size w3 w4):=bstep (upB) (by simp) HQ;clear HQ;obtain⟨⟨e1,e3,e4⟩,ev,⟨ep0,ep1⟩,ez⟩:=LIVE.out _ HB4.out;clear l1 l3 l4 lv lp0 lp1 lz))
  all_goals (
    go_wp2;obtain⟨H,hH⟩:∃ H,H=V++(⟨#[32]⟩:ByteArray)++tok++(⟨#[32]⟩:ByteArray)++own++(⟨#[32]⟩:ByteArray):=⟨_,rfl⟩
    have hHz:H.size<=1011:=by rw[hH];simp only[ByteArray.size_append,show (⟨#[32]⟩:ByteArray).size=1 from rfl];omega
    rw[<- hH];replace hH:Hid _:=hH;clear c1 c2 c3 c4 c5 hvz;have hw1:IntKind.i64.wrap (33-pn)=33-pn:=wrap_small _ (om) (om)
    have hw2:IntKind.i64.wrap (pn+m)=pn+m:=wrap_small _ (om) (om)
    go_region_held3 (fun w'=>w'.cell? ⟨w.heap.size,3,none⟩=some (.int .i64 o4)/\w'.cell? ⟨w2.heap.size,1,none⟩=some (.int .i64 pn)) (go_keep) (
      (go_at_call 20;refine(HPA.out _).mono ?_;rintro e w5 ⟨rfl,rfl⟩))
    all_goals (
      go_wp2;have hw3:IntKind.i64.wrap (pn+m-pn)=m:=by rw[show pn+m-pn=m by omega];exact wrap_small _ (om) (om)
      have hw4:pn+m-pn=m:=by omega
      have hw5:IntKind.i64.wrap m=m:=wrap_small _ (om) (om)
      have hm5:m<=10:=by omega
      have hm6:¬m<0:=by omega
      have ez0:w.heap.size<w4.heap.size:=by have:=HB4.out.size;have:=hz.out;omega
      have n1:=World.new_ne w4 ⟨w.heap.size,4,none⟩ e4
      have n2:=World.new_ne w4 ⟨w2.heap.size,0,none⟩ ep0
      have n3:=World.new_ne w4 ⟨w2.heap.size,1,none⟩ ep1
      go_cut [13] from 22 (fun u13 wc=>u13=.pointer (some ⟨w4.heap.size,0,none⟩)/\wc=(w4.alloc (.cells #[.int .u32 ab,.int .i64 (pn+m)] 80)).drew.drew)
      case first =>
        go_region_held3 (fun w'=>w'.cell? ⟨w.heap.size,4,none⟩=some (.int .i64 o5)/\w'.cell? ⟨w2.heap.size,0,none⟩=some (.int .u32 pa)/\w'.cell? ⟨w2.heap.size,1,none⟩=some (.int .i64 pn)) (go_keep) (first
          | (go_at_call 20;refine(HPB.out _).mono ?_;rintro e w5 ⟨rfl,rfl⟩)
          | (go_at_call 23;refine(HSZ.out _).mono ?_;rintro e w6 ⟨rfl,rfl⟩))
        all_goals (go_wp2_with fail;go_meet;exact⟨rfl,rfl⟩)
      case rest =>
        obtain⟨rfl,rfl⟩:=hcut;clear hw1 hw2 hw3 hw4 hw5 hm5 hm6 n1 n2 n3 hts hx1 hx2 hx3;have hd0:0<=pn+m:=by omega
        have hd1:pn+m<=32:=by omega
        go_upto_region 9 with (go_at_call 37;refine(HTX.out _ _ _ hab0 hab1 hd0 hd1).mono ?_;rintro e w7 ⟨T7,rfl,hT7,hq7⟩;replace hq7:Hid _:=hq7)
        have HB7:Hid (Below w4.heap.size w4 w7):=bstep (upB) (Nat.le_refl _) hq7.out
        have HL7:Hid (Below w.heap.size w w7):=(HLOW.out.trans (HB4.out.mono HLOW.out.size)).trans (HB7.out.mono (by have:=HLOW.out.size;have:=HB4.out.size;omega))
        have HI7:Hid (I w7):=hI.out _ _ h.out HL7.out
        obtain⟨⟨f1,f3,f4⟩,fv,⟨fp0,fp1⟩,fz⟩:=LIVE.out _ (HB4.out.trans (HB7.out.mono HB4.out.size))
        clear e1 e3 e4 ev ep0 ep1 ez hq7;have hc1:¬9223372036854775807<H.size+T3.size:=by omega
        have hc2:¬9223372036854775807<H.size+T7.size:=by omega
        have hcc:q=0\/q=1\/q=2\/q=3\/q=6\/q=7\/q=4\/q=5:=by omega
        rcases hcc with rfl|rfl|rfl|rfl|rfl|rfl|rfl|rfl
        . go_wp2;go_ret;exact⟨T3,by show Ending.returned (.string (H++T3))=_;rw[hH.out],by omega,HL7.out⟩
        . go_wp2;go_ret;exact⟨T3,by show Ending.returned (.string (H++T3))=_;rw[hH.out],by omega,HL7.out⟩
        . have hc3:¬9223372036854775807<H.size+T3.size+1:=by omega
          have hc4:∀ T:ByteArray,T.size<=40->¬9223372036854775807<H.size+T3.size+1+T.size:=fun T hT=>by omega
          go_wp2_with (go_at_call 21;refine(HDG.out _).mono ?_;rintro e w8 ⟨T8,rfl,hT8,hq8⟩;have hc5:=hc4 T8 hT8)
          go_ret;exact⟨T3++⟨#[32]⟩++T8,by show Ending.returned (.string (H++T3++⟨#[32]⟩++T8))=_;rw[hH.out];simp only[ByteArray.append_assoc],by simp only[ByteArray.size_append,show (⟨#[32]⟩:ByteArray).size=1 from rfl];omega,HL7.out.trans (hq8.mono HL7.out.size)⟩
        . go_wp2;go_ret;exact⟨T7,by show Ending.returned (.string (H++T7))=_;rw[hH.out],by omega,HL7.out⟩
        . go_upto_region 19 with fail
          go_cut [15] from 22 (fun u15 wc=>∃ T8:ByteArray,u15=.string T8/\T8.size<=40/\Below w7.heap.size w7 wc)
          case first =>
            go_region_held3 (fun w'=>w'.cell? ⟨w.heap.size,4,none⟩=some (.int .i64 o5)/\w'.cell? ⟨w2.heap.size,0,none⟩=some (.int .u32 pa)/\w'.cell? ⟨w2.heap.size,1,none⟩=some (.int .i64 pn)) (go_keep) (first
              | (go_at_call 20;refine(HP2.out _).mono ?_;rintro e w8 ⟨rfl,rfl⟩)
              | (go_at_call 23;refine(HS2.out _).mono ?_;rintro e w8 ⟨rfl,rfl⟩)
              | (go_at_call 22;refine(HAD.out _).mono ?_;rintro e w8 ⟨T8,rfl,hT8,hq8⟩;have hq9:Hid (Below w7.heap.size w7 w8):=bstep (upB) (Nat.le_refl _) hq8;clear hq8;have g4:w8.cell? ⟨w.heap.size,4,none⟩=some (.int .i64 o5):=(hq9.out.cell (p:=⟨w.heap.size,4,none⟩) (block_lt_of_cell f4)).trans f4;have gp0:w8.cell? ⟨w2.heap.size,0,none⟩=some (.int .u32 pa):=(hq9.out.cell (p:=⟨w2.heap.size,0,none⟩) (block_lt_of_cell fp0)).trans fp0;have gp1:w8.cell? ⟨w2.heap.size,1,none⟩=some (.int .i64 pn):=(hq9.out.cell (p:=⟨w2.heap.size,1,none⟩) (block_lt_of_cell fp1)).trans fp1;clear f4 fp0 fp1))
            all_goals (go_wp2_with fail;go_meet;exact⟨T8,rfl,hT8,hq9.out⟩)
          case rest =>
            obtain⟨T8,rfl,hT8,hq8⟩:=hcut;have HL8:Hid (Below w.heap.size w wc):=HL7.out.trans (hq8.mono HL7.out.size)
            have HI8:Hid (I wc):=hI.out _ _ h.out HL8.out
            have g3:wc.cell? ⟨w.heap.size,3,none⟩=some (.int .i64 o4):=(hq8.cell (p:=⟨w.heap.size,3,none⟩) (block_lt_of_cell f3)).trans f3
            have g4:wc.cell? ⟨w.heap.size,4,none⟩=some (.int .i64 o5):=(hq8.cell (p:=⟨w.heap.size,4,none⟩) (block_lt_of_cell f4)).trans f4
            clear f1 f3 f4 fv fp0 fp1 fz hq8;have hc8:¬9223372036854775807<H.size+T8.size:=by omega
            go_upto_region 21 with (first
              | (go_at_call 16;refine(HN.out _ _ HI8.out).mono ?_;rintro e w8 ⟨P8,rfl,hP8,hq8⟩;replace hq8:Hid _:=hq8)
              | (go_at_call 35;refine(HE.out _ _ hP8).mono ?_;rintro e w9 ⟨b9,c9,n9,ok9,rfl,hn9,hr9,hq9⟩;replace hq9:Hid _:=hq9;replace hr9:Hid _:=hr9))
            have HL9:Hid (Below wc.heap.size wc w9):=hq8.out.trans (hq9.out.mono hq8.out.size)
            have HM9:Hid (Below w.heap.size w w9):=HL8.out.trans (HL9.out.mono HL8.out.size)
            have i3:w9.cell? ⟨w.heap.size,3,none⟩=some (.int .i64 o4):=(HL9.out.cell (p:=⟨w.heap.size,3,none⟩) (block_lt_of_cell g3)).trans g3
            have i4:w9.cell? ⟨w.heap.size,4,none⟩=some (.int .i64 o5):=(HL9.out.cell (p:=⟨w.heap.size,4,none⟩) (block_lt_of_cell g4)).trans g4
            clear g3 g4 hq8 hq9;have hok:ok9=false\/(ok9=true/\n9=0)\/(ok9=true/\0<n9):=by
              rcases ok9 with _|_
              . exact .inl rfl
              . rcases Nat.eq_zero_or_pos n9 with q|q
                . exact .inr (.inl ⟨rfl,q⟩)
                . exact .inr (.inr ⟨rfl,q⟩)
            rcases hok with rfl|⟨rfl,rfl⟩|⟨rfl,hpos⟩
            all_goals (
              go_wp2;go_ret;exact⟨T8,by show Ending.returned (.string (H++T8))=_;rw[hH.out],by omega,HM9.out⟩)
        . go_upto_region 19 with fail
          go_cut [15] from 22 (fun u15 wc=>∃ T8:ByteArray,u15=.string T8/\T8.size<=40/\Below w7.heap.size w7 wc)
          case first =>
            go_region_held3 (fun w'=>w'.cell? ⟨w.heap.size,4,none⟩=some (.int .i64 o5)/\w'.cell? ⟨w2.heap.size,0,none⟩=some (.int .u32 pa)/\w'.cell? ⟨w2.heap.size,1,none⟩=some (.int .i64 pn)) (go_keep) (first
              | (go_at_call 20;refine(HP2.out _).mono ?_;rintro e w8 ⟨rfl,rfl⟩)
              | (go_at_call 23;refine(HS2.out _).mono ?_;rintro e w8 ⟨rfl,rfl⟩)
              | (go_at_call 22;refine(HAD.out _).mono ?_;rintro e w8 ⟨T8,rfl,hT8,hq8⟩;have hq9:Hid (Below w7.heap.size w7 w8):=bstep (upB) (Nat.le_refl _) hq8;clear hq8;have g4:w8.cell? ⟨w.heap.size,4,none⟩=some (.int .i64 o5):=(hq9.out.cell (p:=⟨w.heap.size,4,none⟩) (block_lt_of_cell f4)).trans f4;have gp0:w8.cell? ⟨w2.heap.size,0,none⟩=some (.int .u32 pa):=(hq9.out.cell (p:=⟨w2.heap.size,0,none⟩) (block_lt_of_cell fp0)).trans fp0;have gp1:w8.cell? ⟨w2.heap.size,1,none⟩=some (.int .i64 pn):=(hq9.out.cell (p:=⟨w2.heap.size,1,none⟩) (block_lt_of_cell fp1)).trans fp1;clear f4 fp0 fp1))
            all_goals (go_wp2_with fail;go_meet;exact⟨T8,rfl,hT8,hq9.out⟩)
          case rest =>
            obtain⟨T8,rfl,hT8,hq8⟩:=hcut;have HL8:Hid (Below w.heap.size w wc):=HL7.out.trans (hq8.mono HL7.out.size)
            have HI8:Hid (I wc):=hI.out _ _ h.out HL8.out
            have g3:wc.cell? ⟨w.heap.size,3,none⟩=some (.int .i64 o4):=(hq8.cell (p:=⟨w.heap.size,3,none⟩) (block_lt_of_cell f3)).trans f3
            have g4:wc.cell? ⟨w.heap.size,4,none⟩=some (.int .i64 o5):=(hq8.cell (p:=⟨w.heap.size,4,none⟩) (block_lt_of_cell f4)).trans f4
            clear f1 f3 f4 fv fp0 fp1 fz hq8;have hc8:¬9223372036854775807<H.size+T8.size:=by omega
            go_upto_region 21 with (first
              | (go_at_call 16;refine(HN.out _ _ HI8.out).mono ?_;rintro e w8 ⟨P8,rfl,hP8,hq8⟩;replace hq8:Hid _:=hq8)
              | (go_at_call 35;refine(HE.out _ _ hP8).mono ?_;rintro e w9 ⟨b9,c9,n9,ok9,rfl,hn9,hr9,hq9⟩;replace hq9:Hid _:=hq9;replace hr9:Hid _:=hr9))
            have HL9:Hid (Below wc.heap.size wc w9):=hq8.out.trans (hq9.out.mono hq8.out.size)
            have HM9:Hid (Below w.heap.size w w9):=HL8.out.trans (HL9.out.mono HL8.out.size)
            have i3:w9.cell? ⟨w.heap.size,3,none⟩=some (.int .i64 o4):=(HL9.out.cell (p:=⟨w.heap.size,3,none⟩) (block_lt_of_cell g3)).trans g3
            have i4:w9.cell? ⟨w.heap.size,4,none⟩=some (.int .i64 o5):=(HL9.out.cell (p:=⟨w.heap.size,4,none⟩) (block_lt_of_cell g4)).trans g4
            clear g3 g4 hq8 hq9;have hok:ok9=false\/(ok9=true/\n9=0)\/(ok9=true/\0<n9):=by
              rcases ok9 with _|_
              . exact .inl rfl
              . rcases Nat.eq_zero_or_pos n9 with q|q
                . exact .inr (.inl ⟨rfl,q⟩)
                . exact .inr (.inr ⟨rfl,q⟩)
            rcases hok with rfl|⟨rfl,rfl⟩|⟨rfl,hpos⟩
            . go_wp2;go_ret;exact⟨T8,by show Ending.returned (.string (H++T8))=_;rw[hH.out],by omega,HM9.out⟩
            . go_wp2;go_ret;exact⟨T8,by show Ending.returned (.string (H++T8))=_;rw[hH.out],by omega,HM9.out⟩
            . have hpi:(0:Int)<(n9:Int):=by omega
              have hni:(n9:Int)<=1000000:=by omega
              have HI9:Hid (I w9):=hI.out _ _ h.out HM9.out
              go_upto_region 23 with (first
                | (go_at_call 20;refine(HPK.out _ _ _ (.inl rfl) hpi hni).mono ?_;rintro e w10 ⟨j,rfl,hj,rfl⟩;obtain⟨g,T,rfl,hT,hcell⟩:=hr9.out j (om);have hj0:(0:Int)<=(j:Int):=(om);have hc5:¬9223372036854775807<5+T.size:=(om))
                | (go_at_call 16;refine(HU.out _ _ HI9.out).mono ?_;rintro e w11 ⟨P11,rfl,hP11,hq11⟩;replace hq11:Hid _:=hq11)
                | (go_at_call 35;refine(HE.out _ _ hP11).mono ?_;rintro e w12 ⟨b12,c12,n12,ok12,rfl,hn12,hr12,hq12⟩;replace hq12:Hid _:=hq12;replace hr12:Hid _:=hr12))
              have HLC:Hid (Below w10.heap.size w10 w12):=hq11.out.trans (hq12.out.mono hq11.out.size)
              have HMC:Hid (Below w.heap.size w w12):=HM9.out.trans (HLC.out.mono HM9.out.size)
              have j4:w12.cell? ⟨w.heap.size,4,none⟩=some (.int .i64 o5):=(HLC.out.cell (p:=⟨w.heap.size,4,none⟩) (block_lt_of_cell i4)).trans i4
              clear i3 i4 hq11 hq12 hcell;have hok2:ok12=false\/(ok12=true/\n12=0)\/(ok12=true/\0<n12):=by
                rcases ok12 with _|_
                . exact .inl rfl
                . rcases Nat.eq_zero_or_pos n12 with q|q
                  . exact .inr (.inl ⟨rfl,q⟩)
                  . exact .inr (.inr ⟨rfl,q⟩)
              rcases hok2 with rfl|⟨rfl,rfl⟩|⟨rfl,hpos2⟩
              . go_wp2;go_ret;exact⟨T8,by show Ending.returned (.string (H++T8))=_;rw[hH.out],by omega,HMC.out⟩
              . go_wp2;go_ret;exact⟨T8,by show Ending.returned (.string (H++T8))=_;rw[hH.out],by omega,HMC.out⟩
              . have hpi2:(0:Int)<(n12:Int):=by omega
                have hni2:(n12:Int)<=1000000:=by omega
                go_wp2_with (go_at_call 20;refine(HPK.out _ _ _ (.inr rfl) hpi2 hni2).mono ?_;rintro e w13 ⟨j2,rfl,hj2,rfl⟩;obtain⟨g2,T2,rfl,hT2,hcell2⟩:=hr12.out j2 (om);have hj20:(0:Int)<=(j2:Int):=(om);have hc6:¬9223372036854775807<H.size+T2.size:=(om))
                go_ret;exact⟨T2,by show Ending.returned (.string (H++T2))=_;rw[hH.out],by omega,(by have hX:=HMC.out;exact upB)⟩
        . go_upto_region 27 with (first
            | (go_at_call 16;refine(HN.out _ _ HI7.out).mono ?_;rintro e w8 ⟨P8,rfl,hP8,hq8⟩;replace hq8:Hid _:=hq8)
            | (go_at_call 35;refine(HE.out _ _ hP8).mono ?_;rintro e w9 ⟨b9,c9,n9,ok9,rfl,hn9,hr9,hq9⟩;replace hq9:Hid _:=hq9;replace hr9:Hid _:=hr9))
          have HL9:Hid (Below w7.heap.size w7 w9):=hq8.out.trans (hq9.out.mono hq8.out.size)
          have HM9:Hid (Below w.heap.size w w9):=HL7.out.trans (HL9.out.mono HL7.out.size)
          have g4:w9.cell? ⟨w.heap.size,4,none⟩=some (.int .i64 o5):=(HL9.out.cell (p:=⟨w.heap.size,4,none⟩) (block_lt_of_cell f4)).trans f4
          clear f1 f3 f4 fv fp0 fp1 fz hq8 hq9;have hok:ok9=false\/(ok9=true/\n9=0)\/(ok9=true/\0<n9):=by
            rcases ok9 with _|_
            . exact .inl rfl
            . rcases Nat.eq_zero_or_pos n9 with q|q
              . exact .inr (.inl ⟨rfl,q⟩)
              . exact .inr (.inr ⟨rfl,q⟩)
          rcases hok with rfl|⟨rfl,rfl⟩|⟨rfl,hpos⟩
          . go_wp2;go_ret;exact⟨T7,by show Ending.returned (.string (H++T7))=_;rw[hH.out],by omega,HM9.out⟩
          . go_wp2;go_ret;exact⟨T7,by show Ending.returned (.string (H++T7))=_;rw[hH.out],by omega,HM9.out⟩
          . have hpi:(0:Int)<(n9:Int):=by omega
            have hni:(n9:Int)<=1000000:=by omega
            go_wp2_with (go_at_call 20;refine(HPK.out _ _ _ (.inr rfl) hpi hni).mono ?_;rintro e w10 ⟨j,rfl,hj,rfl⟩;obtain⟨g,T,rfl,hT,hcell⟩:=hr9.out j (om);have hj0:(0:Int)<=(j:Int):=(om);have hc5:¬9223372036854775807<H.size+T.size:=(om))
            go_ret;exact⟨T,by show Ending.returned (.string (H++T))=_;rw[hH.out],by omega,(by have hX:=HM9.out;exact upB)⟩
        . go_upto_region 27 with (first
            | (go_at_call 16;refine(HN.out _ _ HI7.out).mono ?_;rintro e w8 ⟨P8,rfl,hP8,hq8⟩;replace hq8:Hid _:=hq8)
            | (go_at_call 35;refine(HE.out _ _ hP8).mono ?_;rintro e w9 ⟨b9,c9,n9,ok9,rfl,hn9,hr9,hq9⟩;replace hq9:Hid _:=hq9;replace hr9:Hid _:=hr9))
          have HL9:Hid (Below w7.heap.size w7 w9):=hq8.out.trans (hq9.out.mono hq8.out.size)
          have HM9:Hid (Below w.heap.size w w9):=HL7.out.trans (HL9.out.mono HL7.out.size)
          have g4:w9.cell? ⟨w.heap.size,4,none⟩=some (.int .i64 o5):=(HL9.out.cell (p:=⟨w.heap.size,4,none⟩) (block_lt_of_cell f4)).trans f4
          clear f1 f3 f4 fv fp0 fp1 fz hq8 hq9;have hok:ok9=false\/(ok9=true/\n9=0)\/(ok9=true/\0<n9):=by
            rcases ok9 with _|_
            . exact .inl rfl
            . rcases Nat.eq_zero_or_pos n9 with q|q
              . exact .inr (.inl ⟨rfl,q⟩)
              . exact .inr (.inr ⟨rfl,q⟩)
          rcases hok with rfl|⟨rfl,rfl⟩|⟨rfl,hpos⟩
          . go_wp2;go_ret;exact⟨T7,by show Ending.returned (.string (H++T7))=_;rw[hH.out],by omega,HM9.out⟩
          . go_wp2;go_ret;exact⟨T7,by show Ending.returned (.string (H++T7))=_;rw[hH.out],by omega,HM9.out⟩
          . have hpi:(0:Int)<(n9:Int):=by omega
            have hni:(n9:Int)<=1000000:=by omega
            go_wp2_with (go_at_call 20;refine(HPK.out _ _ _ (.inr rfl) hpi hni).mono ?_;rintro e w10 ⟨j,rfl,hj,rfl⟩;obtain⟨g,T,rfl,hT,hcell⟩:=hr9.out j (om);have hj0:(0:Int)<=(j:Int):=(om);have hc5:¬9223372036854775807<H.size+T.size:=(om))
            go_ret;exact⟨T,by show Ending.returned (.string (H++T))=_;rw[hH.out],by omega,(by have hX:=HM9.out;exact upB)⟩))
theorem anW_len:∀ k:Fin 14,(wordsT.getD k []).length<=20:=by decide +kernel
theorem ask_len {s:Bk} (hI:Inv s) {k:Nat} (hk:k=9\/k=10) (r:List UInt8):(doAll s (bs (verb k++32::r))).2.size<=5000:=by
  have href:∀ e:Nat,e<14->e≠0->(⟨(anText (ref e)).toArray⟩:ByteArray).size<=5000:=fun e h1 h2=>by
    rw[arr_size];unfold anText ref;rw[if_neg h2];have:=anW_len ⟨e,h1⟩
    simp only[List.length_append,List.length_cons,List.length_nil] at *
    omega
  rcases e:rdLine (bs (verb k++32::r)).data.toList with _|l
  . rw[doAll_none e];exact href 2 (om) (om)
  . have hv:l.v=k:=ask_verb (om) (r:=r) (by simpa[bs] using e)
    rw[doAll_ask e (om)];dsimp only;rcases hk with rfl|rfl
    . have:(doLn s l).2=doNets s l:=by unfold doLn;rw[hv];rfl
      rw[this];unfold doNets;split
      . exact href 7 (om) (om)
      . rw[arr_size,anText_ok];exact netsT_len hI ⟨l.a,l.n,⟨#[]⟩⟩
    . have:(doLn s l).2=doUsed s l:=by unfold doLn;rw[hv];rfl
      rw[this];unfold doUsed;split
      . exact href 11 (om) (om)
      . rw[arr_size,anText_ok];exact usedT_len hI ⟨l.a,l.n,⟨#[]⟩⟩
theorem ent_small {P:List UInt8} {q:List (List UInt8×List UInt8)} (h:entL P=some q):q.length<=P.length/\∀ j,(q.getD j ([],[])).1.length<=P.length:=by
  unfold entL at h;have hc:=cut_len 32 P ([],[])
  have hp:(parts 32 P).length<=P.length+1:=by unfold parts;simp at hc ⊢;omega
  have hq:=fun j=>part_len 32 P j
  split at h
  . rename_i w ws e;rw[e] at hp hq;split at h
    . split at h
      . cases h;refine⟨by simp[entsOf] at hp ⊢;omega,fun j=>?_⟩
        by_cases hj:j<ws.length
        . have h1:=hq (j+1)
          have h2:=(eqA_at (ws.getD j [])).1
          have e1:(entsOf ws).getD j ([],[])=(eqA (ws.getD j []),eqB (ws.getD j [])):=by
            unfold entsOf;exact getD_map (fun w=>(eqA w,eqB w)) ws [] ([],[]) j hj
          rw[e1];have e2:(w::ws).getD (j+1) []=ws.getD j []:=by simp
          rw[e2] at h1;exact Nat.le_trans h2 h1
        . rw[List.getD_eq_getElem?_getD,List.getElem?_eq_none (by simp[entsOf];omega)]
          simp
      . cases h
    . cases h
  . cases h
theorem sz_prod:∀ p:Fin 31,∀ m:Fin 11,22<=(p:Nat)->(m:Nat)+p<=32->(2:Int)^(m:Nat)*sz ((p:Nat)+(m:Nat):Nat)<=1024/\0<=sz ((p:Nat)+(m:Nat):Nat):=by decide +kernel
theorem two_fin:∀ m:Fin 11,0<(2:Int)^(m:Nat)/\(2:Int)^(m:Nat)<=1024:=by decide +kernel
theorem pool_bd:∀ q:Fin 6,0<=poolA q/\poolA q<=4294966272/\22<=poolN q/\poolN q<=30:=by decide +kernel
theorem own3_fin:∀ q:Fin 3,(own3 q).length<=3/\(32:UInt8)∉own3 q/\isName (own3 q)=true:=by decide +kernel
theorem sz_fin:∀ p:Fin 31,22<=(p:Nat)->0<sz (p:Nat)/\sz (p:Nat)<=1024:=by decide +kernel
theorem cmd_cat (k:Nat) (t o r:ByteArray):bs (verb k)++⟨#[32]⟩++t++⟨#[32]⟩++o++⟨#[32]⟩++r=byt (cmdL k t.data.toList o.data.toList r.data.toList):=by
  apply ByteArray.ext
  apply Array.ext'
  simp[byt,cmdL,bs]
theorem i64_small (x:Int) (h0:0<=x) (h1:x<=1000000):IntKind.i64.wrap x=x:=wrap_small _ (om) (om)
theorem u32_small (x:Int) (h0:0<=x) (h1:x<4294967296):IntKind.u32.wrap x=x:=by
  simp[IntKind.wrap,IntKind.signed,IntKind.bits]
  omega
theorem line_any (w0:World) (K:Nat->Prop) (x:Nat) (s:Bk) (E:EnvT w0) (hZ:10<=w0.heap.size) (hI:Inv s) (tok:ByteArray) (htk:tok.size<=1000) (o1 o2 o3 o4 o5:Int)
    (h1:-9223372036854775808<=o1/\o1<=9223372036854775807) (h2:-9223372036854775808<=o2/\o2<=9223372036854775807) (h3:-9223372036854775808<=o3/\o3<=9223372036854775807) (h4:-9223372036854775808<=o4/\o4<=9223372036854775807) (h5:-9223372036854775808<=o5/\o5<=9223372036854775807) (W:World) (h:HB w0 K x s W) :
    Calls Tryz.prog 14 #[.pointer (some ⟨x,0,none⟩),.string tok,.agg #[.int .i64 o1,.int .i64 o2,.int .i64 o3,.int .i64 o4,.int .i64 o5]] W fun e w'=>∃ (k:Nat) (o r:List UInt8),e=.returned (.string (byt (cmdL k tok.data.toList o r)))/\k<8/\(32:UInt8)∉o/\(byt (cmdL k tok.data.toList o r)).size<=8000/\Below W.heap.size W w':=by
  have b1:=pk_bd o1 8 (om)
  have b2:=pk_bd o2 3 (om)
  have b3:=pk_bd o3 6 (om)
  obtain⟨q,hq⟩:∃ q,q=(pk o1 8).toNat:=⟨_,rfl⟩
  obtain⟨pq,hpq⟩:∃ p:Nat,p=(pk o3 6).toNat:=⟨_,rfl⟩
  obtain⟨pb0,pb1,pb2,pb3⟩:=pool_bd ⟨pq,by omega⟩
  obtain⟨w1,w2,_⟩:=own3_fin ⟨(pk o2 3).toNat,by omega⟩
  dsimp only at pb0 pb1 pb2 pb3 w1 w2;obtain⟨pn,hpn⟩:∃ p,p=poolN pq:=⟨_,rfl⟩
  obtain⟨pa,hpa⟩:∃ p,p=poolA pq:=⟨_,rfl⟩
  rw[<- hpn] at pb2 pb3;rw[<- hpa] at pb0 pb1;have b4:=pk_bd o4 (33-pn) (om)
  obtain⟨m,hm⟩:∃ m,m=pk o4 (33-pn):=⟨_,rfl⟩
  rw[<- hm] at b4;obtain⟨t1,t2⟩:=two_fin ⟨m.toNat,by omega⟩
  dsimp only at t1 t2;obtain⟨ts,hts⟩:∃ t,t=(2:Int)^m.toNat:=⟨_,rfl⟩
  rw[<- hts] at t1 t2;have b5:=pk_bd o5 ts t1;have sp:=sz_prod ⟨pn.toNat,by omega⟩ ⟨m.toNat,by omega⟩ (by dsimp only;omega) (by dsimp only;omega)
  dsimp only at sp;rw[show ((pn.toNat+m.toNat:Nat):Int)=pn+m by omega,<- hts] at sp
  have sf:=sz_fin ⟨pn.toNat,by omega⟩ (by dsimp only;omega)
  dsimp only at sf;rw[show ((pn.toNat:Nat):Int)=pn by omega] at sf
  have b6:=pk_bd o5 (sz pn) sf.1
  obtain⟨u,hu⟩:∃ u,u=pk o5 ts:=⟨_,rfl⟩
  obtain⟨z,hz⟩:∃ z,z=sz (pn+m):=⟨_,rfl⟩
  rw[<- hu] at b5;rw[<- hz] at sp;have hp0:0<=u*z:=Int.mul_nonneg b5.1 sp.2
  have hp1:u*z<=1024:=Int.le_trans (Int.mul_le_mul_of_nonneg_right (om) sp.2) sp.1
  have hp2:u*z<1024:=by
    rcases Int.lt_or_eq_of_le hp1 with e|e
    . exact e
    . exfalso
      have h9:(u+1)*z<=ts*z:=Int.mul_le_mul_of_nonneg_right (om) sp.2
      rw[Int.add_mul,Int.one_mul] at h9;have:z=0:=by omega
      rw[this,Int.mul_zero] at e;omega
  have hq':∀ k,k=9\/k=10->∀ (T:ByteArray) W,HB w0 K x s W->Calls Tryz.prog 16 #[.pointer (some ⟨x,0,none⟩),.string (bs (verb k++[32])++T)] W fun e w'=>∃ P:ByteArray,e=.returned (.string P)/\P.size<=5000/\Below W.heap.size W w':=fun k hk T W hW=>by
    have e:bs (verb k++[32])++T=bs (verb k++32::T.data.toList):=by
      apply ByteArray.ext
      apply Array.ext'
      simp[bs]
    rw[e];refine(hb_ask w0 K x s _ E hZ hI (fun l hl=>?_) W hW).mono ?_
    . have:=ask_verb (k:=k) (om) (r:=T.data.toList) (by simpa[bs] using hl)
      omega
    . rintro e w' ⟨rfl,hb⟩
      exact⟨_,rfl,ask_len hI hk _,hb⟩
  have hv2:0<=pk o5 (sz pn)/\pk o5 (sz pn)<1024:=⟨b6.1,by omega⟩
  refine(line_go x (HB w0 K x s) (fun W W' a b=>a.below b) W h tok (bs (own3 (pk o2 3).toNat)) (bs (verb q)) htk (by rw[bs_size];exact w1) o1 o2 o3 o4 o5 pa pn m ts u z (pa+u*z) (sz pn) (pk o5 (sz pn)) (pa+pk o5 (sz pn)) q (om) rfl
    (fun W=>(pick_any o1 8 W h1 (om) (om)).mono (by rintro e w' ⟨rfl,rfl⟩;exact⟨by rw[hq,Int.toNat_of_nonneg b1.1],rfl⟩))
    (fun W=>(kpools_any o3 W h3).mono (by rintro e w' ⟨rfl,hb⟩;rw[<- hpq,<- hpa,<- hpn];exact⟨rfl,hb⟩))
    (fun a n W a1 a2 a3 a4=>(ktext_any a n W a1 a2 a3 a4).mono (by rintro e w' ⟨rfl,hb⟩;exact⟨_,rfl,by rw[bs_size];have:=bText_lenC (a:=a) (n:=n) ⟨a1,a2⟩ a3 a4;omega,hb⟩))
    (fun W=>owner_any o2 W h2)
    (fun W=>by rw[hm];exact pick_any o4 (33-pn) W h4 (om) (om))
    (fun W=>by rw[hu];exact pick_any o5 ts W h5 t1 (om))
    (fun W=>by rw[hz];exact ksize_any (pn+m) W (om) (om))
    (by rw[<- hts];exact i64_small _ (om) (om)) (i64_small _ hp0 (om)) (u32_small _ hp0 (om)) (u32_small _ (om) (om)) (om) (om)
    (fun T W hW=>hq' 9 (.inl rfl) T W hW) (fun T W hW=>hq' 10 (.inr rfl) T W hW)
    (fun P W hP=>(entries_any P W (om)).mono (by
      rintro e w' ⟨v,rfl,ho,hb⟩
      obtain⟨b,c,rfl,_,_⟩:=owns_slice ho;refine⟨b,c,_,_,rfl,?_,fun j hj=>?_,hb⟩
      . rcases e:entL P.data.toList with _|l
        . simp
        . have:=(ent_small e).1
          have:=Lib.size_eq P
          simp only[Option.getD_some];omega
      . obtain⟨g,cap,e1,e2⟩:=owns_ent ho j hj
        cases e1;refine⟨g,_,rfl,?_,e2⟩
        rw[bs_size];rcases e:entL P.data.toList with _|l
        . rw[e] at hj;simp at hj
        . have:=(ent_small e).2 j
          have:=Lib.size_eq P
          simp only[Option.getD_some];omega))
    (fun c n W hc n0 n1=>(pick_any c n W (by rcases hc with rfl|rfl<;>assumption) n0 n1).mono (by
      rintro e w' ⟨rfl,rfl⟩
      have:=pk_bd c n n0
      exact⟨(pk c n).toNat,by rw[Int.toNat_of_nonneg this.1],by omega,rfl⟩))
    (fun W=>ksize_any pn W (om) (om))
    (fun W=>pick_any o5 (sz pn) W h5 sf.1 (om))
    (om) (u32_small _ hv2.1 (om)) (u32_small _ (om) (om))
    (fun W=>(kaddr_any (pa+pk o5 (sz pn)) W (om) (om)).mono (by rintro e w' ⟨rfl,hb⟩;exact⟨_,rfl,by rw[bs_size];have:=dot_len (pa+pk o5 (sz pn)).toNat (om);omega,hb⟩))
    (fun W=>(kdigits_any (pn+m) W (om) (om)).mono (by rintro e w' ⟨rfl,hb⟩;exact⟨_,rfl,by rw[bs_size];have:=dec_len2 (n:=(pn+m).toNat) (om);omega,hb⟩))
    (om) (om) pb0 (om) pb2 pb3).mono ?_
  rintro e w' ⟨r,rfl,hr,hb⟩
  refine⟨q,own3 (pk o2 3).toNat,r.data.toList,?_,by omega,w2,?_,hb⟩
  . rw[cmd_cat];rfl
  . have e1:byt (cmdL q tok.data.toList (own3 (pk o2 3).toNat) r.data.toList)=bs (verb q)++⟨#[32]⟩++tok++⟨#[32]⟩++bs (own3 (pk o2 3).toNat)++⟨#[32]⟩++r:=(cmd_cat q tok (bs (own3 (pk o2 3).toNat)) r).symm
    rw[e1];have:=(verb_no q (om)).2
    simp only[ByteArray.size_append,bs_size,show (⟨#[32]⟩:ByteArray).size=1 from rfl]
    omega
def RdG (g:Nat) (W:World) (v:Value) (A:List ByteArray):Prop:=Rd 1 encS ⟨#[]⟩ W v A/\(∃ n c,v=.slice (some ⟨g,0,none⟩) n c)/\g<W.heap.size
theorem RdG.below {g:Nat} {W W':World} {v:Value} {A:List ByteArray} (h:RdG g W v A) (hb:Below W.heap.size W W'):RdG g W' v A:=⟨h.1.below hb,h.2.1,Nat.lt_of_lt_of_le h.2.2 hb.size⟩
theorem RdG.same {g:Nat} {W W':World} {v:Value} {A:List ByteArray} (h:RdG g W v A) (hg:W'.heap[g]?=W.heap[g]?) (hz:W.heap.size<=W'.heap.size):RdG g W' v A:=by
  obtain⟨⟨b,cap,e,h1,h2,h3⟩,⟨n,c,e2⟩,hl⟩:=h;refine⟨⟨b,cap,e,h1,h2,fun hA=>?_⟩,⟨n,c,e2⟩,Nat.lt_of_lt_of_le hl hz⟩
  obtain⟨g',rfl,a1,a2⟩:=h3 hA;rw[e] at e2
  cases e2;exact⟨g,rfl,Nat.lt_of_lt_of_le a1 hz,fun j hj i u hu=>(World.cell?_of_block (a:=⟨g,j*1+i,none⟩) hg).trans (a2 j hj i u hu)⟩
theorem told_ne (s:Bk):1<=(toldB s).length:=by unfold toldB toldS;simp
theorem rdG_of {B:Nat} {W:World} {v:Value} {s:Bk} (h:W.ownsRow B 9 1 v (toldB s).length (strV (toldB s))):∃ g n c,v=.slice (some ⟨g,0,none⟩) n c/\RdG g W v (toldB s)/\B<=g:=by
  have hl:=told_ne s;have h':W.ownsRow B 9 1 v (toldB s).length ((toldB s).flatMap encS):=by
    have e:(toldB s).flatMap encS=strV (toldB s):=by
      unfold strV;induction (toldB s) with
      | nil=>rfl
      | cons x r ih=>rw[List.flatMap_cons,List.map_cons,ih];rfl
    rw[e];exact h
  have hr:=Rd.of_owns (k:=1) (enc:=encS) (fun _=>rfl) ⟨#[]⟩ h'
  have hr2:=hr;obtain⟨b,cap,e,h1,h2,h3⟩:=hr2;obtain⟨g,rfl,hg,_⟩:=h3 (by intro q;rw[q] at hl;simp at hl)
  refine⟨g,_,cap,e,⟨hr,⟨_,cap,e⟩,hg⟩,?_⟩
  rcases h.2 with⟨q,e0⟩|⟨g',cap',cur,q,hB,_⟩
  . omega
  . rw[e] at q
    cases q;exact hB
def TkS (s:Bk):Prop:=∀ x,x∈s.toks->x.r.size<=200000
theorem an_len {a:An} (h:AnOk a):(byt (anText a)).size<=200000:=by
  show (⟨(anText a).toArray⟩:ByteArray).size<=_
  rw[arr_size];obtain⟨h1,h2,h3⟩:=h;unfold anText;split
  . have:=ansT_len (a.s.map fun t=>t.data.toList) 100 (fun t ht=>by
      obtain⟨y,hy,rfl⟩:=List.mem_map.1 ht;have:=h3 y hy
      have:=Lib.size_eq y
      omega)
    unfold ansT at this;rw[List.flatMap_map,List.length_map] at this;have h4:a.s.length*(100+1)<=101000:=by omega
    exact Nat.le_trans this (om)
  . have:=anW_len ⟨a.e,h1⟩
    simp only[List.length_append,List.length_cons,List.length_nil] at *
    omega
theorem ans_short {s:Bk} (hI:Inv s) (hT:TkS s) (L:ByteArray):TkS (doAll s L).1/\(doAll s L).2.size<=200000:=by
  have h2:(byt (anText (ref 2))).size<=200000:=an_len (ref_ok 2 (om))
  have h3:(byt (anText (ref 3))).size<=200000:=an_len (ref_ok 3 (om))
  rcases e:rdLine L.data.toList with _|l
  . rw[no_line e];exact⟨hT,h2⟩
  . obtain⟨k1,k2⟩:=rdLine_ok e;have ha:=an_len (ans_ok hI k1)
    have ht:TkS (doLn s l).1:=fun x hx=>hT x (by rw[ln_toks] at hx;exact hx)
    by_cases hv:l.v<8
    . rw[some_line e hv];split
      . rename_i x hx;have hm:x∈s.toks:=by
          unfold findT at hx;exact(List.mem_filter.1 (List.mem_of_head? hx)).1
        split
        . exact⟨hT,h3⟩
        . exact⟨hT,hT x hm⟩
      . split
        . refine⟨fun x hx=>?_,ha⟩
          rcases addT_mem hx with q|q
          . exact ht x q
          . rw[q];exact ha
        . exact⟨ht,ha⟩
    . rw[doAll_ask e hv];exact⟨ht,ha⟩
def Ok3 (s:Bk):Prop:=Ok s/\TkS s
theorem ok3_all {s:Bk} (h:Ok3 s) (L:ByteArray):Ok3 (doAll s L).1:=⟨ok_all h.1 L,(ans_short h.1.1 h.2 L).1⟩
theorem bk0_ok3:Ok3 bk0:=⟨bk0_ok,fun x hx=>by simp[bk0] at hx⟩
theorem told_keep (w0:World) (K:Nat->Prop) (x:Nat) (s:Bk) (E:EnvT w0) (hZ:10<=w0.heap.size) (hI:Ok s) (W:World) (h:HB w0 K x s W) (hK:∀ b,K b->b<W.heap.size) :
    Calls Tryz.prog 13 #[.pointer (some ⟨x,0,none⟩)] W fun e w'=>∃ g m c,e=.returned (.tuple #[.slice (some ⟨g,0,none⟩) m c,.bool true])/\HB w0 (fun b=>K b\/b=g) x s w'/\(∀ b,(K b\/b=g)->b<w'.heap.size)/\RdG g w' (.slice (some ⟨g,0,none⟩) m c) (toldB s)/\Below W.heap.size W w':=by
  refine(ktold_any w0 K x s E hZ hI.1 hI.2 W h).mono ?_
  rintro e w' ⟨v,rfl,ho,hb⟩
  obtain⟨g,m,c,rfl,hr,hg⟩:=rdG_of ho;refine⟨g,m,c,rfl,h.keep _ hb (fun b q=>q.imp id (fun e=>by rw[e];exact hg)),fun b q=>?_,hr,hb⟩
  rcases q with q|rfl
  . exact Nat.lt_of_lt_of_le (hK b q) hb.size
  . exact hr.2.2
theorem told_short {s:Bk} (hI:Inv s):(toldB s).length<=1000000:=by
  unfold toldB toldS;rw[List.length_map,List.length_cons];have h1:∀ l:List Hd,(l.flatMap (toldP s)).length<=l.length*1000:=fun l=>by
    induction l with
    | nil=>simp
    | cons p r ih =>
      rw[List.flatMap_cons,List.length_append,toldP_len,List.length_cons,Nat.succ_mul];have:=netsOf_len s.nets p.a p.n
      have:=hI.n
      omega
  have:=h1 s.pools
  have:=hI.p
  omega
theorem fine_ok (a:ByteArray) (W:World) (h:a.size<=2097152):Calls Tryz.prog 19 #[.string a] W fun e w'=>e=.returned (.bool (okS a))/\Below W.heap.size W w':=fine_any a W h
end Go.Proofs.YtjnhhnbgjjkkjaaGreatDoor
