/-
  BkLi, BkNi, BkSu, BkSv
-/
import Derived.Deep.CutRange
import Derived.BigQuiet
import Derived.Test.YtjnhhnbgjjkkjaaGreatDoorBasePAA
import Derived.Test.YtjnhhnbgjjkkjaaGreatDoorBasePBS
import Derived.Test.YtjnhhnbgjjkkjaaGreatDoorBasePBT
import Derived.Test.YtjnhhnbgjjkkjaaGreatDoorBasePBV
import Derived.Test.YtjnhhnbgjjkkjaaGreatDoorBasePAI
import Derived.Test.YtjnhhnbgjjkkjaaGreatDoorOrderedPAC
namespace Go.Proofs.YtjnhhnbgjjkkjaaGreatDoor
open Go.Conc Go.ChangeShapes Go.WideShapes Go.ChangeAt Go.RowKit
set_option linter.unusedVariables false
set_option linter.unusedSimpArgs false
theorem blk_drw {w:World} {g:Nat} {cs:Array Value} {t:TypeId} (h:Blk w g cs t):Blk w.drew g cs t:=h
theorem i64_mid (x:Int) (h0:-1000<=x) (h1:x<=10000000000):IntKind.i64.wrap x=x:=by simp[IntKind.wrap,IntKind.signed,IntKind.bits];omega
set_option maxRecDepth 100000 in
set_option maxHeartbeats 4000000 in
theorem lin_at (x:Nat) (w:World) (net:ByteArray) (hnz:net.size<=1000) (a n z ls:Int) (P:ByteArray) (m:Nat) (hm:m<=10000) (T:Nat->ByteArray) (hT:Hid (∀ j,(T j).size<=100)) (AD NX:Nat->Int)
    (ha0:0<=a) (ha1:a<4294967296) (hn0:0<=n) (hn1:n<=32) (hz0:1<=z) (hz1:z<=4294967296) (hfs:Hid (NX 0=if n<=30 then a+1 else a)) (hls:Hid (ls=if n<=30 then a+z-1-1 else a+z-1))
    (hNX:Hid (∀ j,j<m->NX j<=AD j/\AD j<=ls/\0<=AD j/\AD j<4294967296/\NX (j+1)=AD j+1))
    (HU:Hid (∀ W,Below w.heap.size w W->Calls Tryz.prog 16 #[.pointer (some ⟨x,0,none⟩),.string (⟨#[85,83,69,68,32]⟩++net)] W fun e w'=>e=.returned (.string P)/\Below W.heap.size W w'))
    (HE:Hid (∀ W,Calls Tryz.prog 35 #[.string P] W fun e w'=>∃ (b:Option Addr) (c:Nat),e=.returned (.tuple #[.slice b m c,.bool true])/\(∀ j,j<m->∃ g:Nat,b=some ⟨g,0,none⟩/\w'.cell? ⟨g,j*2,none⟩=some (.string (T j)))/\Below W.heap.size W w'))
    (HR:Hid (∀ j W,j<m->Calls Tryz.prog 44 #[.string (T j++⟨#[47,51,50]⟩)] W fun e w'=>e=.returned (.tuple #[.agg #[.int .u32 (AD j),.int .i64 32],.bool true])/\Below W.heap.size W w'))
    (HS:Hid (∀ W,Calls Tryz.prog 23 #[.int .i64 n] W fun e w'=>e=.returned (.int .i64 z)/\w'=W)) :
    Calls Tryz.prog 81 #[.pointer (some ⟨x,0,none⟩),.string net,.agg #[.int .u32 a,.int .i64 n]] w fun e w'=>e=.returned (.bool true)/\Below w.heap.size w w':=by
  have hc1:¬9223372036854775807<5+net.size:=by omega
  have hwa:IntKind.i64.wrap a=a:=i64_mid _ (om) (om)
  have hwz:IntKind.i64.wrap (a+z)=a+z:=i64_mid _ (om) (om)
  have hw1:IntKind.i64.wrap (a+z-1)=a+z-1:=i64_mid _ (om) (om)
  have hw2:IntKind.i64.wrap (a+z-1-1)=a+z-1-1:=i64_mid _ (om) (om)
  have hw3:IntKind.i64.wrap (a+1)=a+1:=i64_mid _ (om) (om)
  go_enter Tryz.func81,Tryz.ntmps81
  by_cases hn30:n<=30
  all_goals (
    go_wp2_with (first
      | (go_at_call 16;refine(HU.out _ (upB)).mono ?_;rintro e w1 ⟨rfl,hq1⟩;obtain⟨k1,z1,hb1⟩:=one_live hq1;replace k1:Hid (Blk w1 w.heap.size #[.int .u32 a,.int .i64 n] 80):=k1;replace hb1:Hid (Below w.heap.size w w1):=hb1;replace hq1:Hid _:=hq1)
      | (go_at_call 35;refine(HE.out _).mono ?_;rintro e w2 ⟨b2,c2,rfl,hr2,hq2⟩;have k2:=k1.out.below hq2;have c20:w2.cell? ⟨w.heap.size,0,none⟩=some (.int .u32 a):=k2.cell 0;have c21:w2.cell? ⟨w.heap.size,1,none⟩=some (.int .i64 n):=k2.cell 1;replace k2:Hid (Blk w2 w.heap.size #[.int .u32 a,.int .i64 n] 80):=k2;replace hr2:Hid _:=hr2;replace hq2:Hid (Below w1.heap.size w1 w2):=hq2))
    go_region_held3 (fun w'=>w'.cell? ⟨w.heap.size,0,none⟩=some (.int .u32 a)/\w'.cell? ⟨w.heap.size,1,none⟩=some (.int .i64 n)) (go_keep) ((go_at_call 23;refine(HS.out _).mono ?_;rintro e w3 ⟨rfl,rfl⟩))
    go_wp2;have HL2:Hid (Below w.heap.size w w2):=hb1.out.trans (hq2.out.mono hb1.out.size)
    first|rw[if_pos hn30] at hfs hls|rw[if_neg (show ¬n<=30 by omega)] at hfs hls
    clear hq1 hq2 c20 c21 k1 k2;go_loopw [9,11] (fun nx i wr=>∃ k:Nat,k<=m/\nx=.int .i64 (NX k)/\i=.int .i64 k/\Hid (Below w2.heap.size w2 wr)) (fun _ i _=>m-(intOf i).toNat)
    case atStart=>exact⟨0,Nat.zero_le _,by rw[hfs.out],rfl,(by show Below w2.heap.size w2 _;exact upB)⟩
    case round =>
      obtain⟨k,hk,rfl,rfl,H⟩:=hrel;by_cases hlt:k<m
      . obtain⟨g,rfl,hcell⟩:=hr2.out k hlt;obtain⟨q1,q2,q3,q4,q5⟩:=hNX.out k hlt;have hR:=HR.out k;have hTz:=hT.out k;have hcw:wr.cell? ⟨g,k*2,none⟩=some (.string (T k)):=(H.out.cell (p:=⟨g,k*2,none⟩) (block_lt_of_cell hcell)).trans hcell
        clear hcell;generalize T k=t at *
        generalize AD k=ad at *
        generalize NX k=nx at *
        replace hR:Hid _:=hR;rw[hls.out] at q2;replace q5:Hid _:=q5;have hc2:¬9223372036854775807<t.size+3:=by omega
        have hk0:(0:Int)<=(k:Int):=by omega
        have hkm:(k:Int)<(m:Int):=by omega
        have hwd:IntKind.i64.wrap ad=ad:=i64_mid _ (om) (om)
        have hwe:IntKind.i64.wrap (ad+1)=ad+1:=i64_mid _ (om) (om)
        have hg1:¬ad<nx:=by omega
        go_wp2_with (go_at_call 44;refine(hR.out _ hlt).mono ?_;rintro e w4 ⟨rfl,hq4⟩;replace hq4:Hid _:=hq4)
        go_roundw
        case rel=>exact⟨k+1,by omega,by rw[q5.out],by go_num,(by have hX:Below w2.heap.size w2 w4:=H.out.trans (hq4.out.mono H.out.size);have hY:=hX.size;show Below w2.heap.size w2 _;exact upB)⟩
        case measure=>simp[intOf];omega
      . obtain rfl:k=m:=by omega
        have hkm:¬(k:Int)<(k:Int):=by omega
        go_wp2;go_ret;exact⟨rfl,HL2.out.trans (H.out.mono HL2.out.size)⟩)
set_option maxRecDepth 100000 in
set_option maxHeartbeats 4000000 in
theorem nin_at (x:Nat) (w:World) (pool:ByteArray) (hnz:pool.size<=1000) (a n z:Int) (P:ByteArray) (m:Nat) (hm:m<=10000) (T:Nat->ByteArray) (AD AN AZ NX:Nat->Int)
    (ha0:0<=a) (ha1:a<4294967296) (hn0:0<=n) (hn1:n<=32) (hz0:1<=z) (hz1:z<=4294967296) (hfs:Hid (NX 0=a))
    (hNX:Hid (∀ j,j<m->NX j<=AD j/\AD j+AZ j<=a+z/\0<=AD j/\AD j<4294967296/\22<=AN j/\AN j<=32/\1<=AZ j/\AZ j<=4294967296/\NX (j+1)=AD j+AZ j))
    (HU:Hid (∀ W,Below w.heap.size w W->Calls Tryz.prog 16 #[.pointer (some ⟨x,0,none⟩),.string (⟨#[78,69,84,83,32]⟩++pool)] W fun e w'=>e=.returned (.string P)/\Below W.heap.size W w'))
    (HE:Hid (∀ W,Calls Tryz.prog 35 #[.string P] W fun e w'=>∃ (b:Option Addr) (c:Nat),e=.returned (.tuple #[.slice b m c,.bool true])/\(∀ j,j<m->∃ g:Nat,b=some ⟨g,0,none⟩/\w'.cell? ⟨g,j*2,none⟩=some (.string (T j)))/\Below W.heap.size W w'))
    (HR:Hid (∀ j W,j<m->Calls Tryz.prog 44 #[.string (T j)] W fun e w'=>e=.returned (.tuple #[.agg #[.int .u32 (AD j),.int .i64 (AN j)],.bool true])/\Below W.heap.size W w'))
    (HL:Hid (∀ j W,j<m->Below w.heap.size w W->Calls Tryz.prog 81 #[.pointer (some ⟨x,0,none⟩),.string (T j),.agg #[.int .u32 (AD j),.int .i64 (AN j)]] W fun e w'=>e=.returned (.bool true)/\Below W.heap.size W w'))
    (HSj:Hid (∀ j W,j<m->Calls Tryz.prog 23 #[.int .i64 (AN j)] W fun e w'=>e=.returned (.int .i64 (AZ j))/\w'=W))
    (HS:Hid (∀ W,Calls Tryz.prog 23 #[.int .i64 n] W fun e w'=>e=.returned (.int .i64 z)/\w'=W)) :
    Calls Tryz.prog 45 #[.pointer (some ⟨x,0,none⟩),.string pool,.agg #[.int .u32 a,.int .i64 n]] w fun e w'=>e=.returned (.bool true)/\Below w.heap.size w w':=by
  have hc1:¬9223372036854775807<5+pool.size:=by omega
  have hwa:IntKind.i64.wrap a=a:=i64_mid _ (om) (om)
  have hwz:IntKind.i64.wrap (a+z)=a+z:=i64_mid _ (om) (om)
  go_enter Tryz.func45,Tryz.ntmps45
  go_wp2_with (first
    | (go_at_call 16;refine(HU.out _ (upB)).mono ?_;rintro e w1 ⟨rfl,hq1⟩;obtain⟨k1,z1,hb1⟩:=one_live hq1;replace k1:Hid (Blk w1 w.heap.size #[.int .u32 a,.int .i64 n] 80):=k1;replace hb1:Hid (Below w.heap.size w w1):=hb1;replace hq1:Hid _:=hq1)
    | (go_at_call 35;refine(HE.out _).mono ?_;rintro e w2 ⟨b2,c2,rfl,hr2,hq2⟩;have k2:=k1.out.below hq2;have c20:w2.cell? ⟨w.heap.size,0,none⟩=some (.int .u32 a):=k2.cell 0;have c21:w2.cell? ⟨w.heap.size,1,none⟩=some (.int .i64 n):=k2.cell 1;replace k2:Hid (Blk w2 w.heap.size #[.int .u32 a,.int .i64 n] 80):=k2;replace hr2:Hid _:=hr2;replace hq2:Hid (Below w1.heap.size w1 w2):=hq2))
  have HL2:Hid (Below w.heap.size w w2):=hb1.out.trans (hq2.out.mono hb1.out.size)
  clear hq1 hq2 c20 c21 k1;go_loopw [9,10] (fun nx i wr=>∃ k:Nat,k<=m/\nx=.int .i64 (NX k)/\i=.int .i64 k/\Hid (Below w2.heap.size w2 wr)) (fun _ i _=>m-(intOf i).toNat)
  case atStart=>exact⟨0,Nat.zero_le _,by rw[hfs.out],rfl,(by show Below w2.heap.size w2 _;exact upB)⟩
  case round =>
    obtain⟨k,hk,rfl,rfl,H⟩:=hrel;by_cases hlt:k<m
    . obtain⟨g,rfl,hcell⟩:=hr2.out k hlt;obtain⟨q1,q2,q3,q4,q5,q6,q7,q8,q9⟩:=hNX.out k hlt;have hR:=HR.out k;have hLk:=HL.out k;have hSk:=HSj.out k;have hcw:wr.cell? ⟨g,k*2,none⟩=some (.string (T k)):=(H.out.cell (p:=⟨g,k*2,none⟩) (block_lt_of_cell hcell)).trans hcell
      have hCE:Hid (∀ W,Below w2.heap.size w2 W->W.cell? ⟨g,k*2,none⟩=some (.string (T k))/\W.cell? ⟨w.heap.size,0,none⟩=some (.int .u32 a)/\W.cell? ⟨w.heap.size,1,none⟩=some (.int .i64 n)):=fun W hW=>⟨(hW.cell (p:=⟨g,k*2,none⟩) (block_lt_of_cell hcell)).trans hcell,(k2.out.below hW).cell 0,(k2.out.below hW).cell 1⟩
      have hGL:Hid (∀ W,Below w2.heap.size w2 W->Below w.heap.size w W):=fun W hW=>HL2.out.trans (hW.mono HL2.out.size)
      clear hcell;generalize T k=t at *
      generalize AD k=ad at *
      generalize AN k=an at *
      generalize AZ k=az at *
      generalize NX k=nx at *
      replace hR:Hid _:=hR;replace hLk:Hid _:=hLk;replace hSk:Hid _:=hSk;replace q9:Hid _:=q9;have hk0:(0:Int)<=(k:Int):=by omega
      have hkm:(k:Int)<(m:Int):=by omega
      have hwd:IntKind.i64.wrap ad=ad:=i64_mid _ (om) (om)
      have hwe:IntKind.i64.wrap (ad+az)=ad+az:=i64_mid _ (om) (om)
      have hg1:¬ad<nx:=by omega
      have hg2:¬an<22:=by omega
      have hg3:¬a+z<ad+az:=by omega
      have hg4:ad+az<=a+z:=by omega
      have HW:Hid (Below w2.heap.size w2 wr):=H
      clear H;go_wp2_with (first
        | (go_at_call 44;refine(hR.out _ hlt).mono ?_;rintro e w4 ⟨rfl,hq4⟩;have H4:Hid (Below w2.heap.size w2 w4):=bstep (by have hX:=HW.out;exact upB) (by have hX:=HW.out.size;first|omega|(simp;omega)) hq4;clear hq4;obtain⟨d0,d1,d2⟩:=hCE.out w4 H4.out;clear hcw))
      go_region_held3 (fun w'=>w'.cell? ⟨w4.heap.size,0,none⟩=some (.int .u32 ad)/\w'.cell? ⟨w4.heap.size,1,none⟩=some (.int .i64 an)) (go_keep) ((go_at_call 23;refine(hSk.out _ hlt).mono ?_;rintro e w5 ⟨rfl,rfl⟩))
      go_wp2;go_region_held3 (fun w'=>w'.cell? ⟨w.heap.size,0,none⟩=some (.int .u32 a)/\w'.cell? ⟨w.heap.size,1,none⟩=some (.int .i64 n)) (go_keep) ((go_at_call 23;refine(HS.out _).mono ?_;rintro e w6 ⟨rfl,rfl⟩))
      go_wp2;go_region_held3 (fun w'=>w'.cell? ⟨g,k*2,none⟩=some (.string t)/\w'.cell? ⟨w4.heap.size,0,none⟩=some (.int .u32 ad)/\w'.cell? ⟨w4.heap.size,1,none⟩=some (.int .i64 an)) (go_keep) ((go_at_call 81;refine(hLk.out _ hlt (hGL.out _ (by have hX:=H4.out;have hY:=H4.out.size;exact upB))).mono ?_;rintro e w7 ⟨rfl,hq7⟩;have H7:Hid (Below w2.heap.size w2 w7):=bstep (by have hX:=H4.out;have hY:=H4.out.size;exact upB) (by have hY:=H4.out.size;first|omega|(simp;omega)) hq7;have kb:Blk w7 w4.heap.size #[.int .u32 ad,.int .i64 an] 80:=Blk.below (by repeat' (first|with_reducible exact Blk.new w4 _ _|with_reducible exact((Blk.new w4 #[.int .u32 0,.int .i64 0] 80).set 0 _).set 1 _|with_reducible apply blk_drw)) hq7;clear hq7;have e0:=(hCE.out w7 H7.out).1;have e1:w7.cell? ⟨w4.heap.size,0,none⟩=some (.int .u32 ad):=kb.cell 0;have e2:w7.cell? ⟨w4.heap.size,1,none⟩=some (.int .i64 an):=kb.cell 1;clear kb d0 d1 d2))
      all_goals (
        go_wp2;go_roundw
        case rel=>exact⟨k+1,by omega,by rw[q9.out],by go_num,H7.out⟩
        case measure=>simp[intOf];omega)
    . obtain rfl:k=m:=by omega
      have hkm:¬(k:Int)<(k:Int):=by omega
      go_wp2;go_ret;exact⟨rfl,HL2.out.trans (H.out.mono HL2.out.size)⟩
set_option maxRecDepth 100000 in
set_option maxHeartbeats 4000000 in
theorem sure_at (x:Nat) (w:World) (P:ByteArray) (m:Nat) (hm:m<=10000) (T:Nat->ByteArray) (AD AN AZ NX:Nat->Int) (hfs:Hid (NX 0=0))
    (hNX:Hid (∀ j,j<m->NX j<=AD j/\0<=AD j/\AD j<4294967296/\0<=AN j/\AN j<=32/\1<=AZ j/\AZ j<=4294967296/\NX (j+1)=AD j+AZ j))
    (HU:Hid (∀ W,Below w.heap.size w W->Calls Tryz.prog 16 #[.pointer (some ⟨x,0,none⟩),.string ⟨#[80,79,79,76,83]⟩] W fun e w'=>e=.returned (.string P)/\Below W.heap.size W w'))
    (HE:Hid (∀ W,Calls Tryz.prog 35 #[.string P] W fun e w'=>∃ (b:Option Addr) (c:Nat),e=.returned (.tuple #[.slice b m c,.bool true])/\(∀ j,j<m->∃ g:Nat,b=some ⟨g,0,none⟩/\w'.cell? ⟨g,j*2,none⟩=some (.string (T j)))/\Below W.heap.size W w'))
    (HR:Hid (∀ j W,j<m->Calls Tryz.prog 44 #[.string (T j)] W fun e w'=>e=.returned (.tuple #[.agg #[.int .u32 (AD j),.int .i64 (AN j)],.bool true])/\Below W.heap.size W w'))
    (HL:Hid (∀ j W,j<m->Below w.heap.size w W->Calls Tryz.prog 45 #[.pointer (some ⟨x,0,none⟩),.string (T j),.agg #[.int .u32 (AD j),.int .i64 (AN j)]] W fun e w'=>e=.returned (.bool true)/\Below W.heap.size W w'))
    (HSj:Hid (∀ j W,j<m->Calls Tryz.prog 23 #[.int .i64 (AN j)] W fun e w'=>e=.returned (.int .i64 (AZ j))/\w'=W)) :
    Calls Tryz.prog 17 #[.pointer (some ⟨x,0,none⟩)] w fun e w'=>e=.returned (.bool true)/\Below w.heap.size w w':=by
  go_enter Tryz.func17,Tryz.ntmps17
  go_wp2_with (first
    | (go_at_call 16;refine(HU.out _ (upB)).mono ?_;rintro e w1 ⟨rfl,hq1⟩;replace hq1:Hid _:=hq1)
    | (go_at_call 35;refine(HE.out _).mono ?_;rintro e w2 ⟨b2,c2,rfl,hr2,hq2⟩;replace hr2:Hid _:=hr2;replace hq2:Hid (Below w1.heap.size w1 w2):=hq2))
  have HL2:Hid (Below w.heap.size w w2):=hq1.out.trans (hq2.out.mono hq1.out.size)
  clear hq1 hq2;go_loopw [5,6] (fun nx i wr=>∃ k:Nat,k<=m/\nx=.int .i64 (NX k)/\i=.int .i64 k/\Hid (Below w2.heap.size w2 wr)) (fun _ i _=>m-(intOf i).toNat)
  case atStart=>exact⟨0,Nat.zero_le _,by rw[hfs.out],rfl,(by show Below w2.heap.size w2 _;exact upB)⟩
  case round =>
    obtain⟨k,hk,rfl,rfl,H⟩:=hrel;by_cases hlt:k<m
    . obtain⟨g,rfl,hcell⟩:=hr2.out k hlt;obtain⟨q1,q3,q4,q5,q6,q7,q8,q9⟩:=hNX.out k hlt;have hR:=HR.out k;have hLk:=HL.out k;have hSk:=HSj.out k;have hcw:wr.cell? ⟨g,k*2,none⟩=some (.string (T k)):=(H.out.cell (p:=⟨g,k*2,none⟩) (block_lt_of_cell hcell)).trans hcell
      have hCE:Hid (∀ W,Below w2.heap.size w2 W->W.cell? ⟨g,k*2,none⟩=some (.string (T k))):=fun W hW=>(hW.cell (p:=⟨g,k*2,none⟩) (block_lt_of_cell hcell)).trans hcell
      have hGL:Hid (∀ W,Below w2.heap.size w2 W->Below w.heap.size w W):=fun W hW=>HL2.out.trans (hW.mono HL2.out.size)
      clear hcell;generalize T k=t at *
      generalize AD k=ad at *
      generalize AN k=an at *
      generalize AZ k=az at *
      generalize NX k=nx at *
      replace hR:Hid _:=hR;replace hLk:Hid _:=hLk;replace hSk:Hid _:=hSk;replace q9:Hid _:=q9;have hk0:(0:Int)<=(k:Int):=by omega
      have hkm:(k:Int)<(m:Int):=by omega
      have hwd:IntKind.i64.wrap ad=ad:=i64_mid _ (om) (om)
      have hwe:IntKind.i64.wrap (ad+az)=ad+az:=i64_mid _ (om) (om)
      have hg1:¬ad<nx:=by omega
      have HW:Hid (Below w2.heap.size w2 wr):=H
      clear H;go_wp2_with (first
        | (go_at_call 44;refine(hR.out _ hlt).mono ?_;rintro e w4 ⟨rfl,hq4⟩;have H4:Hid (Below w2.heap.size w2 w4):=bstep (by have hX:=HW.out;exact upB) (by have hX:=HW.out.size;first|omega|(simp;omega)) hq4;clear hq4;have d0:=hCE.out w4 H4.out;clear hcw))
      go_region_held3 (fun w'=>w'.cell? ⟨g,k*2,none⟩=some (.string t)/\w'.cell? ⟨w4.heap.size,0,none⟩=some (.int .u32 ad)/\w'.cell? ⟨w4.heap.size,1,none⟩=some (.int .i64 an)) (go_keep) ((go_at_call 45;refine(hLk.out _ hlt (hGL.out _ (by have hX:=H4.out;have hY:=H4.out.size;exact upB))).mono ?_;rintro e w7 ⟨rfl,hq7⟩;have H7:Hid (Below w2.heap.size w2 w7):=bstep (by have hX:=H4.out;have hY:=H4.out.size;exact upB) (by have hY:=H4.out.size;first|omega|(simp;omega)) hq7;have kb:Blk w7 w4.heap.size #[.int .u32 ad,.int .i64 an] 80:=Blk.below (by repeat' (first|with_reducible exact Blk.new w4 _ _|with_reducible exact((Blk.new w4 #[.int .u32 0,.int .i64 0] 80).set 0 _).set 1 _|with_reducible apply blk_drw)) hq7;clear hq7;have e0:=hCE.out w7 H7.out;have e1:w7.cell? ⟨w4.heap.size,0,none⟩=some (.int .u32 ad):=kb.cell 0;have e2:w7.cell? ⟨w4.heap.size,1,none⟩=some (.int .i64 an):=kb.cell 1;clear kb d0))
      all_goals (
        go_wp2;go_region_held3 (fun w'=>w'.cell? ⟨w4.heap.size,0,none⟩=some (.int .u32 ad)/\w'.cell? ⟨w4.heap.size,1,none⟩=some (.int .i64 an)) (go_keep) ((go_at_call 23;refine(hSk.out _ hlt).mono ?_;rintro e w5 ⟨rfl,rfl⟩))
        go_wp2;go_roundw
        case rel=>exact⟨k+1,by omega,by rw[q9.out],by go_num,(by show Below w2.heap.size w2 _;have hX:=H7.out;have hY:=hX.size;exact upB)⟩
        case measure=>simp[intOf];omega)
    . obtain rfl:k=m:=by omega
      have hkm:¬(k:Int)<(k:Int):=by omega
      go_wp2;go_ret;exact⟨rfl,HL2.out.trans (H.out.mono HL2.out.size)⟩
theorem ent_cells (s:ByteArray) (q:List (List UInt8×List UInt8)) (hs:s.size<=900000) (h:entL s.data.toList=some q) (m:Nat) (hm:q.length=m) (T:Nat->ByteArray) (hT:∀ j,j<m->bs (q.getD j ([],[])).1=T j) (W:World) :
    Calls Tryz.prog 35 #[.string s] W fun e w'=>∃ (b:Option Addr) (c:Nat),e=.returned (.tuple #[.slice b m c,.bool true])/\(∀ j,j<m->∃ g:Nat,b=some ⟨g,0,none⟩/\w'.cell? ⟨g,j*2,none⟩=some (.string (T j)))/\Below W.heap.size W w':=by
  subst hm;refine(ent_of s q hs h W).mono ?_
  rintro e w' ⟨b,c,rfl,ho,hb⟩
  refine⟨b,c,rfl,fun j hj=>?_,hb⟩
  obtain⟨g,cap,hv,hc⟩:=owns_ent ho j hj;rw[hT j hj] at hc;exact⟨g,(Value.slice.inj hv).1,hc⟩
theorem sz_leB {n:Int} (h0:0<=n) (h1:n<=32):1<=sz n/\sz n<=4294967296:=by
  have:=sz_pos n
  have h:=sz_mono (m:=0) (n:=n) h0 h1
  have e:sz 0=4294967296:=by decide +kernel
  omega
theorem lin_any (w0:World) (K:Nat->Prop) (x:Nat) (s:Bk) (E:EnvT w0) (hZ:10<=w0.heap.size) (hI:Inv s) (G:Good s) {h:Hd} (hh:h∈s.nets) (w:World) (H:HB w0 K x s w) :
    Calls Tryz.prog 81 #[.pointer (some ⟨x,0,none⟩),.string (bs (bText h.a h.n)),.agg #[.int .u32 h.a,.int .i64 h.n]] w fun e w'=>e=.returned (.bool true)/\Below w.heap.size w w':=by
  obtain⟨g0,g1,gr,_⟩:=G.nr h hh;obtain⟨r1,r2,_⟩:=rt_iff.1 gr;obtain⟨z0,z1⟩:=sz_leB r1 r2;obtain⟨i1,i2,_⟩:=hI.na h hh;have hlen:=bText_len _ _ i1 i2;obtain⟨L,hL⟩:∃ L,L=leasesOf s.leases h.a h.n:=⟨_,rfl⟩
  have hLl:L.length<=40:=by have:=leasesOf_len s.leases h.a h.n;have:=hI.l;rw[hL];omega
  have hnx:∀ j,j<L.length->nxL h L j<=(L.getD j ls0).a/\(L.getD j ls0).a<=useZ h.a h.n/\0<=(L.getD j ls0).a/\(L.getD j ls0).a<4294967296:=fun j hj=>by subst hL;exact lease_next G hh hj
  refine lin_at x w (bs (bText h.a h.n)) (by rw[bs_size];omega) h.a h.n (sz h.n) (useZ h.a h.n) (bs (usedT s h)) L.length (om) (fun j=>if j<L.length then bs (dot (L.getD j ls0).a.toNat) else bs []) ?_ (fun j=>(L.getD j ls0).a) (nxL h L) g0 g1 r1 r2 z0 z1 ?_ ?_ ?_ ?_ ?_ ?_ ?_
  . intro j;try dsimp only
    split
    . rename_i hj;obtain⟨_,_,q3,q4⟩:=hnx j hj;rw[bs_size];have:=dot_len (L.getD j ls0).a.toNat (om)
      omega
    . rw[bs_size];simp
  . show nxL h L 0=_
    unfold nxL useA;rfl
  . show useZ h.a h.n=_
    unfold useZ lst;split<;>omega
  . intro j hj;obtain⟨q1,q2,q3,q4⟩:=hnx j hj;exact⟨q1,q2,q3,q4,rfl⟩
  . intro W hW;have e:=read_ask (k:=10) (om) g0 g1 gr
    have h1:=hb_ask w0 K x s (bs (verb 10++32::bText h.a h.n)) E hZ hI (fun l hl=>by rw[bs_data] at hl;replace hl:=e.symm.trans hl;injection hl with hl;rw[<- hl];show ¬10<8;omega) W (H.below hW)
    rw[ask_used G hh] at h1;have e3:=ask_cat 10 (bText h.a h.n) [85,83,69,68,32] rfl
    rw[show (⟨#[85,83,69,68,32]⟩:ByteArray)++bs (bText h.a h.n)=_ from e3];exact h1
  . intro W;have:=usedT_len hI h
    refine ent_cells (bs (usedT s h)) (L.map entS) (by rw[bs_size];omega) (by rw[bs_data,hL];exact ent_l _ fun y hy=>G.lo y (leasesOf_sub hy)) L.length (by simp) _ (fun j hj=>?_) W
    rw[if_pos hj,getD_map entS L ls0 _ j hj];rfl
  . intro j W hj;obtain⟨_,_,q3,q4⟩:=hnx j hj;have h1:=kread_any (L.getD j ls0).a 32 W q3 q4 rt_one
    rw[if_pos hj];have e:bs (dot (L.getD j ls0).a.toNat)++⟨#[47,51,50]⟩=bs (bText (L.getD j ls0).a 32):=by
      have e1:(⟨#[47,51,50]⟩:ByteArray)=bs [47,51,50]:=rfl
      have e2:bText (L.getD j ls0).a 32=dot (L.getD j ls0).a.toNat++[47,51,50]:=by
        unfold bText wr;rw[show ((32:Int).toNat)=32 from rfl,show dec 32=[51,50] from by decide +kernel]
      rw[e1,bs_append,e2]
    rw[e];exact h1
  . intro W;exact ksize_any h.n W r1 r2
theorem nin_any (w0:World) (K:Nat->Prop) (x:Nat) (s:Bk) (E:EnvT w0) (hZ:10<=w0.heap.size) (hI:Inv s) (G:Good s) {p:Hd} (hp:p∈s.pools) (w:World) (H:HB w0 K x s w) :
    Calls Tryz.prog 45 #[.pointer (some ⟨x,0,none⟩),.string (bs (bText p.a p.n)),.agg #[.int .u32 p.a,.int .i64 p.n]] w fun e w'=>e=.returned (.bool true)/\Below w.heap.size w w':=by
  obtain⟨g0,g1,gr⟩:=G.pr p hp;obtain⟨r1,r2,_⟩:=rt_iff.1 gr;obtain⟨z0,z1⟩:=sz_leB r1 r2;obtain⟨i1,i2,_⟩:=hI.pa p hp;have hlen:=bText_len _ _ i1 i2;obtain⟨L,hL⟩:∃ L,L=netsOf s.nets p.a p.n:=⟨_,rfl⟩
  have hLl:L.length<=24:=by have:=netsOf_len s.nets p.a p.n;have:=hI.n;rw[hL];omega
  have hnx:∀ j,j<L.length->nxN p.a L j<=(L.getD j hd0).a/\(L.getD j hd0).a+sz (L.getD j hd0).n<=p.a+sz p.n/\L.getD j hd0∈s.nets:=fun j hj=>by subst hL;exact net_next G hp hj
  refine nin_at x w (bs (bText p.a p.n)) (by rw[bs_size];omega) p.a p.n (sz p.n) (bs (netsT s p)) L.length (om) (fun j=>bs (bText (L.getD j hd0).a (L.getD j hd0).n)) (fun j=>(L.getD j hd0).a) (fun j=>(L.getD j hd0).n) (fun j=>sz (L.getD j hd0).n) (nxN p.a L) g0 g1 r1 r2 z0 z1 ?_ ?_ ?_ ?_ ?_ ?_ ?_ ?_
  . rfl
  . intro j hj;obtain⟨q1,q2,q3⟩:=hnx j hj;obtain⟨m0,m1,mr,m2⟩:=G.nr _ q3;obtain⟨t1,t2,_⟩:=rt_iff.1 mr;obtain⟨y0,y1⟩:=sz_leB t1 t2;exact⟨q1,q2,m0,m1,m2,t2,y0,y1,rfl⟩
  . intro W hW;have e:=read_ask (k:=9) (om) g0 g1 gr
    have h1:=hb_ask w0 K x s (bs (verb 9++32::bText p.a p.n)) E hZ hI (fun l hl=>by rw[bs_data] at hl;replace hl:=e.symm.trans hl;injection hl with hl;rw[<- hl];show ¬9<8;omega) W (H.below hW)
    rw[ask_nets G hp] at h1;have e3:=ask_cat 9 (bText p.a p.n) [78,69,84,83,32] rfl
    rw[show (⟨#[78,69,84,83,32]⟩:ByteArray)++bs (bText p.a p.n)=_ from e3];exact h1
  . intro W;have:=netsT_len hI p
    refine ent_cells (bs (netsT s p)) (L.map entH) (by rw[bs_size];omega) (by rw[bs_data,hL];exact ent_h _ fun y hy=>G.no y (netsOf_sub hy)) L.length (by simp) _ (fun j hj=>?_) W
    rw[getD_map entH L hd0 _ j hj];rfl
  . intro j W hj;obtain⟨m0,m1,mr,m2⟩:=G.nr _ (hnx j hj).2.2
    exact kread_any _ _ W m0 m1 mr
  . intro j W hj hW;exact lin_any w0 K x s E hZ hI G (hnx j hj).2.2 W (H.below hW)
  . intro j W hj;obtain⟨m0,m1,mr,m2⟩:=G.nr _ (hnx j hj).2.2
    obtain⟨t1,t2,_⟩:=rt_iff.1 mr;exact ksize_any _ W t1 t2
  . intro W;exact ksize_any p.n W r1 r2
theorem sure_any (w0:World) (K:Nat->Prop) (x:Nat) (s:Bk) (E:EnvT w0) (hZ:10<=w0.heap.size) (hI:Inv s) (G:Good s) (w:World) (H:HB w0 K x s w) :
    Calls Tryz.prog 17 #[.pointer (some ⟨x,0,none⟩)] w fun e w'=>e=.returned (.bool true)/\Below w.heap.size w w':=by
  have hpl:=hI.p;refine sure_at x w (bs (poolsT s)) s.pools.length (om) (fun j=>bs (bText (s.pools.getD j hd0).a (s.pools.getD j hd0).n)) (fun j=>(s.pools.getD j hd0).a) (fun j=>(s.pools.getD j hd0).n) (fun j=>sz (s.pools.getD j hd0).n) (nxN 0 s.pools) ?_ ?_ ?_ ?_ ?_ ?_ ?_
  . rfl
  . intro j hj;obtain⟨q1,q3⟩:=pool_next G hj;obtain⟨m0,m1,mr⟩:=G.pr _ q3;obtain⟨t1,t2,_⟩:=rt_iff.1 mr;obtain⟨y0,y1⟩:=sz_leB t1 t2;exact⟨q1,m0,m1,t1,t2,y0,y1,rfl⟩
  . intro W hW;have h1:=hb_ask w0 K x s (bs (verb 8)) E hZ hI (fun l hl=>by rw[bs_data,read_pools] at hl;injection hl with hl;rw[<- hl];show ¬8<8;omega) W (H.below hW)
    rw[ask_pools] at h1;exact h1
  . intro W;have:=poolsT_len hI
    refine ent_cells (bs (poolsT s)) (s.pools.map entH) (by rw[bs_size];omega) (by rw[bs_data];exact ent_h _ G.po) s.pools.length (by simp) _ (fun j hj=>?_) W
    rw[getD_map entH s.pools hd0 _ j hj];rfl
  . intro j W hj;obtain⟨m0,m1,mr⟩:=G.pr _ (pool_next G hj).2
    exact kread_any _ _ W m0 m1 mr
  . intro j W hj hW;exact nin_any w0 K x s E hZ hI G (pool_next G hj).2 W (H.below hW)
  . intro j W hj;obtain⟨m0,m1,mr⟩:=G.pr _ (pool_next G hj).2
    obtain⟨t1,t2,_⟩:=rt_iff.1 mr;exact ksize_any _ W t1 t2
end Go.Proofs.YtjnhhnbgjjkkjaaGreatDoor
