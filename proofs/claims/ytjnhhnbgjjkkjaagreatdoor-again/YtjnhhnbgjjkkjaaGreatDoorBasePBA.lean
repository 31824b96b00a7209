/-
  BkLn, SnC
-/
import Derived.Test.YtjnhhnbgjjkkjaaGreatDoorBasePAY
import Derived.Test.YtjnhhnbgjjkkjaaGreatDoorBasePAH
import Derived.Test.YtjnhhnbgjjkkjaaGreatDoorBasePAA
import Derived.Test.YtjnhhnbgjjkkjaaGreatDoorBasePAZ
import Derived.Test.YtjnhhnbgjjkkjaaGreatDoorBasePAG
import Derived.Test.YtjnhhnbgjjkkjaaGreatDoorBasePAI
namespace Go.Proofs.YtjnhhnbgjjkkjaaGreatDoor
set_option linter.unusedVariables false
set_option linter.unusedSimpArgs false
theorem isName_size {w:List UInt8} (h:isName w=true):(⟨w.toArray⟩:ByteArray).size<=8:=by
  unfold isName at h;simp only[Bool.and_eq_true,decide_eq_true_eq] at h
  have h2:=h.1.2;show w.toArray.size<=8
  simpa using h2
theorem rdPart_ok {l l':Ln} {p:Nat} {w:List UInt8} (hL:LnOk l) (h:rdPart l p w=some l'):LnOk l'/\l'.v=l.v:=by
  unfold rdPart at h;split at h
  . split at h
    . cases h;exact⟨⟨hL.a,hL.d,hL.r,hL.g0,hL.g1,hL.o⟩,rfl⟩
    . cases h
  . split at h
    . split at h
      . rename_i hn
        cases h;exact⟨⟨hL.a,hL.d,hL.r,hL.g0,hL.g1,isName_size hn⟩,rfl⟩
      . cases h
    . split at h
      . split at h
        . rename_i b e
          cases h;have hb:=rd_text (a:=b.1) (n:=b.2) e
          exact⟨⟨⟨hb.2.2.1,hb.2.2.2.1⟩,hL.d,hb.2.1,hL.g0,hL.g1,hL.o⟩,rfl⟩
        . cases h
      . split at h
        . split at h
          . rename_i d e
            cases h;have hb:=addr_lt e;exact⟨⟨hL.a,⟨by dsimp only;omega,by dsimp only;omega⟩,hL.r,hL.g0,hL.g1,hL.o⟩,rfl⟩
          . cases h
        . split at h
          . split at h
            . rename_i g e
              cases h;have hb:=(num_some.1 e).1
              exact⟨⟨hL.a,hL.d,hL.r,by dsimp only;omega,by dsimp only;omega,hL.o⟩,rfl⟩
            . cases h
          . cases h
theorem rdParts_ok:∀ (ps:List Nat) (ws:List (List UInt8)) (l l':Ln),LnOk l->rdParts l ps ws=some l'->LnOk l'/\l'.v=l.v
  | [],[],l,l',hL,h=>by simp[rdParts] at h;subst h;exact⟨hL,rfl⟩
  | [],_::_,l,l',hL,h=>by simp[rdParts] at h
  | _::_,[],l,l',hL,h=>by simp[rdParts] at h
  | p::ps,w::ws,l,l',hL,h=>by
    rw[rdParts] at h;split at h
    . rename_i l2 e;have h1:=rdPart_ok hL e;have h2:=rdParts_ok ps ws l2 l' h1.1 h;exact⟨h2.1,h2.2.trans h1.2⟩
    . cases h
theorem ln0_ok (v:Nat):LnOk (ln0 v):=⟨by unfold ln0 ad;dsimp only;omega,by unfold ln0 ad;dsimp only;omega,rt_iff.2 ⟨by simp[ln0],by simp[ln0],by simp[ln0]⟩,by simp[ln0],by simp[ln0],Nat.zero_le 8⟩
theorem rdLine_ok {s:List UInt8} {l:Ln} (h:rdLine s=some l):LnOk l/\l.v<11:=by
  unfold rdLine at h;split at h
  . split at h
    . rename_i w ws e;split at h
      . cases h
      . rename_i hv;have h1:=rdParts_ok _ _ _ _ (ln0_ok _) h
        refine⟨h1.1,?_⟩
        rw[h1.2];show (fi (fun v=>v==w) verbT).toNat<11
        rcases fi_cases (fun v=>v==w) verbT [] with⟨q,_⟩|⟨k,hk,q,_,_⟩
        . rw[q];decide
        . rw[q];exact hk
    . cases h
  . cases h
end Go.Proofs.YtjnhhnbgjjkkjaaGreatDoor
namespace Go.Proofs.YtjnhhnbgjjkkjaaGreatDoor
open Go.ChangeShapes Go.WideShapes Go.ChangeAt Go.RowKit
set_option linter.unusedVariables false
set_option linter.unusedSimpArgs false
theorem join3 (a b c:ByteArray):(⟨(Lib.join ([a,b,c].map (·.data.toList)) (⟨#[32]⟩:ByteArray).data.toList).toArray⟩:ByteArray)=a++⟨#[32]⟩++b++⟨#[32]⟩++c:=by
  apply ByteArray.ext
  simp[Lib.join,ByteArray.data_append]
set_option maxRecDepth 100000 in
set_option maxHeartbeats 400000 in
theorem lwrite_pool (V J:ByteArray) (hV:V.size<=10) (hJ:J.size<=1000) (g:Nat) (w:World) (hz:0<w.heap.size) (c0:w.cell? ⟨0,0,none⟩=some (.string V))
    (HJ:Hid (∀ W,Below w.heap.size w W->Calls Tryz.prog 171 #[.slice (some ⟨g,0,none⟩) 3 3,.string ⟨#[32]⟩] W fun e w'=>e=.returned (.string J)/\Below W.heap.size W w')) :
    Calls Tryz.prog 202 #[.int .i64 0,.slice (some ⟨g,0,none⟩) 3 3] w fun e w'=>e=.returned (.string (V++⟨#[32]⟩++J))/\Below w.heap.size w w':=by
  have hs1:¬9223372036854775807<V.size+1:=by omega
  have hs2:¬9223372036854775807<V.size+1+J.size:=by omega
  have hs3:¬9223372036854775807<(V++(⟨#[32]⟩:ByteArray)).size+J.size:=by rw[ByteArray.size_append,show (⟨#[32]⟩:ByteArray).size=1 from rfl];omega
  have CE:Hid (∀ W,Below w.heap.size w W->W.cell? ⟨0,0,none⟩=some (.string V)):=fun W hW=>(hW.cell (p:=⟨0,0,none⟩) hz).trans c0
  go_enter Tryz.func202,Tryz.ntmps202
  go_wp2;go_region_held3 (fun w'=>w'.cell? ⟨0,0,none⟩=some (.string V)) (go_keep) ((go_at_call 171;refine(HJ.out _ (upB)).mono ?_;rintro e w1 ⟨rfl,hq1⟩;have hb1:Hid (Below w.heap.size w w1):=bstep (upB) (Nat.le_refl _) hq1;clear hq1;have c1:=CE.out w1 hb1.out;clear c0))
  all_goals (
    go_wp2;go_ret;have hq:=hb1.out;exact⟨rfl,(upB)⟩)
set_option maxRecDepth 100000 in
set_option maxHeartbeats 400000 in
theorem lwrite_net (V J:ByteArray) (hV:V.size<=10) (hJ:J.size<=1000) (g:Nat) (w:World) (hz:0<w.heap.size) (c0:w.cell? ⟨0,15,none⟩=some (.string V))
    (HJ:Hid (∀ W,Below w.heap.size w W->Calls Tryz.prog 171 #[.slice (some ⟨g,0,none⟩) 3 3,.string ⟨#[32]⟩] W fun e w'=>e=.returned (.string J)/\Below W.heap.size W w')) :
    Calls Tryz.prog 202 #[.int .i64 3,.slice (some ⟨g,0,none⟩) 3 3] w fun e w'=>e=.returned (.string (V++⟨#[32]⟩++J))/\Below w.heap.size w w':=by
  have hs1:¬9223372036854775807<V.size+1:=by omega
  have hs2:¬9223372036854775807<V.size+1+J.size:=by omega
  have hs3:¬9223372036854775807<(V++(⟨#[32]⟩:ByteArray)).size+J.size:=by rw[ByteArray.size_append,show (⟨#[32]⟩:ByteArray).size=1 from rfl];omega
  have CE:Hid (∀ W,Below w.heap.size w W->W.cell? ⟨0,15,none⟩=some (.string V)):=fun W hW=>(hW.cell (p:=⟨0,15,none⟩) hz).trans c0
  go_enter Tryz.func202,Tryz.ntmps202
  go_wp2;go_region_held3 (fun w'=>w'.cell? ⟨0,15,none⟩=some (.string V)) (go_keep) ((go_at_call 171;refine(HJ.out _ (upB)).mono ?_;rintro e w1 ⟨rfl,hq1⟩;have hb1:Hid (Below w.heap.size w w1):=bstep (upB) (Nat.le_refl _) hq1;clear hq1;have c1:=CE.out w1 hb1.out;clear c0))
  all_goals (
    go_wp2;go_ret;have hq:=hb1.out;exact⟨rfl,(upB)⟩)
set_option maxRecDepth 100000 in
set_option maxHeartbeats 400000 in
theorem lwrite_lease (V J:ByteArray) (hV:V.size<=10) (hJ:J.size<=1000) (g:Nat) (w:World) (hz:0<w.heap.size) (c0:w.cell? ⟨0,30,none⟩=some (.string V))
    (HJ:Hid (∀ W,Below w.heap.size w W->Calls Tryz.prog 171 #[.slice (some ⟨g,0,none⟩) 3 3,.string ⟨#[32]⟩] W fun e w'=>e=.returned (.string J)/\Below W.heap.size W w')) :
    Calls Tryz.prog 202 #[.int .i64 6,.slice (some ⟨g,0,none⟩) 3 3] w fun e w'=>e=.returned (.string (V++⟨#[32]⟩++J))/\Below w.heap.size w w':=by
  have hs1:¬9223372036854775807<V.size+1:=by omega
  have hs2:¬9223372036854775807<V.size+1+J.size:=by omega
  have hs3:¬9223372036854775807<(V++(⟨#[32]⟩:ByteArray)).size+J.size:=by rw[ByteArray.size_append,show (⟨#[32]⟩:ByteArray).size=1 from rfl];omega
  have CE:Hid (∀ W,Below w.heap.size w W->W.cell? ⟨0,30,none⟩=some (.string V)):=fun W hW=>(hW.cell (p:=⟨0,30,none⟩) hz).trans c0
  go_enter Tryz.func202,Tryz.ntmps202
  go_wp2;go_region_held3 (fun w'=>w'.cell? ⟨0,30,none⟩=some (.string V)) (go_keep) ((go_at_call 171;refine(HJ.out _ (upB)).mono ?_;rintro e w1 ⟨rfl,hq1⟩;have hb1:Hid (Below w.heap.size w w1):=bstep (upB) (Nat.le_refl _) hq1;clear hq1;have c1:=CE.out w1 hb1.out;clear c0))
  all_goals (
    go_wp2;go_ret;have hq:=hb1.out;exact⟨rfl,(upB)⟩)
theorem lw_any (k:Nat) (hk:k=0\/k=3\/k=6) (o r:ByteArray) (ho:o.size<=8) (hr:r.size<=40) (g:Nat) (w:World) (E:EnvT w) (hg:g<w.heap.size)
    (c0:w.cell? ⟨g,0,none⟩=some (.string ⟨#[120]⟩)) (c1:w.cell? ⟨g,1,none⟩=some (.string o)) (c2:w.cell? ⟨g,2,none⟩=some (.string r)) :
    Calls Tryz.prog 202 #[.int .i64 k,.slice (some ⟨g,0,none⟩) 3 3] w fun e w'=>e=.returned (.string (byt (cmdL k xT o.data.toList r.data.toList)))/\Below w.heap.size w w':=by
  have HJ:Hid (∀ W,Below w.heap.size w W->Calls Tryz.prog 171 #[.slice (some ⟨g,0,none⟩) 3 3,.string ⟨#[32]⟩] W fun e w'=>e=.returned (.string (⟨#[120]⟩++⟨#[32]⟩++o++⟨#[32]⟩++r))/\Below W.heap.size W w'):=fun W hW=>by
    have h:=Tryz.strings_Join g 0 3 [⟨#[120]⟩,o,r] ⟨#[32]⟩ W (fun j x hx=>by
      match j,hx with
      | 0,hx=>simp at hx;subst hx;rw[Nat.zero_add];exact(hW.cell (p:=⟨g,0,none⟩) hg).trans c0
      | 1,hx=>simp at hx;subst hx;rw[Nat.zero_add];exact(hW.cell (p:=⟨g,1,none⟩) hg).trans c1
      | 2,hx=>simp at hx;subst hx;rw[Nat.zero_add];exact(hW.cell (p:=⟨g,2,none⟩) hg).trans c2
      | j+3,hx=>simp at hx) (Nat.lt_of_lt_of_le hg hW.size) (by simp) (by simp) (by
        have e:=congrArg ByteArray.size (join3 ⟨#[120]⟩ o r)
        rw[show ∀ l:List UInt8,(⟨l.toArray⟩:ByteArray).size=l.length from fun l=>by simp[ByteArray.size]] at e
        rw[e];simp only[ByteArray.size_append,show (⟨#[32]⟩:ByteArray).size=1 from rfl,show (⟨#[120]⟩:ByteArray).size=1 from rfl];omega)
    rw[join3] at h;exact h
  have hJ:((⟨#[120]⟩:ByteArray)++⟨#[32]⟩++o++⟨#[32]⟩++r).size<=1000:=by simp only[ByteArray.size_append,show (⟨#[32]⟩:ByteArray).size=1 from rfl,show (⟨#[120]⟩:ByteArray).size=1 from rfl];omega
  have e:∀ V:List UInt8,V=verb k->(bs V++⟨#[32]⟩++((⟨#[120]⟩:ByteArray)++⟨#[32]⟩++o++⟨#[32]⟩++r))=byt (cmdL k xT o.data.toList r.data.toList):=fun V hV=>by
    subst hV;apply ByteArray.ext
    apply Array.ext'
    simp[bs,byt,cmdL,xT,ByteArray.data_append]
  rcases hk with rfl|rfl|rfl
  . rw[<- e (verb 0) rfl];exact lwrite_pool (bs (verb 0)) _ (by decide) hJ g w E.lf (E.fm 0 _ rfl) HJ
  . rw[<- e (verb 3) rfl];exact lwrite_net (bs (verb 3)) _ (by decide) hJ g w E.lf (E.fm 15 _ rfl) HJ
  . rw[<- e (verb 6) rfl];exact lwrite_lease (bs (verb 6)) _ (by decide) hJ g w E.lf (E.fm 30 _ rfl) HJ
set_option maxRecDepth 100000 in
set_option maxHeartbeats 1000000 in
theorem hcmd_at (k a n:Int) (o t R:ByteArray) (w:World)
    (HB:Hid (∀ W,Below w.heap.size w W->Calls Tryz.prog 113 #[.agg #[.int .u32 a,.int .i64 n]] W fun e w'=>e=.returned (.string t)/\Below W.heap.size W w'))
    (HW:Hid (∀ W g,Below w.heap.size w W->Blk W g #[.string ⟨#[120]⟩,.string o,.string t] 9->Calls Tryz.prog 202 #[.int .i64 k,.slice (some ⟨g,0,none⟩) 3 3] W fun e w'=>e=.returned (.string R)/\Below W.heap.size W w')) :
    Calls Tryz.prog 150 #[.agg #[.int .u32 a,.int .i64 n,.string o],.int .i64 k] w fun e w'=>e=.returned (.string R)/\Below w.heap.size w w':=by
  have LIVE:Hid (∀ wk,Below (w.heap.size+1) (w.alloc (.cells #[.int .u32 a,.int .i64 n,.string o] 153)) wk->wk.cell? ⟨w.heap.size,0,none⟩=some (.int .u32 a)/\wk.cell? ⟨w.heap.size,1,none⟩=some (.int .i64 n)/\wk.cell? ⟨w.heap.size,2,none⟩=some (.string o)/\w.heap.size<wk.heap.size):=fun wk h=>by
    have hz:=h.size;rw[World.size_alloc] at hz;have hk:Blk wk w.heap.size #[.int .u32 a,.int .i64 n,.string o] 153:=(h.block w.heap.size (om)).trans (heap_alloc_new w _)
    exact⟨hk.cell 0,hk.cell 1,hk.cell 2,by omega⟩
  have LOW:Hid (∀ wk,Below (w.heap.size+1) (w.alloc (.cells #[.int .u32 a,.int .i64 n,.string o] 153)) wk->Below w.heap.size w wk):=fun wk h=>(Below.alloc (Below.refl _ _) (Nat.le_refl _) _).trans (h.mono (om))
  go_enter Tryz.func150,Tryz.ntmps150
  go_wp2;go_region_held3 (fun w'=>w'.cell? ⟨w.heap.size,0,none⟩=some (.int .u32 a)/\w'.cell? ⟨w.heap.size,1,none⟩=some (.int .i64 n)/\w'.cell? ⟨w.heap.size,2,none⟩=some (.string o)) (go_keep) (first
    | (go_at_call 113;refine(HB.out _ (upB)).mono ?_;rintro e w1 ⟨rfl,hq1⟩;have HB1:Hid (Below (w.heap.size+1) (w.alloc (.cells #[.int .u32 a,.int .i64 n,.string o] 153)) w1):=bstep (upB) (by simp) hq1;clear hq1;obtain⟨d0,d1,d2,dz⟩:=LIVE.out _ HB1.out)
    | (go_at_call 202;refine(HW.out _ w1.heap.size (by have hp:=LOW.out _ HB1.out;have hz:=hp.size;exact upB) (by first|exact Blk.new w1 _ _|exact(Blk.new w1 _ _).drew)).mono ?_;rintro e w2 ⟨rfl,hq2⟩;have HB2:Hid (Below (w.heap.size+1) (w.alloc (.cells #[.int .u32 a,.int .i64 n,.string o] 153)) w2):=bstep (by have hp:=HB1.out;have hz:=hp.size;rw[World.size_alloc] at hz;exact upB) (by simp) hq2;clear hq2;obtain⟨f0,f1,f2,fz⟩:=LIVE.out _ HB2.out))
  all_goals (
    go_wp2;go_ret;have hq:=LOW.out _ HB2.out;have hz:=hq.size;exact⟨rfl,(upB)⟩)
set_option maxRecDepth 100000 in
set_option maxHeartbeats 1000000 in
theorem lcmd_at (a:Int) (o t R:ByteArray) (w:World)
    (HB:Hid (∀ W,Below w.heap.size w W->Calls Tryz.prog 121 #[.int .u32 a] W fun e w'=>e=.returned (.string t)/\Below W.heap.size W w'))
    (HW:Hid (∀ W g,Below w.heap.size w W->Blk W g #[.string ⟨#[120]⟩,.string o,.string t] 9->Calls Tryz.prog 202 #[.int .i64 6,.slice (some ⟨g,0,none⟩) 3 3] W fun e w'=>e=.returned (.string R)/\Below W.heap.size W w')) :
    Calls Tryz.prog 151 #[.agg #[.int .u32 a,.string o]] w fun e w'=>e=.returned (.string R)/\Below w.heap.size w w':=by
  have LIVE:Hid (∀ wk,Below (w.heap.size+1) (w.alloc (.cells #[.int .u32 a,.string o] 208)) wk->wk.cell? ⟨w.heap.size,0,none⟩=some (.int .u32 a)/\wk.cell? ⟨w.heap.size,1,none⟩=some (.string o)/\w.heap.size<wk.heap.size):=fun wk h=>by
    have hz:=h.size;rw[World.size_alloc] at hz;have hk:Blk wk w.heap.size #[.int .u32 a,.string o] 208:=(h.block w.heap.size (om)).trans (heap_alloc_new w _)
    exact⟨hk.cell 0,hk.cell 1,by omega⟩
  have LOW:Hid (∀ wk,Below (w.heap.size+1) (w.alloc (.cells #[.int .u32 a,.string o] 208)) wk->Below w.heap.size w wk):=fun wk h=>(Below.alloc (Below.refl _ _) (Nat.le_refl _) _).trans (h.mono (om))
  go_enter Tryz.func151,Tryz.ntmps151
  go_wp2;go_region_held3 (fun w'=>w'.cell? ⟨w.heap.size,0,none⟩=some (.int .u32 a)/\w'.cell? ⟨w.heap.size,1,none⟩=some (.string o)) (go_keep) (first
    | (go_at_call 121;refine(HB.out _ (upB)).mono ?_;rintro e w1 ⟨rfl,hq1⟩;have HB1:Hid (Below (w.heap.size+1) (w.alloc (.cells #[.int .u32 a,.string o] 208)) w1):=bstep (upB) (by simp) hq1;clear hq1;obtain⟨d0,d1,dz⟩:=LIVE.out _ HB1.out)
    | (go_at_call 202;refine(HW.out _ w1.heap.size (by have hp:=LOW.out _ HB1.out;have hz:=hp.size;exact upB) (by first|exact Blk.new w1 _ _|exact(Blk.new w1 _ _).drew)).mono ?_;rintro e w2 ⟨rfl,hq2⟩;have HB2:Hid (Below (w.heap.size+1) (w.alloc (.cells #[.int .u32 a,.string o] 208)) w2):=bstep (by have hp:=HB1.out;have hz:=hp.size;rw[World.size_alloc] at hz;exact upB) (by simp) hq2;clear hq2;obtain⟨f0,f1,fz⟩:=LIVE.out _ HB2.out))
  all_goals (
    go_wp2;go_ret;have hq:=LOW.out _ HB2.out;have hz:=hq.size;exact⟨rfl,(upB)⟩)
theorem lw_blk {k:Nat} (hk:k=0\/k=3\/k=6) (o r:ByteArray) (ho:o.size<=8) (hr:r.size<=40) {w:World} (E:EnvT w):∀ W g,Below w.heap.size w W->Blk W g #[.string ⟨#[120]⟩,.string o,.string r] 9->Calls Tryz.prog 202 #[.int .i64 k,.slice (some ⟨g,0,none⟩) 3 3] W fun e w'=>e=.returned (.string (byt (cmdL k xT o.data.toList r.data.toList)))/\Below W.heap.size W w' :=
  fun W g hW hb=>lw_any k hk o r ho hr g W (E.mono hW) hb.lt (hb.cell 0) (hb.cell 1) (hb.cell 2)
theorem hcmd_any (k:Nat) (hk:k=0\/k=3) (h:Hd) (w:World) (E:EnvT w) (ha:ad h.a) (hr:rt h.a h.n=true) (ho:h.o.size<=8) :
    Calls Tryz.prog 150 #[vH h,.int .i64 k] w fun e w'=>e=.returned (.string (byt (cmdL k xT h.o.data.toList (bText h.a h.n))))/\Below w.heap.size w w':=by
  have hs:(bs (bText h.a h.n)).size<=40:=by
    rw[bs_size];obtain⟨r1,r2,_⟩:=rt_iff.1 hr;have:=wr_len h.a.toNat h.n.toNat (by unfold ad at ha;omega) (om)
    unfold bText;omega
  have hw:=lw_blk (k:=k) (om) h.o (bs (bText h.a h.n)) ho hs E
  rw[bs_data] at hw;exact hcmd_at k h.a h.n h.o (bs (bText h.a h.n)) _ w (fun W hW=>blockText_any h.a h.n W (E.env.mono hW) ha hr) hw
theorem lcmd_any (l:Ls) (w:World) (E:EnvT w) (ha:ad l.a) (ho:l.o.size<=8) :
    Calls Tryz.prog 151 #[vL l] w fun e w'=>e=.returned (.string (byt (rowL l)))/\Below w.heap.size w w':=by
  have hs:(bs (dot l.a.toNat)).size<=40:=by
    rw[bs_size];have:=dot_len l.a.toNat (by unfold ad at ha;omega)
    omega
  have hw:=lw_blk (k:=6) (om) l.o (bs (dot l.a.toNat)) ho hs E
  rw[bs_data] at hw;exact lcmd_at l.a l.o (bs (dot l.a.toNat)) _ w (fun W hW=>wa_any l.a W (E.env.mono hW) ha.1 ha.2) hw
end Go.Proofs.YtjnhhnbgjjkkjaaGreatDoor
