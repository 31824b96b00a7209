/-
  BkMb, BkMc, BkMd, BkAl
-/
import Derived.Test.YtjnhhnbgjjkkjaaGreatDoorBasePAA
import Derived.Test.YtjnhhnbgjjkkjaaGreatDoorBasePAO
import Derived.Lib.SlicesS
namespace Go.Proofs.YtjnhhnbgjjkkjaaGreatDoor
open Go.ChangeShapes Go.WideShapes Go.ChangeAt Go.RowKit
set_option linter.unusedVariables false
set_option linter.unusedSimpArgs false
theorem delAt_len {α:Type} (l:List α) (k:Nat) (h:k<l.length):(delAt l k).length=l.length-1:=by unfold delAt;simp;omega
theorem flat_del {α:Type} {k:Nat} {enc:α->List Value} (hk:∀ x,(enc x).length=k) (l:List α) (i:Nat):(l.flatMap enc).take (i*k)++(l.flatMap enc).drop ((i+1)*k)=(delAt l i).flatMap enc:=by
  unfold delAt;rw[take_flat hk,drop_flat hk,List.flatMap_append]
theorem delpools {w:World} {v:Value} {l:List Hd} (hown:w.ownsRow 0 155 3 v l.length (l.flatMap encH)) (k:Nat) (hk:k<l.length) (hn:l.length<=1000) :
    Calls Tryz.prog 109 #[v,.int .i64 k,.int .i64 ((k:Int)+1)] w fun e w'=>∃ g cap,e=.returned (.slice (some ⟨g,0,none⟩) (l.length-1) cap)/\w'.ownsRow 0 155 3 (.slice (some ⟨g,0,none⟩) (l.length-1) cap) (l.length-1) ((delAt l k).flatMap encH)/\w.grownBy w' v.ownBlock/\∀ b,(Value.slice (some ⟨g,0,none⟩) (l.length-1) cap).ownBlock=some b->v.ownBlock=some b\/w.heap.size<=b:=by
  have hkk:∀ x:Hd,(encH x).length=3:=fun _=>rfl
  rcases hown.2 with⟨rfl,e⟩|⟨g,cap,cur,rfl,_,hg,h1,h2,h3,h4⟩
  . omega
  . obtain⟨m,hm⟩:∃ m,l.length=m+1:=⟨l.length-1,by omega⟩
    rw[hm] at h1 h4 hk ⊢;refine(delP (l.flatMap encH) m k g cap cur w (om) (om) hg h3 h4 h1 h2 (oneH l)).mono ?_
    rintro e w' ⟨rfl,o1,o2⟩
    rw[flat_del hkk] at o1;exact⟨g,cap,rfl,o1,o2,fun b e=>.inl e⟩
set_option maxRecDepth 100000 in
set_option maxHeartbeats 2000000 in
theorem drop_none (w:World) (x:Nat) (S:Nat->Prop) (s:Bk) (l:Ln) (hI:Inv s) (hL:LnOk l) (h:BkAt w x S s) (h1:findH s.pools l.a l.n=-1) :
    Calls Tryz.prog 70 #[.pointer (some ⟨x,0,none⟩),.agg (lnC l)] w (Res w x S (s,ref 7)):=by
  obtain⟨vp,vn,vl,c,B⟩:=h;have hx:=B.blk.lt;have H:Hid (BkAt w x S s):=⟨vp,vn,vl,c,B⟩
  obtain⟨x0,x1,x2⟩:=B.c3;have LIVE:Hid (∀ wk,BW w l wk->Live w wk x vp vn vl l):=live_of l B
  have HBA:Hid (BA w x S vp vn vl c s):=B
  have hxa:¬(x=w.heap.size):=by omega
  have hxb:¬(w.heap.size=x):=by omega
  have HF:Hid (∀ Wc,Below w.heap.size w Wc->Calls Tryz.prog 106 #[vp,.agg #[.int .u32 l.a,.int .i64 l.n]] Wc fun e w'=>e=.returned (.int .i64 (findH s.pools l.a l.n))/\Below Wc.heap.size Wc w'):=fun Wc hW=>findP s.pools l.a l.n vp Wc (fun q hq=>(hI.pa q hq).1) hL.a ((Rd.of_owns (k:=3) (enc:=encH) (fun _=>rfl) hd0 B.op).below hW)
  rw[h1] at HF;obtain⟨bq,cq,eq,_,_⟩:=owns_slice B.op;subst eq;clear B;unfold lnC;go_enter Tryz.func70,Tryz.ntmps70
  go_wp2;go_region_held3 (fun w'=>w'.cell? ⟨x,0,none⟩=some (.slice bq s.pools.length cq)/\w'.cell? ⟨w.heap.size,3,none⟩=some (.int .u32 l.a)/\w'.cell? ⟨w.heap.size,4,none⟩=some (.int .i64 l.n)) (go_keep) (first|(go_at_call 106;refine(HF.out _ (upB)).mono ?_;rintro e w1 ⟨rfl,HQ⟩;have HB1:Hid (BW w l w1):=bstep (upB) (by simp) HQ;clear HQ;have HW1:Hid (Below w.heap.size w w1):=(w0_below w l).trans (HB1.out.mono (om));have LV1:=LIVE.out w1 HB1.out;have x0_1:=LV1.x0;have o_1:=LV1.o;have a_1:=LV1.a;have n_1:=LV1.n;have zx_1:=LV1.zx;have z0_1:=LV1.z0;have z1_1:=LV1.z1;have r0_1:=LV1.r0;have r1_1:=LV1.r1;have g0_1:=LV1.g0;have g1_1:=LV1.g1;clear LV1))
  all_goals (
    go_wp2_with (go_at_call 39;refine(refuse_any 7 _).mono ?_;rintro e w9 ⟨rfl,HQ⟩;have HB9:Hid (BW w l w9):=bstep (by have hp:=HB1.out;exact upB) (by simp) HQ;clear HQ;have HW9:Hid (Below w.heap.size w w9):=(w0_below w l).trans (HB9.out.mono (om));have LV9:=LIVE.out w9 HB9.out;have r0_9:=LV9.r0;have r1_9:=LV9.r1;have g0_9:=LV9.g0;have g1_9:=LV9.g1;have z1_9:=LV9.z1;clear LV9)
    have hR:=(LIVE.out w9 HB9.out).rb
    obtain⟨kk0,kk1⟩:=two_set hR (.int .i64 7) (.slice none 0 0)
    have hfin:=res_ref (l:=l) 7 H.out HB9.out
    exact bodyPost_ret (v:=.agg #[.int .i64 7,.slice none 0 0]) (by simp[results,Tryz.results70,go_sem,kk0,kk1]) rfl hfin)
set_option maxRecDepth 100000 in
set_option maxHeartbeats 2000000 in
theorem drop_owner (w:World) (x:Nat) (S:Nat->Prop) (s:Bk) (l:Ln) (hI:Inv s) (hL:LnOk l) (h:BkAt w x S s) (k:Nat) (ok:ByteArray) (hk:k<s.pools.length) (h1:findH s.pools l.a l.n=k) (his:isH l.a l.n (s.pools.getD k hd0)=true) (hok:(s.pools.getD k hd0).o=ok) (h2:ok≠l.o) :
    Calls Tryz.prog 70 #[.pointer (some ⟨x,0,none⟩),.agg (lnC l)] w (Res w x S (s,ref 8)):=by
  obtain⟨vp,vn,vl,c,B⟩:=h;have hx:=B.blk.lt;have H:Hid (BkAt w x S s):=⟨vp,vn,vl,c,B⟩
  obtain⟨x0,x1,x2⟩:=B.c3;have LIVE:Hid (∀ wk,BW w l wk->Live w wk x vp vn vl l):=live_of l B
  have HBA:Hid (BA w x S vp vn vl c s):=B
  have hxa:¬(x=w.heap.size):=by omega
  have hxb:¬(w.heap.size=x):=by omega
  have HF:Hid (∀ Wc,Below w.heap.size w Wc->Calls Tryz.prog 106 #[vp,.agg #[.int .u32 l.a,.int .i64 l.n]] Wc fun e w'=>e=.returned (.int .i64 (findH s.pools l.a l.n))/\Below Wc.heap.size Wc w'):=fun Wc hW=>findP s.pools l.a l.n vp Wc (fun q hq=>(hI.pa q hq).1) hL.a ((Rd.of_owns (k:=3) (enc:=encH) (fun _=>rfl) hd0 B.op).below hW)
  rw[h1] at HF;have HOW:Hid (∀ Wc,Below w.heap.size w Wc->Calls Tryz.prog 107 #[.agg #[.int .u32 l.a,.int .i64 l.n,.string ok],.string l.o] Wc fun e w'=>e=.returned (.bool (ok.toList==l.o.toList))/\Below Wc.heap.size Wc w'):=fun Wc hW=>howned_any ⟨l.a,l.n,ok⟩ l.o Wc
  rw[beqB,decide_eq_false h2] at HOW;have hkk:∀ q:Hd,(encH q).length=3:=fun _=>rfl
  have hrd:=Rd.of_owns hkk hd0 B.op;obtain⟨bq,cq,ev,hq1,hq2,hq3⟩:=hrd;obtain⟨gq,rfl,hq4,hq5⟩:=hq3 (by intro e;rw[e] at hk;simp at hk)
  have hk5:=hq5 k hk;have hk6:(s.pools.getD k hd0).a=l.a/\(s.pools.getD k hd0).n=l.n:=by simpa[isH] using his
  have ROW:Hid (∀ wk,Below w.heap.size w wk->wk.cell? ⟨gq,k*3,none⟩=some (.int .u32 l.a)/\wk.cell? ⟨gq,k*3+1,none⟩=some (.int .i64 l.n)/\wk.cell? ⟨gq,k*3+2,none⟩=some (.string ok)):=fun wk hw =>
    ⟨(hw.cell (p:=⟨gq,k*3,none⟩) hq4).trans (by rw[<- hk6.1];exact hk5 0 _ rfl),(hw.cell (p:=⟨gq,k*3+1,none⟩) hq4).trans (by rw[<- hk6.2];exact hk5 1 _ rfl),(hw.cell (p:=⟨gq,k*3+2,none⟩) hq4).trans (by rw[<- hok];exact hk5 2 _ rfl)⟩
  have hlen:s.pools.length<=1000:=by have:=hI.p;omega
  have hkz:(k:Int)<(s.pools.length:Int):=by omega
  have hkn:¬((k:Int)<0):=by omega
  have hk0:(0:Int)<=(k:Int):=by omega
  clear hq1 hq2 hq5 hk5 hk6 his hok;subst ev;clear B;unfold lnC;go_enter Tryz.func70,Tryz.ntmps70
  go_wp2;go_region_held3 (fun w'=>w'.cell? ⟨x,0,none⟩=some (.slice (some ⟨gq,0,none⟩) s.pools.length cq)/\w'.cell? ⟨w.heap.size,3,none⟩=some (.int .u32 l.a)/\w'.cell? ⟨w.heap.size,4,none⟩=some (.int .i64 l.n)) (go_keep) (first|(go_at_call 106;refine(HF.out _ (upB)).mono ?_;rintro e w1 ⟨rfl,HQ⟩;have HB1:Hid (BW w l w1):=bstep (upB) (by simp) HQ;clear HQ;have HW1:Hid (Below w.heap.size w w1):=(w0_below w l).trans (HB1.out.mono (om));have LV1:=LIVE.out w1 HB1.out;have x0_1:=LV1.x0;have o_1:=LV1.o;have a_1:=LV1.a;have n_1:=LV1.n;have zx_1:=LV1.zx;have z0_1:=LV1.z0;have z1_1:=LV1.z1;have r0_1:=LV1.r0;have r1_1:=LV1.r1;have g0_1:=LV1.g0;have g1_1:=LV1.g1;obtain⟨e0_1,e1_1,e2_1⟩:=ROW.out w1 HW1.out;clear LV1))
  all_goals (
    go_wp2;go_region_held3 (fun w'=>w'.cell? ⟨x,0,none⟩=some (.slice (some ⟨gq,0,none⟩) s.pools.length cq)/\w'.cell? ⟨w.heap.size,2,none⟩=some (.string l.o)/\w'.cell? ⟨gq,k*3,none⟩=some (.int .u32 l.a)/\w'.cell? ⟨gq,k*3+1,none⟩=some (.int .i64 l.n)/\w'.cell? ⟨gq,k*3+2,none⟩=some (.string ok)) (go_keep) (first|(go_at_call 107;refine(HOW.out _ (by have hp:=HW1.out;exact upB)).mono ?_;rintro e w2 ⟨rfl,HQ⟩;have HB2:Hid (BW w l w2):=bstep (by have hp:=HB1.out;exact upB) (by simp) HQ;clear HQ;have HW2:Hid (Below w.heap.size w w2):=(w0_below w l).trans (HB2.out.mono (om));have LV2:=LIVE.out w2 HB2.out;have x0_2:=LV2.x0;have zx_2:=LV2.zx;have z0_2:=LV2.z0;have z1_2:=LV2.z1;have o_2:=LV2.o;have r0_2:=LV2.r0;have r1_2:=LV2.r1;have g0_2:=LV2.g0;have g1_2:=LV2.g1;obtain⟨e0_2,e1_2,e2_2⟩:=ROW.out w2 HW2.out;clear LV2))
    all_goals (
      go_wp2_with (go_at_call 39;refine(refuse_any 8 _).mono ?_;rintro e w9 ⟨rfl,HQ⟩;have HB9:Hid (BW w l w9):=bstep (by have hp:=HB2.out;exact upB) (by simp) HQ;clear HQ;have HW9:Hid (Below w.heap.size w w9):=(w0_below w l).trans (HB9.out.mono (om));have LV9:=LIVE.out w9 HB9.out;have r0_9:=LV9.r0;have r1_9:=LV9.r1;have g0_9:=LV9.g0;have g1_9:=LV9.g1;have z1_9:=LV9.z1;clear LV9)
      have hR:=(LIVE.out w9 HB9.out).rb
      obtain⟨kk0,kk1⟩:=two_set hR (.int .i64 8) (.slice none 0 0)
      have hfin:=res_ref (l:=l) 8 H.out HB9.out
      exact bodyPost_ret (v:=.agg #[.int .i64 8,.slice none 0 0]) (by simp[results,Tryz.results70,go_sem,kk0,kk1]) rfl hfin))
set_option maxRecDepth 100000 in
set_option maxHeartbeats 2000000 in
theorem drop_busy (w:World) (x:Nat) (S:Nat->Prop) (s:Bk) (l:Ln) (hI:Inv s) (hL:LnOk l) (h:BkAt w x S s) (k:Nat) (ok:ByteArray) (hk:k<s.pools.length) (h1:findH s.pools l.a l.n=k) (his:isH l.a l.n (s.pools.getD k hd0)=true) (hok:(s.pools.getD k hd0).o=ok) (h2:ok=l.o) (h3:¬(netsOf s.nets l.a l.n)=[]) :
    Calls Tryz.prog 70 #[.pointer (some ⟨x,0,none⟩),.agg (lnC l)] w (Res w x S (s,ref 9)):=by
  obtain⟨vp,vn,vl,c,B⟩:=h;have hx:=B.blk.lt;have H:Hid (BkAt w x S s):=⟨vp,vn,vl,c,B⟩
  obtain⟨x0,x1,x2⟩:=B.c3;have LIVE:Hid (∀ wk,BW w l wk->Live w wk x vp vn vl l):=live_of l B
  have HBA:Hid (BA w x S vp vn vl c s):=B
  have hxa:¬(x=w.heap.size):=by omega
  have hxb:¬(w.heap.size=x):=by omega
  have HF:Hid (∀ Wc,Below w.heap.size w Wc->Calls Tryz.prog 106 #[vp,.agg #[.int .u32 l.a,.int .i64 l.n]] Wc fun e w'=>e=.returned (.int .i64 (findH s.pools l.a l.n))/\Below Wc.heap.size Wc w'):=fun Wc hW=>findP s.pools l.a l.n vp Wc (fun q hq=>(hI.pa q hq).1) hL.a ((Rd.of_owns (k:=3) (enc:=encH) (fun _=>rfl) hd0 B.op).below hW)
  rw[h1] at HF;have HOW:Hid (∀ Wc,Below w.heap.size w Wc->Calls Tryz.prog 107 #[.agg #[.int .u32 l.a,.int .i64 l.n,.string ok],.string l.o] Wc fun e w'=>e=.returned (.bool (ok.toList==l.o.toList))/\Below Wc.heap.size Wc w'):=fun Wc hW=>howned_any ⟨l.a,l.n,ok⟩ l.o Wc
  rw[beqB,decide_eq_true h2] at HOW;clear h2;have HSUB:Hid (∀ Wc,Below w.heap.size w Wc->Calls Tryz.prog 108 #[.pointer (some ⟨x,0,none⟩),.agg #[.int .u32 l.a,.int .i64 l.n,.string ok]] Wc fun e w'=>(∃ b c,e=.returned (.slice b (netsOf s.nets l.a l.n).length c))/\Below Wc.heap.size Wc w'):=fun Wc hW=>by
    refine(netsOf_any x s.nets ⟨l.a,l.n,ok⟩ vn Wc (Nat.lt_of_lt_of_le hx hW.size) ((hW.cell (p:=⟨x,1,none⟩) hx).trans x1) ((Rd.of_owns (k:=3) (enc:=encH) (fun _=>rfl) hd0 B.on).below hW) (by have:=hI.n;omega) (fun q hq=>(hI.na q hq).1) hL.a).mono ?_
    rintro e w' ⟨vv,rfl,o1,o2⟩
    obtain⟨b,c,rfl,_,_⟩:=owns_slice o1;exact⟨⟨b,c,rfl⟩,o2⟩
  have hkk:∀ q:Hd,(encH q).length=3:=fun _=>rfl
  have hrd:=Rd.of_owns hkk hd0 B.op;obtain⟨bq,cq,ev,hq1,hq2,hq3⟩:=hrd;obtain⟨gq,rfl,hq4,hq5⟩:=hq3 (by intro e;rw[e] at hk;simp at hk)
  have hk5:=hq5 k hk;have hk6:(s.pools.getD k hd0).a=l.a/\(s.pools.getD k hd0).n=l.n:=by simpa[isH] using his
  have ROW:Hid (∀ wk,Below w.heap.size w wk->wk.cell? ⟨gq,k*3,none⟩=some (.int .u32 l.a)/\wk.cell? ⟨gq,k*3+1,none⟩=some (.int .i64 l.n)/\wk.cell? ⟨gq,k*3+2,none⟩=some (.string ok)):=fun wk hw =>
    ⟨(hw.cell (p:=⟨gq,k*3,none⟩) hq4).trans (by rw[<- hk6.1];exact hk5 0 _ rfl),(hw.cell (p:=⟨gq,k*3+1,none⟩) hq4).trans (by rw[<- hk6.2];exact hk5 1 _ rfl),(hw.cell (p:=⟨gq,k*3+2,none⟩) hq4).trans (by rw[<- hok];exact hk5 2 _ rfl)⟩
  have hlen:s.pools.length<=1000:=by have:=hI.p;omega
  have hkz:(k:Int)<(s.pools.length:Int):=by omega
  have hkn:¬((k:Int)<0):=by omega
  have hk0:(0:Int)<=(k:Int):=by omega
  clear hq1 hq2 hq5 hk5 hk6 his hok;subst ev;have h4:(0:Int)<(((netsOf s.nets l.a l.n).length:Nat):Int):=by have:=List.length_pos_iff.2 h3;omega
  clear B;unfold lnC;go_enter Tryz.func70,Tryz.ntmps70
  go_wp2;go_region_held3 (fun w'=>w'.cell? ⟨x,0,none⟩=some (.slice (some ⟨gq,0,none⟩) s.pools.length cq)/\w'.cell? ⟨w.heap.size,3,none⟩=some (.int .u32 l.a)/\w'.cell? ⟨w.heap.size,4,none⟩=some (.int .i64 l.n)) (go_keep) (first|(go_at_call 106;refine(HF.out _ (upB)).mono ?_;rintro e w1 ⟨rfl,HQ⟩;have HB1:Hid (BW w l w1):=bstep (upB) (by simp) HQ;clear HQ;have HW1:Hid (Below w.heap.size w w1):=(w0_below w l).trans (HB1.out.mono (om));have LV1:=LIVE.out w1 HB1.out;have x0_1:=LV1.x0;have o_1:=LV1.o;have a_1:=LV1.a;have n_1:=LV1.n;have zx_1:=LV1.zx;have z0_1:=LV1.z0;have z1_1:=LV1.z1;have r0_1:=LV1.r0;have r1_1:=LV1.r1;have g0_1:=LV1.g0;have g1_1:=LV1.g1;obtain⟨e0_1,e1_1,e2_1⟩:=ROW.out w1 HW1.out;clear LV1))
  all_goals (
    go_wp2;go_region_held3 (fun w'=>w'.cell? ⟨x,0,none⟩=some (.slice (some ⟨gq,0,none⟩) s.pools.length cq)/\w'.cell? ⟨w.heap.size,2,none⟩=some (.string l.o)/\w'.cell? ⟨gq,k*3,none⟩=some (.int .u32 l.a)/\w'.cell? ⟨gq,k*3+1,none⟩=some (.int .i64 l.n)/\w'.cell? ⟨gq,k*3+2,none⟩=some (.string ok)) (go_keep) (first|(go_at_call 107;refine(HOW.out _ (by have hp:=HW1.out;exact upB)).mono ?_;rintro e w2 ⟨rfl,HQ⟩;have HB2:Hid (BW w l w2):=bstep (by have hp:=HB1.out;exact upB) (by simp) HQ;clear HQ;have HW2:Hid (Below w.heap.size w w2):=(w0_below w l).trans (HB2.out.mono (om));have LV2:=LIVE.out w2 HB2.out;have x0_2:=LV2.x0;have zx_2:=LV2.zx;have z0_2:=LV2.z0;have z1_2:=LV2.z1;have o_2:=LV2.o;have r0_2:=LV2.r0;have r1_2:=LV2.r1;have g0_2:=LV2.g0;have g1_2:=LV2.g1;obtain⟨e0_2,e1_2,e2_2⟩:=ROW.out w2 HW2.out;clear LV2))
    all_goals (
      go_wp2_with (first|(go_at_call 108;refine(HSUB.out _ (by have hp:=HW2.out;exact upB)).mono ?_;rintro e w3 ⟨⟨bs,cs,rfl⟩,HQ⟩;have HB3:Hid (BW w l w3):=bstep (by have hp:=HB2.out;exact upB) (by simp) HQ;clear HQ;have HW3:Hid (Below w.heap.size w w3):=(w0_below w l).trans (HB3.out.mono (om));have LV3:=LIVE.out w3 HB3.out;have x0_3:=LV3.x0;have zx_3:=LV3.zx;have z0_3:=LV3.z0;have z1_3:=LV3.z1;have r0_3:=LV3.r0;have r1_3:=LV3.r1;have g0_3:=LV3.g0;have g1_3:=LV3.g1;obtain⟨e0_3,e1_3,e2_3⟩:=ROW.out w3 HW3.out;clear LV3)|(go_at_call 39;refine(refuse_any 9 _).mono ?_;rintro e w9 ⟨rfl,HQ⟩;have HB9:Hid (BW w l w9):=bstep (by have hp:=HB3.out;exact upB) (by simp) HQ;clear HQ;have HW9:Hid (Below w.heap.size w w9):=(w0_below w l).trans (HB9.out.mono (om));have LV9:=LIVE.out w9 HB9.out;have r0_9:=LV9.r0;have r1_9:=LV9.r1;have g0_9:=LV9.g0;have g1_9:=LV9.g1;have z1_9:=LV9.z1;clear LV9))
      have hR:=(LIVE.out w9 HB9.out).rb
      obtain⟨kk0,kk1⟩:=two_set hR (.int .i64 9) (.slice none 0 0)
      have hfin:=res_ref (l:=l) 9 H.out HB9.out
      exact bodyPost_ret (v:=.agg #[.int .i64 9,.slice none 0 0]) (by simp[results,Tryz.results70,go_sem,kk0,kk1]) rfl hfin))
set_option maxRecDepth 100000 in
set_option maxHeartbeats 2000000 in
theorem drop_ok (w:World) (x:Nat) (S:Nat->Prop) (s:Bk) (l:Ln) (hI:Inv s) (hL:LnOk l) (h:BkAt w x S s) (k:Nat) (ok:ByteArray) (hk:k<s.pools.length) (h1:findH s.pools l.a l.n=k) (his:isH l.a l.n (s.pools.getD k hd0)=true) (hok:(s.pools.getD k hd0).o=ok) (h2:ok=l.o) (h3:(netsOf s.nets l.a l.n)=[]) :
    Calls Tryz.prog 70 #[.pointer (some ⟨x,0,none⟩),.agg (lnC l)] w (Res w x S ({ s with pools:=delAt s.pools k },okA)):=by
  obtain⟨vp,vn,vl,c,B⟩:=h;have hx:=B.blk.lt;have H:Hid (BkAt w x S s):=⟨vp,vn,vl,c,B⟩
  obtain⟨x0,x1,x2⟩:=B.c3;have LIVE:Hid (∀ wk,BW w l wk->Live w wk x vp vn vl l):=live_of l B
  have HBA:Hid (BA w x S vp vn vl c s):=B
  have hxa:¬(x=w.heap.size):=by omega
  have hxb:¬(w.heap.size=x):=by omega
  have HF:Hid (∀ Wc,Below w.heap.size w Wc->Calls Tryz.prog 106 #[vp,.agg #[.int .u32 l.a,.int .i64 l.n]] Wc fun e w'=>e=.returned (.int .i64 (findH s.pools l.a l.n))/\Below Wc.heap.size Wc w'):=fun Wc hW=>findP s.pools l.a l.n vp Wc (fun q hq=>(hI.pa q hq).1) hL.a ((Rd.of_owns (k:=3) (enc:=encH) (fun _=>rfl) hd0 B.op).below hW)
  rw[h1] at HF;have HOW:Hid (∀ Wc,Below w.heap.size w Wc->Calls Tryz.prog 107 #[.agg #[.int .u32 l.a,.int .i64 l.n,.string ok],.string l.o] Wc fun e w'=>e=.returned (.bool (ok.toList==l.o.toList))/\Below Wc.heap.size Wc w'):=fun Wc hW=>howned_any ⟨l.a,l.n,ok⟩ l.o Wc
  rw[beqB,decide_eq_true h2] at HOW;clear h2;have HSUB:Hid (∀ Wc,Below w.heap.size w Wc->Calls Tryz.prog 108 #[.pointer (some ⟨x,0,none⟩),.agg #[.int .u32 l.a,.int .i64 l.n,.string ok]] Wc fun e w'=>(∃ b c,e=.returned (.slice b (netsOf s.nets l.a l.n).length c))/\Below Wc.heap.size Wc w'):=fun Wc hW=>by
    refine(netsOf_any x s.nets ⟨l.a,l.n,ok⟩ vn Wc (Nat.lt_of_lt_of_le hx hW.size) ((hW.cell (p:=⟨x,1,none⟩) hx).trans x1) ((Rd.of_owns (k:=3) (enc:=encH) (fun _=>rfl) hd0 B.on).below hW) (by have:=hI.n;omega) (fun q hq=>(hI.na q hq).1) hL.a).mono ?_
    rintro e w' ⟨vv,rfl,o1,o2⟩
    obtain⟨b,c,rfl,_,_⟩:=owns_slice o1;exact⟨⟨b,c,rfl⟩,o2⟩
  rw[h3] at HSUB;have HIN:Hid (∀ Wc,Below w.heap.size w Wc->Calls Tryz.prog 109 #[vp,.int .i64 k,.int .i64 ((k:Int)+1)] Wc fun e w'=>∃ g cap,e=.returned (.slice (some ⟨g,0,none⟩) (s.pools.length-1) cap)/\w'.ownsRow 0 155 3 (.slice (some ⟨g,0,none⟩) (s.pools.length-1) cap) (s.pools.length-1) ((delAt s.pools k).flatMap encH)/\Wc.grownBy w' vp.ownBlock/\∀ b,(Value.slice (some ⟨g,0,none⟩) (s.pools.length-1) cap).ownBlock=some b->vp.ownBlock=some b\/Wc.heap.size<=b):=fun Wc hW=>delpools (owns_below B.op hW) k hk (by have:=hI.p;omega)
  have FIX:Hid (∀ (W:World) v,W.ownsRow 0 155 3 v (s.pools.length-1) ((delAt s.pools k).flatMap encH)->W.ownsRow 0 155 3 v (delAt s.pools k).length ((delAt s.pools k).flatMap encH)):=fun W v q=>by rw[delAt_len _ _ hk];exact q
  have NX:Hid (vp.ownBlock≠some x):=fun e=>((B.apart.1) x e).1 rfl
  have NR:Hid (∀ b,vp.ownBlock=some b->b<w.heap.size):=fun b e=>(owns_lt B.op b e).1
  generalize hob:vp.ownBlock=ob at HIN NX NR
  have HOB:Hid (vp.ownBlock=ob):=hob
  clear hob;have hkk:∀ q:Hd,(encH q).length=3:=fun _=>rfl
  have hrd:=Rd.of_owns hkk hd0 B.op;obtain⟨bq,cq,ev,hq1,hq2,hq3⟩:=hrd;obtain⟨gq,rfl,hq4,hq5⟩:=hq3 (by intro e;rw[e] at hk;simp at hk)
  have hk5:=hq5 k hk;have hk6:(s.pools.getD k hd0).a=l.a/\(s.pools.getD k hd0).n=l.n:=by simpa[isH] using his
  have ROW:Hid (∀ wk,Below w.heap.size w wk->wk.cell? ⟨gq,k*3,none⟩=some (.int .u32 l.a)/\wk.cell? ⟨gq,k*3+1,none⟩=some (.int .i64 l.n)/\wk.cell? ⟨gq,k*3+2,none⟩=some (.string ok)):=fun wk hw =>
    ⟨(hw.cell (p:=⟨gq,k*3,none⟩) hq4).trans (by rw[<- hk6.1];exact hk5 0 _ rfl),(hw.cell (p:=⟨gq,k*3+1,none⟩) hq4).trans (by rw[<- hk6.2];exact hk5 1 _ rfl),(hw.cell (p:=⟨gq,k*3+2,none⟩) hq4).trans (by rw[<- hok];exact hk5 2 _ rfl)⟩
  have hlen:s.pools.length<=1000:=by have:=hI.p;omega
  have hkz:(k:Int)<(s.pools.length:Int):=by omega
  have hkn:¬((k:Int)<0):=by omega
  have hk0:(0:Int)<=(k:Int):=by omega
  clear hq1 hq2 hq5 hk5 hk6 his hok;subst ev;have hw1:IntKind.i64.wrap ((k:Int)+1)=(k:Int)+1:=by rw[IntKind.wrap_i64];omega
  clear B;unfold lnC;go_enter Tryz.func70,Tryz.ntmps70
  go_wp2;go_region_held3 (fun w'=>w'.cell? ⟨x,0,none⟩=some (.slice (some ⟨gq,0,none⟩) s.pools.length cq)/\w'.cell? ⟨w.heap.size,3,none⟩=some (.int .u32 l.a)/\w'.cell? ⟨w.heap.size,4,none⟩=some (.int .i64 l.n)) (go_keep) (first|(go_at_call 106;refine(HF.out _ (upB)).mono ?_;rintro e w1 ⟨rfl,HQ⟩;have HB1:Hid (BW w l w1):=bstep (upB) (by simp) HQ;clear HQ;have HW1:Hid (Below w.heap.size w w1):=(w0_below w l).trans (HB1.out.mono (om));have LV1:=LIVE.out w1 HB1.out;have x0_1:=LV1.x0;have o_1:=LV1.o;have a_1:=LV1.a;have n_1:=LV1.n;have zx_1:=LV1.zx;have z0_1:=LV1.z0;have z1_1:=LV1.z1;have r0_1:=LV1.r0;have r1_1:=LV1.r1;have g0_1:=LV1.g0;have g1_1:=LV1.g1;obtain⟨e0_1,e1_1,e2_1⟩:=ROW.out w1 HW1.out;clear LV1))
  all_goals (
    go_wp2;go_region_held3 (fun w'=>w'.cell? ⟨x,0,none⟩=some (.slice (some ⟨gq,0,none⟩) s.pools.length cq)/\w'.cell? ⟨w.heap.size,2,none⟩=some (.string l.o)/\w'.cell? ⟨gq,k*3,none⟩=some (.int .u32 l.a)/\w'.cell? ⟨gq,k*3+1,none⟩=some (.int .i64 l.n)/\w'.cell? ⟨gq,k*3+2,none⟩=some (.string ok)) (go_keep) (first|(go_at_call 107;refine(HOW.out _ (by have hp:=HW1.out;exact upB)).mono ?_;rintro e w2 ⟨rfl,HQ⟩;have HB2:Hid (BW w l w2):=bstep (by have hp:=HB1.out;exact upB) (by simp) HQ;clear HQ;have HW2:Hid (Below w.heap.size w w2):=(w0_below w l).trans (HB2.out.mono (om));have LV2:=LIVE.out w2 HB2.out;have x0_2:=LV2.x0;have zx_2:=LV2.zx;have z0_2:=LV2.z0;have z1_2:=LV2.z1;have o_2:=LV2.o;have r0_2:=LV2.r0;have r1_2:=LV2.r1;have g0_2:=LV2.g0;have g1_2:=LV2.g1;obtain⟨e0_2,e1_2,e2_2⟩:=ROW.out w2 HW2.out;clear LV2))
    all_goals (
      go_wp2_with (first|(go_at_call 108;refine(HSUB.out _ (by have hp:=HW2.out;exact upB)).mono ?_;rintro e w3 ⟨⟨bs,cs,rfl⟩,HQ⟩;have HB3:Hid (BW w l w3):=bstep (by have hp:=HB2.out;exact upB) (by simp) HQ;clear HQ;have HW3:Hid (Below w.heap.size w w3):=(w0_below w l).trans (HB3.out.mono (om));have LV3:=LIVE.out w3 HB3.out;have x0_3:=LV3.x0;have zx_3:=LV3.zx;have z0_3:=LV3.z0;have z1_3:=LV3.z1;have r0_3:=LV3.r0;have r1_3:=LV3.r1;have g0_3:=LV3.g0;have g1_3:=LV3.g1;obtain⟨e0_3,e1_3,e2_3⟩:=ROW.out w3 HW3.out;clear LV3)|(go_at_call 109;refine(HIN.out _ (by have hp:=HW3.out;exact upB)).mono ?_;rintro e w4 ⟨g2,cap2,rfl,o1,o2,o3⟩;have LV4:=(LIVE.out _ (by have hp:=HB3.out;exact upB)).far o2 NX.out NR.out;have HG:Hid (∃ Wc,Below w.heap.size w Wc/\w.heap.size+2<=Wc.heap.size/\Wc.grownBy w4 ob/\∀ b,(Value.slice (some ⟨g2,0,none⟩) (s.pools.length-1) cap2).ownBlock=some b->ob=some b\/Wc.heap.size<=b):=⟨_,by have hp:=HW3.out;exact upB,by have hz:=HB3.out.size;simp at hz ⊢;omega,o2,o3⟩;have HO:Hid (w4.ownsRow 0 155 3 (.slice (some ⟨g2,0,none⟩) (s.pools.length-1) cap2) (s.pools.length-1) ((delAt s.pools k).flatMap encH)):=o1;have RB4:Hid (Blk w4 (w.heap.size+1) #[.int .i64 0,.slice none 0 0] 98):=LV4.rb;have x_4:=LV4.x0;have f_4:=LV4.f0;have a_4:=LV4.a;have n_4:=LV4.n;have o_4:=LV4.o;have zx_4:=LV4.zx;have z1_4:=LV4.z1;clear LV4 o1 o2 o3)|(go_at_call 105;refine(ok_any none 0 0 _).mono ?_;rintro e w5 ⟨rfl,HQ⟩;have HQ5:Hid (Below w4.heap.size (w4.setCell ⟨x,0,none⟩ (.slice (some ⟨g2,0,none⟩) (s.pools.length-1) cap2)) w5):=HQ.mono (by simp[World.setCell]);have RB5:Blk w5 (w.heap.size+1) #[.int .i64 0,.slice none 0 0] 98:=(HQ5.out.block _ z1_4).trans ((Below.heap_setCell _ _ _ _ (fun e=>by have e2:w.heap.size+1=x:=e;omega)).trans RB4.out);clear HQ;have HR5:Hid (Blk w5 (w.heap.size+1) #[.int .i64 0,.slice none 0 0] 98):=RB5;have r0_5:w5.cell? ⟨w.heap.size+1,0,none⟩=some (.int .i64 0):=RB5.cell 0;have r1_5:w5.cell? ⟨w.heap.size+1,1,none⟩=some (.slice none 0 0):=RB5.cell 1;have g0_5:w5.frozen? ⟨w.heap.size+1,0,none⟩=false:=RB5.frozen 0;have g1_5:w5.frozen? ⟨w.heap.size+1,1,none⟩=false:=RB5.frozen 1;clear RB5))
      obtain⟨kk0,kk1⟩:=two_set HR5.out (.int .i64 0) (.slice none 0 0)
      obtain⟨Wc,hc1,hc2,hc3,hc4⟩:=HG.out;rw[<- HOB.out] at hc3 hc4;have hfin:=res_put0 HBA.out hc1 hc2 hc3 (FIX.out _ _ HO.out) hc4 HQ5.out
      exact bodyPost_ret (v:=.agg #[.int .i64 0,.slice none 0 0]) (by simp[results,Tryz.results70,go_sem,kk0,kk1]) rfl hfin))
theorem dropPool_any (w:World) (x:Nat) (S:Nat->Prop) (s:Bk) (l:Ln) (hI:Inv s) (hL:LnOk l) (h:BkAt w x S s):Calls Tryz.prog 70 #[.pointer (some ⟨x,0,none⟩),.agg (lnC l)] w (Res w x S (doDrop s l)):=by
  unfold doDrop;rcases fi_cases (isH l.a l.n) s.pools hd0 with⟨e,_⟩|⟨k,hk,e,hp,_⟩
  . have e1:findH s.pools l.a l.n=-1:=e
    rw[if_pos (by rw[e1];decide)];exact drop_none w x S s l hI hL h e1
  . have e1:findH s.pools l.a l.n=k:=e
    have e2:(findH s.pools l.a l.n).toNat=k:=by rw[e1];omega
    rw[if_neg (by rw[e1];omega),e2]
    by_cases h2:(s.pools.getD k hd0).o=l.o
    . rw[if_neg (by rw[h2];exact fun q=>q rfl)]
      by_cases h3:netsOf s.nets l.a l.n=[]
      . rw[if_neg (by rw[h3];exact fun q=>q rfl)];exact drop_ok w x S s l hI hL h k _ hk e1 hp rfl h2 h3
      . rw[if_pos h3];exact drop_busy w x S s l hI hL h k _ hk e1 hp rfl h2 h3
    . rw[if_pos h2];exact drop_owner w x S s l hI hL h k _ hk e1 hp rfl h2
theorem delnets {w:World} {v:Value} {l:List Hd} (hown:w.ownsRow 0 195 3 v l.length (l.flatMap encH)) (k:Nat) (hk:k<l.length) (hn:l.length<=1000) :
    Calls Tryz.prog 118 #[v,.int .i64 k,.int .i64 ((k:Int)+1)] w fun e w'=>∃ g cap,e=.returned (.slice (some ⟨g,0,none⟩) (l.length-1) cap)/\w'.ownsRow 0 195 3 (.slice (some ⟨g,0,none⟩) (l.length-1) cap) (l.length-1) ((delAt l k).flatMap encH)/\w.grownBy w' v.ownBlock/\∀ b,(Value.slice (some ⟨g,0,none⟩) (l.length-1) cap).ownBlock=some b->v.ownBlock=some b\/w.heap.size<=b:=by
  have hkk:∀ x:Hd,(encH x).length=3:=fun _=>rfl
  rcases hown.2 with⟨rfl,e⟩|⟨g,cap,cur,rfl,_,hg,h1,h2,h3,h4⟩
  . omega
  . obtain⟨m,hm⟩:∃ m,l.length=m+1:=⟨l.length-1,by omega⟩
    rw[hm] at h1 h4 hk ⊢;refine(delS (l.flatMap encH) m k g cap cur w (om) (om) hg h3 h4 h1 h2 (oneH l)).mono ?_
    rintro e w' ⟨rfl,o1,o2⟩
    rw[flat_del hkk] at o1;exact⟨g,cap,rfl,o1,o2,fun b e=>.inl e⟩
set_option maxRecDepth 100000 in
set_option maxHeartbeats 2000000 in
theorem freeS_none (w:World) (x:Nat) (S:Nat->Prop) (s:Bk) (l:Ln) (hI:Inv s) (hL:LnOk l) (h:BkAt w x S s) (h1:findH s.nets l.a l.n=-1) :
    Calls Tryz.prog 73 #[.pointer (some ⟨x,0,none⟩),.agg (lnC l)] w (Res w x S (s,ref 11)):=by
  obtain⟨vp,vn,vl,c,B⟩:=h;have hx:=B.blk.lt;have H:Hid (BkAt w x S s):=⟨vp,vn,vl,c,B⟩
  obtain⟨x0,x1,x2⟩:=B.c3;have LIVE:Hid (∀ wk,BW w l wk->Live w wk x vp vn vl l):=live_of l B
  have HBA:Hid (BA w x S vp vn vl c s):=B
  have hxa:¬(x=w.heap.size):=by omega
  have hxb:¬(w.heap.size=x):=by omega
  have HF:Hid (∀ Wc,Below w.heap.size w Wc->Calls Tryz.prog 116 #[vn,.agg #[.int .u32 l.a,.int .i64 l.n]] Wc fun e w'=>e=.returned (.int .i64 (findH s.nets l.a l.n))/\Below Wc.heap.size Wc w'):=fun Wc hW=>findS s.nets l.a l.n vn Wc (fun q hq=>(hI.na q hq).1) hL.a ((Rd.of_owns (k:=3) (enc:=encH) (fun _=>rfl) hd0 B.on).below hW)
  rw[h1] at HF;obtain⟨bq,cq,eq,_,_⟩:=owns_slice B.on;subst eq;clear B;unfold lnC;go_enter Tryz.func73,Tryz.ntmps73
  go_wp2;go_region_held3 (fun w'=>w'.cell? ⟨x,1,none⟩=some (.slice bq s.nets.length cq)/\w'.cell? ⟨w.heap.size,3,none⟩=some (.int .u32 l.a)/\w'.cell? ⟨w.heap.size,4,none⟩=some (.int .i64 l.n)) (go_keep) (first|(go_at_call 116;refine(HF.out _ (upB)).mono ?_;rintro e w1 ⟨rfl,HQ⟩;have HB1:Hid (BW w l w1):=bstep (upB) (by simp) HQ;clear HQ;have HW1:Hid (Below w.heap.size w w1):=(w0_below w l).trans (HB1.out.mono (om));have LV1:=LIVE.out w1 HB1.out;have x1_1:=LV1.x1;have o_1:=LV1.o;have a_1:=LV1.a;have n_1:=LV1.n;have zx_1:=LV1.zx;have z0_1:=LV1.z0;have z1_1:=LV1.z1;have r0_1:=LV1.r0;have r1_1:=LV1.r1;have g0_1:=LV1.g0;have g1_1:=LV1.g1;clear LV1))
  all_goals (
    go_wp2_with (go_at_call 39;refine(refuse_any 11 _).mono ?_;rintro e w9 ⟨rfl,HQ⟩;have HB9:Hid (BW w l w9):=bstep (by have hp:=HB1.out;exact upB) (by simp) HQ;clear HQ;have HW9:Hid (Below w.heap.size w w9):=(w0_below w l).trans (HB9.out.mono (om));have LV9:=LIVE.out w9 HB9.out;have r0_9:=LV9.r0;have r1_9:=LV9.r1;have g0_9:=LV9.g0;have g1_9:=LV9.g1;have z1_9:=LV9.z1;clear LV9)
    have hR:=(LIVE.out w9 HB9.out).rb
    obtain⟨kk0,kk1⟩:=two_set hR (.int .i64 11) (.slice none 0 0)
    have hfin:=res_ref (l:=l) 11 H.out HB9.out
    exact bodyPost_ret (v:=.agg #[.int .i64 11,.slice none 0 0]) (by simp[results,Tryz.results73,go_sem,kk0,kk1]) rfl hfin)
set_option maxRecDepth 100000 in
set_option maxHeartbeats 2000000 in
theorem freeS_owner (w:World) (x:Nat) (S:Nat->Prop) (s:Bk) (l:Ln) (hI:Inv s) (hL:LnOk l) (h:BkAt w x S s) (k:Nat) (ok:ByteArray) (hk:k<s.nets.length) (h1:findH s.nets l.a l.n=k) (his:isH l.a l.n (s.nets.getD k hd0)=true) (hok:(s.nets.getD k hd0).o=ok) (h2:ok≠l.o) :
    Calls Tryz.prog 73 #[.pointer (some ⟨x,0,none⟩),.agg (lnC l)] w (Res w x S (s,ref 8)):=by
  obtain⟨vp,vn,vl,c,B⟩:=h;have hx:=B.blk.lt;have H:Hid (BkAt w x S s):=⟨vp,vn,vl,c,B⟩
  obtain⟨x0,x1,x2⟩:=B.c3;have LIVE:Hid (∀ wk,BW w l wk->Live w wk x vp vn vl l):=live_of l B
  have HBA:Hid (BA w x S vp vn vl c s):=B
  have hxa:¬(x=w.heap.size):=by omega
  have hxb:¬(w.heap.size=x):=by omega
  have HF:Hid (∀ Wc,Below w.heap.size w Wc->Calls Tryz.prog 116 #[vn,.agg #[.int .u32 l.a,.int .i64 l.n]] Wc fun e w'=>e=.returned (.int .i64 (findH s.nets l.a l.n))/\Below Wc.heap.size Wc w'):=fun Wc hW=>findS s.nets l.a l.n vn Wc (fun q hq=>(hI.na q hq).1) hL.a ((Rd.of_owns (k:=3) (enc:=encH) (fun _=>rfl) hd0 B.on).below hW)
  rw[h1] at HF;have HOW:Hid (∀ Wc,Below w.heap.size w Wc->Calls Tryz.prog 107 #[.agg #[.int .u32 l.a,.int .i64 l.n,.string ok],.string l.o] Wc fun e w'=>e=.returned (.bool (ok.toList==l.o.toList))/\Below Wc.heap.size Wc w'):=fun Wc hW=>howned_any ⟨l.a,l.n,ok⟩ l.o Wc
  rw[beqB,decide_eq_false h2] at HOW;have hkk:∀ q:Hd,(encH q).length=3:=fun _=>rfl
  have hrd:=Rd.of_owns hkk hd0 B.on;obtain⟨bq,cq,ev,hq1,hq2,hq3⟩:=hrd;obtain⟨gq,rfl,hq4,hq5⟩:=hq3 (by intro e;rw[e] at hk;simp at hk)
  have hk5:=hq5 k hk;have hk6:(s.nets.getD k hd0).a=l.a/\(s.nets.getD k hd0).n=l.n:=by simpa[isH] using his
  have ROW:Hid (∀ wk,Below w.heap.size w wk->wk.cell? ⟨gq,k*3,none⟩=some (.int .u32 l.a)/\wk.cell? ⟨gq,k*3+1,none⟩=some (.int .i64 l.n)/\wk.cell? ⟨gq,k*3+2,none⟩=some (.string ok)):=fun wk hw =>
    ⟨(hw.cell (p:=⟨gq,k*3,none⟩) hq4).trans (by rw[<- hk6.1];exact hk5 0 _ rfl),(hw.cell (p:=⟨gq,k*3+1,none⟩) hq4).trans (by rw[<- hk6.2];exact hk5 1 _ rfl),(hw.cell (p:=⟨gq,k*3+2,none⟩) hq4).trans (by rw[<- hok];exact hk5 2 _ rfl)⟩
  have hlen:s.nets.length<=1000:=by have:=hI.n;omega
  have hkz:(k:Int)<(s.nets.length:Int):=by omega
  have hkn:¬((k:Int)<0):=by omega
  have hk0:(0:Int)<=(k:Int):=by omega
  clear hq1 hq2 hq5 hk5 hk6 his hok;subst ev;clear B;unfold lnC;go_enter Tryz.func73,Tryz.ntmps73
  go_wp2;go_region_held3 (fun w'=>w'.cell? ⟨x,1,none⟩=some (.slice (some ⟨gq,0,none⟩) s.nets.length cq)/\w'.cell? ⟨w.heap.size,3,none⟩=some (.int .u32 l.a)/\w'.cell? ⟨w.heap.size,4,none⟩=some (.int .i64 l.n)) (go_keep) (first|(go_at_call 116;refine(HF.out _ (upB)).mono ?_;rintro e w1 ⟨rfl,HQ⟩;have HB1:Hid (BW w l w1):=bstep (upB) (by simp) HQ;clear HQ;have HW1:Hid (Below w.heap.size w w1):=(w0_below w l).trans (HB1.out.mono (om));have LV1:=LIVE.out w1 HB1.out;have x1_1:=LV1.x1;have o_1:=LV1.o;have a_1:=LV1.a;have n_1:=LV1.n;have zx_1:=LV1.zx;have z0_1:=LV1.z0;have z1_1:=LV1.z1;have r0_1:=LV1.r0;have r1_1:=LV1.r1;have g0_1:=LV1.g0;have g1_1:=LV1.g1;obtain⟨e0_1,e1_1,e2_1⟩:=ROW.out w1 HW1.out;clear LV1))
  all_goals (
    go_wp2;go_region_held3 (fun w'=>w'.cell? ⟨x,1,none⟩=some (.slice (some ⟨gq,0,none⟩) s.nets.length cq)/\w'.cell? ⟨w.heap.size,2,none⟩=some (.string l.o)/\w'.cell? ⟨gq,k*3,none⟩=some (.int .u32 l.a)/\w'.cell? ⟨gq,k*3+1,none⟩=some (.int .i64 l.n)/\w'.cell? ⟨gq,k*3+2,none⟩=some (.string ok)) (go_keep) (first|(go_at_call 107;refine(HOW.out _ (by have hp:=HW1.out;exact upB)).mono ?_;rintro e w2 ⟨rfl,HQ⟩;have HB2:Hid (BW w l w2):=bstep (by have hp:=HB1.out;exact upB) (by simp) HQ;clear HQ;have HW2:Hid (Below w.heap.size w w2):=(w0_below w l).trans (HB2.out.mono (om));have LV2:=LIVE.out w2 HB2.out;have x1_2:=LV2.x1;have zx_2:=LV2.zx;have z0_2:=LV2.z0;have z1_2:=LV2.z1;have o_2:=LV2.o;have r0_2:=LV2.r0;have r1_2:=LV2.r1;have g0_2:=LV2.g0;have g1_2:=LV2.g1;obtain⟨e0_2,e1_2,e2_2⟩:=ROW.out w2 HW2.out;clear LV2))
    all_goals (
      go_wp2_with (go_at_call 39;refine(refuse_any 8 _).mono ?_;rintro e w9 ⟨rfl,HQ⟩;have HB9:Hid (BW w l w9):=bstep (by have hp:=HB2.out;exact upB) (by simp) HQ;clear HQ;have HW9:Hid (Below w.heap.size w w9):=(w0_below w l).trans (HB9.out.mono (om));have LV9:=LIVE.out w9 HB9.out;have r0_9:=LV9.r0;have r1_9:=LV9.r1;have g0_9:=LV9.g0;have g1_9:=LV9.g1;have z1_9:=LV9.z1;clear LV9)
      have hR:=(LIVE.out w9 HB9.out).rb
      obtain⟨kk0,kk1⟩:=two_set hR (.int .i64 8) (.slice none 0 0)
      have hfin:=res_ref (l:=l) 8 H.out HB9.out
      exact bodyPost_ret (v:=.agg #[.int .i64 8,.slice none 0 0]) (by simp[results,Tryz.results73,go_sem,kk0,kk1]) rfl hfin))
set_option maxRecDepth 100000 in
set_option maxHeartbeats 2000000 in
theorem freeS_busy (w:World) (x:Nat) (S:Nat->Prop) (s:Bk) (l:Ln) (hI:Inv s) (hL:LnOk l) (h:BkAt w x S s) (k:Nat) (ok:ByteArray) (hk:k<s.nets.length) (h1:findH s.nets l.a l.n=k) (his:isH l.a l.n (s.nets.getD k hd0)=true) (hok:(s.nets.getD k hd0).o=ok) (h2:ok=l.o) (h3:¬(leasesOf s.leases l.a l.n)=[]) :
    Calls Tryz.prog 73 #[.pointer (some ⟨x,0,none⟩),.agg (lnC l)] w (Res w x S (s,ref 9)):=by
  obtain⟨vp,vn,vl,c,B⟩:=h;have hx:=B.blk.lt;have H:Hid (BkAt w x S s):=⟨vp,vn,vl,c,B⟩
  obtain⟨x0,x1,x2⟩:=B.c3;have LIVE:Hid (∀ wk,BW w l wk->Live w wk x vp vn vl l):=live_of l B
  have HBA:Hid (BA w x S vp vn vl c s):=B
  have hxa:¬(x=w.heap.size):=by omega
  have hxb:¬(w.heap.size=x):=by omega
  have HF:Hid (∀ Wc,Below w.heap.size w Wc->Calls Tryz.prog 116 #[vn,.agg #[.int .u32 l.a,.int .i64 l.n]] Wc fun e w'=>e=.returned (.int .i64 (findH s.nets l.a l.n))/\Below Wc.heap.size Wc w'):=fun Wc hW=>findS s.nets l.a l.n vn Wc (fun q hq=>(hI.na q hq).1) hL.a ((Rd.of_owns (k:=3) (enc:=encH) (fun _=>rfl) hd0 B.on).below hW)
  rw[h1] at HF;have HOW:Hid (∀ Wc,Below w.heap.size w Wc->Calls Tryz.prog 107 #[.agg #[.int .u32 l.a,.int .i64 l.n,.string ok],.string l.o] Wc fun e w'=>e=.returned (.bool (ok.toList==l.o.toList))/\Below Wc.heap.size Wc w'):=fun Wc hW=>howned_any ⟨l.a,l.n,ok⟩ l.o Wc
  rw[beqB,decide_eq_true h2] at HOW;clear h2;have HSUB:Hid (∀ Wc,Below w.heap.size w Wc->Calls Tryz.prog 117 #[.pointer (some ⟨x,0,none⟩),.agg #[.int .u32 l.a,.int .i64 l.n,.string ok]] Wc fun e w'=>(∃ b c,e=.returned (.slice b (leasesOf s.leases l.a l.n).length c))/\Below Wc.heap.size Wc w'):=fun Wc hW=>by
    refine(leasesOf_any x s.leases ⟨l.a,l.n,ok⟩ vl Wc (Nat.lt_of_lt_of_le hx hW.size) ((hW.cell (p:=⟨x,2,none⟩) hx).trans x2) ((Rd.of_owns (k:=2) (enc:=encL) (fun _=>rfl) ls0 B.ol).below hW) (by have:=hI.l;omega) (fun q hq=>(hI.la q hq).1) hL.a).mono ?_
    rintro e w' ⟨vv,rfl,o1,o2⟩
    obtain⟨b,c,rfl,_,_⟩:=owns_slice o1;exact⟨⟨b,c,rfl⟩,o2⟩
  have hkk:∀ q:Hd,(encH q).length=3:=fun _=>rfl
  have hrd:=Rd.of_owns hkk hd0 B.on;obtain⟨bq,cq,ev,hq1,hq2,hq3⟩:=hrd;obtain⟨gq,rfl,hq4,hq5⟩:=hq3 (by intro e;rw[e] at hk;simp at hk)
  have hk5:=hq5 k hk;have hk6:(s.nets.getD k hd0).a=l.a/\(s.nets.getD k hd0).n=l.n:=by simpa[isH] using his
  have ROW:Hid (∀ wk,Below w.heap.size w wk->wk.cell? ⟨gq,k*3,none⟩=some (.int .u32 l.a)/\wk.cell? ⟨gq,k*3+1,none⟩=some (.int .i64 l.n)/\wk.cell? ⟨gq,k*3+2,none⟩=some (.string ok)):=fun wk hw =>
    ⟨(hw.cell (p:=⟨gq,k*3,none⟩) hq4).trans (by rw[<- hk6.1];exact hk5 0 _ rfl),(hw.cell (p:=⟨gq,k*3+1,none⟩) hq4).trans (by rw[<- hk6.2];exact hk5 1 _ rfl),(hw.cell (p:=⟨gq,k*3+2,none⟩) hq4).trans (by rw[<- hok];exact hk5 2 _ rfl)⟩
  have hlen:s.nets.length<=1000:=by have:=hI.n;omega
  have hkz:(k:Int)<(s.nets.length:Int):=by omega
  have hkn:¬((k:Int)<0):=by omega
  have hk0:(0:Int)<=(k:Int):=by omega
  clear hq1 hq2 hq5 hk5 hk6 his hok;subst ev;have h4:(0:Int)<(((leasesOf s.leases l.a l.n).length:Nat):Int):=by have:=List.length_pos_iff.2 h3;omega
  clear B;unfold lnC;go_enter Tryz.func73,Tryz.ntmps73
  go_wp2;go_region_held3 (fun w'=>w'.cell? ⟨x,1,none⟩=some (.slice (some ⟨gq,0,none⟩) s.nets.length cq)/\w'.cell? ⟨w.heap.size,3,none⟩=some (.int .u32 l.a)/\w'.cell? ⟨w.heap.size,4,none⟩=some (.int .i64 l.n)) (go_keep) (first|(go_at_call 116;refine(HF.out _ (upB)).mono ?_;rintro e w1 ⟨rfl,HQ⟩;have HB1:Hid (BW w l w1):=bstep (upB) (by simp) HQ;clear HQ;have HW1:Hid (Below w.heap.size w w1):=(w0_below w l).trans (HB1.out.mono (om));have LV1:=LIVE.out w1 HB1.out;have x1_1:=LV1.x1;have o_1:=LV1.o;have a_1:=LV1.a;have n_1:=LV1.n;have zx_1:=LV1.zx;have z0_1:=LV1.z0;have z1_1:=LV1.z1;have r0_1:=LV1.r0;have r1_1:=LV1.r1;have g0_1:=LV1.g0;have g1_1:=LV1.g1;obtain⟨e0_1,e1_1,e2_1⟩:=ROW.out w1 HW1.out;clear LV1))
  all_goals (
    go_wp2;go_region_held3 (fun w'=>w'.cell? ⟨x,1,none⟩=some (.slice (some ⟨gq,0,none⟩) s.nets.length cq)/\w'.cell? ⟨w.heap.size,2,none⟩=some (.string l.o)/\w'.cell? ⟨gq,k*3,none⟩=some (.int .u32 l.a)/\w'.cell? ⟨gq,k*3+1,none⟩=some (.int .i64 l.n)/\w'.cell? ⟨gq,k*3+2,none⟩=some (.string ok)) (go_keep) (first|(go_at_call 107;refine(HOW.out _ (by have hp:=HW1.out;exact upB)).mono ?_;rintro e w2 ⟨rfl,HQ⟩;have HB2:Hid (BW w l w2):=bstep (by have hp:=HB1.out;exact upB) (by simp) HQ;clear HQ;have HW2:Hid (Below w.heap.size w w2):=(w0_below w l).trans (HB2.out.mono (om));have LV2:=LIVE.out w2 HB2.out;have x1_2:=LV2.x1;have zx_2:=LV2.zx;have z0_2:=LV2.z0;have z1_2:=LV2.z1;have o_2:=LV2.o;have r0_2:=LV2.r0;have r1_2:=LV2.r1;have g0_2:=LV2.g0;have g1_2:=LV2.g1;obtain⟨e0_2,e1_2,e2_2⟩:=ROW.out w2 HW2.out;clear LV2))
    all_goals (
      go_wp2_with (first|(go_at_call 117;refine(HSUB.out _ (by have hp:=HW2.out;exact upB)).mono ?_;rintro e w3 ⟨⟨bs,cs,rfl⟩,HQ⟩;have HB3:Hid (BW w l w3):=bstep (by have hp:=HB2.out;exact upB) (by simp) HQ;clear HQ;have HW3:Hid (Below w.heap.size w w3):=(w0_below w l).trans (HB3.out.mono (om));have LV3:=LIVE.out w3 HB3.out;have x1_3:=LV3.x1;have zx_3:=LV3.zx;have z0_3:=LV3.z0;have z1_3:=LV3.z1;have r0_3:=LV3.r0;have r1_3:=LV3.r1;have g0_3:=LV3.g0;have g1_3:=LV3.g1;obtain⟨e0_3,e1_3,e2_3⟩:=ROW.out w3 HW3.out;clear LV3)|(go_at_call 39;refine(refuse_any 9 _).mono ?_;rintro e w9 ⟨rfl,HQ⟩;have HB9:Hid (BW w l w9):=bstep (by have hp:=HB3.out;exact upB) (by simp) HQ;clear HQ;have HW9:Hid (Below w.heap.size w w9):=(w0_below w l).trans (HB9.out.mono (om));have LV9:=LIVE.out w9 HB9.out;have r0_9:=LV9.r0;have r1_9:=LV9.r1;have g0_9:=LV9.g0;have g1_9:=LV9.g1;have z1_9:=LV9.z1;clear LV9))
      have hR:=(LIVE.out w9 HB9.out).rb
      obtain⟨kk0,kk1⟩:=two_set hR (.int .i64 9) (.slice none 0 0)
      have hfin:=res_ref (l:=l) 9 H.out HB9.out
      exact bodyPost_ret (v:=.agg #[.int .i64 9,.slice none 0 0]) (by simp[results,Tryz.results73,go_sem,kk0,kk1]) rfl hfin))
set_option maxRecDepth 100000 in
set_option maxHeartbeats 2000000 in
theorem freeS_ok (w:World) (x:Nat) (S:Nat->Prop) (s:Bk) (l:Ln) (hI:Inv s) (hL:LnOk l) (h:BkAt w x S s) (k:Nat) (ok:ByteArray) (hk:k<s.nets.length) (h1:findH s.nets l.a l.n=k) (his:isH l.a l.n (s.nets.getD k hd0)=true) (hok:(s.nets.getD k hd0).o=ok) (h2:ok=l.o) (h3:(leasesOf s.leases l.a l.n)=[]) :
    Calls Tryz.prog 73 #[.pointer (some ⟨x,0,none⟩),.agg (lnC l)] w (Res w x S ({ s with nets:=delAt s.nets k },okA)):=by
  obtain⟨vp,vn,vl,c,B⟩:=h;have hx:=B.blk.lt;have H:Hid (BkAt w x S s):=⟨vp,vn,vl,c,B⟩
  obtain⟨x0,x1,x2⟩:=B.c3;have LIVE:Hid (∀ wk,BW w l wk->Live w wk x vp vn vl l):=live_of l B
  have HBA:Hid (BA w x S vp vn vl c s):=B
  have hxa:¬(x=w.heap.size):=by omega
  have hxb:¬(w.heap.size=x):=by omega
  have HF:Hid (∀ Wc,Below w.heap.size w Wc->Calls Tryz.prog 116 #[vn,.agg #[.int .u32 l.a,.int .i64 l.n]] Wc fun e w'=>e=.returned (.int .i64 (findH s.nets l.a l.n))/\Below Wc.heap.size Wc w'):=fun Wc hW=>findS s.nets l.a l.n vn Wc (fun q hq=>(hI.na q hq).1) hL.a ((Rd.of_owns (k:=3) (enc:=encH) (fun _=>rfl) hd0 B.on).below hW)
  rw[h1] at HF;have HOW:Hid (∀ Wc,Below w.heap.size w Wc->Calls Tryz.prog 107 #[.agg #[.int .u32 l.a,.int .i64 l.n,.string ok],.string l.o] Wc fun e w'=>e=.returned (.bool (ok.toList==l.o.toList))/\Below Wc.heap.size Wc w'):=fun Wc hW=>howned_any ⟨l.a,l.n,ok⟩ l.o Wc
  rw[beqB,decide_eq_true h2] at HOW;clear h2;have HSUB:Hid (∀ Wc,Below w.heap.size w Wc->Calls Tryz.prog 117 #[.pointer (some ⟨x,0,none⟩),.agg #[.int .u32 l.a,.int .i64 l.n,.string ok]] Wc fun e w'=>(∃ b c,e=.returned (.slice b (leasesOf s.leases l.a l.n).length c))/\Below Wc.heap.size Wc w'):=fun Wc hW=>by
    refine(leasesOf_any x s.leases ⟨l.a,l.n,ok⟩ vl Wc (Nat.lt_of_lt_of_le hx hW.size) ((hW.cell (p:=⟨x,2,none⟩) hx).trans x2) ((Rd.of_owns (k:=2) (enc:=encL) (fun _=>rfl) ls0 B.ol).below hW) (by have:=hI.l;omega) (fun q hq=>(hI.la q hq).1) hL.a).mono ?_
    rintro e w' ⟨vv,rfl,o1,o2⟩
    obtain⟨b,c,rfl,_,_⟩:=owns_slice o1;exact⟨⟨b,c,rfl⟩,o2⟩
  rw[h3] at HSUB;have HIN:Hid (∀ Wc,Below w.heap.size w Wc->Calls Tryz.prog 118 #[vn,.int .i64 k,.int .i64 ((k:Int)+1)] Wc fun e w'=>∃ g cap,e=.returned (.slice (some ⟨g,0,none⟩) (s.nets.length-1) cap)/\w'.ownsRow 0 195 3 (.slice (some ⟨g,0,none⟩) (s.nets.length-1) cap) (s.nets.length-1) ((delAt s.nets k).flatMap encH)/\Wc.grownBy w' vn.ownBlock/\∀ b,(Value.slice (some ⟨g,0,none⟩) (s.nets.length-1) cap).ownBlock=some b->vn.ownBlock=some b\/Wc.heap.size<=b):=fun Wc hW=>delnets (owns_below B.on hW) k hk (by have:=hI.n;omega)
  have FIX:Hid (∀ (W:World) v,W.ownsRow 0 195 3 v (s.nets.length-1) ((delAt s.nets k).flatMap encH)->W.ownsRow 0 195 3 v (delAt s.nets k).length ((delAt s.nets k).flatMap encH)):=fun W v q=>by rw[delAt_len _ _ hk];exact q
  have NX:Hid (vn.ownBlock≠some x):=fun e=>((B.apart.2.1) x e).1 rfl
  have NR:Hid (∀ b,vn.ownBlock=some b->b<w.heap.size):=fun b e=>(owns_lt B.on b e).1
  generalize hob:vn.ownBlock=ob at HIN NX NR
  have HOB:Hid (vn.ownBlock=ob):=hob
  clear hob;have hkk:∀ q:Hd,(encH q).length=3:=fun _=>rfl
  have hrd:=Rd.of_owns hkk hd0 B.on;obtain⟨bq,cq,ev,hq1,hq2,hq3⟩:=hrd;obtain⟨gq,rfl,hq4,hq5⟩:=hq3 (by intro e;rw[e] at hk;simp at hk)
  have hk5:=hq5 k hk;have hk6:(s.nets.getD k hd0).a=l.a/\(s.nets.getD k hd0).n=l.n:=by simpa[isH] using his
  have ROW:Hid (∀ wk,Below w.heap.size w wk->wk.cell? ⟨gq,k*3,none⟩=some (.int .u32 l.a)/\wk.cell? ⟨gq,k*3+1,none⟩=some (.int .i64 l.n)/\wk.cell? ⟨gq,k*3+2,none⟩=some (.string ok)):=fun wk hw =>
    ⟨(hw.cell (p:=⟨gq,k*3,none⟩) hq4).trans (by rw[<- hk6.1];exact hk5 0 _ rfl),(hw.cell (p:=⟨gq,k*3+1,none⟩) hq4).trans (by rw[<- hk6.2];exact hk5 1 _ rfl),(hw.cell (p:=⟨gq,k*3+2,none⟩) hq4).trans (by rw[<- hok];exact hk5 2 _ rfl)⟩
  have hlen:s.nets.length<=1000:=by have:=hI.n;omega
  have hkz:(k:Int)<(s.nets.length:Int):=by omega
  have hkn:¬((k:Int)<0):=by omega
  have hk0:(0:Int)<=(k:Int):=by omega
  clear hq1 hq2 hq5 hk5 hk6 his hok;subst ev;have hw1:IntKind.i64.wrap ((k:Int)+1)=(k:Int)+1:=by rw[IntKind.wrap_i64];omega
  clear B;unfold lnC;go_enter Tryz.func73,Tryz.ntmps73
  go_wp2;go_region_held3 (fun w'=>w'.cell? ⟨x,1,none⟩=some (.slice (some ⟨gq,0,none⟩) s.nets.length cq)/\w'.cell? ⟨w.heap.size,3,none⟩=some (.int .u32 l.a)/\w'.cell? ⟨w.heap.size,4,none⟩=some (.int .i64 l.n)) (go_keep) (first|(go_at_call 116;refine(HF.out _ (upB)).mono ?_;rintro e w1 ⟨rfl,HQ⟩;have HB1:Hid (BW w l w1):=bstep (upB) (by simp) HQ;clear HQ;have HW1:Hid (Below w.heap.size w w1):=(w0_below w l).trans (HB1.out.mono (om));have LV1:=LIVE.out w1 HB1.out;have x1_1:=LV1.x1;have o_1:=LV1.o;have a_1:=LV1.a;have n_1:=LV1.n;have zx_1:=LV1.zx;have z0_1:=LV1.z0;have z1_1:=LV1.z1;have r0_1:=LV1.r0;have r1_1:=LV1.r1;have g0_1:=LV1.g0;have g1_1:=LV1.g1;obtain⟨e0_1,e1_1,e2_1⟩:=ROW.out w1 HW1.out;clear LV1))
  all_goals (
    go_wp2;go_region_held3 (fun w'=>w'.cell? ⟨x,1,none⟩=some (.slice (some ⟨gq,0,none⟩) s.nets.length cq)/\w'.cell? ⟨w.heap.size,2,none⟩=some (.string l.o)/\w'.cell? ⟨gq,k*3,none⟩=some (.int .u32 l.a)/\w'.cell? ⟨gq,k*3+1,none⟩=some (.int .i64 l.n)/\w'.cell? ⟨gq,k*3+2,none⟩=some (.string ok)) (go_keep) (first|(go_at_call 107;refine(HOW.out _ (by have hp:=HW1.out;exact upB)).mono ?_;rintro e w2 ⟨rfl,HQ⟩;have HB2:Hid (BW w l w2):=bstep (by have hp:=HB1.out;exact upB) (by simp) HQ;clear HQ;have HW2:Hid (Below w.heap.size w w2):=(w0_below w l).trans (HB2.out.mono (om));have LV2:=LIVE.out w2 HB2.out;have x1_2:=LV2.x1;have zx_2:=LV2.zx;have z0_2:=LV2.z0;have z1_2:=LV2.z1;have o_2:=LV2.o;have r0_2:=LV2.r0;have r1_2:=LV2.r1;have g0_2:=LV2.g0;have g1_2:=LV2.g1;obtain⟨e0_2,e1_2,e2_2⟩:=ROW.out w2 HW2.out;clear LV2))
    all_goals (
      go_wp2_with (first|(go_at_call 117;refine(HSUB.out _ (by have hp:=HW2.out;exact upB)).mono ?_;rintro e w3 ⟨⟨bs,cs,rfl⟩,HQ⟩;have HB3:Hid (BW w l w3):=bstep (by have hp:=HB2.out;exact upB) (by simp) HQ;clear HQ;have HW3:Hid (Below w.heap.size w w3):=(w0_below w l).trans (HB3.out.mono (om));have LV3:=LIVE.out w3 HB3.out;have x1_3:=LV3.x1;have zx_3:=LV3.zx;have z0_3:=LV3.z0;have z1_3:=LV3.z1;have r0_3:=LV3.r0;have r1_3:=LV3.r1;have g0_3:=LV3.g0;have g1_3:=LV3.g1;obtain⟨e0_3,e1_3,e2_3⟩:=ROW.out w3 HW3.out;clear LV3)|(go_at_call 118;refine(HIN.out _ (by have hp:=HW3.out;exact upB)).mono ?_;rintro e w4 ⟨g2,cap2,rfl,o1,o2,o3⟩;have LV4:=(LIVE.out _ (by have hp:=HB3.out;exact upB)).far o2 NX.out NR.out;have HG:Hid (∃ Wc,Below w.heap.size w Wc/\w.heap.size+2<=Wc.heap.size/\Wc.grownBy w4 ob/\∀ b,(Value.slice (some ⟨g2,0,none⟩) (s.nets.length-1) cap2).ownBlock=some b->ob=some b\/Wc.heap.size<=b):=⟨_,by have hp:=HW3.out;exact upB,by have hz:=HB3.out.size;simp at hz ⊢;omega,o2,o3⟩;have HO:Hid (w4.ownsRow 0 195 3 (.slice (some ⟨g2,0,none⟩) (s.nets.length-1) cap2) (s.nets.length-1) ((delAt s.nets k).flatMap encH)):=o1;have RB4:Hid (Blk w4 (w.heap.size+1) #[.int .i64 0,.slice none 0 0] 98):=LV4.rb;have x_4:=LV4.x1;have f_4:=LV4.f1;have a_4:=LV4.a;have n_4:=LV4.n;have o_4:=LV4.o;have zx_4:=LV4.zx;have z1_4:=LV4.z1;clear LV4 o1 o2 o3)|(go_at_call 105;refine(ok_any none 0 0 _).mono ?_;rintro e w5 ⟨rfl,HQ⟩;have HQ5:Hid (Below w4.heap.size (w4.setCell ⟨x,1,none⟩ (.slice (some ⟨g2,0,none⟩) (s.nets.length-1) cap2)) w5):=HQ.mono (by simp[World.setCell]);have RB5:Blk w5 (w.heap.size+1) #[.int .i64 0,.slice none 0 0] 98:=(HQ5.out.block _ z1_4).trans ((Below.heap_setCell _ _ _ _ (fun e=>by have e2:w.heap.size+1=x:=e;omega)).trans RB4.out);clear HQ;have HR5:Hid (Blk w5 (w.heap.size+1) #[.int .i64 0,.slice none 0 0] 98):=RB5;have r0_5:w5.cell? ⟨w.heap.size+1,0,none⟩=some (.int .i64 0):=RB5.cell 0;have r1_5:w5.cell? ⟨w.heap.size+1,1,none⟩=some (.slice none 0 0):=RB5.cell 1;have g0_5:w5.frozen? ⟨w.heap.size+1,0,none⟩=false:=RB5.frozen 0;have g1_5:w5.frozen? ⟨w.heap.size+1,1,none⟩=false:=RB5.frozen 1;clear RB5))
      obtain⟨kk0,kk1⟩:=two_set HR5.out (.int .i64 0) (.slice none 0 0)
      obtain⟨Wc,hc1,hc2,hc3,hc4⟩:=HG.out;rw[<- HOB.out] at hc3 hc4;have hfin:=res_put1 HBA.out hc1 hc2 hc3 (FIX.out _ _ HO.out) hc4 HQ5.out
      exact bodyPost_ret (v:=.agg #[.int .i64 0,.slice none 0 0]) (by simp[results,Tryz.results73,go_sem,kk0,kk1]) rfl hfin))
theorem free_any (w:World) (x:Nat) (S:Nat->Prop) (s:Bk) (l:Ln) (hI:Inv s) (hL:LnOk l) (h:BkAt w x S s):Calls Tryz.prog 73 #[.pointer (some ⟨x,0,none⟩),.agg (lnC l)] w (Res w x S (doFree s l)):=by
  unfold doFree;rcases fi_cases (isH l.a l.n) s.nets hd0 with⟨e,_⟩|⟨k,hk,e,hp,_⟩
  . have e1:findH s.nets l.a l.n=-1:=e
    rw[if_pos (by rw[e1];decide)];exact freeS_none w x S s l hI hL h e1
  . have e1:findH s.nets l.a l.n=k:=e
    have e2:(findH s.nets l.a l.n).toNat=k:=by rw[e1];omega
    rw[if_neg (by rw[e1];omega),e2]
    by_cases h2:(s.nets.getD k hd0).o=l.o
    . rw[if_neg (by rw[h2];exact fun q=>q rfl)]
      by_cases h3:leasesOf s.leases l.a l.n=[]
      . rw[if_neg (by rw[h3];exact fun q=>q rfl)];exact freeS_ok w x S s l hI hL h k _ hk e1 hp rfl h2 h3
      . rw[if_pos h3];exact freeS_busy w x S s l hI hL h k _ hk e1 hp rfl h2 h3
    . rw[if_pos h2];exact freeS_owner w x S s l hI hL h k _ hk e1 hp rfl h2
theorem delleases {w:World} {v:Value} {l:List Ls} (hown:w.ownsRow 0 208 2 v l.length (l.flatMap encL)) (k:Nat) (hk:k<l.length) (hn:l.length<=1000) :
    Calls Tryz.prog 126 #[v,.int .i64 k,.int .i64 ((k:Int)+1)] w fun e w'=>∃ g cap,e=.returned (.slice (some ⟨g,0,none⟩) (l.length-1) cap)/\w'.ownsRow 0 208 2 (.slice (some ⟨g,0,none⟩) (l.length-1) cap) (l.length-1) ((delAt l k).flatMap encL)/\w.grownBy w' v.ownBlock/\∀ b,(Value.slice (some ⟨g,0,none⟩) (l.length-1) cap).ownBlock=some b->v.ownBlock=some b\/w.heap.size<=b:=by
  have hkk:∀ x:Ls,(encL x).length=2:=fun _=>rfl
  rcases hown.2 with⟨rfl,e⟩|⟨g,cap,cur,rfl,_,hg,h1,h2,h3,h4⟩
  . omega
  . obtain⟨m,hm⟩:∃ m,l.length=m+1:=⟨l.length-1,by omega⟩
    rw[hm] at h1 h4 hk ⊢;refine(delL (l.flatMap encL) m k g cap cur w (om) (om) hg h3 h4 h1 h2 (oneL l)).mono ?_
    rintro e w' ⟨rfl,o1,o2⟩
    rw[flat_del hkk] at o1;exact⟨g,cap,rfl,o1,o2,fun b e=>.inl e⟩
set_option maxRecDepth 100000 in
set_option maxHeartbeats 2000000 in
theorem give_none (w:World) (x:Nat) (S:Nat->Prop) (s:Bk) (l:Ln) (hI:Inv s) (hL:LnOk l) (h:BkAt w x S s) (h1:hasL s.leases l.d=false) :
    Calls Tryz.prog 76 #[.pointer (some ⟨x,0,none⟩),.agg (lnC l)] w (Res w x S (s,ref 12)):=by
  obtain⟨vp,vn,vl,c,B⟩:=h;have hx:=B.blk.lt;have H:Hid (BkAt w x S s):=⟨vp,vn,vl,c,B⟩
  obtain⟨x0,x1,x2⟩:=B.c3;have LIVE:Hid (∀ wk,BW w l wk->Live w wk x vp vn vl l):=live_of l B
  have HBA:Hid (BA w x S vp vn vl c s):=B
  have hxa:¬(x=w.heap.size):=by omega
  have hxb:¬(w.heap.size=x):=by omega
  have HF:Hid (∀ Wc,Below w.heap.size w Wc->Calls Tryz.prog 125 #[.pointer (some ⟨x,0,none⟩),.int .u32 l.d] Wc fun e w'=>e=.returned (.tuple #[.int .i64 (cntL s.leases l.d:Nat),.bool (hasL s.leases l.d)])/\Below Wc.heap.size Wc w'):=fun Wc hW=>findL_any x s.leases l.d vl Wc ((hW.cell (p:=⟨x,2,none⟩) hx).trans x2) ((Rd.of_owns (k:=2) (enc:=encL) (fun _=>rfl) ls0 B.ol).below hW) (by have:=hI.l;omega) hI.lu
  rw[h1] at HF;obtain⟨bq,cq,eq,_,_⟩:=owns_slice B.ol;subst eq;clear B;unfold lnC;go_enter Tryz.func76,Tryz.ntmps76
  go_wp2_with (first|(go_at_call 125;refine(HF.out _ (upB)).mono ?_;rintro e w1 ⟨rfl,HQ⟩;have HB1:Hid (BW w l w1):=bstep (upB) (by simp) HQ;clear HQ;have HW1:Hid (Below w.heap.size w w1):=(w0_below w l).trans (HB1.out.mono (om));have LV1:=LIVE.out w1 HB1.out;have x2_1:=LV1.x2;have o_1:=LV1.o;have d_1:=LV1.d;have zx_1:=LV1.zx;have z0_1:=LV1.z0;have z1_1:=LV1.z1;have r0_1:=LV1.r0;have r1_1:=LV1.r1;have g0_1:=LV1.g0;have g1_1:=LV1.g1;clear LV1)|(go_at_call 39;refine(refuse_any 12 _).mono ?_;rintro e w9 ⟨rfl,HQ⟩;have HB9:Hid (BW w l w9):=bstep (by have hp:=HB1.out;exact upB) (by simp) HQ;clear HQ;have HW9:Hid (Below w.heap.size w w9):=(w0_below w l).trans (HB9.out.mono (om));have LV9:=LIVE.out w9 HB9.out;have r0_9:=LV9.r0;have r1_9:=LV9.r1;have g0_9:=LV9.g0;have g1_9:=LV9.g1;have z1_9:=LV9.z1;clear LV9))
  have hR:=(LIVE.out w9 HB9.out).rb
  obtain⟨kk0,kk1⟩:=two_set hR (.int .i64 12) (.slice none 0 0)
  have hfin:=res_ref (l:=l) 12 H.out HB9.out
  exact bodyPost_ret (v:=.agg #[.int .i64 12,.slice none 0 0]) (by simp[results,Tryz.results76,go_sem,kk0,kk1]) rfl hfin
set_option maxRecDepth 100000 in
set_option maxHeartbeats 2000000 in
theorem give_owner (w:World) (x:Nat) (S:Nat->Prop) (s:Bk) (l:Ln) (hI:Inv s) (hL:LnOk l) (h:BkAt w x S s) (k:Nat) (ok:ByteArray) (hk:k<s.leases.length) (h0:hasL s.leases l.d=true) (h1:cntL s.leases l.d=k) (hok:(s.leases.getD k ls0).o=ok) (h2:ok≠l.o) :
    Calls Tryz.prog 76 #[.pointer (some ⟨x,0,none⟩),.agg (lnC l)] w (Res w x S (s,ref 8)):=by
  obtain⟨vp,vn,vl,c,B⟩:=h;have hx:=B.blk.lt;have H:Hid (BkAt w x S s):=⟨vp,vn,vl,c,B⟩
  obtain⟨x0,x1,x2⟩:=B.c3;have LIVE:Hid (∀ wk,BW w l wk->Live w wk x vp vn vl l):=live_of l B
  have HBA:Hid (BA w x S vp vn vl c s):=B
  have hxa:¬(x=w.heap.size):=by omega
  have hxb:¬(w.heap.size=x):=by omega
  have HF:Hid (∀ Wc,Below w.heap.size w Wc->Calls Tryz.prog 125 #[.pointer (some ⟨x,0,none⟩),.int .u32 l.d] Wc fun e w'=>e=.returned (.tuple #[.int .i64 (cntL s.leases l.d:Nat),.bool (hasL s.leases l.d)])/\Below Wc.heap.size Wc w'):=fun Wc hW=>findL_any x s.leases l.d vl Wc ((hW.cell (p:=⟨x,2,none⟩) hx).trans x2) ((Rd.of_owns (k:=2) (enc:=encL) (fun _=>rfl) ls0 B.ol).below hW) (by have:=hI.l;omega) hI.lu
  rw[h0,h1] at HF;have hkk:∀ q:Ls,(encL q).length=2:=fun _=>rfl
  have hrd:=Rd.of_owns hkk ls0 B.ol;obtain⟨bq,cq,ev,hq1,hq2,hq3⟩:=hrd;obtain⟨gq,rfl,hq4,hq5⟩:=hq3 (by intro e;rw[e] at hk;simp at hk)
  have hk5:=hq5 k hk;have ROW:Hid (∀ wk,Below w.heap.size w wk->wk.cell? ⟨gq,k*2+1,none⟩=some (.string ok)):=fun wk hw =>
    (hw.cell (p:=⟨gq,k*2+1,none⟩) hq4).trans (by rw[<- hok];exact hk5 1 _ rfl)
  have hlen:s.leases.length<=1000:=by have:=hI.l;omega
  have hkz:(k:Int)<(s.leases.length:Int):=by omega
  have hkn:¬((k:Int)<0):=by omega
  have hk0:(0:Int)<=(k:Int):=by omega
  clear hq1 hq2 hq5 hk5 hok;subst ev;have h5:(ok.toList==l.o.toList)=false:=by rw[beqB];exact decide_eq_false h2
  clear B;unfold lnC;go_enter Tryz.func76,Tryz.ntmps76
  go_wp2_with (go_at_call 125;refine(HF.out _ (upB)).mono ?_;rintro e w1 ⟨rfl,HQ⟩;have HB1:Hid (BW w l w1):=bstep (upB) (by simp) HQ;clear HQ;have HW1:Hid (Below w.heap.size w w1):=(w0_below w l).trans (HB1.out.mono (om));have LV1:=LIVE.out w1 HB1.out;have x2_1:=LV1.x2;have o_1:=LV1.o;have d_1:=LV1.d;have zx_1:=LV1.zx;have z0_1:=LV1.z0;have z1_1:=LV1.z1;have r0_1:=LV1.r0;have r1_1:=LV1.r1;have g0_1:=LV1.g0;have g1_1:=LV1.g1;have e1_1:=ROW.out w1 HW1.out;clear LV1)
  go_quiet (fail)
  go_wp2_with (go_at_call 39;refine(refuse_any 8 _).mono ?_;rintro e w9 ⟨rfl,HQ⟩;have HB9:Hid (BW w l w9):=bstep (by have hp:=HB1.out;exact upB) (by simp) HQ;clear HQ;have HW9:Hid (Below w.heap.size w w9):=(w0_below w l).trans (HB9.out.mono (om));have LV9:=LIVE.out w9 HB9.out;have r0_9:=LV9.r0;have r1_9:=LV9.r1;have g0_9:=LV9.g0;have g1_9:=LV9.g1;have z1_9:=LV9.z1;clear LV9)
  have hR:=(LIVE.out w9 HB9.out).rb
  obtain⟨kk0,kk1⟩:=two_set hR (.int .i64 8) (.slice none 0 0)
  have hfin:=res_ref (l:=l) 8 H.out HB9.out
  exact bodyPost_ret (v:=.agg #[.int .i64 8,.slice none 0 0]) (by simp[results,Tryz.results76,go_sem,kk0,kk1]) rfl hfin
set_option maxRecDepth 100000 in
set_option maxHeartbeats 2000000 in
theorem give_ok (w:World) (x:Nat) (S:Nat->Prop) (s:Bk) (l:Ln) (hI:Inv s) (hL:LnOk l) (h:BkAt w x S s) (k:Nat) (ok:ByteArray) (hk:k<s.leases.length) (h0:hasL s.leases l.d=true) (h1:cntL s.leases l.d=k) (hok:(s.leases.getD k ls0).o=ok) (h2:ok=l.o) :
    Calls Tryz.prog 76 #[.pointer (some ⟨x,0,none⟩),.agg (lnC l)] w (Res w x S ({ s with leases:=delAt s.leases k },okA)):=by
  obtain⟨vp,vn,vl,c,B⟩:=h;have hx:=B.blk.lt;have H:Hid (BkAt w x S s):=⟨vp,vn,vl,c,B⟩
  obtain⟨x0,x1,x2⟩:=B.c3;have LIVE:Hid (∀ wk,BW w l wk->Live w wk x vp vn vl l):=live_of l B
  have HBA:Hid (BA w x S vp vn vl c s):=B
  have hxa:¬(x=w.heap.size):=by omega
  have hxb:¬(w.heap.size=x):=by omega
  have HF:Hid (∀ Wc,Below w.heap.size w Wc->Calls Tryz.prog 125 #[.pointer (some ⟨x,0,none⟩),.int .u32 l.d] Wc fun e w'=>e=.returned (.tuple #[.int .i64 (cntL s.leases l.d:Nat),.bool (hasL s.leases l.d)])/\Below Wc.heap.size Wc w'):=fun Wc hW=>findL_any x s.leases l.d vl Wc ((hW.cell (p:=⟨x,2,none⟩) hx).trans x2) ((Rd.of_owns (k:=2) (enc:=encL) (fun _=>rfl) ls0 B.ol).below hW) (by have:=hI.l;omega) hI.lu
  rw[h0,h1] at HF;have HIN:Hid (∀ Wc,Below w.heap.size w Wc->Calls Tryz.prog 126 #[vl,.int .i64 k,.int .i64 ((k:Int)+1)] Wc fun e w'=>∃ g cap,e=.returned (.slice (some ⟨g,0,none⟩) (s.leases.length-1) cap)/\w'.ownsRow 0 208 2 (.slice (some ⟨g,0,none⟩) (s.leases.length-1) cap) (s.leases.length-1) ((delAt s.leases k).flatMap encL)/\Wc.grownBy w' vl.ownBlock/\∀ b,(Value.slice (some ⟨g,0,none⟩) (s.leases.length-1) cap).ownBlock=some b->vl.ownBlock=some b\/Wc.heap.size<=b):=fun Wc hW=>delleases (owns_below B.ol hW) k hk (by have:=hI.l;omega)
  have FIX:Hid (∀ (W:World) v,W.ownsRow 0 208 2 v (s.leases.length-1) ((delAt s.leases k).flatMap encL)->W.ownsRow 0 208 2 v (delAt s.leases k).length ((delAt s.leases k).flatMap encL)):=fun W v q=>by rw[delAt_len _ _ hk];exact q
  have NX:Hid (vl.ownBlock≠some x):=fun e=>((B.apart.2.2) x e).1 rfl
  have NR:Hid (∀ b,vl.ownBlock=some b->b<w.heap.size):=fun b e=>(owns_lt B.ol b e).1
  generalize hob:vl.ownBlock=ob at HIN NX NR
  have HOB:Hid (vl.ownBlock=ob):=hob
  clear hob;have hkk:∀ q:Ls,(encL q).length=2:=fun _=>rfl
  have hrd:=Rd.of_owns hkk ls0 B.ol;obtain⟨bq,cq,ev,hq1,hq2,hq3⟩:=hrd;obtain⟨gq,rfl,hq4,hq5⟩:=hq3 (by intro e;rw[e] at hk;simp at hk)
  have hk5:=hq5 k hk;have ROW:Hid (∀ wk,Below w.heap.size w wk->wk.cell? ⟨gq,k*2+1,none⟩=some (.string ok)):=fun wk hw =>
    (hw.cell (p:=⟨gq,k*2+1,none⟩) hq4).trans (by rw[<- hok];exact hk5 1 _ rfl)
  have hlen:s.leases.length<=1000:=by have:=hI.l;omega
  have hkz:(k:Int)<(s.leases.length:Int):=by omega
  have hkn:¬((k:Int)<0):=by omega
  have hk0:(0:Int)<=(k:Int):=by omega
  clear hq1 hq2 hq5 hk5 hok;subst ev;have h5:(ok.toList==l.o.toList)=true:=by rw[beqB];exact decide_eq_true h2
  clear h2;have hw1:IntKind.i64.wrap ((k:Int)+1)=(k:Int)+1:=by rw[IntKind.wrap_i64];omega
  clear B;unfold lnC;go_enter Tryz.func76,Tryz.ntmps76
  go_wp2_with (go_at_call 125;refine(HF.out _ (upB)).mono ?_;rintro e w1 ⟨rfl,HQ⟩;have HB1:Hid (BW w l w1):=bstep (upB) (by simp) HQ;clear HQ;have HW1:Hid (Below w.heap.size w w1):=(w0_below w l).trans (HB1.out.mono (om));have LV1:=LIVE.out w1 HB1.out;have x2_1:=LV1.x2;have o_1:=LV1.o;have d_1:=LV1.d;have zx_1:=LV1.zx;have z0_1:=LV1.z0;have z1_1:=LV1.z1;have r0_1:=LV1.r0;have r1_1:=LV1.r1;have g0_1:=LV1.g0;have g1_1:=LV1.g1;have e1_1:=ROW.out w1 HW1.out;clear LV1)
  go_quiet (fail)
  go_wp2_with (first|(go_at_call 126;refine(HIN.out _ (by have hp:=HW1.out;exact upB)).mono ?_;rintro e w4 ⟨g2,cap2,rfl,o1,o2,o3⟩;have LV4:=(LIVE.out _ (by have hp:=HB1.out;exact upB)).far o2 NX.out NR.out;have HG:Hid (∃ Wc,Below w.heap.size w Wc/\w.heap.size+2<=Wc.heap.size/\Wc.grownBy w4 ob/\∀ b,(Value.slice (some ⟨g2,0,none⟩) (s.leases.length-1) cap2).ownBlock=some b->ob=some b\/Wc.heap.size<=b):=⟨_,by have hp:=HW1.out;exact upB,by have hz:=HB1.out.size;simp at hz ⊢;omega,o2,o3⟩;have HO:Hid (w4.ownsRow 0 208 2 (.slice (some ⟨g2,0,none⟩) (s.leases.length-1) cap2) (s.leases.length-1) ((delAt s.leases k).flatMap encL)):=o1;have RB4:Hid (Blk w4 (w.heap.size+1) #[.int .i64 0,.slice none 0 0] 98):=LV4.rb;have x_4:=LV4.x2;have f_4:=LV4.f2;have a_4:=LV4.a;have n_4:=LV4.n;have o_4:=LV4.o;have zx_4:=LV4.zx;have z1_4:=LV4.z1;clear LV4 o1 o2 o3)|(go_at_call 105;refine(ok_any none 0 0 _).mono ?_;rintro e w5 ⟨rfl,HQ⟩;have HQ5:Hid (Below w4.heap.size (w4.setCell ⟨x,2,none⟩ (.slice (some ⟨g2,0,none⟩) (s.leases.length-1) cap2)) w5):=HQ.mono (by simp[World.setCell]);have RB5:Blk w5 (w.heap.size+1) #[.int .i64 0,.slice none 0 0] 98:=(HQ5.out.block _ z1_4).trans ((Below.heap_setCell _ _ _ _ (fun e=>by have e2:w.heap.size+1=x:=e;omega)).trans RB4.out);clear HQ;have HR5:Hid (Blk w5 (w.heap.size+1) #[.int .i64 0,.slice none 0 0] 98):=RB5;have r0_5:w5.cell? ⟨w.heap.size+1,0,none⟩=some (.int .i64 0):=RB5.cell 0;have r1_5:w5.cell? ⟨w.heap.size+1,1,none⟩=some (.slice none 0 0):=RB5.cell 1;have g0_5:w5.frozen? ⟨w.heap.size+1,0,none⟩=false:=RB5.frozen 0;have g1_5:w5.frozen? ⟨w.heap.size+1,1,none⟩=false:=RB5.frozen 1;clear RB5))
  obtain⟨kk0,kk1⟩:=two_set HR5.out (.int .i64 0) (.slice none 0 0)
  obtain⟨Wc,hc1,hc2,hc3,hc4⟩:=HG.out;rw[<- HOB.out] at hc3 hc4;have hfin:=res_put2 HBA.out hc1 hc2 hc3 (FIX.out _ _ HO.out) hc4 HQ5.out
  exact bodyPost_ret (v:=.agg #[.int .i64 0,.slice none 0 0]) (by simp[results,Tryz.results76,go_sem,kk0,kk1]) rfl hfin
theorem give_any (w:World) (x:Nat) (S:Nat->Prop) (s:Bk) (l:Ln) (hI:Inv s) (hL:LnOk l) (h:BkAt w x S s):Calls Tryz.prog 76 #[.pointer (some ⟨x,0,none⟩),.agg (lnC l)] w (Res w x S (doGive s l)):=by
  unfold doGive;by_cases h0:hasL s.leases l.d=true
  . rw[if_pos h0];have hk:cntL s.leases l.d<s.leases.length:=by unfold hasL at h0;simp at h0;exact h0.1
    by_cases h2:(s.leases.getD (cntL s.leases l.d) ls0).o=l.o
    . rw[if_neg (by rw[h2];exact fun q=>q rfl)];exact give_ok w x S s l hI hL h _ _ hk h0 rfl rfl h2
    . rw[if_pos h2];exact give_owner w x S s l hI hL h _ _ hk h0 rfl rfl h2
  . rw[if_neg h0];exact give_none w x S s l hI hL h (by simpa using h0)
theorem same_next {A B:List ByteArray} {k:Nat} (h:∀ j,j<k->A.getD j ⟨#[]⟩=B.getD j ⟨#[]⟩) (e:A.getD k ⟨#[]⟩=B.getD k ⟨#[]⟩):∀ j,j<k+1->A.getD j ⟨#[]⟩=B.getD j ⟨#[]⟩:=fun j hj=>by
  rcases Nat.lt_or_ge j k with q|q
  . exact h j q
  . obtain rfl:j=k:=by omega
    exact e
theorem same_all {A B:List ByteArray} (hl:A.length=B.length) (h:∀ j,j<A.length->A.getD j ⟨#[]⟩=B.getD j ⟨#[]⟩):A=B:=by
  apply List.ext_getElem hl
  intro i h1 h2;have:=h i h1
  simpa[List.getD_eq_getElem?_getD,List.getElem?_eq_getElem h1,List.getElem?_eq_getElem h2] using this
set_option maxRecDepth 100000 in
set_option maxHeartbeats 400000 in
theorem alike_len (a b:Option Addr) (n m c d:Nat) (w:World) (h:¬n=m):Calls Tryz.prog 18 #[.slice a n c,.slice b m d] w fun e w'=>e=.returned (.bool false)/\Below w.heap.size w w':=by
  have h2:((n:Int)==(m:Int))=false:=beq_eq_false_iff_ne.2 (om)
  go_enter Tryz.func18,Tryz.ntmps18
  go_wp2;go_ret;exact⟨rfl,(upB)⟩
set_option maxRecDepth 100000 in
set_option maxHeartbeats 800000 in
theorem alike_same (A B:List ByteArray) (n:Nat) (hn6:n<=1000000) (a b:Option Addr) (c d:Nat) (w:World) (r:Bool) (HN:Hid (n=A.length/\A.length=B.length/\r=decide (A=B)))
    (HA:Hid (∀ k,k<n->∃ g,a=some ⟨g,0,none⟩/\w.cell? ⟨g,k,none⟩=some (.string (A.getD k ⟨#[]⟩)))) (HB:Hid (∀ k,k<n->∃ g,b=some ⟨g,0,none⟩/\w.cell? ⟨g,k,none⟩=some (.string (B.getD k ⟨#[]⟩)))) :
    Calls Tryz.prog 18 #[.slice a n c,.slice b n d] w fun e w'=>e=.returned (.bool r)/\Below w.heap.size w w':=by
  go_enter Tryz.func18,Tryz.ntmps18
  go_wp2;go_loopw [5] (fun i wr=>∃ k:Nat,k<=n/\i=.int .i64 k/\Hid (∀ j,j<k->A.getD j ⟨#[]⟩=B.getD j ⟨#[]⟩)/\Hid (Below w.heap.size w wr)) (fun i _=>(n-intOf i).toNat)
  case atStart=>exact⟨0,by omega,rfl,fun j hj=>absurd hj (Nat.not_lt_zero j),Below.refl _ _⟩
  case round =>
    obtain⟨k,hkn,rfl,H,hb⟩:=hrel;by_cases hlt:k<n
    . obtain⟨ga,rfl,ha⟩:=HA.out k hlt;obtain⟨gb,rfl,hbb⟩:=HB.out k hlt;obtain⟨x,hx⟩:∃ x,x=A.getD k ⟨#[]⟩:=⟨_,rfl⟩
      obtain⟨y,hy⟩:∃ y,y=B.getD k ⟨#[]⟩:=⟨_,rfl⟩
      have c1:wr.cell? ⟨ga,k,none⟩=some (.string x):=by rw[hx];exact(hb.out.cell (p:=⟨ga,k,none⟩) (block_lt_of_cell ha)).trans ha
      have c2:wr.cell? ⟨gb,k,none⟩=some (.string y):=by rw[hy];exact(hb.out.cell (p:=⟨gb,k,none⟩) (block_lt_of_cell hbb)).trans hbb
      have hlt2:(k:Int)<(n:Int):=by omega
      have hk0:(0:Int)<=(k:Int):=by omega
      have HX:Hid (x=A.getD k ⟨#[]⟩/\y=B.getD k ⟨#[]⟩):=⟨hx,hy⟩
      clear hx hy ha hbb;by_cases hxy:x=y
      . have hq:=(Lib.bytes_beq_iff x y).2 hxy
        have HQ:Hid (x=y):=hxy
        clear hxy;go_wp2;go_region_held3 (fun w'=>w'.cell? ⟨ga,k,none⟩=some (.string x)/\w'.cell? ⟨gb,k,none⟩=some (.string y)) (go_keep) (fail)
        all_goals (
          go_wp2;go_roundw
          case rel=>exact⟨k+1,by omega,by simp,same_next H.out (by rw[<- HX.out.1,<- HX.out.2];exact HQ.out),hb.out.drew⟩
          case measure=>simp[intOf];omega)
      . have hq:=(Lib.bytes_beq_false_iff x y).2 hxy
        have HQ:Hid (¬x=y):=hxy
        clear hxy;go_wp2;go_region_held3 (fun w'=>w'.cell? ⟨ga,k,none⟩=some (.string x)/\w'.cell? ⟨gb,k,none⟩=some (.string y)) (go_keep) (fail)
        all_goals (
          go_wp2;go_ret;refine⟨?_,hb.out.drew⟩
          have e:r=false:=by rw[HN.out.2.2];exact decide_eq_false (fun q=>HQ.out (by rw[HX.out.1,HX.out.2,q]))
          rw[e];rfl)
    . obtain rfl:k=n:=by omega
      have hlt2:¬(k:Int)<(k:Int):=by omega
      go_wp2;go_ret;refine⟨?_,hb.out⟩
      have e:r=true:=by rw[HN.out.2.2];exact decide_eq_true (same_all HN.out.2.1 (fun j hj=>H.out j (by rw[HN.out.1];exact hj)))
      rw[e];rfl
theorem alike_any (A B:List ByteArray) (va vb:Value) (w:World) (ha:Rd 1 encS ⟨#[]⟩ w va A) (hb:Rd 1 encS ⟨#[]⟩ w vb B) (hn6:A.length<=1000000) :
    Calls Tryz.prog 18 #[va,vb] w fun e w'=>e=.returned (.bool (decide (A=B)))/\Below w.heap.size w w':=by
  obtain⟨a,c,rfl,_,_,a3⟩:=ha;obtain⟨b,d,rfl,_,_,b3⟩:=hb;by_cases hl:A.length=B.length
  . have h:=alike_same A B A.length hn6 a b c d w (decide (A=B)) ⟨rfl,hl,rfl⟩
      (fun k hk=>by
        obtain⟨g,e,_,h⟩:=a3 (by intro q;rw[q] at hk;simp at hk)
        have:=h k hk 0 _ rfl
        rw[Nat.mul_one,Nat.add_zero] at this;exact⟨g,e,this⟩)
      (fun k hk=>by
        obtain⟨g,e,_,h⟩:=b3 (by intro q;rw[q] at hl;simp at hl;rw[hl] at hk;simp at hk)
        have:=h k (om) 0 _ rfl
        rw[Nat.mul_one,Nat.add_zero] at this;exact⟨g,e,this⟩)
    rw[<- hl];exact h
  . have h:=alike_len a b A.length B.length c d w hl;rw[decide_eq_false (fun q=>hl (by rw[q]))]
    exact h
end Go.Proofs.YtjnhhnbgjjkkjaaGreatDoor
