/-
  BkMe, BkMf, BkMg
-/
import Derived.Test.YtjnhhnbgjjkkjaaGreatDoorBesidesPAA
import Derived.Test.YtjnhhnbgjjkkjaaGreatDoorBesidesPAO
namespace Go.Proofs.YtjnhhnbgjjkkjaaGreatDoor
open Go.ChangeShapes Go.WideShapes Go.ChangeAt Go.RowKit
set_option linter.unusedVariables false
set_option linter.unusedSimpArgs false
theorem bk_put1 {w W w2:World} {x:Nat} {S:Nat->Prop} {vp vn vl:Value} {c:Nat} {s:Bk} (B:BA w x S vp vn vl c s) (hW:Below w.heap.size w W) (g2:W.grownBy w2 vn.ownBlock) {v':Value} {new:List Hd}
    (o:w2.ownsRow 0 195 3 v' new.length (new.flatMap encH)) (ho:∀ b,v'.ownBlock=some b->vn.ownBlock=some b\/W.heap.size<=b) :
    ∃ S',BkAt (w2.setCell ⟨x,1,none⟩ v') x S' { s with nets:=new }/\(∀ b,S' b->S b\/w.heap.size<=b)/\Chg S w (w2.setCell ⟨x,1,none⟩ v'):=by
  obtain⟨AP0,AP1,AP2⟩:=B.apart;have hx:=B.blk.lt;have hWs:=hW.size;have hx2:(w2.setCell ⟨x,1,none⟩ v').heap.size=w2.heap.size:=by simp[World.setCell]
  have hfin:∀ b,b≠x->(w2.setCell ⟨x,1,none⟩ v').heap[b]?=w2.heap[b]?:=fun b hbx=>Below.heap_setCell _ _ _ _ hbx
  have hold:∀ b,S b->b≠x->vn.ownBlock≠some b->(w2.setCell ⟨x,1,none⟩ v').heap[b]?=w.heap[b]?:=fun b hS hbx hv=>by
    have hb:=B.sz b hS;exact(hfin b hbx).trans ((g2.block b om (fun e=>hv e.symm)).trans (hW.block b hb))
  have hbk:Blk (w2.setCell ⟨x,1,none⟩ v') x #[vp,v',vl] 160:=by
    have b1:Blk w2 x #[vp,vn,vl] 160:=(g2.block x om (fun e=>(AP1 x e.symm).1 rfl)).trans (B.blk.below hW)
    exact b1.set 1 v'
  refine⟨fun b=>S b\/v'.ownBlock=some b,⟨vp,v',vl,c,hbk,?_,?_,?_,?_,.inl B.sx,trivial,?_,?_,?_,?_⟩,?_,?_⟩
  . trivial
  . exact owns_same B.op fun b e=>hold b (B.sp b e) (AP0 b e).1 (AP0 b e).2.2.1
  . refine owns_same o fun b e=>hfin b ?_
    rintro rfl
    rcases ho _ e with q|q
    . exact(AP1 _ q).1 rfl
    . omega
  . exact owns_same B.ol fun b e=>hold b (B.sl b e) (AP2 b e).1 (AP2 b e).2.2.2
  . exact fun b e=>.inl (B.sp b e)
  . exact fun b e=>.inr e
  . exact fun b e=>.inl (B.sl b e)
  . rintro b (hb|hb)
    . have:=B.sz b hb
      have:=g2.size
      rw[hx2];omega
    . have:=(owns_lt o b hb).1
      rw[hx2];omega
  . rintro b (hb|hb)
    . exact .inl hb
    . rcases ho b hb with q|q
      . exact .inl (B.sn b q)
      . exact .inr om
  . have c1:Chg S w W:=Chg.below hW
    have c2:Chg S W w2:=Chg.grown g2 fun b e=>B.sn b e
    exact(c1.trans c2 fun b e=>.inl e).sets x 1 [v'] (.inl B.sx)
theorem bk_put2 {w W w2:World} {x:Nat} {S:Nat->Prop} {vp vn vl:Value} {c:Nat} {s:Bk} (B:BA w x S vp vn vl c s) (hW:Below w.heap.size w W) (g2:W.grownBy w2 vl.ownBlock) {v':Value} {new:List Ls}
    (o:w2.ownsRow 0 208 2 v' new.length (new.flatMap encL)) (ho:∀ b,v'.ownBlock=some b->vl.ownBlock=some b\/W.heap.size<=b) :
    ∃ S',BkAt (w2.setCell ⟨x,2,none⟩ v') x S' { s with leases:=new }/\(∀ b,S' b->S b\/w.heap.size<=b)/\Chg S w (w2.setCell ⟨x,2,none⟩ v'):=by
  obtain⟨AP0,AP1,AP2⟩:=B.apart;have hx:=B.blk.lt;have hWs:=hW.size;have hx2:(w2.setCell ⟨x,2,none⟩ v').heap.size=w2.heap.size:=by simp[World.setCell]
  have hfin:∀ b,b≠x->(w2.setCell ⟨x,2,none⟩ v').heap[b]?=w2.heap[b]?:=fun b hbx=>Below.heap_setCell _ _ _ _ hbx
  have hold:∀ b,S b->b≠x->vl.ownBlock≠some b->(w2.setCell ⟨x,2,none⟩ v').heap[b]?=w.heap[b]?:=fun b hS hbx hv=>by
    have hb:=B.sz b hS;exact(hfin b hbx).trans ((g2.block b om (fun e=>hv e.symm)).trans (hW.block b hb))
  have hbk:Blk (w2.setCell ⟨x,2,none⟩ v') x #[vp,vn,v'] 160:=by
    have b1:Blk w2 x #[vp,vn,vl] 160:=(g2.block x om (fun e=>(AP2 x e.symm).1 rfl)).trans (B.blk.below hW)
    exact b1.set 2 v'
  refine⟨fun b=>S b\/v'.ownBlock=some b,⟨vp,vn,v',c,hbk,?_,?_,?_,?_,.inl B.sx,trivial,?_,?_,?_,?_⟩,?_,?_⟩
  . trivial
  . exact owns_same B.op fun b e=>hold b (B.sp b e) (AP0 b e).1 (AP0 b e).2.2.2
  . exact owns_same B.on fun b e=>hold b (B.sn b e) (AP1 b e).1 (AP1 b e).2.2.2
  . refine owns_same o fun b e=>hfin b ?_
    rintro rfl
    rcases ho _ e with q|q
    . exact(AP2 _ q).1 rfl
    . omega
  . exact fun b e=>.inl (B.sp b e)
  . exact fun b e=>.inl (B.sn b e)
  . exact fun b e=>.inr e
  . rintro b (hb|hb)
    . have:=B.sz b hb
      have:=g2.size
      rw[hx2];omega
    . have:=(owns_lt o b hb).1
      rw[hx2];omega
  . rintro b (hb|hb)
    . exact .inl hb
    . rcases ho b hb with q|q
      . exact .inl (B.sl b q)
      . exact .inr om
  . have c1:Chg S w W:=Chg.below hW
    have c2:Chg S W w2:=Chg.grown g2 fun b e=>B.sl b e
    exact(c1.trans c2 fun b e=>.inl e).sets x 2 [v'] (.inl B.sx)
theorem insL_len (l:List Ls) (h:Ls):(insL l h).length=l.length+1:=by
  have hle:cntL l h.a<=l.length:=List.countP_le_length
  unfold insL;simp;omega
set_option maxRecDepth 100000 in
set_option maxHeartbeats 2000000 in
theorem addSubnet_any (w:World) (x:Nat) (S:Nat->Prop) (s:Bk) (a n:Int) (o:ByteArray) (hI:Inv s) (h:BkAt w x S s) :
    Calls Tryz.prog 112 #[.pointer (some ⟨x,0,none⟩),.agg #[.int .u32 a,.int .i64 n],.string o] w fun e w'=>e=.returned (.tuple #[])/\∃ S',BkAt w' x S' { s with nets:=insH s.nets ⟨a,n,o⟩ }/\(∀ b,S' b->S b\/w.heap.size<=b)/\Chg S w w':=by
  obtain⟨vp,vn,vl,c,B⟩:=h;have hx:=B.blk.lt;have HBA:Hid (BA w x S vp vn vl c s):=B
  have x1:w.cell? ⟨x,1,none⟩=some vn:=B.blk.cell 1
  have HX:Hid (∀ W w2,Below w.heap.size w W->W.grownBy w2 vn.ownBlock->w2.cell? ⟨x,1,none⟩=some vn/\w2.frozen? ⟨x,1,none⟩=false):=fun W w2 hW hg=>by
    have b1:Blk w2 x #[vp,vn,vl] 160:=(hg.block x (Nat.lt_of_lt_of_le hx hW.size) (fun e=>(B.apart.2.1 x e.symm).1 rfl)).trans (B.blk.below hW)
    exact⟨b1.cell 1,b1.frozen 1⟩
  have HIN:Hid (∀ Wc,Below w.heap.size w Wc->Calls Tryz.prog 162 #[vn,.agg #[.int .u32 a,.int .i64 n,.string o]] Wc fun e w'=>∃ g cap,e=.returned (.slice (some ⟨g,0,none⟩) (s.nets.length+1) cap)/\w'.ownsRow 0 195 3 (.slice (some ⟨g,0,none⟩) (s.nets.length+1) cap) (s.nets.length+1) ((insH s.nets ⟨a,n,o⟩).flatMap encH)/\Wc.grownBy w' vn.ownBlock/\∀ b,(Value.slice (some ⟨g,0,none⟩) (s.nets.length+1) cap).ownBlock=some b->vn.ownBlock=some b\/Wc.heap.size<=b):=fun Wc hW=>by
    refine(insertS s.nets ⟨a,n,o⟩ vn Wc (owns_below B.on hW) hI.nu (by have:=hI.n;omega)).mono ?_
    rintro e w' ⟨g,cap,rfl,o1,o2,o3,o4⟩
    exact⟨g,cap,rfl,o1,o2,fun b e=>by obtain rfl:g=b:=(by simpa[Value.ownBlock] using e);exact o3⟩
  have FIX:Hid (∀ (W:World) v,W.ownsRow 0 195 3 v (s.nets.length+1) ((insH s.nets ⟨a,n,o⟩).flatMap encH)->W.ownsRow 0 195 3 v (insH s.nets ⟨a,n,o⟩).length ((insH s.nets ⟨a,n,o⟩).flatMap encH)):=fun W v q=>by rw[insH_len];exact q
  generalize hob:vn.ownBlock=ob at HIN HX
  have HOB:Hid (vn.ownBlock=ob):=hob
  clear hob;obtain⟨bq,cq,eq,_,_⟩:=owns_slice B.on;subst eq;clear B hI;go_enter Tryz.func112,Tryz.ntmps112
  go_wp2;go_region_with (go_at_call 162;refine(HIN.out _ upB).mono ?_;rintro e w2 ⟨g2,cap2,rfl,o1,o2,o3⟩;obtain⟨y1,y2⟩:=HX.out _ w2 upB o2;have HG:Hid (∃ Wc,Below w.heap.size w Wc/\Wc.grownBy w2 ob/\∀ b,(Value.slice (some ⟨g2,0,none⟩) (s.nets.length+1) cap2).ownBlock=some b->ob=some b\/Wc.heap.size<=b):=⟨_,upB,o2,o3⟩;have HO:Hid (w2.ownsRow 0 195 3 (.slice (some ⟨g2,0,none⟩) (s.nets.length+1) cap2) (s.nets.length+1) ((insH s.nets ⟨a,n,o⟩).flatMap encH)):=o1;clear o1 o2 o3)
  all_goals (
    go_wp2;first|go_end0|refine bodyPost_ret (results_none rfl _ _ _) rfl ?_
    obtain⟨Wc,hc1,hc3,hc4⟩:=HG.out;rw[<- HOB.out] at hc3 hc4;exact⟨rfl,bk_put1 HBA.out hc1 hc3 (FIX.out _ _ HO.out) hc4⟩)
set_option maxRecDepth 100000 in
set_option maxHeartbeats 2000000 in
theorem addLease_any (w:World) (x:Nat) (S:Nat->Prop) (s:Bk) (a:Int) (o:ByteArray) (hI:Inv s) (h:BkAt w x S s) :
    Calls Tryz.prog 120 #[.pointer (some ⟨x,0,none⟩),.int .u32 a,.string o] w fun e w'=>e=.returned (.tuple #[])/\∃ S',BkAt w' x S' { s with leases:=insL s.leases ⟨a,o⟩ }/\(∀ b,S' b->S b\/w.heap.size<=b)/\Chg S w w':=by
  obtain⟨vp,vn,vl,c,B⟩:=h;have hx:=B.blk.lt;have hk:∀ q:Ls,(encL q).length=2:=fun _=>rfl
  have HBA:Hid (BA w x S vp vn vl c s):=B
  have x2:w.cell? ⟨x,2,none⟩=some vl:=B.blk.cell 2
  have HX:Hid (∀ W w2,Below w.heap.size w W->W.grownBy w2 vl.ownBlock->w2.cell? ⟨x,2,none⟩=some vl/\w2.frozen? ⟨x,2,none⟩=false):=fun W w2 hW hg=>by
    have b1:Blk w2 x #[vp,vn,vl] 160:=(hg.block x (Nat.lt_of_lt_of_le hx hW.size) (fun e=>(B.apart.2.2 x e.symm).1 rfl)).trans (B.blk.below hW)
    exact⟨b1.cell 2,b1.frozen 2⟩
  have HF:Hid (Calls Tryz.prog 125 #[.pointer (some ⟨x,0,none⟩),.int .u32 a] w fun e w'=>e=.returned (.tuple #[.int .i64 (cntL s.leases a:Nat),.bool (hasL s.leases a)])/\Below w.heap.size w w'):=findL_any x s.leases a vl w x2 (Rd.of_owns hk ls0 B.ol) (by have:=hI.l;omega) hI.lu
  have hle:cntL s.leases a<=s.leases.length:=List.countP_le_length
  have hob:∀ b,vl.ownBlock=some b->b<w.heap.size:=fun b e=>(owns_lt B.ol b e).1
  have HIN:Hid (∀ Wc vb,Below w.heap.size w Wc->w.heap.size<=vb->Blk Wc vb #[.int .u32 a,.string o] 208->Calls Tryz.prog 169 #[vl,.int .i64 (cntL s.leases a:Nat),.slice (some ⟨vb,0,none⟩) 1 1] Wc fun e w'=>∃ g cap,e=.returned (.slice (some ⟨g,0,none⟩) (s.leases.length+1) cap)/\w'.ownsRow 0 208 2 (.slice (some ⟨g,0,none⟩) (s.leases.length+1) cap) (s.leases.length+1) ((insL s.leases ⟨a,o⟩).flatMap encL)/\Wc.grownBy w' vl.ownBlock/\∀ b,(Value.slice (some ⟨g,0,none⟩) (s.leases.length+1) cap).ownBlock=some b->vl.ownBlock=some b\/Wc.heap.size<=b):=fun Wc vb hW hvb hb=>by
    refine(insrL (s.leases.flatMap encL) (encL ⟨a,o⟩) s.leases.length (cntL s.leases a) vl vb Wc (owns_below B.ol hW) hle (by have:=hI.l;omega) rfl hb (fun e=>by have:=hob vb e;omega) (oneF ⟨a,o⟩) (oneL s.leases)).mono ?_
    rintro e w' ⟨g,cap,rfl,o1,o2,o3,o4⟩
    refine⟨g,cap,rfl,?_,o2,fun b e=>by obtain rfl:g=b:=(by simpa[Value.ownBlock] using e);exact o3⟩
    rw[take_flat hk,drop_flat hk] at o1;unfold insL;rw[List.flatMap_append,List.flatMap_cons,<- List.append_assoc];exact o1
  have FIX:Hid (∀ (W:World) v,W.ownsRow 0 208 2 v (s.leases.length+1) ((insL s.leases ⟨a,o⟩).flatMap encL)->W.ownsRow 0 208 2 v (insL s.leases ⟨a,o⟩).length ((insL s.leases ⟨a,o⟩).flatMap encL)):=fun W v q=>by rw[insL_len];exact q
  clear hob;generalize hob:vl.ownBlock=ob at HIN HX
  have HOB:Hid (vl.ownBlock=ob):=hob
  clear hob;generalize cntL s.leases a=cn at HF HIN hle
  generalize hasL s.leases a=fb at HF
  obtain⟨bq,cq,eq,_,_⟩:=owns_slice B.ol;subst eq;clear B hI;go_enter Tryz.func120,Tryz.ntmps120
  go_wp2_with (first|(go_at_call 125;refine HF.out.mono ?_;rintro e w1 ⟨rfl,hb1⟩;have HB1:Hid (Below w.heap.size w w1):=hb1;have y0:w1.cell? ⟨x,2,none⟩=some (.slice bq s.leases.length cq):=(hb1.cell (p:=⟨x,2,none⟩) hx).trans x2;clear hb1)|(go_at_call 169;refine(HIN.out _ _ (Below.alloc HB1.out HB1.out.size _) HB1.out.size (Blk.new w1 _ _)).mono ?_;rintro e w2 ⟨g2,cap2,rfl,o1,o2,o3⟩;obtain⟨y1,y2⟩:=HX.out _ w2 (Below.alloc HB1.out HB1.out.size _) o2;have HG:Hid (∃ Wc,Below w.heap.size w Wc/\Wc.grownBy w2 ob/\∀ b,(Value.slice (some ⟨g2,0,none⟩) (s.leases.length+1) cap2).ownBlock=some b->ob=some b\/Wc.heap.size<=b):=⟨_,Below.alloc HB1.out HB1.out.size _,o2,o3⟩;have HO:Hid (w2.ownsRow 0 208 2 (.slice (some ⟨g2,0,none⟩) (s.leases.length+1) cap2) (s.leases.length+1) ((insL s.leases ⟨a,o⟩).flatMap encL)):=o1;clear o1 o2 o3))
  first|go_end0|refine bodyPost_ret (results_none rfl _ _ _) rfl ?_
  obtain⟨Wc,hc1,hc3,hc4⟩:=HG.out;rw[<- HOB.out] at hc3 hc4;exact⟨rfl,bk_put2 HBA.out hc1 hc3 (FIX.out _ _ HO.out) hc4⟩
theorem res_new {w Wc w3 w4:World} {x:Nat} {S S3:Nat->Prop} {s':Bk} (hS:∀ b,S b->b<w.heap.size) (hW:Below w.heap.size w Wc) (hz:w.heap.size+2<=Wc.heap.size) (A:BkAt w3 x S3 s') (hs:∀ b,S3 b->S b\/Wc.heap.size<=b) (hc:Chg S Wc w3) (h4:Below w3.heap.size w3 w4) (ans:An) (he:ans.e=0) (va:Value)
    (hrd:∀ W',(∀ b,b≠w.heap.size+1->W'.heap[b]?=w4.heap[b]?)->w4.heap.size<=W'.heap.size->Rd 1 encS ⟨#[]⟩ W' va ans.s) :
    Res w x S (s',ans) (.returned (.agg #[.int .i64 0,va])) ((w4.setCell ⟨w.heap.size+1,0,none⟩ (.int .i64 0)).setCell ⟨w.heap.size+1,1,none⟩ va):=by
  have s1:=sets_other (w.heap.size+1) [.int .i64 0,va] 0 w4
  have hsz:((w4.setCell ⟨w.heap.size+1,0,none⟩ (.int .i64 0)).setCell ⟨w.heap.size+1,1,none⟩ va).heap.size=w4.heap.size:=s1.2.2.2.1
  obtain⟨vp,vn,vl,c,B⟩:=A;refine⟨va,S3,by rw[he];rfl,hrd _ (fun b hb=>s1.2.2.2.2 b hb) (by rw[hsz];exact Nat.le_refl _),⟨vp,vn,vl,c,B.same (fun b hb=>?_) (by rw[hsz];exact h4.size)⟩,fun b hb=>?_,?_⟩
  . have hb3:=B.sz b hb;refine(s1.2.2.2.2 b ?_).trans (h4.block b hb3)
    rintro rfl
    rcases hs _ hb with q|q
    . have:=hS _ q;omega
    . omega
  . rcases hs b hb with q|q
    . exact .inl q
    . exact .inr om
  . have c1:Chg S w Wc:=Chg.below hW
    exact(((c1.trans hc fun b e=>.inl e).trans (Chg.below h4:Chg S w3 w4) fun b e=>.inl e)).sets (w.heap.size+1) 0 [.int .i64 0,va] (.inr om)
theorem rd_one {w:World} {M:Nat} {t:ByteArray} (hM:M<w.heap.size) (h:w.cell? ⟨M,0,none⟩=some (.string t)):Rd 1 encS ⟨#[]⟩ w (.slice (some ⟨M,0,none⟩) 1 1) [t]:=by
  refine⟨_,1,rfl,Nat.le_refl _,by unfold maxLen;omega,fun _=>⟨M,rfl,hM,fun j hj i u hu=>?_⟩⟩
  have hj0:j=0:=by simp at hj;omega
  subst hj0;match i,hu with
  | 0,hu=>simp[encS] at hu;rw[<- hu];exact h
  | i+1,hu=>simp[encS] at hu
set_option maxRecDepth 100000 in
set_option maxHeartbeats 2000000 in
theorem block_range (w:World) (x:Nat) (S:Nat->Prop) (s:Bk) (l:Ln) (hI:Inv s) (hL:LnOk l) (h:BkAt w x S s) (h1:l.n<22) :
    Calls Tryz.prog 72 #[.pointer (some ⟨x,0,none⟩),.agg (lnC l)] w (Res w x S (s,ref 4)):=by
  obtain⟨vp,vn,vl,c,B⟩:=h;have hx:=B.blk.lt;have H:Hid (BkAt w x S s):=⟨vp,vn,vl,c,B⟩
  obtain⟨x0,x1,x2⟩:=B.c3;have LIVE:Hid (∀ wk,BW w l wk->Live w wk x vp vn vl l):=live_of l B
  have HBA:Hid (BA w x S vp vn vl c s):=B
  have hxa:¬(x=w.heap.size):=by omega
  have hxb:¬(w.heap.size=x):=by omega
  clear B;unfold lnC;go_enter Tryz.func72,Tryz.ntmps72
  go_wp2_with (go_at_call 39;refine(refuse_any 4 _).mono ?_;rintro e w9 ⟨rfl,HQ⟩;have HB9:Hid (BW w l w9):=bstep upB (by simp) HQ;clear HQ;have HW9:Hid (Below w.heap.size w w9):=(w0_below w l).trans (HB9.out.mono om);have LV9:=LIVE.out w9 HB9.out;have r0_9:=LV9.r0;have r1_9:=LV9.r1;have g0_9:=LV9.g0;have g1_9:=LV9.g1;have z1_9:=LV9.z1;clear LV9)
  have hR:=(LIVE.out w9 HB9.out).rb
  obtain⟨kk0,kk1⟩:=two_set hR (.int .i64 4) (.slice none 0 0)
  have hfin:=res_ref (l:=l) 4 H.out HB9.out
  exact bodyPost_ret (v:=.agg #[.int .i64 4,.slice none 0 0]) (by simp[results,Tryz.results72,go_sem,kk0,kk1]) rfl hfin
set_option maxRecDepth 100000 in
set_option maxHeartbeats 2000000 in
theorem block_pool (w:World) (x:Nat) (S:Nat->Prop) (s:Bk) (l:Ln) (hI:Inv s) (hL:LnOk l) (h:BkAt w x S s) (h1:¬l.n<22) (h2:spanH s.pools l.a l.n=-1) :
    Calls Tryz.prog 72 #[.pointer (some ⟨x,0,none⟩),.agg (lnC l)] w (Res w x S (s,ref 7)):=by
  obtain⟨vp,vn,vl,c,B⟩:=h;have hx:=B.blk.lt;have H:Hid (BkAt w x S s):=⟨vp,vn,vl,c,B⟩
  obtain⟨x0,x1,x2⟩:=B.c3;have LIVE:Hid (∀ wk,BW w l wk->Live w wk x vp vn vl l):=live_of l B
  have HBA:Hid (BA w x S vp vn vl c s):=B
  have hxa:¬(x=w.heap.size):=by omega
  have hxb:¬(w.heap.size=x):=by omega
  have HP:Hid (∀ Wc,Below w.heap.size w Wc->Calls Tryz.prog 114 #[vp,.agg #[.int .u32 l.a,.int .i64 l.n]] Wc fun e w'=>e=.returned (.int .i64 (spanH s.pools l.a l.n))/\Below Wc.heap.size Wc w'):=fun Wc hW=>fspanP s.pools l.a l.n vp Wc (fun q hq=>(hI.pa q hq).1) hL.a ((Rd.of_owns (k:=3) (enc:=encH) (fun _=>rfl) hd0 B.op).below hW)
  rw[h2] at HP;obtain⟨bp,cp,ep,_,_⟩:=owns_slice B.op;subst ep;clear B;unfold lnC;go_enter Tryz.func72,Tryz.ntmps72
  go_wp2;go_region_held3 (fun w'=>w'.cell? ⟨x,0,none⟩=some (.slice bp s.pools.length cp)/\w'.cell? ⟨w.heap.size,3,none⟩=some (.int .u32 l.a)/\w'.cell? ⟨w.heap.size,4,none⟩=some (.int .i64 l.n)) (go_keep) (first|(go_at_call 114;refine(HP.out _ upB).mono ?_;rintro e w1 ⟨rfl,HQ⟩;have HB1:Hid (BW w l w1):=bstep upB (by simp) HQ;clear HQ;have HW1:Hid (Below w.heap.size w w1):=(w0_below w l).trans (HB1.out.mono om);have LV1:=LIVE.out w1 HB1.out;have x0_1:=LV1.x0;have x1_1:=LV1.x1;have o_1:=LV1.o;have a_1:=LV1.a;have n_1:=LV1.n;have zx_1:=LV1.zx;have z0_1:=LV1.z0;have z1_1:=LV1.z1;have r0_1:=LV1.r0;have r1_1:=LV1.r1;have g0_1:=LV1.g0;have g1_1:=LV1.g1;clear LV1))
  all_goals (
    go_wp2_with (go_at_call 39;refine(refuse_any 7 _).mono ?_;rintro e w9 ⟨rfl,HQ⟩;have HB9:Hid (BW w l w9):=bstep (by have hp:=HB1.out;exact upB) (by simp) HQ;clear HQ;have HW9:Hid (Below w.heap.size w w9):=(w0_below w l).trans (HB9.out.mono om);have LV9:=LIVE.out w9 HB9.out;have r0_9:=LV9.r0;have r1_9:=LV9.r1;have g0_9:=LV9.g0;have g1_9:=LV9.g1;have z1_9:=LV9.z1;clear LV9)
    have hR:=(LIVE.out w9 HB9.out).rb
    obtain⟨kk0,kk1⟩:=two_set hR (.int .i64 7) (.slice none 0 0)
    have hfin:=res_ref (l:=l) 7 H.out HB9.out
    exact bodyPost_ret (v:=.agg #[.int .i64 7,.slice none 0 0]) (by simp[results,Tryz.results72,go_sem,kk0,kk1]) rfl hfin)
set_option maxRecDepth 100000 in
set_option maxHeartbeats 2000000 in
theorem block_over (w:World) (x:Nat) (S:Nat->Prop) (s:Bk) (l:Ln) (hI:Inv s) (hL:LnOk l) (h:BkAt w x S s) (h1:¬l.n<22) (k:Nat) (h2:spanH s.pools l.a l.n=k) (h3:anyH s.nets l.a l.n=true) :
    Calls Tryz.prog 72 #[.pointer (some ⟨x,0,none⟩),.agg (lnC l)] w (Res w x S (s,ref 5)):=by
  obtain⟨vp,vn,vl,c,B⟩:=h;have hx:=B.blk.lt;have H:Hid (BkAt w x S s):=⟨vp,vn,vl,c,B⟩
  obtain⟨x0,x1,x2⟩:=B.c3;have LIVE:Hid (∀ wk,BW w l wk->Live w wk x vp vn vl l):=live_of l B
  have HBA:Hid (BA w x S vp vn vl c s):=B
  have hxa:¬(x=w.heap.size):=by omega
  have hxb:¬(w.heap.size=x):=by omega
  have HP:Hid (∀ Wc,Below w.heap.size w Wc->Calls Tryz.prog 114 #[vp,.agg #[.int .u32 l.a,.int .i64 l.n]] Wc fun e w'=>e=.returned (.int .i64 (spanH s.pools l.a l.n))/\Below Wc.heap.size Wc w'):=fun Wc hW=>fspanP s.pools l.a l.n vp Wc (fun q hq=>(hI.pa q hq).1) hL.a ((Rd.of_owns (k:=3) (enc:=encH) (fun _=>rfl) hd0 B.op).below hW)
  rw[h2] at HP;have hkn:¬((k:Int)<0):=by omega
  have HN:Hid (∀ Wc,Below w.heap.size w Wc->Calls Tryz.prog 115 #[vn,.agg #[.int .u32 l.a,.int .i64 l.n]] Wc fun e w'=>e=.returned (.bool (anyH s.nets l.a l.n))/\Below Wc.heap.size Wc w'):=fun Wc hW=>anymS s.nets l.a l.n vn Wc (fun q hq=>(hI.na q hq).1) hL.a ((Rd.of_owns (k:=3) (enc:=encH) (fun _=>rfl) hd0 B.on).below hW)
  rw[h3] at HN;obtain⟨bp,cp,ep,_,_⟩:=owns_slice B.op;subst ep;obtain⟨bn,cn,en,_,_⟩:=owns_slice B.on;subst en;clear B;unfold lnC;go_enter Tryz.func72,Tryz.ntmps72
  go_wp2;go_region_held3 (fun w'=>w'.cell? ⟨x,0,none⟩=some (.slice bp s.pools.length cp)/\w'.cell? ⟨w.heap.size,3,none⟩=some (.int .u32 l.a)/\w'.cell? ⟨w.heap.size,4,none⟩=some (.int .i64 l.n)) (go_keep) (first|(go_at_call 114;refine(HP.out _ upB).mono ?_;rintro e w1 ⟨rfl,HQ⟩;have HB1:Hid (BW w l w1):=bstep upB (by simp) HQ;clear HQ;have HW1:Hid (Below w.heap.size w w1):=(w0_below w l).trans (HB1.out.mono om);have LV1:=LIVE.out w1 HB1.out;have x0_1:=LV1.x0;have x1_1:=LV1.x1;have o_1:=LV1.o;have a_1:=LV1.a;have n_1:=LV1.n;have zx_1:=LV1.zx;have z0_1:=LV1.z0;have z1_1:=LV1.z1;have r0_1:=LV1.r0;have r1_1:=LV1.r1;have g0_1:=LV1.g0;have g1_1:=LV1.g1;clear LV1))
  all_goals (
    go_wp2;go_region_held3 (fun w'=>w'.cell? ⟨x,1,none⟩=some (.slice bn s.nets.length cn)/\w'.cell? ⟨w.heap.size,3,none⟩=some (.int .u32 l.a)/\w'.cell? ⟨w.heap.size,4,none⟩=some (.int .i64 l.n)) (go_keep) (first|(go_at_call 115;refine(HN.out _ (by have hp:=HW1.out;exact upB)).mono ?_;rintro e w2 ⟨rfl,HQ⟩;have HB2:Hid (BW w l w2):=bstep (by have hp:=HB1.out;exact upB) (by simp) HQ;clear HQ;have HW2:Hid (Below w.heap.size w w2):=(w0_below w l).trans (HB2.out.mono om);have LV2:=LIVE.out w2 HB2.out;have x1_2:=LV2.x1;have o_2:=LV2.o;have a_2:=LV2.a;have n_2:=LV2.n;have zx_2:=LV2.zx;have z0_2:=LV2.z0;have z1_2:=LV2.z1;have r0_2:=LV2.r0;have r1_2:=LV2.r1;have g0_2:=LV2.g0;have g1_2:=LV2.g1;clear LV2))
    all_goals (
      go_wp2_with (go_at_call 39;refine(refuse_any 5 _).mono ?_;rintro e w9 ⟨rfl,HQ⟩;have HB9:Hid (BW w l w9):=bstep (by have hp:=HB2.out;exact upB) (by simp) HQ;clear HQ;have HW9:Hid (Below w.heap.size w w9):=(w0_below w l).trans (HB9.out.mono om);have LV9:=LIVE.out w9 HB9.out;have r0_9:=LV9.r0;have r1_9:=LV9.r1;have g0_9:=LV9.g0;have g1_9:=LV9.g1;have z1_9:=LV9.z1;clear LV9)
      have hR:=(LIVE.out w9 HB9.out).rb
      obtain⟨kk0,kk1⟩:=two_set hR (.int .i64 5) (.slice none 0 0)
      have hfin:=res_ref (l:=l) 5 H.out HB9.out
      exact bodyPost_ret (v:=.agg #[.int .i64 5,.slice none 0 0]) (by simp[results,Tryz.results72,go_sem,kk0,kk1]) rfl hfin))
set_option maxRecDepth 100000 in
set_option maxHeartbeats 2000000 in
theorem block_limit (w:World) (x:Nat) (S:Nat->Prop) (s:Bk) (l:Ln) (hI:Inv s) (hL:LnOk l) (h:BkAt w x S s) (h1:¬l.n<22) (k:Nat) (h2:spanH s.pools l.a l.n=k) (h3:anyH s.nets l.a l.n=false) (h4:24<=s.nets.length) :
    Calls Tryz.prog 72 #[.pointer (some ⟨x,0,none⟩),.agg (lnC l)] w (Res w x S (s,ref 6)):=by
  obtain⟨vp,vn,vl,c,B⟩:=h;have hx:=B.blk.lt;have H:Hid (BkAt w x S s):=⟨vp,vn,vl,c,B⟩
  obtain⟨x0,x1,x2⟩:=B.c3;have LIVE:Hid (∀ wk,BW w l wk->Live w wk x vp vn vl l):=live_of l B
  have HBA:Hid (BA w x S vp vn vl c s):=B
  have hxa:¬(x=w.heap.size):=by omega
  have hxb:¬(w.heap.size=x):=by omega
  have HP:Hid (∀ Wc,Below w.heap.size w Wc->Calls Tryz.prog 114 #[vp,.agg #[.int .u32 l.a,.int .i64 l.n]] Wc fun e w'=>e=.returned (.int .i64 (spanH s.pools l.a l.n))/\Below Wc.heap.size Wc w'):=fun Wc hW=>fspanP s.pools l.a l.n vp Wc (fun q hq=>(hI.pa q hq).1) hL.a ((Rd.of_owns (k:=3) (enc:=encH) (fun _=>rfl) hd0 B.op).below hW)
  rw[h2] at HP;have hkn:¬((k:Int)<0):=by omega
  have HN:Hid (∀ Wc,Below w.heap.size w Wc->Calls Tryz.prog 115 #[vn,.agg #[.int .u32 l.a,.int .i64 l.n]] Wc fun e w'=>e=.returned (.bool (anyH s.nets l.a l.n))/\Below Wc.heap.size Wc w'):=fun Wc hW=>anymS s.nets l.a l.n vn Wc (fun q hq=>(hI.na q hq).1) hL.a ((Rd.of_owns (k:=3) (enc:=encH) (fun _=>rfl) hd0 B.on).below hW)
  rw[h3] at HN;obtain⟨bp,cp,ep,_,_⟩:=owns_slice B.op;subst ep;obtain⟨bn,cn,en,_,_⟩:=owns_slice B.on;subst en;have h5:(24:Int)<=(s.nets.length:Int):=by omega
  clear B;unfold lnC;go_enter Tryz.func72,Tryz.ntmps72
  go_wp2;go_region_held3 (fun w'=>w'.cell? ⟨x,0,none⟩=some (.slice bp s.pools.length cp)/\w'.cell? ⟨w.heap.size,3,none⟩=some (.int .u32 l.a)/\w'.cell? ⟨w.heap.size,4,none⟩=some (.int .i64 l.n)) (go_keep) (first|(go_at_call 114;refine(HP.out _ upB).mono ?_;rintro e w1 ⟨rfl,HQ⟩;have HB1:Hid (BW w l w1):=bstep upB (by simp) HQ;clear HQ;have HW1:Hid (Below w.heap.size w w1):=(w0_below w l).trans (HB1.out.mono om);have LV1:=LIVE.out w1 HB1.out;have x0_1:=LV1.x0;have x1_1:=LV1.x1;have o_1:=LV1.o;have a_1:=LV1.a;have n_1:=LV1.n;have zx_1:=LV1.zx;have z0_1:=LV1.z0;have z1_1:=LV1.z1;have r0_1:=LV1.r0;have r1_1:=LV1.r1;have g0_1:=LV1.g0;have g1_1:=LV1.g1;clear LV1))
  all_goals (
    go_wp2;go_region_held3 (fun w'=>w'.cell? ⟨x,1,none⟩=some (.slice bn s.nets.length cn)/\w'.cell? ⟨w.heap.size,3,none⟩=some (.int .u32 l.a)/\w'.cell? ⟨w.heap.size,4,none⟩=some (.int .i64 l.n)) (go_keep) (first|(go_at_call 115;refine(HN.out _ (by have hp:=HW1.out;exact upB)).mono ?_;rintro e w2 ⟨rfl,HQ⟩;have HB2:Hid (BW w l w2):=bstep (by have hp:=HB1.out;exact upB) (by simp) HQ;clear HQ;have HW2:Hid (Below w.heap.size w w2):=(w0_below w l).trans (HB2.out.mono om);have LV2:=LIVE.out w2 HB2.out;have x1_2:=LV2.x1;have o_2:=LV2.o;have a_2:=LV2.a;have n_2:=LV2.n;have zx_2:=LV2.zx;have z0_2:=LV2.z0;have z1_2:=LV2.z1;have r0_2:=LV2.r0;have r1_2:=LV2.r1;have g0_2:=LV2.g0;have g1_2:=LV2.g1;clear LV2))
    all_goals (
      go_wp2_with (go_at_call 39;refine(refuse_any 6 _).mono ?_;rintro e w9 ⟨rfl,HQ⟩;have HB9:Hid (BW w l w9):=bstep (by have hp:=HB2.out;exact upB) (by simp) HQ;clear HQ;have HW9:Hid (Below w.heap.size w w9):=(w0_below w l).trans (HB9.out.mono om);have LV9:=LIVE.out w9 HB9.out;have r0_9:=LV9.r0;have r1_9:=LV9.r1;have g0_9:=LV9.g0;have g1_9:=LV9.g1;have z1_9:=LV9.z1;clear LV9)
      have hR:=(LIVE.out w9 HB9.out).rb
      obtain⟨kk0,kk1⟩:=two_set hR (.int .i64 6) (.slice none 0 0)
      have hfin:=res_ref (l:=l) 6 H.out HB9.out
      exact bodyPost_ret (v:=.agg #[.int .i64 6,.slice none 0 0]) (by simp[results,Tryz.results72,go_sem,kk0,kk1]) rfl hfin))
set_option maxRecDepth 100000 in
set_option maxHeartbeats 2000000 in
theorem block_ok (w:World) (x:Nat) (S:Nat->Prop) (s:Bk) (l:Ln) (hI:Inv s) (hL:LnOk l) (h:BkAt w x S s) (h1:¬l.n<22) (k:Nat) (h2:spanH s.pools l.a l.n=k) (h3:anyH s.nets l.a l.n=false) (h4:¬24<=s.nets.length) :
    Calls Tryz.prog 72 #[.pointer (some ⟨x,0,none⟩),.agg (lnC l)] w (Res w x S ({ s with nets:=insH s.nets ⟨l.a,l.n,l.o⟩ },okA)):=by
  obtain⟨vp,vn,vl,c,B⟩:=h;have hx:=B.blk.lt;have H:Hid (BkAt w x S s):=⟨vp,vn,vl,c,B⟩
  obtain⟨x0,x1,x2⟩:=B.c3;have LIVE:Hid (∀ wk,BW w l wk->Live w wk x vp vn vl l):=live_of l B
  have HBA:Hid (BA w x S vp vn vl c s):=B
  have hxa:¬(x=w.heap.size):=by omega
  have hxb:¬(w.heap.size=x):=by omega
  have HS:Hid (∀ b,S b->b<w.heap.size):=B.sz
  have HP:Hid (∀ Wc,Below w.heap.size w Wc->Calls Tryz.prog 114 #[vp,.agg #[.int .u32 l.a,.int .i64 l.n]] Wc fun e w'=>e=.returned (.int .i64 (spanH s.pools l.a l.n))/\Below Wc.heap.size Wc w'):=fun Wc hW=>fspanP s.pools l.a l.n vp Wc (fun q hq=>(hI.pa q hq).1) hL.a ((Rd.of_owns (k:=3) (enc:=encH) (fun _=>rfl) hd0 B.op).below hW)
  rw[h2] at HP;have hkn:¬((k:Int)<0):=by omega
  have HN:Hid (∀ Wc,Below w.heap.size w Wc->Calls Tryz.prog 115 #[vn,.agg #[.int .u32 l.a,.int .i64 l.n]] Wc fun e w'=>e=.returned (.bool (anyH s.nets l.a l.n))/\Below Wc.heap.size Wc w'):=fun Wc hW=>anymS s.nets l.a l.n vn Wc (fun q hq=>(hI.na q hq).1) hL.a ((Rd.of_owns (k:=3) (enc:=encH) (fun _=>rfl) hd0 B.on).below hW)
  rw[h3] at HN;have HAD:Hid (∀ Wc,Below w.heap.size w Wc->Calls Tryz.prog 112 #[.pointer (some ⟨x,0,none⟩),.agg #[.int .u32 l.a,.int .i64 l.n],.string l.o] Wc fun e w'=>e=.returned (.tuple #[])/\∃ S',BkAt w' x S' { s with nets:=insH s.nets ⟨l.a,l.n,l.o⟩ }/\(∀ b,S' b->S b\/Wc.heap.size<=b)/\Chg S Wc w'):=fun Wc hW=>addSubnet_any Wc x S s l.a l.n l.o hI (H.out.below hW)
  obtain⟨bp,cp,ep,_,_⟩:=owns_slice B.op;subst ep;obtain⟨bn,cn,en,_,_⟩:=owns_slice B.on;subst en;have h5:¬(24:Int)<=(s.nets.length:Int):=by omega
  clear B;unfold lnC;go_enter Tryz.func72,Tryz.ntmps72
  go_wp2;go_region_held3 (fun w'=>w'.cell? ⟨x,0,none⟩=some (.slice bp s.pools.length cp)/\w'.cell? ⟨w.heap.size,3,none⟩=some (.int .u32 l.a)/\w'.cell? ⟨w.heap.size,4,none⟩=some (.int .i64 l.n)) (go_keep) (first|(go_at_call 114;refine(HP.out _ upB).mono ?_;rintro e w1 ⟨rfl,HQ⟩;have HB1:Hid (BW w l w1):=bstep upB (by simp) HQ;clear HQ;have HW1:Hid (Below w.heap.size w w1):=(w0_below w l).trans (HB1.out.mono om);have LV1:=LIVE.out w1 HB1.out;have x0_1:=LV1.x0;have x1_1:=LV1.x1;have o_1:=LV1.o;have a_1:=LV1.a;have n_1:=LV1.n;have zx_1:=LV1.zx;have z0_1:=LV1.z0;have z1_1:=LV1.z1;have r0_1:=LV1.r0;have r1_1:=LV1.r1;have g0_1:=LV1.g0;have g1_1:=LV1.g1;clear LV1))
  all_goals (
    go_wp2;go_region_held3 (fun w'=>w'.cell? ⟨x,1,none⟩=some (.slice bn s.nets.length cn)/\w'.cell? ⟨w.heap.size,3,none⟩=some (.int .u32 l.a)/\w'.cell? ⟨w.heap.size,4,none⟩=some (.int .i64 l.n)) (go_keep) (first|(go_at_call 115;refine(HN.out _ (by have hp:=HW1.out;exact upB)).mono ?_;rintro e w2 ⟨rfl,HQ⟩;have HB2:Hid (BW w l w2):=bstep (by have hp:=HB1.out;exact upB) (by simp) HQ;clear HQ;have HW2:Hid (Below w.heap.size w w2):=(w0_below w l).trans (HB2.out.mono om);have LV2:=LIVE.out w2 HB2.out;have x1_2:=LV2.x1;have o_2:=LV2.o;have a_2:=LV2.a;have n_2:=LV2.n;have zx_2:=LV2.zx;have z0_2:=LV2.z0;have z1_2:=LV2.z1;have r0_2:=LV2.r0;have r1_2:=LV2.r1;have g0_2:=LV2.g0;have g1_2:=LV2.g1;clear LV2))
    all_goals (
      go_wp2_with (first|(go_at_call 112;refine(HAD.out _ (by have hp:=HW2.out;exact upB)).mono ?_;rintro e w3 ⟨rfl,S3,o1,o2,o3⟩;have HG:Hid (∃ Wc,Below w.heap.size w Wc/\w.heap.size+2<=Wc.heap.size/\(∀ b,S3 b->S b\/Wc.heap.size<=b)/\Chg S Wc w3):=⟨_,by have hp:=HW2.out;exact upB,by have hz:=HB2.out.size;simp at hz ⊢;omega,o2,o3⟩;have HA:Hid (BkAt w3 x S3 { s with nets:=insH s.nets ⟨l.a,l.n,l.o⟩ }):=o1;have RB3:Hid (Blk w3 (w.heap.size+1) #[.int .i64 0,.slice none 0 0] 98):=(o3.block _ (by have hz:=HB2.out.size;simp at hz ⊢;omega) (fun q=>by have:=HS.out _ q;omega)).trans (LIVE.out _ (by have hp:=HB2.out;exact upB)).rb;have z1_3:w.heap.size+1<w3.heap.size:=RB3.out.lt;clear o1 o2 o3)|(go_at_call 105;refine(ok_any none 0 0 _).mono ?_;rintro e w4 ⟨rfl,HQ⟩;have HQ4:Hid (Below w3.heap.size w3 w4):=HQ;have RB4:Blk w4 (w.heap.size+1) #[.int .i64 0,.slice none 0 0] 98:=(HQ.block _ z1_3).trans RB3.out;clear HQ;have HR4:Hid (Blk w4 (w.heap.size+1) #[.int .i64 0,.slice none 0 0] 98):=RB4;have r0_4:w4.cell? ⟨w.heap.size+1,0,none⟩=some (.int .i64 0):=RB4.cell 0;have r1_4:w4.cell? ⟨w.heap.size+1,1,none⟩=some (.slice none 0 0):=RB4.cell 1;have g0_4:w4.frozen? ⟨w.heap.size+1,0,none⟩=false:=RB4.frozen 0;have g1_4:w4.frozen? ⟨w.heap.size+1,1,none⟩=false:=RB4.frozen 1;clear RB4))
      obtain⟨kk0,kk1⟩:=two_set HR4.out (.int .i64 0) (.slice none 0 0)
      obtain⟨Wc,hc1,hc2,hc3,hc4⟩:=HG.out;have hfin:=res_new HS.out hc1 hc2 HA.out hc3 hc4 HQ4.out okA rfl (.slice none 0 0) (fun _ _ _=>rd_nil _ _ _ _)
      exact bodyPost_ret (v:=.agg #[.int .i64 0,.slice none 0 0]) (by simp[results,Tryz.results72,go_sem,kk0,kk1]) rfl hfin))
theorem carveJust_any (w:World) (x:Nat) (S:Nat->Prop) (s:Bk) (l:Ln) (hI:Inv s) (hL:LnOk l) (h:BkAt w x S s):Calls Tryz.prog 72 #[.pointer (some ⟨x,0,none⟩),.agg (lnC l)] w (Res w x S (doBlock s l)):=by
  unfold doBlock;by_cases h1:l.n<22
  . rw[if_pos h1];exact block_range w x S s l hI hL h h1
  . rw[if_neg h1];rcases fi_cases (spansH l.a l.n) s.pools hd0 with⟨e,_⟩|⟨k,hk,e,hp,_⟩
    . have e1:spanH s.pools l.a l.n=-1:=e
      rw[if_pos (by rw[e1];decide)];exact block_pool w x S s l hI hL h h1 e1
    . have e1:spanH s.pools l.a l.n=k:=e
      rw[if_neg (by rw[e1];omega)]
      by_cases h3:anyH s.nets l.a l.n=true
      . rw[if_pos h3];exact block_over w x S s l hI hL h h1 k e1 h3
      . rw[if_neg h3];by_cases h4:24<=s.nets.length
        . rw[if_pos h4];exact block_limit w x S s l hI hL h h1 k e1 (by simpa using h3) h4
        . rw[if_neg h4];exact block_ok w x S s l hI hL h h1 k e1 (by simpa using h3) h4
set_option maxRecDepth 100000 in
set_option maxHeartbeats 2000000 in
theorem take_none (w:World) (x:Nat) (S:Nat->Prop) (s:Bk) (l:Ln) (hI:Inv s) (hL:LnOk l) (h:BkAt w x S s) (h1:spanH s.nets l.d 32=-1) :
    Calls Tryz.prog 75 #[.pointer (some ⟨x,0,none⟩),.agg (lnC l)] w (Res w x S (s,ref 11)):=by
  obtain⟨vp,vn,vl,c,B⟩:=h;have hx:=B.blk.lt;have H:Hid (BkAt w x S s):=⟨vp,vn,vl,c,B⟩
  obtain⟨x0,x1,x2⟩:=B.c3;have LIVE:Hid (∀ wk,BW w l wk->Live w wk x vp vn vl l):=live_of l B
  have HBA:Hid (BA w x S vp vn vl c s):=B
  have hxa:¬(x=w.heap.size):=by omega
  have hxb:¬(w.heap.size=x):=by omega
  have HSP:Hid (∀ Wc,Below w.heap.size w Wc->Calls Tryz.prog 122 #[vn,.agg #[.int .u32 l.d,.int .i64 32]] Wc fun e w'=>e=.returned (.int .i64 (spanH s.nets l.d 32))/\Below Wc.heap.size Wc w'):=fun Wc hW=>fspanS s.nets l.d 32 vn Wc (fun q hq=>(hI.na q hq).1) hL.d ((Rd.of_owns (k:=3) (enc:=encH) (fun _=>rfl) hd0 B.on).below hW)
  rw[h1] at HSP;obtain⟨bn,cn,en,_,_⟩:=owns_slice B.on;subst en;clear B;unfold lnC;go_enter Tryz.func75,Tryz.ntmps75
  go_wp2;go_region_held3 (fun w'=>w'.cell? ⟨x,1,none⟩=some (.slice bn s.nets.length cn)/\w'.cell? ⟨w.heap.size,5,none⟩=some (.int .u32 l.d)) (go_keep) (first|(go_at_call 123;refine(single_any _ _).mono ?_;rintro e w1 ⟨rfl,HQ⟩;have HB1:Hid (BW w l w1):=bstep upB (by simp) HQ;clear HQ;have HW1:Hid (Below w.heap.size w w1):=(w0_below w l).trans (HB1.out.mono om);have LV1:=LIVE.out w1 HB1.out;have x1_1:=LV1.x1;have d_1:=LV1.d;have z0_1:=LV1.z0;have z1_1:=LV1.z1;clear LV1)|(go_at_call 122;refine(HSP.out _ (by have hp:=HW1.out;exact upB)).mono ?_;rintro e w2 ⟨rfl,HQ⟩;have HB2:Hid (BW w l w2):=bstep (by have hp:=HB1.out;exact upB) (by simp) HQ;clear HQ;have HW2:Hid (Below w.heap.size w w2):=(w0_below w l).trans (HB2.out.mono om);have LV2:=LIVE.out w2 HB2.out;have x1_2:=LV2.x1;have x2_2:=LV2.x2;have d_2:=LV2.d;have o_2:=LV2.o;have zx_2:=LV2.zx;have z0_2:=LV2.z0;have z1_2:=LV2.z1;have r0_2:=LV2.r0;have r1_2:=LV2.r1;have g0_2:=LV2.g0;have g1_2:=LV2.g1;clear LV2))
  all_goals (
    go_wp2_with (go_at_call 39;refine(refuse_any 11 _).mono ?_;rintro e w9 ⟨rfl,HQ⟩;have HB9:Hid (BW w l w9):=bstep (by have hp:=HB2.out;exact upB) (by simp) HQ;clear HQ;have HW9:Hid (Below w.heap.size w w9):=(w0_below w l).trans (HB9.out.mono om);have LV9:=LIVE.out w9 HB9.out;have r0_9:=LV9.r0;have r1_9:=LV9.r1;have g0_9:=LV9.g0;have g1_9:=LV9.g1;have z1_9:=LV9.z1;clear LV9)
    have hR:=(LIVE.out w9 HB9.out).rb
    obtain⟨kk0,kk1⟩:=two_set hR (.int .i64 11) (.slice none 0 0)
    have hfin:=res_ref (l:=l) 11 H.out HB9.out
    exact bodyPost_ret (v:=.agg #[.int .i64 11,.slice none 0 0]) (by simp[results,Tryz.results75,go_sem,kk0,kk1]) rfl hfin)
set_option maxRecDepth 100000 in
set_option maxHeartbeats 2000000 in
theorem take_addr (w:World) (x:Nat) (S:Nat->Prop) (s:Bk) (l:Ln) (hI:Inv s) (hL:LnOk l) (h:BkAt w x S s) (k:Nat) (q:Hd) (hk:k<s.nets.length) (h1:spanH s.nets l.d 32=k) (hq:s.nets.getD k hd0=q) (ua uz:Int) (hua:useA q.a q.n=ua) (huz:useZ q.a q.n=uz) (h2:l.d<ua\/uz<l.d) :
    Calls Tryz.prog 75 #[.pointer (some ⟨x,0,none⟩),.agg (lnC l)] w (Res w x S (s,ref 12)):=by
  obtain⟨vp,vn,vl,c,B⟩:=h;have hx:=B.blk.lt;have H:Hid (BkAt w x S s):=⟨vp,vn,vl,c,B⟩
  obtain⟨x0,x1,x2⟩:=B.c3;have LIVE:Hid (∀ wk,BW w l wk->Live w wk x vp vn vl l):=live_of l B
  have HBA:Hid (BA w x S vp vn vl c s):=B
  have hxa:¬(x=w.heap.size):=by omega
  have hxb:¬(w.heap.size=x):=by omega
  have HSP:Hid (∀ Wc,Below w.heap.size w Wc->Calls Tryz.prog 122 #[vn,.agg #[.int .u32 l.d,.int .i64 32]] Wc fun e w'=>e=.returned (.int .i64 (spanH s.nets l.d 32))/\Below Wc.heap.size Wc w'):=fun Wc hW=>fspanS s.nets l.d 32 vn Wc (fun q hq=>(hI.na q hq).1) hL.d ((Rd.of_owns (k:=3) (enc:=encH) (fun _=>rfl) hd0 B.on).below hW)
  rw[h1] at HSP;have hkk:∀ q:Hd,(encH q).length=3:=fun _=>rfl
  have hqm:q∈s.nets:=by rw[<- hq];exact getD_mem s.nets hd0 k hk
  have hqi:=hI.na q hqm;have hrd:=Rd.of_owns hkk hd0 B.on;obtain⟨bq,cq,ev,hq1,hq2,hq3⟩:=hrd;obtain⟨gq,rfl,hq4,hq5⟩:=hq3 (by intro e;rw[e] at hk;simp at hk)
  have hk5:=hq5 k hk;rw[hq] at hk5;have ROW:Hid (∀ wk,Below w.heap.size w wk->wk.cell? ⟨gq,k*3,none⟩=some (.int .u32 q.a)/\wk.cell? ⟨gq,k*3+1,none⟩=some (.int .i64 q.n)/\wk.cell? ⟨gq,k*3+2,none⟩=some (.string q.o)):=fun wk hw =>
    ⟨(hw.cell (p:=⟨gq,k*3,none⟩) hq4).trans (hk5 0 _ rfl),(hw.cell (p:=⟨gq,k*3+1,none⟩) hq4).trans (hk5 1 _ rfl),(hw.cell (p:=⟨gq,k*3+2,none⟩) hq4).trans (hk5 2 _ rfl)⟩
  have hkz:(k:Int)<(s.nets.length:Int):=by omega
  have hkn:¬((k:Int)<0):=by omega
  have hk0:(0:Int)<=(k:Int):=by omega
  have HUS:Hid (∀ Wc:World,Calls Tryz.prog 124 #[.agg #[.int .u32 q.a,.int .i64 q.n,.string q.o]] Wc fun e w'=>e=.returned (.tuple #[.int .u32 ua,.int .u32 uz])/\Below Wc.heap.size Wc w'):=fun Wc=>by rw[<- hua,<- huz];exact usable_any q Wc hqi.1 hqi.2.1
  clear hq1 hq2 hq5 hk5 hq hqm hqi;subst ev;clear hua huz;clear B;unfold lnC;go_enter Tryz.func75,Tryz.ntmps75
  go_wp2;go_region_held3 (fun w'=>w'.cell? ⟨x,1,none⟩=some (.slice (some ⟨gq,0,none⟩) s.nets.length cq)/\w'.cell? ⟨w.heap.size,5,none⟩=some (.int .u32 l.d)) (go_keep) (first|(go_at_call 123;refine(single_any _ _).mono ?_;rintro e w1 ⟨rfl,HQ⟩;have HB1:Hid (BW w l w1):=bstep upB (by simp) HQ;clear HQ;have HW1:Hid (Below w.heap.size w w1):=(w0_below w l).trans (HB1.out.mono om);have LV1:=LIVE.out w1 HB1.out;have x1_1:=LV1.x1;have d_1:=LV1.d;have z0_1:=LV1.z0;have z1_1:=LV1.z1;clear LV1)|(go_at_call 122;refine(HSP.out _ (by have hp:=HW1.out;exact upB)).mono ?_;rintro e w2 ⟨rfl,HQ⟩;have HB2:Hid (BW w l w2):=bstep (by have hp:=HB1.out;exact upB) (by simp) HQ;clear HQ;have HW2:Hid (Below w.heap.size w w2):=(w0_below w l).trans (HB2.out.mono om);have LV2:=LIVE.out w2 HB2.out;have x1_2:=LV2.x1;have x2_2:=LV2.x2;have d_2:=LV2.d;have o_2:=LV2.o;have zx_2:=LV2.zx;have z0_2:=LV2.z0;have z1_2:=LV2.z1;have r0_2:=LV2.r0;have r1_2:=LV2.r1;have g0_2:=LV2.g0;have g1_2:=LV2.g1;obtain⟨e0_2,e1_2,e2_2⟩:=ROW.out w2 HW2.out;clear LV2))
  all_goals (
    by_cases h3:l.d<ua
    . go_wp2_with (first|(go_at_call 124;refine(HUS.out _).mono ?_;rintro e w3 ⟨rfl,HQ⟩;have HB3:Hid (BW w l w3):=bstep (by have hp:=HB2.out;exact upB) (by simp) HQ;clear HQ;have HW3:Hid (Below w.heap.size w w3):=(w0_below w l).trans (HB3.out.mono om);have LV3:=LIVE.out w3 HB3.out;have x2_3:=LV3.x2;have d_3:=LV3.d;have o_3:=LV3.o;have zx_3:=LV3.zx;have z0_3:=LV3.z0;have z1_3:=LV3.z1;have r0_3:=LV3.r0;have r1_3:=LV3.r1;have g0_3:=LV3.g0;have g1_3:=LV3.g1;clear LV3)|(go_at_call 39;refine(refuse_any 12 _).mono ?_;rintro e w9 ⟨rfl,HQ⟩;have HB9:Hid (BW w l w9):=bstep (by have hp:=HB3.out;exact upB) (by simp) HQ;clear HQ;have HW9:Hid (Below w.heap.size w w9):=(w0_below w l).trans (HB9.out.mono om);have LV9:=LIVE.out w9 HB9.out;have r0_9:=LV9.r0;have r1_9:=LV9.r1;have g0_9:=LV9.g0;have g1_9:=LV9.g1;have z1_9:=LV9.z1;clear LV9))
      have hR:=(LIVE.out w9 HB9.out).rb
      obtain⟨kk0,kk1⟩:=two_set hR (.int .i64 12) (.slice none 0 0)
      have hfin:=res_ref (l:=l) 12 H.out HB9.out
      exact bodyPost_ret (v:=.agg #[.int .i64 12,.slice none 0 0]) (by simp[results,Tryz.results75,go_sem,kk0,kk1]) rfl hfin
    . have h4:uz<l.d:=by omega
      go_wp2_with (first|(go_at_call 124;refine(HUS.out _).mono ?_;rintro e w3 ⟨rfl,HQ⟩;have HB3:Hid (BW w l w3):=bstep (by have hp:=HB2.out;exact upB) (by simp) HQ;clear HQ;have HW3:Hid (Below w.heap.size w w3):=(w0_below w l).trans (HB3.out.mono om);have LV3:=LIVE.out w3 HB3.out;have x2_3:=LV3.x2;have d_3:=LV3.d;have o_3:=LV3.o;have zx_3:=LV3.zx;have z0_3:=LV3.z0;have z1_3:=LV3.z1;have r0_3:=LV3.r0;have r1_3:=LV3.r1;have g0_3:=LV3.g0;have g1_3:=LV3.g1;clear LV3)|(go_at_call 39;refine(refuse_any 12 _).mono ?_;rintro e w9 ⟨rfl,HQ⟩;have HB9:Hid (BW w l w9):=bstep (by have hp:=HB3.out;exact upB) (by simp) HQ;clear HQ;have HW9:Hid (Below w.heap.size w w9):=(w0_below w l).trans (HB9.out.mono om);have LV9:=LIVE.out w9 HB9.out;have r0_9:=LV9.r0;have r1_9:=LV9.r1;have g0_9:=LV9.g0;have g1_9:=LV9.g1;have z1_9:=LV9.z1;clear LV9))
      have hR:=(LIVE.out w9 HB9.out).rb
      obtain⟨kk0,kk1⟩:=two_set hR (.int .i64 12) (.slice none 0 0)
      have hfin:=res_ref (l:=l) 12 H.out HB9.out
      exact bodyPost_ret (v:=.agg #[.int .i64 12,.slice none 0 0]) (by simp[results,Tryz.results75,go_sem,kk0,kk1]) rfl hfin)
set_option maxRecDepth 100000 in
set_option maxHeartbeats 2000000 in
theorem take_taken (w:World) (x:Nat) (S:Nat->Prop) (s:Bk) (l:Ln) (hI:Inv s) (hL:LnOk l) (h:BkAt w x S s) (k:Nat) (q:Hd) (hk:k<s.nets.length) (h1:spanH s.nets l.d 32=k) (hq:s.nets.getD k hd0=q) (ua uz:Int) (hua:useA q.a q.n=ua) (huz:useZ q.a q.n=uz) (h2:¬l.d<ua) (h3:¬uz<l.d) (h4:hasL s.leases l.d=true) :
    Calls Tryz.prog 75 #[.pointer (some ⟨x,0,none⟩),.agg (lnC l)] w (Res w x S (s,ref 13)):=by
  obtain⟨vp,vn,vl,c,B⟩:=h;have hx:=B.blk.lt;have H:Hid (BkAt w x S s):=⟨vp,vn,vl,c,B⟩
  obtain⟨x0,x1,x2⟩:=B.c3;have LIVE:Hid (∀ wk,BW w l wk->Live w wk x vp vn vl l):=live_of l B
  have HBA:Hid (BA w x S vp vn vl c s):=B
  have hxa:¬(x=w.heap.size):=by omega
  have hxb:¬(w.heap.size=x):=by omega
  have HSP:Hid (∀ Wc,Below w.heap.size w Wc->Calls Tryz.prog 122 #[vn,.agg #[.int .u32 l.d,.int .i64 32]] Wc fun e w'=>e=.returned (.int .i64 (spanH s.nets l.d 32))/\Below Wc.heap.size Wc w'):=fun Wc hW=>fspanS s.nets l.d 32 vn Wc (fun q hq=>(hI.na q hq).1) hL.d ((Rd.of_owns (k:=3) (enc:=encH) (fun _=>rfl) hd0 B.on).below hW)
  rw[h1] at HSP;have HF:Hid (∀ Wc,Below w.heap.size w Wc->Calls Tryz.prog 125 #[.pointer (some ⟨x,0,none⟩),.int .u32 l.d] Wc fun e w'=>e=.returned (.tuple #[.int .i64 (cntL s.leases l.d:Nat),.bool (hasL s.leases l.d)])/\Below Wc.heap.size Wc w'):=fun Wc hW=>findL_any x s.leases l.d vl Wc ((hW.cell (p:=⟨x,2,none⟩) hx).trans x2) ((Rd.of_owns (k:=2) (enc:=encL) (fun _=>rfl) ls0 B.ol).below hW) (by have:=hI.l;omega) hI.lu
  rw[h4] at HF;have hkk:∀ q:Hd,(encH q).length=3:=fun _=>rfl
  have hqm:q∈s.nets:=by rw[<- hq];exact getD_mem s.nets hd0 k hk
  have hqi:=hI.na q hqm;have hrd:=Rd.of_owns hkk hd0 B.on;obtain⟨bq,cq,ev,hq1,hq2,hq3⟩:=hrd;obtain⟨gq,rfl,hq4,hq5⟩:=hq3 (by intro e;rw[e] at hk;simp at hk)
  have hk5:=hq5 k hk;rw[hq] at hk5;have ROW:Hid (∀ wk,Below w.heap.size w wk->wk.cell? ⟨gq,k*3,none⟩=some (.int .u32 q.a)/\wk.cell? ⟨gq,k*3+1,none⟩=some (.int .i64 q.n)/\wk.cell? ⟨gq,k*3+2,none⟩=some (.string q.o)):=fun wk hw =>
    ⟨(hw.cell (p:=⟨gq,k*3,none⟩) hq4).trans (hk5 0 _ rfl),(hw.cell (p:=⟨gq,k*3+1,none⟩) hq4).trans (hk5 1 _ rfl),(hw.cell (p:=⟨gq,k*3+2,none⟩) hq4).trans (hk5 2 _ rfl)⟩
  have hkz:(k:Int)<(s.nets.length:Int):=by omega
  have hkn:¬((k:Int)<0):=by omega
  have hk0:(0:Int)<=(k:Int):=by omega
  have HUS:Hid (∀ Wc:World,Calls Tryz.prog 124 #[.agg #[.int .u32 q.a,.int .i64 q.n,.string q.o]] Wc fun e w'=>e=.returned (.tuple #[.int .u32 ua,.int .u32 uz])/\Below Wc.heap.size Wc w'):=fun Wc=>by rw[<- hua,<- huz];exact usable_any q Wc hqi.1 hqi.2.1
  clear hq1 hq2 hq5 hk5 hq hqm hqi;subst ev;clear hua huz;obtain⟨bl,cl,el,_,_⟩:=owns_slice B.ol;subst el;clear B;unfold lnC;go_enter Tryz.func75,Tryz.ntmps75
  go_wp2;go_region_held3 (fun w'=>w'.cell? ⟨x,1,none⟩=some (.slice (some ⟨gq,0,none⟩) s.nets.length cq)/\w'.cell? ⟨w.heap.size,5,none⟩=some (.int .u32 l.d)) (go_keep) (first|(go_at_call 123;refine(single_any _ _).mono ?_;rintro e w1 ⟨rfl,HQ⟩;have HB1:Hid (BW w l w1):=bstep upB (by simp) HQ;clear HQ;have HW1:Hid (Below w.heap.size w w1):=(w0_below w l).trans (HB1.out.mono om);have LV1:=LIVE.out w1 HB1.out;have x1_1:=LV1.x1;have d_1:=LV1.d;have z0_1:=LV1.z0;have z1_1:=LV1.z1;clear LV1)|(go_at_call 122;refine(HSP.out _ (by have hp:=HW1.out;exact upB)).mono ?_;rintro e w2 ⟨rfl,HQ⟩;have HB2:Hid (BW w l w2):=bstep (by have hp:=HB1.out;exact upB) (by simp) HQ;clear HQ;have HW2:Hid (Below w.heap.size w w2):=(w0_below w l).trans (HB2.out.mono om);have LV2:=LIVE.out w2 HB2.out;have x1_2:=LV2.x1;have x2_2:=LV2.x2;have d_2:=LV2.d;have o_2:=LV2.o;have zx_2:=LV2.zx;have z0_2:=LV2.z0;have z1_2:=LV2.z1;have r0_2:=LV2.r0;have r1_2:=LV2.r1;have g0_2:=LV2.g0;have g1_2:=LV2.g1;obtain⟨e0_2,e1_2,e2_2⟩:=ROW.out w2 HW2.out;clear LV2))
  all_goals (
    go_wp2_with (first|(go_at_call 124;refine(HUS.out _).mono ?_;rintro e w3 ⟨rfl,HQ⟩;have HB3:Hid (BW w l w3):=bstep (by have hp:=HB2.out;exact upB) (by simp) HQ;clear HQ;have HW3:Hid (Below w.heap.size w w3):=(w0_below w l).trans (HB3.out.mono om);have LV3:=LIVE.out w3 HB3.out;have x2_3:=LV3.x2;have d_3:=LV3.d;have o_3:=LV3.o;have zx_3:=LV3.zx;have z0_3:=LV3.z0;have z1_3:=LV3.z1;have r0_3:=LV3.r0;have r1_3:=LV3.r1;have g0_3:=LV3.g0;have g1_3:=LV3.g1;clear LV3)|(go_at_call 125;refine(HF.out _ (by have hp:=HW3.out;exact upB)).mono ?_;rintro e w4 ⟨rfl,HQ⟩;have HB4:Hid (BW w l w4):=bstep (by have hp:=HB3.out;exact upB) (by simp) HQ;clear HQ;have HW4:Hid (Below w.heap.size w w4):=(w0_below w l).trans (HB4.out.mono om);have LV4:=LIVE.out w4 HB4.out;have x2_4:=LV4.x2;have d_4:=LV4.d;have o_4:=LV4.o;have zx_4:=LV4.zx;have z0_4:=LV4.z0;have z1_4:=LV4.z1;have r0_4:=LV4.r0;have r1_4:=LV4.r1;have g0_4:=LV4.g0;have g1_4:=LV4.g1;clear LV4)|(go_at_call 39;refine(refuse_any 13 _).mono ?_;rintro e w9 ⟨rfl,HQ⟩;have HB9:Hid (BW w l w9):=bstep (by have hp:=HB4.out;exact upB) (by simp) HQ;clear HQ;have HW9:Hid (Below w.heap.size w w9):=(w0_below w l).trans (HB9.out.mono om);have LV9:=LIVE.out w9 HB9.out;have r0_9:=LV9.r0;have r1_9:=LV9.r1;have g0_9:=LV9.g0;have g1_9:=LV9.g1;have z1_9:=LV9.z1;clear LV9))
    have hR:=(LIVE.out w9 HB9.out).rb
    obtain⟨kk0,kk1⟩:=two_set hR (.int .i64 13) (.slice none 0 0)
    have hfin:=res_ref (l:=l) 13 H.out HB9.out
    exact bodyPost_ret (v:=.agg #[.int .i64 13,.slice none 0 0]) (by simp[results,Tryz.results75,go_sem,kk0,kk1]) rfl hfin)
set_option maxRecDepth 100000 in
set_option maxHeartbeats 2000000 in
theorem take_limit (w:World) (x:Nat) (S:Nat->Prop) (s:Bk) (l:Ln) (hI:Inv s) (hL:LnOk l) (h:BkAt w x S s) (k:Nat) (q:Hd) (hk:k<s.nets.length) (h1:spanH s.nets l.d 32=k) (hq:s.nets.getD k hd0=q) (ua uz:Int) (hua:useA q.a q.n=ua) (huz:useZ q.a q.n=uz) (h2:¬l.d<ua) (h3:¬uz<l.d) (h4:hasL s.leases l.d=false) (h5:40<=s.leases.length) :
    Calls Tryz.prog 75 #[.pointer (some ⟨x,0,none⟩),.agg (lnC l)] w (Res w x S (s,ref 6)):=by
  obtain⟨vp,vn,vl,c,B⟩:=h;have hx:=B.blk.lt;have H:Hid (BkAt w x S s):=⟨vp,vn,vl,c,B⟩
  obtain⟨x0,x1,x2⟩:=B.c3;have LIVE:Hid (∀ wk,BW w l wk->Live w wk x vp vn vl l):=live_of l B
  have HBA:Hid (BA w x S vp vn vl c s):=B
  have hxa:¬(x=w.heap.size):=by omega
  have hxb:¬(w.heap.size=x):=by omega
  have HSP:Hid (∀ Wc,Below w.heap.size w Wc->Calls Tryz.prog 122 #[vn,.agg #[.int .u32 l.d,.int .i64 32]] Wc fun e w'=>e=.returned (.int .i64 (spanH s.nets l.d 32))/\Below Wc.heap.size Wc w'):=fun Wc hW=>fspanS s.nets l.d 32 vn Wc (fun q hq=>(hI.na q hq).1) hL.d ((Rd.of_owns (k:=3) (enc:=encH) (fun _=>rfl) hd0 B.on).below hW)
  rw[h1] at HSP;have HF:Hid (∀ Wc,Below w.heap.size w Wc->Calls Tryz.prog 125 #[.pointer (some ⟨x,0,none⟩),.int .u32 l.d] Wc fun e w'=>e=.returned (.tuple #[.int .i64 (cntL s.leases l.d:Nat),.bool (hasL s.leases l.d)])/\Below Wc.heap.size Wc w'):=fun Wc hW=>findL_any x s.leases l.d vl Wc ((hW.cell (p:=⟨x,2,none⟩) hx).trans x2) ((Rd.of_owns (k:=2) (enc:=encL) (fun _=>rfl) ls0 B.ol).below hW) (by have:=hI.l;omega) hI.lu
  rw[h4] at HF;have hkk:∀ q:Hd,(encH q).length=3:=fun _=>rfl
  have hqm:q∈s.nets:=by rw[<- hq];exact getD_mem s.nets hd0 k hk
  have hqi:=hI.na q hqm;have hrd:=Rd.of_owns hkk hd0 B.on;obtain⟨bq,cq,ev,hq1,hq2,hq3⟩:=hrd;obtain⟨gq,rfl,hq4,hq5⟩:=hq3 (by intro e;rw[e] at hk;simp at hk)
  have hk5:=hq5 k hk;rw[hq] at hk5;have ROW:Hid (∀ wk,Below w.heap.size w wk->wk.cell? ⟨gq,k*3,none⟩=some (.int .u32 q.a)/\wk.cell? ⟨gq,k*3+1,none⟩=some (.int .i64 q.n)/\wk.cell? ⟨gq,k*3+2,none⟩=some (.string q.o)):=fun wk hw =>
    ⟨(hw.cell (p:=⟨gq,k*3,none⟩) hq4).trans (hk5 0 _ rfl),(hw.cell (p:=⟨gq,k*3+1,none⟩) hq4).trans (hk5 1 _ rfl),(hw.cell (p:=⟨gq,k*3+2,none⟩) hq4).trans (hk5 2 _ rfl)⟩
  have hkz:(k:Int)<(s.nets.length:Int):=by omega
  have hkn:¬((k:Int)<0):=by omega
  have hk0:(0:Int)<=(k:Int):=by omega
  have HUS:Hid (∀ Wc:World,Calls Tryz.prog 124 #[.agg #[.int .u32 q.a,.int .i64 q.n,.string q.o]] Wc fun e w'=>e=.returned (.tuple #[.int .u32 ua,.int .u32 uz])/\Below Wc.heap.size Wc w'):=fun Wc=>by rw[<- hua,<- huz];exact usable_any q Wc hqi.1 hqi.2.1
  clear hq1 hq2 hq5 hk5 hq hqm hqi;subst ev;clear hua huz;obtain⟨bl,cl,el,_,_⟩:=owns_slice B.ol;subst el;have h6:(40:Int)<=(s.leases.length:Int):=by omega
  clear B;unfold lnC;go_enter Tryz.func75,Tryz.ntmps75
  go_wp2;go_region_held3 (fun w'=>w'.cell? ⟨x,1,none⟩=some (.slice (some ⟨gq,0,none⟩) s.nets.length cq)/\w'.cell? ⟨w.heap.size,5,none⟩=some (.int .u32 l.d)) (go_keep) (first|(go_at_call 123;refine(single_any _ _).mono ?_;rintro e w1 ⟨rfl,HQ⟩;have HB1:Hid (BW w l w1):=bstep upB (by simp) HQ;clear HQ;have HW1:Hid (Below w.heap.size w w1):=(w0_below w l).trans (HB1.out.mono om);have LV1:=LIVE.out w1 HB1.out;have x1_1:=LV1.x1;have d_1:=LV1.d;have z0_1:=LV1.z0;have z1_1:=LV1.z1;clear LV1)|(go_at_call 122;refine(HSP.out _ (by have hp:=HW1.out;exact upB)).mono ?_;rintro e w2 ⟨rfl,HQ⟩;have HB2:Hid (BW w l w2):=bstep (by have hp:=HB1.out;exact upB) (by simp) HQ;clear HQ;have HW2:Hid (Below w.heap.size w w2):=(w0_below w l).trans (HB2.out.mono om);have LV2:=LIVE.out w2 HB2.out;have x1_2:=LV2.x1;have x2_2:=LV2.x2;have d_2:=LV2.d;have o_2:=LV2.o;have zx_2:=LV2.zx;have z0_2:=LV2.z0;have z1_2:=LV2.z1;have r0_2:=LV2.r0;have r1_2:=LV2.r1;have g0_2:=LV2.g0;have g1_2:=LV2.g1;obtain⟨e0_2,e1_2,e2_2⟩:=ROW.out w2 HW2.out;clear LV2))
  all_goals (
    go_wp2_with (first|(go_at_call 124;refine(HUS.out _).mono ?_;rintro e w3 ⟨rfl,HQ⟩;have HB3:Hid (BW w l w3):=bstep (by have hp:=HB2.out;exact upB) (by simp) HQ;clear HQ;have HW3:Hid (Below w.heap.size w w3):=(w0_below w l).trans (HB3.out.mono om);have LV3:=LIVE.out w3 HB3.out;have x2_3:=LV3.x2;have d_3:=LV3.d;have o_3:=LV3.o;have zx_3:=LV3.zx;have z0_3:=LV3.z0;have z1_3:=LV3.z1;have r0_3:=LV3.r0;have r1_3:=LV3.r1;have g0_3:=LV3.g0;have g1_3:=LV3.g1;clear LV3)|(go_at_call 125;refine(HF.out _ (by have hp:=HW3.out;exact upB)).mono ?_;rintro e w4 ⟨rfl,HQ⟩;have HB4:Hid (BW w l w4):=bstep (by have hp:=HB3.out;exact upB) (by simp) HQ;clear HQ;have HW4:Hid (Below w.heap.size w w4):=(w0_below w l).trans (HB4.out.mono om);have LV4:=LIVE.out w4 HB4.out;have x2_4:=LV4.x2;have d_4:=LV4.d;have o_4:=LV4.o;have zx_4:=LV4.zx;have z0_4:=LV4.z0;have z1_4:=LV4.z1;have r0_4:=LV4.r0;have r1_4:=LV4.r1;have g0_4:=LV4.g0;have g1_4:=LV4.g1;clear LV4)|(go_at_call 39;refine(refuse_any 6 _).mono ?_;rintro e w9 ⟨rfl,HQ⟩;have HB9:Hid (BW w l w9):=bstep (by have hp:=HB4.out;exact upB) (by simp) HQ;clear HQ;have HW9:Hid (Below w.heap.size w w9):=(w0_below w l).trans (HB9.out.mono om);have LV9:=LIVE.out w9 HB9.out;have r0_9:=LV9.r0;have r1_9:=LV9.r1;have g0_9:=LV9.g0;have g1_9:=LV9.g1;have z1_9:=LV9.z1;clear LV9))
    have hR:=(LIVE.out w9 HB9.out).rb
    obtain⟨kk0,kk1⟩:=two_set hR (.int .i64 6) (.slice none 0 0)
    have hfin:=res_ref (l:=l) 6 H.out HB9.out
    exact bodyPost_ret (v:=.agg #[.int .i64 6,.slice none 0 0]) (by simp[results,Tryz.results75,go_sem,kk0,kk1]) rfl hfin)
set_option maxRecDepth 100000 in
set_option maxHeartbeats 2000000 in
theorem take_ok (w:World) (x:Nat) (S:Nat->Prop) (s:Bk) (l:Ln) (hI:Inv s) (hL:LnOk l) (h:BkAt w x S s) (k:Nat) (q:Hd) (hk:k<s.nets.length) (h1:spanH s.nets l.d 32=k) (hq:s.nets.getD k hd0=q) (ua uz:Int) (hua:useA q.a q.n=ua) (huz:useZ q.a q.n=uz) (h2:¬l.d<ua) (h3:¬uz<l.d) (h4:hasL s.leases l.d=false) (h5:¬40<=s.leases.length) :
    Calls Tryz.prog 75 #[.pointer (some ⟨x,0,none⟩),.agg (lnC l)] w (Res w x S ({ s with leases:=insL s.leases ⟨l.d,l.o⟩ },okA)):=by
  obtain⟨vp,vn,vl,c,B⟩:=h;have hx:=B.blk.lt;have H:Hid (BkAt w x S s):=⟨vp,vn,vl,c,B⟩
  obtain⟨x0,x1,x2⟩:=B.c3;have LIVE:Hid (∀ wk,BW w l wk->Live w wk x vp vn vl l):=live_of l B
  have HBA:Hid (BA w x S vp vn vl c s):=B
  have hxa:¬(x=w.heap.size):=by omega
  have hxb:¬(w.heap.size=x):=by omega
  have HS:Hid (∀ b,S b->b<w.heap.size):=B.sz
  have HSP:Hid (∀ Wc,Below w.heap.size w Wc->Calls Tryz.prog 122 #[vn,.agg #[.int .u32 l.d,.int .i64 32]] Wc fun e w'=>e=.returned (.int .i64 (spanH s.nets l.d 32))/\Below Wc.heap.size Wc w'):=fun Wc hW=>fspanS s.nets l.d 32 vn Wc (fun q hq=>(hI.na q hq).1) hL.d ((Rd.of_owns (k:=3) (enc:=encH) (fun _=>rfl) hd0 B.on).below hW)
  rw[h1] at HSP;have HF:Hid (∀ Wc,Below w.heap.size w Wc->Calls Tryz.prog 125 #[.pointer (some ⟨x,0,none⟩),.int .u32 l.d] Wc fun e w'=>e=.returned (.tuple #[.int .i64 (cntL s.leases l.d:Nat),.bool (hasL s.leases l.d)])/\Below Wc.heap.size Wc w'):=fun Wc hW=>findL_any x s.leases l.d vl Wc ((hW.cell (p:=⟨x,2,none⟩) hx).trans x2) ((Rd.of_owns (k:=2) (enc:=encL) (fun _=>rfl) ls0 B.ol).below hW) (by have:=hI.l;omega) hI.lu
  rw[h4] at HF;have HAD:Hid (∀ Wc,Below w.heap.size w Wc->Calls Tryz.prog 120 #[.pointer (some ⟨x,0,none⟩),.int .u32 l.d,.string l.o] Wc fun e w'=>e=.returned (.tuple #[])/\∃ S',BkAt w' x S' { s with leases:=insL s.leases ⟨l.d,l.o⟩ }/\(∀ b,S' b->S b\/Wc.heap.size<=b)/\Chg S Wc w'):=fun Wc hW=>addLease_any Wc x S s l.d l.o hI (H.out.below hW)
  have hkk:∀ q:Hd,(encH q).length=3:=fun _=>rfl
  have hqm:q∈s.nets:=by rw[<- hq];exact getD_mem s.nets hd0 k hk
  have hqi:=hI.na q hqm;have hrd:=Rd.of_owns hkk hd0 B.on;obtain⟨bq,cq,ev,hq1,hq2,hq3⟩:=hrd;obtain⟨gq,rfl,hq4,hq5⟩:=hq3 (by intro e;rw[e] at hk;simp at hk)
  have hk5:=hq5 k hk;rw[hq] at hk5;have ROW:Hid (∀ wk,Below w.heap.size w wk->wk.cell? ⟨gq,k*3,none⟩=some (.int .u32 q.a)/\wk.cell? ⟨gq,k*3+1,none⟩=some (.int .i64 q.n)/\wk.cell? ⟨gq,k*3+2,none⟩=some (.string q.o)):=fun wk hw =>
    ⟨(hw.cell (p:=⟨gq,k*3,none⟩) hq4).trans (hk5 0 _ rfl),(hw.cell (p:=⟨gq,k*3+1,none⟩) hq4).trans (hk5 1 _ rfl),(hw.cell (p:=⟨gq,k*3+2,none⟩) hq4).trans (hk5 2 _ rfl)⟩
  have hkz:(k:Int)<(s.nets.length:Int):=by omega
  have hkn:¬((k:Int)<0):=by omega
  have hk0:(0:Int)<=(k:Int):=by omega
  have HUS:Hid (∀ Wc:World,Calls Tryz.prog 124 #[.agg #[.int .u32 q.a,.int .i64 q.n,.string q.o]] Wc fun e w'=>e=.returned (.tuple #[.int .u32 ua,.int .u32 uz])/\Below Wc.heap.size Wc w'):=fun Wc=>by rw[<- hua,<- huz];exact usable_any q Wc hqi.1 hqi.2.1
  clear hq1 hq2 hq5 hk5 hq hqm hqi;subst ev;clear hua huz;obtain⟨bl,cl,el,_,_⟩:=owns_slice B.ol;subst el;have h6:¬(40:Int)<=(s.leases.length:Int):=by omega
  clear B;unfold lnC;go_enter Tryz.func75,Tryz.ntmps75
  go_wp2;go_region_held3 (fun w'=>w'.cell? ⟨x,1,none⟩=some (.slice (some ⟨gq,0,none⟩) s.nets.length cq)/\w'.cell? ⟨w.heap.size,5,none⟩=some (.int .u32 l.d)) (go_keep) (first|(go_at_call 123;refine(single_any _ _).mono ?_;rintro e w1 ⟨rfl,HQ⟩;have HB1:Hid (BW w l w1):=bstep upB (by simp) HQ;clear HQ;have HW1:Hid (Below w.heap.size w w1):=(w0_below w l).trans (HB1.out.mono om);have LV1:=LIVE.out w1 HB1.out;have x1_1:=LV1.x1;have d_1:=LV1.d;have z0_1:=LV1.z0;have z1_1:=LV1.z1;clear LV1)|(go_at_call 122;refine(HSP.out _ (by have hp:=HW1.out;exact upB)).mono ?_;rintro e w2 ⟨rfl,HQ⟩;have HB2:Hid (BW w l w2):=bstep (by have hp:=HB1.out;exact upB) (by simp) HQ;clear HQ;have HW2:Hid (Below w.heap.size w w2):=(w0_below w l).trans (HB2.out.mono om);have LV2:=LIVE.out w2 HB2.out;have x1_2:=LV2.x1;have x2_2:=LV2.x2;have d_2:=LV2.d;have o_2:=LV2.o;have zx_2:=LV2.zx;have z0_2:=LV2.z0;have z1_2:=LV2.z1;have r0_2:=LV2.r0;have r1_2:=LV2.r1;have g0_2:=LV2.g0;have g1_2:=LV2.g1;obtain⟨e0_2,e1_2,e2_2⟩:=ROW.out w2 HW2.out;clear LV2))
  all_goals (
    go_wp2_with (first|(go_at_call 124;refine(HUS.out _).mono ?_;rintro e w3 ⟨rfl,HQ⟩;have HB3:Hid (BW w l w3):=bstep (by have hp:=HB2.out;exact upB) (by simp) HQ;clear HQ;have HW3:Hid (Below w.heap.size w w3):=(w0_below w l).trans (HB3.out.mono om);have LV3:=LIVE.out w3 HB3.out;have x2_3:=LV3.x2;have d_3:=LV3.d;have o_3:=LV3.o;have zx_3:=LV3.zx;have z0_3:=LV3.z0;have z1_3:=LV3.z1;have r0_3:=LV3.r0;have r1_3:=LV3.r1;have g0_3:=LV3.g0;have g1_3:=LV3.g1;clear LV3)|(go_at_call 125;refine(HF.out _ (by have hp:=HW3.out;exact upB)).mono ?_;rintro e w4 ⟨rfl,HQ⟩;have HB4:Hid (BW w l w4):=bstep (by have hp:=HB3.out;exact upB) (by simp) HQ;clear HQ;have HW4:Hid (Below w.heap.size w w4):=(w0_below w l).trans (HB4.out.mono om);have LV4:=LIVE.out w4 HB4.out;have x2_4:=LV4.x2;have d_4:=LV4.d;have o_4:=LV4.o;have zx_4:=LV4.zx;have z0_4:=LV4.z0;have z1_4:=LV4.z1;have r0_4:=LV4.r0;have r1_4:=LV4.r1;have g0_4:=LV4.g0;have g1_4:=LV4.g1;clear LV4)|(go_at_call 120;refine(HAD.out _ (by have hp:=HW4.out;exact upB)).mono ?_;rintro e w5 ⟨rfl,S3,o1,o2,o3⟩;have HG:Hid (∃ Wc,Below w.heap.size w Wc/\w.heap.size+2<=Wc.heap.size/\(∀ b,S3 b->S b\/Wc.heap.size<=b)/\Chg S Wc w5):=⟨_,by have hp:=HW4.out;exact upB,by have hz:=HB4.out.size;simp at hz ⊢;omega,o2,o3⟩;have HA:Hid (BkAt w5 x S3 { s with leases:=insL s.leases ⟨l.d,l.o⟩ }):=o1;have RB5:Hid (Blk w5 (w.heap.size+1) #[.int .i64 0,.slice none 0 0] 98):=(o3.block _ (by have hz:=HB4.out.size;simp at hz ⊢;omega) (fun q=>by have:=HS.out _ q;omega)).trans (LIVE.out _ (by have hp:=HB4.out;exact upB)).rb;have z1_5:w.heap.size+1<w5.heap.size:=RB5.out.lt;clear o1 o2 o3)|(go_at_call 105;refine(ok_any none 0 0 _).mono ?_;rintro e w6 ⟨rfl,HQ⟩;have HQ6:Hid (Below w5.heap.size w5 w6):=HQ;have RB6:Blk w6 (w.heap.size+1) #[.int .i64 0,.slice none 0 0] 98:=(HQ.block _ z1_5).trans RB5.out;clear HQ;have HR6:Hid (Blk w6 (w.heap.size+1) #[.int .i64 0,.slice none 0 0] 98):=RB6;have r0_6:w6.cell? ⟨w.heap.size+1,0,none⟩=some (.int .i64 0):=RB6.cell 0;have r1_6:w6.cell? ⟨w.heap.size+1,1,none⟩=some (.slice none 0 0):=RB6.cell 1;have g0_6:w6.frozen? ⟨w.heap.size+1,0,none⟩=false:=RB6.frozen 0;have g1_6:w6.frozen? ⟨w.heap.size+1,1,none⟩=false:=RB6.frozen 1;clear RB6))
    obtain⟨kk0,kk1⟩:=two_set HR6.out (.int .i64 0) (.slice none 0 0)
    obtain⟨Wc,hc1,hc2,hc3,hc4⟩:=HG.out;have hfin:=res_new HS.out hc1 hc2 HA.out hc3 hc4 HQ6.out okA rfl (.slice none 0 0) (fun _ _ _=>rd_nil _ _ _ _)
    exact bodyPost_ret (v:=.agg #[.int .i64 0,.slice none 0 0]) (by simp[results,Tryz.results75,go_sem,kk0,kk1]) rfl hfin)
theorem take_any (w:World) (x:Nat) (S:Nat->Prop) (s:Bk) (l:Ln) (hI:Inv s) (hL:LnOk l) (h:BkAt w x S s):Calls Tryz.prog 75 #[.pointer (some ⟨x,0,none⟩),.agg (lnC l)] w (Res w x S (doTake s l)):=by
  unfold doTake;rcases fi_cases (spansH l.d 32) s.nets hd0 with⟨e,_⟩|⟨k,hk,e,hp,_⟩
  . have e1:spanH s.nets l.d 32=-1:=e
    rw[if_pos (by rw[e1];decide)];exact take_none w x S s l hI hL h e1
  . have e1:spanH s.nets l.d 32=k:=e
    have e2:(spanH s.nets l.d 32).toNat=k:=by rw[e1];omega
    rw[if_neg (by rw[e1];omega),e2]
    by_cases h2:l.d<useA (s.nets.getD k hd0).a (s.nets.getD k hd0).n\/useZ (s.nets.getD k hd0).a (s.nets.getD k hd0).n<l.d
    . rw[if_pos h2];exact take_addr w x S s l hI hL h k _ hk e1 rfl _ _ rfl rfl h2
    . rw[if_neg h2];have n1:¬l.d<useA (s.nets.getD k hd0).a (s.nets.getD k hd0).n:=fun q=>h2 (.inl q)
      have n2:¬useZ (s.nets.getD k hd0).a (s.nets.getD k hd0).n<l.d:=fun q=>h2 (.inr q)
      by_cases h4:hasL s.leases l.d=true
      . rw[if_pos h4];exact take_taken w x S s l hI hL h k _ hk e1 rfl _ _ rfl rfl n1 n2 h4
      . rw[if_neg h4];by_cases h5:40<=s.leases.length
        . rw[if_pos h5];exact take_limit w x S s l hI hL h k _ hk e1 rfl _ _ rfl rfl n1 n2 (by simpa using h4) h5
        . rw[if_neg h5];exact take_ok w x S s l hI hL h k _ hk e1 rfl _ _ rfl rfl n1 n2 (by simpa using h4) h5
end Go.Proofs.YtjnhhnbgjjkkjaaGreatDoor
