/-
  CmB, OpB, CmC, BkDd, SnG, BkDe, BkHb, BkTl
-/
import Derived.Test.YtjnhhnbgjjkkjaaGreatDoorBesidesPAA
import Derived.Test.YtjnhhnbgjjkkjaaGreatDoorBesidesPBK
import Derived.Test.YtjnhhnbgjjkkjaaGreatDoorBesidesPBH
import Derived.Test.YtjnhhnbgjjkkjaaGreatDoorBesidesPBJ
import Derived.Test.YtjnhhnbgjjkkjaaGreatDoorBesidesPAW
import Derived.Test.YtjnhhnbgjjkkjaaGreatDoorBesidesPBB
import Derived.Test.YtjnhhnbgjjkkjaaGreatDoorBesidesPAH
import Derived.Test.YtjnhhnbgjjkkjaaGreatDoorBesidesPBA
import Derived.Test.YtjnhhnbgjjkkjaaGreatDoorBesidesPBO
namespace Go.Proofs.YtjnhhnbgjjkkjaaGreatDoor
open Go.Conc Go.RowKit
set_option linter.unusedVariables false
set_option linter.unusedSimpArgs false
def AnS (a:An):Prop:=a.s.length<=1/\∀ t,t∈a.s->t.size<=18
theorem ref_s (k:Nat):AnS (ref k):=⟨by simp[ref],by simp[ref]⟩
theorem okA_s:AnS okA:=⟨by simp[okA],by simp[okA]⟩
theorem tell1_s (t:ByteArray) (h:t.size<=18):AnS (tell1 t):=⟨by simp[tell1],by simpa[tell1] using h⟩
theorem ans_s {s:Bk} {l:Ln} (hI:Inv s) (hL:LnOk l) (hv:l.v<8):AnS (doLn s l).2:=by
  have hc:l.v=0\/l.v=1\/l.v=2\/l.v=3\/l.v=4\/l.v=5\/l.v=6\/l.v=7:=by omega
  unfold doLn;rcases hc with e|e|e|e|e|e|e|e<;>rw[e]
  . show AnS (doPool s l).2
    unfold doPool;repeat' (first|exact ref_s _|exact okA_s|split)
  . show AnS (doDrop s l).2
    unfold doDrop;repeat' (first|exact ref_s _|exact okA_s|split)
  . show AnS (doNet s l).2
    unfold doNet;split;· exact ref_s 7
    split;· exact ref_s 4
    rcases hb:best (frees 33 (netsOf s.nets l.a l.n) l.a l.n) l.g with _|b
    . exact ref_s 10
    . dsimp only;split
      . exact ref_s 6
      . refine tell1_s _ ?_
        rw[size_of];rcases best_mem _ _ _ hb with⟨q1,q2⟩|q
        . have h1:=frees_rt (netsOf s.nets l.a l.n) (fun h hh=>(rt_iff.1 (hI.na h (List.mem_filter.1 hh).1).2.1).2.1) 33 l.a l.n hL.a hL.r b q1
          exact bText_lenC (n:=l.g) h1.1 hL.g0 hL.g1
        . cases q
  . show AnS (doBlock s l).2
    unfold doBlock;repeat' (first|exact ref_s _|exact okA_s|split)
  . show AnS (doFree s l).2
    unfold doFree;repeat' (first|exact ref_s _|exact okA_s|split)
  . show AnS (doLease s l).2
    unfold doLease;split;· exact ref_s 11
    rcases hb:least s.leases l.a l.n with _|d
    . exact ref_s 10
    . dsimp only;split
      . exact ref_s 6
      . refine tell1_s _ ?_
        have:=least_ad hL.a hL.r hb
        have h2:=dot_lenB d.toNat (by have h3:=this.1;have h4:=this.2;omega)
        rw[size_of];omega
  . show AnS (doTake s l).2
    unfold doTake;repeat' (first|exact ref_s _|exact okA_s|split)
  . show AnS (doGive s l).2
    unfold doGive;repeat' (first|exact ref_s _|exact okA_s|split)
theorem anText_s {a:An} (h:AnS a) (he:a.e=0):(anText a).length<=40:=by
  unfold anText;rw[if_pos he];obtain⟨h1,h2⟩:=h;have h3:=flat_le (fun t:ByteArray=>32::t.data.toList) 19 a.s (fun t ht=>by have:=h2 t ht;have e:=data_len t;simp only[List.length_cons];omega)
  have h4:19*a.s.length<=19*1:=Nat.mul_le_mul_left _ h1
  simp only[List.length_append,List.length_cons,List.length_nil]
  omega
structure CP where
  s:Bk
  A:PD
  dn:Bool
  r:ByteArray
def newTk (s:Bk) (l:Ln) (line:ByteArray):Tk:=⟨l.t,line,⟨(anText (doLn s l).2).toArray⟩⟩
def doneS (s:Bk) (l:Ln) (line:ByteArray):Bk:={ (doLn s l).1 with toks:=addT s.toks (newTk s l line) }
def cmdP (s:Bk) (A:PD) (l:Ln) (line:ByteArray):CP :=
  match findT s.toks l.t with
  | some x=>⟨s,A,false,if x.l≠line then ⟨(anText (ref 3)).toArray⟩ else x.r⟩
  | none=>if (doLn s l).2.e=0 then ⟨doneS s l line,(putT A (snapT (doneS s l line))).1,!(putT A (snapT (doneS s l line))).2,if (putT A (snapT (doneS s l line))).2=true then ⟨(anText (doLn s l).2).toArray⟩ else ⟨#[]⟩⟩ else ⟨(doLn s l).1,A,false,⟨(anText (doLn s l).2).toArray⟩⟩
def TkB (x:Tk):Prop:=x.l.size<=100/\x.r.size<=40
theorem addT_lenB {l:List Tk} (x:Tk) (h:l.length<=8):(addT l x).length<=8:=by
  unfold addT;split<;>simp<;>omega
theorem addT_ne (l:List Tk) (x:Tk):addT l x≠[]:=by unfold addT;simp
theorem inv_tk {s:Bk} (h:Inv s) {T:List Tk} (hT:T.length<=8):Inv { s with toks:=T }:=⟨h.p,h.n,h.l,hT,h.pa,h.na,h.la,h.pu,h.nu,h.lu⟩
theorem done_inv {s:Bk} {l:Ln} (hI:Inv s) (hL:LnOk l) (line:ByteArray):Inv (doneS s l line):=inv_tk (inv_ln hI hL) (addT_lenB _ hI.t)
theorem done_tk {s:Bk} {l:Ln} {line:ByteArray} (hI:Inv s) (hL:LnOk l) (hv:l.v<8) (he:(doLn s l).2.e=0) (hs:line.size<=100) (hT:∀ x,x∈s.toks->TkB x):∀ x,x∈(doneS s l line).toks->TkB x:=by
  intro x hx;rcases addT_mem hx with h|rfl
  . exact hT x h
  . exact⟨hs,by show (⟨(anText (doLn s l).2).toArray⟩:ByteArray).size<=40;rw[size_of];exact anText_s (ans_s hI hL hv) he⟩
theorem BA.mono {w:World} {x:Nat} {S S':Nat->Prop} {vp vn vl:Value} {c:Nat} {s:Bk} (h:BA w x S vp vn vl c s) (hs:∀ b,S b->S' b) (hz:∀ b,S' b->b<w.heap.size):BA w x S' vp vn vl c s :=
  ⟨h.blk,trivial,h.op,h.on,h.ol,hs _ h.sx,trivial,fun b e=>hs b (h.sp b e),fun b e=>hs b (h.sn b e),fun b e=>hs b (h.sl b e),hz⟩
theorem BkAt.tk {w:World} {x:Nat} {S:Nat->Prop} {s:Bk} (h:BkAt w x S s) (T:List Tk):BkAt w x S { s with toks:=T }:=by
  obtain⟨vp,vn,vl,c,B⟩:=h;exact⟨vp,vn,vl,c,B.blk,trivial,B.op,B.on,B.ol,B.sx,trivial,B.sp,B.sn,B.sl,B.sz⟩
def RBk (ρ:Nat->Nat) (k:Nat) (b:Nat):Prop:=ρ b=4*k+2
def acreB (d b c:Nat) (dn:Bool):Array Value:=#[.pointer (some ⟨d,0,none⟩),.pointer (some ⟨b,0,none⟩),.chan (some c),.bool dn]
structure AC (ρ:Nat->Nat) (k:Nat) (W:World) (x d b c:Nat) (s:Bk) (A:PD) (dn:Bool):Prop where
  blk:Blk W x (acreB d b c dn) 90
  bk:BkAt W b (RBk ρ k) s
  ch:Ch W c s.toks
  dk:DAt ρ k W d A
  rx:ρ x=4*k+4
  rc:ρ c=4*k+4
  cl:Clean ρ W
def AB (ρ:Nat->Nat) (k:Nat) (W:World) (x:Nat) (s:Bk) (A:PD) (dn:Bool):Prop:=∃ d b c,AC ρ k W x d b c s A dn
def ROk (k r:Nat):Prop:=r=4*k+1\/r=4*k+2\/r=4*k+3\/r=4*k+4
theorem AC.xc {ρ:Nat->Nat} {k:Nat} {W:World} {x d b c:Nat} {s:Bk} {A:PD} {dn:Bool} (h:AC ρ k W x d b c s A dn):x≠c:=by
  rintro rfl
  obtain⟨s1,r1,hc⟩:=h.ch;have hx:=h.blk;unfold Blk at hx;rw[hx] at hc;simp at hc
theorem toAC {ρ:Nat->Nat} {k:Nat} {w W:World} {x d b c:Nat} {s s':Bk} {A:PD} {dn:Bool} (h:AC ρ k w x d b c s A dn) {S':Nat->Prop} (hb:BkAt W b S' s') (hS:∀ q,S' q->RBk ρ k q\/w.heap.size<=q) (hc:Ch W c s'.toks) (hx:Blk W x (acreB d b c dn) 90) (hg:Chg (fun q=>RBk ρ k q\/q=c) w W) :
    ∃ ρ',AC ρ' k W x d b c s' A dn/\Stp (fun r=>r=4*k+2\/r=4*k+4) ρ ρ' w W:=by
  classical
  obtain⟨ρ',hr'⟩:∃ ρ':Nat->Nat,ρ'=fun q=>if q<w.heap.size then ρ q else if S' q then 4*k+2 else 0:=⟨_,rfl⟩
  have r1:∀ q,q<w.heap.size->ρ' q=ρ q:=fun q hq=>by rw[hr'];exact if_pos hq
  have r2:∀ q,w.heap.size<=q->S' q->ρ' q=4*k+2:=fun q hq hs=>by rw[hr'];show (if _ then _ else _)=_;rw[if_neg om,if_pos hs]
  have r3:∀ q,w.heap.size<=q->¬S' q->ρ' q=0:=fun q hq hs=>by rw[hr'];show (if _ then _ else _)=_;rw[if_neg om,if_neg hs]
  obtain⟨vp,vn,vl,z,B⟩:=hb;have hcl:Clean ρ' W:=fun q hq=>r3 q (Nat.le_trans hg.size hq) (fun e=>by have:=B.sz q e;omega)
  have hst:Stp (fun r=>r=4*k+2\/r=4*k+4) ρ ρ' w W:=⟨hg.os,hg.tape,hg.output,hg.size,r1,fun q hq hr=>hg.block q hq (fun e=>hr (e.elim (fun e=>.inl e) (fun e=>.inr (by rw[e];exact h.rc)))),hcl⟩
  have hsz:∀ q,RBk ρ' k q->q<W.heap.size:=fun q hq=>by
    rcases Nat.lt_or_ge q W.heap.size with e|e
    . exact e
    . have:=hcl q e;unfold RBk at hq;omega
  refine⟨ρ',⟨hx,⟨vp,vn,vl,z,B.mono (fun q e=>?_) hsz⟩,hc,h.dk.step hst om om om,?_,?_,hcl⟩,hst⟩
  . rcases Nat.lt_or_ge q w.heap.size with hq|hq
    . rcases hS q e with e'|e'
      . exact(r1 q hq).trans e'
      . omega
    . exact r2 q hq e
  . exact(r1 x h.blk.lt).trans h.rx
  . exact(r1 c h.ch.lt).trans h.rc
theorem AC.disk {ρ ρ':Nat->Nat} {k:Nat} {w W:World} {x d b c:Nat} {s:Bk} {A A':PD} {dn:Bool} (h:AC ρ k w x d b c s A dn) (hd:DAt ρ' k W d A') (hs:Stp (RDk k) ρ ρ' w W):AC ρ' k W x d b c s A' dn:=by
  have n4:¬RDk k (4*k+4):=SWr.four k
  have n2:¬RDk k (4*k+2):=by unfold RDk;omega
  have hsz:∀ q,RBk ρ' k q->q<W.heap.size:=fun q hq=>by
    rcases Nat.lt_or_ge q W.heap.size with e|e
    . exact e
    . have:=hs.clean q e;unfold RBk at hq;omega
  obtain⟨vp,vn,vl,z,B⟩:=h.bk;have B1:BA W b (RBk ρ k) vp vn vl z s:=B.same (fun q e=>hs.block q (B.sz q e) (by rw[show ρ q=4*k+2 from e];exact n2)) hs.size
  exact⟨h.blk.step hs (by rw[h.rx];exact n4),⟨vp,vn,vl,z,B1.mono (fun q e=>(hs.role q (B.sz q e)).trans e) hsz⟩,h.ch.same (hs.block c h.ch.lt (by rw[h.rc];exact n4)),hd,(hs.role x h.blk.lt).trans h.rx,(hs.role c h.ch.lt).trans h.rc,hs.clean⟩
theorem AC.down {ρ:Nat->Nat} {k:Nat} {W:World} {x d b c:Nat} {s:Bk} {A:PD} (h:AC ρ k W x d b c s A false):AC ρ k (W.setCell ⟨x,3,none⟩ (.bool true)) x d b c s A true/\Stp (fun r=>r=4*k+4) ρ ρ W (W.setCell ⟨x,3,none⟩ (.bool true)):=by
  have S:Stp (fun r=>r=4*k+4) ρ ρ W (W.setCell ⟨x,3,none⟩ (.bool true)):=Stp.set h.cl h.rx 3 _
  have hb:∀ q,q≠x->(W.setCell ⟨x,3,none⟩ (.bool true)).heap[q]?=W.heap[q]?:=fun q hq=>Below.heap_setCell _ _ _ _ hq
  have hz:(W.setCell ⟨x,3,none⟩ (.bool true)).heap.size=W.heap.size:=by simp[World.setCell]
  obtain⟨vp,vn,vl,z,B⟩:=h.bk;refine⟨⟨?_,⟨vp,vn,vl,z,B.same (fun q e=>hb q (by rintro rfl;have:=h.rx;unfold RBk at e;omega)) (by rw[hz];exact Nat.le_refl _)⟩,h.ch.same (hb c (fun e=>h.xc e.symm)),h.dk.step S om om om,h.rx,h.rc,S.clean⟩,S⟩
  have:=h.blk.set 3 (.bool true)
  simpa[acreB] using this
def DoR3 (ρ:Nat->Nat) (k:Nat) (w:World) (x d b c:Nat) (p:CP) (e:Ending) (w':World):Prop:=e=.returned (.string p.r)/\∃ ρ',AC ρ' k w' x d b c p.s p.A p.dn/\Stp (ROk k) ρ ρ' w w'
end Go.Proofs.YtjnhhnbgjjkkjaaGreatDoor
namespace Go.Proofs.YtjnhhnbgjjkkjaaGreatDoor
open Go.ChangeShapes Go.WideShapes Go.ChangeAt Go.RowKit
set_option linter.unusedVariables false
set_option linter.unusedSimpArgs false
set_option maxHeartbeats 400000 in
theorem on_any (d:Nat) (w:World):Calls Tryz.prog 46 #[.pointer (some ⟨d,0,none⟩)] w fun e w'=>e=.returned (.agg #[.pointer (some ⟨d,0,none⟩)])/\Below w.heap.size w w':=by
  go_enter Tryz.func46,Tryz.ntmps46
  go_wp2;go_returns
  exact⟨rfl,upB⟩
set_option maxRecDepth 100000 in
set_option maxHeartbeats 1000000 in
theorem open_go (d:Nat) (w:World) (Z:Nat->Nat->World->Prop) (R:Ending->World->Prop)
    (HS:Hid (Calls Tryz.prog 31 #[.pointer (some ⟨d,0,none⟩)] w fun e w'=>e=.returned (.bool false)/\w'=w))
    (HO:Hid (∀ W,Calls Tryz.prog 46 #[.pointer (some ⟨d,0,none⟩)] W fun e w'=>e=.returned (.agg #[.pointer (some ⟨d,0,none⟩)])/\Below W.heap.size W w'))
    (HT:Hid (∀ W,Below w.heap.size w W->Calls Tryz.prog 48 #[.agg #[.pointer (some ⟨d,0,none⟩)]] W fun e w'=>e=.returned (.string ⟨#[]⟩)/\Below W.heap.size W w'))
    (HR:Hid (∀ W,Below w.heap.size w W->Calls Tryz.prog 47 #[.string ⟨#[]⟩] W fun e w'=>∃ b c,e=.returned (.tuple #[.pointer (some ⟨b,0,none⟩),.agg #[.chan (some c)],.bool true])/\Below W.heap.size W w'/\Z b c w'))
    (HZ:Hid (∀ b c W W',Z b c W->Below W.heap.size W W'->Z b c W'))
    (F:Hid (∀ b c W W',Below w.heap.size w W->Z b c W->W'=W.alloc (.cells (acreB d b c false) 90)->R (.returned (.tuple #[.pointer (some ⟨W.heap.size,0,none⟩),.int .i64 0])) W')) :
    Calls Tryz.prog 27 #[.pointer (some ⟨d,0,none⟩)] w R:=by
  go_enter Tryz.func27,Tryz.ntmps27
  go_wp2_with (first
    | (go_at_call 31;refine HS.out.mono ?_;rintro e w1 ⟨rfl,h1⟩;obtain rfl:w=w1:=h1.symm)
    | (go_at_call 46;refine(HO.out _).mono ?_;rintro e w2 ⟨rfl,hq2⟩;replace hq2:Hid (Below w.heap.size w w2):=hq2)
    | (go_at_call 48;refine(HT.out _ (by have hh:=hq2.out;have hz:=hq2.out.size;exact upB)).mono ?_;rintro e w3 ⟨rfl,hq3⟩;have B3:Hid (Blk w3 w2.heap.size #[.pointer (some ⟨d,0,none⟩)] 84):=(Blk.new w2 _ _).below hq3;have hb3:Hid (Below w.heap.size w w3):=Below.trans (B:=w.heap.size) (a:=w) (b:=w2.alloc (.cells #[.pointer (some ⟨d,0,none⟩)] 84)) (by have hh:=hq2.out;have hz:=hq2.out.size;exact upB) (hq3.mono (by have hz:=hq2.out.size;simp;omega));clear hq3)
    | (go_at_call 47;refine(HR.out _ hb3.out).mono ?_;rintro e w4 ⟨b,c,rfl,hq4,hz4⟩;have B4:Hid (Blk w4 w2.heap.size #[.pointer (some ⟨d,0,none⟩)] 84):=B3.out.below hq4;have hb4:Hid (Below w.heap.size w w4):=hb3.out.trans (hq4.mono hb3.out.size);clear hq4;replace hz4:Hid (Z b c w4):=hz4;have s4:=B4.out.cell 0;have zl4:=B4.out.lt))
  have hbb:Below w4.heap.size w4 (w4.alloc (.cells #[.chan (some c)] 88)):=(Below.refl _ w4).alloc (Nat.le_refl _) _
  have hfin:=F.out b c (w4.alloc (.cells #[.chan (some c)] 88)) _ (hb4.out.trans (hbb.mono hb4.out.size)) (HZ.out _ _ _ _ hz4.out hbb) rfl
  rw[World.size_alloc] at hfin;exact hfin
theorem open_new (ρ:Nat->Nat) (w:World) (d:Nat) (E:Env w) (hd:DAt ρ 0 w d ⟨[],[],[],-1,false⟩) (hc:Clean ρ w) :
    Calls Tryz.prog 27 #[.pointer (some ⟨d,0,none⟩)] w fun e w'=>∃ x b c ρ',e=.returned (.tuple #[.pointer (some ⟨x,0,none⟩),.int .i64 0])/\AC ρ' 0 w' x d b c bk0 ⟨[],[],[],-1,false⟩ false/\(∀ q,ρ' q≠0->ρ q≠0\/w.heap.size<=q)/\Below w.heap.size w w':=by
  have hdW:∀ W,Below w.heap.size w W->DAt ρ 0 W d ⟨[],[],[],-1,false⟩:=fun W hW=>hd.step (Stp.below (R:=fun _=>False) hc hW) (fun q=>q) (fun q=>q) (fun q=>q)
  obtain⟨_,vs,vn,vl,hB,_⟩:=hd;have hT:textL ([]:CL)=[]:=new_has.text
  refine open_go d w (fun b c W=>Blk W b #[.slice none 0 0,.slice none 0 0,.slice none 0 0] 160/\Ch W c []/\w.heap.size<=b/\w.heap.size<=c) _ ?_ (fun W=>on_any d W) (fun W hW=>?_) (fun W hW=>?_) ?_ ?_
  . have h:=stopped_d w d vs vn vl (-1) false hB
    exact h
  . refine(stext_any ρ 0 W d ⟨[],[],[],-1,false⟩ (E.mono hW) wf_nil (hdW W hW) (fun q hq=>hc q (Nat.le_trans hW.size hq))).mono ?_
    rintro e w' ⟨rfl,hb⟩
    refine⟨?_,hb⟩
    show Ending.returned (.string (bs (textL [])))=_
    rw[hT];rfl
  . refine(sread_nil W (fun W=>tnew_any W)).mono ?_
    rintro e w' ⟨b,c,rfl,h1,h2,h3,h4,h5⟩
    exact⟨b,c,rfl,h5,h1,h2,Nat.le_trans hW.size h3,Nat.le_trans hW.size h4⟩
  . rintro b c W W' ⟨h1,h2,h3,h4⟩ hb
    exact⟨h1.below hb,h2.same (hb.block c h2.lt),h3,h4⟩
  . rintro b c W W' hW ⟨h1,h2,h3,h4⟩ rfl
    obtain⟨ρ',hr'⟩:∃ ρ':Nat->Nat,ρ'=fun q=>if q=b then 2 else if q=c then 4 else if q=W.heap.size then 4 else ρ q:=⟨_,rfl⟩
    have hbl:=h1.lt;have hcl:=h2.lt;have hbc:b≠c:=by
      rintro rfl
      obtain⟨s1,r1,hh⟩:=h2;unfold Blk at h1;rw[h1] at hh;simp at hh
    have rb:ρ' b=2:=by rw[hr'];simp
    have rc:ρ' c=4:=by rw[hr'];simp[Ne.symm hbc]
    have rx:ρ' W.heap.size=4:=by rw[hr'];simp[show W.heap.size≠b by omega]
    have ro:∀ q,q≠b->q≠c->q≠W.heap.size->ρ' q=ρ q:=fun q a1 a2 a3=>by rw[hr'];simp[a1,a2,a3]
    have hB':Below W.heap.size W (W.alloc (.cells (acreB d b c false) 90)):=(Below.refl _ W).alloc (Nat.le_refl _) _
    have hwW:=hW.trans (hB'.mono hW.size)
    have hz:(W.alloc (.cells (acreB d b c false) 90)).heap.size=W.heap.size+1:=by simp
    have hcl':Clean ρ' (W.alloc (.cells (acreB d b c false) 90)):=fun q hq=>by
      rw[hz] at hq;rw[ro q om om om];exact hc q (by have:=hW.size;omega)
    have hst:Stp (fun _=>False) ρ ρ' w (W.alloc (.cells (acreB d b c false) 90)):=⟨hwW.os,hwW.tape,hwW.output,hwW.size,fun q hq=>ro q om om (by have:=hW.size;omega),fun q hq _=>hwW.block q hq,hcl'⟩
    refine⟨W.heap.size,b,c,ρ',rfl,⟨Blk.new W _ _,⟨.slice none 0 0,.slice none 0 0,.slice none 0 0,c,h1.below hB',trivial,⟨rfl,.inl ⟨rfl,rfl⟩⟩,⟨rfl,.inl ⟨rfl,rfl⟩⟩,⟨rfl,.inl ⟨rfl,rfl⟩⟩,rb,trivial,fun g e=>(by cases e),fun g e=>(by cases e),fun g e=>(by cases e),fun q hq=>?_⟩,h2.same (hB'.block c hcl),?_,rx,rc,hcl'⟩,fun q hq=>?_,hwW⟩
    . rcases Nat.lt_or_ge q (W.alloc (.cells (acreB d b c false) 90)).heap.size with e|e
      . exact e
      . have:=hcl' q e;unfold RBk at hq;omega
    . exact(hdW w (Below.refl _ _)).step hst (fun q=>q) (fun q=>q) (fun q=>q)
    . by_cases e1:q=b
      . right;omega
      . by_cases e2:q=c
        . right;omega
        . by_cases e3:q=W.heap.size
          . right;rw[e3];exact hW.size
          . left;rw[ro q e1 e2 e3] at hq;exact hq
end Go.Proofs.YtjnhhnbgjjkkjaaGreatDoor
namespace Go.Proofs.YtjnhhnbgjjkkjaaGreatDoor
open Go.Conc Go.RowKit
set_option linter.unusedVariables false
set_option linter.unusedSimpArgs false
theorem BkAt.lt {w:World} {x:Nat} {S:Nat->Prop} {s:Bk} (h:BkAt w x S s):∀ b,S b->b<w.heap.size:=by obtain⟨_,_,_,_,B⟩:=h;exact B.sz
theorem BkAt.same {w w':World} {x:Nat} {S:Nat->Prop} {s:Bk} (h:BkAt w x S s) (e:∀ b,S b->w'.heap[b]?=w.heap[b]?) (hz:w.heap.size<=w'.heap.size):BkAt w' x S s:=by obtain⟨vp,vn,vl,c,B⟩:=h;exact⟨vp,vn,vl,c,B.same e hz⟩
def BN (ρ:Nat->Nat) (k c:Nat) (q:Nat):Prop:=RBk ρ k q\/q=c
section
variable (ρ:Nat->Nat) (k:Nat) (w:World) (x d b c:Nat) (s:Bk) (l:Ln)
def CQ0 (W:World):Prop:=BkAt W b (RBk ρ k) s/\Ch W c s.toks/\Blk W x (acreB d b c false) 90/\Blk W w.heap.size (lnC l) 93/\Chg (BN ρ k c) w W
def CQ1 (r:Bk×An) (z:Nat) (v:Value) (W:World):Prop:=∃ S',BkAt W b S' r.1/\(∀ q,S' q->RBk ρ k q\/z<=q)/\Ch W c s.toks/\Blk W x (acreB d b c false) 90/\Blk W w.heap.size (lnC l) 93/\Rd 1 encS ⟨#[]⟩ W v r.2.s/\Chg (BN ρ k c) w W
def CQ3 (s':Bk) (W:World):Prop:=∃ S',BkAt W b S' s'/\(∀ q,S' q->RBk ρ k q\/w.heap.size<q)/\Ch W c s'.toks/\Blk W x (acreB d b c false) 90/\Chg (BN ρ k c) w W
end
theorem AC.nc {ρ:Nat->Nat} {k:Nat} {w:World} {x d b c:Nat} {s:Bk} {A:PD} (h:AC ρ k w x d b c s A false):¬RBk ρ k c:=fun e=>by have:=h.rc;unfold RBk at e;omega
theorem cq_start {ρ:Nat->Nat} {k:Nat} {w:World} {x d b c:Nat} {s:Bk} {l:Ln} {A:PD} (h:AC ρ k w x d b c s A false):CQ0 ρ k w x d b c s l (w.alloc (.cells (lnC l) 93)):=by
  have hb:Below w.heap.size w (w.alloc (.cells (lnC l) 93)):=(Below.refl _ w).alloc (Nat.le_refl _) _
  exact⟨h.bk.below hb,h.ch.same (hb.block c h.ch.lt),h.blk.below hb,Blk.new w _ _,Chg.below hb⟩
theorem cq0_below {ρ:Nat->Nat} {k:Nat} {w:World} {x d b c:Nat} {s:Bk} {l:Ln} {A:PD} (h:AC ρ k w x d b c s A false) {W W':World} (q:CQ0 ρ k w x d b c s l W) (hb:Below (w.heap.size+1) W W'):CQ0 ρ k w x d b c s l W':=by
  obtain⟨q1,q2,q3,q4,q5⟩:=q;have hxl:=h.blk.lt;have hcl:=h.ch.lt;refine⟨q1.same (fun g e=>hb.block g (by have:=h.bk.lt g e;omega)) hb.size,q2.same (hb.block c om),(hb.block x om).trans q3,(hb.block _ om).trans q4,?_⟩
  exact⟨hb.os.trans q5.os,hb.tape.trans q5.tape,hb.output.trans q5.output,Nat.le_trans q5.size hb.size,fun g hg hn=>(hb.block g om).trans (q5.block g hg hn)⟩
theorem cq0_grown {ρ:Nat->Nat} {k:Nat} {w:World} {x d b c:Nat} {s:Bk} {l:Ln} {A:PD} (h:AC ρ k w x d b c s A false) {W W':World} (q:CQ0 ρ k w x d b c s l W) (hg:W.grownBy W' (some c)) (hc:Ch W' c s.toks):CQ0 ρ k w x d b c s l W'/\∀ g cs t,Blk W g cs t->w.heap.size<=g->Blk W' g cs t:=by
  obtain⟨q1,q2,q3,q4,q5⟩:=q;have hcl:=h.ch.lt;have hxc:=h.xc;refine⟨⟨q1.same (fun g e=>hg.block g (q1.lt g e) (by rintro e';cases e';exact h.nc e)) hg.size,hc,(hg.block x q3.lt (by simp;exact hxc)).trans q3,(hg.block _ q4.lt (by simp;omega)).trans q4,q5.trans (Chg.grown (S:=BN ρ k c) hg (fun g e=>by cases e;exact .inr rfl)) (fun g e=>.inl e)⟩,fun g cs t hB hgw=>(hg.block g hB.lt (by simp;omega)).trans hB⟩
theorem cq1_late {ρ:Nat->Nat} {k:Nat} {w:World} {x d b c:Nat} {s:Bk} {l:Ln} {A:PD} (h:AC ρ k w x d b c s A false) {r:Bk×An} {z:Nat} {v:Value} {W W':World} (q:CQ1 ρ k w x d b c s l r z v W) (hz:w.heap.size<z) (hb:Below W.heap.size W W'):CQ1 ρ k w x d b c s l r (w.heap.size+1) v W':=by
  obtain⟨S',q1,q2,q3,q4,q5,q6,q7⟩:=q;exact⟨S',q1.below hb,fun g e=>(q2 g e).imp id (fun e=>by omega),q3.same (hb.block c q3.lt),q4.below hb,q5.below hb,q6.below hb,q7.trans (Chg.below (S:=BN ρ k c) hb) (fun g e=>.inl e)⟩
theorem cq1_early {ρ:Nat->Nat} {k:Nat} {w:World} {x d b c:Nat} {s:Bk} {l:Ln} {A:PD} (h:AC ρ k w x d b c s A false) {r:Bk×An} {z:Nat} {v:Value} {W:World} {Z:Nat} {t:TypeId} (q:CQ1 ρ k w x d b c s l r z v W) (hz:w.heap.size<Z) (hA:Z<z) (hB:Blk W Z #[.int .i64 0,.slice none 0 0] t) (u u':Value):CQ1 ρ k w x d b c s l r (w.heap.size+1) v ((W.setCell ⟨Z,0,none⟩ u).setCell ⟨Z,1,none⟩ u'):=by
  obtain⟨S',q1,q2,q3,q4,q5,q6,q7⟩:=q;have hxl:=h.blk.lt;have hcl:=h.ch.lt;have s1:=sets_other Z [u,u'] 0 W
  have hzz:((W.setCell ⟨Z,0,none⟩ u).setCell ⟨Z,1,none⟩ u').heap.size=W.heap.size:=s1.2.2.2.1
  have hbb:∀ g,g≠Z->((W.setCell ⟨Z,0,none⟩ u).setCell ⟨Z,1,none⟩ u').heap[g]?=W.heap[g]?:=s1.2.2.2.2
  have hn:∀ g,S' g->g≠Z:=fun g e=>by
    rcases q2 g e with e|e
    . have:=h.bk.lt g e;omega
    . omega
  refine⟨S',q1.same (fun g e=>hbb g (hn g e)) (Nat.le_of_eq hzz.symm),fun g e=>(q2 g e).imp id (fun e=>by omega),q3.same (hbb c om),(hbb x om).trans q4,(hbb _ om).trans q5,?_,q7.sets Z 0 [u,u'] (.inr om)⟩
  obtain⟨bb,cap,rfl,k1,k2,k3⟩:=q6;refine⟨bb,cap,rfl,k1,k2,fun hne=>?_⟩
  obtain⟨g,e2,hg,hcc⟩:=k3 hne;have hgn:g≠Z:=fun q=>by
    have c0:=hcc 0 (List.length_pos_iff.2 hne) 0 _ rfl
    rw[q] at c0;have c1:=hB.cell 0;rw[show (⟨Z,0*1+0,none⟩:Addr)=⟨Z,0,none⟩ from rfl,c1] at c0
    cases c0
  exact⟨g,e2,by rw[hzz];exact hg,fun j hj i u hu=>(World.cell?_of_block (a:=⟨g,j*1+i,none⟩) (hbb g hgn)).trans (hcc j hj i u hu)⟩
theorem cq3_grown {ρ:Nat->Nat} {k:Nat} {w:World} {x d b c:Nat} {s:Bk} {A:PD} (h:AC ρ k w x d b c s A false) {s' s'':Bk} {S':Nat->Prop} {W W':World} (q1:BkAt W b S' s') (q2:∀ q,S' q->RBk ρ k q\/w.heap.size<q) (q4:Blk W x (acreB d b c false) 90) (q5:Chg (BN ρ k c) w W) (hg:W.grownBy W' (some c)) (hp:s''={ s' with toks:=s''.toks }) (hc:Ch W' c s''.toks):CQ3 ρ k w x d b c s'' W':=by
  have hcl:=h.ch.lt;have hxc:=h.xc;have q1':BkAt W b S' s'':=by rw[hp];exact q1.tk _
  refine⟨S',q1'.same (fun g e=>hg.block g (q1.lt g e) (by rintro e';cases e';rcases q2 c e with e|e;exact h.nc e;omega)) hg.size,q2,hc,(hg.block x q4.lt (by simp;exact hxc)).trans q4,q5.trans (Chg.grown (S:=BN ρ k c) hg (fun g e=>by cases e;exact .inr rfl)) (fun g e=>.inl e)⟩
theorem cq_end {ρ:Nat->Nat} {k:Nat} {w:World} {x d b c:Nat} {s:Bk} {A:PD} (h:AC ρ k w x d b c s A false) {s':Bk} {S':Nat->Prop} {W:World} (q1:BkAt W b S' s') (q2:∀ q,S' q->RBk ρ k q\/w.heap.size<=q) (q3:Ch W c s'.toks) (q4:Blk W x (acreB d b c false) 90) (q5:Chg (BN ρ k c) w W):∃ ρ',AC ρ' k W x d b c s' A false/\Stp (ROk k) ρ ρ' w W:=by
  obtain⟨ρ',a1,a2⟩:=toAC h q1 q2 q3 q4 q5;exact⟨ρ',a1,a2.mono (fun r hr=>by unfold ROk;omega)⟩
set_option maxHeartbeats 1000000 in
theorem command_r3 {ρ:Nat->Nat} {k:Nat} {w:World} {x d b c:Nat} {s:Bk} {l:Ln} {A:PD} (h:AC ρ k w x d b c s A false) (line:ByteArray) (E:EnvT w) (hI:Inv s) (hL:LnOk l) (hv:l.v<8) (hs:line.size<=100) (hT:∀ x,x∈s.toks->TkB x) (hwf:WF A.now) (hlo:A.loose=[]) (hlf:A.left<9223372036854775808) (hG:∀ q,ρ q≠0->10<=q) (hZ:10<=w.heap.size) :
    Calls Tryz.prog 42 #[.pointer (some ⟨x,0,none⟩),.agg (lnC l),.string line] w (DoR3 ρ k w x d b c (cmdP s A l line)):=by
  have hx:=h.blk.lt;have hcl:=h.ch.lt;have hGB:∀ q,RBk ρ k q->10<=q:=fun q e=>hG q (by unfold RBk at e;omega)
  have hGN:∀ q,BN ρ k c q->10<=q:=fun q e=>e.elim (hGB q) (fun e=>by rw[e];exact hG c (by have:=h.rc;omega))
  have C0:∀ W,CQ0 ρ k w x d b c s l W->W.cell? ⟨x,1,none⟩=some (.pointer (some ⟨b,0,none⟩))/\W.cell? ⟨x,2,none⟩=some (.chan (some c))/\Blk W w.heap.size (lnC l) 93:=fun W q=>⟨q.2.2.1.cell 1,q.2.2.1.cell 2,q.2.2.2.1⟩
  have HF:∀ W,CQ0 ρ k w x d b c s l W->Calls Tryz.prog 64 #[.agg #[.chan (some c)],.string l.t] W fun e w1=>e=.returned (.tuple #[vT ((findT s.toks l.t).getD tk0),.bool (findT s.toks l.t).isSome])/\CQ0 ρ k w x d b c s l w1/\∀ g cs t,Blk W g cs t->w.heap.size<=g->Blk w1 g cs t:=fun W q=>by
    refine(tfind_any W c s.toks l.t q.2.1 hI.t).mono ?_
    rintro e w1 ⟨rfl,hch,hg⟩
    obtain⟨a1,a2⟩:=cq0_grown h q hg hch;exact⟨rfl,a1,a2⟩
  have HD:∀ W,CQ0 ρ k w x d b c s l W->Calls Tryz.prog 43 #[.pointer (some ⟨b,0,none⟩),.agg (lnC l)] W fun e w2=>∃ bt nt ct,e=.returned (.agg #[.int .i64 (doLn s l).2.e,.slice bt nt ct])/\CQ1 ρ k w x d b c s l (doLn s l) W.heap.size (.slice bt nt ct) w2/\∀ g cs t,Blk W g cs t->w.heap.size<=g->Blk w2 g cs t:=fun W q=>by
    obtain⟨q1,q2,q3,q4,q5⟩:=q;refine(bookDo_any W b (RBk ρ k) s l (E.env.chg q5 hGN) hI hL q1 hGB (Nat.le_trans hZ q5.size) om).mono ?_
    rintro e w2 ⟨v,S',rfl,hrd,hb,hs',hc2⟩
    obtain⟨bt,ct,rfl,k1,k2,k3⟩:=hrd;have hk:∀ g cs t,Blk W g cs t->w.heap.size<=g->Blk w2 g cs t:=fun g cs t hB hgw=>(hc2.block g hB.lt (fun e=>by have:=h.bk.lt g e;omega)).trans hB
    refine⟨bt,_,ct,rfl,⟨S',hb,hs',q2.same (hc2.block c q2.lt h.nc),(hc2.block x q3.lt (fun e=>by have:=h.rx;unfold RBk at e;omega)).trans q3,hk _ _ _ q4 (Nat.le_refl _),⟨bt,ct,rfl,k1,k2,k3⟩,q5.trans hc2 (fun g e=>.inl (.inl e))⟩,hk⟩
  obtain⟨o1,o2,o3⟩:=ans_ok hI hL;have HTT:∀ W bt nt ct,CQ1 ρ k w x d b c s l (doLn s l) (w.heap.size+1) (.slice bt nt ct) W->Calls Tryz.prog 40 #[.agg #[.int .i64 (doLn s l).2.e,.slice bt nt ct]] W fun e w'=>e=.returned (.string ⟨(anText (doLn s l).2).toArray⟩)/\Below W.heap.size W w':=fun W bt nt ct q=>by
    obtain⟨S',_,_,_,_,_,q6,q7⟩:=q;exact atext_any (doLn s l).2 o1 o2 o3 _ W (E.chg q7 hGN) q6
  unfold cmdP;rcases hf:findT s.toks l.t with _|tk
  . rw[hf] at HF;by_cases he:(doLn s l).2.e=0
    . dsimp only;rw[if_pos he];obtain⟨s',hs'⟩:∃ s',s'=doneS s l line:=⟨_,rfl⟩
      have hI':Inv s':=by rw[hs'];exact done_inv hI hL line
      have hT':∀ x,x∈s'.toks->TkB x:=by rw[hs'];exact done_tk hI hL hv he hs hT
      have hne:s'.toks≠[]:=by rw[hs'];exact addT_ne _ _
      have hp:s'={ (doLn s l).1 with toks:=s'.toks }:=by rw[hs'];rfl
      have htx:(⟨(anText (doLn s l).2).toArray⟩:ByteArray).size<=40:=by rw[size_of];exact anText_s (ans_s hI hL hv) he
      have hsn:=snap_len hI' hT';have hbz:(byt (snapT s')).size<=8000:=by
        have e:(byt (snapT s')).size=(snapT s').length:=by rw[<- data_len];rfl
        omega
      rw[<- hs'];refine cmd_done_go x d b c w l line ⟨(anText (doLn s l).2).toArray⟩ tk0 hx (CQ0 ρ k w x d b c s l) _ (doLn s l).2.e he (CQ1 ρ k w x d b c s l (doLn s l)) (fun v W=>CQ1 ρ k w x d b c s l (doLn s l) (w.heap.size+1) v W) (byt (snapT s')) (putT A (snapT s')).2 (CQ3 ρ k w x d b c s') (CQ3 ρ k w x d b c s') (fun W=>∃ ρ',AC ρ' k W x d b c s' (putT A (snapT s')).1 false/\Stp (ROk k) ρ ρ' w W)
        (cq_start h) C0 (fun W W' q hb=>cq0_below h q hb) HF HD ?c1 ?l1 ?e1 ?k2 HTT ?c2 ?had ?c3 ?k3 ?hw ?c4 ?hp ?c5 ?f5 ?f6
      case c1=>rintro z v W ⟨S',_,_,_,q4,q5,_,_⟩;exact⟨q4.cell 1,q5⟩
      case l1=>exact fun z v W W' q hz hb=>cq1_late h q hz hb
      case e1=>exact fun z v W Z u u' q hz hA hB=>cq1_early h q hz hA hB u u'
      case k2=>exact fun v W W' q hb=>cq1_late h q om hb
      case c2=>rintro v W ⟨S',_,_,_,q4,q5,_,_⟩;exact⟨q4.cell 2,q5⟩
      case had =>
        rintro v W ⟨S',q1,q2,q3,q4,q5,q6,q7⟩
        refine(tadd_any W c s.toks (newTk s l line) q3 hI.t (by show line.size<=_;omega) (by show (⟨(anText (doLn s l).2).toArray⟩:ByteArray).size<=_;omega)).mono ?_
        rintro e w' ⟨rfl,hch,hg⟩
        refine⟨rfl,cq3_grown h q1 (fun g e=>(q2 g e).imp id (fun e=>by omega)) q4 q7 hg hp (by rw[hs'];exact hch),hg.block _ q5.lt (by simp;omega)⟩
      case c3=>rintro W ⟨S',_,_,_,q4,_⟩;exact⟨q4.cell 0,q4.cell 1,q4.cell 2⟩
      case k3 =>
        rintro W ⟨S',q1,q2,q3,q4,q5⟩
        have hb:Below W.heap.size W W.drew:=Below.drew (Below.refl _ _)
        exact⟨S',q1.below hb,q2,q3.same rfl,q4,q5.trans (Chg.below (S:=BN ρ k c) hb) (fun g e=>.inl e)⟩
      case hw =>
        rintro W ⟨S',q1,q2,q3,q4,q5⟩
        obtain⟨vp,vn,vl,z,B⟩:=q1;refine(snapw_any b c W s' vp vn vl (E.chg q5 hGN) hI' B.blk (Rd.of_owns (enc:=encH) (fun _=>rfl) hd0 B.op) (Rd.of_owns (enc:=encH) (fun _=>rfl) hd0 B.on) (Rd.of_owns (enc:=encL) (fun _=>rfl) ls0 B.ol) q3 hne hT').mono ?_
        rintro e w' ⟨rfl,hch,hg⟩
        exact⟨rfl,cq3_grown h ⟨vp,vn,vl,z,B⟩ q2 q4 q5 hg rfl hch⟩
      case c4=>rintro W ⟨S',_,_,_,q4,_⟩;exact⟨q4.cell 0,q4.cell 1,q4.cell 2⟩
      case hp =>
        rintro W ⟨S',q1,q2,q3,q4,q5⟩
        obtain⟨ρ1,a1,a2⟩:=cq_end h q1 (fun g e=>(q2 g e).imp id (fun e=>by omega)) q3 q4 q5
        refine(sput_any ρ1 k W d (byt (snapT s')) A hbz hwf hlo hlf a1.cl a1.dk).mono ?_
        rintro e w' ⟨rfl,ρ2,d1,d2⟩
        rw[byt_data] at d1 ⊢;exact⟨rfl,ρ2,a1.disk d1 d2,a2.trans (d2.mono (fun r hr=>by unfold RDk at hr;unfold ROk;omega))⟩
      case c5=>rintro W ⟨ρ',a1,_⟩;exact⟨a1.blk.cell 0,a1.blk.cell 1,a1.blk.cell 2,a1.blk.cell 3,a1.blk.frozen 3⟩
      case f5 =>
        rintro ho W ⟨ρ',a1,a2⟩
        rw[ho];exact⟨rfl,ρ',a1,a2⟩
      case f6 =>
        rintro ho W ⟨ρ',a1,a2⟩
        rw[ho];obtain⟨b1,b2⟩:=a1.down;exact⟨rfl,ρ',b1,a2.trans (b2.mono (fun r hr=>by unfold ROk;omega))⟩
    . dsimp only;rw[if_neg he];refine cmd_not_go x d b c w l line ⟨(anText (doLn s l).2).toArray⟩ tk0 hx (CQ0 ρ k w x d b c s l) _ (doLn s l).2.e he (CQ1 ρ k w x d b c s l (doLn s l)) (fun v W=>CQ1 ρ k w x d b c s l (doLn s l) (w.heap.size+1) v W)
        (cq_start h) C0 (fun W W' q hb=>cq0_below h q hb) HF HD ?_ (fun z v W W' q hz hb=>cq1_late h q hz hb) (fun z v W Z u u' q hz hA hB=>cq1_early h q hz hA hB u u') (fun v W W' q hb=>cq1_late h q om hb) HTT ?_
      . rintro z v W ⟨S',_,_,_,q4,q5,_,_⟩;exact⟨q4.cell 1,q5⟩
      . rintro v W ⟨S',q1,q2,q3,q4,q5,q6,q7⟩
        exact⟨rfl,cq_end h q1 (fun g e=>(q2 g e).imp id (fun e=>by omega)) (by rw[doLn_toks];exact q3) q4 q7⟩
  . rw[hf] at HF;dsimp only;refine cmd_found_go x d b c w l line (if tk.l≠line then (⟨(anText (ref 3)).toArray⟩:ByteArray) else tk.r) tk hx (CQ0 ρ k w x d b c s l) _ (cq_start h) C0 (fun W W' q hb=>cq0_below h q hb) HF (fun W q=>again_any tk line _ W (E.chg q.2.2.2.2 hGN) rfl) ?_
    rintro W ⟨q1,q2,q3,q4,q5⟩
    exact⟨rfl,cq_end h q1 (fun g e=>.inl e) q2 q3 q5⟩
end Go.Proofs.YtjnhhnbgjjkkjaaGreatDoor
namespace Go.Proofs.YtjnhhnbgjjkkjaaGreatDoor
open Go.Conc Go.ChangeShapes Go.WideShapes Go.ChangeAt Go.RowKit
set_option linter.unusedVariables false
set_option linter.unusedSimpArgs false
set_option maxRecDepth 100000 in
set_option maxHeartbeats 1000000 in
theorem ado_none (w:World) (x:Nat) (line text:ByteArray) (hx:x<w.heap.size) (d3:w.cell? ⟨x,3,none⟩=some (.bool false)) (HR:Hid (∀ W,Below w.heap.size w W->Calls Tryz.prog 38 #[.string line] W fun e w'=>e=.returned (.tuple #[.agg #[.int .i64 0,.string ⟨#[]⟩,.string ⟨#[]⟩,.int .u32 0,.int .i64 0,.int .u32 0,.int .i64 0],.bool false])/\Below W.heap.size W w'))
    (HF:Hid (∀ W,Calls Tryz.prog 39 #[.int .i64 2] W fun e w'=>e=.returned (.agg #[.int .i64 2,.slice none 0 0])/\Below W.heap.size W w'))
    (HT:Hid (∀ W,Below w.heap.size w W->Calls Tryz.prog 40 #[.agg #[.int .i64 2,.slice none 0 0]] W fun e w'=>e=.returned (.string text)/\Below W.heap.size W w')) :
    Calls Tryz.prog 16 #[.pointer (some ⟨x,0,none⟩),.string line] w fun e w'=>e=.returned (.string text)/\Below w.heap.size w w':=by
  go_enter Tryz.func16,Tryz.ntmps16
  go_wp2_with (first|(go_at_call 38;refine(HR.out _ upB).mono ?_;rintro e w1 ⟨rfl,hq1⟩;have hb1:Hid (Below w.heap.size w w1):=Below.trans (B:=w.heap.size) (a:=w) upB (hq1.mono byO);clear hq1)|(go_at_call 39;refine(HF.out _).mono ?_;rintro e w2 ⟨rfl,hq2⟩;have hb2:Hid (Below w.heap.size w w2):=Below.trans (B:=w.heap.size) (a:=w) (by have hh:=hb1.out;have hz:=hb1.out.size;exact upB) (hq2.mono (by have hz:=hb1.out.size;first|omega|(simp;omega)));clear hq2)|(go_at_call 40;refine(HT.out _ hb2.out).mono ?_;rintro e w3 ⟨rfl,hq3⟩;have hb3:Hid (Below w.heap.size w w3):=hb2.out.trans (hq3.mono hb2.out.size);clear hq3))
  go_ret;exact⟨rfl,hb3.out⟩
set_option maxRecDepth 100000 in
set_option maxHeartbeats 1000000 in
theorem ado_cmd (w:World) (x b:Nat) (l:Ln) (line:ByteArray) (R:Ending->World->Prop) (hx:x<w.heap.size) (d3:w.cell? ⟨x,3,none⟩=some (.bool false)) (CX:Hid (∀ W,Below w.heap.size w W->W.cell? ⟨x,1,none⟩=some (.pointer (some ⟨b,0,none⟩)))) (HR:Hid (∀ W,Below w.heap.size w W->Calls Tryz.prog 38 #[.string line] W fun e w'=>e=.returned (.tuple #[.agg #[.int .i64 l.v,.string l.t,.string l.o,.int .u32 l.a,.int .i64 l.n,.int .u32 l.d,.int .i64 l.g],.bool true])/\Below W.heap.size W w'))
    (HI:Hid (∀ W,Calls Tryz.prog 41 #[.int .i64 l.v] W fun e w'=>e=.returned (.bool true)/\Below W.heap.size W w'))
    (HC:Hid (∀ W,Below w.heap.size w W->Calls Tryz.prog 42 #[.pointer (some ⟨x,0,none⟩),.agg #[.int .i64 l.v,.string l.t,.string l.o,.int .u32 l.a,.int .i64 l.n,.int .u32 l.d,.int .i64 l.g],.string line] W fun e w'=>∃ t,e=.returned (.string t)/\R (.returned (.string t)) w')) :
    Calls Tryz.prog 16 #[.pointer (some ⟨x,0,none⟩),.string line] w R:=by
  go_enter Tryz.func16,Tryz.ntmps16
  go_wp2_with (first|(go_at_call 38;refine(HR.out _ upB).mono ?_;rintro e w1 ⟨rfl,hq1⟩;have hb1:Hid (Below w.heap.size w w1):=Below.trans (B:=w.heap.size) (a:=w) upB (hq1.mono byO);clear hq1)|(go_at_call 41;refine(HI.out _).mono ?_;rintro e w2 ⟨rfl,hq2⟩;have hb2:Hid (Below w.heap.size w w2):=Below.trans (B:=w.heap.size) (a:=w) (by have hh:=hb1.out;have hz:=hb1.out.size;exact upB) (hq2.mono (by have hz:=hb1.out.size;first|omega|(simp;omega)));have L2:Hid (Blk w2 w1.heap.size #[.int .i64 l.v,.string l.t,.string l.o,.int .u32 l.a,.int .i64 l.n,.int .u32 l.d,.int .i64 l.g] 93):=(Blk.new w1 #[.int .i64 l.v,.string l.t,.string l.o,.int .u32 l.a,.int .i64 l.n,.int .u32 l.d,.int .i64 l.g] 93).below hq2;clear hq2;have m0:w2.cell? ⟨w1.heap.size,0,none⟩=some (.int .i64 l.v):=L2.out.cell 0;have m1:w2.cell? ⟨w1.heap.size,1,none⟩=some (.string l.t):=L2.out.cell 1;have m2:w2.cell? ⟨w1.heap.size,2,none⟩=some (.string l.o):=L2.out.cell 2;have m3:w2.cell? ⟨w1.heap.size,3,none⟩=some (.int .u32 l.a):=L2.out.cell 3;have m4:w2.cell? ⟨w1.heap.size,4,none⟩=some (.int .i64 l.n):=L2.out.cell 4;have m5:w2.cell? ⟨w1.heap.size,5,none⟩=some (.int .u32 l.d):=L2.out.cell 5;have m6:w2.cell? ⟨w1.heap.size,6,none⟩=some (.int .i64 l.g):=L2.out.cell 6;have mz:=L2.out.lt;have zx2:=Nat.lt_of_lt_of_le hx hb2.out.size;have mx:w2.cell? ⟨x,1,none⟩=some (.pointer (some ⟨b,0,none⟩)):=CX.out _ hb2.out)|(go_at_call 42;refine(HC.out _ hb2.out).mono ?_;rintro e w3 ⟨t,rfl,h1⟩;replace h1:Hid (R (.returned (.string t)) w3):=h1))
  exact h1.out
set_option maxRecDepth 100000 in
set_option maxHeartbeats 1000000 in
theorem ado_ask (w:World) (x b:Nat) (l:Ln) (line text:ByteArray) (k:Nat) (L:List ByteArray) (hx:x<w.heap.size) (d3:w.cell? ⟨x,3,none⟩=some (.bool false)) (CX:Hid (∀ W,Below w.heap.size w W->W.cell? ⟨x,1,none⟩=some (.pointer (some ⟨b,0,none⟩)))) (HR:Hid (∀ W,Below w.heap.size w W->Calls Tryz.prog 38 #[.string line] W fun e w'=>e=.returned (.tuple #[.agg #[.int .i64 l.v,.string l.t,.string l.o,.int .u32 l.a,.int .i64 l.n,.int .u32 l.d,.int .i64 l.g],.bool true])/\Below W.heap.size W w'))
    (HI:Hid (∀ W,Calls Tryz.prog 41 #[.int .i64 l.v] W fun e w'=>e=.returned (.bool false)/\Below W.heap.size W w'))
    (HD:Hid (∀ W,Below w.heap.size w W->Calls Tryz.prog 43 #[.pointer (some ⟨b,0,none⟩),.agg #[.int .i64 l.v,.string l.t,.string l.o,.int .u32 l.a,.int .i64 l.n,.int .u32 l.d,.int .i64 l.g]] W fun e w3=>∃ bt nt ct,e=.returned (.agg #[.int .i64 k,.slice bt nt ct])/\Rd 1 encS ⟨#[]⟩ w3 (.slice bt nt ct) L/\Below W.heap.size W w3))
    (HT:Hid (∀ W bt nt ct,Below w.heap.size w W->Rd 1 encS ⟨#[]⟩ W (.slice bt nt ct) L->Calls Tryz.prog 40 #[.agg #[.int .i64 k,.slice bt nt ct]] W fun e w'=>e=.returned (.string text)/\Below W.heap.size W w')) :
    Calls Tryz.prog 16 #[.pointer (some ⟨x,0,none⟩),.string line] w fun e w'=>e=.returned (.string text)/\Below w.heap.size w w':=by
  go_enter Tryz.func16,Tryz.ntmps16
  go_wp2_with (first|(go_at_call 38;refine(HR.out _ upB).mono ?_;rintro e w1 ⟨rfl,hq1⟩;have hb1:Hid (Below w.heap.size w w1):=Below.trans (B:=w.heap.size) (a:=w) upB (hq1.mono byO);clear hq1)|(go_at_call 41;refine(HI.out _).mono ?_;rintro e w2 ⟨rfl,hq2⟩;have hb2:Hid (Below w.heap.size w w2):=Below.trans (B:=w.heap.size) (a:=w) (by have hh:=hb1.out;have hz:=hb1.out.size;exact upB) (hq2.mono (by have hz:=hb1.out.size;first|omega|(simp;omega)));have L2:Hid (Blk w2 w1.heap.size #[.int .i64 l.v,.string l.t,.string l.o,.int .u32 l.a,.int .i64 l.n,.int .u32 l.d,.int .i64 l.g] 93):=(Blk.new w1 #[.int .i64 l.v,.string l.t,.string l.o,.int .u32 l.a,.int .i64 l.n,.int .u32 l.d,.int .i64 l.g] 93).below hq2;clear hq2;have m0:w2.cell? ⟨w1.heap.size,0,none⟩=some (.int .i64 l.v):=L2.out.cell 0;have m1:w2.cell? ⟨w1.heap.size,1,none⟩=some (.string l.t):=L2.out.cell 1;have m2:w2.cell? ⟨w1.heap.size,2,none⟩=some (.string l.o):=L2.out.cell 2;have m3:w2.cell? ⟨w1.heap.size,3,none⟩=some (.int .u32 l.a):=L2.out.cell 3;have m4:w2.cell? ⟨w1.heap.size,4,none⟩=some (.int .i64 l.n):=L2.out.cell 4;have m5:w2.cell? ⟨w1.heap.size,5,none⟩=some (.int .u32 l.d):=L2.out.cell 5;have m6:w2.cell? ⟨w1.heap.size,6,none⟩=some (.int .i64 l.g):=L2.out.cell 6;have mz:=L2.out.lt;have zx2:=Nat.lt_of_lt_of_le hx hb2.out.size;have mx:w2.cell? ⟨x,1,none⟩=some (.pointer (some ⟨b,0,none⟩)):=CX.out _ hb2.out))
  go_region_held3 (fun w'=>w'.cell? ⟨x,1,none⟩=some (.pointer (some ⟨b,0,none⟩))/\w'.cell? ⟨w1.heap.size,0,none⟩=some (.int .i64 l.v)/\w'.cell? ⟨w1.heap.size,1,none⟩=some (.string l.t)/\w'.cell? ⟨w1.heap.size,2,none⟩=some (.string l.o)/\w'.cell? ⟨w1.heap.size,3,none⟩=some (.int .u32 l.a)/\w'.cell? ⟨w1.heap.size,4,none⟩=some (.int .i64 l.n)/\w'.cell? ⟨w1.heap.size,5,none⟩=some (.int .u32 l.d)/\w'.cell? ⟨w1.heap.size,6,none⟩=some (.int .i64 l.g)) (go_keep) (first|(go_at_call 43;refine(HD.out _ (by have hh:=hb2.out;have hz:=hb2.out.size;exact upB)).mono ?_;rintro e w3 ⟨bt,nt,ct,rfl,hr3,hq3⟩;have hb3:Hid (Below w.heap.size w w3):=Below.trans (B:=w.heap.size) (a:=w) (by have hh:=hb2.out;have hz:=hb2.out.size;exact upB) (hq3.mono (by have hz:=hb2.out.size;first|omega|(simp;omega)));have L3:Hid (Blk w3 w1.heap.size #[.int .i64 l.v,.string l.t,.string l.o,.int .u32 l.a,.int .i64 l.n,.int .u32 l.d,.int .i64 l.g] 93):=(hq3.block w1.heap.size (by first|exact L2.out.lt|(simp;exact L2.out.lt))).trans L2.out;clear hq3;replace hr3:Hid (Rd 1 encS ⟨#[]⟩ w3 (.slice bt nt ct) L):=hr3;have n0:w3.cell? ⟨w1.heap.size,0,none⟩=some (.int .i64 l.v):=L3.out.cell 0;have n1:w3.cell? ⟨w1.heap.size,1,none⟩=some (.string l.t):=L3.out.cell 1;have n2:w3.cell? ⟨w1.heap.size,2,none⟩=some (.string l.o):=L3.out.cell 2;have n3:w3.cell? ⟨w1.heap.size,3,none⟩=some (.int .u32 l.a):=L3.out.cell 3;have n4:w3.cell? ⟨w1.heap.size,4,none⟩=some (.int .i64 l.n):=L3.out.cell 4;have n5:w3.cell? ⟨w1.heap.size,5,none⟩=some (.int .u32 l.d):=L3.out.cell 5;have n6:w3.cell? ⟨w1.heap.size,6,none⟩=some (.int .i64 l.g):=L3.out.cell 6;have nx:w3.cell? ⟨x,1,none⟩=some (.pointer (some ⟨b,0,none⟩)):=CX.out _ hb3.out)|(go_at_call 40;refine(HT.out _ bt nt ct hb3.out hr3.out).mono ?_;rintro e w4 ⟨rfl,hq4⟩;have hb4:Hid (Below w.heap.size w w4):=hb3.out.trans (hq4.mono hb3.out.size);have L4:Hid (Blk w4 w1.heap.size #[.int .i64 l.v,.string l.t,.string l.o,.int .u32 l.a,.int .i64 l.n,.int .u32 l.d,.int .i64 l.g] 93):=L3.out.below hq4;clear hq4;have o0:w4.cell? ⟨w1.heap.size,0,none⟩=some (.int .i64 l.v):=L4.out.cell 0;have o1:w4.cell? ⟨w1.heap.size,1,none⟩=some (.string l.t):=L4.out.cell 1;have o2:w4.cell? ⟨w1.heap.size,2,none⟩=some (.string l.o):=L4.out.cell 2;have o3:w4.cell? ⟨w1.heap.size,3,none⟩=some (.int .u32 l.a):=L4.out.cell 3;have o4:w4.cell? ⟨w1.heap.size,4,none⟩=some (.int .i64 l.n):=L4.out.cell 4;have o5:w4.cell? ⟨w1.heap.size,5,none⟩=some (.int .u32 l.d):=L4.out.cell 5;have o6:w4.cell? ⟨w1.heap.size,6,none⟩=some (.int .i64 l.g):=L4.out.cell 6;have ox:w4.cell? ⟨x,1,none⟩=some (.pointer (some ⟨b,0,none⟩)):=CX.out _ hb4.out))
  all_goals (
    go_wp2;go_ret;exact⟨rfl,hb4.out⟩)
set_option maxHeartbeats 400000 in
theorem ado_down (w:World) (x:Nat) (line:ByteArray) (d3:w.cell? ⟨x,3,none⟩=some (.bool true)) :
    Calls Tryz.prog 16 #[.pointer (some ⟨x,0,none⟩),.string line] w fun e w'=>e=.returned (.string ⟨#[]⟩)/\Below w.heap.size w w':=by
  go_enter Tryz.func16,Tryz.ntmps16
  go_wp2;go_ret;exact⟨rfl,upB⟩
end Go.Proofs.YtjnhhnbgjjkkjaaGreatDoor
namespace Go.Proofs.YtjnhhnbgjjkkjaaGreatDoor
open Go.RowKit
set_option linter.unusedVariables false
set_option linter.unusedSimpArgs false
def lchr (c:UInt8):Prop:=c.toNat=32\/(46<=c.toNat/\c.toNat<=57)\/(65<=c.toNat/\c.toNat<=90)\/(97<=c.toNat/\c.toNat<=122)
theorem lchr_not {c:UInt8} (h:lchr c):c≠0/\c≠10/\c≠61:=by
  unfold lchr at h;refine⟨?_,?_,?_⟩<;>rintro rfl<;>simp at h
def lchs (l:List UInt8):Prop:=∀ c,c∈l->lchr c
theorem okl_app {a b:List UInt8} (ha:lchs a) (hb:lchs b):lchs (a++b):=fun c h=>(List.mem_append.1 h).elim (ha c) (hb c)
theorem okl_cons {x:UInt8} {b:List UInt8} (ha:lchr x) (hb:lchs b):lchs (x::b):=fun c h=>by
  rcases List.mem_cons.1 h with rfl|h
  . exact ha
  . exact hb c h
theorem dec_okl (n:Nat):lchs (dec n):=fun c h=>by
  have h1:¬(c.toNat<48\/57<c.toNat):=fun q=>dec_no c q n h
  unfold lchr;omega
theorem dot_okl (a:Nat):lchs (dot a):=by
  have h46:lchr 46:=by unfold lchr;decide
  exact okl_app (dec_okl _) (okl_cons h46 (okl_app (dec_okl _) (okl_cons h46 (okl_app (dec_okl _) (okl_cons h46 (dec_okl _))))))
theorem wr_okl (a n:Nat):lchs (wr a n):=okl_app (dot_okl a) (okl_cons (by unfold lchr;decide) (dec_okl n))
theorem name_okl {l:List UInt8} (h:isName l=true):lchs l:=by
  intro c hc;unfold isName at h;simp only[Bool.and_eq_true,List.all_eq_true] at h
  have:=h.2 c hc
  simp at this;unfold lchr;omega
theorem part_okl {l l':Ln} {p:Nat} {w:List UInt8} (h:rdPart l p w=some l'):lchs w:=by
  unfold rdPart at h;by_cases h1:p=1
  . rw[if_pos h1] at h;by_cases hn:isName w=true
    . exact name_okl hn
    . rw[if_neg hn] at h;cases h
  . rw[if_neg h1] at h;by_cases h2:p=2
    . rw[if_pos h2] at h;by_cases hn:isName w=true
      . exact name_okl hn
      . rw[if_neg hn] at h;cases h
    . rw[if_neg h2] at h;by_cases h3:p=3
      . rw[if_pos h3] at h;rcases e:rd w with _|b
        . rw[e] at h;cases h
        . obtain⟨a,n⟩:=b;rw[(rd_text e).1];exact wr_okl _ _
      . rw[if_neg h3] at h;by_cases h4:p=4
        . rw[if_pos h4] at h;rcases e:addr w with _|d
          . rw[e] at h;cases h
          . rw[addr_text e];exact dot_okl _
        . rw[if_neg h4] at h;by_cases h5:p=5
          . rw[if_pos h5] at h;rcases e:num w 32 with _|g
            . rw[e] at h;cases h
            . rw[<- (num_some.1 e).2];exact dec_okl _
          . rw[if_neg h5] at h;cases h
theorem parts_okl:∀ (ps:List Nat) (ws:List (List UInt8)) (l l':Ln),rdParts l ps ws=some l'->∀ w,w∈ws->lchs w:=by
  intro ps;induction ps with
  | nil =>
    intro ws l l' h w hw
    cases ws with
    | nil=>simp at hw
    | cons v vs=>simp[rdParts] at h
  | cons p ps ih =>
    intro ws l l' h w hw
    cases ws with
    | nil=>simp at hw
    | cons v vs =>
      simp only[rdParts] at h
      rcases e:rdPart l p v with _|l2
      . rw[e] at h;cases h
      . rw[e] at h;rcases List.mem_cons.1 hw with rfl|hw
        . exact part_okl e
        . exact ih vs l2 l' h w hw
theorem glue_okl:∀ (l:List (List UInt8)),(∀ w,w∈l->lchs w)->lchs (glue 32 l):=by
  intro l;induction l with
  | nil=>intro _ c h;simp[glue] at h
  | cons p r ih =>
    intro h
    cases r with
    | nil=>exact h p (by simp)
    | cons q r' =>
      show lchs (p++32::glue 32 (q::r'))
      exact okl_app (h p (by simp)) (okl_cons (by unfold lchr;decide) (ih fun w hw=>h w (List.mem_cons_of_mem _ hw)))
theorem verb_okl:∀ w,w∈verbT->lchs w:=by
  have h:verbT.all (fun w=>w.all fun c=>decide (c.toNat=32\/(46<=c.toNat/\c.toNat<=57)\/(65<=c.toNat/\c.toNat<=90)\/(97<=c.toNat/\c.toNat<=122)))=true:=by decide
  intro w hw c hc;have:=(List.all_eq_true.1 ((List.all_eq_true.1 h) w hw)) c hc
  unfold lchr;exact of_decide_eq_true this
theorem line_okl {t:List UInt8} {l:Ln} (h:rdLine t=some l):lchs t/\t.length<=100:=by
  unfold rdLine at h;by_cases hl:t.length<=100
  . rw[if_pos hl] at h;refine⟨?_,hl⟩
    have hg:=glue_parts 32 t.length t (Nat.le_refl _)
    rcases e:parts 32 t with _|⟨w,ws⟩
    . rw[e] at h;cases h
    . rw[e] at h hg;dsimp only at h;by_cases hv:fi (fun v=>v==w) verbT<0
      . rw[if_pos hv] at h;cases h
      . rw[if_neg hv] at h;rw[<- hg];refine glue_okl _ fun v hvm=>?_
        rcases List.mem_cons.1 hvm with rfl|hvm
        . have h1:=fi_any (fun v'=>v'==v) verbT
          rw[decide_eq_true om] at h1;obtain⟨u,hu,e2⟩:=List.any_eq_true.1 h1.symm;have e3:u=v:=by simpa using e2
          rw[<- e3];exact verb_okl u hu
        . exact parts_okl _ _ _ _ h v hvm
  . rw[if_neg hl] at h;cases h
def AnC (a:An):Prop:=∀ t,t∈a.s->lchs t.data.toList
theorem ref_c (k:Nat):AnC (ref k):=by intro t h;simp[ref] at h
theorem okA_c:AnC okA:=by intro t h;simp[okA] at h
theorem tell1_c {l:List UInt8} (h:lchs l):AnC (tell1 ⟨l.toArray⟩):=by
  intro t ht;simp[tell1] at ht
  subst ht;exact h
theorem ans_c {s:Bk} {l:Ln} (hv:l.v<8):AnC (doLn s l).2:=by
  have hc:l.v=0\/l.v=1\/l.v=2\/l.v=3\/l.v=4\/l.v=5\/l.v=6\/l.v=7:=by omega
  unfold doLn;rcases hc with e|e|e|e|e|e|e|e<;>rw[e]
  . show AnC (doPool s l).2
    unfold doPool;repeat' (first|exact ref_c _|exact okA_c|split)
  . show AnC (doDrop s l).2
    unfold doDrop;repeat' (first|exact ref_c _|exact okA_c|split)
  . show AnC (doNet s l).2
    unfold doNet;split;· exact ref_c 7
    split;· exact ref_c 4
    rcases hb:best (frees 33 (netsOf s.nets l.a l.n) l.a l.n) l.g with _|b
    . exact ref_c 10
    . dsimp only;split
      . exact ref_c 6
      . exact tell1_c (wr_okl _ _)
  . show AnC (doBlock s l).2
    unfold doBlock;repeat' (first|exact ref_c _|exact okA_c|split)
  . show AnC (doFree s l).2
    unfold doFree;repeat' (first|exact ref_c _|exact okA_c|split)
  . show AnC (doLease s l).2
    unfold doLease;split;· exact ref_c 11
    rcases hb:least s.leases l.a l.n with _|d
    . exact ref_c 10
    . dsimp only;split
      . exact ref_c 6
      . exact tell1_c (dot_okl _)
  . show AnC (doTake s l).2
    unfold doTake;repeat' (first|exact ref_c _|exact okA_c|split)
  . show AnC (doGive s l).2
    unfold doGive;repeat' (first|exact ref_c _|exact okA_c|split)
theorem flat_okl {α:Type} (f:α->List UInt8) (l:List α) (h:∀ x,x∈l->lchs (f x)):lchs (l.flatMap f):=fun c hc=>by
  obtain⟨x,hx,hcx⟩:=List.mem_flatMap.1 hc;exact h x hx c hcx
theorem anText_c {a:An} (h:AnC a) (he:a.e=0):lchs (anText a):=by
  unfold anText;rw[if_pos he];refine okl_app ?_ (flat_okl _ _ fun t ht=>okl_cons (by unfold lchr;decide) (h t ht))
  intro c hc;simp at hc;rcases hc with rfl|rfl<;>(unfold lchr;decide)
theorem okl_no {l:List UInt8} (h:lchs l):(0:UInt8)∉l/\(10:UInt8)∉l/\(61:UInt8)∉l:=⟨fun q=>(lchr_not (h _ q)).1 rfl,fun q=>(lchr_not (h _ q)).2.1 rfl,fun q=>(lchr_not (h _ q)).2.2 rfl⟩
theorem tk_ok {s:Bk} {l:Ln} {line:ByteArray} (hI:Inv s) (hL:LnOk l) (h:rdLine line.data.toList=some l) (hv:l.v<8) (he:(doLn s l).2.e=0):TkOk (newTk s l line):=by
  obtain⟨c1,c2⟩:=line_okl h;obtain⟨n1,n2,n3⟩:=okl_no c1;obtain⟨m1,m2,m3⟩:=okl_no (anText_c (ans_c (s:=s) hv) he)
  refine⟨⟨l,h,hv,rfl⟩,n3,n2,n1,m2,m1,?_,?_⟩
  . rw[data_len] at c2;exact c2
  . show (⟨(anText (doLn s l).2).toArray⟩:ByteArray).size<=40
    rw[size_of];exact anText_s (ans_s hI hL hv) he
structure Kp (s:Bk):Prop where
  inv:Inv s
  good:Good s
  tk:∀ x,x∈s.toks->TkOk x
theorem Kp.tkb {s:Bk} (h:Kp s):∀ x,x∈s.toks->TkB x:=fun x hx=>⟨(h.tk x hx).2.2.2.2.2.2.1,(h.tk x hx).2.2.2.2.2.2.2⟩
theorem kp_done {s:Bk} {l:Ln} {line:ByteArray} (K:Kp s) (h:rdLine line.data.toList=some l) (hv:l.v<8) (he:(doLn s l).2.e=0) (hg:Good (doLn s l).1):Kp (doneS s l line):=by
  have hL:=(rdLine_ok h).1
  refine⟨done_inv K.inv hL line,⟨hg.pr,hg.nr,hg.po,hg.no,hg.lo,hg.pp,hg.np,hg.lp,hg.ni,hg.li⟩,fun x hx=>?_⟩
  rcases addT_mem hx with q|rfl
  . exact K.tk x q
  . exact tk_ok K.inv hL h hv he
theorem xT_okl:lchs xT:=fun c hc=>by simp[xT] at hc;subst hc;unfold lchr;decide
theorem cmd_okl {k:Nat} (hk:k=0\/k=3\/k=6) {o r:List UInt8} (ho:lchs o) (hr:lchs r):lchs (cmdL k xT o r):=by
  have hv:lchs (verb k):=by rcases hk with rfl|rfl|rfl<;>exact verb_okl _ (by decide)
  have h32:lchr 32:=by unfold lchr;decide
  exact okl_app hv (okl_cons h32 (okl_app xT_okl (okl_cons h32 (okl_app ho (okl_cons h32 hr)))))
theorem rowC_okl {s:Bk} (G:Good s):∀ r,r∈rowsC s->lchs r:=by
  intro r hr;unfold rowsC at hr;rcases List.mem_append.1 hr with hr|hr
  . rcases List.mem_append.1 hr with hr|hr
    . obtain⟨h,hh,rfl⟩:=List.mem_map.1 hr;exact cmd_okl (.inl rfl) (name_okl (G.po h hh)) (wr_okl _ _)
    . obtain⟨h,hh,rfl⟩:=List.mem_map.1 hr;exact cmd_okl (.inr (.inl rfl)) (name_okl (G.no h hh)) (wr_okl _ _)
  . obtain⟨h,hh,rfl⟩:=List.mem_map.1 hr;exact cmd_okl (.inr (.inr rfl)) (name_okl (G.lo h hh)) (dot_okl _)
theorem row_no {s:Bk} (K:Kp s):∀ r,r∈rowsS s->(0:UInt8)∉r/\(10:UInt8)∉r:=by
  intro r hr;unfold rowsS at hr;rcases List.mem_append.1 hr with hr|hr
  . have:=okl_no (rowC_okl K.good r hr)
    exact⟨this.1,this.2.1⟩
  . obtain⟨x,hx,rfl⟩:=List.mem_map.1 hr;obtain⟨_,_,t10,t0,r10,r0,_⟩:=K.tk x hx;unfold rowT;refine⟨fun q=>?_,fun q=>?_⟩
    . rcases List.mem_append.1 q with q|q
      . exact t0 q
      . rcases List.mem_cons.1 q with q|q
        . cases q
        . exact r0 q
    . rcases List.mem_append.1 q with q|q
      . exact t10 q
      . rcases List.mem_cons.1 q with q|q
        . cases q
        . exact r10 q
theorem snap_no {s:Bk} (K:Kp s):(0:UInt8)∉snapT s:=fun q=>by
  unfold snapT at q;obtain⟨r,hr,hc⟩:=List.mem_flatMap.1 q;rcases List.mem_append.1 hc with hc|hc
  . exact(row_no K r hr).1 hc
  . simp at hc
end Go.Proofs.YtjnhhnbgjjkkjaaGreatDoor
namespace Go.Proofs.YtjnhhnbgjjkkjaaGreatDoor
open Go.Conc Go.ChangeShapes Go.WideShapes Go.ChangeAt Go.RowKit
set_option linter.unusedVariables false
set_option linter.unusedSimpArgs false
theorem addT_len {l:List Tk} (x:Tk) (h:l.length<=8):(addT l x).length<=8:=by
  unfold addT;split<;>simp<;>omega
theorem inv_toks {s:Bk} (h:Inv s) {T:List Tk} (hT:T.length<=8):Inv { s with toks:=T }:=⟨h.p,h.n,h.l,hT,h.pa,h.na,h.la,h.pu,h.nu,h.lu⟩
theorem inv_all {s:Bk} (hI:Inv s) (line:ByteArray):Inv (doAll s line).1:=by
  unfold doAll;rcases e:rdLine line.data.toList with _|l
  . exact hI
  . have hn:=inv_ln hI (rdLine_ok e).1
    dsimp only;split
    . split
      . split<;>exact hI
      . split
        . exact inv_toks hn (addT_len _ hn.t)
        . exact hn
    . exact hn
def Ok (s:Bk):Prop:=Inv s/\Good s
theorem bk0_ok:Ok bk0:=⟨⟨by simp[bk0],by simp[bk0],by simp[bk0],by simp[bk0],by simp[bk0],by simp[bk0],by simp[bk0],fun j k h1 h2=>by simp[bk0] at h2,fun j k h1 h2=>by simp[bk0] at h2,fun j k h1 h2=>by simp[bk0] at h2⟩,bk0_good⟩
def doCmd (s:Bk) (l:Ln) (line:ByteArray):Bk×ByteArray :=
  match findT s.toks l.t with
  | some x=>if x.l≠line then (s,⟨(anText (ref 3)).toArray⟩) else (s,x.r)
  | none=>if (doLn s l).2.e=0 then ({ (doLn s l).1 with toks:=addT (doLn s l).1.toks ⟨l.t,line,⟨(anText (doLn s l).2).toArray⟩⟩ },⟨(anText (doLn s l).2).toArray⟩) else ((doLn s l).1,⟨(anText (doLn s l).2).toArray⟩)
theorem doAll_cmd {s:Bk} {line:ByteArray} {l:Ln} (e:rdLine line.data.toList=some l) (hv:l.v<8):doAll s line=doCmd s l line:=by
  unfold doAll doCmd;rw[e];dsimp only;rw[if_pos hv];rfl
theorem doAll_ask {s:Bk} {line:ByteArray} {l:Ln} (e:rdLine line.data.toList=some l) (hv:¬l.v<8):doAll s line=((doLn s l).1,⟨(anText (doLn s l).2).toArray⟩):=by
  unfold doAll;rw[e];dsimp only;rw[if_neg hv]
theorem doAll_none {s:Bk} {line:ByteArray} (e:rdLine line.data.toList=none):doAll s line=(s,⟨(anText (ref 2)).toArray⟩):=by
  unfold doAll;rw[e]
theorem ask_same {s:Bk} {l:Ln} (h8:¬l.v<8) (hv:l.v<11):(doLn s l).1=s:=by
  have hc:l.v=8\/l.v=9\/l.v=10:=by omega
  unfold doLn;rcases hc with e|e|e<;>rw[e]<;>rfl
theorem hread {line:ByteArray} (w:World) (E:EnvT w) (hZ:10<=w.heap.size):∀ W,Below w.heap.size w W->Calls Tryz.prog 38 #[.string line] W fun e w'=>e=.returned (.tuple #[.agg (lnC (rlC line)),.bool (rlOk line)])/\Below W.heap.size W w':=fun W hW=>lread_any line W (E.mono hW) (Nat.le_trans hZ hW.size)
def doP (s:Bk) (A:PD) (dn:Bool) (line:ByteArray):CP :=
  if dn=true then ⟨s,A,true,⟨#[]⟩⟩ else
  match rdLine line.data.toList with
  | none=>⟨s,A,false,⟨(anText (ref 2)).toArray⟩⟩
  | some l=>if l.v<8 then cmdP s A l line else ⟨s,A,false,⟨(anText (doLn s l).2).toArray⟩⟩
theorem doP_none {s:Bk} {A:PD} {line:ByteArray} (e:rdLine line.data.toList=none):doP s A false line=⟨s,A,false,⟨(anText (ref 2)).toArray⟩⟩:=by unfold doP;rw[if_neg (by simp),e]
theorem doP_ask {s:Bk} {A:PD} {line:ByteArray} {l:Ln} (e:rdLine line.data.toList=some l) (hv:¬l.v<8):doP s A false line=⟨s,A,false,⟨(anText (doLn s l).2).toArray⟩⟩:=by unfold doP;rw[if_neg (by simp),e];dsimp only;rw[if_neg hv]
theorem doP_cmd {s:Bk} {A:PD} {line:ByteArray} {l:Ln} (e:rdLine line.data.toList=some l) (hv:l.v<8):doP s A false line=cmdP s A l line:=by unfold doP;rw[if_neg (by simp),e];dsimp only;rw[if_pos hv]
theorem ado_still3 {ρ:Nat->Nat} {k:Nat} {w:World} {x d b c:Nat} {s:Bk} {A:PD} (h:AC ρ k w x d b c s A false) (line:ByteArray) (E:EnvT w) (hI:Inv s) (hG:∀ q,ρ q≠0->10<=q) (hZ:10<=w.heap.size) (hq:∀ l,rdLine line.data.toList=some l->¬l.v<8) :
    Calls Tryz.prog 16 #[.pointer (some ⟨x,0,none⟩),.string line] w fun e w'=>e=.returned (.string (doAll s line).2)/\(doAll s line).1=s/\Below w.heap.size w w':=by
  have HR:=hread (line:=line) w E hZ
  have hx:=h.blk.lt;have d3:w.cell? ⟨x,3,none⟩=some (.bool false):=h.blk.cell 3
  have hGB:∀ q,RBk ρ k q->10<=q:=fun q e=>hG q (by unfold RBk at e;omega)
  have CX:∀ W,Below w.heap.size w W->W.cell? ⟨x,1,none⟩=some (.pointer (some ⟨b,0,none⟩)):=fun W hW=>(hW.cell (p:=⟨x,1,none⟩) hx).trans (h.blk.cell 1)
  rcases e:rdLine line.data.toList with _|l
  . rw[doAll_none e];have e1:rlC line=ln0 0:=by unfold rlC;rw[e];rfl
    have e2:rlOk line=false:=by unfold rlOk;rw[e];rfl
    rw[e1,e2] at HR;refine(ado_none w x line _ hx d3 HR (fun W=>refuse_any 2 W) (fun W hW=>reftext_any 2 om W (E.mono hW))).mono ?_
    rintro e w' ⟨rfl,hb⟩
    exact⟨rfl,rfl,hb⟩
  . have hv:=hq l e;obtain⟨hL,h11⟩:=rdLine_ok e;rw[doAll_ask e hv];have e1:rlC line=l:=by unfold rlC;rw[e];rfl
    have e2:rlOk line=true:=by unfold rlOk;rw[e];rfl
    rw[e1,e2] at HR;obtain⟨o1,o2,o3⟩:=ans_ok hI hL;refine(ado_ask w x b l line ⟨(anText (doLn s l).2).toArray⟩ (doLn s l).2.e (doLn s l).2.s hx d3 CX HR (fun W=>?_) (fun W hW=>?_) (fun W bt nt ct hW hr=>atext_any (doLn s l).2 o1 o2 o3 _ W (E.mono hW) hr)).mono ?_
    . have h:=isCmd_any l.v W;rw[decide_eq_false om] at h;exact h
    . refine(bookAsk_any W b (RBk ρ k) s l (E.env.mono hW) hI hL (h.bk.below hW) hGB (Nat.le_trans hZ hW.size) om h11).mono ?_
      rintro e w3 ⟨⟨v,S',rfl,hrd,_⟩,hb⟩
      obtain⟨bt,ct,rfl,k⟩:=hrd;exact⟨bt,_,ct,rfl,⟨bt,ct,rfl,k⟩,hb⟩
    . rintro e w' ⟨rfl,hb⟩
      exact⟨rfl,ask_same hv h11,hb⟩
theorem AC.below {ρ:Nat->Nat} {k:Nat} {w:World} {x d b c:Nat} {s:Bk} {A:PD} (h:AC ρ k w x d b c s A false) {W:World} (hb:Below w.heap.size w W):AC ρ k W x d b c s A false :=
  ⟨h.blk.below hb,h.bk.below hb,h.ch.same (hb.block c h.ch.lt),h.dk.step (Stp.below (R:=fun _=>False) h.cl hb) (fun q=>q) (fun q=>q) (fun q=>q),h.rx,h.rc,fun q hq=>h.cl q (Nat.le_trans hb.size hq)⟩
theorem ado_any3 {ρ:Nat->Nat} {k:Nat} {w:World} {x d b c:Nat} {s:Bk} {A:PD} (h:AC ρ k w x d b c s A false) (line:ByteArray) (E:EnvT w) (hI:Inv s) (hT:∀ x,x∈s.toks->TkB x) (hwf:WF A.now) (hlo:A.loose=[]) (hlf:A.left<9223372036854775808) (hG:∀ q,ρ q≠0->10<=q) (hZ:10<=w.heap.size) :
    Calls Tryz.prog 16 #[.pointer (some ⟨x,0,none⟩),.string line] w (DoR3 ρ k w x d b c (doP s A false line)):=by
  by_cases hq:∀ l,rdLine line.data.toList=some l->¬l.v<8
  . refine(ado_still3 h line E hI hG hZ hq).mono ?_
    rintro e w' ⟨rfl,hs,hb⟩
    have hp:doP s A false line=⟨s,A,false,(doAll s line).2⟩:=by
      rcases e:rdLine line.data.toList with _|l
      . rw[doP_none e,doAll_none e]
      . rw[doP_ask e (hq l e),doAll_ask e (hq l e)]
    rw[hp];exact⟨rfl,ρ,h.below hb,Stp.below h.cl hb⟩
  . obtain⟨l,e,hv⟩:∃ l,rdLine line.data.toList=some l/\l.v<8:=by
      rcases e:rdLine line.data.toList with _|l
      . exact absurd (fun l hl=>by rw[e] at hl;cases hl) hq
      . by_cases hv:l.v<8
        . exact⟨l,rfl,hv⟩
        . exact absurd (fun l' hl=>by rw[e] at hl;cases hl;exact hv) hq
    obtain⟨hL,h11⟩:=rdLine_ok e;rw[doP_cmd e hv];have HR:=hread (line:=line) w E hZ
    have e1:rlC line=l:=by unfold rlC;rw[e];rfl
    have e2:rlOk line=true:=by unfold rlOk;rw[e];rfl
    rw[e1,e2] at HR;have hs:line.size<=100:=by have:=(line_okl e).2;rw[data_len] at this;exact this
    have hx:=h.blk.lt;refine ado_cmd w x b l line _ hx (h.blk.cell 3) (fun W hW=>(hW.cell (p:=⟨x,1,none⟩) hx).trans (h.blk.cell 1)) HR (fun W=>?_) (fun W hW=>?_)
    . have h:=isCmd_any l.v W;rw[decide_eq_true om] at h;exact h
    . refine(command_r3 (h.below hW) line (E.mono hW) hI hL hv hs hT hwf hlo hlf hG (Nat.le_trans hZ hW.size)).mono ?_
      rintro e w' ⟨rfl,ρ',a1,a2⟩
      exact⟨_,rfl,rfl,ρ',a1,(Stp.below h.cl hW).trans a2⟩
theorem ado_down3 {ρ:Nat->Nat} {k:Nat} {w:World} {x d b c:Nat} {s:Bk} {A:PD} (h:AC ρ k w x d b c s A true) (line:ByteArray):Calls Tryz.prog 16 #[.pointer (some ⟨x,0,none⟩),.string line] w fun e w'=>e=.returned (.string ⟨#[]⟩)/\Below w.heap.size w w':=ado_down w x line (h.blk.cell 3)
theorem ref_same {s:Bk} {l:Ln} {line:ByteArray} (G:Good s) (h:rdLine line.data.toList=some l) (hv:l.v<8) (he:¬(doLn s l).2.e=0):(doLn s l).1=s:=by
  rcases ln_shows G (rdLine_gd h) hv with⟨_,q⟩|⟨q,_⟩
  . exact q
  . exact absurd q he
theorem doP_main {s:Bk} {A:PD} (K:Kp s) (hH:Has A (snapT s)) (line:ByteArray) :
    ((doP s A false line).dn=false->(doP s A false line).r=(doAll s line).2/\(doP s A false line).s=(doAll s line).1/\Kp (doP s A false line).s/\Has (doP s A false line).A (snapT (doP s A false line).s)) /\
    ((doP s A false line).dn=true->(doP s A false line).r=⟨#[]⟩/\(doP s A false line).s=(doAll s line).1/\Kp (doP s A false line).s/\Half (doP s A false line).A (snapT s) (snapT (doP s A false line).s)) /\
    (doP s A false line).A.left<=A.left/\(Ever A->(doP s A false line).dn=false/\Ever (doP s A false line).A):=by
  rcases e:rdLine line.data.toList with _|l
  . rw[doP_none e,doAll_none e];exact⟨fun _=>⟨rfl,rfl,K,hH⟩,fun q=>(by cases q),Int.le_refl _,fun hE=>⟨rfl,hE⟩⟩
  . by_cases hv:l.v<8
    . rw[doP_cmd e hv,doAll_cmd e hv];unfold cmdP doCmd;rcases hf:findT s.toks l.t with _|tk
      . dsimp only;by_cases he:(doLn s l).2.e=0
        . rw[if_pos he,if_pos he];have hg:Good (doLn s l).1:=good_ln K.good (rdLine_gd e)
          have K':=kp_done K e hv he hg;have es:({ (doLn s l).1 with toks:=addT (doLn s l).1.toks ⟨l.t,line,⟨(anText (doLn s l).2).toArray⟩⟩ }:Bk)=doneS s l line:=by rw[doLn_toks];rfl
          rw[es];obtain⟨p1,p2,p3,p4,p5⟩:=putT_main hH (snap_no K') (snap_len K'.inv K'.tkb)
          refine⟨fun q=>?_,fun q=>?_,p3,fun hE=>?_⟩
          . have q':(putT A (snapT (doneS s l line))).2=true:=by simpa using q
            dsimp only;rw[if_pos q'];exact⟨rfl,rfl,K',p1 q'⟩
          . have q':(putT A (snapT (doneS s l line))).2=false:=by simpa using q
            dsimp only;rw[if_neg (by rw[q'];simp)]
            exact⟨rfl,rfl,K',p2 q'⟩
          . obtain⟨a1,a2⟩:=p4 hE;exact⟨by dsimp only;rw[a1];rfl,a2⟩
        . rw[if_neg he,if_neg he];have hs:=ref_same K.good e hv he;rw[hs];exact⟨fun _=>⟨rfl,rfl,K,hH⟩,fun q=>(by cases q),Int.le_refl _,fun hE=>⟨rfl,hE⟩⟩
      . dsimp only;split<;>exact⟨fun _=>⟨rfl,rfl,K,hH⟩,fun q=>(by cases q),Int.le_refl _,fun hE=>⟨rfl,hE⟩⟩
    . rw[doP_ask e hv,doAll_ask e hv];have h11:=(rdLine_ok e).2
      exact⟨fun _=>⟨rfl,(ask_same hv h11).symm,K,hH⟩,fun q=>(by cases q),Int.le_refl _,fun hE=>⟨rfl,hE⟩⟩
def HB (w0:World) (K:Nat->Prop) (x:Nat) (s:Bk) (W:World):Prop:=∃ ρ k A d b c,AC ρ k W x d b c s A false/\Ever A/\Has A (snapT s)/\Kp s/\(∀ q,ρ q≠0->w0.heap.size<=q/\¬K q)/\Below w0.heap.size w0 W
theorem HB.low {w0 W:World} {K:Nat->Prop} {x:Nat} {s:Bk} (h:HB w0 K x s W):Below w0.heap.size w0 W:=by obtain⟨_,_,_,_,_,_,_,_,_,_,_,h⟩:=h;exact h
theorem HB.below {w0 W W':World} {K:Nat->Prop} {x:Nat} {s:Bk} (h:HB w0 K x s W) (hb:Below W.heap.size W W'):HB w0 K x s W':=by
  obtain⟨ρ,kk,A,d,b,c,h1,h2,h3,h4,h5,h6⟩:=h;exact⟨ρ,kk,A,d,b,c,h1.below hb,h2,h3,h4,h5,h6.trans (hb.mono h6.size)⟩
theorem hb_do (w0:World) (K:Nat->Prop) (x:Nat) (s:Bk) (line:ByteArray) (E:EnvT w0) (hZ:10<=w0.heap.size) (hI:Inv s) (W:World) (h:HB w0 K x s W) (hK:∀ b,K b->b<W.heap.size) :
    Calls Tryz.prog 16 #[.pointer (some ⟨x,0,none⟩),.string line] W fun e W'=>e=.returned (.string (doAll s line).2)/\HB w0 K x (doAll s line).1 W'/\(∀ b,K b->W'.heap[b]?=W.heap[b]?)/\W.heap.size<=W'.heap.size:=by
  obtain⟨ρ,kk,A,d,b,c,h1,h2,h3,h4,h5,h6⟩:=h;refine(ado_any3 h1 line (E.mono h6) hI h4.tkb h3.wf h3.loose (by rw[h2.1];decide) (fun q e=>Nat.le_trans hZ (h5 q e).1) (Nat.le_trans hZ h6.size)).mono ?_
  rintro e W' ⟨rfl,ρ',a1,a2⟩
  obtain⟨m1,_,_,m4⟩:=doP_main h4 h3 line;obtain⟨n1,n2⟩:=m4 h2;obtain⟨r1,r2,r3,r4⟩:=m1 n1;have n0:¬ROk kk 0:=by unfold ROk;omega
  refine⟨by rw[r1],⟨ρ',kk,_,d,b,c,by rw[n1,r2] at a1;exact a1,n2,by rw[<- r2];exact r4,by rw[<- r2];exact r3,fun q e=>?_,?_⟩,fun q k=>a2.block q (hK q k) ?_,a2.size⟩
  . rcases Nat.lt_or_ge q W.heap.size with hq|hq
    . rw[a2.role q hq] at e;exact h5 q e
    . exact⟨Nat.le_trans h6.size hq,fun k=>by have:=hK q k;omega⟩
  . refine h6.trans ⟨a2.os,a2.tape,a2.output,a2.size,fun q hq=>a2.block q (Nat.lt_of_lt_of_le hq h6.size) ?_⟩
    have e0:ρ q=0:=by
      rcases Nat.eq_zero_or_pos (ρ q) with e|e
      . exact e
      . have:=(h5 q om).1;omega
    rw[e0];exact n0
  . have e0:ρ q=0:=by
      rcases Nat.eq_zero_or_pos (ρ q) with e|e
      . exact e
      . exact absurd k (h5 q om).2
    rw[e0];exact n0
theorem hb_ask (w0:World) (K:Nat->Prop) (x:Nat) (s:Bk) (line:ByteArray) (E:EnvT w0) (hZ:10<=w0.heap.size) (hI:Inv s) (hq:∀ l,rdLine line.data.toList=some l->¬l.v<8) (W:World) (h:HB w0 K x s W) :
    Calls Tryz.prog 16 #[.pointer (some ⟨x,0,none⟩),.string line] W fun e W'=>e=.returned (.string (doAll s line).2)/\Below W.heap.size W W':=by
  obtain⟨ρ,kk,A,d,b,c,h1,h2,h3,h4,h5,h6⟩:=h;refine(ado_still3 h1 line (E.mono h6) hI (fun q e=>Nat.le_trans hZ (h5 q e).1) (Nat.le_trans hZ h6.size) hq).mono ?_
  rintro e W' ⟨rfl,_,hb⟩
  exact⟨rfl,hb⟩
theorem dat_new (ρ:Nat->Nat) (w:World) (hc:Clean ρ w):DAt (ru ρ w.heap.size 1) 0 (w.alloc (.cells (dB (.slice none 0 0) (.slice none 0 0) (.slice none 0 0) (-1) false) 112)) w.heap.size ⟨[],[],[],-1,false⟩:=by
  have hr:∀ W,Reads W (.slice none 0 0) []:=fun W=>⟨none,0,rfl,Nat.le_refl _,by unfold maxLen;omega,fun h=>absurd rfl h⟩
  exact⟨ru_at _ _ _,.slice none 0 0,.slice none 0 0,.slice none 0 0,Blk.new w _ _,⟨hr _,fun h=>absurd rfl h⟩,⟨hr _,fun h=>absurd rfl h⟩,⟨rfl,.inl ⟨rfl,rfl⟩⟩,fun b e=>(by cases e)⟩
theorem kp0:Kp bk0:=⟨bk0_ok.1,bk0_good,fun x hx=>by simp[bk0] at hx⟩
theorem snap0:snapT bk0=[]:=rfl
set_option maxRecDepth 100000 in
set_option maxHeartbeats 400000 in
theorem opened_any (w0 w:World) (h:Below w0.heap.size w0 w) (E:EnvT w0:=by first|assumption|exact Hid.out (by assumption)):Calls Tryz.prog 11 #[] w fun e w'=>∃ x d,e=.returned (.tuple #[.pointer (some ⟨x,0,none⟩),.pointer (some ⟨d,0,none⟩)])/\HB w0 (fun _=>False) x bk0 w'/\Below w.heap.size w w':=by
  have HN:Hid (∀ W,Calls Tryz.prog 34 #[] W fun e w'=>e=.returned (.pointer (some ⟨W.heap.size,0,none⟩))/\w'=W.alloc (.cells (dB (.slice none 0 0) (.slice none 0 0) (.slice none 0 0) (-1) false) 112)):=fun W=>new_d W
  have HO:Hid (∀ W,Below w0.heap.size w0 W->Calls Tryz.prog 27 #[.pointer (some ⟨W.heap.size,0,none⟩)] (W.alloc (.cells (dB (.slice none 0 0) (.slice none 0 0) (.slice none 0 0) (-1) false) 112)) fun e w'=>∃ x,e=.returned (.tuple #[.pointer (some ⟨x,0,none⟩),.int .i64 0])/\HB w0 (fun _=>False) x bk0 w'/\Below W.heap.size W w'):=fun W hW=>by
    have hb:Below W.heap.size W (W.alloc (.cells (dB (.slice none 0 0) (.slice none 0 0) (.slice none 0 0) (-1) false) 112)):=(Below.refl _ W).alloc (Nat.le_refl _) _
    have hWa:=hW.trans (hb.mono hW.size)
    have hz:(W.alloc (.cells (dB (.slice none 0 0) (.slice none 0 0) (.slice none 0 0) (-1) false) 112)).heap.size=W.heap.size+1:=by simp
    have hc0:Clean (fun _=>0) W:=fun q _=>rfl
    have hc1:Clean (ru (fun _=>0) W.heap.size 1) (W.alloc (.cells (dB (.slice none 0 0) (.slice none 0 0) (.slice none 0 0) (-1) false) 112)):=fun q hq=>by rw[hz] at hq;exact ru_ne _ _ _ om
    refine(open_new _ _ W.heap.size (E.mono hWa).env (dat_new _ W hc0) hc1).mono ?_
    rintro e w' ⟨x,b,c,ρ',rfl,a1,a2,a3⟩
    refine⟨x,rfl,⟨ρ',0,_,_,b,c,a1,⟨rfl,rfl⟩,by rw[snap0];exact new_has,kp0,fun q e=>⟨?_,fun k=>k⟩,hWa.trans (a3.mono hWa.size)⟩,hb.trans (a3.mono hb.size)⟩
    have hs:=hW.size;rcases a2 q e with e'|e'
    . by_cases hq:q=W.heap.size
      . omega
      . exact absurd (ru_ne _ _ _ hq) e'
    . rw[hz] at e';omega
  have H0:Hid (Below w0.heap.size w0 w):=h
  clear h;go_enter Tryz.func11,Tryz.ntmps11
  go_wp2_with (first|(go_at_call 34;refine(HN.out _).mono ?_;rintro e w1 ⟨rfl,rfl⟩)|(go_at_call 27;refine(HO.out _ H0.out).mono ?_;rintro e w2 ⟨x,rfl,hhb,hq2⟩;replace hhb:Hid (HB w0 (fun _=>False) x bk0 w2):=hhb;replace hq2:Hid (Below w.heap.size w w2):=hq2))
  have hfin:∃ x' d',Ending.returned (Value.tuple #[.pointer (some ⟨x,0,none⟩),.pointer (some ⟨w.heap.size,0,none⟩)])=Ending.returned (.tuple #[.pointer (some ⟨x',0,none⟩),.pointer (some ⟨d',0,none⟩)])/\HB w0 (fun _=>False) x' bk0 w2/\Below w.heap.size w w2:=⟨x,_,rfl,hhb.out,hq2.out⟩
  exact bodyPost_ret (v:=.tuple #[.pointer (some ⟨x,0,none⟩),.pointer (some ⟨w.heap.size,0,none⟩)]) (by simp[results,Tryz.results11]) rfl hfin
theorem eq_cut {a b:List UInt8} (h:(61:UInt8)∉a):eqA (a++61::b)=a/\eqB (a++61::b)=b/\hasEq (a++61::b)=true:=by
  have e:eqA (a++61::b)=a:=by
    unfold eqA;rw[List.takeWhile_append_of_pos (by intro c hc;simp;intro q;exact h (q ▸ hc)),List.takeWhile_cons_of_neg (by simp)]
    simp
  refine⟨e,?_,?_⟩
  . unfold eqB;rw[e];simp
  . unfold hasEq;rw[e];simp
theorem ent_h (l:List Hd) (ho:∀ h,h∈l->isName h.o.data.toList=true):entL (ansT (l.map hText))=some (l.map fun h=>(bText h.a h.n,h.o.data.toList)):=by
  have hc:∀ h:Hd,eqA (hText h)=bText h.a h.n/\eqB (hText h)=h.o.data.toList/\hasEq (hText h)=true:=fun h=>eq_cut (wr_no 61 (by decide) _ _)
  unfold entL;rw[parts_ans _ (hTs_no ho)];simp only[if_true]
  rw[if_pos (List.all_eq_true.2 fun y hy=>by obtain⟨h,_,rfl⟩:=List.mem_map.1 hy;exact(hc h).2.2)]
  unfold entsOf;rw[List.map_map];congr 1
  exact List.map_congr_left fun h _=>by simp[(hc h).1,(hc h).2.1]
theorem ent_l (l:List Ls) (ho:∀ h,h∈l->isName h.o.data.toList=true):entL (ansT (l.map lText))=some (l.map fun h=>(dot h.a.toNat,h.o.data.toList)):=by
  have hc:∀ h:Ls,eqA (lText h)=dot h.a.toNat/\eqB (lText h)=h.o.data.toList/\hasEq (lText h)=true:=fun h=>eq_cut (dot_no 61 (by decide) _)
  unfold entL;rw[parts_ans _ (lTs_no ho)];simp only[if_true]
  rw[if_pos (List.all_eq_true.2 fun y hy=>by obtain⟨h,_,rfl⟩:=List.mem_map.1 hy;exact(hc h).2.2)]
  unfold entsOf;rw[List.map_map];congr 1
  exact List.map_congr_left fun h _=>by simp[(hc h).1,(hc h).2.1]
theorem ask_pools (s:Bk):doAll s (bs (verb 8))=(s,bs (poolsT s)):=by
  have e:=read_pools;rw[doAll_ask (l:=ln0 8) (by rw[bs_data];exact e) (by show ¬8<8;omega)]
  show (s,(⟨(anText ⟨0,s.pools.map fun h=>⟨(hText h).toArray⟩⟩).toArray⟩:ByteArray))=_
  rw[anText_ok hText];rfl
theorem find_in {l:List Hd} {h:Hd} (hh:h∈l):¬findH l h.a h.n<0:=by
  unfold findH;rcases fi_cases (isH h.a h.n) l hd0 with⟨_,q⟩|⟨k,_,e,_⟩
  . have:=q h hh;simp[isH] at this
  . rw[e];omega
theorem ask_nets {s:Bk} (G:Good s) {p:Hd} (hp:p∈s.pools):doAll s (bs (verb 9++32::bText p.a p.n))=(s,bs (netsT s p)):=by
  obtain⟨h0,h1,hr⟩:=G.pr p hp;have e:=read_ask (k:=9) (a:=p.a) (n:=p.n) om h0 h1 hr
  rw[doAll_ask (l:=lnB 9 [] [] p.a p.n) (by rw[bs_data];exact e) (by show ¬9<8;omega)]
  show (s,(⟨(anText (doNets s (lnB 9 [] [] p.a p.n))).toArray⟩:ByteArray))=_
  have e2:doNets s (lnB 9 [] [] p.a p.n)=⟨0,(netsOf s.nets p.a p.n).map fun h=>⟨(hText h).toArray⟩⟩:=if_neg (find_in hp)
  rw[e2,anText_ok hText];rfl
theorem ask_used {s:Bk} (G:Good s) {p:Hd} (hp:p∈s.nets):doAll s (bs (verb 10++32::bText p.a p.n))=(s,bs (usedT s p)):=by
  obtain⟨h0,h1,hr,_⟩:=G.nr p hp;have e:=read_ask (k:=10) (a:=p.a) (n:=p.n) om h0 h1 hr
  rw[doAll_ask (l:=lnB 10 [] [] p.a p.n) (by rw[bs_data];exact e) (by show ¬10<8;omega)]
  show (s,(⟨(anText (doUsed s (lnB 10 [] [] p.a p.n))).toArray⟩:ByteArray))=_
  have e2:doUsed s (lnB 10 [] [] p.a p.n)=⟨0,(leasesOf s.leases p.a p.n).map fun h=>⟨(lText h).toArray⟩⟩:=if_neg (find_in hp)
  rw[e2,anText_ok lText];rfl
end Go.Proofs.YtjnhhnbgjjkkjaaGreatDoor
