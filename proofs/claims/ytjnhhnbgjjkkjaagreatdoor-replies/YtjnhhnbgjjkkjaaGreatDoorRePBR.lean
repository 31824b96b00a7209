import Derived.Test.YtjnhhnbgjjkkjaaGreatDoorRePBQ
import Derived.Test.YtjnhhnbgjjkkjaaGreatDoorRePBH
set_option linter.all false
set_option maxRecDepth 100000
set_option maxHeartbeats 2000000
namespace Go.Proofs.YtjnhhnbgjjkkjaaGreatDoor
section
open Go.Conc Go.RowKit
def AnS(a:An):Prop:=a.s.length<=1/\∀ t,t∈a.s->t.size<=18
theorem fP(k:Nat):AnS (ref k):=⟨by simp[ref],by simp[ref]⟩
theorem ns:AnS okA:=⟨by simp[okA],by simp[okA]⟩
theorem uW(t:Bz)(h:t.size<=18):AnS (eB t):=⟨by simp[eB],by simpa[eB] using h⟩
theorem x9{s:Bk}{l:Ln}(hI:Inv s)(hL:aZ l)(hv:l.v<8):AnS (aH s l).2:=by
 have hc:l.v=0\/l.v=1\/l.v=2\/l.v=3\/l.v=4\/l.v=5\/l.v=6\/l.v=7:=by omega
 unfold aH;rcases hc with e|e|e|e|e|e|e|e<;>rw[e]
 ·show AnS (cy s l).2
  unfold cy;repeat' (first|exact fP _|exact ns|split)
 ·show AnS (cR s l).2
  unfold cR;repeat' (first|exact fP _|exact ns|split)
 ·show AnS (dH s l).2
  unfold dH;split;· exact fP 7
  split;· exact fP 4
  rcases hb:dN (aM 33 (af s.nets l.a l.n) l.a l.n) l.g with _|b
  ·exact fP 10
  ·dsimp only;split
   ·exact fP 6
   ·refine uW _ ?_
    rw[eQ];rcases iU _ _ _ hb with⟨q1,q2⟩|q
    ·have h1:=ja (af s.nets l.a l.n) (fun h hh=>(aj.1 (hI.na h (List.mem_filter.1 hh).1).2.1).2.1) 33 l.a l.n hL.a hL.r b q1
     exact iu (n:=l.g) h1.1 hL.g0 hL.g1
    ·cases q
 ·show AnS (bI s l).2
  unfold bI;repeat' (first|exact fP _|exact ns|split)
 ·show AnS (cS s l).2
  unfold cS;repeat' (first|exact fP _|exact ns|split)
 ·show AnS (bU s l).2
  unfold bU;split;· exact fP 11
  rcases hb:du s.leases l.a l.n with _|d
  ·exact fP 10
  ·dsimp only;split
   ·exact fP 6
   ·refine uW _ ?_
    have:=jf hL.a hL.r hb
    have h2:=fI d.toNat (by have h3:=this.1;have h4:=this.2;omega)
    rw[eQ];omega
 ·show AnS (cA s l).2
  unfold cA;repeat' (first|exact fP _|exact ns|split)
 ·show AnS (cU s l).2
  unfold cU;repeat' (first|exact fP _|exact ns|split)
theorem k7{a:An}(h:AnS a)(he:a.e=0):(aG a).length<=40:=by
 unfold aG;rw[if_pos he];obtain⟨h1,h2⟩:=h;have h3:=oh (fun t:Bz=>32::t.data.toList) 19 a.s (fun t ht=>by have:=h2 t ht;have e:=dP t;simp only[List.length_cons];omega)
 have h4:19*a.s.length<=19*1:=Nat.mul_le_mul_left _ h1
 simp only[List.length_append,List.length_cons,List.length_nil]
 omega
structure CP where
 s:Bk
 A:PD
 dn:Bool
 r:Bz
def Ae(s:Bk)(l:Ln)(line:Bz):Tk:=⟨l.t,line,⟨(aG (aH s l).2).toArray⟩⟩
def gB(s:Bk)(l:Ln)(line:Bz):Bk:={ (aH s l).1 with toks:=dM s.toks (Ae s l line) }
def yC(s:Bk)(A:PD)(l:Ln)(line:Bz):CP :=
 match cX s.toks l.t with
 | some x=>⟨s,A,false,if x.l≠line then ⟨(aG (ref 3)).toArray⟩ else x.r⟩
 | none=>if (aH s l).2.e=0 then ⟨gB s l line,(gb A (cr (gB s l line))).1,!(gb A (cr (gB s l line))).2,if (gb A (cr (gB s l line))).2=true then ⟨(aG (aH s l).2).toArray⟩ else ⟨#[]⟩⟩ else ⟨(aH s l).1,A,false,⟨(aG (aH s l).2).toArray⟩⟩
def TkB(x:Tk):Prop:=x.l.size<=100/\x.r.size<=40
theorem mC{l:List Tk}(x:Tk)(h:l.length<=8):(dM l x).length<=8:=by
 unfold dM;split<;>simp<;>omega
theorem BV(l:List Tk)(x:Tk):dM l x≠[]:=by unfold dM;simp
theorem zy{s:Bk}(h:Inv s){T:List Tk}(hT:T.length<=8):Inv { s with toks:=T }:=⟨h.p,h.n,h.l,hT,h.pa,h.na,h.la,h.pu,h.nu,h.lu⟩
theorem pL{s:Bk}{l:Ln}(hI:Inv s)(hL:aZ l)(line:Bz):Inv (gB s l line):=zy (zu hI hL) (mC _ hI.t)
theorem Cy{s:Bk}{l:Ln}{line:Bz}(hI:Inv s)(hL:aZ l)(hv:l.v<8)(he:(aH s l).2.e=0)(hs:line.size<=100)(hT:∀ x,x∈s.toks->TkB x):∀ x,x∈(gB s l line).toks->TkB x:=by
 intro x hx;rcases o8 hx with h|rfl
 ·exact hT x h
 ·exact⟨hs,by show (⟨(aG (aH s l).2).toArray⟩:Bz).size<=40;rw[eQ];exact k7 (x9 hI hL hv) he⟩
theorem BA.mono{w:World}{x:Nat}{S S':Nat->Prop}{vp vn vl:Value}{c:Nat}{s:Bk}(h:BA w x S vp vn vl c s)(hs:∀ b,S b->S' b)(hz:∀ b,S' b->b<w.heap.size):BA w x S' vp vn vl c s :=
 ⟨h.blk,trivial,h.op,h.on,h.ol,hs _ h.sx,trivial,fun b e=>hs b (h.sp b e),fun b e=>hs b (h.sn b e),fun b e=>hs b (h.sl b e),hz⟩
theorem au.tk{w:World}{x:Nat}{S:Nat->Prop}{s:Bk}(h:au w x S s)(T:List Tk):au w x S { s with toks:=T }:=by
 obtain⟨vp,vn,vl,c,B⟩:=h;exact⟨vp,vn,vl,c,B.blk,trivial,B.op,B.on,B.ol,B.sx,trivial,B.sp,B.sn,B.sl,B.sz⟩
def RBk(ρ:Nat->Nat)(k:Nat)(b:Nat):Prop:=ρ b=4*k+2
def eX(d b c:Nat)(dn:Bool):Array Value:=#[Pq d,Pq b,.chan (some c),.bool dn]
structure AC(ρ:Nat->Nat)(k:Nat)(W:World)(x d b c:Nat)(s:Bk)(A:PD)(dn:Bool):Prop where
 blk:Blk W x (eX d b c dn) 90
 bk:au W b (RBk ρ k) s
 ch:Ch W c s.toks
 dk:DAt ρ k W d A
 rx:ρ x=4*k+4
 rc:ρ c=4*k+4
 cl:cO ρ W
def AB(ρ:Nat->Nat)(k:Nat)(W:World)(x:Nat)(s:Bk)(A:PD)(dn:Bool):Prop:=∃ d b c,AC ρ k W x d b c s A dn
def ROk(k r:Nat):Prop:=r=4*k+1\/r=4*k+2\/r=4*k+3\/r=4*k+4
theorem AC.xc{ρ:Nat->Nat}{k:Nat}{W:World}{x d b c:Nat}{s:Bk}{A:PD}{dn:Bool}(h:AC ρ k W x d b c s A dn):x≠c:=by
 rintro rfl
 obtain⟨s1,r1,hc⟩:=h.ch;have hx:=h.blk;unfold Blk at hx;rw[hx] at hc;simp at hc
theorem Hh{ρ:Nat->Nat}{k:Nat}{w W:World}{x d b c:Nat}{s s':Bk}{A:PD}{dn:Bool}(h:AC ρ k w x d b c s A dn){S':Nat->Prop}(hb:au W b S' s')(hS:∀ q,S' q->RBk ρ k q\/w.heap.size<=q)(hc:Ch W c s'.toks)(hx:Blk W x (eX d b c dn) 90)(hg:Chg (fun q=>RBk ρ k q\/q=c) w W):
  ∃ ρ',AC ρ' k W x d b c s' A dn/\Stp (fun r=>r=4*k+2\/r=4*k+4) ρ ρ' w W:=by
 classical
 obtain⟨ρ',hr'⟩:∃ ρ':Nat->Nat,ρ'=fun q=>if q<w.heap.size then ρ q else if S' q then 4*k+2 else 0:=⟨_,rfl⟩
 have r1:∀ q,q<w.heap.size->ρ' q=ρ q:=fun q hq=>by rw[hr'];exact if_pos hq
 have r2:∀ q,w.heap.size<=q->S' q->ρ' q=4*k+2:=fun q hq hs=>by rw[hr'];show (if _ then _ else _)=_;rw[if_neg om,if_pos hs]
 have r3:∀ q,w.heap.size<=q->¬S' q->ρ' q=0:=fun q hq hs=>by rw[hr'];show (if _ then _ else _)=_;rw[if_neg om,if_neg hs]
 obtain⟨vp,vn,vl,z,B⟩:=hb;have hcl:cO ρ' W:=fun q hq=>r3 q (Nat.le_trans hg.size hq) (fun e=>by have:=B.sz q e;omega)
 have hst:Stp (fun r=>r=4*k+2\/r=4*k+4) ρ ρ' w W:=⟨hg.os,hg.tape,hg.output,hg.size,r1,fun q hq hr=>hg.block q hq (fun e=>hr (e.elim (fun e=>.inl e) (fun e=>.inr (by rw[e];exact h.rc)))),hcl⟩
 have hsz:∀ q,RBk ρ' k q->q<W.heap.size:=fun q hq=>by
  rcases Nat.lt_or_ge q W.heap.size with e|e
  ·exact e
  ·have:=hcl q e;unfold RBk at hq;omega
 refine⟨ρ',⟨hx,⟨vp,vn,vl,z,B.mono (fun q e=>?_) hsz⟩,hc,h.dk.step hst om om om,?_,?_,hcl⟩,hst⟩
 ·rcases Nat.lt_or_ge q w.heap.size with hq|hq
  ·rcases hS q e with e'|e'
   ·exact(r1 q hq).trans e'
   ·omega
  ·exact r2 q hq e
 ·exact(r1 x h.blk.lt).trans h.rx
 ·exact(r1 c h.ch.lt).trans h.rc
theorem AC.disk{ρ ρ':Nat->Nat}{k:Nat}{w W:World}{x d b c:Nat}{s:Bk}{A A':PD}{dn:Bool}(h:AC ρ k w x d b c s A dn)(hd:DAt ρ' k W d A')(hs:Stp (RDk k) ρ ρ' w W):AC ρ' k W x d b c s A' dn:=by
 have n4:¬RDk k (4*k+4):=SWr.four k
 have n2:¬RDk k (4*k+2):=by unfold RDk;omega
 have hsz:∀ q,RBk ρ' k q->q<W.heap.size:=fun q hq=>by
  rcases Nat.lt_or_ge q W.heap.size with e|e
  ·exact e
  ·have:=hs.clean q e;unfold RBk at hq;omega
 obtain⟨vp,vn,vl,z,B⟩:=h.bk;have B1:BA W b (RBk ρ k) vp vn vl z s:=B.same (fun q e=>hs.block q (B.sz q e) (by rw[show ρ q=4*k+2 from e];exact n2)) hs.size
 exact⟨h.blk.step hs (by rw[h.rx];exact n4),⟨vp,vn,vl,z,B1.mono (fun q e=>(hs.role q (B.sz q e)).trans e) hsz⟩,h.ch.same (hs.block c h.ch.lt (by rw[h.rc];exact n4)),hd,(hs.role x h.blk.lt).trans h.rx,(hs.role c h.ch.lt).trans h.rc,hs.clean⟩
theorem AC.down{ρ:Nat->Nat}{k:Nat}{W:World}{x d b c:Nat}{s:Bk}{A:PD}(h:AC ρ k W x d b c s A false):AC ρ k (W.setCell (At x 3) (.bool true)) x d b c s A true/\Stp (fun r=>r=4*k+4) ρ ρ W (W.setCell (At x 3) (.bool true)):=by
 have S:Stp (fun r=>r=4*k+4) ρ ρ W (W.setCell (At x 3) (.bool true)):=Stp.set h.cl h.rx 3 _
 have hb:∀ q,q≠x->(W.setCell (At x 3) (.bool true)).heap[q]?=W.heap[q]?:=fun q hq=>Below.heap_setCell _ _ _ _ hq
 have hz:(W.setCell (At x 3) (.bool true)).heap.size=W.heap.size:=by simp[World.setCell]
 obtain⟨vp,vn,vl,z,B⟩:=h.bk;refine⟨⟨?_,⟨vp,vn,vl,z,B.same (fun q e=>hb q (by rintro rfl;have:=h.rx;unfold RBk at e;omega)) (by rw[hz];exact Nat.le_refl _)⟩,h.ch.same (hb c (fun e=>h.xc e.symm)),h.dk.step S om om om,h.rx,h.rc,S.clean⟩,S⟩
 have:=h.blk.set 3 (.bool true)
 simpa[eX] using this
def FU(ρ:Nat->Nat)(k:Nat)(w:World)(x d b c:Nat)(p:CP)(e:Ending)(w':World):Prop:=e=.returned (.string p.r)/\∃ ρ',AC ρ' k w' x d b c p.s p.A p.dn/\Stp (ROk k) ρ ρ' w w'
end
section
open Go.ChangeShapes Go.WideShapes Go.ChangeAt Go.RowKit Go.Proofs.Tryz
theorem Fh(d:Nat)(w:World):Cr prog 46 #[Pq d] w (.agg #[Pq d]):=by
 go_enter func46,ntmps46
 go_wp2;go_returns
 exact⟨rfl,upB⟩
end
section
open Go.Conc Go.RowKit Go.Proofs.Tryz
theorem au.lt{w:World}{x:Nat}{S:Nat->Prop}{s:Bk}(h:au w x S s):∀ b,S b->b<w.heap.size:=by obtain⟨_,_,_,_,B⟩:=h;exact B.sz
theorem au.same{w w':World}{x:Nat}{S:Nat->Prop}{s:Bk}(h:au w x S s)(e:∀ b,S b->w'.heap[b]?=w.heap[b]?)(hz:w.heap.size<=w'.heap.size):au w' x S s:=by obtain⟨vp,vn,vl,c,B⟩:=h;exact⟨vp,vn,vl,c,B.same e hz⟩
def BN(ρ:Nat->Nat)(k c:Nat)(q:Nat):Prop:=RBk ρ k q\/q=c
section
variable (ρ:Nat->Nat) (k:Nat) (w:World) (x d b c:Nat) (s:Bk) (l:Ln)
def CQ0(W:World):Prop:=au W b (RBk ρ k) s/\Ch W c s.toks/\Blk W x (eX d b c false) 90/\Blk W w.heap.size (lnC l) 93/\Chg (BN ρ k c) w W
def CQ1(r:Bk×An)(z:Nat)(v:Value)(W:World):Prop:=∃ S',au W b S' r.1/\(∀ q,S' q->RBk ρ k q\/z<=q)/\Ch W c s.toks/\Blk W x (eX d b c false) 90/\Blk W w.heap.size (lnC l) 93/\Rd 1 bV ⟨#[]⟩ W v r.2.s/\Chg (BN ρ k c) w W
def CQ3(s':Bk)(W:World):Prop:=∃ S',au W b S' s'/\(∀ q,S' q->RBk ρ k q\/w.heap.size<q)/\Ch W c s'.toks/\Blk W x (eX d b c false) 90/\Chg (BN ρ k c) w W
end
theorem AC.nc{ρ:Nat->Nat}{k:Nat}{w:World}{x d b c:Nat}{s:Bk}{A:PD}(h:AC ρ k w x d b c s A false):¬RBk ρ k c:=fun e=>by have:=h.rc;unfold RBk at e;omega
theorem lq{ρ:Nat->Nat}{k:Nat}{w:World}{x d b c:Nat}{s:Bk}{l:Ln}{A:PD}(h:AC ρ k w x d b c s A false):CQ0 ρ k w x d b c s l (w.alloc (.cells (lnC l) 93)):=by
 have hb:Bl w (w.alloc (.cells (lnC l) 93)):=(Below.refl _ w).alloc (Nat.le_refl _) _
 exact⟨h.bk.below hb,h.ch.same (hb.block c h.ch.lt),h.blk.below hb,Blk.new w _ _,Chg.below hb⟩
theorem jF{ρ:Nat->Nat}{k:Nat}{w:World}{x d b c:Nat}{s:Bk}{l:Ln}{A:PD}(h:AC ρ k w x d b c s A false){W W':World}(q:CQ0 ρ k w x d b c s l W)(hb:Below (w.heap.size+1) W W'):CQ0 ρ k w x d b c s l W':=by
 obtain⟨q1,q2,q3,q4,q5⟩:=q;have hxl:=h.blk.lt;have hcl:=h.ch.lt;refine⟨q1.same (fun g e=>hb.block g (by have:=h.bk.lt g e;omega)) hb.size,q2.same (hb.block c om),(hb.block x om).trans q3,(hb.block _ om).trans q4,?_⟩
 exact⟨hb.os.trans q5.os,hb.tape.trans q5.tape,hb.output.trans q5.output,Nat.le_trans q5.size hb.size,fun g hg hn=>(hb.block g om).trans (q5.block g hg hn)⟩
theorem vy{ρ:Nat->Nat}{k:Nat}{w:World}{x d b c:Nat}{s:Bk}{l:Ln}{A:PD}(h:AC ρ k w x d b c s A false){W W':World}(q:CQ0 ρ k w x d b c s l W)(hg:W.grownBy W' (some c))(hc:Ch W' c s.toks):CQ0 ρ k w x d b c s l W'/\∀ g cs t,Blk W g cs t->w.heap.size<=g->Blk W' g cs t:=by
 obtain⟨q1,q2,q3,q4,q5⟩:=q;have hcl:=h.ch.lt;have hxc:=h.xc;refine⟨⟨q1.same (fun g e=>hg.block g (q1.lt g e) (by rintro e';cases e';exact h.nc e)) hg.size,hc,(hg.block x q3.lt (by simp;exact hxc)).trans q3,(hg.block _ q4.lt (by simp;omega)).trans q4,q5.trans (Chg.grown (S:=BN ρ k c) hg (fun g e=>by cases e;exact .inr rfl)) (fun g e=>.inl e)⟩,fun g cs t hB hgw=>(hg.block g hB.lt (by simp;omega)).trans hB⟩
theorem iX{ρ:Nat->Nat}{k:Nat}{w:World}{x d b c:Nat}{s:Bk}{l:Ln}{A:PD}(h:AC ρ k w x d b c s A false){r:Bk×An}{z:Nat}{v:Value}{W W':World}(q:CQ1 ρ k w x d b c s l r z v W)(hz:w.heap.size<z)(hb:Bl W W'):CQ1 ρ k w x d b c s l r (w.heap.size+1) v W':=by
 obtain⟨S',q1,q2,q3,q4,q5,q6,q7⟩:=q;exact⟨S',q1.below hb,fun g e=>(q2 g e).imp id (fun e=>by omega),q3.same (hb.block c q3.lt),q4.below hb,q5.below hb,q6.below hb,q7.trans (Chg.below (S:=BN ρ k c) hb) (fun g e=>.inl e)⟩
theorem mR{ρ:Nat->Nat}{k:Nat}{w:World}{x d b c:Nat}{s:Bk}{l:Ln}{A:PD}(h:AC ρ k w x d b c s A false){r:Bk×An}{z:Nat}{v:Value}{W:World}{Z:Nat}{t:TypeId}(q:CQ1 ρ k w x d b c s l r z v W)(hz:w.heap.size<Z)(hA:Z<z)(hB:Blk W Z #[I6 0,.slice none 0 0] t)(u u':Value):CQ1 ρ k w x d b c s l r (w.heap.size+1) v ((W.setCell (At Z 0) u).setCell (At Z 1) u'):=by
 obtain⟨S',q1,q2,q3,q4,q5,q6,q7⟩:=q;have hxl:=h.blk.lt;have hcl:=h.ch.lt;have s1:=aK Z [u,u'] 0 W
 have hzz:((W.setCell (At Z 0) u).setCell (At Z 1) u').heap.size=W.heap.size:=s1.2.2.2.1
 have hbb:∀ g,g≠Z->((W.setCell (At Z 0) u).setCell (At Z 1) u').heap[g]?=W.heap[g]?:=s1.2.2.2.2
 have hn:∀ g,S' g->g≠Z:=fun g e=>by
  rcases q2 g e with e|e
  ·have:=h.bk.lt g e;omega
  ·omega
 refine⟨S',q1.same (fun g e=>hbb g (hn g e)) (Nat.le_of_eq hzz.symm),fun g e=>(q2 g e).imp id (fun e=>by omega),q3.same (hbb c om),(hbb x om).trans q4,(hbb _ om).trans q5,?_,q7.sets Z 0 [u,u'] (.inr om)⟩
 obtain⟨bb,cap,rfl,k1,k2,k3⟩:=q6;refine⟨bb,cap,rfl,k1,k2,fun hne=>?_⟩
 obtain⟨g,e2,hg,hcc⟩:=k3 hne;have hgn:g≠Z:=fun q=>by
  have c0:=hcc 0 (List.length_pos_iff.2 hne) 0 _ rfl
  rw[q] at c0;have c1:=hB.cell 0;rw[show ((At Z (0*1+0)):Addr)=⟨Z,0,none⟩ from rfl,c1] at c0
  cases c0
 exact⟨g,e2,by rw[hzz];exact hg,fun j hj i u hu=>(World.cell?_of_block (a:=At g (j*1+i)) (hbb g hgn)).trans (hcc j hj i u hu)⟩
theorem mS{ρ:Nat->Nat}{k:Nat}{w:World}{x d b c:Nat}{s:Bk}{A:PD}(h:AC ρ k w x d b c s A false){s' s'':Bk}{S':Nat->Prop}{W W':World}(q1:au W b S' s')(q2:∀ q,S' q->RBk ρ k q\/w.heap.size<q)(q4:Blk W x (eX d b c false) 90)(q5:Chg (BN ρ k c) w W)(hg:W.grownBy W' (some c))(hp:s''={ s' with toks:=s''.toks })(hc:Ch W' c s''.toks):CQ3 ρ k w x d b c s'' W':=by
 have hcl:=h.ch.lt;have hxc:=h.xc;have q1':au W b S' s'':=by rw[hp];exact q1.tk _
 refine⟨S',q1'.same (fun g e=>hg.block g (q1.lt g e) (by rintro e';cases e';rcases q2 c e with e|e;exact h.nc e;omega)) hg.size,q2,hc,(hg.block x q4.lt (by simp;exact hxc)).trans q4,q5.trans (Chg.grown (S:=BN ρ k c) hg (fun g e=>by cases e;exact .inr rfl)) (fun g e=>.inl e)⟩
theorem r7{ρ:Nat->Nat}{k:Nat}{w:World}{x d b c:Nat}{s:Bk}{A:PD}(h:AC ρ k w x d b c s A false){s':Bk}{S':Nat->Prop}{W:World}(q1:au W b S' s')(q2:∀ q,S' q->RBk ρ k q\/w.heap.size<=q)(q3:Ch W c s'.toks)(q4:Blk W x (eX d b c false) 90)(q5:Chg (BN ρ k c) w W):∃ ρ',AC ρ' k W x d b c s' A false/\Stp (ROk k) ρ ρ' w W:=by
 obtain⟨ρ',a1,a2⟩:=Hh h q1 q2 q3 q4 q5;exact⟨ρ',a1,a2.mono (fun r hr=>by unfold ROk;omega)⟩
theorem rZ{ρ:Nat->Nat}{k:Nat}{w:World}{x d b c:Nat}{s:Bk}{l:Ln}{A:PD}(h:AC ρ k w x d b c s A false)(line:Bz)(E:di w)(hI:Inv s)(hL:aZ l)(hv:l.v<8)(hs:line.size<=100)(hT:∀ x,x∈s.toks->TkB x)(hwf:WF A.now)(hlo:A.loose=[])(hlf:A.left<9223372036854775808)(hG:∀ q,ρ q≠0->10<=q)(hZ:10<=w.heap.size):Calls prog 42 #[Pq x,.agg (lnC l),.string line] w (FU ρ k w x d b c (yC s A l line)):=by
 have hx:=h.blk.lt;have hcl:=h.ch.lt;have hGB:∀ q,RBk ρ k q->10<=q:=fun q e=>hG q (by unfold RBk at e;omega)
 have hGN:∀ q,BN ρ k c q->10<=q:=fun q e=>e.elim (hGB q) (fun e=>by rw[e];exact hG c (by have:=h.rc;omega))
 have C0:∀ W,CQ0 ρ k w x d b c s l W->W.cell? (At x 1)=some (Pq b)/\W.cell? (At x 2)=some (.chan (some c))/\Blk W w.heap.size (lnC l) 93:=fun W q=>⟨q.2.2.1.cell 1,q.2.2.1.cell 2,q.2.2.2.1⟩
 have HF:∀ W,CQ0 ρ k w x d b c s l W->Calls prog 64 #[.agg #[.chan (some c)],.string l.t] W fun e w1=>e=.returned (.tuple #[vT ((cX s.toks l.t).getD tk0),.bool (cX s.toks l.t).isSome])/\CQ0 ρ k w x d b c s l w1/\∀ g cs t,Blk W g cs t->w.heap.size<=g->Blk w1 g cs t:=fun W q=>by
  refine(xI W c s.toks l.t q.2.1 hI.t).mono ?_
  rintro e w1 ⟨rfl,hch,hg⟩
  obtain⟨a1,a2⟩:=vy h q hg hch;exact⟨rfl,a1,a2⟩
 have HD:∀ W,CQ0 ρ k w x d b c s l W->Calls prog 43 #[Pq b,.agg (lnC l)] W fun e w2=>∃ bt nt ct,e=.returned (.agg #[I6 (aH s l).2.e,.slice bt nt ct])/\CQ1 ρ k w x d b c s l (aH s l) W.heap.size (.slice bt nt ct) w2/\∀ g cs t,Blk W g cs t->w.heap.size<=g->Blk w2 g cs t:=fun W q=>by
  obtain⟨q1,q2,q3,q4,q5⟩:=q;refine(lg W b (RBk ρ k) s l (E.env.chg q5 hGN) hI hL q1 hGB (Nat.le_trans hZ q5.size) om).mono ?_
  rintro e w2 ⟨v,S',rfl,hrd,hb,hs',hc2⟩
  obtain⟨bt,ct,rfl,k1,k2,k3⟩:=hrd;have hk:∀ g cs t,Blk W g cs t->w.heap.size<=g->Blk w2 g cs t:=fun g cs t hB hgw=>(hc2.block g hB.lt (fun e=>by have:=h.bk.lt g e;omega)).trans hB
  refine⟨bt,_,ct,rfl,⟨S',hb,hs',q2.same (hc2.block c q2.lt h.nc),(hc2.block x q3.lt (fun e=>by have:=h.rx;unfold RBk at e;omega)).trans q3,hk _ _ _ q4 (Nat.le_refl _),⟨bt,ct,rfl,k1,k2,k3⟩,q5.trans hc2 (fun g e=>.inl (.inl e))⟩,hk⟩
 obtain⟨o1,o2,o3⟩:=x8 hI hL;have HTT:∀ W bt nt ct,CQ1 ρ k w x d b c s l (aH s l) (w.heap.size+1) (.slice bt nt ct) W->Cr prog 40 #[.agg #[I6 (aH s l).2.e,.slice bt nt ct]] W (.string ⟨(aG (aH s l).2).toArray⟩):=fun W bt nt ct q=>by
  obtain⟨S',_,_,_,_,_,q6,q7⟩:=q;exact jC (aH s l).2 o1 o2 o3 _ W (E.chg q7 hGN) q6
 unfold yC;rcases hf:cX s.toks l.t with _|tk
 ·rw[hf] at HF;by_cases he:(aH s l).2.e=0
  ·dsimp only;rw[if_pos he];obtain⟨s',hs'⟩:∃ s',s'=gB s l line:=⟨_,rfl⟩
   have hI':Inv s':=by rw[hs'];exact pL hI hL line
   have hT':∀ x,x∈s'.toks->TkB x:=by rw[hs'];exact Cy hI hL hv he hs hT
   have hne:s'.toks≠[]:=by rw[hs'];exact BV _ _
   have hp:s'={ (aH s l).1 with toks:=s'.toks }:=by rw[hs'];rfl
   have htx:(⟨(aG (aH s l).2).toArray⟩:Bz).size<=40:=by rw[eQ];exact k7 (x9 hI hL hv) he
   have hsn:=qZ hI' hT';have hbz:(byt (cr s')).size<=8000:=by
    have e:(byt (cr s')).size=(cr s').length:=by rw[<- dP];rfl
    omega
   rw[<- hs'];refine pG x d b c w l line ⟨(aG (aH s l).2).toArray⟩ tk0 hx (CQ0 ρ k w x d b c s l) _ (aH s l).2.e he (CQ1 ρ k w x d b c s l (aH s l)) (fun v W=>CQ1 ρ k w x d b c s l (aH s l) (w.heap.size+1) v W) (byt (cr s')) (gb A (cr s')).2 (CQ3 ρ k w x d b c s') (CQ3 ρ k w x d b c s') (fun W=>∃ ρ',AC ρ' k W x d b c s' (gb A (cr s')).1 false/\Stp (ROk k) ρ ρ' w W)
    (lq h) C0 (fun W W' q hb=>jF h q hb) HF HD ?c1 ?l1 ?e1 ?k2 HTT ?c2 ?had ?c3 ?k3 ?hw ?c4 ?hp ?c5 ?f5 ?f6
   case c1=>rintro z v W ⟨S',_,_,_,q4,q5,_,_⟩;exact⟨q4.cell 1,q5⟩
   case l1=>exact fun z v W W' q hz hb=>iX h q hz hb
   case e1=>exact fun z v W Z u u' q hz hA hB=>mR h q hz hA hB u u'
   case k2=>exact fun v W W' q hb=>iX h q om hb
   case c2=>rintro v W ⟨S',_,_,_,q4,q5,_,_⟩;exact⟨q4.cell 2,q5⟩
   case had =>
    rintro v W ⟨S',q1,q2,q3,q4,q5,q6,q7⟩
    refine(rv W c s.toks (Ae s l line) q3 hI.t (by show line.size<=_;omega) (by show (⟨(aG (aH s l).2).toArray⟩:Bz).size<=_;omega)).mono ?_
    rintro e w' ⟨rfl,hch,hg⟩
    refine⟨rfl,mS h q1 (fun g e=>(q2 g e).imp id (fun e=>by omega)) q4 q7 hg hp (by rw[hs'];exact hch),hg.block _ q5.lt (by simp;omega)⟩
   case c3=>rintro W ⟨S',_,_,_,q4,_⟩;exact⟨q4.cell 0,q4.cell 1,q4.cell 2⟩
   case k3 =>
    rintro W ⟨S',q1,q2,q3,q4,q5⟩
    have hb:Bl W W.drew:=Below.drew (Below.refl _ _)
    exact⟨S',q1.below hb,q2,q3.same rfl,q4,q5.trans (Chg.below (S:=BN ρ k c) hb) (fun g e=>.inl e)⟩
   case hw =>
    rintro W ⟨S',q1,q2,q3,q4,q5⟩
    obtain⟨vp,vn,vl,z,B⟩:=q1;refine(xp b c W s' vp vn vl (E.chg q5 hGN) hI' B.blk (Rd.of_owns (enc:=ak) (fun _=>rfl) hd0 B.op) (Rd.of_owns (enc:=ak) (fun _=>rfl) hd0 B.on) (Rd.of_owns (enc:=br) (fun _=>rfl) ls0 B.ol) q3 hne hT').mono ?_
    rintro e w' ⟨rfl,hch,hg⟩
    exact⟨rfl,mS h ⟨vp,vn,vl,z,B⟩ q2 q4 q5 hg rfl hch⟩
   case c4=>rintro W ⟨S',_,_,_,q4,_⟩;exact⟨q4.cell 0,q4.cell 1,q4.cell 2⟩
   case hp =>
    rintro W ⟨S',q1,q2,q3,q4,q5⟩
    obtain⟨ρ1,a1,a2⟩:=r7 h q1 (fun g e=>(q2 g e).imp id (fun e=>by omega)) q3 q4 q5
    refine(Bd ρ1 k W d (byt (cr s')) A hbz hwf hlo hlf a1.cl a1.dk).mono ?_
    rintro e w' ⟨rfl,ρ2,d1,d2⟩
    rw[yv] at d1 ⊢;exact⟨rfl,ρ2,a1.disk d1 d2,a2.trans (d2.mono (fun r hr=>by unfold RDk at hr;unfold ROk;omega))⟩
   case c5=>rintro W ⟨ρ',a1,_⟩;exact⟨a1.blk.cell 0,a1.blk.cell 1,a1.blk.cell 2,a1.blk.cell 3,a1.blk.frozen 3⟩
   case f5 =>
    rintro ho W ⟨ρ',a1,a2⟩
    rw[ho];exact⟨rfl,ρ',a1,a2⟩
   case f6 =>
    rintro ho W ⟨ρ',a1,a2⟩
    rw[ho];obtain⟨b1,b2⟩:=a1.down;exact⟨rfl,ρ',b1,a2.trans (b2.mono (fun r hr=>by unfold ROk;omega))⟩
  ·dsimp only;rw[if_neg he];refine rX x d b c w l line ⟨(aG (aH s l).2).toArray⟩ tk0 hx (CQ0 ρ k w x d b c s l) _ (aH s l).2.e he (CQ1 ρ k w x d b c s l (aH s l)) (fun v W=>CQ1 ρ k w x d b c s l (aH s l) (w.heap.size+1) v W)
    (lq h) C0 (fun W W' q hb=>jF h q hb) HF HD ?_ (fun z v W W' q hz hb=>iX h q hz hb) (fun z v W Z u u' q hz hA hB=>mR h q hz hA hB u u') (fun v W W' q hb=>iX h q om hb) HTT ?_
   ·rintro z v W ⟨S',_,_,_,q4,q5,_,_⟩;exact⟨q4.cell 1,q5⟩
   ·rintro v W ⟨S',q1,q2,q3,q4,q5,q6,q7⟩
    exact⟨rfl,r7 h q1 (fun g e=>(q2 g e).imp id (fun e=>by omega)) (by rw[jL];exact q3) q4 q7⟩
 ·rw[hf] at HF;dsimp only;refine nY x d b c w l line (if tk.l≠line then (⟨(aG (ref 3)).toArray⟩:Bz) else tk.r) tk hx (CQ0 ρ k w x d b c s l) _ (lq h) C0 (fun W W' q hb=>jF h q hb) HF (fun W q=>vf tk line _ W (E.chg q.2.2.2.2 hGN) rfl) ?_
  rintro W ⟨q1,q2,q3,q4,q5⟩
  exact⟨rfl,r7 h q1 (fun g e=>.inl e) q2 q3 q5⟩
end
section
open Go.Conc Go.ChangeShapes Go.WideShapes Go.ChangeAt Go.RowKit Go.Proofs.Tryz
theorem xY(w:World)(x:Nat)(line text:Bz)(hx:x<w.heap.size)(d3:w.cell? (At x 3)=some (.bool false))(HR:Hid (∀ W,Bl w W->Cr prog 38 #[.string line] W (.tuple #[.agg #[I6 0,.string ⟨#[]⟩,.string ⟨#[]⟩,U3 0,I6 0,U3 0,I6 0],.bool false])))
  (HF:Hid (∀ W,Cr prog 39 #[I6 2] W (.agg #[I6 2,.slice none 0 0])))
  (HT:Hid (∀ W,Bl w W->Cr prog 40 #[.agg #[I6 2,.slice none 0 0]] W (.string text))) :
  Cr prog 16 #[Pq x,.string line] w (.string text):=by
 go_enter func16,ntmps16
 go_wp2_with (first|(go_at_call 38;refine Mo (HR.o _ upB) fun w1 hq1=>?_;have hb1:Hid (Bl w w1):=Below.trans (B:=w.heap.size) (a:=w) upB (hq1.mono byO);clear hq1)|(go_at_call 39;refine Mo (HF.o _) fun w2 hq2=>?_;have hb2:Hid (Bl w w2):=Below.trans (B:=w.heap.size) (a:=w) (upH hb1) (hq2.mono (by have hz:=hb1.o.size;first|omega|(simp;omega)));clear hq2)|(go_at_call 40;refine Mo (HT.o _ hb2.o) fun w3 hq3=>?_;have hb3:Hid (Bl w w3):=hb2.o.trans (hq3.mono hb2.o.size);clear hq3))
 go_ret;exact⟨rfl,hb3.o⟩
theorem BZ(w:World)(x b:Nat)(l:Ln)(line:Bz)(R:Ending->World->Prop)(hx:x<w.heap.size)(d3:w.cell? (At x 3)=some (.bool false))(CX:Hid (∀ W,Bl w W->W.cell? (At x 1)=some (Pq b)))(HR:Hid (∀ W,Bl w W->Cr prog 38 #[.string line] W (.tuple #[.agg #[I6 l.v,.string l.t,.string l.o,U3 l.a,I6 l.n,U3 l.d,I6 l.g],.bool true])))
  (HI:Hid (∀ W,Cr prog 41 #[I6 l.v] W (.bool true)))
  (HC:Hid (∀ W,Bl w W->Calls prog 42 #[Pq x,.agg #[I6 l.v,.string l.t,.string l.o,U3 l.a,I6 l.n,U3 l.d,I6 l.g],.string line] W fun e w'=>∃ t,e=.returned (.string t)/\R (.returned (.string t)) w')) :
  Calls prog 16 #[Pq x,.string line] w R:=by
 go_enter func16,ntmps16
 go_wp2_with (first|(go_at_call 38;refine Mo (HR.o _ upB) fun w1 hq1=>?_;have hb1:Hid (Bl w w1):=Below.trans (B:=w.heap.size) (a:=w) upB (hq1.mono byO);clear hq1)|(go_at_call 41;refine Mo (HI.o _) fun w2 hq2=>?_;have hb2:Hid (Bl w w2):=Below.trans (B:=w.heap.size) (a:=w) (upH hb1) (hq2.mono (by have hz:=hb1.o.size;first|omega|(simp;omega)));have L2:Hid (Blk w2 w1.heap.size #[I6 l.v,.string l.t,.string l.o,U3 l.a,I6 l.n,U3 l.d,I6 l.g] 93):=(Blk.new w1 #[I6 l.v,.string l.t,.string l.o,U3 l.a,I6 l.n,U3 l.d,I6 l.g] 93).below hq2;clear hq2;have m0:w2.cell? (At w1.heap.size 0)=some (I6 l.v):=L2.o.cell 0;have m1:w2.cell? (At w1.heap.size 1)=some (.string l.t):=L2.o.cell 1;have m2:w2.cell? (At w1.heap.size 2)=some (.string l.o):=L2.o.cell 2;have m3:w2.cell? (At w1.heap.size 3)=some (U3 l.a):=L2.o.cell 3;have m4:w2.cell? (At w1.heap.size 4)=some (I6 l.n):=L2.o.cell 4;have m5:w2.cell? (At w1.heap.size 5)=some (U3 l.d):=L2.o.cell 5;have m6:w2.cell? (At w1.heap.size 6)=some (I6 l.g):=L2.o.cell 6;have mz:=L2.o.lt;have zx2:=Nat.lt_of_lt_of_le hx hb2.o.size;have mx:w2.cell? (At x 1)=some (Pq b):=CX.o _ hb2.o)|(go_at_call 42;refine(HC.o _ hb2.o).mono ?_;rintro e w3 ⟨t,rfl,h1⟩;replace h1:Hid (R (.returned (.string t)) w3):=h1))
 exact h1.o
theorem BY(w:World)(x b:Nat)(l:Ln)(line text:Bz)(k:Nat)(L:List Bz)(hx:x<w.heap.size)(d3:w.cell? (At x 3)=some (.bool false))(CX:Hid (∀ W,Bl w W->W.cell? (At x 1)=some (Pq b)))(HR:Hid (∀ W,Bl w W->Cr prog 38 #[.string line] W (.tuple #[.agg #[I6 l.v,.string l.t,.string l.o,U3 l.a,I6 l.n,U3 l.d,I6 l.g],.bool true])))
  (HI:Hid (∀ W,Cr prog 41 #[I6 l.v] W (.bool false)))
  (HD:Hid (∀ W,Bl w W->Calls prog 43 #[Pq b,.agg #[I6 l.v,.string l.t,.string l.o,U3 l.a,I6 l.n,U3 l.d,I6 l.g]] W fun e w3=>∃ bt nt ct,e=.returned (.agg #[I6 k,.slice bt nt ct])/\Rd 1 bV ⟨#[]⟩ w3 (.slice bt nt ct) L/\Bl W w3))
  (HT:Hid (∀ W bt nt ct,Bl w W->Rd 1 bV ⟨#[]⟩ W (.slice bt nt ct) L->Cr prog 40 #[.agg #[I6 k,.slice bt nt ct]] W (.string text))) :
  Cr prog 16 #[Pq x,.string line] w (.string text):=by
 go_enter func16,ntmps16
 go_wp2_with (first|(go_at_call 38;refine Mo (HR.o _ upB) fun w1 hq1=>?_;have hb1:Hid (Bl w w1):=Below.trans (B:=w.heap.size) (a:=w) upB (hq1.mono byO);clear hq1)|(go_at_call 41;refine Mo (HI.o _) fun w2 hq2=>?_;have hb2:Hid (Bl w w2):=Below.trans (B:=w.heap.size) (a:=w) (upH hb1) (hq2.mono (by have hz:=hb1.o.size;first|omega|(simp;omega)));have L2:Hid (Blk w2 w1.heap.size #[I6 l.v,.string l.t,.string l.o,U3 l.a,I6 l.n,U3 l.d,I6 l.g] 93):=(Blk.new w1 #[I6 l.v,.string l.t,.string l.o,U3 l.a,I6 l.n,U3 l.d,I6 l.g] 93).below hq2;clear hq2;have m0:w2.cell? (At w1.heap.size 0)=some (I6 l.v):=L2.o.cell 0;have m1:w2.cell? (At w1.heap.size 1)=some (.string l.t):=L2.o.cell 1;have m2:w2.cell? (At w1.heap.size 2)=some (.string l.o):=L2.o.cell 2;have m3:w2.cell? (At w1.heap.size 3)=some (U3 l.a):=L2.o.cell 3;have m4:w2.cell? (At w1.heap.size 4)=some (I6 l.n):=L2.o.cell 4;have m5:w2.cell? (At w1.heap.size 5)=some (U3 l.d):=L2.o.cell 5;have m6:w2.cell? (At w1.heap.size 6)=some (I6 l.g):=L2.o.cell 6;have mz:=L2.o.lt;have zx2:=Nat.lt_of_lt_of_le hx hb2.o.size;have mx:w2.cell? (At x 1)=some (Pq b):=CX.o _ hb2.o))
 go_region_held3 (fun w'=>w'.cell? (At x 1)=some (Pq b)/\w'.cell? (At w1.heap.size 0)=some (I6 l.v)/\w'.cell? (At w1.heap.size 1)=some (.string l.t)/\w'.cell? (At w1.heap.size 2)=some (.string l.o)/\w'.cell? (At w1.heap.size 3)=some (U3 l.a)/\w'.cell? (At w1.heap.size 4)=some (I6 l.n)/\w'.cell? (At w1.heap.size 5)=some (U3 l.d)/\w'.cell? (At w1.heap.size 6)=some (I6 l.g)) (go_keep) (first|(go_at_call 43;refine(HD.o _ (upH hb2)).mono ?_;rintro e w3 ⟨bt,nt,ct,rfl,hr3,hq3⟩;have hb3:Hid (Bl w w3):=Below.trans (B:=w.heap.size) (a:=w) (upH hb2) (hq3.mono (by have hz:=hb2.o.size;first|omega|(simp;omega)));have L3:Hid (Blk w3 w1.heap.size #[I6 l.v,.string l.t,.string l.o,U3 l.a,I6 l.n,U3 l.d,I6 l.g] 93):=(hq3.block w1.heap.size (by first|exact L2.o.lt|(simp;exact L2.o.lt))).trans L2.o;clear hq3;replace hr3:Hid (Rd 1 bV ⟨#[]⟩ w3 (.slice bt nt ct) L):=hr3;have n0:w3.cell? (At w1.heap.size 0)=some (I6 l.v):=L3.o.cell 0;have n1:w3.cell? (At w1.heap.size 1)=some (.string l.t):=L3.o.cell 1;have n2:w3.cell? (At w1.heap.size 2)=some (.string l.o):=L3.o.cell 2;have n3:w3.cell? (At w1.heap.size 3)=some (U3 l.a):=L3.o.cell 3;have n4:w3.cell? (At w1.heap.size 4)=some (I6 l.n):=L3.o.cell 4;have n5:w3.cell? (At w1.heap.size 5)=some (U3 l.d):=L3.o.cell 5;have n6:w3.cell? (At w1.heap.size 6)=some (I6 l.g):=L3.o.cell 6;have nx:w3.cell? (At x 1)=some (Pq b):=CX.o _ hb3.o)|(go_at_call 40;refine Mo (HT.o _ bt nt ct hb3.o hr3.o) fun w4 hq4=>?_;have hb4:Hid (Bl w w4):=hb3.o.trans (hq4.mono hb3.o.size);have L4:Hid (Blk w4 w1.heap.size #[I6 l.v,.string l.t,.string l.o,U3 l.a,I6 l.n,U3 l.d,I6 l.g] 93):=L3.o.below hq4;clear hq4;have o0:w4.cell? (At w1.heap.size 0)=some (I6 l.v):=L4.o.cell 0;have o1:w4.cell? (At w1.heap.size 1)=some (.string l.t):=L4.o.cell 1;have o2:w4.cell? (At w1.heap.size 2)=some (.string l.o):=L4.o.cell 2;have o3:w4.cell? (At w1.heap.size 3)=some (U3 l.a):=L4.o.cell 3;have o4:w4.cell? (At w1.heap.size 4)=some (I6 l.n):=L4.o.cell 4;have o5:w4.cell? (At w1.heap.size 5)=some (U3 l.d):=L4.o.cell 5;have o6:w4.cell? (At w1.heap.size 6)=some (I6 l.g):=L4.o.cell 6;have ox:w4.cell? (At x 1)=some (Pq b):=CX.o _ hb4.o))
 all_goals (
  go_wp2;go_ret;exact⟨rfl,hb4.o⟩)
end
section
open Go.RowKit
def ij(c:UInt8):Prop:=c.toNat=32\/(46<=c.toNat/\c.toNat<=57)\/(65<=c.toNat/\c.toNat<=90)\/(97<=c.toNat/\c.toNat<=122)
theorem lI{c:UInt8}(h:ij c):c≠0/\c≠10/\c≠61:=by
 unfold ij at h;refine⟨?_,?_,?_⟩<;>rintro rfl<;>simp at h
def dW(l:Lu):Prop:=∀ c,c∈l->ij c
theorem eM{a b:Lu}(ha:dW a)(hb:dW b):dW (a++b):=fun c h=>(List.mem_append.1 h).elim (ha c) (hb c)
theorem dS{x:UInt8}{b:Lu}(ha:ij x)(hb:dW b):dW (x::b):=fun c h=>by
 rcases List.mem_cons.1 h with rfl|h
 ·exact ha
 ·exact hb c h
theorem gV(n:Nat):dW (dec n):=fun c h=>by
 have h1:¬(c.toNat<48\/57<c.toNat):=fun q=>lx c q n h
 unfold ij;omega
theorem kM(a:Nat):dW (dot a):=by
 have h46:ij 46:=by unfold ij;decide
 exact eM (gV _) (dS h46 (eM (gV _) (dS h46 (eM (gV _) (dS h46 (gV _))))))
theorem oX(a n:Nat):dW (wr a n):=eM (kM a) (dS (by unfold ij;decide) (gV n))
theorem gK{l:Lu}(h:ag l=true):dW l:=by
 intro c hc;unfold ag at h;simp only[Bool.and_eq_true,List.all_eq_true] at h
 have:=h.2 c hc
 simp at this;unfold ij;omega
theorem Ax{l l':Ln}{p:Nat}{w:Lu}(h:aQ l p w=some l'):dW w:=by
 unfold aQ at h;by_cases h1:p=1
 ·rw[if_pos h1] at h;by_cases hn:ag w=true
  ·exact gK hn
  ·rw[if_neg hn] at h;cases h
 ·rw[if_neg h1] at h;by_cases h2:p=2
  ·rw[if_pos h2] at h;by_cases hn:ag w=true
   ·exact gK hn
   ·rw[if_neg hn] at h;cases h
  ·rw[if_neg h2] at h;by_cases h3:p=3
   ·rw[if_pos h3] at h;rcases e:rd w with _|b
    ·rw[e] at h;cases h
    ·obtain⟨a,n⟩:=b;rw[(oB e).1];exact oX _ _
   ·rw[if_neg h3] at h;by_cases h4:p=4
    ·rw[if_pos h4] at h;rcases e:dv w with _|d
     ·rw[e] at h;cases h
     ·rw[mF e];exact kM _
    ·rw[if_neg h4] at h;by_cases h5:p=5
     ·rw[if_pos h5] at h;rcases e:num w 32 with _|g
      ·rw[e] at h;cases h
      ·rw[<- (bA.1 e).2];exact gV _
     ·rw[if_neg h5] at h;cases h
theorem wK:∀ (ps:List Nat) (ws:List (Lu)) (l l':Ln),aq l ps ws=some l'->∀ w,w∈ws->dW w:=by
 intro ps;induction ps with
 | nil =>
  intro ws l l' h w hw
  cases ws with
  | nil=>simp at hw
  | cons v vs=>simp[aq] at h
 | cons p ps ih =>
  intro ws l l' h w hw
  cases ws with
  | nil=>simp at hw
  | cons v vs =>
   simp only[aq] at h
   rcases e:aQ l p v with _|l2
   ·rw[e] at h;cases h
   ·rw[e] at h;rcases List.mem_cons.1 hw with rfl|hw
    ·exact Ax e
    ·exact ih vs l2 l' h w hw
theorem zc:∀ (l:List (Lu)),(∀ w,w∈l->dW w)->dW (sG 32 l):=by
 intro l;induction l with
 | nil=>intro _ c h;simp[sG] at h
 | cons p r ih =>
  intro h
  cases r with
  | nil=>exact h p sM
  | cons q r' =>
   show dW (p++32::sG 32 (q::r'))
   exact eM (h p sM) (dS (by unfold ij;decide) (ih fun w hw=>h w (List.mem_cons_of_mem _ hw)))
theorem rF:∀ w,w∈aY->dW w:=by
 have h:aY.all (fun w=>w.all fun c=>decide (c.toNat=32\/(46<=c.toNat/\c.toNat<=57)\/(65<=c.toNat/\c.toNat<=90)\/(97<=c.toNat/\c.toNat<=122)))=true:=by decide
 intro w hw c hc;have:=(List.all_eq_true.1 ((List.all_eq_true.1 h) w hw)) c hc
 unfold ij;exact of_decide_eq_true this
theorem qv{t:Lu}{l:Ln}(h:aE t=some l):dW t/\t.length<=100:=by
 unfold aE at h;by_cases hl:t.length<=100
 ·rw[if_pos hl] at h;refine⟨?_,hl⟩
  have hg:=iG 32 t.length t (Nat.le_refl _)
  rcases e:ax 32 t with _|⟨w,ws⟩
  ·rw[e] at h;cases h
  ·rw[e] at h hg;dsimp only at h;by_cases hv:fi (fun v=>v==w) aY<0
   ·rw[if_pos hv] at h;cases h
   ·rw[if_neg hv] at h;rw[<- hg];refine zc _ fun v hvm=>?_
    rcases List.mem_cons.1 hvm with rfl|hvm
    ·have h1:=so (fun v'=>v'==v) aY
     rw[decide_eq_true om] at h1;obtain⟨u,hu,e2⟩:=List.any_eq_true.1 h1.symm;have e3:u=v:=by simpa using e2
     rw[<- e3];exact rF u hu
    ·exact wK _ _ _ _ h v hvm
 ·rw[if_neg hl] at h;cases h
def AnC(a:An):Prop:=∀ t,t∈a.s->dW t.data.toList
theorem fO(k:Nat):AnC (ref k):=by intro t h;simp[ref] at h
theorem nq:AnC okA:=by intro t h;simp[okA] at h
theorem uV{l:Lu}(h:dW l):AnC (eB ⟨l.toArray⟩):=by
 intro t ht;simp[eB] at ht
 subst ht;exact h
theorem FY{s:Bk}{l:Ln}(hv:l.v<8):AnC (aH s l).2:=by
 have hc:l.v=0\/l.v=1\/l.v=2\/l.v=3\/l.v=4\/l.v=5\/l.v=6\/l.v=7:=by omega
 unfold aH;rcases hc with e|e|e|e|e|e|e|e<;>rw[e]
 ·show AnC (cy s l).2
  unfold cy;repeat' (first|exact fO _|exact nq|split)
 ·show AnC (cR s l).2
  unfold cR;repeat' (first|exact fO _|exact nq|split)
 ·show AnC (dH s l).2
  unfold dH;split;· exact fO 7
  split;· exact fO 4
  rcases hb:dN (aM 33 (af s.nets l.a l.n) l.a l.n) l.g with _|b
  ·exact fO 10
  ·dsimp only;split
   ·exact fO 6
   ·exact uV (oX _ _)
 ·show AnC (bI s l).2
  unfold bI;repeat' (first|exact fO _|exact nq|split)
 ·show AnC (cS s l).2
  unfold cS;repeat' (first|exact fO _|exact nq|split)
 ·show AnC (bU s l).2
  unfold bU;split;· exact fO 11
  rcases hb:du s.leases l.a l.n with _|d
  ·exact fO 10
  ·dsimp only;split
   ·exact fO 6
   ·exact uV (kM _)
 ·show AnC (cA s l).2
  unfold cA;repeat' (first|exact fO _|exact nq|split)
 ·show AnC (cU s l).2
  unfold cU;repeat' (first|exact fO _|exact nq|split)
theorem yX{α:Type}(f:α->Lu)(l:List α)(h:∀ x,x∈l->dW (f x)):dW (l.flatMap f):=fun c hc=>by
 obtain⟨x,hx,hcx⟩:=List.mem_flatMap.1 hc;exact h x hx c hcx
theorem x6{a:An}(h:AnC a)(he:a.e=0):dW (aG a):=by
 unfold aG;rw[if_pos he];refine eM ?_ (yX _ _ fun t ht=>dS (by unfold ij;decide) (h t ht))
 intro c hc;simp at hc;rcases hc with rfl|rfl<;>(unfold ij;decide)
theorem th{l:Lu}(h:dW l):(0:UInt8)∉l/\(10:UInt8)∉l/\(61:UInt8)∉l:=⟨fun q=>(lI (h _ q)).1 rfl,fun q=>(lI (h _ q)).2.1 rfl,fun q=>(lI (h _ q)).2.2 rfl⟩
theorem GK{s:Bk}{l:Ln}{line:Bz}(hI:Inv s)(hL:aZ l)(h:aE line.data.toList=some l)(hv:l.v<8)(he:(aH s l).2.e=0):xP (Ae s l line):=by
 obtain⟨c1,c2⟩:=qv h;obtain⟨n1,n2,n3⟩:=th c1;obtain⟨m1,m2,m3⟩:=th (x6 (FY (s:=s) hv) he)
 refine⟨⟨l,h,hv,rfl⟩,n3,n2,n1,m2,m1,?_,?_⟩
 ·rw[dP] at c2;exact c2
 ·show (⟨(aG (aH s l).2).toArray⟩:Bz).size<=40
  rw[eQ];exact k7 (x9 hI hL hv) he
structure Kp(s:Bk):Prop where
 inv:Inv s
 good:a8 s
 tk:∀ x,x∈s.toks->xP x
theorem Kp.tkb{s:Bk}(h:Kp s):∀ x,x∈s.toks->TkB x:=fun x hx=>⟨(h.tk x hx).2.2.2.2.2.2.1,(h.tk x hx).2.2.2.2.2.2.2⟩
theorem CW{s:Bk}{l:Ln}{line:Bz}(K:Kp s)(h:aE line.data.toList=some l)(hv:l.v<8)(he:(aH s l).2.e=0)(hg:a8 (aH s l).1):Kp (gB s l line):=by
 have hL:=(eT h).1
 refine⟨pL K.inv hL line,⟨hg.pr,hg.nr,hg.po,hg.no,hg.lo,hg.pp,hg.np,hg.lp,hg.ni,hg.li⟩,fun x hx=>?_⟩
 rcases o8 hx with q|rfl
 ·exact K.tk x q
 ·exact GK K.inv hL h hv he
theorem FP:dW xT:=fun c hc=>by simp[xT] at hc;subst hc;unfold ij;decide
theorem n7{k:Nat}(hk:k=0\/k=3\/k=6){o r:Lu}(ho:dW o)(hr:dW r):dW (iz k xT o r):=by
 have hv:dW (fW k):=by rcases hk with rfl|rfl|rfl<;>exact rF _ dE
 have h32:ij 32:=by unfold ij;decide
 exact eM hv (dS h32 (eM FP (dS h32 (eM ho (dS h32 hr)))))
theorem AZ{s:Bk}(G:a8 s):∀ r,r∈b7 s->dW r:=by
 intro r hr;unfold b7 at hr;rcases List.mem_append.1 hr with hr|hr
 ·rcases List.mem_append.1 hr with hr|hr
  ·obtain⟨h,hh,rfl⟩:=List.mem_map.1 hr;exact n7 (.inl rfl) (gK (G.po h hh)) (oX _ _)
  ·obtain⟨h,hh,rfl⟩:=List.mem_map.1 hr;exact n7 (.inr (.inl rfl)) (gK (G.no h hh)) (oX _ _)
 ·obtain⟨h,hh,rfl⟩:=List.mem_map.1 hr;exact n7 (.inr (.inr rfl)) (gK (G.lo h hh)) (kM _)
theorem A5{s:Bk}(K:Kp s):∀ r,r∈ey s->(0:UInt8)∉r/\(10:UInt8)∉r:=by
 intro r hr;unfold ey at hr;rcases List.mem_append.1 hr with hr|hr
 ·have:=th (AZ K.good r hr)
  exact⟨this.1,this.2.1⟩
 ·obtain⟨x,hx,rfl⟩:=List.mem_map.1 hr;obtain⟨_,_,t10,t0,r10,r0,_⟩:=K.tk x hx;unfold fR;refine⟨fun q=>?_,fun q=>?_⟩
  ·rcases List.mem_append.1 q with q|q
   ·exact t0 q
   ·rcases List.mem_cons.1 q with q|q
    ·cases q
    ·exact r0 q
  ·rcases List.mem_append.1 q with q|q
   ·exact t10 q
   ·rcases List.mem_cons.1 q with q|q
    ·cases q
    ·exact r10 q
theorem DF{s:Bk}(K:Kp s):(0:UInt8)∉cr s:=fun q=>by
 unfold cr at q;obtain⟨r,hr,hc⟩:=List.mem_flatMap.1 q;rcases List.mem_append.1 hc with hc|hc
 ·exact(A5 K r hr).1 hc
 ·simp at hc
end
section
open Go.Conc Go.ChangeShapes Go.WideShapes Go.ChangeAt Go.RowKit Go.Proofs.Tryz
def Ok(s:Bk):Prop:=Inv s/\a8 s
theorem yl:Ok bk0:=⟨⟨by simp[bk0],by simp[bk0],by simp[bk0],by simp[bk0],by simp[bk0],by simp[bk0],by simp[bk0],fun j k h1 h2=>by simp[bk0] at h2,fun j k h1 h2=>by simp[bk0] at h2,fun j k h1 h2=>by simp[bk0] at h2⟩,px⟩
def yO(s:Bk)(l:Ln)(line:Bz):Bk×Bz :=
 match cX s.toks l.t with
 | some x=>if x.l≠line then (s,⟨(aG (ref 3)).toArray⟩) else (s,x.r)
 | none=>if (aH s l).2.e=0 then ({ (aH s l).1 with toks:=dM (aH s l).1.toks ⟨l.t,line,⟨(aG (aH s l).2).toArray⟩⟩ },⟨(aG (aH s l).2).toArray⟩) else ((aH s l).1,⟨(aG (aH s l).2).toArray⟩)
theorem vC{s:Bk}{line:Bz}{l:Ln}(e:aE line.data.toList=some l)(hv:l.v<8):bg s line=yO s l line:=by
 unfold bg yO;rw[e];dsimp only;rw[if_pos hv];rfl
theorem jK{s:Bk}{line:Bz}{l:Ln}(e:aE line.data.toList=some l)(hv:¬l.v<8):bg s line=((aH s l).1,⟨(aG (aH s l).2).toArray⟩):=by
 unfold bg;rw[e];dsimp only;rw[if_neg hv]
theorem iA{s:Bk}{line:Bz}(e:aE line.data.toList=none):bg s line=(s,⟨(aG (ref 2)).toArray⟩):=by
 unfold bg;rw[e]
theorem pq{s:Bk}{l:Ln}(h8:¬l.v<8)(hv:l.v<11):(aH s l).1=s:=by
 have hc:l.v=8\/l.v=9\/l.v=10:=by omega
 unfold aH;rcases hc with e|e|e<;>rw[e]<;>rfl
theorem zi{line:Bz}(w:World)(E:di w)(hZ:10<=w.heap.size):∀ W,Bl w W->Cr prog 38 #[.string line] W (.tuple #[.agg (lnC (rlC line)),.bool (fQ line)]):=fun W hW=>wy line W (E.mono hW) (Nat.le_trans hZ hW.size)
def doP(s:Bk)(A:PD)(dn:Bool)(line:Bz):CP :=
 if dn=true then ⟨s,A,true,⟨#[]⟩⟩ else
 match aE line.data.toList with
 | none=>⟨s,A,false,⟨(aG (ref 2)).toArray⟩⟩
 | some l=>if l.v<8 then yC s A l line else ⟨s,A,false,⟨(aG (aH s l).2).toArray⟩⟩
theorem pK{s:Bk}{A:PD}{line:Bz}(e:aE line.data.toList=none):doP s A false line=⟨s,A,false,⟨(aG (ref 2)).toArray⟩⟩:=by unfold doP;rw[if_neg sM,e]
theorem ue{s:Bk}{A:PD}{line:Bz}{l:Ln}(e:aE line.data.toList=some l)(hv:¬l.v<8):doP s A false line=⟨s,A,false,⟨(aG (aH s l).2).toArray⟩⟩:=by unfold doP;rw[if_neg sM,e];dsimp only;rw[if_neg hv]
theorem uf{s:Bk}{A:PD}{line:Bz}{l:Ln}(e:aE line.data.toList=some l)(hv:l.v<8):doP s A false line=yC s A l line:=by unfold doP;rw[if_neg sM,e];dsimp only;rw[if_pos hv]
theorem rL{ρ:Nat->Nat}{k:Nat}{w:World}{x d b c:Nat}{s:Bk}{A:PD}(h:AC ρ k w x d b c s A false)(line:Bz)(E:di w)(hI:Inv s)(hG:∀ q,ρ q≠0->10<=q)(hZ:10<=w.heap.size)(hq:∀ l,aE line.data.toList=some l->¬l.v<8):Calls prog 16 #[Pq x,.string line] w fun e w'=>e=.returned (.string (bg s line).2)/\(bg s line).1=s/\Bl w w':=by
 have HR:=zi (line:=line) w E hZ
 have hx:=h.blk.lt;have d3:w.cell? (At x 3)=some (.bool false):=h.blk.cell 3
 have hGB:∀ q,RBk ρ k q->10<=q:=fun q e=>hG q (by unfold RBk at e;omega)
 have CX:∀ W,Bl w W->W.cell? (At x 1)=some (Pq b):=fun W hW=>(hW.cell (p:=At x 1) hx).trans (h.blk.cell 1)
 rcases e:aE line.data.toList with _|l
 ·rw[iA e];have e1:rlC line=ln0 0:=by unfold rlC;rw[e];rfl
  have e2:fQ line=false:=by unfold fQ;rw[e];rfl
  rw[e1,e2] at HR;refine(xY w x line _ hx d3 HR (fun W=>az 2 W) (fun W hW=>kD 2 om W (E.mono hW))).mono ?_
  rintro e w' ⟨rfl,hb⟩
  exact⟨rfl,rfl,hb⟩
 ·have hv:=hq l e;obtain⟨hL,h11⟩:=eT e;rw[jK e hv];have e1:rlC line=l:=by unfold rlC;rw[e];rfl
  have e2:fQ line=true:=by unfold fQ;rw[e];rfl
  rw[e1,e2] at HR;obtain⟨o1,o2,o3⟩:=x8 hI hL;refine(BY w x b l line ⟨(aG (aH s l).2).toArray⟩ (aH s l).2.e (aH s l).2.s hx d3 CX HR (fun W=>?_) (fun W hW=>?_) (fun W bt nt ct hW hr=>jC (aH s l).2 o1 o2 o3 _ W (E.mono hW) hr)).mono ?_
  ·have h:=jO l.v W;rw[decide_eq_false om] at h;exact h
  ·refine(pB W b (RBk ρ k) s l (E.env.mono hW) hI hL (h.bk.below hW) hGB (Nat.le_trans hZ hW.size) om h11).mono ?_
   rintro e w3 ⟨⟨v,S',rfl,hrd,_⟩,hb⟩
   obtain⟨bt,ct,rfl,k⟩:=hrd;exact⟨bt,_,ct,rfl,⟨bt,ct,rfl,k⟩,hb⟩
  ·rintro e w' ⟨rfl,hb⟩
   exact⟨rfl,pq hv h11,hb⟩
theorem AC.below{ρ:Nat->Nat}{k:Nat}{w:World}{x d b c:Nat}{s:Bk}{A:PD}(h:AC ρ k w x d b c s A false){W:World}(hb:Bl w W):AC ρ k W x d b c s A false :=
 ⟨h.blk.below hb,h.bk.below hb,h.ch.same (hb.block c h.ch.lt),h.dk.step (Stp.below (R:=fun _=>False) h.cl hb) (fun q=>q) (fun q=>q) (fun q=>q),h.rx,h.rc,fun q hq=>h.cl q (Nat.le_trans hb.size hq)⟩
theorem xX{ρ:Nat->Nat}{k:Nat}{w:World}{x d b c:Nat}{s:Bk}{A:PD}(h:AC ρ k w x d b c s A false)(line:Bz)(E:di w)(hI:Inv s)(hT:∀ x,x∈s.toks->TkB x)(hwf:WF A.now)(hlo:A.loose=[])(hlf:A.left<9223372036854775808)(hG:∀ q,ρ q≠0->10<=q)(hZ:10<=w.heap.size):Calls prog 16 #[Pq x,.string line] w (FU ρ k w x d b c (doP s A false line)):=by
 by_cases hq:∀ l,aE line.data.toList=some l->¬l.v<8
 ·refine(rL h line E hI hG hZ hq).mono ?_
  rintro e w' ⟨rfl,hs,hb⟩
  have hp:doP s A false line=⟨s,A,false,(bg s line).2⟩:=by
   rcases e:aE line.data.toList with _|l
   ·rw[pK e,iA e]
   ·rw[ue e (hq l e),jK e (hq l e)]
  rw[hp];exact⟨rfl,ρ,h.below hb,Stp.below h.cl hb⟩
 ·obtain⟨l,e,hv⟩:∃ l,aE line.data.toList=some l/\l.v<8:=by
   rcases e:aE line.data.toList with _|l
   ·exact absurd (fun l hl=>by rw[e] at hl;cases hl) hq
   ·by_cases hv:l.v<8
    ·exact⟨l,rfl,hv⟩
    ·exact absurd (fun l' hl=>by rw[e] at hl;cases hl;exact hv) hq
  obtain⟨hL,h11⟩:=eT e;rw[uf e hv];have HR:=zi (line:=line) w E hZ
  have e1:rlC line=l:=by unfold rlC;rw[e];rfl
  have e2:fQ line=true:=by unfold fQ;rw[e];rfl
  rw[e1,e2] at HR;have hs:line.size<=100:=by have:=(qv e).2;rw[dP] at this;exact this
  have hx:=h.blk.lt;refine BZ w x b l line _ hx (h.blk.cell 3) (fun W hW=>(hW.cell (p:=At x 1) hx).trans (h.blk.cell 1)) HR (fun W=>?_) (fun W hW=>?_)
  ·have h:=jO l.v W;rw[decide_eq_true om] at h;exact h
  ·refine(rZ (h.below hW) line (E.mono hW) hI hL hv hs hT hwf hlo hlf hG (Nat.le_trans hZ hW.size)).mono ?_
   rintro e w' ⟨rfl,ρ',a1,a2⟩
   exact⟨_,rfl,rfl,ρ',a1,(Stp.below h.cl hW).trans a2⟩
theorem AO{s:Bk}{l:Ln}{line:Bz}(G:a8 s)(h:aE line.data.toList=some l)(hv:l.v<8)(he:¬(aH s l).2.e=0):(aH s l).1=s:=by
 rcases zP G (nG h) hv with⟨_,q⟩|⟨q,_⟩
 ·exact q
 ·exact absurd q he
theorem yP{s:Bk}{A:PD}(K:Kp s)(hH:Has A (cr s))(line:Bz):
  ((doP s A false line).dn=false->(doP s A false line).r=(bg s line).2/\(doP s A false line).s=(bg s line).1/\Kp (doP s A false line).s/\Has (doP s A false line).A (cr (doP s A false line).s)) /\
  ((doP s A false line).dn=true->(doP s A false line).r=⟨#[]⟩/\(doP s A false line).s=(bg s line).1/\Kp (doP s A false line).s/\FV (doP s A false line).A (cr s) (cr (doP s A false line).s)) /\
  (doP s A false line).A.left<=A.left/\(jA A->(doP s A false line).dn=false/\jA (doP s A false line).A):=by
 rcases e:aE line.data.toList with _|l
 ·rw[pK e,iA e];exact⟨fun _=>⟨rfl,rfl,K,hH⟩,fun q=>(by cases q),Int.le_refl _,fun hE=>⟨rfl,hE⟩⟩
 ·by_cases hv:l.v<8
  ·rw[uf e hv,vC e hv];unfold yC yO;rcases hf:cX s.toks l.t with _|tk
   ·dsimp only;by_cases he:(aH s l).2.e=0
    ·rw[if_pos he,if_pos he];have hg:a8 (aH s l).1:=uv K.good (nG e)
     have K':=CW K e hv he hg;have es:({ (aH s l).1 with toks:=dM (aH s l).1.toks ⟨l.t,line,⟨(aG (aH s l).2).toArray⟩⟩ }:Bk)=gB s l line:=by rw[jL];rfl
     rw[es];obtain⟨p1,p2,p3,p4,p5⟩:=wR hH (DF K') (qZ K'.inv K'.tkb)
     refine⟨fun q=>?_,fun q=>?_,p3,fun hE=>?_⟩
     ·have q':(gb A (cr (gB s l line))).2=true:=by simpa using q
      dsimp only;rw[if_pos q'];exact⟨rfl,rfl,K',p1 q'⟩
     ·have q':(gb A (cr (gB s l line))).2=false:=by simpa using q
      dsimp only;rw[if_neg (by rw[q'];simp)]
      exact⟨rfl,rfl,K',p2 q'⟩
     ·obtain⟨a1,a2⟩:=p4 hE;exact⟨by dsimp only;rw[a1];rfl,a2⟩
    ·rw[if_neg he,if_neg he];have hs:=AO K.good e hv he;rw[hs];exact⟨fun _=>⟨rfl,rfl,K,hH⟩,fun q=>(by cases q),Int.le_refl _,fun hE=>⟨rfl,hE⟩⟩
   ·dsimp only;split<;>exact⟨fun _=>⟨rfl,rfl,K,hH⟩,fun q=>(by cases q),Int.le_refl _,fun hE=>⟨rfl,hE⟩⟩
  ·rw[ue e hv,jK e hv];have h11:=(eT e).2
   exact⟨fun _=>⟨rfl,(pq hv h11).symm,K,hH⟩,fun q=>(by cases q),Int.le_refl _,fun hE=>⟨rfl,hE⟩⟩
end
section
open Go.Conc Go.ChangeShapes Go.WideShapes Go.ChangeAt Go.RowKit
def HB(w0:World)(K:Nat->Prop)(x:Nat)(s:Bk)(W:World):Prop:=∃ ρ k A d b c,AC ρ k W x d b c s A false/\jA A/\Has A (cr s)/\Kp s/\(∀ q,ρ q≠0->w0.heap.size<=q/\¬K q)/\Bl w0 W
theorem kp0:Kp bk0:=⟨yl.1,px,fun x hx=>by simp[bk0] at hx⟩
theorem GH:cr bk0=[]:=rfl
end
end Go.Proofs.YtjnhhnbgjjkkjaaGreatDoor
