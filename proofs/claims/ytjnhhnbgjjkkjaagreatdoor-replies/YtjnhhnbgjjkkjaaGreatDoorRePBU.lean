import Derived.Test.YtjnhhnbgjjkkjaaGreatDoorRePBS
import Derived.Test.YtjnhhnbgjjkkjaaGreatDoorRePBT
import Derived.Test.YtjnhhnbgjjkkjaaGreatDoorRePBR
set_option linter.all false
set_option maxRecDepth 100000
set_option maxHeartbeats 2000000
namespace Go.Proofs.YtjnhhnbgjjkkjaaGreatDoor
section
open Go.RowKit Go.Shelf
structure SRp(V0:World)(b c sb:Nat)(s:Bk)(t:Lu)(V:World):Prop where
 bk:∃ S,au V b S s/\∀ q,S q->q=b\/V0.heap.size+2<=q
 ch:Ch V c s.toks
 tx:Blk V sb #[.string (bs t)] 9
 fr:∀ q,q<V0.heap.size->q≠b->q≠c->q≠sb->V.heap[q]?=V0.heap[q]?
 os:V.os=V0.os
 tape:V.tape=V0.tape
 out:V.output=V0.output
 sz:V0.heap.size+2<=V.heap.size
section
variable {V0:World} {b c sb:Nat} {s:Bk} {t:Lu} {V:World}
theorem SRp.below(h:SRp V0 b c sb s t V){W:World}(hb:Bl V W):SRp V0 b c sb s t W:=by
 obtain⟨S,h1,h2⟩:=h.bk;have hz:=h.sz;exact⟨⟨S,h1.below hb,h2⟩,h.ch.same (hb.block c h.ch.lt),h.tx.below hb,fun q a1 a2 a3 a4=>(hb.block q om).trans (h.fr q a1 a2 a3 a4),hb.os.trans h.os,hb.tape.trans h.tape,hb.output.trans h.out,Nat.le_trans hz hb.size⟩
theorem SRp.put(h:SRp V0 b c sb s t V)(hb:b<V0.heap.size)(hc:c<V0.heap.size)(hsb:sb<V0.heap.size){q:Nat}(hq:q=V0.heap.size\/q=V0.heap.size+1)(o:Obj):SRp V0 b c sb s t (V.putObj q o):=by
 obtain⟨S,h1,h2⟩:=h.bk;have hz:=h.sz;exact⟨⟨S,h1.same (fun g e=>World.putObj_heap_other (by rcases h2 g e with e|e<;>omega)) (by rw[World.putObj_size];exact Nat.le_refl _),h2⟩,h.ch.same (World.putObj_heap_other om),h.tx.put om o,fun g a1 a2 a3 a4=>(World.putObj_heap_other om).trans (h.fr g a1 a2 a3 a4),h.os,h.tape,h.out,by rw[World.putObj_size];exact hz⟩
theorem SRp.text(h:SRp V0 b c sb s t V)(hb:b≠sb)(hc:c≠sb)(hsb:sb<V0.heap.size)(t':Lu):SRp V0 b c sb s t' (V.setCell (At sb 0) (.string (bs t'))).drew:=by
 obtain⟨S,h1,h2⟩:=h.bk;have hz:=h.sz;have ho:∀ g,g≠sb->(V.setCell (At sb 0) (.string (bs t'))).drew.heap[g]?=V.heap[g]?:=fun g hg=>Below.heap_setCell _ _ _ _ hg
 have hs:(V.setCell (At sb 0) (.string (bs t'))).drew.heap.size=V.heap.size:=by simp[World.setCell]
 refine⟨⟨S,h1.same (fun g e=>ho g (by rcases h2 g e with e|e<;>omega)) (Nat.le_of_eq hs.symm),h2⟩,h.ch.same (ho c hc),?_,fun g a1 a2 a3 a4=>(ho g a4).trans (h.fr g a1 a2 a3 a4),h.os,h.tape,h.out,by rw[hs];exact hz⟩
 exact h.tx.set 0 (.string (bs t'))
theorem SRp.low(h:SRp V0 b c sb s t V){w:World}(hw:Bl w V0)(hb:w.heap.size<=b)(hc:w.heap.size<=c)(hsb:w.heap.size<=sb):Bl w V :=
 ⟨h.os.trans hw.os,h.tape.trans hw.tape,h.out.trans hw.output,by have:=hw.size;have:=h.sz;omega,fun q hq=>(h.fr q (by have:=hw.size;omega) om om om).trans (hw.block q hq)⟩
end
end
section
open Go.RowKit Go.Shelf Go.Proofs.Tryz
theorem yW:∀ t:Lu,(61:UInt8)∈t->∃ x y,t=x++61::y/\(61:UInt8)∉x:=by
 intro t;induction t with
 | nil=>intro h;simp at h
 | cons c r ih =>
  intro h;by_cases hc:c=61
  ·exact⟨[],r,by rw[hc];rfl,by simp⟩
  ·obtain⟨x,y,e,hx⟩:=ih (by rcases List.mem_cons.1 h with q|q;exact absurd q.symm hc;exact q)
   exact⟨c::x,y,by rw[e];rfl,fun q=>by rcases List.mem_cons.1 q with q|q;exact hc q.symm;exact hx q⟩
theorem DC(r:Lu):(mj r=false->(61:UInt8)∉r/\dw r=r)/\(mj r=true->r=dw r++61::kI r/\(61:UInt8)∉dw r):=by
 by_cases h:(61:UInt8)∈r
 ·obtain⟨x,y,e,hx⟩:=yW r h;obtain⟨c1,c2,c3⟩:=uK (b:=y) hx
  rw[<- e] at c1 c2 c3;refine⟨fun q=>?_,fun _=>⟨by rw[c1,c2];exact e,by rw[c1];exact hx⟩⟩
  rw[c3] at q;cases q
 ·have e:dw r=r:=kW (fun c hc=>by simp;rintro rfl;exact h hc)
  refine⟨fun _=>⟨h,e⟩,fun q=>?_⟩
  unfold mj at q;rw[e] at q;simp at q
theorem A8{V0:World}{b c sb:Nat}{s s':Bk}{t:Lu}{V:World}{w:World}(h:SRp V0 b c sb s t V)(E:di w)(hZ:10<=w.heap.size)(hw:Bl w V0)(hb:w.heap.size<=b)(hc:w.heap.size<=c)(hsb:w.heap.size<=sb)
  (hb':b<V0.heap.size) (hc':c<V0.heap.size) (hsb':sb<V0.heap.size) (hbc:b≠c) (hbs:b≠sb) (hcs:c≠sb) (hI:Inv s) (r:Lu) (hrl:r.length<=1000) (hst:bQ s r=some s') :
  Calls prog 84 #[Pq b,.agg #[.chan (some c)],.string (bs r)] V fun e V'=>e=.returned (.bool true)/\SRp V0 b c sb s' t V'/\V'.heap[V0.heap.size]?=V.heap[V0.heap.size]?/\V'.heap[V0.heap.size+1]?=V.heap[V0.heap.size+1]?:=by
 obtain⟨l,hl,hv⟩:∃ l,aE (dw r)=some l/\l.v<8:=by
  unfold bQ at hst;rcases e:aE (dw r) with _|l
  ·rw[e] at hst;cases hst
  ·rw[e] at hst;dsimp only at hst;by_cases q:l.v<8
   ·exact⟨l,rfl,q⟩
   ·rw[if_neg q] at hst;cases hst
 obtain⟨hL,h11⟩:=eT hl;have hst':(if mj r then some { s with toks:=dM s.toks ⟨l.t,byt (dw r),byt (kI r)⟩ } else if (aH s l).2.e=0 then some (aH s l).1 else none)=some s':=by
  unfold bQ at hst;rw[hl] at hst;dsimp only at hst;rw[if_pos hv] at hst;exact hst
 have e1:rlC (bs (dw r))=l:=by unfold rlC;rw[show (bs (dw r)).data.toList=dw r from rfl,hl];rfl
 have e2:fQ (bs (dw r))=true:=by unfold fQ;rw[show (bs (dw r)).data.toList=dw r from rfl,hl];rfl
 have hlow:∀ W,SRp V0 b c sb s t W->Bl w W:=fun W q=>q.low hw hb hc hsb
 obtain⟨P,hPd⟩:∃ P:World->Prop,P=fun W=>SRp V0 b c sb s t W/\W.heap[V0.heap.size]?=V.heap[V0.heap.size]?/\W.heap[V0.heap.size+1]?=V.heap[V0.heap.size+1]?:=⟨_,rfl⟩
 have hK:∀ (u:Bk) W W',(SRp V0 b c sb u t W/\W.heap[V0.heap.size]?=V.heap[V0.heap.size]?/\W.heap[V0.heap.size+1]?=V.heap[V0.heap.size+1]?)->Bl W W'->(SRp V0 b c sb u t W'/\W'.heap[V0.heap.size]?=V.heap[V0.heap.size]?/\W'.heap[V0.heap.size+1]?=V.heap[V0.heap.size+1]?):=fun u W W' ⟨q1,q2,q3⟩ hB=>by
  have hz:=q1.sz;exact⟨q1.below hB,(hB.block _ om).trans q2,(hB.block _ om).trans q3⟩
 have HR:∀ W,P W->Cr prog 38 #[.string (bs (dw r))] W (.tuple #[.agg (lnC l),.bool true]):=fun W q=>by
  rw[hPd] at q;have hr:=zi (line:=bs (dw r)) w E hZ W (hlow W q.1)
  rw[e1,e2] at hr;exact hr
 have HI:∀ W,Cr prog 41 #[I6 l.v] W (.bool true):=fun W=>by
  have q:=jO l.v W;rw[decide_eq_true om] at q;exact q
 have HC:∀ W,P W->Cr prog 87 #[.string (bs r),.string ⟨#[61]⟩] W (.tuple #[.string ⟨(Lib.cut r [61]).1.toArray⟩,.string ⟨(Lib.cut r [61]).2.1.toArray⟩,.bool (Lib.cut r [61]).2.2]):=fun W q=>by
  rw[hPd] at q;obtain⟨m,hm⟩:=(E.mono (hlow W q.1)).env.mx
  refine(Tryz.strings_Cut (bs r) ⟨#[61]⟩ m W (by rw[aN];omega) hm).mono ?_
  rintro e w' ⟨rfl,hdr⟩
  exact⟨rfl,iC hdr⟩
 have hP0:P V:=by rw[hPd];exact⟨h,rfl,rfl⟩
 have hKP:∀ W W',P W->Bl W W'->P W':=fun W W' q hB=>by rw[hPd] at q ⊢;exact hK s W W' q hB
 obtain⟨rc1,rc2⟩:=DC r;rcases hf:mj r with _|_
 ·obtain⟨n61,eA⟩:=rc1 hf;rw[hf] at hst';have he:(aH s l).2.e=0:=by
   by_cases q:(aH s l).2.e=0
   ·exact q
   ·simp[q] at hst'
  have es:(aH s l).1=s':=by simpa[he] using hst'
  have hcut:Lib.cut r [61]=(r,[],false):=r9 61 r n61
  rw[hcut] at HC;rw[eA] at HR;refine A9 b c V (bs r) l P (fun W=>SRp V0 b c sb s' t W/\W.heap[V0.heap.size]?=V.heap[V0.heap.size]?/\W.heap[V0.heap.size+1]?=V.heap[V0.heap.size+1]?) hP0 hKP (fun W W' q hB=>hK s' W W' q hB) (fun W q=>?_) HR HI (fun W q=>?_) (fun bt nt ct W=>gH 0 bt nt ct W)
  ·refine(HC W q).mono ?_
   rintro e w' ⟨rfl,hB⟩
   exact⟨_,rfl,hB⟩
  ·rw[hPd] at q;obtain⟨q1,q2,q3⟩:=q;obtain⟨S,h1,h2⟩:=q1.bk;have hz:=q1.sz;refine(lg W b S s l (E.mono (hlow W q1)).env hI hL h1 (fun g e=>by rcases h2 g e with e|e<;>(have:=hw.size;omega)) (by have:=hw.size;omega) om).mono ?_
   rintro e w' ⟨v,S',rfl,hrd,hbk,hs',hcg⟩
   obtain⟨bt,ct,rfl,_⟩:=hrd;have hno:∀ g,g<V0.heap.size+2->g≠b->w'.heap[g]?=W.heap[g]?:=fun g hg hgb=>hcg.block g om (fun e=>by rcases h2 g e with e|e<;>omega)
   rw[he];refine⟨bt,_,ct,rfl,⟨⟨S',by rw[<- es];exact hbk,fun g e=>?_⟩,?_,?_,fun g a1 a2 a3 a4=>(hno g om a2).trans (q1.fr g a1 a2 a3 a4),hcg.os.trans q1.os,hcg.tape.trans q1.tape,hcg.output.trans q1.out,Nat.le_trans hz hcg.size⟩,(hno _ om om).trans q2,(hno _ om om).trans q3⟩
   ·rcases hs' g e with e|e
    ·exact h2 g e
    ·right;omega
   ·rw[<- es,jL];exact q1.ch.same (hno c om (Ne.symm hbc))
   ·exact(hno sb om (Ne.symm hbs)).trans q1.tx
 ·obtain⟨er,n61⟩:=rc2 hf;rw[hf] at hst';have es:({ s with toks:=dM s.toks ⟨l.t,byt (dw r),byt (kI r)⟩ }:Bk)=s':=by simpa using hst'
  have hcut:Lib.cut r [61]=(dw r,kI r,true):=by
   have:=r8 61 (dw r) (kI r) n61
   rw[<- er] at this;exact this
  rw[hcut] at HC;have hl1:(dw r).length+(kI r).length<=1000:=by
   have:=congrArg List.length er
   simp at this;omega
  refine Ba b c V (bs r) (bs (dw r)) (bs (kI r)) l P (fun W=>SRp V0 b c sb s' t W/\W.heap[V0.heap.size]?=V.heap[V0.heap.size]?/\W.heap[V0.heap.size+1]?=V.heap[V0.heap.size+1]?) hP0 hKP HC HR HI (fun W q=>?_)
  rw[hPd] at q;obtain⟨q1,q2,q3⟩:=q;obtain⟨S,h1,h2⟩:=q1.bk;have hz:=q1.sz;refine(rv W c s.toks ⟨l.t,bs (dw r),bs (kI r)⟩ q1.ch hI.t (by show (bs (dw r)).size<=_;rw[aN];omega) (by show (bs (kI r)).size<=_;rw[aN];omega)).mono ?_
  rintro e w' ⟨rfl,hch,hg⟩
  have hno:∀ g,g<W.heap.size->g≠c->w'.heap[g]?=W.heap[g]?:=fun g hlt hgc=>hg.block g hlt (by simp;exact hgc)
  refine⟨rfl,⟨⟨S,?_,h2⟩,?_,?_,fun g a1 a2 a3 a4=>(hno g om a3).trans (q1.fr g a1 a2 a3 a4),hg.os.trans q1.os,hg.tape.trans q1.tape,hg.output.trans q1.out,Nat.le_trans hz hg.size⟩,(hno _ om om).trans q2,(hno _ om om).trans q3⟩
  ·rw[<- es];exact(h1.tk _).same (fun g e=>hno g (h1.lt g e) (by rcases h2 g e with e|e<;>omega)) hg.size
  ·rw[<- es];exact hch
  ·exact(hno sb om (Ne.symm hcs)).trans q1.tx
attribute [local go_sem] Oper.semAt_some
theorem By(a:Lu):Lib.trimSuffix (a++[10]) [10]=a:=by
 unfold Lib.trimSuffix;have h:Lib.hasSuffix (a++[10]) [10]=true:=by simp[Lib.hasSuffix]
 rw[if_pos h];simp
def FW(w:World)(s:Bk)(e:Ending)(w':World):Prop:=∃ b c S,e=.returned (.tuple #[Pq b,.agg #[.chan (some c)],.bool true])/\au w' b S s/\(∀ q,S q->w.heap.size<=q)/\¬S c/\Ch w' c s.toks/\w.heap.size<=c/\Bl w w'
theorem xv(w:World)(E:di w)(hZ:10<=w.heap.size)(rows:List (Lu))(hr:∀ r,r∈rows->(10:UInt8)∉r)(hrl:∀ r,r∈rows->r.length<=1000)(hlen:∀ j,(bE rows j).length<=100000)(st:Nat->Bk)(h0:st 0=bk0)(hstep:∀ j,j<rows.length->bQ (st j) (rows.getD j [])=some (st (j+1)))(hInv:∀ j,Inv (st j))
  (HN:Hid (∀ W,Calls prog 82 #[] W fun e w'=>∃ c,e=.returned (.agg #[.chan (some c)])/\Ch w' c []/\W.heap.size<=c/\Bl W w')) :
  Calls prog 47 #[.string (bs (bE rows 0))] w (FW w (st rows.length)):=by
 obtain⟨RR,hRR⟩:∃ RR:Ending->World->Prop,RR=FW w (st rows.length):=⟨_,rfl⟩
 rw[<- hRR];obtain⟨T0,hT0⟩:∃ T0,T0=bs (bE rows 0):=⟨_,rfl⟩
 rw[<- hT0];replace hT0:Hid (T0=bs (bE rows 0)):=hT0;replace h0:Hid (st 0=bk0):=h0;replace hstep:Hid (∀ j,j<rows.length->bQ (st j) (rows.getD j [])=some (st (j+1))):=hstep;refine(callsIn_wide (n:=7)).1 ?_
 refine callsIn_of_wp_marks func47 rfl trivial ?_ rfl
 simp only[ntmps47,List.size_toArray,List.length_cons,List.length_nil,Nat.reduceAdd,Nat.reduceSub,Array.replicate_succ,Array.replicate_zero,List.push_toArray,List.append_toArray,List.nil_append,List.cons_append]
 gi_wp2_with (first
  | (refine⟨trivial,?_⟩;gi_at_call 82;refine(callsIn_wide.2 (HN.out _)).mono ?_;rintro e w1 ⟨c,rfl,hch,hc,hb1⟩;replace hch:Hid (Ch w1 c []):=hch;replace hb1:Hid _:=hb1)
  | (refine⟨trivial,?_⟩;gi_at_call 83;refine(callsIn_wide.2 (wt _ _)).mono ?_;rintro e w2 ⟨rfl,rfl⟩))
 obtain⟨W4,hW4⟩:∃ W4,W4=((((w.alloc (.cells #[.pointer none] 85)).alloc (.cells #[.chan none] 88)).alloc (.cells #[.bool false] 4)).alloc (.cells #[.slice none 0 0,.slice none 0 0,.slice none 0 0] 160)):=⟨_,rfl⟩
 rw[<- hW4] at hc hb1;have q4:W4.heap.size=w.heap.size+4:=by rw[hW4];simp
 have l4:Bl w W4:=by rw[hW4];exact upB
 have p2:Blk W4 w.heap.size #[.pointer none] 85:=by rw[hW4];exact(((Blk.new w _ _).alloc _).alloc _).alloc _
 have p3:Blk W4 (w.heap.size+1) #[.chan none] 88:=by
  have h:=((Blk.new (w.alloc (.cells #[.pointer none] 85)) #[.chan none] 88).alloc (.cells #[.bool false] 4)).alloc (.cells #[.slice none 0 0,.slice none 0 0,.slice none 0 0] 160)
  rw[World.size_alloc] at h;rw[hW4];exact h
 have p4:Blk W4 (w.heap.size+2) #[.bool false] 4:=by
  have h:=(Blk.new ((w.alloc (.cells #[.pointer none] 85)).alloc (.cells #[.chan none] 88)) #[.bool false] 4).alloc (.cells #[.slice none 0 0,.slice none 0 0,.slice none 0 0] 160)
  rw[World.size_alloc,World.size_alloc] at h;rw[hW4];exact h
 have pb:Blk W4 (w.heap.size+3) #[.slice none 0 0,.slice none 0 0,.slice none 0 0] 160:=by
  have h:=Blk.new (((w.alloc (.cells #[.pointer none] 85)).alloc (.cells #[.chan none] 88)).alloc (.cells #[.bool false] 4)) #[.slice none 0 0,.slice none 0 0,.slice none 0 0] 160
  rw[World.size_alloc,World.size_alloc,World.size_alloc] at h;rw[hW4];exact h
 clear hW4;obtain⟨V0,hV0⟩:∃ V0,V0=((w1.alloc (.cells #[Pq (w.heap.size+1+1+1)] 85)).alloc (.cells #[.chan (some c)] 88)).alloc (.cells #[.string T0] 9):=⟨_,rfl⟩
 rw[<- hV0];have z1:=hb1.out.size;have q0:V0.heap.size=w1.heap.size+3:=by rw[hV0];simp
 have lv:Bl w1 V0:=by rw[hV0];exact upB
 have p5:Blk V0 w1.heap.size #[Pq (w.heap.size+1+1+1)] 85:=by rw[hV0];exact((Blk.new w1 _ _).alloc _).alloc _
 have p6:Blk V0 (w1.heap.size+1) #[.chan (some c)] 88:=by
  have h:=(Blk.new (w1.alloc (.cells #[Pq (w.heap.size+1+1+1)] 85)) #[.chan (some c)] 88).alloc (.cells #[.string T0] 9)
  rw[World.size_alloc] at h;rw[hV0];exact h
 have p7:Blk V0 (w1.heap.size+1+1) #[.string T0] 9:=by
  have h:=Blk.new ((w1.alloc (.cells #[Pq (w.heap.size+1+1+1)] 85)).alloc (.cells #[.chan (some c)] 88)) #[.string T0] 9
  rw[World.size_alloc,World.size_alloc] at h;rw[hV0];exact h
 clear hV0;have u4:Bl W4 V0:=hb1.out.trans (lv.mono z1)
 replace p2:=p2.below u4
 replace p3:=p3.below u4
 replace p4:=p4.below u4
 replace pb:=pb.below u4
 have lw:Bl w V0:=l4.trans (u4.mono l4.size)
 have hcV:Ch V0 c []:=by
  obtain⟨s',r',hh⟩:=hch.out;exact⟨s',r',(lv.block c (Array.getElem?_eq_some_iff.1 hh).1).trans hh⟩
 have hcl:=hcV.lt;have hcw:c<w1.heap.size:=by
  obtain⟨s',r',hh⟩:=hch.out;exact(Array.getElem?_eq_some_iff.1 hh).1
 have hcb:c≠w.heap.size+3:=by omega
 clear hch;obtain⟨SR,hSR⟩:∃ SR:Nat->World->Prop,SR=fun j V=>SRp V0 (w.heap.size+3) c (w1.heap.size+1+1) (st j) (bE rows j) V:=⟨_,rfl⟩
 have sE:∀ j V o,SR j V->SR j (V.putObj (V0.heap.size+1) o):=fun j V o h=>by rw[hSR] at h ⊢;exact h.put om om om (.inr rfl) o
 have ST:∀ W1,Bl V0 W1->W1.heap.size=V0.heap.size+2->SR 0 W1:=fun W1 hb hz=>by
  rw[hSR];show SRp V0 (w.heap.size+3) c (w1.heap.size+1+1) (st 0) (bE rows 0) W1
  rw[h0.out];refine⟨⟨fun q=>q=w.heap.size+3,⟨.slice none 0 0,.slice none 0 0,.slice none 0 0,c,pb.below hb,trivial,⟨rfl,.inl ⟨rfl,rfl⟩⟩,⟨rfl,.inl ⟨rfl,rfl⟩⟩,⟨rfl,.inl ⟨rfl,rfl⟩⟩,rfl,trivial,fun g e=>(by cases e),fun g e=>(by cases e),fun g e=>(by cases e),fun q e=>by rw[e];omega⟩,fun q e=>.inl e⟩,hcV.same (hb.block c hcl),by rw[<- hT0.out];exact p7.below hb,fun q a1 _ _ _=>hb.block q a1,hb.os,hb.tape,hb.output,by omega⟩
 refine nE rfl om (gf:=129) (lb:=#[Pq (w1.heap.size+1+1)]) rfl trivial (enters_of func129 (by kernel_rfl) rfl) (SR rows.length) (fun _=>False) (sE rows.length) (fun W o h=>h) ?hit ?hdone ?hstop
 case hstop=>intro V hX;exact hX.elim
 case hit =>
  intro fn hfn R hR W1 hrdy hbW hzW;refine(zM 6 om (V0.heap.size+1) (w1.heap.size+1+1) rows hr hlen (fun j W=>SR j W/\Rdy V0.heap.size R W) (fun W=>False/\Lft V0.heap.size R W) W1 ?hs ?hY ⟨ST W1 hbW hzW,hrdy⟩).mono ?_
  case hs =>
   rintro j W ⟨h1,h2⟩
   rw[hSR] at h1;exact⟨h1.tx.cell 0,h1.tx.frozen 0⟩
  case hY =>
   rintro j W ⟨h1,h2⟩ hlt
   rw[hSR] at h1;have h1':=SRp.text h1 om om om (bE rows (j+1))
   have h2':Rdy V0.heap.size R (W.setCell (At (w1.heap.size+1+1) 0) (.string (bs (bE rows (j+1))))).drew:=h2.same (Below.heap_setCell _ _ _ _ (show V0.heap.size≠w1.heap.size+1+1 by omega)) (Below.heap_setCell _ _ _ _ (show V0.heap.size+1≠w1.heap.size+1+1 by omega))
   generalize (W.setCell (At (w1.heap.size+1+1) 0) (.string (bs (bE rows (j+1))))).drew=W' at h1' h2' ⊢
   have hstj:=hstep.out j hlt;have hrlj:=hrl _ (aJ [] hlt)
   have HTs:Hid (∀ V',Calls prog 85 #[.string (bs (rows.getD j []++[10])),.string ⟨#[10]⟩] V' fun e w'=>e=.returned (.string (bs (rows.getD j [])))/\w'=V'):=fun V'=>by
    have h:=Tryz.strings_TrimSuffix (bs (rows.getD j []++[10])) ⟨#[10]⟩ V' (by rw[aN,List.length_append];show _+1<=_;omega)
    rw[show (bs (rows.getD j []++[10])).data.toList=rows.getD j []++[10] from rfl,show (⟨#[10]⟩:Bz).data.toList=[10] from rfl,By] at h;exact h
   generalize hrow:rows.getD j []=row at *
   refine nL (n:=5) hR hfn (x:=#[.string (bs (row++[10]))]) rfl
    { tmps:=#[.string T0,undef,Pq w.heap.size,Pq (w.heap.size+1),Pq (w.heap.size+1+1),Pq w1.heap.size,Pq (w1.heap.size+1),.string (bs (row++[10])),Pq (w.heap.size+1+1+1),.agg #[.chan (some c)],.string T0,.func (.func 129) #[] #[Pq (w1.heap.size+1+1)],.string (bs (row++[10])),undef,undef,undef,undef,undef,undef,undef,undef,undef],defers:=[] }
    (B':=SR (j+1)) (X:=fun _=>False) (sE (j+1)) (fun W o h=>h) h2' ?ha ?hbody
   case ha =>
    intro K hK;clear hT0;gi_wp2
    exact hK
   case hbody =>
    intro o;have hS':=h1'.put om om om (.inr rfl) o
    generalize W'.putObj (V0.heap.size+1) o=V at *
    obtain⟨SS,hSS⟩:∃ SS:World->Prop,SS=fun V'=>V'.cell? (At w1.heap.size 0)=some (Pq (w.heap.size+1+1+1))/\V'.cell? (At (w1.heap.size+1) 0)=some (.chan (some c)):=⟨_,rfl⟩
    have HSS:Hid (∀ V' u t',SRp V0 (w.heap.size+3) c (w1.heap.size+1+1) u t' V'->SS V'):=fun V' u t' h=>by
     rw[hSS];exact⟨(eY (h.fr _ om om om om)).trans (p5.cell 0),(eY (h.fr _ om om om om)).trans (p6.cell 0)⟩
    have HS1:Hid (∀ V',SS V'->V'.cell? (At w1.heap.size 0)=some (Pq (w.heap.size+1+1+1))/\V'.cell? (At (w1.heap.size+1) 0)=some (.chan (some c))):=fun V' h=>by rw[hSS] at h;exact h
    have hSd:SRp V0 (w.heap.size+3) c (w1.heap.size+1+1) (st j) (bE rows (j+1)) V.drew:=hS'.below (Below.drew (Below.refl _ _))
    have hS0:SS V.drew:=HSS.out _ _ _ hSd
    have HRr:Hid (Calls prog 84 #[Pq (w.heap.size+1+1+1),.agg #[.chan (some c)],.string (bs row)] V.drew fun e V'=>e=.returned (.bool true)/\Hid (SRp V0 (w.heap.size+3) c (w1.heap.size+1+1) (st (j+1)) (bE rows (j+1)) V'/\V'.heap[V0.heap.size]?=V.heap[V0.heap.size]?/\V'.heap[V0.heap.size+1]?=V.heap[V0.heap.size+1]?)):=by
     refine(A8 hSd E hZ lw om om om om om om (Ne.symm hcb) om om (hInv j) row hrlj hstj).mono ?_
     rintro e V' ⟨rfl,q1,q2,q3⟩
     exact⟨rfl,q1,q2,q3⟩
    have hmx:prog.follows .mixedOrders=true:=by kernel_rfl
    have hfin:Hid (∀ V',Hid (SRp V0 (w.heap.size+3) c (w1.heap.size+1+1) (st (j+1)) (bE rows (j+1)) V'/\V'.heap[V0.heap.size]?=V.heap[V0.heap.size]?/\V'.heap[V0.heap.size+1]?=V.heap[V0.heap.size+1]?)->V'.heap[V0.heap.size]?=V.heap[V0.heap.size]?/\V'.heap[V0.heap.size+1]?=V.heap[V0.heap.size+1]?/\SR (j+1) V'):=fun V' h=>⟨h.out.2.1,h.out.2.2,by rw[hSR];exact h.out.1⟩
    clear hS' hSd h1' h2' h1 h2 hSS hSR hRR hT0 hstj hrlj hrow ST sE;gi_wp2
    refine nJ (S:=SS) hmx (by kernel_rfl) hS0 (fun hHeld=>?_)
    refine wpAnyH_take (i:=0) (v:=?_) rfl (by kernel_rfl) (by kernel_rfl) (by kernel_rfl) (fun _ _ _ h=>h) (Or.inl ⟨by rfl,?_⟩) hHeld ?_
    rotate_left
    ·intro w hSw;obtain⟨hs0,hs1⟩:=HS1.out _ hSw;go_simp;try with_reducible rfl
    try simp only[Act.put,List.setIfInBounds_toArray,List.set_cons_zero,List.set_cons_succ]
    refine wpAnyH_take (i:=1) (v:=?_) rfl (by kernel_rfl) (by kernel_rfl) (by kernel_rfl) (fun _ _ _ h=>h) (Or.inl ⟨by rfl,?_⟩) hHeld ?_
    rotate_left
    ·intro w hSw;obtain⟨hs0,hs1⟩:=HS1.out _ hSw;go_simp;try with_reducible rfl
    try simp only[Act.put,List.setIfInBounds_toArray,List.set_cons_zero,List.set_cons_succ]
    refine wpAnyH_take (i:=2) (v:=?_) rfl (by kernel_rfl) (by kernel_rfl) (by kernel_rfl) (fun _ _ _ h=>h) (Or.inl ⟨by rfl,?_⟩) hHeld ?_
    rotate_left
    ·intro w hSw;obtain⟨hs0,hs1⟩:=HS1.out _ hSw;go_simp;try with_reducible rfl
    try simp only[Act.put,List.setIfInBounds_toArray,List.set_cons_zero,List.set_cons_succ]
    refine wpAnyH_ready (rs:=[3]) (by kernel_rfl) sM ?_
    refine AllReadyH.cons rfl (fun K hK=>?_) AllReadyH.nil
    go_simp
    go_at_call 85
    refine(HTs.out _).mono ?_
    rintro e w5 ⟨rfl,hw5⟩
    obtain rfl:=hw5
    refine hK.out _ _ hHeld (fun hHeld=>?_)
    clear hK K;try simp only[Act.put,List.setIfInBounds_toArray,List.set_cons_zero,List.set_cons_succ]
    refine wpAnyH_ready (rs:=[4]) (by kernel_rfl) sM ?_
    refine AllReadyH.cons rfl (fun K hK=>?_) AllReadyH.nil
    go_simp
    go_at_call 84
    refine HRr.out.mono ?_
    rintro e w6 ⟨rfl,hs6⟩
    refine hK.out _ _ (HSS.out _ _ _ hs6.out.1) (fun hHeld=>?_)
    clear hK K;try simp only[Act.put,List.setIfInBounds_toArray,List.set_cons_zero,List.set_cons_succ]
    refine wpAnyH_ready (rs:=[5]) (by kernel_rfl) sM ?_
    refine AllReadyH.cons rfl (fun K hK=>?_) AllReadyH.nil
    go_simp
    refine hK.out _ _ hHeld (fun hHeld=>?_)
    clear hK K;try simp only[Act.put,List.setIfInBounds_toArray,List.set_cons_zero,List.set_cons_succ]
    refine wpAnyH_done (by kernel_rfl) ?_ _
    have hf:=hfin.out w6 hs6;clear hfin hHeld HTs HRr HSS HS1;simp only[qG]
    gi_wp2
    exact hf
  ·rintro e V ⟨hv,⟨h1,h2⟩|⟨h1,_⟩⟩
   ·exact⟨hv,.inl ⟨h1,h2⟩⟩
   ·exact h1.elim
 case hdone =>
  intro V hE hK;rw[hSR] at hE;have g2:Blk V w.heap.size #[.pointer none] 85:=(hE.fr _ om om om om).trans p2
  have g3:Blk V (w.heap.size+1) #[.chan none] 88:=(hE.fr _ om om om om).trans p3
  have g4:Blk V (w.heap.size+2) #[.bool false] 4:=(hE.fr _ om om om om).trans p4
  have g5:Blk V w1.heap.size #[Pq (w.heap.size+1+1+1)] 85:=(hE.fr _ om om om om).trans p5
  have g6:Blk V (w1.heap.size+1) #[.chan (some c)] 88:=(hE.fr _ om om om om).trans p6
  have c2:=g2.cell 0;have c3:=g3.cell 0;have c4:=g4.cell 0;have c5:=g5.cell 0;have c6:=g6.cell 0;have f2:=g2.frozen 0;have f3:=g3.frozen 0;have f4:=g4.frozen 0;have n1:¬(w1.heap.size=w.heap.size):=by omega
  have n2:¬(w1.heap.size=w.heap.size+1):=by omega
  have n3:¬(w1.heap.size=w.heap.size+1+1):=by omega
  have n4:¬(w1.heap.size+1=w.heap.size):=by omega
  have n5:¬(w1.heap.size+1=w.heap.size+1):=by omega
  have n6:¬(w1.heap.size+1=w.heap.size+1+1):=by omega
  gi_wp2
  gi_region
  obtain⟨U,hU⟩:∃ U,U=(((V.setCell (At w.heap.size 0) (Pq (w.heap.size+1+1+1))).setCell (At (w.heap.size+1) 0) (.chan (some c))).setCell (At (w.heap.size+1+1) 0) (.bool true)).drew:=⟨_,rfl⟩
  rw[<- hU];have hoth:∀ b,b≠w.heap.size->b≠w.heap.size+1->b≠w.heap.size+2->U.heap[b]?=V.heap[b]?:=fun b h1 h2 h3=>by
   rw[hU];exact(Below.heap_setCell _ _ _ _ (show b≠w.heap.size+1+1 by omega)).trans ((Below.heap_setCell _ _ _ _ h2).trans (Below.heap_setCell _ _ _ _ h1))
  have zU:U.heap.size=V.heap.size:=by rw[hU];simp[World.setCell]
  have G2:Blk U w.heap.size #[Pq (w.heap.size+1+1+1)] 85:=by
   rw[hU];have h:=g2.set 0 (Pq (w.heap.size+1+1+1))
   exact((show Blk _ _ #[_] _ from h).other (b:=w.heap.size+1) om _).other (b:=w.heap.size+1+1) om _
  have G3:Blk U (w.heap.size+1) #[.chan (some c)] 88:=by
   rw[hU];have h:=(g3.other (b:=w.heap.size) (i:=0) om (Pq (w.heap.size+1+1+1))).set 0 (.chan (some c))
   exact(show Blk _ _ #[_] _ from h).other (b:=w.heap.size+1+1) om _
  have G4:Blk U (w.heap.size+2) #[.bool true] 4:=by
   rw[hU];exact((g4.other (b:=w.heap.size) (i:=0) om (Pq (w.heap.size+1+1+1))).other (b:=w.heap.size+1) (i:=0) om (.chan (some c))).set 0 (.bool true)
  have hK':U.heap[V0.heap.size]?=some (.deferred (some [])):=(hoth _ om om om).trans hK
  have hfin:RR (.returned (.tuple #[Pq (w.heap.size+1+1+1),.agg #[.chan (some c)],.bool true])) (U.putObj V0.heap.size (.deferred none)):=by
   rw[hRR];obtain⟨S,s1,s2⟩:=hE.bk;have hl:=hE.low lw om om om;refine⟨w.heap.size+3,c,S,rfl,s1.same (fun q e=>?_) (by rw[World.putObj_size,zU];exact Nat.le_refl _),fun q e=>?_,fun e=>?_,hE.ch.same ((World.putObj_heap_other om).trans (hoth c om om om)),by omega,?_⟩
   ·have hq:=s2 q e;exact(World.putObj_heap_other om).trans (hoth q om om om)
   ·have hq:=s2 q e;omega
   ·have hq:=s2 c e;omega
   ·refine vk ⟨?_,?_,?_,?_,fun b hb=>?_⟩ om _
    ·rw[hU];exact hl.os
    ·rw[hU];exact hl.tape
    ·rw[hU];exact hl.output
    ·rw[zU];exact hl.size
    ·exact(hoth b om om om).trans (hl.block b hb)
  have k2:=(G2.put (b:=V0.heap.size) om (.deferred none)).cell 0
  have k3:=(G3.put (b:=V0.heap.size) om (.deferred none)).cell 0
  have k4:=(G4.put (b:=V0.heap.size) om (.deferred none)).cell 0
  clear hU c2 c3 c4 c5 c6 f2 f3 f4 hRR G2 G3 G4 g2 g3 g4 g5 g6;gi_wp2
  refine⟨by simp,.inl ⟨_,_,rfl,run_takeDeferred hK',?_⟩⟩
  exact⟨_,by simp[results,Tryz.f47,go_sem,k2,k3,k4],hfin⟩
end
section
open Go.ChangeShapes Go.WideShapes Go.ChangeAt Go.RowKit Go.Proofs.Tryz
theorem Ao(d:Nat)(T:Bz)(w:World)(Z:Nat->Nat->World->Prop)(R:Ending->World->Prop)
  (HS:Hid (Calls prog 31 #[Pq d] w fun e w'=>e=.returned (.bool false)/\w'=w))
  (HO:Hid (∀ W,Cr prog 46 #[Pq d] W (.agg #[Pq d])))
  (HT:Hid (∀ W,Bl w W->Cr prog 48 #[.agg #[Pq d]] W (.string T)))
  (HR:Hid (∀ W,Bl w W->Calls prog 47 #[.string T] W fun e w'=>∃ b c,e=.returned (.tuple #[Pq b,.agg #[.chan (some c)],.bool true])/\Bl W w'/\Z b c w'))
  (HZ:Hid (∀ b c W W',Z b c W->Bl W W'->Z b c W'))
  (F:Hid (∀ b c W W',Bl w W->Z b c W->W'=W.alloc (.cells (eX d b c false) 90)->R (.returned (.tuple #[Pq W.heap.size,I6 0])) W')) :
  Calls prog 27 #[Pq d] w R:=by
 go_enter func27,ntmps27
 go_wp2_with (first
  | (go_at_call 31;refine HS.o.mono ?_;rintro e w1 ⟨rfl,h1⟩;obtain rfl:w=w1:=h1.symm)
  | (go_at_call 46;refine Mo (HO.o _) fun w2 hq2=>?_;replace hq2:Hid (Bl w w2):=hq2)
  | (go_at_call 48;refine Mo (HT.o _ (upH hq2)) fun w3 hq3=>?_;have B3:Hid (Blk w3 w2.heap.size #[Pq d] 84):=(Blk.new w2 _ _).below hq3;have hb3:Hid (Bl w w3):=Below.trans (B:=w.heap.size) (a:=w) (b:=w2.alloc (.cells #[Pq d] 84)) (upH hq2) (hq3.mono (by have hz:=hq2.o.size;simp;omega));clear hq3)
  | (go_at_call 47;refine(HR.o _ hb3.o).mono ?_;rintro e w4 ⟨b,c,rfl,hq4,hz4⟩;have B4:Hid (Blk w4 w2.heap.size #[Pq d] 84):=B3.o.below hq4;have hb4:Hid (Bl w w4):=hb3.o.trans (hq4.mono hb3.o.size);clear hq4;replace hz4:Hid (Z b c w4):=hz4;have s4:=B4.o.cell 0;have zl4:=B4.o.lt))
 have hbb:Bl w4 (w4.alloc (.cells #[.chan (some c)] 88)):=(Below.refl _ w4).alloc (Nat.le_refl _) _
 have hfin:=F.o b c (w4.alloc (.cells #[.chan (some c)] 88)) _ (hb4.o.trans (hbb.mono hb4.o.size)) (HZ.o _ _ _ _ hz4.o hbb) rfl
 rw[World.size_alloc] at hfin;exact hfin
theorem qY{s s':Bk}{r:Lu}(h:bQ s r=some s')(hI:Inv s):Inv s':=by
 unfold bQ at h;rcases e:aE (dw r) with _|l
 ·rw[e] at h;cases h
 ·rw[e] at h;dsimp only at h;by_cases hv:l.v<8
  ·rw[if_pos hv] at h;split at h
   ·cases h;exact zy hI (mC _ hI.t)
   ·split at h
    ·cases h;exact zu hI (eT e).1
    ·cases h
  ·rw[if_neg hv] at h;cases h
def mu(rows:List (Lu))(j:Nat):Bk:=(bF bk0 (rows.take j)).getD bk0
theorem xi:∀ (rows:List (Lu)) (s0 s:Bk),bF s0 rows=some s->∀ j,∃ u,bF s0 (rows.take j)=some u/\(j<rows.length->∃ u',bQ u (rows.getD j [])=some u'/\bF s0 (rows.take (j+1))=some u'):=by
 intro rows;induction rows with
 | nil=>intro s0 s h j;exact⟨s0,by simp[bF],fun q=>by simp at q⟩
 | cons r rs ih =>
  intro s0 s h j;simp only[bF] at h
  rcases e:bQ s0 r with _|s1
  ·rw[e] at h;cases h
  ·rw[e] at h
   cases j with
   | zero=>exact⟨s0,rfl,fun _=>⟨s1,e,by simp[bF,e]⟩⟩
   | succ j =>
    obtain⟨u,hu,hn⟩:=ih s1 s h j;refine⟨u,by simp only[List.take_succ_cons,bF,e];exact hu,fun q=>?_⟩
    obtain⟨u',a1,a2⟩:=hn (by simpa using q)
    exact⟨u',a1,by simp only[List.take_succ_cons,bF,e];exact a2⟩
theorem nP{rows:List (Lu)}{s:Bk}(h:bF bk0 rows=some s)(j:Nat)(hj:j<rows.length):bQ (mu rows j) (rows.getD j [])=some (mu rows (j+1)):=by
 obtain⟨u,hu,hn⟩:=xi rows bk0 s h j;obtain⟨u',a1,a2⟩:=hn hj;unfold mu;rw[hu,a2];exact a1
theorem Bg{rows:List (Lu)}{s:Bk}(h:bF bk0 rows=some s):∀ j,Inv (mu rows j):=by
 intro j;induction j with
 | zero=>exact yl.1
 | succ j ih =>
  by_cases hj:j<rows.length
  ·exact qY (nP h j hj) ih
  ·have e:mu rows (j+1)=mu rows j:=by unfold mu;rw[List.take_of_length_le om,List.take_of_length_le om]
   rw[e];exact ih
theorem Bf{rows:List (Lu)}{s:Bk}(h:bF bk0 rows=some s):mu rows rows.length=s:=by unfold mu;rw[List.take_length,h];rfl
theorem Kp.rows{s:Bk}(K:Kp s):bF bk0 (ey s)=some s:=xg K.good (fun h hh=>⟨(K.inv.pa h hh).2.2.1,(K.inv.pa h hh).2.2.2.1⟩) K.inv.p K.inv.n K.inv.l K.inv.t K.tk
theorem A4{s:Bk}(K:Kp s):∀ r,r∈ey s->r.length<=150:=by
 intro r hr;unfold ey at hr;rcases List.mem_append.1 hr with hr|hr
 ·have:=lW K.inv r hr;omega
 ·obtain⟨x,hx,rfl⟩:=List.mem_map.1 hr;exact lX (K.tkb x hx).1 (K.tkb x hx).2
theorem Dy{s:Bk}(K:Kp s)(j:Nat):(bE (ey s) j).length<=100000:=by
 unfold bE;have h1:=oh (fun r:Lu=>r++[10]) 151 ((ey s).drop j) (fun r hr=>by have:=A4 K r (List.mem_of_mem_drop hr);simp;omega)
 have h2:((ey s).drop j).length<=78:=by
  have:=jX K.inv
  have:=K.inv.t
  unfold ey;simp;omega
 have h3:151*((ey s).drop j).length<=151*78:=Nat.mul_le_mul_left _ h2
 omega
theorem Am(ρ:Nat->Nat)(k:Nat)(w:World)(d:Nat)(A:PD)(s:Bk)(E:di w)(hZ:10<=w.heap.size)(K:Kp s)(hwf:WF A.now)(ht:dg A.now=cr s)(hst:stS A.left A.st=false)(hd:DAt ρ k w d A)(hc:cO ρ w):Calls prog 27 #[Pq d] w fun e w'=>∃ x b c ρ',e=.returned (.tuple #[Pq x,I6 0])/\AC ρ' k w' x d b c s A false/\Stp (fun _=>False) ρ ρ' w w'/\Bl w w':=by
 classical
 have hdW:∀ W,Bl w W->DAt ρ k W d A:=fun W hW=>hd.step (Stp.below (R:=fun _=>False) hc hW) (fun q=>q) (fun q=>q) (fun q=>q)
 have hd':=hd;obtain⟨_,vs,vn,vl,hB,_⟩:=hd';refine Ao d (bs (bE (ey s) 0)) w (fun b c W=>∃ S,au W b S s/\(∀ q,S q->w.heap.size<=q)/\¬S c/\Ch W c s.toks/\w.heap.size<=c) _ ?_ (fun W=>Fh d W) (fun W hW=>?_) (fun W hW=>?_) ?_ ?_
 ·have h:=j7 w d vs vn vl A.left A.st hB;rw[hst] at h;exact h
 ·refine(xA ρ k W d A (E.mono hW).env hwf (hdW W hW) (fun q hq=>hc q (Nat.le_trans hW.size hq))).mono ?_
  rintro e w' ⟨rfl,hb⟩
  refine⟨?_,hb⟩
  rw[ht];rfl
 ·have h:=xv W (E.mono hW) (Nat.le_trans hZ hW.size) (ey s) (fun r hr=>(A5 K r hr).2) (fun r hr=>by have:=A4 K r hr;omega) (Dy K) (mu (ey s)) rfl (fun j hj=>nP K.rows j hj) (Bg K.rows) (fun W=>Bw W)
  rw[Bf K.rows] at h;refine h.mono ?_
  rintro e w' ⟨b,c,S,rfl,h1,h2,h3,h4,h5,h6⟩
  exact⟨b,c,rfl,h6,S,h1,fun q e=>Nat.le_trans hW.size (h2 q e),h3,h4,Nat.le_trans hW.size h5⟩
 ·rintro b c W W' ⟨S,h1,h2,h3,h4,h5⟩ hb
  exact⟨S,h1.below hb,h2,h3,h4.same (hb.block c h4.lt),h5⟩
 ·rintro b c W W' hW ⟨S,h1,h2,h3,h4,h5⟩ rfl
  obtain⟨ρ',hr'⟩:∃ ρ':Nat->Nat,ρ'=fun q=>if S q then 4*k+2 else if q=c then 4*k+4 else if q=W.heap.size then 4*k+4 else ρ q:=⟨_,rfl⟩
  have hcl:=h4.lt;have hSl:∀ q,S q->q<W.heap.size:=h1.lt
  have rb:∀ q,S q->ρ' q=4*k+2:=fun q e=>by rw[hr'];exact if_pos e
  have rc:ρ' c=4*k+4:=by rw[hr'];show (if S c then _ else _)=_;rw[if_neg h3,if_pos rfl]
  have rx:ρ' W.heap.size=4*k+4:=by rw[hr'];show (if S W.heap.size then _ else _)=_;rw[if_neg (fun e=>by have:=hSl _ e;omega),if_neg om,if_pos rfl]
  have ro:∀ q,¬S q->q≠c->q≠W.heap.size->ρ' q=ρ q:=fun q a1 a2 a3=>by rw[hr'];show (if S q then _ else _)=_;rw[if_neg a1,if_neg a2,if_neg a3]
  have hB':Bl W (W.alloc (.cells (eX d b c false) 90)):=(Below.refl _ W).alloc (Nat.le_refl _) _
  have hwW:=hW.trans (hB'.mono hW.size)
  have hz:(W.alloc (.cells (eX d b c false) 90)).heap.size=W.heap.size+1:=by simp
  have hws:=hW.size;have hcl':cO ρ' (W.alloc (.cells (eX d b c false) 90)):=fun q hq=>by
   rw[hz] at hq;rw[ro q (fun e=>by have:=hSl q e;omega) om om]
   exact hc q om
  have hst':Stp (fun _=>False) ρ ρ' w (W.alloc (.cells (eX d b c false) 90)):=⟨hwW.os,hwW.tape,hwW.output,hwW.size,fun q hq=>ro q (fun e=>by have:=h2 q e;omega) om om,fun q hq _=>hwW.block q hq,hcl'⟩
  obtain⟨vp,vn',vl',z,B⟩:=h1;have hsz:∀ q,RBk ρ' k q->q<(W.alloc (.cells (eX d b c false) 90)).heap.size:=fun q hq=>by
   rcases Nat.lt_or_ge q (W.alloc (.cells (eX d b c false) 90)).heap.size with e|e
   ·exact e
   ·have:=hcl' q e;unfold RBk at hq;omega
  exact⟨W.heap.size,b,c,ρ',rfl,⟨Blk.new W _ _,⟨vp,vn',vl',z,(B.below hB').mono (fun q e=>rb q e) hsz⟩,h4.same (hB'.block c hcl),hd.step hst' (fun q=>q) (fun q=>q) (fun q=>q),rx,rc,hcl'⟩,hst',hwW⟩
end
section
open Go.RowKit Go.Proofs.Tryz
theorem AC.other{R:Nat->Prop}{ρ ρ':Nat->Nat}{k:Nat}{w W:World}{x d b c:Nat}{s:Bk}{A:PD}{dn:Bool}(h:AC ρ k w x d b c s A dn)(hs:Stp R ρ ρ' w W)(h0:¬R 0)(h1:¬R (4*k+1))(h2:¬R (4*k+2))(h3:¬R (4*k+3))(h4:¬R (4*k+4)):AC ρ' k W x d b c s A dn:=by
 have hsz:∀ q,RBk ρ' k q->q<W.heap.size:=fun q hq=>by
  rcases Nat.lt_or_ge q W.heap.size with e|e
  ·exact e
  ·have:=hs.clean q e;unfold RBk at hq;omega
 obtain⟨vp,vn,vl,z,B⟩:=h.bk;have B1:BA W b (RBk ρ k) vp vn vl z s:=B.same (fun q e=>hs.block q (B.sz q e) (by rw[show ρ q=4*k+2 from e];exact h2)) hs.size
 exact⟨h.blk.step hs (by rw[h.rx];exact h4),⟨vp,vn,vl,z,B1.mono (fun q e=>(hs.role q (B.sz q e)).trans e) hsz⟩,h.ch.same (hs.block c h.ch.lt (by rw[h.rc];exact h4)),h.dk.step hs h0 h1 h3,(hs.role x h.blk.lt).trans h.rx,(hs.role c h.ch.lt).trans h.rc,hs.clean⟩
theorem AC.calm{ρ ρ':Nat->Nat}{k:Nat}{w W:World}{x d b c:Nat}{s:Bk}{A:PD}{dn:Bool}(h:AC ρ k w x d b c s A dn)(hs:Stp (fun _=>False) ρ ρ' w W):AC ρ' k W x d b c s A dn :=
 h.other hs (fun q=>q) (fun q=>q) (fun q=>q) (fun q=>q) (fun q=>q)
structure Hb(ρ:Nat->Nat)(k:Nat)(W:World)(x d:Nat)(s:Bk):Prop where
 ac:∃ A b c,AC ρ k W x d b c s A false/\jA A/\Has A (cr s)
 kp:Kp s
theorem Ex{ρ:Nat->Nat}{k:Nat}{W:World}{x d:Nat}{s:Bk}(h:Hb ρ k W x d s)(line:Bz)(E:di W)(hG:∀ q,ρ q≠0->10<=q)(hZ:10<=W.heap.size):Calls prog 16 #[Pq x,.string line] W fun e W'=>e=.returned (.string (bg s line).2)/\∃ ρ',Hb ρ' k W' x d (bg s line).1/\Stp (ROk k) ρ ρ' W W':=by
 obtain⟨A,b,c,h1,h2,h3⟩:=h.ac;refine(xX h1 line E h.kp.inv h.kp.tkb h3.wf h3.loose (by rw[h2.1];decide) hG hZ).mono ?_
 rintro e W' ⟨rfl,ρ',a1,a2⟩
 obtain⟨m1,_,_,m4⟩:=yP h.kp h3 line;obtain⟨n1,n2⟩:=m4 h2;obtain⟨r1,r2,r3,r4⟩:=m1 n1;exact⟨by rw[r1],ρ',⟨⟨_,b,c,by rw[n1,r2] at a1;exact a1,n2,by rw[<- r2];exact r4⟩,by rw[<- r2];exact r3⟩,a2⟩
theorem Hb.calm{ρ ρ':Nat->Nat}{k:Nat}{w W:World}{x d:Nat}{s:Bk}(h:Hb ρ k w x d s)(hs:Stp (fun _=>False) ρ ρ' w W):Hb ρ' k W x d s:=by
 obtain⟨A,b,c,h1,h2,h3⟩:=h.ac;exact⟨⟨A,b,c,h1.calm hs,h2,h3⟩,h.kp⟩
end
end Go.Proofs.YtjnhhnbgjjkkjaaGreatDoor
