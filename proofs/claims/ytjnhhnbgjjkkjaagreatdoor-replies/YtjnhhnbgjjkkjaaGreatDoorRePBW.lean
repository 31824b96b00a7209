import Derived.Test.YtjnhhnbgjjkkjaaGreatDoorRePBU
import Derived.Test.YtjnhhnbgjjkkjaaGreatDoorRePBV
import Derived.Test.YtjnhhnbgjjkkjaaGreatDoorRePAT
set_option linter.all false
set_option maxRecDepth 100000
set_option maxHeartbeats 2000000
namespace Go.Proofs.YtjnhhnbgjjkkjaaGreatDoor
section
open Go.RowKit Go.Proofs.Tryz
def DkH(ρ:Nat->Nat)(k:Nat)(W:World)(d:Nat)(t:Lu):Prop:=∃ A,DAt ρ k W d A/\jA A/\Has A t
theorem Cw{ρ:Nat->Nat}{k:Nat}{W:World}{d:Nat}{s:Bk}(h:DkH ρ k W d (cr s))(hc:cO ρ W)(K:Kp s)(E:di W)(hZ:10<=W.heap.size):Calls prog 27 #[Pq d] W fun e W'=>∃ x ρ',e=.returned (.tuple #[Pq x,I6 0])/\Hb ρ' k W' x d s/\Stp (fun _=>False) ρ ρ' W W'/\Bl W W':=by
 obtain⟨A,h1,h2,h3⟩:=h;refine(Am ρ k W d A s E hZ K h3.wf h3.text (by obtain⟨e1,e2⟩:=h2;rw[e1,e2];decide) h1 hc).mono ?_
 rintro e W' ⟨x',b',c',ρ',rfl,a1,a2,a3⟩
 exact⟨x',ρ',rfl,⟨⟨A,b',c',a1,h2,h3⟩,K⟩,a2,a3⟩
end
section
open Go.Conc Go.ChangeShapes Go.WideShapes Go.ChangeAt Go.RowKit
theorem Stp.roles{R:Nat->Prop}{ρ ρ':Nat->Nat}{w W:World}(h:Stp R ρ ρ' w W):∀ q,ρ' q≠0->ρ q≠0\/w.heap.size<=q:=fun q hq=>by
 rcases Nat.lt_or_ge q w.heap.size with e|e
 ·rw[h.role q e] at hq;exact .inl hq
 ·exact .inr e
theorem yL(ρ:Nat->Nat)(k:Nat)(w:World):DAt (ru ρ w.heap.size (4*k+1)) k (w.alloc (.cells (dB (.slice none 0 0) (.slice none 0 0) (.slice none 0 0) (-1) false) 112)) w.heap.size ⟨[],[],[],-1,false⟩:=by
 have hr:∀ W,my W (.slice none 0 0) []:=fun W=>⟨none,0,rfl,Nat.le_refl _,by unfold maxLen;omega,fun h=>absurd rfl h⟩
 exact⟨jw _ _ _,.slice none 0 0,.slice none 0 0,.slice none 0 0,Blk.new w _ _,⟨hr _,fun h=>absurd rfl h⟩,⟨hr _,fun h=>absurd rfl h⟩,⟨rfl,.inl ⟨rfl,rfl⟩⟩,fun b e=>(by cases e)⟩
end
section
open Go.RowKit
theorem Stp.lowW{R:Nat->Prop}{ρ ρ':Nat->Nat}{w W W':World}(h:Stp R ρ ρ' W W')(hb:Bl w W)(ro:∀ q,ρ q≠0->w.heap.size<=q)(h0:¬R 0):Bl w W' :=
 hb.trans (h.toBelow hb.size (fun b hlt=>by
  have e:ρ b=0:=by
   rcases Nat.eq_zero_or_pos (ρ b) with e|e
   ·exact e
   ·have:=ro b om;omega
  rw[e];exact h0))
theorem Stp.roW{R:Nat->Prop}{ρ ρ':Nat->Nat}{w W W':World}(h:Stp R ρ ρ' W W')(hb:Bl w W)(ro:∀ q,ρ q≠0->w.heap.size<=q):∀ q,ρ' q≠0->w.heap.size<=q:=fun q e=>by
 rcases h.roles q e with e|e
 ·exact ro q e
 ·exact Nat.le_trans hb.size e
structure Rk(ρ:Nat->Nat)(j:Nat)(W:World)(r:Nat)(s:Bk):Prop where
 bk:∃ b vt,RB (fun q=>ρ q=0) W.heap.size r s vt W/\TR W vt b s.toks/\(b=r\/(b<W.heap.size/\ρ b=8*j+14))
 rr:ρ r=8*j+13
theorem HL.blk{S:Nat->Prop}{B:Nat}{W:World}{v:Value}{l:List Hd}(h:HL S B W v l){g:Nat}(hg:v.ownBlock=some g):∃ cur,Blk W g cur 282:=by
 rcases h.1.2 with⟨rfl,_⟩|⟨g',cap,cur,rfl,_,hb,_⟩
 ·simp[Value.ownBlock] at hg
 ·obtain rfl:g'=g:=by simpa[Value.ownBlock] using hg
  exact⟨cur,hb⟩
theorem HL.go{S S':Nat->Prop}{B B':Nat}{W W':World}{v:Value}{l:List Hd}(h:HL S B W v l)(hb:∀ g cur,v.ownBlock=some g->Blk W g cur 282->(S g\/B<=g)->W'.heap[g]?=W.heap[g]?/\(S' g\/B'<=g)):HL S' B' W' v l :=
 ⟨aL h.1 (fun g hg=>by obtain⟨cur,hc⟩:=h.blk hg;exact(hb g cur hg hc (h.2 g hg)).1),fun g hg=>by obtain⟨cur,hc⟩:=h.blk hg;exact(hb g cur hg hc (h.2 g hg)).2⟩
theorem RB.go{S S':Nat->Prop}{B B':Nat}{W W':World}{r:Nat}{s:Bk}{vt:Value}(h:RB S B r s vt W)(hr:W'.heap[r]?=W.heap[r]?)(hb:∀ g cur,Blk W g cur 282->(S g\/B<=g)->W'.heap[g]?=W.heap[g]?/\(S' g\/B'<=g)):RB S' B' r s vt W':=by
 obtain⟨vp,vn,vl,h1,h2,h3,h4⟩:=h;exact⟨vp,vn,vl,hr.trans h1,h2.go fun g cur _=>hb g cur,h3.go fun g cur _=>hb g cur,h4.go fun g cur _=>hb g cur⟩
theorem RB.lt{S:Nat->Prop}{B:Nat}{W:World}{r:Nat}{s:Bk}{vt:Value}(h:RB S B r s vt W):r<W.heap.size:=by
 obtain⟨vp,vn,vl,h1,_⟩:=h;exact h1.lt
theorem Rk.step{R:Nat->Prop}{ρ ρ':Nat->Nat}{j:Nat}{W W':World}{r:Nat}{s:Bk}(h:Rk ρ j W r s)(st:Stp R ρ ρ' W W')(h0:¬R 0)(h1:¬R (8*j+13))(h2:¬R (8*j+14)):Rk ρ' j W' r s:=by
 obtain⟨b,vt,a1,a2,a3⟩:=h.bk;have hr:W'.heap[r]?=W.heap[r]?:=st.block r a1.lt (by rw[h.rr];exact h1)
 refine⟨⟨b,vt,a1.go hr (fun g cur hg hS=>?_),a2.same (fun cur hc=>?_),?_⟩,(st.role r a1.lt).trans h.rr⟩
 ·have hlt:=hg.lt;have e:ρ g=0:=by rcases hS with e|e;exact e;omega
  exact⟨st.block g hlt (by rw[e];exact h0),.inl ((st.role g hlt).trans e)⟩
 ·rcases a3 with rfl|⟨_,e⟩
  ·exact hr
  ·exact st.block b hc.lt (by rw[e];exact h2)
 ·rcases a3 with e|⟨q,e⟩
  ·exact .inl e
  ·exact .inr ⟨Nat.lt_of_lt_of_le q st.size,(st.role b q).trans e⟩
def RD(S:Nat->Prop)(B r b:Nat)(W:World)(res:Bk×Bz)(e:Ending)(W':World):Prop:=e=.returned (.string res.2)/\∃ vt' b',RB S B r res.1 vt' W'/\TR W' vt' b' res.1.toks/\(b'=b\/W.heap.size<=b')/\Chg (fun q=>q=r\/q=b) W W'
theorem Rk.did{ρ:Nat->Nat}{j:Nat}{W W':World}{r b:Nat}{s s':Bk}{vt':Value}{b':Nat}(hc:cO ρ W)(rr:ρ r=8*j+13)(hr:r<W.heap.size)(h3:b=r\/(b<W.heap.size/\ρ b=8*j+14))(a1:RB (fun q=>ρ q=0) W.heap.size r s' vt' W')(a2:TR W' vt' b' s'.toks)(a3:b'=b\/W.heap.size<=b')(a4:Chg (fun q=>q=r\/q=b) W W'):
  ∃ ρ',Rk ρ' j W' r s'/\Stp (fun q=>q=8*j+13\/q=8*j+14) ρ ρ' W W':=by
 have hblk:∀ q,q<W.heap.size->¬(ρ q=8*j+13\/ρ q=8*j+14)->W'.heap[q]?=W.heap[q]?:=fun q hq hn=>a4.block q hq (fun e=>hn (by
  rcases e with rfl|rfl
  ·exact .inl rr
  ·rcases h3 with rfl|⟨_,e⟩
   ·exact .inl rr
   ·exact .inr e))
 have hcl:cO ρ W':=fun q hq=>hc q (Nat.le_trans a4.size hq)
 have old:(b'=r\/(b'<W'.heap.size/\ρ b'=8*j+14))->TR W' vt' b' s'.toks->∃ ρ',Rk ρ' j W' r s'/\Stp (fun q=>q=8*j+13\/q=8*j+14) ρ ρ' W W':=fun hb ht =>
  ⟨ρ,⟨⟨b',vt',a1.go rfl (fun g cur hg hS=>⟨rfl,by rcases hS with e|e;exact .inl e;exact .inl (hc g e)⟩),ht,hb⟩,rr⟩,⟨a4.os,a4.tape,a4.output,a4.size,fun _ _=>rfl,hblk,hcl⟩⟩
 rcases a2 with⟨rfl,q2⟩|⟨off,cap,cur,q1,q2,q3⟩
 ·refine⟨ρ,⟨⟨r,_,a1.go rfl (fun g cur hg hS=>⟨rfl,by rcases hS with e|e;exact .inl e;exact .inl (hc g e)⟩),.inl ⟨rfl,q2⟩,.inl rfl⟩,rr⟩,⟨a4.os,a4.tape,a4.output,a4.size,fun _ _=>rfl,hblk,hcl⟩⟩
 ·have hbl:=q2.lt;rcases a3 with rfl|a3
  ·exact old (by rcases h3 with e|⟨e1,e2⟩;exact .inl e;exact .inr ⟨hbl,e2⟩) (.inr ⟨off,cap,cur,q1,q2,q3⟩)
  ·refine⟨ru ρ b' (8*j+14),⟨⟨b',vt',a1.go rfl (fun g cg hg hS=>⟨rfl,.inl ?_⟩),.inr ⟨off,cap,cur,q1,q2,q3⟩,.inr ⟨hbl,jw _ _ _⟩⟩,(fS _ _ _ om).trans rr⟩,⟨a4.os,a4.tape,a4.output,a4.size,fun q hq=>fS _ _ _ om,hblk,fun q hq=>(fS _ _ _ om).trans (hcl q hq)⟩⟩
   have hne:g≠b':=by
    rintro rfl
    unfold Blk at hg q2;rw[hg] at q2;simp at q2
   show ru ρ b' (8*j+14) g=0
   rw[fS _ _ _ hne];rcases hS with e|e
   ·exact e
   ·exact hc g e
structure Pe where
 p:Nat
 x:Nat
 d:Nat
 r:Nat
 s:Bk
def TkW(s:Bk):Prop:=∀ x,x∈s.toks->x.r.data.toList≠[]
structure Pt(ρ:Nat->Nat)(j:Nat)(W:World)(e:Pe):Prop where
 blk:∃ m mc,Blk W e.p #[Pq e.x,Pq e.d,Sq m 1 mc,.slice none 0 0,.bool false,.bool false] 123/\W.cell? (At m 0)=some (Pq e.r)/\m<W.heap.size/\ρ m=0
 hb:Hb ρ (2*j+2) W e.x e.d e.s
 rk:Rk ρ j W e.r e.s
 rp:ρ e.p=8*j+15
 tn:TkW e.s
theorem Hb.other{R:Nat->Prop}{ρ ρ':Nat->Nat}{k:Nat}{w W:World}{x d:Nat}{s:Bk}(h:Hb ρ k w x d s)(hs:Stp R ρ ρ' w W)(h0:¬R 0)(h1:¬R (4*k+1))(h2:¬R (4*k+2))(h3:¬R (4*k+3))(h4:¬R (4*k+4)):Hb ρ' k W x d s:=by
 obtain⟨A,b,c,a1,a2,a3⟩:=h.ac;exact⟨⟨A,b,c,a1.other hs h0 h1 h2 h3 h4,a2,a3⟩,h.kp⟩
theorem lO{R:Nat->Prop}{ρ ρ':Nat->Nat}{W W':World}{p m mc x d r rp:Nat}(st:Stp R ρ ρ' W W')(h0:¬R 0)(hp:¬R rp)(erp:ρ p=rp)(h:Blk W p #[Pq x,Pq d,Sq m 1 mc,.slice none 0 0,.bool false,.bool false] 123/\W.cell? (At m 0)=some (Pq r)/\m<W.heap.size/\ρ m=0):
  Blk W' p #[Pq x,Pq d,Sq m 1 mc,.slice none 0 0,.bool false,.bool false] 123/\W'.cell? (At m 0)=some (Pq r)/\m<W'.heap.size/\ρ' m=0 :=
 ⟨h.1.step st (by rw[erp];exact hp),(World.cell?_of_block (a:=At m 0) (st.block m h.2.2.1 (by rw[h.2.2.2];exact h0))).trans h.2.1,Nat.lt_of_lt_of_le h.2.2.1 st.size,(st.role m h.2.2.1).trans h.2.2.2⟩
theorem Pt.step{R:Nat->Prop}{ρ ρ':Nat->Nat}{j:Nat}{W W':World}{e:Pe}(h:Pt ρ j W e)(st:Stp R ρ ρ' W W')(h0:¬R 0)(hR:∀ q,8*j+9<=q->q<=8*j+15->¬R q):Pt ρ' j W' e:=by
 obtain⟨m,mc,hm⟩:=h.blk;refine⟨⟨m,mc,lO st h0 (hR _ om om) h.rp hm⟩,h.hb.other st h0 (hR _ om om) (hR _ om om) (hR _ om om) (hR _ om om),h.rk.step st h0 (hR _ om om) (hR _ om om),(st.role e.p hm.1.lt).trans h.rp,h.tn⟩
structure Ws(w:World)(ρ:Nat->Nat)(W:World)(wb:Nat)(L:List Pe):Prop where
 blk:∃ v,Blk W wb #[v] 68/\W.ownsRow 0 120 1 v L.length (L.map fun e=>Value.pointer (some (At e.p 0)))/\∀ g,v.ownBlock=some g->ρ g=1
 rw:ρ wb=2
 ps:∀ j e,L[j]?=some e->Pt ρ j W e
 cl:cO ρ W
 low:Bl w W
 ro:∀ q,ρ q≠0->w.heap.size<=q
theorem Ws.by{w:World}{ρ ρ':Nat->Nat}{W W':World}{wb:Nat}{L:List Pe}{i:Nat}{e':Pe}(h:Ws w ρ W wb L)(st:Stp (fun q=>8*i+9<=q/\q<=8*i+15) ρ ρ' W W')(hi:∀ e,L[i]?=some e->e'.p=e.p)(hp:Pt ρ' i W' e')(hlt:i<L.length):Ws w ρ' W' wb (L.set i e'):=by
 obtain⟨v,a1,a2,a3⟩:=h.blk;have hb:∀ g,v.ownBlock=some g->W'.heap[g]?=W.heap[g]?:=fun g hg=>st.block g (a2.lt g hg).2 (by rw[a3 g hg];omega)
 refine⟨⟨v,a1.step st (by rw[h.rw];omega),?_,fun g hg=>(st.role g (a2.lt g hg).2).trans (a3 g hg)⟩,(st.role wb a1.lt).trans h.rw,fun j e hj=>?_,st.clean,st.lowW h.low h.ro om,st.roW h.low h.ro⟩
 ·have:=aL a2 hb
  rw[List.length_set];have hm:(L.set i e').map (fun e=>Value.pointer (some (At e.p 0)))=L.map fun e=>Value.pointer (some (At e.p 0)):=by
   rw[List.map_set];refine List.ext_getElem? fun k=>?_
   rw[List.getElem?_set];by_cases q:i=k
   ·subst q;rw[if_pos rfl,if_pos (by simpa using hlt),List.getElem?_map,List.getElem?_eq_getElem hlt]
    rw[hi _ (List.getElem?_eq_getElem hlt)];rfl
   ·rw[if_neg q]
  rw[hm];exact this
 ·rw[List.getElem?_set] at hj;by_cases q:i=j
  ·subst q;rw[if_pos rfl,if_pos hlt] at hj
   cases hj;exact hp
  ·rw[if_neg q] at hj;exact(h.ps j e hj).step st om (fun q' h1 h2=>by omega)
end
section
open Go.RowKit Go.Proofs.Tryz
theorem jt{S:Nat->Prop}{B r b:Nat}{s:Bk}{vt:Value}{W w':World}{t:Bz}{e:Ending}(h:RB S B r s vt W)(ht:TR W vt b s.toks)(he:e=.returned (.string t))(hb:Bl W w'):RD S B r b W (s,t) e w' :=
 ⟨he,vt,b,h.below hb,ht.below hb,.inl rfl,Chg.below hb⟩
theorem TR.chg{W W':World}{vt:Value}{b r:Nat}{l:List Tk}(h:TR W vt b l)(hc:Chg (fun q=>q=r) W W')(hbr:b≠r):TR W' vt b l:=h.same fun cur q=>hc.block b q.lt hbr
theorem RB.tok{S:Nat->Prop}{B r:Nat}{s:Bk}{vt:Value}{W:World}(h:RB S B r s vt W)(v':Value)(l:List Tk):RB S B r { s with toks:=l } v' (W.setCell (At r 3) v'):=by
 obtain⟨vp,vn,vl,h1,h2,h3,h4⟩:=h;exact⟨vp,vn,vl,h1.set 3 v',h2.set h1,h3.set h1,h4.set h1⟩
theorem RB.blk{S:Nat->Prop}{B r:Nat}{s:Bk}{vt:Value}{W:World}(h:RB S B r s vt W):∃ cs,Blk W r cs 174:=by
 obtain⟨vp,vn,vl,h1,_⟩:=h;exact⟨_,h1⟩
theorem TR.ne{W:World}{v:Value}{b r:Nat}{l:List Tk}{cs:Array Value}{t:TypeId}(h:TR W v b l)(hv:v≠.slice none 0 0)(hb:Blk W r cs t)(ht:t≠216):b≠r:=fun e=>by
 rcases h with⟨rfl,_⟩|⟨off,cap,cur,_,h2,_⟩
 ·exact hv rfl
 ·subst e;unfold Blk at h2 hb;rw[h2] at hb;simp at hb;exact ht hb.2.symm
theorem Aj{S:Nat->Prop}{B r b:Nat}{y:Bk}{vt:Value}{l:List Tk}{W w9 V9 wA:World}(h9:RB S B r y vt w9)(hc9:Chg (fun q=>q=r) W w9)(hb9:Bl w9 V9)(ht:TR w9 vt b l)(hcA:Chg (fun q=>q=b/\vt≠.slice none 0 0) V9 wA)(hr:r<W.heap.size)(hbr:b≠r):
  RB S B r y vt wA/\Chg (fun q=>q=r\/q=b) W wA:=by
 have hV:=h9.below hb9;have tV:=ht.below hb9;have n1:∀ g cur,Blk V9 g cur 282->wA.heap[g]?=V9.heap[g]?:=fun g cur hg=>hcA.block g hg.lt (fun q=>tV.ne q.2 hg dE q.1.symm)
 refine⟨hV.go (hcA.block r hV.lt (fun q=>hbr q.1.symm)) (fun g cur hg hS=>⟨n1 g cur hg,hS⟩),?_⟩
 have c1:Chg (fun q=>q=r\/q=b) W w9:=hc9.mono (fun q e _=>.inl e)
 have c2:Chg (fun q=>q=r\/q=b) W V9:=c1.trans (Chg.below (S:=fun _=>False) hb9) (fun q e=>e.elim)
 exact c2.trans hcA (fun q e=>.inl (.inr e.1))
theorem uM(S:Nat->Prop)(B:Nat)(W:World)(hB:B<=W.heap.size)(r b:Nat)(s:Bk)(vt:Value)(h:RB S B r s vt W)(ht:TR W vt b s.toks)(hbr:b≠r)(I:Inv s)(G:a8 s)(line:Bz):Calls prog 90 #[Pq r,.string line] W (RD S B r b W (doR s line)):=by
 unfold doR;by_cases hl:100<line.size
 ·rw[if_pos hl];exact(AL W r line om).mono fun e w' q=>jt h ht q.1 q.2
 rw[if_neg hl];obtain⟨ls,hls⟩:∃ ls,ax 32 line.data.toList=ls:=⟨_,rfl⟩
 have hs:∀ i,(ls.getD i []).length<=100:=fun i=>by
  rw[<- hls];have h1:=jk 32 line.data.toList i;have h2:line.data.toList.length=line.size:=Array.length_toList
  omega
 have hp1:1<=ls.length:=by rw[<- hls];exact dJ _ _
 have HP:Hid (∀ V,Calls prog 133 #[.string line,.int .u8 32] V fun e w'=>∃ g m cap,e=.returned (Sq g m cap)/\Hid (Wd w' g m ls)/\V.heap.size<=g/\Bl V w'):=fun V=>(iN line 32 32 V rfl om).mono (by
  rintro e w' ⟨v,rfl,q2,q3⟩
  rw[hls] at q2;obtain⟨g,cap,rfl,g1,g2,_,_,g3⟩:=dI q2 hp1;exact⟨g,ls.length,cap,rfl,⟨rfl,g2,g3⟩,g1,q3⟩)
 rw[hls];clear hls;have HQ:Hid (∀ V g m cap,Bl W V->Hid (Wd V g m ls)->Cr prog 134 #[Pq r,Sq g m cap] V (.tuple #[.string ((qR s ls).getD ⟨#[]⟩),.bool (qR s ls).isSome])):=fun V g m cap hV hw=>mr S B V r s vt g cap m ls (h.below hV) hw.o hs (by have:=hw.o.1;omega) I
 have HI:Hid (∀ V g m cap,Bl W V->Hid (Wd V g m ls)->Cr prog 135 #[Sq g m cap] V (.bool (fj ls))):=fun V g m cap hV hw=>AV V g cap m ls hw.o hs
 have hli:¬(100:Int)<(line.size:Int):=by omega
 cases hq:qR s ls with
 | some t =>
  rw[hq] at HQ;exact(Gt W r line ls t true hli HP HQ rfl).mono fun e w' q=>jt h ht q.1 q.2
 | none =>
  rw[hq] at HQ;unfold doQ doC;dsimp only
  cases hc:fj ls with
  | false =>
   rw[hc] at HI;rw[if_neg sM]
   exact(Dm W r line ls _ false false hli HP HQ HI rfl rfl).mono fun e w' q=>jt h ht q.1 q.2
  | true =>
   rw[hc] at HI;rw[if_pos rfl];have h2:2<=ls.length:=by rcases yD hc with⟨_,q,_⟩|⟨_,q,_⟩|⟨_,q,_⟩<;>omega
   have HT:Hid (∀ V,Bl W V->V.cell? (At r 3)=some vt/\r<V.heap.size):=fun V hV=>by
    obtain⟨vp,vn,vl,b1,_⟩:=h.below hV;exact⟨b1.cell 3,b1.lt⟩
   have HS:(∃ ao tc,vt=.slice ao s.toks.length tc/\∀ k,k<s.toks.length->∃ b off,ao=some (At b off)/\∀ V,Bl W V->V.cell? (At b (off+k*3))=some (.string (s.toks.getD k tk0).t)/\V.cell? (At b (off+k*3+1))=some (.string (s.toks.getD k tk0).l)/\V.cell? (At b (off+k*3+2))=some (.string (s.toks.getD k tk0).r)/\b<V.heap.size):=by
    rcases ht with⟨rfl,q⟩|⟨off,cap,cur,rfl,q⟩
    ·exact⟨none,0,by rw[q];rfl,fun k hk=>by rw[q] at hk;simp at hk⟩
    ·refine⟨some (At b off),cap,rfl,fun k hk=>⟨b,off,rfl,fun V hV=>?_⟩⟩
     have htV:TR V (.slice (some (At b off)) s.toks.length cap) b s.toks:=TR.below (.inr ⟨off,cap,cur,rfl,q⟩) hV
     obtain⟨off',cap',e1,e2,e3,e4,e5⟩:=htV.at hk;obtain⟨rfl,rfl⟩:off=off'/\cap=cap':=by simpa using e1
     exact⟨e3,e4,e5,e2⟩
   have XX:XH W r line ls ((none:Option Bz).getD ⟨#[]⟩):=⟨hli,HP,HQ,HI⟩
   have YY:XT W r ls s.toks.length vt (fun k=>s.toks.getD k tk0) (bs (ls.getD 1 [])):=⟨I.t,h2,rfl,HT,HS⟩
   rcases km (bs (ls.getD 1 [])) s.toks with⟨f1,f2⟩|⟨k,f1,f2,f3,f4⟩
   ·rw[f1];show Calls _ _ _ _ (RD S B r b W (doK (bs (ls.getD 1 [])) line (eZ s ls)))
    have htk:(eZ s ls).1.toks=s.toks:=sg _ _ _ _ _ _ _
    have ht2:2<=(eZ s ls).2.size:=vD _ _ _ _ _ _ _
    have HD:Hid (∀ V g m cap,Bl W V->Hid (Wd V g m ls)->Calls prog 136 #[Pq r,Sq g m cap] V fun e w'=>e=.returned (.string (eZ s ls).2)/\Hid (RB S B r (eZ s ls).1 vt w'/\Chg (fun q=>q=r) W w')/\Chg (fun q=>q=r) V w'):=fun V g m cap hV hw=>(wU S B V (Nat.le_trans hB hV.size) r s vt g cap m ls (h.below hV) hw.o hs hc I G).mono fun e w' q=>⟨q.1,⟨q.2.1,(Chg.below hV).trans q.2.2 (fun b e=>.inl e)⟩,q.2.2⟩
    generalize eZ s ls=y at htk ht2 HD
    have hex:(y.2.extract 0 2).toList=y.2.data.toList.take 2:=by
     rw[Lib.toList_data,ByteArray.data_extract];simp
    have HN9:Hid (∀ V,(RB S B r y.1 vt V/\Chg (fun q=>q=r) W V)->V.cell? (At r 3)=some vt/\V.frozen? (At r 3)=false/\r<V.heap.size/\TR V vt b s.toks):=fun V q=>by
     obtain⟨vp,vn,vl,b1,_⟩:=q.1;exact⟨b1.cell 3,b1.frozen 3,b1.lt,ht.chg q.2 hbr⟩
    unfold doK;by_cases hok:y.2.data.toList.take 2=[79,75]
    ·rw[if_pos hok];have hok':((y.2.extract 0 2).toList==[79,75])=true:=by rw[hex,hok];rfl
     refine(uN W r line ls _ s.toks.length vt (fun k=>s.toks.getD k tk0) _ XX YY (fun j hj=>f2 j hj) y.2 _ HD b s.toks rfl h.lt hbr HN9 ht2 true hok').mono ?_
     rintro e w' ⟨rfl,⟨hn,hz⟩|⟨hn',hz⟩⟩
     ·unfold OkT at hz;obtain⟨w9,V9,b',off',cap',wA,⟨d1,d2⟩,d3,d4,d5,d6,d7⟩:=hz;obtain⟨e1,e2⟩:=Aj d1 d2 d3 (ht.chg d2 hbr) d6 h.lt hbr
      obtain⟨cs,hbl⟩:=e1.blk;have hb'r:b'≠r:=d4.ne sM hbl dE
      have hadd:dM y.1.toks ⟨bs (ls.getD 1 []),line,y.2⟩=s.toks++[⟨bs (ls.getD 1 []),line,y.2⟩]:=by unfold dM;rw[htk,if_neg om]
      refine⟨rfl,_,b',(e1.tok _ _).below d7,?_,?_,?_⟩
      ·show TR w' _ b' (dM y.1.toks ⟨bs (ls.getD 1 []),line,y.2⟩)
       rw[hadd];exact(d4.same fun cur q=>Below.heap_setCell wA (At r 3) _ b' hb'r).below d7
      ·rcases d5 with e|e
       ·exact .inl e
       ·exact .inr (Nat.le_trans (Nat.le_trans d2.size d3.size) e)
      ·exact(e2.trans (dO (Below.refl _ _)) (fun q e=>.inl (.inl e))).trans (Chg.below (S:=fun _=>False) d7) (fun q e=>e.elim)
     ·unfold OkU at hz;obtain⟨w9,V9,b',off',cap',wA,⟨d1,d2⟩,d3,d4,d5,d6,d7⟩:=hz;obtain⟨e1,e2⟩:=Aj d1 d2 d3 (ht.chg d2 hbr) d6 h.lt hbr
      obtain⟨cs,hbl⟩:=e1.blk;have hb'r:b'≠r:=d4.ne sM hbl dE
      obtain⟨x0,l0,hx⟩:∃ x0 l0,s.toks=x0::l0:=by
       cases q:s.toks with
       | nil=>rw[q] at hn';simp at hn'
       | cons x0 l0=>exact⟨x0,l0,rfl⟩
      have hadd:dM y.1.toks ⟨bs (ls.getD 1 []),line,y.2⟩=l0++[⟨bs (ls.getD 1 []),line,y.2⟩]:=by unfold dM;rw[htk,if_pos om,hx];rfl
      have hl0:(l0++[(⟨bs (ls.getD 1 []),line,y.2⟩:Tk)]).length=s.toks.length:=by rw[hx];simp
      rw[hx,List.cons_append] at d4;obtain⟨_,_,d4t⟩:=d4.tail;rw[hl0] at d4t;refine⟨rfl,_,b',((e1.tok _ s.toks).tok _ _).below d7,?_,?_,?_⟩
      ·show TR w' _ b' (dM y.1.toks ⟨bs (ls.getD 1 []),line,y.2⟩)
       rw[hadd];exact((d4t.same fun cur q=>Below.heap_setCell wA (At r 3) _ b' hb'r).same fun cur q=>Below.heap_setCell _ (At r 3) _ b' hb'r).below d7
      ·rcases d5 with e|e
       ·exact .inl e
       ·exact .inr (Nat.le_trans (Nat.le_trans d2.size d3.size) e)
      ·exact((e2.trans (dO (Below.refl _ _)) (fun q e=>.inl (.inl e))).trans (dO (Below.refl _ _)) (fun q e=>.inl (.inl e))).trans (Chg.below (S:=fun _=>False) d7) (fun q e=>e.elim)
    ·rw[if_neg hok];have hok':((y.2.extract 0 2).toList==[79,75])=false:=by rw[hex];simpa using hok
     refine(uN W r line ls _ s.toks.length vt (fun k=>s.toks.getD k tk0) _ XX YY (fun j hj=>f2 j hj) y.2 _ HD b s.toks rfl h.lt hbr HN9 ht2 false hok').mono ?_
     rintro e w' ⟨rfl,w9,⟨d1,d2⟩,d3⟩
     exact⟨rfl,vt,b,d1.below d3,by rw[htk];exact(ht.chg d2 hbr).below d3,.inl rfl,((d2.mono (fun q e _=>.inl e)).trans (Chg.below (S:=fun _=>False) d3) (fun q e=>e.elim))⟩
   ·rw[f2];have hres:doT s line ls (some (s.toks.getD k tk0))=(s,if (s.toks.getD k tk0).l=line then (s.toks.getD k tk0).r else ⟨#[69,82,82,32,84,79,75,69,78]⟩):=by
     unfold doT;dsimp only;split<;>rfl
    rw[hres];exact(Dp W r line ls _ s.toks.length vt (fun k=>s.toks.getD k tk0) _ XX YY k f1 (fun j hj=>f4 j hj) f3 _ rfl).mono fun e w' q=>jt h ht q.1 q.2
theorem Gu{ρ:Nat->Nat}{j:Nat}{W:World}{r:Nat}{s:Bk}(h:Rk ρ j W r s)(hc:cO ρ W)(K:Kp s)(line:Bz):Calls prog 90 #[Pq r,.string line] W fun e W'=>e=.returned (.string (bg s line).2)/\∃ ρ',Rk ρ' j W' r (bg s line).1/\Stp (fun q=>q=8*j+13\/q=8*j+14) ρ ρ' W W':=by
 obtain⟨b,vt,a1,a2,a3⟩:=h.bk;rw[<- Cx K.good line];by_cases hbr:b=r
 ·subst hbr;have hn:vt=.slice none 0 0/\s.toks=[]:=by
   rcases a2 with q|⟨off,cap,cur,_,q,_⟩
   ·exact q
   ·obtain⟨cs,hb⟩:=a1.blk;exact absurd rfl (TR.ne (v:=Sq b 0 0) (b:=b) (l:=[]) (.inr ⟨0,0,cur,rfl,q,by simp,by unfold maxLen;omega,by omega,fun j u hj=>by simp at hj⟩) sM hb dE)
  have hlt:=a1.lt;refine(uM (fun q=>ρ q=0) W.heap.size W (Nat.le_refl _) b W.heap.size s vt a1 (.inl hn) om K.inv K.good line).mono ?_
  rintro e W' ⟨rfl,vt',b',d1,d2,d3,d4⟩
  exact⟨rfl,Rk.did (b:=b) (s:=s) hc h.rr hlt (.inl rfl) d1 d2 (.inr (by rcases d3 with e|e<;>omega)) (d4.mono fun q e hq=>by rcases e with e|e;exact .inl e;omega)⟩
 ·have a3':b<W.heap.size/\ρ b=8*j+14:=by rcases a3 with e|e;exact absurd e hbr;exact e
  refine(uM (fun q=>ρ q=0) W.heap.size W (Nat.le_refl _) r b s vt a1 a2 hbr K.inv K.good line).mono ?_
  rintro e W' ⟨rfl,vt',b',d1,d2,d3,d4⟩
  exact⟨rfl,Rk.did (b:=b) (s:=s) hc h.rr a1.lt (.inr a3') d1 d2 d3 d4⟩
end
section
open Go.ChangeShapes Go.WideShapes Go.ChangeAt Go.RowKit Go.Proofs.Tryz
theorem Ew(W:World)(p x r:Nat)(line a:Bz)(D0 D1 D2 D3:World->Prop)(m mc:Nat)
  (h0:Hid (D0 W)) (B0:Hid (∀ V V',D0 V->Bl V V'->D0 V')) (B1:Hid (∀ V V',D1 V->Bl V V'->D1 V')) (B2:Hid (∀ V V',D2 V->Bl V V'->D2 V'))
  (C0:Hid (∀ V,D0 V->V.cell? (At p 0)=some (Pq x)/\p<V.heap.size))
  (C1:Hid (∀ V,D1 V->V.cell? (At p 2)=some (Sq m 1 mc)/\V.cell? (At m 0)=some (Pq r)/\p<V.heap.size/\m<V.heap.size))
  (C2:Hid (∀ V,D2 V->V.cell? (At p 2)=some (Sq m 1 mc)/\V.cell? (At m 0)=some (Pq r)/\p<V.heap.size/\m<V.heap.size/\V.frozen? (At p 2)=false/\V.cell? (At p 4)=some (.bool false)))
  (HX:Hid (∀ V,D0 V->Calls prog 16 #[Pq x,.string line] V fun e w'=>e=.returned (.string a)/\Hid (D1 w')))
  (HR:Hid (∀ V,D1 V->Calls prog 90 #[Pq r,.string line] V fun e w'=>e=.returned (.string a)/\Hid (D2 w')))
  (HF:Hid (∀ V0 V g cap,D2 V0->Bl V0 V->V0.heap.size<=g->g<V.heap.size->V.cell? (At g 0)=some (Pq r)->D3 (V.setCell (At p 2) (Sq g 1 cap))))
  (ha:(a.toList==[])=false) (haa:(a.toList==a.toList)=true) :
  Calls prog 54 #[Pq p,.string line] W fun e w'=>e=.returned (.bool true)/\D3 w':=by
 obtain⟨c0,cp⟩:=C0.o W h0.o;go_enter func54,ntmps54
 go_wp2_with ((go_at_call 16;refine Mo (HX.o _ (B0.o _ _ h0.o upB)) fun w1 h1=>?_;obtain⟨q2,qm,qp,qz⟩:=C1.o w1 h1.o))
 go_loopw [6,7] (fun l i wr=>(i=I6 0/\l=.slice none 0 0/\Hid (D1 wr))\/(i=I6 1/\∃ g cap V0,l=Sq g 1 cap/\Hid (D2 V0/\Bl V0 wr/\V0.heap.size<=g/\g<wr.heap.size/\wr.cell? (At g 0)=some (Pq r)))) (fun _ i _=>2-(intOf i).toNat)
 case atStart=>exact .inl ⟨by go_num,rfl,(show D1 _ from B1.o _ _ h1.o upB)⟩
 case round =>
  clear q2 qm qp qz h1;rcases hrel with⟨rfl,rfl,h1⟩|⟨rfl,g,cap,V0,rfl,hh⟩
  ·obtain⟨q2,qm,qp,qz⟩:=C1.o wr h1.o;go_wp2_with ((go_at_call 90;refine Mo (HR.o _ (B1.o _ _ h1.o upB)) fun w2 h2=>?_;obtain⟨r2,rm,rp,rz,rf,r4⟩:=C2.o w2 h2.o))
   have hW:D2 w2:=h2.o
   refine⟨.inr ⟨rfl,w2.heap.size+1,_,w2,rfl,(show _/\_ from ⟨hW,upB,by omega,by simp,?_⟩)⟩,by simp[intOf]⟩
   simp[go_sem]
   rw[Array.getElem?_append_left sM]
   rfl
  ·obtain⟨k1,k2,k3,k4,k5⟩:=hh.o;obtain⟨r2,rm,rp,rz,rf,r4⟩:=C2.o wr (B2.o _ _ k1 k2)
   have HK:Hid (D3 (wr.setCell (At p 2) (Sq g 1 cap))):=HF.o V0 wr g cap k1 k2 k3 k4 k5
   clear hh k1 k2 k3 k4 k5 HF HR HX B0 B1 B2 C0 C1 C2 h0;go_wp2;go_ret;exact⟨rfl,HK.o⟩
end
section
open Go.RowKit Go.Proofs.Tryz
theorem jB(x:An):(⟨(aG x).toArray⟩:Bz).data.toList≠[]:=by
 show aG x≠[]
 unfold aG;split<;>simp
theorem xU{l:List Tk}{x y:Tk}(h:y∈dM l x):y∈l\/y=x:=by
 unfold dM at h;rcases List.mem_append.1 h with q|q
 ·split at q
  ·exact .inl (List.mem_of_mem_drop q)
  ·exact .inl q
 ·exact .inr (List.mem_singleton.1 q)
theorem FX{s:Bk}(h:TkW s)(L:Bz):(bg s L).2.data.toList≠[]/\TkW (bg s L).1:=by
 have ht:∀ l,TkW (aH s l).1:=fun l x hx=>by rw[zO] at hx;exact h x hx
 unfold bg
 cases e:aE L.data.toList with
 | none=>exact⟨jB _,h⟩
 | some l =>
  dsimp only;by_cases hv:l.v<8
  ·rw[if_pos hv]
   cases hf:cX s.toks l.t with
   | none =>
    dsimp only;by_cases he:(aH s l).2.e=0
    ·rw[if_pos he];refine⟨jB _,fun y hy=>?_⟩
     rcases xU hy with q|rfl
     ·exact ht l y q
     ·exact jB _
    ·rw[if_neg he];exact⟨jB _,ht l⟩
   | some x =>
    dsimp only;have hx:x∈s.toks:=by
     unfold cX at hf;exact(List.mem_filter.1 (List.mem_of_mem_head? hf)).1
    split
    ·exact⟨jB _,h⟩
    ·exact⟨h x hx,h⟩
  ·rw[if_neg hv];exact⟨jB _,ht l⟩
theorem yb{s:Bk}(h:TkW s)(line:Bz):((bg s line).2.toList==[])=false:=by
 have:=(FX h line).1
 rw[Lib.toList_data];simpa using this
theorem Cv{w:World}{ρ:Nat->Nat}{W:World}{wb:Nat}{L:List Pe}{i:Nat}{e:Pe}(h:Ws w ρ W wb L)(he:L[i]?=some e)(E:di w)(hZ:10<=w.heap.size)(line:Bz):Calls prog 54 #[Pq e.p,.string line] W fun r w'=>r=.returned (.bool true)/\∃ ρ' L',Ws w ρ' w' wb L'/\L'.length=L.length:=by
 have P:=h.ps i e he;have hlt:i<L.length:=(List.getElem?_eq_some_iff.1 he).1
 obtain⟨m,mc,hm⟩:=P.blk;have K:=P.hb.kp;have st0:∀ V,Bl W V->Stp (fun _=>False) ρ ρ W V:=fun V hV=>Stp.below h.cl hV
 have hG:∀ {ρ':Nat->Nat} {R:Nat->Prop} {V:World},Stp R ρ ρ' W V->∀ q,ρ' q≠0->10<=q:=fun st q hq=>Nat.le_trans hZ (st.roW h.low h.ro q hq)
 have n0:¬ROk (2*i+2) 0:=by unfold ROk;omega
 have n15:¬ROk (2*i+2) (8*i+15):=by unfold ROk;omega
 refine(Ew W e.p e.x e.r line (bg e.s line).2 (fun V=>Bl W V)
  (fun V=>∃ ρ',Stp (ROk (2*i+2)) ρ ρ' W V/\Hb ρ' (2*i+2) V e.x e.d (bg e.s line).1)
  (fun V=>∃ ρ',Stp (fun q=>8*i+9<=q/\q<=8*i+14) ρ ρ' W V/\Hb ρ' (2*i+2) V e.x e.d (bg e.s line).1/\Rk ρ' i V e.r (bg e.s line).1)
  (fun V=>∃ ρ',Stp (fun q=>8*i+9<=q/\q<=8*i+15) ρ ρ' W V/\Pt ρ' i V { e with s:=(bg e.s line).1 }) m mc (Below.refl _ _) ?_ ?_ ?_ ?_ ?_ ?_ ?_ ?_ ?_ (yb P.tn line) sM).mono ?_
 ·exact fun V V' a b=>a.trans (b.mono a.size)
 ·rintro V V' ⟨ρ',a1,a2⟩ hb
  have s2:Stp (fun _=>False) ρ' ρ' V V':=Stp.below a1.clean hb
  exact⟨ρ',a1.trans (s2.mono fun _ q=>q.elim),a2.calm s2⟩
 ·rintro V V' ⟨ρ',a1,a2,a3⟩ hb
  have s2:Stp (fun _=>False) ρ' ρ' V V':=Stp.below a1.clean hb
  exact⟨ρ',a1.trans (s2.mono fun _ q=>q.elim),a2.calm s2,a3.step s2 (fun q=>q) (fun q=>q) (fun q=>q)⟩
 ·intro V hV;have:=(lO (st0 V hV) (fun q=>q) (fun q=>q) P.rp hm).1
  exact⟨this.cell 0,this.lt⟩
 ·rintro V ⟨ρ',a1,a2⟩
  obtain⟨b1,b2,b3,b4⟩:=lO a1 n0 n15 P.rp hm;exact⟨b1.cell 2,b2,b1.lt,b3⟩
 ·rintro V ⟨ρ',a1,a2,a3⟩
  obtain⟨b1,b2,b3,b4⟩:=lO a1 om om P.rp hm;exact⟨b1.cell 2,b2,b1.lt,b3,b1.frozen 2,b1.cell 4⟩
 ·intro V hV;have s1:=st0 V hV;refine(Ex (P.hb.calm s1) line (E.mono (s1.lowW h.low h.ro (fun q=>q))) (hG s1) (Nat.le_trans hZ (Nat.le_trans h.low.size s1.size))).mono ?_
  rintro e' w' ⟨rfl,ρ',a1,a2⟩
  exact⟨rfl,ρ',(s1.mono fun _ q=>q.elim).trans a2,a1⟩
 ·rintro V ⟨ρ',a1,a2⟩
  have rk':=P.rk.step a1 n0 (by unfold ROk;omega) (by unfold ROk;omega)
  refine(Gu rk' a1.clean K line).mono ?_
  rintro e' w' ⟨rfl,ρ2,c1,c2⟩
  refine⟨rfl,ρ2,(a1.mono fun q hq=>by unfold ROk at hq;omega).trans (c2.mono fun q hq=>by omega),a2.other c2 om om om om om,c1⟩
 ·rintro V0 V g cap ⟨ρ',a1,a2,a3⟩ hV hg1 hg2 hg3
  have s2:Stp (fun _=>False) ρ' ρ' V0 V:=Stp.below a1.clean hV
  have s12:Stp (fun q=>8*i+9<=q/\q<=8*i+14) ρ ρ' W V:=a1.trans (s2.mono fun _ q=>q.elim)
  obtain⟨b1,b2,b3,b4⟩:=lO s12 om om P.rp hm;have hrp:ρ' e.p=8*i+15:=(s12.role e.p hm.1.lt).trans P.rp
  have hg0:ρ' g=0:=a1.clean g hg1
  have hpg:g≠e.p:=fun q=>by rw[q,hrp] at hg0;omega
  have s3:Stp (fun q=>q=8*i+15) ρ' ρ' V (V.setCell (At e.p 2) (Sq g 1 cap)):=Stp.set s12.clean hrp 2 _
  refine⟨ρ',(s12.mono fun q hq=>by omega).trans (s3.mono fun q hq=>by omega),⟨g,cap,b1.set 2 _,?_,?_,hg0⟩,(a2.calm s2).other s3 om om om om om,(a3.step s2 (fun q=>q) (fun q=>q) (fun q=>q)).step s3 om om om,hrp,(FX P.tn line).2⟩
  ·exact(World.cell?_of_block (a:=At g 0) (s3.block g hg2 (by rw[hg0];omega))).trans hg3
  ·exact Nat.lt_of_lt_of_le hg2 s3.size
 ·rintro r w' ⟨rfl,ρ',a1,a2⟩
  refine⟨rfl,ρ',L.set i { e with s:=(bg e.s line).1 },h.by a1 (fun e' he'=>?_) a2 hlt,by simp⟩
  rw[he] at he'
  cases he';rfl
end
section
open Go.ChangeShapes Go.WideShapes Go.ChangeAt Go.RowKit Go.Proofs.Tryz
theorem ED:(prog.info? 120).map (fun i=>(i.zero,i.size,i.bytes))=some (some (.pointer none),1,8):=by kernel_rfl
theorem zQ(w:World):Calls prog 51 #[I6 0] w fun e w'=>e=.returned (I6 0)/\w'=w:=by
 go_enter func51,ntmps51
 go_wp2;go_ret;exact⟨rfl,rfl⟩
theorem AX(w:World):Calls prog 52 #[] w fun e w'=>e=.returned (Pq w.heap.size)/\w'=w.alloc (.cells #[.slice none 0 0,.slice none 0 0,.slice none 0 0,.slice none 0 0] 174):=by
 go_enter func52,ntmps52
 go_wp2;go_ret;exact⟨rfl,rfl⟩
def VA(V:World)(x d:Nat):World:=(((V.alloc (.cells #[.slice none 0 0,.slice none 0 0,.slice none 0 0,.slice none 0 0] 174)).alloc (.cells #[Pq V.heap.size] 118)).alloc (.cells #[Pq x,Pq d,Sq (V.heap.size+1) 1 1,.slice none 0 0,.bool false,.bool false] 123)).alloc (.cells #[Pq (V.heap.size+1+1)] 120)
theorem DQ(V:World)(x d:Nat):(VA V x d).heap.size=V.heap.size+1+1+1+1:=by simp[VA]
theorem FM(V:World)(x d:Nat):(VA V x d).heap[V.heap.size+1+1+1]?=some (.cells #[Pq (V.heap.size+1+1)] 120 (0,0)):=by
 have h:=heap_alloc_new (((V.alloc (.cells #[.slice none 0 0,.slice none 0 0,.slice none 0 0,.slice none 0 0] 174)).alloc (.cells #[Pq V.heap.size] 118)).alloc (.cells #[Pq x,Pq d,Sq (V.heap.size+1) 1 1,.slice none 0 0,.bool false,.bool false] 123)) (.cells #[Pq (V.heap.size+1+1)] 120)
 rw[World.size_alloc,World.size_alloc,World.size_alloc] at h;exact h
theorem fg(V:World)(x d:Nat):Bl V (VA V x d):=by
 unfold VA;exact((((Below.refl _ V).alloc (Nat.le_refl _) _).alloc sM _).alloc (by simp;omega) _).alloc (by simp;omega) _
theorem De(q:Option Addr):∀ u∈[Value.pointer q],u.oneCell'=true:=by intro u hu;rw[List.mem_singleton] at hu;subst hu;rfl
theorem wF(W:World)(wb:Nat)(vl v:Value)(n:Nat)(ps:List Value)(hn:n<=4194304)(O1 O2:Nat->World->Prop)(O3:Nat->Nat->World->Prop)(Fin:World->Prop)
  (HN:Hid (∀ V,Bl W V->Calls prog 34 #[] V fun e w'=>∃ d,e=.returned (Pq d)/\Hid (O1 d w')))
  (HS:Hid (∀ V d,O1 d V->Calls prog 30 #[Pq d,I6 (-1)] V fun e w'=>e=.returned (.tuple #[])/\Hid (O2 d w')))
  (HT:Hid (∀ V d,O2 d V->Calls prog 31 #[Pq d] V fun e w'=>e=.returned (.bool false)/\Hid (O2 d w')))
  (HO:Hid (∀ V d,O2 d V->Calls prog 27 #[Pq d] V fun e w'=>∃ x,e=.returned (.tuple #[Pq x,I6 0])/\Hid (O3 d x w')))
  (C3:Hid (∀ V d x,O3 d x V->V.cell? (At wb 0)=some v/\V.frozen? (At wb 0)=false/\wb<V.heap.size/\V.ownsRow 0 120 1 v n ps/\some wb≠v.ownBlock))
  (HF:Hid (∀ d x V g cap wA,O3 d x V->wA.ownsRow 0 120 1 (Sq g (n+1) cap) (n+1) (ps++[Pq (V.heap.size+1+1)])->(VA V x d).grownBy wA v.ownBlock->(v.ownBlock=some g\/g=V.heap.size+1+1+1+1)->g<wA.heap.size->Fin (wA.setCell (At wb 0) (Sq g (n+1) cap)))) :
  Calls prog 32 #[Pq wb,I6 (-1),vl] W fun e w'=>e=.returned (.bool true)/\Fin w':=by
 have HM:Hid (∀ V,Calls prog 51 #[I6 0] V fun e w'=>e=.returned (I6 0)/\w'=V):=fun V=>zQ V
 have HR:Hid (∀ V,Calls prog 52 #[] V fun e w'=>e=.returned (Pq V.heap.size)/\w'=V.alloc (.cells #[.slice none 0 0,.slice none 0 0,.slice none 0 0,.slice none 0 0] 174)):=fun V=>AX V
 obtain⟨i0,hi,hz0,hz1,hz2⟩:=info_parts ED;go_enter func32,ntmps32
 go_wp2_with (first
  | (go_at_call 34;refine(HN.o _ upB).mono ?_;rintro e w1 ⟨d,rfl,h1⟩)
  | (go_at_call 30;refine(HS.o _ d h1.o).mono ?_;rintro e w2 ⟨rfl,h2⟩)
  | (go_at_call 31;refine(HT.o _ d h2.o).mono ?_;rintro e w3 ⟨rfl,h3⟩)
  | (go_at_call 27;refine(HO.o _ d h3.o).mono ?_;rintro e w4 ⟨x,rfl,h4⟩;obtain⟨c0,cf,cl,cow,cne⟩:=C3.o _ _ _ h4.o;have HCO:Hid (w4.ownsRow 0 120 1 v n ps):=cow;have HNE:Hid (some wb≠v.ownBlock):=cne;clear cow cne)
  | (go_at_call 51;refine Mo (HM.o _) fun w5 hq=>?_;obtain rfl:w4=w5:=hq.symm)
  | (go_at_call 52;refine(HR.o _).mono ?_;rintro e w6 ⟨rfl,rfl⟩)
  | (at_builtin;refine wpList_append_lies _ rfl _ _ 66 rfl 0 120 i0 _ 1 8 underlying66 hi hz0 hz1 hz2 rfl dE v n ps rfl (av HCO.o upB) (At (w4.heap.size+1+1+1) 0) 1 1 [Pq (w4.heap.size+1+1)] rfl rfl (World.news_of_block (FM w4 x d)) (De _) om (by unfold maxLen;omega) om om (w4.heap.size+1+1+1+1) (by first|rfl|(simp;done)|fail "size") ?_;intro g cap wA hown hgrow hat hlt;have HK:Hid (Fin (wA.setCell (At wb 0) (Sq g (n+1) cap))):=(HF.o d x w4 g cap wA h4.o hown hgrow hat hlt);have k0:wA.cell? (At wb 0)=some v:=((hgrow.cell_far (At wb 0) (by first|(simp;omega)|omega) HNE.o).trans ((fg w4 x d).cell (p:=At wb 0) cl)).trans c0;have kf:wA.frozen? (At wb 0)=false:=((hgrow.frozen_far (At wb 0) (by first|(simp;omega)|omega) HNE.o).trans (World.frozen?_of_block (a:=At wb 0) ((fg w4 x d).block wb cl))).trans cf;have kl:wb<wA.heap.size:=block_lt_of_cell k0;clear hown hgrow hat hlt))
 go_ret;exact⟨rfl,HK.o⟩
end
section
open Go.RowKit Go.Proofs.Tryz
theorem Bn(ρ:Nat->Nat)(k:Nat)(w:World)(g:Nat)(A:PD)(n:Int)(hc:cO ρ w)(n0:-9223372036854775808<=n)(n1:n<9223372036854775808)(h:DAt ρ k w g A):Calls prog 30 #[Pq g,I6 n] w fun e w'=>e=.returned (.tuple #[])/\DAt ρ k w' g { A with left:=ku A.left A.st n }/\Stp (RDk k) ρ ρ w w':=by
 obtain⟨hr,vs,vn,vl,hb,hs,hn,hl⟩:=h;refine(FC w g vs vn vl A.left n A.st n0 n1 hb).mono (fun e w' hq=>⟨hq.1,?_,Stp.upd hc hq.2 (.inl hr)⟩)
 have S:Stp (fun r=>r=4*k+1) ρ ρ w w':=Stp.upd hc hq.2 hr
 exact⟨hr,vs,vn,vl,hq.2.blk,hs.step S om,hn.step S om,hl.step S om⟩
theorem rj(ρ:Nat->Nat)(k:Nat)(w:World)(g:Nat)(A:PD)(h:DAt ρ k w g A):Calls prog 31 #[Pq g] w fun e w'=>e=.returned (.bool (stS A.left A.st))/\w'=w:=by
 obtain⟨hr,vs,vn,vl,hb,hs,hn,hl⟩:=h;exact j7 w g vs vn vl A.left A.st hb
theorem FK(V:World)(x d:Nat):Blk (VA V x d) V.heap.size #[.slice none 0 0,.slice none 0 0,.slice none 0 0,.slice none 0 0] 174/\Blk (VA V x d) (V.heap.size+1) #[Pq V.heap.size] 118/\Blk (VA V x d) (V.heap.size+1+1) #[Pq x,Pq d,Sq (V.heap.size+1) 1 1,.slice none 0 0,.bool false,.bool false] 123:=by
 unfold VA;have z1:=Blk.new V #[.slice none 0 0,.slice none 0 0,.slice none 0 0,.slice none 0 0] 174
 have z2:=Blk.new (V.alloc (.cells #[.slice none 0 0,.slice none 0 0,.slice none 0 0,.slice none 0 0] 174)) #[Pq V.heap.size] 118
 have z3:=Blk.new ((V.alloc (.cells #[.slice none 0 0,.slice none 0 0,.slice none 0 0,.slice none 0 0] 174)).alloc (.cells #[Pq V.heap.size] 118)) #[Pq x,Pq d,Sq (V.heap.size+1) 1 1,.slice none 0 0,.bool false,.bool false] 123
 rw[World.size_alloc] at z2;rw[World.size_alloc,World.size_alloc] at z3;exact⟨((z1.alloc _).alloc _).alloc _,(z2.alloc _).alloc _,z3.alloc _⟩
theorem sK(S:Nat->Prop)(B:Nat)(W:World):HL S B W (.slice none 0 0) []:=⟨⟨rfl,.inl ⟨rfl,rfl⟩⟩,fun g hg=>by simp[Value.ownBlock] at hg⟩
theorem Fw{ρ:Nat->Nat}{j:Nat}{W:World}{r:Nat}(h:Blk W r #[.slice none 0 0,.slice none 0 0,.slice none 0 0,.slice none 0 0] 174)(hr:ρ r=8*j+13):Rk ρ j W r bk0 :=
 ⟨⟨r,.slice none 0 0,⟨_,_,_,h,sK _ _ _,sK _ _ _,sK _ _ _⟩,.inl ⟨rfl,rfl⟩,.inl rfl⟩,hr⟩
theorem DW{w:World}{ρ ρ':Nat->Nat}{W V wA:World}{wb d x g cap:Nat}{L:List Pe}{v:Value}(h:Ws w ρ W wb L)(hv:Blk W wb #[v] 68/\W.ownsRow 0 120 1 v L.length (L.map fun e=>Value.pointer (some (At e.p 0)))/\∀ g,v.ownBlock=some g->ρ g=1)
  (st:Stp (RDk (2*L.length+2)) ρ ρ' W V) (hb:Hb ρ' (2*L.length+2) V x d bk0)
  (hown:wA.ownsRow 0 120 1 (Sq g (L.length+1) cap) (L.length+1) ((L.map fun e=>Value.pointer (some (At e.p 0)))++[Pq (V.heap.size+1+1)])) (hgr:(VA V x d).grownBy wA v.ownBlock) (hat:v.ownBlock=some g\/g=V.heap.size+1+1+1+1) (hlt:g<wA.heap.size) :
  ∃ ρ2 L',Ws w ρ2 (wA.setCell (At wb 0) (Sq g (L.length+1) cap)) wb L'/\L'.length=L.length+1:=by
 obtain⟨v1,v2,v3⟩:=hv;obtain⟨j,hj⟩:∃ j,L.length=j:=⟨_,rfl⟩
 have hsz:=DQ V x d;have rdk:∀ q,RDk (2*L.length+2) q->8*j+9<=q/\q<=8*j+12:=fun q hq=>by unfold RDk at hq;omega
 have wbl:wb<V.heap.size:=Nat.lt_of_lt_of_le v1.lt st.size
 have rwb:ρ' wb=2:=(st.role wb v1.lt).trans h.rw
 have vrow:∀ b,v.ownBlock=some b->b<V.heap.size/\ρ' b=1:=fun b hb=>⟨Nat.lt_of_lt_of_le (v2.lt b hb).2 st.size,(st.role b (v2.lt b hb).2).trans (v3 b hb)⟩
 obtain⟨ρ1,hρ1⟩:∃ ρ1,ru (ru ρ' V.heap.size (8*j+13)) (V.heap.size+1+1) (8*j+15)=ρ1:=⟨_,rfl⟩
 have o1:∀ q,q≠V.heap.size->q≠V.heap.size+1+1->ρ1 q=ρ' q:=fun q a b=>by rw[<- hρ1,fS _ _ _ b,fS _ _ _ a]
 have rr:ρ1 V.heap.size=8*j+13:=by rw[<- hρ1,fS _ _ _ om,jw]
 have rp:ρ1 (V.heap.size+1+1)=8*j+15:=by rw[<- hρ1,jw]
 have s1:Stp (fun _=>False) ρ' ρ1 V (VA V x d):=⟨(fg V x d).os,(fg V x d).tape,(fg V x d).output,(fg V x d).size,fun q hq=>o1 q om om,fun q hq _=>(fg V x d).block q hq,fun q hq=>by rw[hsz] at hq;exact(o1 q om om).trans (st.clean q om)⟩
 have s2:Stp (fun q=>q=1) ρ1 (ru ρ1 g 1) (VA V x d) wA:=Stp.grown s1.clean hgr (fun b hb=>by obtain⟨a1,a2⟩:=vrow b hb;exact(o1 b om om).trans a2) rfl (by rcases hat with e|e;exact .inl e;exact .inr (by rw[hsz];exact e)) hlt
 obtain⟨ρ2,hρ2⟩:∃ ρ2,ru ρ1 g 1=ρ2:=⟨_,rfl⟩
 rw[hρ2] at s2;have rg:ρ2 g=1:=by rw[<- hρ2,jw]
 have rwb1:ρ1 wb=2:=(o1 wb om om).trans rwb
 have wblA:wb<(VA V x d).heap.size:=by omega
 have rwb2:ρ2 wb=2:=(s2.role wb wblA).trans rwb1
 have s3:Stp (fun q=>q=2) ρ2 ρ2 wA (wA.setCell (At wb 0) (Sq g (L.length+1) cap)):=Stp.set s2.clean rwb2 0 _
 have hgw:g≠wb:=fun e=>by rw[e,rwb2] at rg;omega
 have sA:Stp (fun q=>q=1\/q=2) ρ' ρ2 V (wA.setCell (At wb 0) (Sq g (L.length+1) cap)):=((s1.mono fun _ q=>q.elim).trans (s2.mono fun _ q=>.inl q)).trans (s3.mono fun _ q=>.inr q)
 have s23:Stp (fun q=>q=1\/q=2) ρ1 ρ2 (VA V x d) (wA.setCell (At wb 0) (Sq g (L.length+1) cap)):=(s2.mono fun _ q=>.inl q).trans (s3.mono fun _ q=>.inr q)
 have sW:Stp (fun q=>RDk (2*L.length+2) q\/q=1\/q=2) ρ ρ2 W (wA.setCell (At wb 0) (Sq g (L.length+1) cap)):=(st.mono fun _ q=>.inl q).trans (sA.mono fun _ q=>.inr q)
 have bwb:Blk wA wb #[v] 68:=((v1.step st (by rw[h.rw];intro q;have:=rdk _ q;omega)).step s1 (fun q=>q)).step s2 (by rw[rwb1];omega)
 obtain⟨k1,k2,k3⟩:=FK V x d;have rm0:ρ1 (V.heap.size+1)=0:=(o1 _ om om).trans (st.clean _ om)
 refine⟨ρ2,L++[⟨V.heap.size+1+1,x,d,V.heap.size,bk0⟩],⟨⟨_,bwb.set 0 _,?_,fun g' hg'=>?_⟩,(s3.role wb bwb.lt).trans rwb2,fun i e hi=>?_,s3.clean,sW.lowW h.low h.ro (fun q=>by rcases q with q|q;have:=rdk _ q;omega;omega),sW.roW h.low h.ro⟩,by simp⟩
 ·rw[List.length_append,List.length_singleton,List.map_append];exact aL hown fun b hb=>by
   obtain rfl:g=b:=by simpa[Value.ownBlock] using hb
   exact Below.heap_setCell wA (At wb 0) _ g hgw
 ·obtain rfl:g=g':=by simpa[Value.ownBlock] using hg'
  exact rg
 ·rcases Nat.lt_or_ge i L.length with q|q
  ·rw[List.getElem?_append_left q] at hi;exact(h.ps i e hi).step sW (fun q=>by rcases q with q|q;have:=rdk _ q;omega;omega) (fun r r1 r2 hr=>by rcases hr with hr|hr;have:=rdk _ hr;omega;omega)
  ·have hi':i=j:=by
    have:=(List.getElem?_eq_some_iff.1 hi).1
    simp at this;omega
   subst hi';rw[List.getElem?_append_right om,hj,Nat.sub_self] at hi
   cases hi;rw[hj] at hb;refine⟨⟨V.heap.size+1,1,k3.step s23 (by rw[rp];omega),?_,?_,?_⟩,?_,?_,?_,fun y hy=>by cases hy⟩
   ·exact(World.cell?_of_block (a:=At (V.heap.size+1) 0) (s23.block (V.heap.size+1) k2.lt (by rw[rm0];omega))).trans (k2.cell 0)
   ·exact Nat.lt_of_lt_of_le k2.lt s23.size
   ·rw[s23.role _ k2.lt,o1 _ om om];exact st.clean _ om
   ·exact hb.other sA om om om om om
   ·exact(Fw k1 rr).step s23 om om om
   ·rw[s23.role _ k3.lt];exact rp
theorem ky{w:World}{ρ:Nat->Nat}{W:World}{wb:Nat}{L:List Pe}(h:Ws w ρ W wb L)(E:di w)(hZ:10<=w.heap.size)(hn:L.length<=4194304)(vl:Value):Calls prog 32 #[Pq wb,I6 (-1),vl] W fun r w'=>r=.returned (.bool true)/\∃ ρ' L',Ws w ρ' w' wb L'/\L'.length=L.length+1:=by
 obtain⟨v,v1,v2,v3⟩:=h.blk;have rd0:∀ q,RDk (2*L.length+2) q->9<=q:=fun q hq=>by unfold RDk at hq;omega
 refine wF W wb vl v L.length (L.map fun e=>Value.pointer (some (At e.p 0))) hn
  (fun d V=>∃ ρ',Stp (RDk (2*L.length+2)) ρ ρ' W V/\DAt ρ' (2*L.length+2) V d ⟨[],[],[],-1,false⟩)
  (fun d V=>∃ ρ',Stp (RDk (2*L.length+2)) ρ ρ' W V/\DkH ρ' (2*L.length+2) V d (cr bk0))
  (fun d x V=>∃ ρ',Stp (RDk (2*L.length+2)) ρ ρ' W V/\Hb ρ' (2*L.length+2) V x d bk0)
  (fun V=>∃ ρ' L',Ws w ρ' V wb L'/\L'.length=L.length+1) ?_ ?_ ?_ ?_ ?_ ?_
 ·intro V hV;have s1:Stp (RDk (2*L.length+2)) ρ ρ W V:=Stp.below h.cl hV
  refine(Gl V).mono ?_
  rintro e w' ⟨rfl,rfl⟩
  exact⟨_,rfl,_,s1.trans (Stp.alloc s1.clean _ (4*(2*L.length+2)+1)),yL ρ _ V⟩
 ·rintro V d ⟨ρ',a1,a2⟩
  refine(Bn ρ' _ V d _ (-1) a1.clean dE dE a2).mono ?_
  rintro e w' ⟨rfl,b1,b2⟩
  exact⟨rfl,ρ',a1.trans b2,⟨_,b1,⟨rfl,rfl⟩,by rw[GH];exact Da⟩⟩
 ·rintro V d ⟨ρ',a1,⟨A,b1,b2,b3⟩⟩
  refine(rj ρ' _ V d A b1).mono ?_
  rintro e w' ⟨rfl,rfl⟩
  exact⟨by rw[b2.1,b2.2];rfl,ρ',a1,⟨A,b1,b2,b3⟩⟩
 ·rintro V d ⟨ρ',a1,a2⟩
  have hlow:=a1.lowW h.low h.ro (fun q=>by have:=rd0 _ q;omega)
  refine(Cw a2 a1.clean kp0 (E.mono hlow) (Nat.le_trans hZ hlow.size)).mono ?_
  rintro e w' ⟨x,ρ2,rfl,b1,b2,_⟩
  exact⟨x,rfl,ρ2,a1.trans (b2.mono fun _ q=>q.elim),b1⟩
 ·rintro V d x ⟨ρ',a1,a2⟩
  have b1:=v1.step a1 (by rw[h.rw];intro q;have:=rd0 _ q;omega)
  refine⟨b1.cell 0,b1.frozen 0,b1.lt,aL v2 (fun g hg=>a1.block g (v2.lt g hg).2 (by rw[v3 g hg];intro q;have:=rd0 _ q;omega)),fun e=>?_⟩
  have q1:=v3 wb e.symm;have q2:=h.rw;omega
 ·rintro d x V g cap wA ⟨ρ',a1,a2⟩ hown hgr hat hlt
  exact DW h ⟨v1,v2,v3⟩ a1 a2 hown hgr hat hlt
end
section
open Go.ChangeShapes Go.WideShapes Go.ChangeAt Go.RowKit Go.Proofs.Tryz
theorem wL(c:Int)(n:Nat)(hc:-9223372036854775808<=c/\c<=9223372036854775807)(h0:0<n)(h1:n<=4194304):
  ∃ j:Nat,j<n/\∀ w,Calls prog 53 #[I6 c,I6 n] w fun e w'=>e=.returned (I6 j)/\w'=w:=by
 obtain⟨g0,g1⟩:=hc;have h0':(0:Int)<n:=by omega
 have h1':(n:Int)<=4194304:=by omega
 by_cases h:c<0
 ·have e:∃ j:Nat,j<n/\-(c+1).tmod n=(j:Nat):=by
   refine⟨(-(c+1).tmod n).toNat,?_,?_⟩
   ·have:=Int.tmod_lt_of_pos (-(c+1)) h0'
    rw[Int.neg_tmod] at this;have:=Int.tmod_nonneg (n:Int) (show 0<=-(c+1) by omega)
    rw[Int.neg_tmod] at this;omega
   ·have:=Int.tmod_nonneg (n:Int) (show 0<=-(c+1) by omega)
    rw[Int.neg_tmod] at this;omega
  obtain⟨j,hj,ej⟩:=e;have ej':Hid (-(c+1).tmod n=(j:Nat)):=ej
  clear ej;refine⟨j,hj,fun w=>?_⟩
  go_enter func53,ntmps53
  go_wp2;go_ret;exact⟨cM ej'.o,rfl⟩
 ·have e:∃ j:Nat,j<n/\c%n=(j:Nat):=by
   refine⟨(c%n).toNat,?_,?_⟩
   ·have:=Int.emod_lt_of_pos c h0'
    have:=Int.emod_nonneg c (show (n:Int)≠0 by omega)
    omega
   ·have:=Int.emod_nonneg c (show (n:Int)≠0 by omega)
    omega
  obtain⟨j,hj,ej⟩:=e;have ej':Hid (c%n=(j:Nat)):=ej
  clear ej;refine⟨j,hj,fun w=>?_⟩
  go_enter func53,ntmps53
  go_wp2;go_ret;exact⟨cM ej'.o,rfl⟩
theorem xy(W:World)(wb:Nat)(on:Int)(s:Bz)(vl:Value)(F:World->Prop)
  (HO:Hid (∀ V,Bl W V->Calls prog 32 #[Pq wb,I6 (-1),vl] V fun e w'=>e=.returned (.bool true)/\Hid (F w'))) :
  Calls prog 33 #[Pq wb,.agg #[I6 1,I6 on,I6 (-1),.string s,vl]] W fun e w'=>e=.returned (.bool true)/\F w':=by
 go_enter func33,ntmps33
 go_wp2_with ((go_at_call 32;refine(HO.o _ upB).mono ?_;rintro e w1 ⟨rfl,h1⟩))
 go_ret;exact⟨rfl,h1.o⟩
theorem Bi(W:World)(wb g n cap j p:Nat)(on a:Int)(s:Bz)(vl:Value)(F:World->Prop)(hn:0<(n:Int))(hj:(j:Int)<(n:Int))
  (C:Hid (∀ V,Bl W V->V.cell? (At wb 0)=some (Sq g n cap)/\wb<V.heap.size/\g<V.heap.size/\V.cell? (At g j)=some (Pq p)/\V.cell? (At p 5)=some (.bool false)/\p<V.heap.size))
  (HP:Hid (∀ V,Calls prog 53 #[I6 on,I6 n] V fun e w'=>e=.returned (I6 j)/\w'=V))
  (HD:Hid (∀ V,Bl W V->Calls prog 54 #[Pq p,.string s] V fun e w'=>e=.returned (.bool true)/\Hid (F w'))) :
  Calls prog 33 #[Pq wb,.agg #[I6 2,I6 on,I6 a,.string s,vl]] W fun e w'=>e=.returned (.bool true)/\F w':=by
 obtain⟨c0,cb,cg,cj,c5,cp⟩:=C.o W (Below.refl _ _)
 go_enter func33,ntmps33
 go_wp2_with fail
 go_quiet ((go_at_call 53;exact Calls.quiet_of_same (HP.o _)))
 go_wp2_with ((go_at_call 54;refine(HD.o _ upB).mono ?_;rintro e w2 ⟨rfl,h2⟩))
 go_ret;exact⟨rfl,h2.o⟩
theorem xx(W:World)(wb g n cap j p:Nat)(k on a:Int)(s:Bz)(vl:Value)(hn:0<(n:Int))(hj:(j:Int)<(n:Int))(hk:k<=0)
  (C:Hid (∀ V,Bl W V->V.cell? (At wb 0)=some (Sq g n cap)/\wb<V.heap.size/\g<V.heap.size/\V.cell? (At g j)=some (Pq p)/\V.cell? (At p 5)=some (.bool false)/\p<V.heap.size))
  (HP:Hid (∀ V,Calls prog 53 #[I6 on,I6 n] V fun e w'=>e=.returned (I6 j)/\w'=V)) :
  Cr prog 33 #[Pq wb,.agg #[I6 k,I6 on,I6 a,.string s,vl]] W (.bool true):=by
 obtain⟨c0,cb,cg,cj,c5,cp⟩:=C.o W (Below.refl _ _)
 have k1:(k==1)=false:=by simp;omega
 have k2:(k==2)=false:=by simp;omega
 have k3:(k==3)=false:=by simp;omega
 have k4:(k==4)=false:=by simp;omega
 have k5:(k==5)=false:=by simp;omega
 go_enter func33,ntmps33
 go_wp2_with fail
 go_quiet ((go_at_call 53;exact Calls.quiet_of_same (HP.o _)))
 go_wp2_with fail
 go_ret;exact⟨rfl,upB⟩
end
end Go.Proofs.YtjnhhnbgjjkkjaaGreatDoor
