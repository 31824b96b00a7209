import Derived.Lib.SlicesS
import Derived.Test.YtjnhhnbgjjkkjaaGreatDoorRePAE
import Derived.Test.YtjnhhnbgjjkkjaaGreatDoorRePAG
import Derived.Test.YtjnhhnbgjjkkjaaGreatDoorRePAH
set_option linter.all false
set_option maxRecDepth 100000
set_option maxHeartbeats 2000000
namespace Go.Proofs.YtjnhhnbgjjkkjaaGreatDoor
open Go.Conc Go.ChangeShapes Go.WideShapes Go.ChangeAt Go.RowKit Go.Proofs.Tryz
def vT(x:Tk):Value:=.agg #[.string x.t,.string x.l,.string x.r]
def Ch(w:World)(c:Nat)(l:List Tk):Prop:=∃ s r,w.heap[c]?=some (.chan 8 (l.map vT).toArray false s r false)
theorem Ch.lt{w:World}{c:Nat}{l:List Tk}(h:Ch w c l):c<w.heap.size:=by obtain⟨s,r,h⟩:=h;exact(Array.getElem?_eq_some_iff.1 h).1
def tkC(x:Tk):Array Value:=#[.string x.t,.string x.l,.string x.r]
theorem Blk.chan{w:World}{g:Nat}{cs:Array Value}{t:TypeId}(h:Blk w g cs t){c:Nat}(hg:g≠c)(cap:Nat)(buf:Array Value)(cl:Bool)(s r:Nat)(tm:Bool):Blk (w.setChan c cap buf cl s r tm) g cs t:=by
 unfold Blk at h ⊢
 simp only[World.setChan]
 rw[Array.getElem?_setIfInBounds_ne (fun e=>hg e.symm)];exact h
theorem f7{w w':World}{c:Nat}(h:w.grownBy w' (some c))(cap:Nat)(buf:Array Value)(cl:Bool)(s r:Nat)(tm:Bool):w.grownBy (w'.setChan c cap buf cl s r tm) (some c) :=
 ⟨h.os,h.tape,h.output,by rw[size_setChan];exact h.size,fun k hk hr=>by
  simp only[World.setChan]
  rw[Array.getElem?_setIfInBounds_ne (fun e=>hr (by rw[e]))];exact h.block k hk hr⟩
theorem nV(x y:Bz):(x.toList==y.toList)=decide (x=y):=by
 by_cases h:x=y
 ·rw[(Lib.bytes_beq_iff x y).2 h,decide_eq_true h]
 ·rw[(Lib.bytes_beq_false_iff x y).2 h,decide_eq_false h]
theorem ur(v:Value)(r:List Value):(v::r).toArray.extract 1 (v::r).toArray.size=r.toArray:=by
 apply Array.ext'
 simp
theorem qJ(v:Value)(r:List Value):r.toArray.push v=(r++[v]).toArray:=by simp
theorem Fz(l:List Tk)(k:Nat)(hk:k<l.length):l.drop k++l.take k=l.getD k tk0::(l.drop (k+1)++l.take k):=by
 rw[List.drop_eq_getElem_cons hk,List.getD_eq_getElem?_getD,List.getElem?_eq_getElem hk];rfl
theorem AY(l:List Tk)(k:Nat)(hk:k<l.length):l.drop (k+1)++l.take k++[l.getD k tk0]=l.drop (k+1)++l.take (k+1):=by
 rw[List.append_assoc,List.take_succ_eq_append_getElem hk,List.getD_eq_getElem?_getD,List.getElem?_eq_getElem hk];rfl
def gu(x:Tk):List Value:=[.string x.t,.string x.l,.string x.r]
theorem EF:(prog.info? 145).map (fun i=>(i.zero,i.size,i.bytes))=some (some (.agg #[.string ByteArray.empty,.string ByteArray.empty,.string ByteArray.empty]),3,48):=by kernel_rfl
theorem tO(l:List Tk)(k:Nat)(hk:k<l.length):(l.take (k+1)).flatMap gu=(l.take k).flatMap gu++gu (l.getD k tk0):=by
 rw[List.take_succ_eq_append_getElem hk,List.flatMap_append,List.getD_eq_getElem?_getD,List.getElem?_eq_getElem hk];simp
theorem qd{w w1 w2:World}{r s:Option Nat}(h:w.grownBy w1 r)(g:w1.grownBy w2 s)(hs:∀ b,s=some b->w.heap.size<=b):w.grownBy w2 r :=
 ⟨g.os.trans h.os,g.tape.trans h.tape,g.output.trans h.output,Nat.le_trans h.size g.size,fun k hk hr=>(g.block k (Nat.lt_of_lt_of_le hk h.size) (fun e=>by have:=hs k e.symm;omega)).trans (h.block k hk hr)⟩
theorem mM{w:World}{B:Nat}{t:TypeId}{k:Nat}{v:Value}{n:Nat}{xs:List Value}(h:w.ownsRow B t k v n xs){c:Nat}(hc:∀ b,v.ownBlock=some b->b≠c)(cap:Nat)(buf:Array Value)(cl:Bool)(s r:Nat)(tm:Bool):(w.setChan c cap buf cl s r tm).ownsRow B t k v n xs:=by
 refine⟨h.1,?_⟩
 rcases h.2 with hn|⟨g,cap',cur,rfl,h1,hg,rest⟩
 ·exact .inl hn
 ·refine .inr ⟨g,cap',cur,rfl,h1,?_,rest⟩
  simp only[World.setChan]
  rw[Array.getElem?_setIfInBounds_ne (fun e=>hc g rfl e.symm)];exact hg
theorem ny{w:World}{B:Nat}{t:TypeId}{k:Nat}{v:Value}{n:Nat}{xs:List Value}(h:w.ownsRow B t k v n xs):∀ b,v.ownBlock=some b->B<=b:=fun b e=>by
 rcases h.2 with⟨rfl,_⟩|⟨g,cap,cur,rfl,h1,hg,_⟩
 ·cases e
 ·obtain rfl:g=b:=by simpa[Value.ownBlock] using e
  exact h1
theorem wG{w w':World}{B:Nat}{t:TypeId}{k:Nat}{v:Value}{n:Nat}{xs:List Value}(h:w.ownsRow B t k v n xs)(e:∀ b,v.ownBlock=some b->w'.heap[b]?=w.heap[b]?):w'.ownsRow B t k v n xs:=by
 refine⟨h.1,?_⟩
 rcases h.2 with hn|⟨g,cap,cur,rfl,h1,hg,rest⟩
 ·exact .inl hn
 ·exact .inr ⟨g,cap,cur,rfl,h1,(e g rfl).trans hg,rest⟩
theorem nA{w:World}{B:Nat}{t:TypeId}{k:Nat}{v:Value}{n:Nat}{xs:List Value}(h:w.ownsRow B t k v n xs):∀ b,v.ownBlock=some b->b<w.heap.size:=fun b e=>by
 rcases h.2 with⟨rfl,_⟩|⟨g,cap,cur,rfl,h1,hg,_⟩
 ·cases e
 ·obtain rfl:g=b:=by simpa[Value.ownBlock] using e
  exact(Array.getElem?_eq_some_iff.1 hg).1
structure TL(w wr:World)(c:Nat)(l:List Tk)(k:Nat)(v:Value):Prop where
 ch:Ch wr c (l.drop k++l.take k)
 b0:Blk wr w.heap.size #[.chan (some c)] 88
 ow:wr.ownsRow (w.heap.size+1) 145 3 v k ((l.take k).flatMap gu)
 gr:w.grownBy wr (some c)
def TJ(w:World)(c:Nat)(l:List Tk)(a:Act)(wr:World):Prop:=∃ (k:Nat) (v s4 s10 s11 s12 s13 s14 s15 s16 s17 s18 s19 s20 s21:Value),a=⟨#[.agg #[.chan (some c)],.pointer (some ⟨w.heap.size,0,none⟩),.slice none 0 0,v,s4,.slice (some ⟨w.heap.size+1,0,none⟩) 0 8,.pointer (some ⟨w.heap.size,0,none⟩),.chan (some c),.int .i64 l.length,.int .i64 k,s10,s11,s12,s13,s14,s15,s16,s17,s18,s19,s20,s21,undef],[]⟩/\k<=l.length/\Hid (TL w wr c l k v)
def TK(l:List Tk)(a:Act):Nat:=l.length-(intOf (a.tmps.getD 9 undef)).toNat
theorem ry(w:World)(c:Nat)(l:List Tk)(hc:Ch w c l)(hl:l.length<=8):Calls prog 95 #[.agg #[.chan (some c)]] w fun e w'=>∃ v,e=.returned v/\w'.ownsRow w.heap.size 145 3 v l.length (l.flatMap gu)/\Ch w' c l/\w.grownBy w' (some c):=by
 have hcl:=hc.lt;have HC:Hid (Ch w c l):=hc
 obtain⟨s0,r0,hch⟩:=hc;obtain⟨i0,hi,hz0,hz1,hz2⟩:=info_parts EF;have hmk:∀ w,(Instr.makeSlice 179 (.int .i64 0) (.int .i64 8)).run prog w=.ok (.slice (some ⟨w.heap.size,0,none⟩) 0 8) (w.alloc (.cells (madeCells #[.string ByteArray.empty,.string ByteArray.empty,.string ByteArray.empty] 24) 145)):=fun w=>by
  have h:=run_makeSlice (P:=prog) w 179 145 i0 (.agg #[.string ByteArray.empty,.string ByteArray.empty,.string ByteArray.empty]) underlying179 hi hz0 .i64 .i64 0 8 om om (by rw[hz1];decide) (by rw[hz2];decide) om
  rw[hz1] at h;exact h
 obtain⟨mc,hmc⟩:∃ mc,mc=madeCells #[.string ByteArray.empty,.string ByteArray.empty,.string ByteArray.empty] 24:=⟨_,rfl⟩
 rw[<- hmc] at hmk;have hms:mc.size=24:=by rw[hmc];exact size_madeCells _ _
 clear hmc;have hB:Bl w ((w.alloc (.cells #[.chan (some c)] 88)).alloc (.cells mc 145)):=upB
 have hlen:=fun ty=>run_len_chan (P:=prog) 86 ty underlying86 ((hB.block c hcl).trans hch)
 clear hB;rw[show (l.map vT).toArray.size=l.length by simp] at hlen
 clear hch;refine iV func95 rfl ?_
 simp only[ntmps95,List.size_toArray,List.length_cons,List.length_nil,Nat.reduceAdd,Nat.reduceSub,Array.replicate_succ,Array.replicate_zero,List.push_toArray,List.append_toArray,List.nil_append,List.cons_append]
 refine c8 fun K hK=>?_
 go_wp2;refine c8 fun K hK=>?_
 go_wp2;refine gp (c8 fun K hK=>?_)
 go_wp2;refine fX ?_
 refine rI (TJ w c l) (fun a _=>TK l a) ?_ ?_
 ·refine⟨0,_,_,_,_,_,_,_,_,_,_,_,_,_,_,rfl,Nat.zero_le _,?_⟩
  have hB:Bl w ((w.alloc (.cells #[.chan (some c)] 88)).alloc (.cells mc 145)):=upB
  have h2:Below (w.heap.size+1) (w.alloc (.cells #[.chan (some c)] 88)) ((w.alloc (.cells #[.chan (some c)] 88)).alloc (.cells mc 145)):=(Below.refl _ _).alloc sM _
  obtain⟨s,r,hh⟩:=HC.o;have q0:=Blk.new (w.alloc (.cells #[.chan (some c)] 88)) mc 145
  rw[show (w.alloc (.cells #[.chan (some c)] 88)).heap.size=w.heap.size+1 by simp] at q0
  exact⟨⟨s,r,by rw[show l.drop 0++l.take 0=l by simp];exact(hB.block c hcl).trans hh⟩,(h2.block _ om).trans (Blk.new w _ _),⟨rfl,.inr ⟨w.heap.size+1,8,mc,rfl,Nat.le_refl _,q0,by omega,by unfold maxLen;omega,hms,by simp⟩⟩,⟨hB.os,hB.tape,hB.output,hB.size,fun b hb _=>hB.block b hb⟩⟩
 ·rintro a wr ⟨k,v,s4,s10,s11,s12,s13,s14,s15,s16,s17,s18,s19,s20,s21,rfl,hk,H⟩
  clear hlen hmk;by_cases hlt:k<l.length
  ·refine c8 fun K hK=>?_
   go_wp2;refine c8 fun K hK=>?_
   go_wp2;refine gp (fX (gp (gn ?_)))
   simp only[List.size_toArray,List.length_cons,List.length_nil,Nat.reduceAdd,Nat.zero_add,List.range,List.range.loop]
   obtain⟨s,r,hch⟩:=H.o.ch;rw[Fz l k hlt,List.map_cons] at hch;have hrt:=AY l k hlt;have hfn:=tO l k hlt;generalize hx:l.getD k tk0=x at hch hrt hfn
   clear hx;have HR:Hid (l.drop (k+1)++l.take k++[x]=l.drop (k+1)++l.take (k+1)):=hrt
   have HF:Hid ((l.take (k+1)).flatMap gu=(l.take k).flatMap gu++gu x):=hfn
   clear hrt hfn;have c0:wr.cell? ⟨w.heap.size,0,none⟩=some (.chan (some c)):=H.o.b0.cell 0
   refine cC rfl rfl (v:=.pointer (some ⟨w.heap.size,0,none⟩)) (w':=wr) (by simp[go_sem,execOp,Act.eval]) ?_
   refine cC rfl rfl (v:=.chan (some c)) (w':=wr) (by simp[go_sem,execOp,Act.eval,Act.put,c0]) ?_
   refine qU rfl rfl (c:=c) (z:=vT tk0) (w₁:=wr) (by simp[go_sem,execOp,Act.eval,Act.put,rcase,vT,tk0]) hch sM ?_
   rw[ur];have hg0:(vT x::List.map vT (l.drop (k+1)++l.take k)).toArray.getD 0 undef=vT x:=by simp
   rw[hg0];have hch2:=heap_setChan wr c 8 (List.map vT (l.drop (k+1)++l.take k)).toArray false s (r+1) false (Nat.lt_of_lt_of_le hcl H.o.gr.size)
   have n0:w.heap.size≠c:=by omega
   have nv:∀ b,v.ownBlock=some b->b≠c:=fun b e=>by have:=ny H.o.ow b e;omega
   have b0:=H.o.b0.chan n0 8 (List.map vT (l.drop (k+1)++l.take k)).toArray false s (r+1) false
   have ow:=mM H.o.ow nv 8 (List.map vT (l.drop (k+1)++l.take k)).toArray false s (r+1) false
   have gr:=f7 H.o.gr 8 (List.map vT (l.drop (k+1)++l.take k)).toArray false s (r+1) false
   generalize wr.setChan c 8 (List.map vT (l.drop (k+1)++l.take k)).toArray false s (r+1) false=W at hch2 b0 ow gr ⊢
   refine cC rfl rfl (v:=.pointer (some ⟨W.heap.size,0,none⟩)) (w':=W.alloc (.cells (tkC tk0) 145)) (by simp[go_sem,execOp,Act.eval,Act.put,tkC,tk0]) ?_
   have q0:=Blk.new W (tkC tk0) 145
   have q1:=((q0.set 0 (.string x.t)).set 1 (.string x.l)).set 2 (.string x.r)
   refine AU rfl rfl (w':=(((W.alloc (.cells (tkC tk0) 145)).setCell ⟨W.heap.size,0,none⟩ (.string x.t)).setCell ⟨W.heap.size,1,none⟩ (.string x.l)).setCell ⟨W.heap.size,2,none⟩ (.string x.r)) (by simp[go_sem,execOp,Act.eval,Act.put,tkC,tk0,vT]) ?_
   have hN:w.heap.size<W.heap.size:=b0.lt
   have gN:w.grownBy ((((W.alloc (.cells (tkC tk0) 145)).setCell ⟨W.heap.size,0,none⟩ (.string x.t)).setCell ⟨W.heap.size,1,none⟩ (.string x.l)).setCell ⟨W.heap.size,2,none⟩ (.string x.r)) (some c):=by
    have g1:w.grownBy (W.alloc (.cells (tkC tk0) 145)) (some c):=⟨gr.os,gr.tape,gr.output,by have:=gr.size;simp;omega,fun k hk hr=>(Below.heap_alloc W _ k (Nat.lt_of_lt_of_le hk gr.size)).trans (gr.block k hk hr)⟩
    exact aP g1 W.heap.size 0 [.string x.t,.string x.l,.string x.r] (.inr gr.size)
   have oN:∀ b,b<W.heap.size->((((W.alloc (.cells (tkC tk0) 145)).setCell ⟨W.heap.size,0,none⟩ (.string x.t)).setCell ⟨W.heap.size,1,none⟩ (.string x.l)).setCell ⟨W.heap.size,2,none⟩ (.string x.r)).heap[b]?=W.heap[b]?:=fun b hb =>
    ((aK W.heap.size [.string x.t,.string x.l,.string x.r] 0 (W.alloc (.cells (tkC tk0) 145))).2.2.2.2 b om).trans (Below.heap_alloc W _ b hb)
   have b0:=(oN _ om).trans b0
   have nw:∀ b,v.ownBlock=some b->b≠W.heap.size:=fun b e=>by have:=nA ow b e;omega
   have ow:=wG ow (fun b e=>oN b (nA ow b e))
   have hch2:=(oN c (Nat.lt_of_lt_of_le hcl gr.size)).trans hch2
   have zN:W.heap.size<((((W.alloc (.cells (tkC tk0) 145)).setCell ⟨W.heap.size,0,none⟩ (.string x.t)).setCell ⟨W.heap.size,1,none⟩ (.string x.l)).setCell ⟨W.heap.size,2,none⟩ (.string x.r)).heap.size:=by simp
   clear oN gr q0;generalize W.heap.size=N at q1 hN gN b0 ow hch2 nw zN ⊢
   generalize ((((W.alloc (.cells (tkC tk0) 145)).setCell ⟨N,0,none⟩ (.string x.t)).setCell ⟨N,1,none⟩ (.string x.l)).setCell ⟨N,2,none⟩ (.string x.r))=V at q1 gN b0 ow hch2 zN ⊢
   refine jv ?_
   show wpN _ _ _ ⟨#[.agg #[.chan (some c)],.pointer (some ⟨w.heap.size,0,none⟩),.slice none 0 0,v,.pointer (some ⟨N,0,none⟩),.slice (some ⟨w.heap.size+1,0,none⟩) 0 8,.pointer (some ⟨w.heap.size,0,none⟩),.chan (some c),.int .i64 l.length,.int .i64 k,.bool true,.pointer (some ⟨w.heap.size,0,none⟩),.chan (some c),vT x,s14,s15,s16,s17,s18,s19,s20,s21,undef],[]⟩ V
   refine gp (gn ?_)
   simp only[List.size_toArray,List.length_cons,List.length_nil,Nat.reduceAdd,Nat.zero_add,List.range,List.range.loop]
   have v0:V.cell? ⟨w.heap.size,0,none⟩=some (.chan (some c)):=Blk.cell b0 0
   have v1:V.cell? ⟨N,0,none⟩=some (.string x.t):=Blk.cell q1 0
   have v2:V.cell? ⟨N,1,none⟩=some (.string x.l):=Blk.cell q1 1
   have v3:V.cell? ⟨N,2,none⟩=some (.string x.r):=Blk.cell q1 2
   refine cC rfl rfl (v:=.pointer (some ⟨w.heap.size,0,none⟩)) (w':=V) (by simp[go_sem,execOp,Act.eval]) ?_
   refine cC rfl rfl (v:=.chan (some c)) (w':=V) (by simp[go_sem,execOp,Act.eval,Act.put,v0]) ?_
   refine cC rfl rfl (v:=vT x) (w':=V) (by simp[go_sem,execOp,Act.eval,Act.put,v1,v2,v3,vT]) ?_
   refine AT rfl rfl (c:=c) (v:=vT x) (z':=.tuple #[]) (w₁:=V) (by simp[go_sem,execOp,Act.eval,Act.put,scase]) hch2 (by simp;omega) ?_
   rw[qJ,show List.map vT (l.drop (k+1)++l.take k)++[vT x]=List.map vT (l.drop (k+1)++l.take k++[x]) by simp,HR.o]
   have hch3:=heap_setChan V c 8 (List.map vT (l.drop (k+1)++l.take (k+1))).toArray false (s+1) (r+1) false (Nat.lt_of_lt_of_le hcl gN.size)
   have nN:N≠c:=by omega
   have zU:N<(V.setChan c 8 (List.map vT (l.drop (k+1)++l.take (k+1))).toArray false (s+1) (r+1) false).heap.size:=by rw[size_setChan];exact zN
   have b0:=Blk.chan b0 n0 8 (List.map vT (l.drop (k+1)++l.take (k+1))).toArray false (s+1) (r+1) false
   have ow:=mM ow nv 8 (List.map vT (l.drop (k+1)++l.take (k+1))).toArray false (s+1) (r+1) false
   have q1:=Blk.chan q1 nN 8 (List.map vT (l.drop (k+1)++l.take (k+1))).toArray false (s+1) (r+1) false
   have gN:=f7 gN 8 (List.map vT (l.drop (k+1)++l.take (k+1))).toArray false (s+1) (r+1) false
   generalize V.setChan c 8 (List.map vT (l.drop (k+1)++l.take (k+1))).toArray false (s+1) (r+1) false=U at hch3 b0 ow q1 gN zU ⊢
   refine jv ?_
   show wpN _ _ _ ⟨#[.agg #[.chan (some c)],.pointer (some ⟨w.heap.size,0,none⟩),.slice none 0 0,v,.pointer (some ⟨N,0,none⟩),.slice (some ⟨w.heap.size+1,0,none⟩) 0 8,.pointer (some ⟨w.heap.size,0,none⟩),.chan (some c),.int .i64 l.length,.int .i64 k,.bool true,.pointer (some ⟨w.heap.size,0,none⟩),.chan (some c),vT x,.pointer (some ⟨w.heap.size,0,none⟩),.chan (some c),vT x,s17,s18,s19,s20,s21,undef],[]⟩ U
   have u1:U.cell? ⟨N,0,none⟩=some (.string x.t):=Blk.cell q1 0
   have u2:U.cell? ⟨N,1,none⟩=some (.string x.l):=Blk.cell q1 1
   have u3:U.cell? ⟨N,2,none⟩=some (.string x.r):=Blk.cell q1 2
   have X0:Hid (Blk U w.heap.size #[.chan (some c)] 88):=b0
   have XC:Hid (Ch U c (l.drop (k+1)++l.take (k+1))):=⟨_,_,hch3⟩
   have XG:Hid (w.grownBy U (some c)):=gN
   obtain⟨bv,cv,rfl,hn3,hm3⟩:∃ b c,v=.slice b k c/\k<=c/\c<=maxLen:=by
    rcases ow.2 with⟨rfl,e⟩|⟨g,cap,cur,rfl,_,_,h1,h2,_⟩
    ·exact⟨none,0,by rw[e],by omega,by unfold maxLen;omega⟩
    ·exact⟨_,cap,rfl,h1,h2⟩
   have XO:Hid (U.ownsRow (w.heap.size+1) 145 3 (.slice bv k cv) k ((l.take k).flatMap gu)):=ow
   generalize hL:(l.take k).flatMap gu=L at XO HF
   clear hL b0 ow q1 gN hch3 hch2 hch hg0 v0 v1 v2 v3 c0;refine kg ?_
   go_wp2_with (first
    | (at_builtin;refine wpList_append_own _ rfl _ _ 179 rfl (w.heap.size+1) 145 i0 (.agg #[.string ByteArray.empty,.string ByteArray.empty,.string ByteArray.empty]) 3 48 underlying179 hi hz0 hz1 hz2 rfl dE _ _ _ rfl (XO.o.alloc _) ⟨U.heap.size,0,none⟩ 1 1 [.string x.t,.string x.l,.string x.r] rfl rfl ?c1 ?c2 ?c3 ?c4 ?c5 ?_)
    | go_in)
   case c1 =>
    intro j u hj;match j,hj with
    | 0,hj=>simp at hj;subst hj;simp[Addr.add]
    | 1,hj=>simp at hj;subst hj;simp[Addr.add]
    | 2,hj=>simp at hj;subst hj;simp[Addr.add]
   case c2=>intro u hu;simp at hu;rcases hu with rfl|rfl|rfl<;>rfl
   case c3=>unfold maxLen;omega
   case c4=>omega
   case c5=>simp;omega
   intro v4 w4 ho4 hg4 _;have hz4:=hg4.size;have hX:TL w w4 c l (k+1) v4:=by
    have hu:U.heap.size<=(U.alloc (.cells (tkC x) 145)).heap.size:=by simp
    have g1:w.grownBy (U.alloc (.cells (tkC x) 145)) (some c):=⟨XG.o.os,XG.o.tape,XG.o.output,by have:=XG.o.size;simp;omega,fun k hk hr=>(Below.heap_alloc U _ k (Nat.lt_of_lt_of_le hk XG.o.size)).trans (XG.o.block k hk hr)⟩
    have hob:∀ b,(Value.slice bv k cv).ownBlock=some b->w.heap.size+1<=b:=ny XO.o
    obtain⟨s',r',hh⟩:=XC.o;have hcc:c≠U.heap.size:=by have:=XC.o.lt;omega
    refine⟨⟨s',r',?_⟩,?_,?_,qd g1 hg4 (fun b e=>by have:=hob b e;omega)⟩
    ·exact(hg4.block c (by have:=XC.o.lt;simp;omega) (fun e=>by have:=hob c e.symm;omega)).trans ((Below.heap_alloc U _ c XC.o.lt).trans hh)
    ·exact(hg4.block _ (by have:=X0.o.lt;simp;omega) (fun e=>by have:=hob _ e.symm;omega)).trans ((Below.heap_alloc U _ _ X0.o.lt).trans X0.o)
    ·rw[HF.o];exact ho4
   replace hX:Hid _:=hX;clear ho4 hg4 XO XG XC X0;go_wp2;refine kg ?_
   go_wp2;exact⟨⟨k+1,_,_,_,_,_,_,_,_,_,_,_,_,_,_,rfl,hlt,hX⟩,by simp[TK,intOf];omega⟩
  ·refine c8 fun K hK=>?_
   go_wp2;refine c8 fun K hK=>?_
   go_wp2;refine kg ?_
   have hkl:k=l.length:=by omega
   subst hkl;go_wp2;obtain⟨x1,x2,x3,x4⟩:=H.o;rw[List.take_length] at x1 x3;rw[show l.drop l.length++l=l by simp] at x1
   refine bodyPost_ret (v:=v) (by simp[results,results95,go_sem]) rfl ⟨v,rfl,?_,x1,x4⟩
   refine⟨x3.1,?_⟩
   rcases x3.2 with hn|⟨g,cap,cur,rfl,h1,rest⟩
   ·exact .inl hn
   ·exact .inr ⟨g,cap,cur,rfl,by omega,rest⟩
theorem Bu(x:Tk)(t:Bz)(c:Nat)(w:World)(hc:w.cell? ⟨c,0,none⟩=some (.string t)):Cr prog 97 #[vT x,.pointer (some ⟨c,0,none⟩)] w (.bool (decide (x.t=t))):=by
 have hlt:=block_lt_of_cell hc;rw[<- nV];unfold vT;go_enter func97,ntmps97
 go_wp2;go_ret;exact⟨rfl,upB⟩
def DX(f:Nat)(lb:Array Value)(p:Tk->Bool)(l:List Tk)(w:World):Prop :=
 ∀ W,Bl w W->∀ h,h∈l->Calls prog f (#[vT h]++lb) W fun e w'=>e=.returned (.bool (p h))/\Bl W w'
theorem G6(l:List Tk)(p:Tk->Bool)(f c:Nat)(v:Value)(w:World)(eg:∀ args w,(callFunc f args).run prog w=.ok (.enter f args) w)(hr:Rd 3 gu tk0 w v l)(hp:DX f #[.pointer (some ⟨c,0,none⟩)] p l w):Cr prog 96 #[v,.func (.func f) #[] #[.pointer (some ⟨c,0,none⟩)]] w (.int .i64 (fi p l)):=by
 obtain⟨b,cap,rfl,h1,h2,h3⟩:=hr;have hn:l.length<=9223372036854775807:=by unfold maxLen at h2;omega
 have hrow:Hid (∀ W,Bl w W->∀ j,j<l.length->∃ g,b=some ⟨g,0,none⟩/\W.cell? ⟨g,j*3,none⟩=some (.string (l.getD j tk0).t)/\W.cell? ⟨g,j*3+1,none⟩=some (.string (l.getD j tk0).l)/\W.cell? ⟨g,j*3+2,none⟩=some (.string (l.getD j tk0).r)):=fun W hW j hj=>by
  obtain⟨g,hg,hlt,hc⟩:=h3 (by intro e;rw[e] at hj;simp at hj)
  have hc:=hc j hj;exact⟨g,hg,(hW.cell (p:=⟨g,j*3,none⟩) hlt).trans (hc 0 _ rfl),(hW.cell (p:=⟨g,j*3+1,none⟩) hlt).trans (hc 1 _ rfl),(hW.cell (p:=⟨g,j*3+2,none⟩) hlt).trans (hc 2 _ rfl)⟩
 have HP:Hid (DX f #[.pointer (some ⟨c,0,none⟩)] p l w):=hp
 clear h1 h2 h3 hp;go_enter func96,ntmps96
 go_wp2;go_loopg [5,8] l.length (fun gg _ s8 wr=>∃ kk:Nat,kk<=l.length/\l.length-kk<=gg/\s8=.int .i64 kk/\Hid (Bl w wr)/\Hid (∀ j,j<kk->p (l.getD j tk0)=false))
 case atStart=>exact⟨0,Nat.zero_le _,by omega,rfl,Below.refl _ w,fun j hj=>absurd hj (Nat.not_lt_zero _)⟩
 case round =>
  obtain⟨kk,hkk,hg,rfl,BW,HA⟩:=hrel;by_cases hlt:kk<l.length
  ·have hltz:(kk:Int)<(l.length:Int):=by omega
   obtain⟨g,rfl,k0,k1,k2⟩:=hrow.o wr BW.o kk hlt;have hcall:Hid (Calls prog f (#[vT (l.getD kk tk0)]++#[.pointer (some ⟨c,0,none⟩)]) wr fun e w'=>e=.returned (.bool (p (l.getD kk tk0)))/\Bl wr w'):=HP.o wr BW.o _ (aJ l tk0 kk hlt)
   have hB:Hid (p (l.getD kk tk0)=p (l.getD kk tk0)):=rfl
   generalize hy:l.getD kk tk0=y at k0 k1 k2 hcall
   have HY:Hid (l.getD kk tk0=y):=hy
   clear hy hrow HP hB;unfold vT at hcall
   cases hq:p y with
   | true =>
    rw[hq] at hcall;have HQ:Hid (p y=true):=hq
    clear hq;go_wp2_with (go_at_fn f;refine hcall.o.mono ?_;rintro e w' ⟨rfl,hb'⟩)
    go_ret;refine⟨?_,bup BW.o hb'⟩
    rw[iD p l tk0 kk hlt HA.o (by rw[HY.o];exact HQ.o)]
    rfl
   | false =>
    rw[hq] at hcall;have HQ:Hid (p y=false):=hq
    clear hq;go_wp2_with (go_at_fn f;refine hcall.o.mono ?_;rintro e w' ⟨rfl,hb'⟩)
    go_roundg (l.length-(kk+1))
    case measure=>omega
    case rel =>
     refine⟨kk+1,by omega,by omega,by go_num,bup BW.o hb',(show Hid _ from fun j hj=>?_)⟩
     by_cases e:j=kk
     ·subst e;rw[HY.o];exact HQ.o
     ·exact HA.o j om
  ·have hltz:¬(kk:Int)<(l.length:Int):=by omega
   have hkl:kk=l.length:=by omega
   subst hkl;clear hrow HP;go_wp2;go_ret;refine⟨?_,BW.o⟩
   rw[gY p l (fun x hx=>by
    obtain⟨j,hj,rfl⟩:=List.getElem_of_mem hx;have:=HA.o j hj
    rw[List.getD_eq_getElem?_getD,List.getElem?_eq_getElem hj] at this;exact this)]
   rfl
theorem yV(l:List Tk)(t:Bz):(fi (fun x=>decide (x.t=t)) l=-1/\cX l t=none)\/∃ k:Nat,k<l.length/\fi (fun x=>decide (x.t=t)) l=k/\cX l t=some (l.getD k tk0):=by
 unfold cX;induction l with
 | nil=>exact .inl ⟨rfl,rfl⟩
 | cons y r ih =>
  by_cases h:y.t=t
  ·exact .inr ⟨0,by simp,by simp[fi,h],by simp[h]⟩
  ·rcases ih with⟨e1,e2⟩|⟨k,hk,e1,e2⟩
   ·exact .inl ⟨by simp[fi,h,e1],by rw[List.filter_cons_of_neg (by simpa using h)];exact e2⟩
   ·refine .inr ⟨k+1,by simpa using hk,?_,?_⟩
    ·have h2:¬((k:Int)<0):=by omega
     simp only[fi,h,e1,h2,decide_false,Bool.false_eq_true,if_false];omega
    ·rw[List.filter_cons_of_neg (by simpa using h)];simpa using e2
theorem xI(w:World)(c:Nat)(l:List Tk)(t:Bz)(hc:Ch w c l)(hl:l.length<=8):Calls prog 64 #[.agg #[.chan (some c)],.string t] w fun e w'=>e=.returned (.tuple #[vT ((cX l t).getD tk0),.bool (cX l t).isSome])/\Ch w' c l/\w.grownBy w' (some c):=by
 have hcl:=hc.lt;obtain⟨W0,hW0⟩:∃ W0,W0=((w.alloc (.cells #[.chan (some c)] 88)).alloc (.cells #[.string t] 9)).alloc (.cells (tkC tk0) 145):=⟨_,rfl⟩
 have hB0:Bl w W0:=by rw[hW0];exact upB
 have k1:Blk W0 (w.heap.size+1) #[.string t] 9:=by
  have q0:=Blk.new (w.alloc (.cells #[.chan (some c)] 88)) #[.string t] 9
  rw[show (w.alloc (.cells #[.chan (some c)] 88)).heap.size=w.heap.size+1 by simp] at q0
  rw[hW0];exact(Below.heap_alloc _ _ _ (Array.getElem?_eq_some_iff.1 q0).1).trans q0
 have k2:Blk W0 (w.heap.size+1+1) (tkC tk0) 145:=by
  have q0:=Blk.new ((w.alloc (.cells #[.chan (some c)] 88)).alloc (.cells #[.string t] 9)) (tkC tk0) 145
  rw[show ((w.alloc (.cells #[.chan (some c)] 88)).alloc (.cells #[.string t] 9)).heap.size=w.heap.size+1+1 by simp] at q0
  rw[hW0];exact q0
 have hz0:W0.heap.size=w.heap.size+3:=by rw[hW0];simp
 have hc0:Ch W0 c l:=by obtain⟨s,r,h⟩:=hc;exact⟨s,r,(hB0.block c hcl).trans h⟩
 have HA:Hid (Calls prog 95 #[.agg #[.chan (some c)]] W0 fun e w1=>∃ b cp,e=.returned (.slice b l.length cp)/\Rd 3 gu tk0 w1 (.slice b l.length cp) l/\Blk w1 (w.heap.size+1) #[.string t] 9/\Blk w1 (w.heap.size+1+1) (tkC tk0) 145/\Ch w1 c l/\w.grownBy w1 (some c)):=by
  refine(ry W0 c l hc0 hl).mono ?_
  rintro e w1 ⟨v,rfl,ho,hch,hg⟩
  have hr:=Rd.of_owns (k:=3) (enc:=gu) (fun _=>rfl) tk0 ho
  have hr2:=hr;obtain⟨b,cp,rfl,_⟩:=hr2;exact⟨b,cp,rfl,hr,(hg.block _ om (fun e=>by injection e with e;omega)).trans k1,(hg.block _ om (fun e=>by injection e with e;omega)).trans k2,hch,⟨hg.os.trans hB0.os,hg.tape.trans hB0.tape,hg.output.trans hB0.output,Nat.le_trans hB0.size hg.size,fun b hb hr=>(hg.block b om hr).trans (hB0.block b hb)⟩⟩
 have HI:Hid (∀ w1 b cp,Rd 3 gu tk0 w1 (.slice b l.length cp) l->Blk w1 (w.heap.size+1) #[.string t] 9->Cr prog 96 #[.slice b l.length cp,.func (.func 97) #[] #[.pointer (some ⟨w.heap.size+1,0,none⟩)]] w1 (.int .i64 (fi (fun x=>decide (x.t=t)) l))):=fun w1 b cp hr hk =>
  G6 l (fun x=>decide (x.t=t)) 97 (w.heap.size+1) _ w1 (enters_of func97 (by kernel_rfl) rfl) hr (fun W hW h hh=>Bu h t (w.heap.size+1) W ((hk.below hW).cell 0))
 clear hc0 k1 k2 hB0 hc;rw[hW0] at HA;clear hW0 hz0 W0;rcases yV l t with⟨e1,e2⟩|⟨k,hk,e1,e2⟩
 ·rw[e1] at HI;rw[e2];go_enter func64,ntmps64
  simp only[tkC,tk0] at HA
  go_wp2_with (first
   | (go_at_call 95;refine HA.o.mono ?_;rintro e w1 ⟨b,cp,rfl,hr,hk1,hk2,hch,hg⟩;replace hr:Hid _:=hr;replace hk1:Hid _:=hk1;replace hch:Hid _:=hch;replace hg:Hid (w.grownBy w1 (some c)):=hg;replace hk2:Hid (Blk w1 (w.heap.size+1+1) (tkC tk0) 145):=hk2)
   | (go_at_call 96;refine Mo (HI.o w1 b cp hr.o hk1.o) fun w2 hb2=>?_;replace hb2:Hid (Bl w1 w2):=hb2;have kk:=hk2.o.below hb2.o;have d0:w2.cell? ⟨w.heap.size+1+1,0,none⟩=some (.string ⟨#[]⟩):=kk.cell 0;have d1:w2.cell? ⟨w.heap.size+1+1,1,none⟩=some (.string ⟨#[]⟩):=kk.cell 1;have d2:w2.cell? ⟨w.heap.size+1+1,2,none⟩=some (.string ⟨#[]⟩):=kk.cell 2;have f0:w2.frozen? ⟨w.heap.size+1+1,0,none⟩=false:=kk.frozen 0;have f1:w2.frozen? ⟨w.heap.size+1+1,1,none⟩=false:=kk.frozen 1;have f2:w2.frozen? ⟨w.heap.size+1+1,2,none⟩=false:=kk.frozen 2;replace kk:Hid (Blk w2 (w.heap.size+1+1) (tkC tk0) 145):=kk))
  have HB:=((kk.o.set 0 (.string ⟨#[]⟩)).set 1 (.string ⟨#[]⟩)).set 2 (.string ⟨#[]⟩)
  have k0:=HB.cell 0;have k1:=HB.cell 1;have k2:=HB.cell 2;have hfin:Ch (((w2.setCell ⟨w.heap.size+1+1,0,none⟩ (.string ⟨#[]⟩)).setCell ⟨w.heap.size+1+1,1,none⟩ (.string ⟨#[]⟩)).setCell ⟨w.heap.size+1+1,2,none⟩ (.string ⟨#[]⟩)) c l/\w.grownBy (((w2.setCell ⟨w.heap.size+1+1,0,none⟩ (.string ⟨#[]⟩)).setCell ⟨w.heap.size+1+1,1,none⟩ (.string ⟨#[]⟩)).setCell ⟨w.heap.size+1+1,2,none⟩ (.string ⟨#[]⟩)) (some c):=by
   obtain⟨s,r,h⟩:=hch.o;have g2:w.grownBy w2 (some c):=⟨hb2.o.os.trans hg.o.os,hb2.o.tape.trans hg.o.tape,hb2.o.output.trans hg.o.output,Nat.le_trans hg.o.size hb2.o.size,fun b hb hr=>(hb2.o.block b (Nat.lt_of_lt_of_le hb hg.o.size)).trans (hg.o.block b hb hr)⟩
   have h2:=(aK (w.heap.size+1+1) [.string ⟨#[]⟩,.string ⟨#[]⟩,.string ⟨#[]⟩] 0 w2).2.2.2.2 c om
   exact⟨⟨s,r,h2.trans ((hb2.o.block c (Ch.lt hch.o)).trans h)⟩,aP g2 (w.heap.size+1+1) 0 [.string ⟨#[]⟩,.string ⟨#[]⟩,.string ⟨#[]⟩] (.inr om)⟩
  simp[tkC,tk0] at k0 k1 k2
  exact bodyPost_ret (v:=.tuple #[.agg #[.string ⟨#[]⟩,.string ⟨#[]⟩,.string ⟨#[]⟩],.bool false]) (by simp[results,results64,go_sem,k0,k1,k2,d0,d1,d2,f0,f1,f2]) rfl ⟨rfl,hfin⟩
 ·rw[e1] at HI;rw[e2];obtain⟨y,hy⟩:∃ y,y=l.getD k tk0:=⟨_,rfl⟩
  rw[<- hy];have hkz:(k:Int)<(l.length:Int):=by omega
  have hk0:(0:Int)<=(k:Int):=by omega
  have hkn:¬(k:Int)<0:=by omega
  have HRD:Hid (∀ w1 b cp,Rd 3 gu tk0 w1 (.slice b l.length cp) l->∃ g,b=some ⟨g,0,none⟩/\w1.cell? ⟨g,k*3,none⟩=some (.string y.t)/\w1.cell? ⟨g,k*3+1,none⟩=some (.string y.l)/\w1.cell? ⟨g,k*3+2,none⟩=some (.string y.r)):=fun w1 b cp hr=>by
   obtain⟨b',cap,e,h1,h2,h3⟩:=hr;obtain⟨g,hg,hlt,hc⟩:=h3 (by intro e;rw[e] at hk;simp at hk)
   have hc:=hc k hk;rw[<- hy] at hc
   cases e;exact⟨g,hg,hc 0 _ rfl,hc 1 _ rfl,hc 2 _ rfl⟩
  clear hy;go_enter func64,ntmps64
  simp only[tkC,tk0] at HA
  go_wp2_with (first
   | (go_at_call 95;refine HA.o.mono ?_;rintro e w1 ⟨b,cp,rfl,hr,hk1,hk2,hch,hg⟩;replace hr:Hid (Rd 3 gu tk0 w1 (.slice b l.length cp) l):=hr;replace hk1:Hid _:=hk1;replace hch:Hid _:=hch;replace hg:Hid (w.grownBy w1 (some c)):=hg;replace hk2:Hid (Blk w1 (w.heap.size+1+1) (tkC tk0) 145):=hk2)
   | (go_at_call 96;refine Mo (HI.o w1 b cp hr.o hk1.o) fun w2 hb2=>?_;replace hb2:Hid (Bl w1 w2):=hb2;have kk:=hk2.o.below hb2.o;have d0:w2.cell? ⟨w.heap.size+1+1,0,none⟩=some (.string ⟨#[]⟩):=kk.cell 0;have d1:w2.cell? ⟨w.heap.size+1+1,1,none⟩=some (.string ⟨#[]⟩):=kk.cell 1;have d2:w2.cell? ⟨w.heap.size+1+1,2,none⟩=some (.string ⟨#[]⟩):=kk.cell 2;have f0:w2.frozen? ⟨w.heap.size+1+1,0,none⟩=false:=kk.frozen 0;have f1:w2.frozen? ⟨w.heap.size+1+1,1,none⟩=false:=kk.frozen 1;have f2:w2.frozen? ⟨w.heap.size+1+1,2,none⟩=false:=kk.frozen 2;replace kk:Hid (Blk w2 (w.heap.size+1+1) (tkC tk0) 145):=kk;obtain⟨g,rfl,j0,j1,j2⟩:=HRD.o w2 b cp (hr.o.below hb2.o)))
  have HB:=((kk.o.set 0 (.string y.t)).set 1 (.string y.l)).set 2 (.string y.r)
  have k0:=HB.cell 0;have k1:=HB.cell 1;have k2:=HB.cell 2;have hfin:Ch (((w2.setCell ⟨w.heap.size+1+1,0,none⟩ (.string y.t)).setCell ⟨w.heap.size+1+1,1,none⟩ (.string y.l)).setCell ⟨w.heap.size+1+1,2,none⟩ (.string y.r)) c l/\w.grownBy (((w2.setCell ⟨w.heap.size+1+1,0,none⟩ (.string y.t)).setCell ⟨w.heap.size+1+1,1,none⟩ (.string y.l)).setCell ⟨w.heap.size+1+1,2,none⟩ (.string y.r)) (some c):=by
   obtain⟨s,r,h⟩:=hch.o;have g2:w.grownBy w2 (some c):=⟨hb2.o.os.trans hg.o.os,hb2.o.tape.trans hg.o.tape,hb2.o.output.trans hg.o.output,Nat.le_trans hg.o.size hb2.o.size,fun b hb hr=>(hb2.o.block b (Nat.lt_of_lt_of_le hb hg.o.size)).trans (hg.o.block b hb hr)⟩
   have h2:=(aK (w.heap.size+1+1) [.string y.t,.string y.l,.string y.r] 0 w2).2.2.2.2 c om
   exact⟨⟨s,r,h2.trans ((hb2.o.block c (Ch.lt hch.o)).trans h)⟩,aP g2 (w.heap.size+1+1) 0 [.string y.t,.string y.l,.string y.r] (.inr om)⟩
  simp[tkC,tk0] at k0 k1 k2
  exact bodyPost_ret (v:=.tuple #[.agg #[.string y.t,.string y.l,.string y.r],.bool true]) (by simp[results,results64,go_sem,k0,k1,k2,d0,d1,d2,f0,f1,f2]) rfl ⟨rfl,hfin⟩
theorem iO(x:Bz)(w:World)(hx:x.size<=281474976710656):Cr prog 98 #[.string x] w (.string x):=by
 have hc:Hid (Cr prog 147 #[.string x] w (.string x)):=Tryz.stringslite_Clone x w hx
 go_enter func98,ntmps98
 go_wp2_with (go_at_call 147;refine hc.o.mono ?_;rintro e w1 ⟨rfl,hb1⟩)
 go_ret;exact⟨rfl,hb1⟩
structure TA(w wr:World)(c:Nat)(l:List Tk)(x:Tk)(m:List Tk):Prop where
 ch:Ch wr c m
 b0:Blk wr w.heap.size #[.chan (some c)] 88
 b1:Blk wr (w.heap.size+1) (tkC x) 145
 gr:w.grownBy wr (some c)
 or:m=l\/(l.length=8/\m=l.drop 1)
def TN(c:Nat)(wr:World):Nat:=match wr.heap[c]? with|some (.chan _ buf _ _ _ _)=>buf.size|_=>0
theorem DY{c:Nat}{wr:World}{cap:Nat}{buf:Array Value}{cl:Bool}{s r:Nat}{tm:Bool}(h:wr.heap[c]?=some (.chan cap buf cl s r tm)):TN c wr=buf.size:=by unfold TN;rw[h]
def TB(w:World)(c:Nat)(l:List Tk)(x:Tk)(a:Act)(wr:World):Prop:=∃ (m:List Tk) (s12 s13 s14 s15 s16 s17 s18 s19 s20:Value),a=⟨#[.agg #[.chan (some c)],vT x,.pointer (some ⟨w.heap.size,0,none⟩),.pointer (some ⟨w.heap.size+1,0,none⟩),.pointer (some ⟨w.heap.size+1,1,none⟩),.string x.l,.string x.l,.pointer (some ⟨w.heap.size+1,1,none⟩),.pointer (some ⟨w.heap.size+1,2,none⟩),.string x.r,.string x.r,.pointer (some ⟨w.heap.size+1,2,none⟩),s12,s13,s14,s15,s16,s17,s18,s19,s20],[]⟩/\Hid (TA w wr c l x m)
theorem rv(w:World)(c:Nat)(l:List Tk)(x:Tk)(hc:Ch w c l)(hl:l.length<=8)(hx:x.l.size<=281474976710656)(hx2:x.r.size<=281474976710656):Calls prog 66 #[.agg #[.chan (some c)],vT x] w fun e w'=>e=.returned (.tuple #[])/\Ch w' c (dM l x)/\w.grownBy w' (some c):=by
 have hcl:=hc.lt;have HC:Hid (Ch w c l):=hc
 have hcn:Hid (∀ w,Cr prog 98 #[.string x.l] w (.string x.l)):=fun w=>iO x.l w hx
 have hcm:Hid (∀ w,Cr prog 98 #[.string x.r] w (.string x.r)):=fun w=>iO x.r w hx2
 clear hc hx hx2;refine iV func66 rfl ?_
 unfold vT;simp only[ntmps66,List.size_toArray,List.length_cons,List.length_nil,Nat.reduceAdd,Nat.reduceSub,Array.replicate_succ,Array.replicate_zero,List.push_toArray,List.append_toArray,List.nil_append,List.cons_append]
 refine c8 fun K hK=>?_
 go_wp2;refine c8 fun K hK=>?_
 go_wp2_with (go_at_call 98;refine Mo (hcn.o _) fun w1 hb1=>?_;have d1:w1.cell? ⟨w.heap.size+1,1,none⟩=some (.string x.l):=(by rw[hb1.cell (p:=⟨w.heap.size+1,1,none⟩) sM];simp[go_sem]);have e1:w1.frozen? ⟨w.heap.size+1,1,none⟩=false:=(by rw[hb1.frozen (p:=⟨w.heap.size+1,1,none⟩) sM];simp[go_sem]))
 have hTA:Hid (TA w (w1.setCell ⟨w.heap.size+1,1,none⟩ (.string x.l)) c l x l):=by
  have hB:Bl w ((w.alloc (.cells #[.chan (some c)] 88)).alloc (.cells (tkC x) 145)):=upB
  have h2:Below (w.heap.size+1) (w.alloc (.cells #[.chan (some c)] 88)) ((w.alloc (.cells #[.chan (some c)] 88)).alloc (.cells (tkC x) 145)):=(Below.refl _ _).alloc sM _
  have q1:=Blk.new (w.alloc (.cells #[.chan (some c)] 88)) (tkC x) 145
  rw[show (w.alloc (.cells #[.chan (some c)] 88)).heap.size=w.heap.size+1 by simp] at q1
  have q0:Blk ((w.alloc (.cells #[.chan (some c)] 88)).alloc (.cells (tkC x) 145)) w.heap.size #[.chan (some c)] 88:=(h2.block _ om).trans (Blk.new w _ _)
  have p0:=q0.below hb1;have p1:=(q1.below hb1).set 1 (.string x.l)
  have h3:Bl w w1:=bup hB hb1
  have ho:=(aK (w.heap.size+1) [.string x.l] 1 w1).2.2.2.2
  obtain⟨s,r,hh⟩:=HC.o;exact⟨⟨s,r,(ho c om).trans ((h3.block c hcl).trans hh)⟩,(ho _ om).trans p0,p1,aP (row:=some c) ⟨h3.os,h3.tape,h3.output,h3.size,fun b hb _=>h3.block b hb⟩ (w.heap.size+1) 1 [.string x.l] (.inr om),.inl rfl⟩
 generalize w1.setCell ⟨w.heap.size+1,1,none⟩ (.string x.l)=W at hTA ⊢
 clear hb1 d1 e1 hcn w1;have e0:W.cell? ⟨w.heap.size+1,2,none⟩=some (.string x.r):=hTA.o.b1.cell 2
 have e1:W.frozen? ⟨w.heap.size+1,2,none⟩=false:=hTA.o.b1.frozen 2
 have hzW:w.heap.size+1<W.heap.size:=hTA.o.b1.lt
 refine c8 fun K hK=>?_
 go_wp2_with (go_at_call 98;refine Mo (hcm.o _) fun w1 hb1=>?_;have d1:w1.cell? ⟨w.heap.size+1,2,none⟩=some (.string x.r):=(by rw[hb1.cell (p:=⟨w.heap.size+1,2,none⟩) hzW];exact e0);have f1:w1.frozen? ⟨w.heap.size+1,2,none⟩=false:=(by rw[hb1.frozen (p:=⟨w.heap.size+1,2,none⟩) hzW];exact e1))
 refine fX ?_
 have hTB:Hid (TA w (w1.setCell ⟨w.heap.size+1,2,none⟩ (.string x.r)) c l x l):=by
  have p0:=hTA.o.b0.below hb1;have p1:=(hTA.o.b1.below hb1).set 2 (.string x.r)
  have ho:=(aK (w.heap.size+1) [.string x.r] 2 w1).2.2.2.2
  obtain⟨s,r,hh⟩:=hTA.o.ch;have g1:w.grownBy w1 (some c):=⟨hb1.os.trans hTA.o.gr.os,hb1.tape.trans hTA.o.gr.tape,hb1.output.trans hTA.o.gr.output,Nat.le_trans hTA.o.gr.size hb1.size,fun b hb hr=>(hb1.block b (Nat.lt_of_lt_of_le hb hTA.o.gr.size)).trans (hTA.o.gr.block b hb hr)⟩
  exact⟨⟨s,r,(ho c om).trans ((hb1.block c hTA.o.ch.lt).trans hh)⟩,(ho _ om).trans p0,p1,aP g1 (w.heap.size+1) 2 [.string x.r] (.inr om),.inl rfl⟩
 generalize w1.setCell ⟨w.heap.size+1,2,none⟩ (.string x.r)=W2 at hTB ⊢
 clear hb1 d1 f1 hcm w1 hTA e0 e1 hzW;have hTA:=hTB;clear hTB;refine rI (TB w c l x) (fun _ wr=>TN c wr) ?_ ?_
 ·exact⟨l,_,_,_,_,_,_,_,_,_,rfl,hTA⟩
 ·rintro a wr ⟨m,s12,s13,s14,s15,s16,s17,s18,s19,s20,rfl,H⟩
  clear hTA;have c0:wr.cell? ⟨w.heap.size,0,none⟩=some (.chan (some c)):=H.o.b0.cell 0
  have d0:wr.cell? ⟨w.heap.size+1,0,none⟩=some (.string x.t):=H.o.b1.cell 0
  have d1:wr.cell? ⟨w.heap.size+1,1,none⟩=some (.string x.l):=H.o.b1.cell 1
  have d2:wr.cell? ⟨w.heap.size+1,2,none⟩=some (.string x.r):=H.o.b1.cell 2
  refine fX (gp (kg ?_))
  go_wp2;refine gp (gn ?_)
  simp only[List.size_toArray,List.length_cons,List.length_nil,Nat.reduceAdd,Nat.zero_add,List.range,List.range.loop]
  obtain⟨s,r,hch⟩:=H.o.ch;by_cases hm:m.length<8
  ·refine oJ rfl rfl (c:=c) (v:=vT x) (z':=vT tk0) (w₁:=wr) (by simp[go_sem,execOp,Act.eval,scase,vT,tk0]) hch (by simp;omega) ?_
   have hch2:=heap_setChan wr c 8 (List.map vT m++[vT x]).toArray false (s+1) r false (Nat.lt_of_lt_of_le hcl H.o.gr.size)
   have gr:=f7 H.o.gr 8 (List.map vT m++[vT x]).toArray false (s+1) r false
   rw[qJ];generalize wr.setChan c 8 (List.map vT m++[vT x]).toArray false (s+1) r false=U at hch2 gr ⊢
   refine cC rfl rfl (v:=goInt 0) (w':=U) (by simp[go_sem,execOp,Act.eval,Act.put]) ?_
   refine cC rfl rfl (v:=.bool true) (w':=U) (by simp[go_sem,execOp,Act.eval,Act.put]) ?_
   refine jv ?_
   show wpN _ _ _ ⟨#[.agg #[.chan (some c)],vT x,.pointer (some ⟨w.heap.size,0,none⟩),.pointer (some ⟨w.heap.size+1,0,none⟩),.pointer (some ⟨w.heap.size+1,1,none⟩),.string x.l,.string x.l,.pointer (some ⟨w.heap.size+1,1,none⟩),.pointer (some ⟨w.heap.size+1,2,none⟩),.string x.r,.string x.r,.pointer (some ⟨w.heap.size+1,2,none⟩),.pointer (some ⟨w.heap.size,0,none⟩),.chan (some c),vT x,.tuple #[goInt 0,.bool false],goInt 0,.bool true,s18,s19,s20],[]⟩ U
   have hfin:Hid (Ch U c (dM l x)/\w.grownBy U (some c)):=by
    refine⟨⟨s+1,r,?_⟩,gr⟩
    have e:dM l x=m++[x]:=by
     unfold dM;rcases H.o.or with e|⟨e1,e2⟩
     ·rw[if_neg (by rw[<- e];omega),e]
     ·rw[if_pos om,e2]
    rw[e,List.map_append];exact hch2
   clear hch2 gr H hch c0 d0 d1 d2;refine kg ?_
   go_wp2;refine bodyPost_ret (results_none rfl _ _ _) rfl ?_
   exact⟨rfl,hfin.o⟩
  ·have hml:m.length=8:=by rcases H.o.or with e|⟨e1,e2⟩;rw[e] at hm ⊢;omega;rw[e2] at hm;simp at hm;omega
   have hmo:m=l:=by rcases H.o.or with e|⟨e1,e2⟩;exact e;rw[e2] at hml;simp at hml;omega
   subst hmo;refine oI rfl rfl (c:=c) (v:=vT x) (z':=vT tk0) (w₁:=wr) (by simp[go_sem,execOp,Act.eval,scase,vT,tk0]) hch (by simp;omega) ?_
   refine cC rfl rfl (v:=goInt (-1)) (w':=wr) (by simp[go_sem,execOp,Act.eval,Act.put]) ?_
   refine cC rfl rfl (v:=.bool false) (w':=wr) (by simp[go_sem,execOp,Act.eval,Act.put]) ?_
   refine jv ?_
   show wpN _ _ _ ⟨#[.agg #[.chan (some c)],vT x,.pointer (some ⟨w.heap.size,0,none⟩),.pointer (some ⟨w.heap.size+1,0,none⟩),.pointer (some ⟨w.heap.size+1,1,none⟩),.string x.l,.string x.l,.pointer (some ⟨w.heap.size+1,1,none⟩),.pointer (some ⟨w.heap.size+1,2,none⟩),.string x.r,.string x.r,.pointer (some ⟨w.heap.size+1,2,none⟩),.pointer (some ⟨w.heap.size,0,none⟩),.chan (some c),vT x,.tuple #[goInt (-1),.bool false],goInt (-1),.bool false,s18,s19,s20],[]⟩ wr
   refine fX (BP (t:=false) rfl (gn ?_))
   simp only[List.size_toArray,List.length_cons,List.length_nil,Nat.reduceAdd,Nat.zero_add,List.range,List.range.loop]
   obtain⟨y,r',hmy⟩:∃ y r',m=y::r':=by cases m with|nil=>simp at hml|cons y r'=>exact⟨y,r',rfl⟩
   have hch0:=hch;rw[hmy,List.map_cons] at hch;refine cC rfl rfl (v:=.pointer (some ⟨w.heap.size,0,none⟩)) (w':=wr) (by simp[go_sem,execOp,Act.eval]) ?_
   refine cC rfl rfl (v:=.chan (some c)) (w':=wr) (by simp[go_sem,execOp,Act.eval,Act.put,c0]) ?_
   refine qU rfl rfl (c:=c) (z:=vT tk0) (w₁:=wr) (by simp[go_sem,execOp,Act.eval,Act.put,rcase,vT,tk0]) hch sM ?_
   rw[ur];have hch2:=heap_setChan wr c 8 (List.map vT r').toArray false s (r+1) false (Nat.lt_of_lt_of_le hcl H.o.gr.size)
   have n0:w.heap.size≠c:=by omega
   have n1:w.heap.size+1≠c:=by omega
   have b0:=H.o.b0.chan n0 8 (List.map vT r').toArray false s (r+1) false
   have b1:=H.o.b1.chan n1 8 (List.map vT r').toArray false s (r+1) false
   have gr:=f7 H.o.gr 8 (List.map vT r').toArray false s (r+1) false
   generalize wr.setChan c 8 (List.map vT r').toArray false s (r+1) false=U at hch2 b0 b1 gr ⊢
   refine jv ?_
   refine⟨⟨r',_,_,_,_,_,_,_,_,_,rfl,(⟨⟨_,_,hch2⟩,b0,b1,gr,.inr ⟨hml,by rw[hmy];rfl⟩⟩:TA w U c m x r')⟩,?_⟩
   rw[DY hch2,DY hch0,hmy];simp
end Go.Proofs.YtjnhhnbgjjkkjaaGreatDoor
