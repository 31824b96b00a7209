import Derived.Test.YtjnhhnbgjjkkjaaGreatDoorRePAJ
set_option linter.all false
set_option maxRecDepth 100000
set_option maxHeartbeats 2000000
namespace Go.Proofs.YtjnhhnbgjjkkjaaGreatDoor
section
open Go.ChangeShapes Go.WideShapes Go.ChangeAt Go.RowKit Go.Proofs.Tryz
theorem lV(a:Int)(w:World)(ha:ad a):Cr prog 233 #[I6 a] w (.agg #[U3 a,I6 32]):=by
 have e1:IntKind.u32.wrap a=a:=jx _ ha.1 ha.2
 go_enter func233,ntmps233
 go_wp2;have hfin:Ending.returned (Value.agg #[U3 a,I6 32])=.returned (.agg #[U3 a,I6 32])/\Bl w (w.alloc (.cells #[U3 a,I6 32] 80)):=⟨rfl,upB⟩
 exact bodyPost_ret (v:=.agg #[U3 a,I6 32]) (by simp[results,results233,go_sem]) rfl hfin
def usR(b n x:Int):Bool:=if n<=30/\(x=b\/x=lst b n) then false else decide (b<=x)&&decide (x<=lst b n)
theorem kG(b n x:Int)(w:World)(hb:ad b)(n0:0<=n)(n1:n<=32)(x0:0<=x)(x1:x<4294967296):Cr prog 232 #[.agg #[U3 b,I6 n],I6 x] w (.bool (usR b n x)):=by
 obtain⟨b0,b1⟩:=hb;have e1:IntKind.i64.wrap b=b:=bf _ b0 b1
 have HL:Hid (∀ W,Cr prog 231 #[.agg #[U3 b,I6 n]] W (I6 (lst b n))):=fun W=>eU b n W b0 b1 n0 n1
 obtain⟨z,hz⟩:∃ z,lst b n=z:=⟨_,rfl⟩
 obtain⟨r,hr⟩:∃ r,usR b n x=r:=⟨_,rfl⟩
 have HR:Hid (usR b n x=r):=hr
 unfold usR at hr;rw[hz] at HL hr;rw[HR.o];have W2:∀ {w1 w2:World},Bl w w1->Bl w1 w2->Bl w w2:=fun h k=>bup h k
 have HW:Hid (∀ {w1 w2:World},Bl w w1->Bl w1 w2->Bl w w2):=W2
 clear W2 hz HR;have arm2:True:=trivial
 by_cases c1:n<=30
 ·by_cases c2:x=b
  ·obtain rfl:r=false:=by rw[<- hr,if_pos ⟨c1,.inl c2⟩]
   have q2:(x==b)=true:=by simpa using c2
   clear hr c2;go_enter func232,ntmps232
   go_wp2;go_ret;exact⟨rfl,upB⟩
  ·have q2:(x==b)=false:=by simpa using c2
   by_cases c3:x=z
   ·obtain rfl:r=false:=by rw[<- hr,if_pos ⟨c1,.inr c3⟩]
    have q3:(x==z)=true:=by simpa using c3
    clear hr c2 c3;go_enter func232,ntmps232
    go_wp2_with (go_at_call 231;refine(HL.o _).mono ?_;rintro e w1 ⟨rfl,hb1⟩)
    go_ret;exact⟨rfl,HW.o upB hb1⟩
   ·have q3:(x==z)=false:=by simpa using c3
    have hr2:(decide (b<=x)&&decide (x<=z))=r:=by rw[<- hr,if_neg (by simp[c2,c3])]
    clear hr c3;by_cases c4:b<=x
    ·have HQ:Hid (decide (x<=z)=r):=by show decide (x<=z)=r;rw[<- hr2,decide_eq_true c4];rfl
     clear hr2 c2;go_enter func232,ntmps232
     go_wp2_with (first
      | (go_at_call 231;refine Mo (HL.o _) fun w2 hb2=>?_;have HB2:Hid (Bl w w2):=HW.o (HB1.o) hb2;clear hb2)
      | (go_at_call 231;refine Mo (HL.o _) fun w1 hb1=>?_;have HB1:Hid (Bl w w1):=HW.o upB hb1;have k0:w1.cell? (Nw w 0)=some (U3 b):=cN hb1;have k1:w1.cell? (Nw w 1)=some (I6 n):=cN hb1;clear hb1))
     go_ret;exact⟨aC HQ.o,HB2.o⟩
    ·obtain rfl:r=false:=by rw[<- hr2,decide_eq_false c4];rfl
     clear hr2 c2;go_enter func232,ntmps232
     go_wp2_with (go_at_call 231;refine Mo (HL.o _) fun w1 hb1=>?_;have HB1:Hid (Bl w w1):=HW.o upB hb1;have k0:w1.cell? (Nw w 0)=some (U3 b):=cN hb1;clear hb1)
     go_ret;exact⟨rfl,HB1.o⟩
 ·have hr2:(decide (b<=x)&&decide (x<=z))=r:=by rw[<- hr,if_neg (by simp[c1])]
  clear hr;by_cases c4:b<=x
  ·have HQ:Hid (decide (x<=z)=r):=by show decide (x<=z)=r;rw[<- hr2,decide_eq_true c4];rfl
   clear hr2;go_enter func232,ntmps232
   go_wp2_with (go_at_call 231;refine Mo (HL.o _) fun w1 hb1=>?_;have HB1:Hid (Bl w w1):=HW.o upB hb1;clear hb1)
   go_ret;exact⟨aC HQ.o,HB1.o⟩
  ·obtain rfl:r=false:=by rw[<- hr2,decide_eq_false c4];rfl
   clear hr2;go_enter func232,ntmps232
   go_wp2;go_ret;exact⟨rfl,upB⟩
def oA(c:UInt8):Bool:=(decide (97<=c.toNat)&&decide (c.toNat<=122))||(decide (48<=c.toNat)&&decide (c.toNat<=57))
theorem nd(l:Lu):ag l=(decide (0<l.length)&&decide (l.length<=8)&&l.all oA):=rfl
theorem nK(s:Bz)(w:World)(hs:s.size<=2097152):Cr prog 183 #[.string s] w (.bool (ag s.data.toList)):=by
 have HE:Hid (∀ k (h:k<s.size),s[k]'h=s.data.toList.getD k 0):=fun k h=>by
  rw[List.getD_eq_getElem?_getD,List.getElem?_eq_getElem (by simpa using h)];rfl
 have HS:Hid (s.data.toList.length=s.size):=by show s.data.toList.length=s.size;simp
 go_enter func183,ntmps183
 go_wp2;go_loopw [3] (fun i wr=>∃ k:Nat,k<=s.size/\i=I6 k/\Hid (∀ j,j<k->oA (s.data.toList.getD j 0)=true)/\Hid (Bl w wr)) (fun i _=>s.size-(intOf i).toNat)
 case atStart=>exact⟨0,Nat.zero_le _,rfl,fun j hj=>absurd hj (Nat.not_lt_zero _),(show Below _ _ _ from upB)⟩
 case round =>
  obtain⟨k,hk,rfl,HI,HB⟩:=hrel;by_cases hlt:k<s.size
  ·have hc:=HE.o k hlt;have NX:Hid (oA (s.data.toList.getD k 0)=true->∀ j,j<k+1->oA (s.data.toList.getD j 0)=true):=fun q j hj=>by
    by_cases e:j=k
    ·rw[e];exact q
    ·exact HI.o j om
   have NO:Hid (oA (s.data.toList.getD k 0)=false->ag s.data.toList=false):=fun q=>by
    rw[nd];have:s.data.toList.all oA=false:=by
     rw[List.all_eq_false];refine⟨s.data.toList.getD k 0,?_,by rw[q];simp⟩
     rw[List.getD_eq_getElem?_getD,List.getElem?_eq_getElem (by rw[HS.o];exact hlt)];exact List.getElem_mem _
    rw[this];simp
   rw[<- hc] at NX NO;clear hc HI HE HS;obtain⟨x,hx⟩:∃ x:Nat,(s[k]'hlt).toNat=x:=⟨_,rfl⟩
   have hd:oA (s[k]'hlt)=((decide (97<=x)&&decide (x<=122))||(decide (48<=x)&&decide (x<=57))):=by unfold oA;rw[hx]
   have hxi:(((s[k]'hlt).toNat:Nat):Int)=(x:Int):=by rw[hx]
   rw[hd] at NX NO;clear hd hx;rcases (show (x<48)\/(48<=x/\x<=57)\/(57<x/\x<97)\/(97<=x/\x<=122)\/122<x by omega) with c|⟨c1,c2⟩|⟨c1,c2⟩|⟨c1,c2⟩|c
   ·have HF:Hid (ag s.data.toList=false):=NO.o (by simp;omega)
    have q1:(x:Int)<97:=by omega
    have q2:(x:Int)<48:=by omega
    clear NX NO;go_wp2;go_ret;exact⟨aC HF.o.symm,HB.o⟩
   ·have HT:=NX.o (by simp;omega)
    have q1:(x:Int)<97:=by omega
    have q2:¬(x:Int)<48:=by omega
    have q3:¬(57:Int)<(x:Int):=by omega
    clear NX NO;replace HT:Hid _:=HT;go_wp2;go_roundw
    case rel=>exact⟨k+1,by omega,by go_num,HT.o,HB.o⟩
    case measure=>simp[intOf];omega
   ·have HF:Hid (ag s.data.toList=false):=NO.o (by simp;omega)
    have q1:(x:Int)<97:=by omega
    have q2:¬(x:Int)<48:=by omega
    have q3:(57:Int)<(x:Int):=by omega
    clear NX NO;go_wp2;go_ret;exact⟨aC HF.o.symm,HB.o⟩
   ·have HT:=NX.o (by simp;omega)
    have q1:¬(x:Int)<97:=by omega
    have q2:¬(122:Int)<(x:Int):=by omega
    clear NX NO;replace HT:Hid _:=HT;go_wp2;go_roundw
    case rel=>exact⟨k+1,by omega,by go_num,HT.o,HB.o⟩
    case measure=>simp[intOf];omega
   ·have HF:Hid (ag s.data.toList=false):=NO.o (by simp;omega)
    have q1:¬(x:Int)<97:=by omega
    have q2:(122:Int)<(x:Int):=by omega
    have q3:¬(x:Int)<48:=by omega
    have q4:(57:Int)<(x:Int):=by omega
    clear NX NO;go_wp2;go_ret;exact⟨aC HF.o.symm,HB.o⟩
  ·obtain rfl:k=s.size:=by omega
   have HF:Hid (ag s.data.toList=(decide (1<=s.size)&&decide (s.size<=8))):=by
    show ag s.data.toList=_
    rw[nd,HS.o];have:s.data.toList.all oA=true:=by
     rw[List.all_eq_true];intro c hc;obtain⟨j,hj,rfl⟩:=List.getElem_of_mem hc;have:=HI.o j (by rw[<- HS.o];exact hj)
     rwa [List.getD_eq_getElem?_getD,List.getElem?_eq_getElem hj] at this
    rw[this];simp[Nat.lt_iff_add_one_le]
   clear HE HS HI;by_cases c1:1<=s.size
   ·by_cases c2:s.size<=8
    ·have HG:Hid (ag s.data.toList=true):=by show ag s.data.toList=true;rw[HF.o,decide_eq_true c1,decide_eq_true c2];rfl
     have q1:(1:Int)<=(s.size:Int):=by omega
     have q2:(s.size:Int)<=8:=by omega
     clear HF;go_wp2;go_ret;exact⟨aC HG.o.symm,HB.o⟩
    ·have HG:Hid (ag s.data.toList=false):=by show ag s.data.toList=false;rw[HF.o,decide_eq_true c1,decide_eq_false c2];rfl
     have q1:(1:Int)<=(s.size:Int):=by omega
     have q2:¬(s.size:Int)<=8:=by omega
     clear HF;go_wp2;go_ret;exact⟨aC HG.o.symm,HB.o⟩
   ·have HG:Hid (ag s.data.toList=false):=by show ag s.data.toList=false;rw[HF.o,decide_eq_false c1];rfl
    have q1:¬(1:Int)<=(s.size:Int):=by omega
    clear HF;go_wp2;go_ret;exact⟨aC HG.o.symm,HB.o⟩
end
section
open Go.ChangeShapes Go.WideShapes Go.ChangeAt Go.RowKit
abbrev BW(w:World)(l:Ln):World->Prop:=Below (w.heap.size+2) ((w.alloc (.cells #[I6 l.v,.string l.t,.string l.o,U3 l.a,I6 l.n,U3 l.d,I6 l.g] 93)).alloc (.cells #[I6 0,.slice none 0 0] 98))
theorem BA.c3{w:World}{x:Nat}{S:Nat->Prop}{vp vn vl:Value}{c:Nat}{s:Bk}(B:BA w x S vp vn vl c s):w.cell? (At x 0)=some vp/\w.cell? (At x 1)=some vn/\w.cell? (At x 2)=some vl:=⟨B.blk.cell 0,B.blk.cell 1,B.blk.cell 2⟩
structure cd(w wk:World)(x:Nat)(vp vn vl:Value)(l:Ln):Prop where
 x0:wk.cell? (At x 0)=some vp
 x1:wk.cell? (At x 1)=some vn
 x2:wk.cell? (At x 2)=some vl
 f0:wk.frozen? (At x 0)=false
 f1:wk.frozen? (At x 1)=false
 f2:wk.frozen? (At x 2)=false
 o:wk.cell? (Nw w 2)=some (.string l.o)
 a:wk.cell? (Nw w 3)=some (U3 l.a)
 n:wk.cell? (Nw w 4)=some (I6 l.n)
 d:wk.cell? (Nw w 5)=some (U3 l.d)
 g:wk.cell? (Nw w 6)=some (I6 l.g)
 r0:wk.cell? (At (w.heap.size+1) 0)=some (I6 0)
 r1:wk.cell? (At (w.heap.size+1) 1)=some (.slice none 0 0)
 g0:wk.frozen? (At (w.heap.size+1) 0)=false
 g1:wk.frozen? (At (w.heap.size+1) 1)=false
 zx:x<wk.heap.size
 z0:w.heap.size<wk.heap.size
 z1:w.heap.size+1<wk.heap.size
 rb:Blk wk (w.heap.size+1) #[I6 0,.slice none 0 0] 98
theorem cd.q{w v:World}{x:Nat}{p n c:Value}{l:Ln}(h:cd w v x p n c l):v.cell? (At (w.heap.size+1) 0)=some (I6 0)/\v.cell? (At (w.heap.size+1) 1)=some (.slice none 0 0)/\v.frozen? (At (w.heap.size+1) 0)=false/\v.frozen? (At (w.heap.size+1) 1)=false/\w.heap.size+1<v.heap.size:=⟨h.r0,h.r1,h.g0,h.g1,h.z1⟩
theorem aO{w:World}{x:Nat}{S:Nat->Prop}{vp vn vl:Value}{c:Nat}{s:Bk}(l:Ln)(h:BA w x S vp vn vl c s)(wk:World)(hb:BW w l wk):cd w wk x vp vn vl l:=by
 have hx:=h.blk.lt;have q0:Blk ((w.alloc (.cells #[I6 l.v,.string l.t,.string l.o,U3 l.a,I6 l.n,U3 l.d,I6 l.g] 93)).alloc (.cells #[I6 0,.slice none 0 0] 98)) x #[vp,vn,vl] 160:=h.blk.below upB
 have q1:Blk ((w.alloc (.cells #[I6 l.v,.string l.t,.string l.o,U3 l.a,I6 l.n,U3 l.d,I6 l.g] 93)).alloc (.cells #[I6 0,.slice none 0 0] 98)) w.heap.size #[I6 l.v,.string l.t,.string l.o,U3 l.a,I6 l.n,U3 l.d,I6 l.g] 93:=(Below.heap_alloc _ _ _ sM).trans (Blk.new w _ _)
 have q2:=Blk.new (w.alloc (.cells #[I6 l.v,.string l.t,.string l.o,U3 l.a,I6 l.n,U3 l.d,I6 l.g] 93)) #[I6 0,.slice none 0 0] 98
 rw[show (w.alloc (.cells #[I6 l.v,.string l.t,.string l.o,U3 l.a,I6 l.n,U3 l.d,I6 l.g] 93)).heap.size=w.heap.size+1 by simp] at q2
 have hz:=hb.size;simp at hz;have p0:Blk wk x #[vp,vn,vl] 160:=(hb.block x om).trans q0
 have p1:Blk wk w.heap.size #[I6 l.v,.string l.t,.string l.o,U3 l.a,I6 l.n,U3 l.d,I6 l.g] 93:=(hb.block _ om).trans q1
 have p2:Blk wk (w.heap.size+1) #[I6 0,.slice none 0 0] 98:=(hb.block _ om).trans q2
 exact⟨p0.cell 0,p0.cell 1,p0.cell 2,p0.frozen 0,p0.frozen 1,p0.frozen 2,p1.cell 2,p1.cell 3,p1.cell 4,p1.cell 5,p1.cell 6,p2.cell 0,p2.cell 1,p2.frozen 0,p2.frozen 1,by omega,by omega,by omega,p2⟩
theorem ay{w:World}{g:Nat}{t:TypeId}{u0 u1:Value}(h:Blk w g #[u0,u1] t)(a b:Value):((w.setCell (At g 0) a).setCell (At g 1) b).cell? (At g 0)=some a/\((w.setCell (At g 0) a).setCell (At g 1) b).cell? (At g 1)=some b :=
 ⟨((h.set 0 a).set 1 b).cell 0,((h.set 0 a).set 1 b).cell 1⟩
theorem al{n:Nat}{A Wc wk:World}(h1:Below n A Wc)(hz:n<=A.heap.size)(hq:Bl Wc wk):Below n A wk:=h1.trans (hq.mono (Nat.le_trans hz h1.size))
theorem ab(w:World)(l:Ln):Bl w ((w.alloc (.cells #[I6 l.v,.string l.t,.string l.o,U3 l.a,I6 l.n,U3 l.d,I6 l.g] 93)).alloc (.cells #[I6 0,.slice none 0 0] 98)):=upB
theorem a7{w w9:World}{x:Nat}{S:Nat->Prop}{s:Bk}{l:Ln}(k:Nat)(h:au w x S s)(hb:BW w l w9):Res w x S (s,ref k) (.returned (.agg #[I6 k,.slice none 0 0])) ((w9.setCell (At (w.heap.size+1) 0) (I6 k)).setCell (At (w.heap.size+1) 1) (.slice none 0 0)):=by
 have h0:=(ab w l).trans (hb.mono om)
 have hz:=hb.size;simp at hz;exact qT k h upB
end
section
open Go.ChangeShapes Go.WideShapes Go.ChangeAt Go.RowKit Go.Proofs.Tryz
theorem gH(k:Nat)(b:Option Addr)(n c:Nat)(w:World):Cr prog 61 #[.agg #[I6 k,.slice b n c]] w (.bool (decide (k=0))):=by
 go_enter func61,ntmps61
 go_wp2;by_cases hk:k=0
 ·subst hk;go_returns
  exact⟨rfl,upB⟩
 ·have h2:¬((k:Int)=0):=by omega
  go_returns
  exact⟨by simp[hk],upB⟩
end
section
open Go.ChangeShapes Go.WideShapes Go.ChangeAt Go.RowKit
theorem cd.same{w W w2:World}{x:Nat}{vp vn vl:Value}{l:Ln}(L:cd w W x vp vn vl l)(hz:W.heap.size<=w2.heap.size)(hx:w2.heap[x]?=W.heap[x]?)(h0:w2.heap[w.heap.size]?=W.heap[w.heap.size]?)(h1:w2.heap[w.heap.size+1]?=W.heap[w.heap.size+1]?):cd w w2 x vp vn vl l :=
 ⟨(World.cell?_of_block (a:=At x 0) hx).trans L.x0,(World.cell?_of_block (a:=At x 1) hx).trans L.x1,(World.cell?_of_block (a:=At x 2) hx).trans L.x2,(World.frozen?_of_block (a:=At x 0) hx).trans L.f0,(World.frozen?_of_block (a:=At x 1) hx).trans L.f1,(World.frozen?_of_block (a:=At x 2) hx).trans L.f2,
  (World.cell?_of_block (a:=Nw w 2) h0).trans L.o,(World.cell?_of_block (a:=Nw w 3) h0).trans L.a,(World.cell?_of_block (a:=Nw w 4) h0).trans L.n,(World.cell?_of_block (a:=Nw w 5) h0).trans L.d,(World.cell?_of_block (a:=Nw w 6) h0).trans L.g,
  (World.cell?_of_block (a:=At (w.heap.size+1) 0) h1).trans L.r0,(World.cell?_of_block (a:=At (w.heap.size+1) 1) h1).trans L.r1,(World.frozen?_of_block (a:=At (w.heap.size+1) 0) h1).trans L.g0,(World.frozen?_of_block (a:=At (w.heap.size+1) 1) h1).trans L.g1,by have:=L.zx;omega,by have:=L.z0;omega,by have:=L.z1;omega,h1.trans L.rb⟩
theorem cd.far{w W w2:World}{x:Nat}{vp vn vl:Value}{l:Ln}{row:Option Nat}(L:cd w W x vp vn vl l)(g:W.grownBy w2 row)(hx:row≠some x)(hr:∀ b,row=some b->b<w.heap.size):cd w w2 x vp vn vl l :=
 L.same g.size (g.block x L.zx fun e=>hx e.symm) (g.block _ L.z0 fun e=>by have:=hr _ e.symm;omega) (g.block _ L.z1 fun e=>by have:=hr _ e.symm;omega)
theorem qQ{w W w2 w4:World}{x:Nat}{S:Nat->Prop}{vp vn vl:Value}{c:Nat}{s:Bk}(B:BA w x S vp vn vl c s)(hW:Bl w W)(hz:w.heap.size+2<=W.heap.size)(g2:W.grownBy w2 vp.ownBlock){v':Value}{new:List Hd}
  (o:w2.ownsRow 0 155 3 v' new.length (new.flatMap ak)) (ho:∀ b,v'.ownBlock=some b->vp.ownBlock=some b\/W.heap.size<=b) (h4:Below w2.heap.size (w2.setCell (At x 0) v') w4) :
  Res w x S ({ s with pools:=new },okA) (.returned (.agg #[I6 0,.slice none 0 0])) ((w4.setCell (At (w.heap.size+1) 0) (I6 0)).setCell (At (w.heap.size+1) 1) (.slice none 0 0)):=by
 obtain⟨AP0,AP1,AP2⟩:=B.apart;have hx:=B.blk.lt;have hzs:w2.heap.size<=w4.heap.size:=by have:=h4.size;simpa[World.setCell,Bl] using this
 have s1:=aK (w.heap.size+1) [I6 0,.slice none 0 0] 0 w4
 have hx2:(w2.setCell (At x 0) v').heap.size=w2.heap.size:=by simp[World.setCell]
 have hfin:∀ b,b<w2.heap.size->b≠x->b≠w.heap.size+1->(((w4.setCell (At (w.heap.size+1) 0) (I6 0)).setCell (At (w.heap.size+1) 1) (.slice none 0 0))).heap[b]?=w2.heap[b]?:=fun b hb hbx hb1 =>
  (s1.2.2.2.2 b hb1).trans ((h4.block b hb).trans (Below.heap_setCell _ _ _ _ hbx))
 have hold:∀ b,S b->b≠x->vp.ownBlock≠some b->(((w4.setCell (At (w.heap.size+1) 0) (I6 0)).setCell (At (w.heap.size+1) 1) (.slice none 0 0))).heap[b]?=w.heap[b]?:=fun b hS hbx hv=>by
  have hb:=B.sz b hS;exact(hfin b (by have:=g2.size;omega) hbx om).trans ((g2.block b om (fun e=>hv e.symm)).trans (hW.block b hb))
 have hbk:Blk ((w4.setCell (At (w.heap.size+1) 0) (I6 0)).setCell (At (w.heap.size+1) 1) (.slice none 0 0)) x #[v',vn,vl] 160:=by
  have b1:Blk w2 x #[vp,vn,vl] 160:=(g2.block x om (fun e=>(AP0 x e.symm).1 rfl)).trans (B.blk.below hW)
  have b2:=b1.set 0 v';have b3:Blk w4 x #[v',vn,vl] 160:=(h4.block x b1.lt).trans b2
  exact(s1.2.2.2.2 x om).trans b3
 refine⟨_,fun b=>S b\/v'.ownBlock=some b,rfl,iL _ _ _ _,⟨v',vn,vl,c,hbk,?_,?_,?_,?_,.inl B.sx,trivial,?_,?_,?_,?_⟩,?_,?_⟩
 ·trivial
 ·refine aL o fun b e=>hfin b (cI o b e).1 ?_ ?_
  ·rintro rfl
   rcases ho _ e with q|q
   ·exact(AP0 _ q).1 rfl
   ·omega
  ·rintro rfl
   rcases ho _ e with q|q
   ·have:=B.sz _ (B.sp _ q);omega
   ·omega
 ·exact aL B.on fun b e=>hold b (B.sn b e) (AP1 b e).1 (AP1 b e).2.2.1
 ·exact aL B.ol fun b e=>hold b (B.sl b e) (AP2 b e).1 (AP2 b e).2.2.1
 ·exact fun b e=>.inr e
 ·exact fun b e=>.inl (B.sn b e)
 ·exact fun b e=>.inl (B.sl b e)
 ·rintro b (hb|hb)
  ·have:=B.sz b hb
   have:=hW.size
   have:=g2.size
   have h5:=s1.2.2.2.1;rw[show ((w4.setCell (At (w.heap.size+1) 0) (I6 0)).setCell (At (w.heap.size+1) 1) (.slice none 0 0)).heap.size=w4.heap.size from h5];omega
  ·have:=(cI o b hb).1
   have h5:=s1.2.2.2.1;rw[show ((w4.setCell (At (w.heap.size+1) 0) (I6 0)).setCell (At (w.heap.size+1) 1) (.slice none 0 0)).heap.size=w4.heap.size from h5];omega
 ·rintro b (hb|hb)
  ·exact .inl hb
  ·rcases ho b hb with q|q
   ·exact .inl (B.sp b q)
   ·exact .inr om
 ·have c1:Chg S w W:=Chg.below hW
  have c2:Chg S W w2:=Chg.grown g2 fun b e=>B.sp b e
  have c3:=(c1.trans c2 fun b e=>.inl e).sets x 0 [v'] (.inl B.sx)
  have c4:Chg S (w2.setCell (At x 0) v') w4:=⟨h4.os,h4.tape,h4.output,h4.size,fun b hb hS=>h4.block b (by rw[hx2] at hb;exact hb)⟩
  exact(c3.trans c4 fun b e=>.inl e).sets (w.heap.size+1) 0 [I6 0,.slice none 0 0] (.inr om)
theorem AP{w W w2 w4:World}{x:Nat}{S:Nat->Prop}{vp vn vl:Value}{c:Nat}{s:Bk}(B:BA w x S vp vn vl c s)(hW:Bl w W)(hz:w.heap.size+2<=W.heap.size)(g2:W.grownBy w2 vn.ownBlock){v':Value}{new:List Hd}
  (o:w2.ownsRow 0 195 3 v' new.length (new.flatMap ak)) (ho:∀ b,v'.ownBlock=some b->vn.ownBlock=some b\/W.heap.size<=b) (h4:Below w2.heap.size (w2.setCell (At x 1) v') w4) :
  Res w x S ({ s with nets:=new },okA) (.returned (.agg #[I6 0,.slice none 0 0])) ((w4.setCell (At (w.heap.size+1) 0) (I6 0)).setCell (At (w.heap.size+1) 1) (.slice none 0 0)):=by
 obtain⟨AP0,AP1,AP2⟩:=B.apart;have hx:=B.blk.lt;have hzs:w2.heap.size<=w4.heap.size:=by have:=h4.size;simpa[World.setCell,Bl] using this
 have s1:=aK (w.heap.size+1) [I6 0,.slice none 0 0] 0 w4
 have hx2:(w2.setCell (At x 1) v').heap.size=w2.heap.size:=by simp[World.setCell]
 have hfin:∀ b,b<w2.heap.size->b≠x->b≠w.heap.size+1->(((w4.setCell (At (w.heap.size+1) 0) (I6 0)).setCell (At (w.heap.size+1) 1) (.slice none 0 0))).heap[b]?=w2.heap[b]?:=fun b hb hbx hb1 =>
  (s1.2.2.2.2 b hb1).trans ((h4.block b hb).trans (Below.heap_setCell _ _ _ _ hbx))
 have hold:∀ b,S b->b≠x->vn.ownBlock≠some b->(((w4.setCell (At (w.heap.size+1) 0) (I6 0)).setCell (At (w.heap.size+1) 1) (.slice none 0 0))).heap[b]?=w.heap[b]?:=fun b hS hbx hv=>by
  have hb:=B.sz b hS;exact(hfin b (by have:=g2.size;omega) hbx om).trans ((g2.block b om (fun e=>hv e.symm)).trans (hW.block b hb))
 have hbk:Blk ((w4.setCell (At (w.heap.size+1) 0) (I6 0)).setCell (At (w.heap.size+1) 1) (.slice none 0 0)) x #[vp,v',vl] 160:=by
  have b1:Blk w2 x #[vp,vn,vl] 160:=(g2.block x om (fun e=>(AP1 x e.symm).1 rfl)).trans (B.blk.below hW)
  have b2:=b1.set 1 v';have b3:Blk w4 x #[vp,v',vl] 160:=(h4.block x b1.lt).trans b2
  exact(s1.2.2.2.2 x om).trans b3
 refine⟨_,fun b=>S b\/v'.ownBlock=some b,rfl,iL _ _ _ _,⟨vp,v',vl,c,hbk,?_,?_,?_,?_,.inl B.sx,trivial,?_,?_,?_,?_⟩,?_,?_⟩
 ·trivial
 ·exact aL B.op fun b e=>hold b (B.sp b e) (AP0 b e).1 (AP0 b e).2.2.1
 ·refine aL o fun b e=>hfin b (cI o b e).1 ?_ ?_
  ·rintro rfl
   rcases ho _ e with q|q
   ·exact(AP1 _ q).1 rfl
   ·omega
  ·rintro rfl
   rcases ho _ e with q|q
   ·have:=B.sz _ (B.sn _ q);omega
   ·omega
 ·exact aL B.ol fun b e=>hold b (B.sl b e) (AP2 b e).1 (AP2 b e).2.2.2
 ·exact fun b e=>.inl (B.sp b e)
 ·exact fun b e=>.inr e
 ·exact fun b e=>.inl (B.sl b e)
 ·rintro b (hb|hb)
  ·have:=B.sz b hb
   have:=hW.size
   have:=g2.size
   have h5:=s1.2.2.2.1;rw[show ((w4.setCell (At (w.heap.size+1) 0) (I6 0)).setCell (At (w.heap.size+1) 1) (.slice none 0 0)).heap.size=w4.heap.size from h5];omega
  ·have:=(cI o b hb).1
   have h5:=s1.2.2.2.1;rw[show ((w4.setCell (At (w.heap.size+1) 0) (I6 0)).setCell (At (w.heap.size+1) 1) (.slice none 0 0)).heap.size=w4.heap.size from h5];omega
 ·rintro b (hb|hb)
  ·exact .inl hb
  ·rcases ho b hb with q|q
   ·exact .inl (B.sn b q)
   ·exact .inr om
 ·have c1:Chg S w W:=Chg.below hW
  have c2:Chg S W w2:=Chg.grown g2 fun b e=>B.sn b e
  have c3:=(c1.trans c2 fun b e=>.inl e).sets x 1 [v'] (.inl B.sx)
  have c4:Chg S (w2.setCell (At x 1) v') w4:=⟨h4.os,h4.tape,h4.output,h4.size,fun b hb hS=>h4.block b (by rw[hx2] at hb;exact hb)⟩
  exact(c3.trans c4 fun b e=>.inl e).sets (w.heap.size+1) 0 [I6 0,.slice none 0 0] (.inr om)
theorem AQ{w W w2 w4:World}{x:Nat}{S:Nat->Prop}{vp vn vl:Value}{c:Nat}{s:Bk}(B:BA w x S vp vn vl c s)(hW:Bl w W)(hz:w.heap.size+2<=W.heap.size)(g2:W.grownBy w2 vl.ownBlock){v':Value}{new:List Ls}
  (o:w2.ownsRow 0 208 2 v' new.length (new.flatMap br)) (ho:∀ b,v'.ownBlock=some b->vl.ownBlock=some b\/W.heap.size<=b) (h4:Below w2.heap.size (w2.setCell (At x 2) v') w4) :
  Res w x S ({ s with leases:=new },okA) (.returned (.agg #[I6 0,.slice none 0 0])) ((w4.setCell (At (w.heap.size+1) 0) (I6 0)).setCell (At (w.heap.size+1) 1) (.slice none 0 0)):=by
 obtain⟨AP0,AP1,AP2⟩:=B.apart;have hx:=B.blk.lt;have hzs:w2.heap.size<=w4.heap.size:=by have:=h4.size;simpa[World.setCell,Bl] using this
 have s1:=aK (w.heap.size+1) [I6 0,.slice none 0 0] 0 w4
 have hx2:(w2.setCell (At x 2) v').heap.size=w2.heap.size:=by simp[World.setCell]
 have hfin:∀ b,b<w2.heap.size->b≠x->b≠w.heap.size+1->(((w4.setCell (At (w.heap.size+1) 0) (I6 0)).setCell (At (w.heap.size+1) 1) (.slice none 0 0))).heap[b]?=w2.heap[b]?:=fun b hb hbx hb1 =>
  (s1.2.2.2.2 b hb1).trans ((h4.block b hb).trans (Below.heap_setCell _ _ _ _ hbx))
 have hold:∀ b,S b->b≠x->vl.ownBlock≠some b->(((w4.setCell (At (w.heap.size+1) 0) (I6 0)).setCell (At (w.heap.size+1) 1) (.slice none 0 0))).heap[b]?=w.heap[b]?:=fun b hS hbx hv=>by
  have hb:=B.sz b hS;exact(hfin b (by have:=g2.size;omega) hbx om).trans ((g2.block b om (fun e=>hv e.symm)).trans (hW.block b hb))
 have hbk:Blk ((w4.setCell (At (w.heap.size+1) 0) (I6 0)).setCell (At (w.heap.size+1) 1) (.slice none 0 0)) x #[vp,vn,v'] 160:=by
  have b1:Blk w2 x #[vp,vn,vl] 160:=(g2.block x om (fun e=>(AP2 x e.symm).1 rfl)).trans (B.blk.below hW)
  have b2:=b1.set 2 v';have b3:Blk w4 x #[vp,vn,v'] 160:=(h4.block x b1.lt).trans b2
  exact(s1.2.2.2.2 x om).trans b3
 refine⟨_,fun b=>S b\/v'.ownBlock=some b,rfl,iL _ _ _ _,⟨vp,vn,v',c,hbk,?_,?_,?_,?_,.inl B.sx,trivial,?_,?_,?_,?_⟩,?_,?_⟩
 ·trivial
 ·exact aL B.op fun b e=>hold b (B.sp b e) (AP0 b e).1 (AP0 b e).2.2.2
 ·exact aL B.on fun b e=>hold b (B.sn b e) (AP1 b e).1 (AP1 b e).2.2.2
 ·refine aL o fun b e=>hfin b (cI o b e).1 ?_ ?_
  ·rintro rfl
   rcases ho _ e with q|q
   ·exact(AP2 _ q).1 rfl
   ·omega
  ·rintro rfl
   rcases ho _ e with q|q
   ·have:=B.sz _ (B.sl _ q);omega
   ·omega
 ·exact fun b e=>.inl (B.sp b e)
 ·exact fun b e=>.inl (B.sn b e)
 ·exact fun b e=>.inr e
 ·rintro b (hb|hb)
  ·have:=B.sz b hb
   have:=hW.size
   have:=g2.size
   have h5:=s1.2.2.2.1;rw[show ((w4.setCell (At (w.heap.size+1) 0) (I6 0)).setCell (At (w.heap.size+1) 1) (.slice none 0 0)).heap.size=w4.heap.size from h5];omega
  ·have:=(cI o b hb).1
   have h5:=s1.2.2.2.1;rw[show ((w4.setCell (At (w.heap.size+1) 0) (I6 0)).setCell (At (w.heap.size+1) 1) (.slice none 0 0)).heap.size=w4.heap.size from h5];omega
 ·rintro b (hb|hb)
  ·exact .inl hb
  ·rcases ho b hb with q|q
   ·exact .inl (B.sl b q)
   ·exact .inr om
 ·have c1:Chg S w W:=Chg.below hW
  have c2:Chg S W w2:=Chg.grown g2 fun b e=>B.sl b e
  have c3:=(c1.trans c2 fun b e=>.inl e).sets x 2 [v'] (.inl B.sx)
  have c4:Chg S (w2.setCell (At x 2) v') w4:=⟨h4.os,h4.tape,h4.output,h4.size,fun b hb hS=>h4.block b (by rw[hx2] at hb;exact hb)⟩
  exact(c3.trans c4 fun b e=>.inl e).sets (w.heap.size+1) 0 [I6 0,.slice none 0 0] (.inr om)
end
section
open Go.ChangeShapes Go.WideShapes Go.ChangeAt Go.RowKit Go.Proofs.Tryz
theorem qh(l:List Hd)(h:Hd):(cm l h).length=l.length+1:=by
 have hle:fk l h.a<=l.length:=List.countP_le_length
 unfold cm;simp;omega
theorem ts(w:World)(x:Nat)(S:Nat->Prop)(s:Bk)(l:Ln)(hI:Inv s)(hL:aZ l)(h:au w x S s)(hn:l.n<8\/30<l.n):Calls prog 69 #[Pq x,.agg (lnC l)] w (Res w x S (s,ref 4)):=by
 obtain⟨vp,vn,vl,c,B⟩:=h;have hx:=B.blk.lt;have H:Hid (au w x S s):=⟨vp,vn,vl,c,B⟩
 obtain⟨x0,x1,x2⟩:=B.c3;have LIVE:Hid (∀ wk,BW w l wk->cd w wk x vp vn vl l):=aO l B
 have HBA:Hid (BA w x S vp vn vl c s):=B
 have hxa:¬(x=w.heap.size):=by omega
 have hxb:¬(w.heap.size=x):=by omega
 clear B;unfold lnC;go_enter func69,ntmps69
 by_cases h8:l.n<8
 ·go_wp2_with (go_at_call 39;refine Mo (az 4 _) fun w9 HQ=>?_;have HB9:Hid (BW w l w9):=al upB sM HQ;clear HQ;have HW9:Hid (Bl w w9):=(ab w l).trans (HB9.o.mono om);obtain⟨r0_9,r1_9,g0_9,g1_9,z1_9⟩:=(LIVE.o w9 HB9.o).q)
  have hR:=(LIVE.o w9 HB9.o).rb
  obtain⟨kk0,kk1⟩:=ay hR (I6 4) (.slice none 0 0)
  have hfin:=a7 (l:=l) 4 H.o HB9.o
  exact bodyPost_ret (v:=.agg #[I6 4,.slice none 0 0]) (by simp[results,results69,go_sem,kk0,kk1]) rfl hfin
 ·have h30:30<l.n:=by omega
  go_wp2_with (go_at_call 39;refine Mo (az 4 _) fun w9 HQ=>?_;have HB9:Hid (BW w l w9):=al upB sM HQ;clear HQ;have HW9:Hid (Bl w w9):=(ab w l).trans (HB9.o.mono om);obtain⟨r0_9,r1_9,g0_9,g1_9,z1_9⟩:=(LIVE.o w9 HB9.o).q)
  have hR:=(LIVE.o w9 HB9.o).rb
  obtain⟨kk0,kk1⟩:=ay hR (I6 4) (.slice none 0 0)
  have hfin:=a7 (l:=l) 4 H.o HB9.o
  exact bodyPost_ret (v:=.agg #[I6 4,.slice none 0 0]) (by simp[results,results69,go_sem,kk0,kk1]) rfl hfin
theorem wO(w:World)(x:Nat)(S:Nat->Prop)(s:Bk)(l:Ln)(hI:Inv s)(hL:aZ l)(h:au w x S s)(h1:¬l.n<8)(h2:¬30<l.n)(h3:aU s.pools l.a l.n=true):Calls prog 69 #[Pq x,.agg (lnC l)] w (Res w x S (s,ref 5)):=by
 obtain⟨vp,vn,vl,c,B⟩:=h;have hx:=B.blk.lt;have H:Hid (au w x S s):=⟨vp,vn,vl,c,B⟩
 obtain⟨x0,x1,x2⟩:=B.c3;have LIVE:Hid (∀ wk,BW w l wk->cd w wk x vp vn vl l):=aO l B
 have HBA:Hid (BA w x S vp vn vl c s):=B
 have hxa:¬(x=w.heap.size):=by omega
 have hxb:¬(w.heap.size=x):=by omega
 have HP:Hid (∀ Wc,Bl w Wc->Cr prog 103 #[vp,.agg #[U3 l.a,I6 l.n]] Wc (.bool (aU s.pools l.a l.n))):=fun Wc hW=>ye s.pools l.a l.n vp Wc (fun q hq=>(hI.pa q hq).1) hL.a ((Rd.of_owns (k:=3) (enc:=ak) (fun _=>rfl) hd0 B.op).below hW)
 rw[h3] at HP;obtain⟨b_vp,c_vp,e_vp,_,_⟩:=ae B.op;subst e_vp;clear B;unfold lnC;go_enter func69,ntmps69
 go_wp2;go_region_held3 (fun w'=>w'.cell? (At x 0)=some (.slice b_vp s.pools.length c_vp)/\w'.cell? (Nw w 3)=some (U3 l.a)/\w'.cell? (Nw w 4)=some (I6 l.n)) (go_keep) (first|(go_at_call 103;refine Mo (HP.o _ upB) fun w1 HQ=>?_;have HB1:Hid (BW w l w1):=al upB sM HQ;clear HQ;have HW1:Hid (Bl w w1):=(ab w l).trans (HB1.o.mono om);obtain⟨x0_1,-,-,f0_1,-,-,o_1,a_1,n_1,-,-,r0_1,r1_1,g0_1,g1_1,zx_1,z0_1,z1_1,-⟩:=LIVE.o w1 HB1.o))
 all_goals (
  go_wp2_with (go_at_call 39;refine Mo (az 5 _) fun w9 HQ=>?_;have HB9:Hid (BW w l w9):=al (by have hp:=HB1.o;exact upB) sM HQ;clear HQ;have HW9:Hid (Bl w w9):=(ab w l).trans (HB9.o.mono om);obtain⟨r0_9,r1_9,g0_9,g1_9,z1_9⟩:=(LIVE.o w9 HB9.o).q)
  have hR:=(LIVE.o w9 HB9.o).rb
  obtain⟨kk0,kk1⟩:=ay hR (I6 5) (.slice none 0 0)
  have hfin:=a7 (l:=l) 5 H.o HB9.o
  exact bodyPost_ret (v:=.agg #[I6 5,.slice none 0 0]) (by simp[results,results69,go_sem,kk0,kk1]) rfl hfin)
theorem tr(w:World)(x:Nat)(S:Nat->Prop)(s:Bk)(l:Ln)(hI:Inv s)(hL:aZ l)(h:au w x S s)(h1:¬l.n<8)(h2:¬30<l.n)(h3:aU s.pools l.a l.n=false)(h4:6<=s.pools.length):Calls prog 69 #[Pq x,.agg (lnC l)] w (Res w x S (s,ref 6)):=by
 obtain⟨vp,vn,vl,c,B⟩:=h;have hx:=B.blk.lt;have H:Hid (au w x S s):=⟨vp,vn,vl,c,B⟩
 obtain⟨x0,x1,x2⟩:=B.c3;have LIVE:Hid (∀ wk,BW w l wk->cd w wk x vp vn vl l):=aO l B
 have HBA:Hid (BA w x S vp vn vl c s):=B
 have hxa:¬(x=w.heap.size):=by omega
 have hxb:¬(w.heap.size=x):=by omega
 have HP:Hid (∀ Wc,Bl w Wc->Cr prog 103 #[vp,.agg #[U3 l.a,I6 l.n]] Wc (.bool (aU s.pools l.a l.n))):=fun Wc hW=>ye s.pools l.a l.n vp Wc (fun q hq=>(hI.pa q hq).1) hL.a ((Rd.of_owns (k:=3) (enc:=ak) (fun _=>rfl) hd0 B.op).below hW)
 rw[h3] at HP;obtain⟨b_vp,c_vp,e_vp,_,_⟩:=ae B.op;subst e_vp;have h5:(6:Int)<=(s.pools.length:Int):=by omega
 clear B;unfold lnC;go_enter func69,ntmps69
 go_wp2;go_region_held3 (fun w'=>w'.cell? (At x 0)=some (.slice b_vp s.pools.length c_vp)/\w'.cell? (Nw w 3)=some (U3 l.a)/\w'.cell? (Nw w 4)=some (I6 l.n)) (go_keep) (first|(go_at_call 103;refine Mo (HP.o _ upB) fun w1 HQ=>?_;have HB1:Hid (BW w l w1):=al upB sM HQ;clear HQ;have HW1:Hid (Bl w w1):=(ab w l).trans (HB1.o.mono om);obtain⟨x0_1,-,-,f0_1,-,-,o_1,a_1,n_1,-,-,r0_1,r1_1,g0_1,g1_1,zx_1,z0_1,z1_1,-⟩:=LIVE.o w1 HB1.o))
 all_goals (
  go_wp2_with (go_at_call 39;refine Mo (az 6 _) fun w9 HQ=>?_;have HB9:Hid (BW w l w9):=al (by have hp:=HB1.o;exact upB) sM HQ;clear HQ;have HW9:Hid (Bl w w9):=(ab w l).trans (HB9.o.mono om);obtain⟨r0_9,r1_9,g0_9,g1_9,z1_9⟩:=(LIVE.o w9 HB9.o).q)
  have hR:=(LIVE.o w9 HB9.o).rb
  obtain⟨kk0,kk1⟩:=ay hR (I6 6) (.slice none 0 0)
  have hfin:=a7 (l:=l) 6 H.o HB9.o
  exact bodyPost_ret (v:=.agg #[I6 6,.slice none 0 0]) (by simp[results,results69,go_sem,kk0,kk1]) rfl hfin)
theorem Dg(w:World)(x:Nat)(S:Nat->Prop)(s:Bk)(l:Ln)(hI:Inv s)(hL:aZ l)(h:au w x S s)(h1:¬l.n<8)(h2:¬30<l.n)(h3:aU s.pools l.a l.n=false)(h4:¬6<=s.pools.length):Calls prog 69 #[Pq x,.agg (lnC l)] w (Res w x S ({ s with pools:=cm s.pools ⟨l.a,l.n,l.o⟩ },okA)):=by
 obtain⟨vp,vn,vl,c,B⟩:=h;have hx:=B.blk.lt;have H:Hid (au w x S s):=⟨vp,vn,vl,c,B⟩
 obtain⟨x0,x1,x2⟩:=B.c3;have LIVE:Hid (∀ wk,BW w l wk->cd w wk x vp vn vl l):=aO l B
 have HBA:Hid (BA w x S vp vn vl c s):=B
 have hxa:¬(x=w.heap.size):=by omega
 have hxb:¬(w.heap.size=x):=by omega
 have HP:Hid (∀ Wc,Bl w Wc->Cr prog 103 #[vp,.agg #[U3 l.a,I6 l.n]] Wc (.bool (aU s.pools l.a l.n))):=fun Wc hW=>ye s.pools l.a l.n vp Wc (fun q hq=>(hI.pa q hq).1) hL.a ((Rd.of_owns (k:=3) (enc:=ak) (fun _=>rfl) hd0 B.op).below hW)
 rw[h3] at HP;have HIN:Hid (∀ Wc,Bl w Wc->Calls prog 104 #[vp,.agg #[U3 l.a,I6 l.n,.string l.o]] Wc fun e w'=>∃ g cap,e=.returned (Sq g (s.pools.length+1) cap)/\w'.ownsRow 0 155 3 (Sq g (s.pools.length+1) cap) (s.pools.length+1) ((cm s.pools ⟨l.a,l.n,l.o⟩).flatMap ak)/\Wc.grownBy w' vp.ownBlock/\∀ b,(Value.slice (some (At g 0)) (s.pools.length+1) cap).ownBlock=some b->vp.ownBlock=some b\/Wc.heap.size<=b):=fun Wc hW=>by
  refine(CT s.pools ⟨l.a,l.n,l.o⟩ vp Wc (av B.op hW) hI.pu (by have:=hI.p;omega)).mono ?_
  rintro e w' ⟨g,cap,rfl,o1,o2,o3,o4⟩
  exact⟨g,cap,rfl,o1,o2,fun b e=>by obtain rfl:g=b:=(by simpa[Value.ownBlock] using e);exact o3⟩
 have FIX:Hid (∀ (W:World) v,W.ownsRow 0 155 3 v (s.pools.length+1) ((cm s.pools ⟨l.a,l.n,l.o⟩).flatMap ak)->W.ownsRow 0 155 3 v (cm s.pools ⟨l.a,l.n,l.o⟩).length ((cm s.pools ⟨l.a,l.n,l.o⟩).flatMap ak)):=fun W v q=>by rw[qh];exact q
 have NX:Hid (vp.ownBlock≠some x):=fun e=>((B.apart.1) x e).1 rfl
 have NR:Hid (∀ b,vp.ownBlock=some b->b<w.heap.size):=fun b e=>(cI B.op b e).1
 generalize hob:vp.ownBlock=ob at HIN NX NR
 have HOB:Hid (vp.ownBlock=ob):=hob
 clear hob;obtain⟨b_vp,c_vp,e_vp,_,_⟩:=ae B.op;subst e_vp;have h5:¬(6:Int)<=(s.pools.length:Int):=by omega
 clear B;unfold lnC;go_enter func69,ntmps69
 go_wp2;go_region_held3 (fun w'=>w'.cell? (At x 0)=some (.slice b_vp s.pools.length c_vp)/\w'.cell? (Nw w 3)=some (U3 l.a)/\w'.cell? (Nw w 4)=some (I6 l.n)) (go_keep) (first|(go_at_call 103;refine Mo (HP.o _ upB) fun w1 HQ=>?_;have HB1:Hid (BW w l w1):=al upB sM HQ;clear HQ;have HW1:Hid (Bl w w1):=(ab w l).trans (HB1.o.mono om);obtain⟨x0_1,-,-,f0_1,-,-,o_1,a_1,n_1,-,-,r0_1,r1_1,g0_1,g1_1,zx_1,z0_1,z1_1,-⟩:=LIVE.o w1 HB1.o))
 all_goals (
  go_wp2;go_region_with (go_at_call 104;refine(HIN.o _ (by have hp:=HW1.o;exact upB)).mono ?_;rintro e w2 ⟨g2,cap2,rfl,o1,o2,o3⟩;have LV2:=(LIVE.o _ (by have hp:=HB1.o;exact upB)).far o2 NX.o NR.o;have HG:Hid (∃ Wc,Bl w Wc/\w.heap.size+2<=Wc.heap.size/\Wc.grownBy w2 ob/\∀ b,(Value.slice (some (At g2 0)) (s.pools.length+1) cap2).ownBlock=some b->ob=some b\/Wc.heap.size<=b):=⟨_,by have hp:=HW1.o;exact upB,by have hz:=HB1.o.size;simp at hz ⊢;omega,o2,o3⟩;have HO:Hid (w2.ownsRow 0 155 3 (Sq g2 (s.pools.length+1) cap2) (s.pools.length+1) ((cm s.pools ⟨l.a,l.n,l.o⟩).flatMap ak)):=o1;have RB2:Hid (Blk w2 (w.heap.size+1) #[I6 0,.slice none 0 0] 98):=LV2.rb;have x_2:=LV2.x0;have f_2:=LV2.f0;have a_2:=LV2.a;have n_2:=LV2.n;have o_2:=LV2.o;have zx_2:=LV2.zx;have z1_2:=LV2.z1;clear LV2 o1 o2 o3)
  all_goals (
   go_wp2_with (go_at_call 105;refine Mo (fc none 0 0 _) fun w4 HQ=>?_;have HQ4:Hid (Below w2.heap.size (w2.setCell (At x 0) (Sq g2 (s.pools.length+1) cap2)) w4):=HQ.mono (by simp[World.setCell]);have RB4:Blk w4 (w.heap.size+1) #[I6 0,.slice none 0 0] 98:=(HQ4.o.block _ z1_2).trans ((Below.heap_setCell _ _ _ _ (fun e=>by have e2:w.heap.size+1=x:=e;omega)).trans RB2.o);clear HQ;have HR4:Hid (Blk w4 (w.heap.size+1) #[I6 0,.slice none 0 0] 98):=RB4;have r0_4:w4.cell? (At (w.heap.size+1) 0)=some (I6 0):=RB4.cell 0;have r1_4:w4.cell? (At (w.heap.size+1) 1)=some (.slice none 0 0):=RB4.cell 1;have g0_4:w4.frozen? (At (w.heap.size+1) 0)=false:=RB4.frozen 0;have g1_4:w4.frozen? (At (w.heap.size+1) 1)=false:=RB4.frozen 1;clear RB4)
   obtain⟨kk0,kk1⟩:=ay HR4.o (I6 0) (.slice none 0 0)
   obtain⟨Wc,hc1,hc2,hc3,hc4⟩:=HG.o;rw[<- HOB.o] at hc3 hc4;have hfin:=qQ HBA.o hc1 hc2 hc3 (FIX.o _ _ HO.o) hc4 HQ4.o
   exact bodyPost_ret (v:=.agg #[I6 0,.slice none 0 0]) (by simp[results,results69,go_sem,kk0,kk1]) rfl hfin))
theorem ou(w:World)(x:Nat)(S:Nat->Prop)(s:Bk)(l:Ln)(hI:Inv s)(hL:aZ l)(h:au w x S s):Calls prog 69 #[Pq x,.agg (lnC l)] w (Res w x S (cy s l)):=by
 unfold cy;by_cases h1:l.n<8\/30<l.n
 ·rw[if_pos h1];exact ts w x S s l hI hL h h1
 ·rw[if_neg h1];have n1:¬l.n<8:=by omega
  have n2:¬30<l.n:=by omega
  by_cases h3:aU s.pools l.a l.n=true
  ·rw[if_pos h3];exact wO w x S s l hI hL h n1 n2 h3
  ·rw[if_neg h3];by_cases h4:6<=s.pools.length
   ·rw[if_pos h4];exact tr w x S s l hI hL h n1 n2 (by simpa using h3) h4
   ·rw[if_neg h4];exact Dg w x S s l hI hL h n1 n2 (by simpa using h3) h4
theorem Cc{w W w2:World}{x:Nat}{S:Nat->Prop}{vp vn vl:Value}{c:Nat}{s:Bk}(B:BA w x S vp vn vl c s)(hW:Bl w W)(g2:W.grownBy w2 vn.ownBlock){v':Value}{new:List Hd}
  (o:w2.ownsRow 0 195 3 v' new.length (new.flatMap ak)) (ho:∀ b,v'.ownBlock=some b->vn.ownBlock=some b\/W.heap.size<=b) :
  ∃ S',au (w2.setCell (At x 1) v') x S' { s with nets:=new }/\(∀ b,S' b->S b\/w.heap.size<=b)/\Chg S w (w2.setCell (At x 1) v'):=by
 obtain⟨AP0,AP1,AP2⟩:=B.apart;have hx:=B.blk.lt;have hWs:=hW.size;have hx2:(w2.setCell (At x 1) v').heap.size=w2.heap.size:=by simp[World.setCell]
 have hfin:∀ b,b≠x->(w2.setCell (At x 1) v').heap[b]?=w2.heap[b]?:=fun b hbx=>Below.heap_setCell _ _ _ _ hbx
 have hold:∀ b,S b->b≠x->vn.ownBlock≠some b->(w2.setCell (At x 1) v').heap[b]?=w.heap[b]?:=fun b hS hbx hv=>by
  have hb:=B.sz b hS;exact(hfin b hbx).trans ((g2.block b om (fun e=>hv e.symm)).trans (hW.block b hb))
 have hbk:Blk (w2.setCell (At x 1) v') x #[vp,v',vl] 160:=by
  have b1:Blk w2 x #[vp,vn,vl] 160:=(g2.block x om (fun e=>(AP1 x e.symm).1 rfl)).trans (B.blk.below hW)
  exact b1.set 1 v'
 refine⟨fun b=>S b\/v'.ownBlock=some b,⟨vp,v',vl,c,hbk,?_,?_,?_,?_,.inl B.sx,trivial,?_,?_,?_,?_⟩,?_,?_⟩
 ·trivial
 ·exact aL B.op fun b e=>hold b (B.sp b e) (AP0 b e).1 (AP0 b e).2.2.1
 ·refine aL o fun b e=>hfin b ?_
  rintro rfl
  rcases ho _ e with q|q
  ·exact(AP1 _ q).1 rfl
  ·omega
 ·exact aL B.ol fun b e=>hold b (B.sl b e) (AP2 b e).1 (AP2 b e).2.2.2
 ·exact fun b e=>.inl (B.sp b e)
 ·exact fun b e=>.inr e
 ·exact fun b e=>.inl (B.sl b e)
 ·rintro b (hb|hb)
  ·have:=B.sz b hb
   have:=g2.size
   rw[hx2];omega
  ·have:=(cI o b hb).1
   rw[hx2];omega
 ·rintro b (hb|hb)
  ·exact .inl hb
  ·rcases ho b hb with q|q
   ·exact .inl (B.sn b q)
   ·exact .inr om
 ·have c1:Chg S w W:=Chg.below hW
  have c2:Chg S W w2:=Chg.grown g2 fun b e=>B.sn b e
  exact(c1.trans c2 fun b e=>.inl e).sets x 1 [v'] (.inl B.sx)
theorem Cd{w W w2:World}{x:Nat}{S:Nat->Prop}{vp vn vl:Value}{c:Nat}{s:Bk}(B:BA w x S vp vn vl c s)(hW:Bl w W)(g2:W.grownBy w2 vl.ownBlock){v':Value}{new:List Ls}
  (o:w2.ownsRow 0 208 2 v' new.length (new.flatMap br)) (ho:∀ b,v'.ownBlock=some b->vl.ownBlock=some b\/W.heap.size<=b) :
  ∃ S',au (w2.setCell (At x 2) v') x S' { s with leases:=new }/\(∀ b,S' b->S b\/w.heap.size<=b)/\Chg S w (w2.setCell (At x 2) v'):=by
 obtain⟨AP0,AP1,AP2⟩:=B.apart;have hx:=B.blk.lt;have hWs:=hW.size;have hx2:(w2.setCell (At x 2) v').heap.size=w2.heap.size:=by simp[World.setCell]
 have hfin:∀ b,b≠x->(w2.setCell (At x 2) v').heap[b]?=w2.heap[b]?:=fun b hbx=>Below.heap_setCell _ _ _ _ hbx
 have hold:∀ b,S b->b≠x->vl.ownBlock≠some b->(w2.setCell (At x 2) v').heap[b]?=w.heap[b]?:=fun b hS hbx hv=>by
  have hb:=B.sz b hS;exact(hfin b hbx).trans ((g2.block b om (fun e=>hv e.symm)).trans (hW.block b hb))
 have hbk:Blk (w2.setCell (At x 2) v') x #[vp,vn,v'] 160:=by
  have b1:Blk w2 x #[vp,vn,vl] 160:=(g2.block x om (fun e=>(AP2 x e.symm).1 rfl)).trans (B.blk.below hW)
  exact b1.set 2 v'
 refine⟨fun b=>S b\/v'.ownBlock=some b,⟨vp,vn,v',c,hbk,?_,?_,?_,?_,.inl B.sx,trivial,?_,?_,?_,?_⟩,?_,?_⟩
 ·trivial
 ·exact aL B.op fun b e=>hold b (B.sp b e) (AP0 b e).1 (AP0 b e).2.2.2
 ·exact aL B.on fun b e=>hold b (B.sn b e) (AP1 b e).1 (AP1 b e).2.2.2
 ·refine aL o fun b e=>hfin b ?_
  rintro rfl
  rcases ho _ e with q|q
  ·exact(AP2 _ q).1 rfl
  ·omega
 ·exact fun b e=>.inl (B.sp b e)
 ·exact fun b e=>.inl (B.sn b e)
 ·exact fun b e=>.inr e
 ·rintro b (hb|hb)
  ·have:=B.sz b hb
   have:=g2.size
   rw[hx2];omega
  ·have:=(cI o b hb).1
   rw[hx2];omega
 ·rintro b (hb|hb)
  ·exact .inl hb
  ·rcases ho b hb with q|q
   ·exact .inl (B.sl b q)
   ·exact .inr om
 ·have c1:Chg S w W:=Chg.below hW
  have c2:Chg S W w2:=Chg.grown g2 fun b e=>B.sl b e
  exact(c1.trans c2 fun b e=>.inl e).sets x 2 [v'] (.inl B.sx)
theorem zq(l:List Ls)(h:Ls):(dR l h).length=l.length+1:=by
 have hle:bO l h.a<=l.length:=List.countP_le_length
 unfold dR;simp;omega
theorem il(w:World)(x:Nat)(S:Nat->Prop)(s:Bk)(a n:Int)(o:Bz)(hI:Inv s)(h:au w x S s):Calls prog 112 #[Pq x,.agg #[U3 a,I6 n],.string o] w fun e w'=>e=.returned (.tuple #[])/\∃ S',au w' x S' { s with nets:=cm s.nets ⟨a,n,o⟩ }/\(∀ b,S' b->S b\/w.heap.size<=b)/\Chg S w w':=by
 obtain⟨vp,vn,vl,c,B⟩:=h;have hx:=B.blk.lt;have HBA:Hid (BA w x S vp vn vl c s):=B
 have x1:w.cell? (At x 1)=some vn:=B.blk.cell 1
 have HX:Hid (∀ W w2,Bl w W->W.grownBy w2 vn.ownBlock->w2.cell? (At x 1)=some vn/\w2.frozen? (At x 1)=false):=fun W w2 hW hg=>by
  have b1:Blk w2 x #[vp,vn,vl] 160:=(hg.block x (Nat.lt_of_lt_of_le hx hW.size) (fun e=>(B.apart.2.1 x e.symm).1 rfl)).trans (B.blk.below hW)
  exact⟨b1.cell 1,b1.frozen 1⟩
 have HIN:Hid (∀ Wc,Bl w Wc->Calls prog 162 #[vn,.agg #[U3 a,I6 n,.string o]] Wc fun e w'=>∃ g cap,e=.returned (Sq g (s.nets.length+1) cap)/\w'.ownsRow 0 195 3 (Sq g (s.nets.length+1) cap) (s.nets.length+1) ((cm s.nets ⟨a,n,o⟩).flatMap ak)/\Wc.grownBy w' vn.ownBlock/\∀ b,(Value.slice (some (At g 0)) (s.nets.length+1) cap).ownBlock=some b->vn.ownBlock=some b\/Wc.heap.size<=b):=fun Wc hW=>by
  refine(CU s.nets ⟨a,n,o⟩ vn Wc (av B.on hW) hI.nu (by have:=hI.n;omega)).mono ?_
  rintro e w' ⟨g,cap,rfl,o1,o2,o3,o4⟩
  exact⟨g,cap,rfl,o1,o2,fun b e=>by obtain rfl:g=b:=(by simpa[Value.ownBlock] using e);exact o3⟩
 have FIX:Hid (∀ (W:World) v,W.ownsRow 0 195 3 v (s.nets.length+1) ((cm s.nets ⟨a,n,o⟩).flatMap ak)->W.ownsRow 0 195 3 v (cm s.nets ⟨a,n,o⟩).length ((cm s.nets ⟨a,n,o⟩).flatMap ak)):=fun W v q=>by rw[qh];exact q
 generalize hob:vn.ownBlock=ob at HIN HX
 have HOB:Hid (vn.ownBlock=ob):=hob
 clear hob;obtain⟨bq,cq,eq,_,_⟩:=ae B.on;subst eq;clear B hI;go_enter func112,ntmps112
 go_wp2;go_region_with (go_at_call 162;refine(HIN.o _ upB).mono ?_;rintro e w2 ⟨g2,cap2,rfl,o1,o2,o3⟩;obtain⟨y1,y2⟩:=HX.o _ w2 upB o2;have HG:Hid (∃ Wc,Bl w Wc/\Wc.grownBy w2 ob/\∀ b,(Value.slice (some (At g2 0)) (s.nets.length+1) cap2).ownBlock=some b->ob=some b\/Wc.heap.size<=b):=⟨_,upB,o2,o3⟩;have HO:Hid (w2.ownsRow 0 195 3 (Sq g2 (s.nets.length+1) cap2) (s.nets.length+1) ((cm s.nets ⟨a,n,o⟩).flatMap ak)):=o1;clear o1 o2 o3)
 all_goals (
  go_wp2;first|go_end0|refine bodyPost_ret (results_none rfl _ _ _) rfl ?_
  obtain⟨Wc,hc1,hc3,hc4⟩:=HG.o;rw[<- HOB.o] at hc3 hc4;exact⟨rfl,Cc HBA.o hc1 hc3 (FIX.o _ _ HO.o) hc4⟩)
theorem iT(w:World)(x:Nat)(S:Nat->Prop)(s:Bk)(a:Int)(o:Bz)(hI:Inv s)(h:au w x S s):Calls prog 120 #[Pq x,U3 a,.string o] w fun e w'=>e=.returned (.tuple #[])/\∃ S',au w' x S' { s with leases:=dR s.leases ⟨a,o⟩ }/\(∀ b,S' b->S b\/w.heap.size<=b)/\Chg S w w':=by
 obtain⟨vp,vn,vl,c,B⟩:=h;have hx:=B.blk.lt;have hk:∀ q:Ls,(br q).length=2:=fun _=>rfl
 have HBA:Hid (BA w x S vp vn vl c s):=B
 have x2:w.cell? (At x 2)=some vl:=B.blk.cell 2
 have HX:Hid (∀ W w2,Bl w W->W.grownBy w2 vl.ownBlock->w2.cell? (At x 2)=some vl/\w2.frozen? (At x 2)=false):=fun W w2 hW hg=>by
  have b1:Blk w2 x #[vp,vn,vl] 160:=(hg.block x (Nat.lt_of_lt_of_le hx hW.size) (fun e=>(B.apart.2.2 x e.symm).1 rfl)).trans (B.blk.below hW)
  exact⟨b1.cell 2,b1.frozen 2⟩
 have HF:Hid (Cr prog 125 #[Pq x,U3 a] w (.tuple #[I6 (bO s.leases a:Nat),.bool (dp s.leases a)])):=d8 x s.leases a vl w x2 (Rd.of_owns hk ls0 B.ol) (by have:=hI.l;omega) hI.lu
 have hle:bO s.leases a<=s.leases.length:=List.countP_le_length
 have hob:∀ b,vl.ownBlock=some b->b<w.heap.size:=fun b e=>(cI B.ol b e).1
 have HIN:Hid (∀ Wc vb,Bl w Wc->w.heap.size<=vb->Blk Wc vb #[U3 a,.string o] 208->Calls prog 169 #[vl,I6 (bO s.leases a:Nat),Sq vb 1 1] Wc fun e w'=>∃ g cap,e=.returned (Sq g (s.leases.length+1) cap)/\w'.ownsRow 0 208 2 (Sq g (s.leases.length+1) cap) (s.leases.length+1) ((dR s.leases ⟨a,o⟩).flatMap br)/\Wc.grownBy w' vl.ownBlock/\∀ b,(Value.slice (some (At g 0)) (s.leases.length+1) cap).ownBlock=some b->vl.ownBlock=some b\/Wc.heap.size<=b):=fun Wc vb hW hvb hb=>by
  refine(Gg (s.leases.flatMap br) (br ⟨a,o⟩) s.leases.length (bO s.leases a) vl vb Wc (av B.ol hW) hle (by have:=hI.l;omega) rfl hb (fun e=>by have:=hob vb e;omega) (Gm ⟨a,o⟩) (Gn s.leases)).mono ?_
  rintro e w' ⟨g,cap,rfl,o1,o2,o3,o4⟩
  refine⟨g,cap,rfl,?_,o2,fun b e=>by obtain rfl:g=b:=(by simpa[Value.ownBlock] using e);exact o3⟩
  rw[ic hk,gX hk] at o1;unfold dR;rw[List.flatMap_append,List.flatMap_cons,<- List.append_assoc];exact o1
 have FIX:Hid (∀ (W:World) v,W.ownsRow 0 208 2 v (s.leases.length+1) ((dR s.leases ⟨a,o⟩).flatMap br)->W.ownsRow 0 208 2 v (dR s.leases ⟨a,o⟩).length ((dR s.leases ⟨a,o⟩).flatMap br)):=fun W v q=>by rw[zq];exact q
 clear hob;generalize hob:vl.ownBlock=ob at HIN HX
 have HOB:Hid (vl.ownBlock=ob):=hob
 clear hob;generalize bO s.leases a=cn at HF HIN hle
 generalize dp s.leases a=fb at HF
 obtain⟨bq,cq,eq,_,_⟩:=ae B.ol;subst eq;clear B hI;go_enter func120,ntmps120
 go_wp2_with (first|(go_at_call 125;refine HF.o.mono ?_;rintro e w1 ⟨rfl,hb1⟩;have HB1:Hid (Bl w w1):=hb1;have y0:w1.cell? (At x 2)=some (.slice bq s.leases.length cq):=(hb1.cell (p:=At x 2) hx).trans x2;clear hb1)|(go_at_call 169;refine(HIN.o _ _ (Below.alloc HB1.o HB1.o.size _) HB1.o.size (Blk.new w1 _ _)).mono ?_;rintro e w2 ⟨g2,cap2,rfl,o1,o2,o3⟩;obtain⟨y1,y2⟩:=HX.o _ w2 (Below.alloc HB1.o HB1.o.size _) o2;have HG:Hid (∃ Wc,Bl w Wc/\Wc.grownBy w2 ob/\∀ b,(Value.slice (some (At g2 0)) (s.leases.length+1) cap2).ownBlock=some b->ob=some b\/Wc.heap.size<=b):=⟨_,Below.alloc HB1.o HB1.o.size _,o2,o3⟩;have HO:Hid (w2.ownsRow 0 208 2 (Sq g2 (s.leases.length+1) cap2) (s.leases.length+1) ((dR s.leases ⟨a,o⟩).flatMap br)):=o1;clear o1 o2 o3))
 first|go_end0|refine bodyPost_ret (results_none rfl _ _ _) rfl ?_
 obtain⟨Wc,hc1,hc3,hc4⟩:=HG.o;rw[<- HOB.o] at hc3 hc4;exact⟨rfl,Cd HBA.o hc1 hc3 (FIX.o _ _ HO.o) hc4⟩
theorem kR{w Wc w3 w4:World}{x:Nat}{S S3:Nat->Prop}{s':Bk}(hS:∀ b,S b->b<w.heap.size)(hW:Bl w Wc)(hz:w.heap.size+2<=Wc.heap.size)(A:au w3 x S3 s')(hs:∀ b,S3 b->S b\/Wc.heap.size<=b)(hc:Chg S Wc w3)(h4:Bl w3 w4)(ans:An)(he:ans.e=0)(va:Value)
  (hrd:∀ W',(∀ b,b≠w.heap.size+1->W'.heap[b]?=w4.heap[b]?)->w4.heap.size<=W'.heap.size->Rd 1 bV ⟨#[]⟩ W' va ans.s) :
  Res w x S (s',ans) (.returned (.agg #[I6 0,va])) ((w4.setCell (At (w.heap.size+1) 0) (I6 0)).setCell (At (w.heap.size+1) 1) va):=by
 have s1:=aK (w.heap.size+1) [I6 0,va] 0 w4
 have hsz:((w4.setCell (At (w.heap.size+1) 0) (I6 0)).setCell (At (w.heap.size+1) 1) va).heap.size=w4.heap.size:=s1.2.2.2.1
 obtain⟨vp,vn,vl,c,B⟩:=A;refine⟨va,S3,by rw[he];rfl,hrd _ (fun b hb=>s1.2.2.2.2 b hb) (by rw[hsz];exact Nat.le_refl _),⟨vp,vn,vl,c,B.same (fun b hb=>?_) (by rw[hsz];exact h4.size)⟩,fun b hb=>?_,?_⟩
 ·have hb3:=B.sz b hb;refine(s1.2.2.2.2 b ?_).trans (h4.block b hb3)
  rintro rfl
  rcases hs _ hb with q|q
  ·have:=hS _ q;omega
  ·omega
 ·rcases hs b hb with q|q
  ·exact .inl q
  ·exact .inr om
 ·have c1:Chg S w Wc:=Chg.below hW
  exact(((c1.trans hc fun b e=>.inl e).trans (Chg.below h4:Chg S w3 w4) fun b e=>.inl e)).sets (w.heap.size+1) 0 [I6 0,va] (.inr om)
theorem AK{w:World}{M:Nat}{t:Bz}(hM:M<w.heap.size)(h:w.cell? (At M 0)=some (.string t)):Rd 1 bV ⟨#[]⟩ w (Sq M 1 1) [t]:=by
 refine⟨_,1,rfl,Nat.le_refl _,by unfold maxLen;omega,fun _=>⟨M,rfl,hM,fun j hj i u hu=>?_⟩⟩
 have hj0:j=0:=by simp at hj;omega
 subst hj0;match i,hu with
 | 0,hu=>simp[bV] at hu;rw[<- hu];exact h
 | i+1,hu=>simp[bV] at hu
theorem pA(w:World)(x:Nat)(S:Nat->Prop)(s:Bk)(l:Ln)(hI:Inv s)(hL:aZ l)(h:au w x S s)(h1:l.n<22):Calls prog 72 #[Pq x,.agg (lnC l)] w (Res w x S (s,ref 4)):=by
 obtain⟨vp,vn,vl,c,B⟩:=h;have hx:=B.blk.lt;have H:Hid (au w x S s):=⟨vp,vn,vl,c,B⟩
 obtain⟨x0,x1,x2⟩:=B.c3;have LIVE:Hid (∀ wk,BW w l wk->cd w wk x vp vn vl l):=aO l B
 have HBA:Hid (BA w x S vp vn vl c s):=B
 have hxa:¬(x=w.heap.size):=by omega
 have hxb:¬(w.heap.size=x):=by omega
 clear B;unfold lnC;go_enter func72,ntmps72
 go_wp2_with (go_at_call 39;refine Mo (az 4 _) fun w9 HQ=>?_;have HB9:Hid (BW w l w9):=al upB sM HQ;clear HQ;have HW9:Hid (Bl w w9):=(ab w l).trans (HB9.o.mono om);obtain⟨r0_9,r1_9,g0_9,g1_9,z1_9⟩:=(LIVE.o w9 HB9.o).q)
 have hR:=(LIVE.o w9 HB9.o).rb
 obtain⟨kk0,kk1⟩:=ay hR (I6 4) (.slice none 0 0)
 have hfin:=a7 (l:=l) 4 H.o HB9.o
 exact bodyPost_ret (v:=.agg #[I6 4,.slice none 0 0]) (by simp[results,results72,go_sem,kk0,kk1]) rfl hfin
theorem rQ(w:World)(x:Nat)(S:Nat->Prop)(s:Bk)(l:Ln)(hI:Inv s)(hL:aZ l)(h:au w x S s)(h1:¬l.n<22)(h2:aR s.pools l.a l.n=-1):Calls prog 72 #[Pq x,.agg (lnC l)] w (Res w x S (s,ref 7)):=by
 obtain⟨vp,vn,vl,c,B⟩:=h;have hx:=B.blk.lt;have H:Hid (au w x S s):=⟨vp,vn,vl,c,B⟩
 obtain⟨x0,x1,x2⟩:=B.c3;have LIVE:Hid (∀ wk,BW w l wk->cd w wk x vp vn vl l):=aO l B
 have HBA:Hid (BA w x S vp vn vl c s):=B
 have hxa:¬(x=w.heap.size):=by omega
 have hxb:¬(w.heap.size=x):=by omega
 have HP:Hid (∀ Wc,Bl w Wc->Cr prog 114 #[vp,.agg #[U3 l.a,I6 l.n]] Wc (I6 (aR s.pools l.a l.n))):=fun Wc hW=>oi s.pools l.a l.n vp Wc (fun q hq=>(hI.pa q hq).1) hL.a ((Rd.of_owns (k:=3) (enc:=ak) (fun _=>rfl) hd0 B.op).below hW)
 rw[h2] at HP;obtain⟨bp,cp,ep,_,_⟩:=ae B.op;subst ep;clear B;unfold lnC;go_enter func72,ntmps72
 go_wp2;go_region_held3 (fun w'=>w'.cell? (At x 0)=some (.slice bp s.pools.length cp)/\w'.cell? (Nw w 3)=some (U3 l.a)/\w'.cell? (Nw w 4)=some (I6 l.n)) (go_keep) (first|(go_at_call 114;refine Mo (HP.o _ upB) fun w1 HQ=>?_;have HB1:Hid (BW w l w1):=al upB sM HQ;clear HQ;have HW1:Hid (Bl w w1):=(ab w l).trans (HB1.o.mono om);obtain⟨x0_1,x1_1,-,-,-,-,o_1,a_1,n_1,-,-,r0_1,r1_1,g0_1,g1_1,zx_1,z0_1,z1_1,-⟩:=LIVE.o w1 HB1.o))
 all_goals (
  go_wp2_with (go_at_call 39;refine Mo (az 7 _) fun w9 HQ=>?_;have HB9:Hid (BW w l w9):=al (by have hp:=HB1.o;exact upB) sM HQ;clear HQ;have HW9:Hid (Bl w w9):=(ab w l).trans (HB9.o.mono om);obtain⟨r0_9,r1_9,g0_9,g1_9,z1_9⟩:=(LIVE.o w9 HB9.o).q)
  have hR:=(LIVE.o w9 HB9.o).rb
  obtain⟨kk0,kk1⟩:=ay hR (I6 7) (.slice none 0 0)
  have hfin:=a7 (l:=l) 7 H.o HB9.o
  exact bodyPost_ret (v:=.agg #[I6 7,.slice none 0 0]) (by simp[results,results72,go_sem,kk0,kk1]) rfl hfin)
theorem rP(w:World)(x:Nat)(S:Nat->Prop)(s:Bk)(l:Ln)(hI:Inv s)(hL:aZ l)(h:au w x S s)(h1:¬l.n<22)(k:Nat)(h2:aR s.pools l.a l.n=k)(h3:aU s.nets l.a l.n=true):Calls prog 72 #[Pq x,.agg (lnC l)] w (Res w x S (s,ref 5)):=by
 obtain⟨vp,vn,vl,c,B⟩:=h;have hx:=B.blk.lt;have H:Hid (au w x S s):=⟨vp,vn,vl,c,B⟩
 obtain⟨x0,x1,x2⟩:=B.c3;have LIVE:Hid (∀ wk,BW w l wk->cd w wk x vp vn vl l):=aO l B
 have HBA:Hid (BA w x S vp vn vl c s):=B
 have hxa:¬(x=w.heap.size):=by omega
 have hxb:¬(w.heap.size=x):=by omega
 have HP:Hid (∀ Wc,Bl w Wc->Cr prog 114 #[vp,.agg #[U3 l.a,I6 l.n]] Wc (I6 (aR s.pools l.a l.n))):=fun Wc hW=>oi s.pools l.a l.n vp Wc (fun q hq=>(hI.pa q hq).1) hL.a ((Rd.of_owns (k:=3) (enc:=ak) (fun _=>rfl) hd0 B.op).below hW)
 rw[h2] at HP;have hkn:¬((k:Int)<0):=by omega
 have HN:Hid (∀ Wc,Bl w Wc->Cr prog 115 #[vn,.agg #[U3 l.a,I6 l.n]] Wc (.bool (aU s.nets l.a l.n))):=fun Wc hW=>mG s.nets l.a l.n vn Wc (fun q hq=>(hI.na q hq).1) hL.a ((Rd.of_owns (k:=3) (enc:=ak) (fun _=>rfl) hd0 B.on).below hW)
 rw[h3] at HN;obtain⟨bp,cp,ep,_,_⟩:=ae B.op;subst ep;obtain⟨bn,cn,en,_,_⟩:=ae B.on;subst en;clear B;unfold lnC;go_enter func72,ntmps72
 go_wp2;go_region_held3 (fun w'=>w'.cell? (At x 0)=some (.slice bp s.pools.length cp)/\w'.cell? (Nw w 3)=some (U3 l.a)/\w'.cell? (Nw w 4)=some (I6 l.n)) (go_keep) (first|(go_at_call 114;refine Mo (HP.o _ upB) fun w1 HQ=>?_;have HB1:Hid (BW w l w1):=al upB sM HQ;clear HQ;have HW1:Hid (Bl w w1):=(ab w l).trans (HB1.o.mono om);obtain⟨x0_1,x1_1,-,-,-,-,o_1,a_1,n_1,-,-,r0_1,r1_1,g0_1,g1_1,zx_1,z0_1,z1_1,-⟩:=LIVE.o w1 HB1.o))
 all_goals (
  go_wp2;go_region_held3 (fun w'=>w'.cell? (At x 1)=some (.slice bn s.nets.length cn)/\w'.cell? (Nw w 3)=some (U3 l.a)/\w'.cell? (Nw w 4)=some (I6 l.n)) (go_keep) (first|(go_at_call 115;refine Mo (HN.o _ (by have hp:=HW1.o;exact upB)) fun w2 HQ=>?_;have HB2:Hid (BW w l w2):=al (by have hp:=HB1.o;exact upB) sM HQ;clear HQ;have HW2:Hid (Bl w w2):=(ab w l).trans (HB2.o.mono om);obtain⟨-,x1_2,-,-,-,-,o_2,a_2,n_2,-,-,r0_2,r1_2,g0_2,g1_2,zx_2,z0_2,z1_2,-⟩:=LIVE.o w2 HB2.o))
  all_goals (
   go_wp2_with (go_at_call 39;refine Mo (az 5 _) fun w9 HQ=>?_;have HB9:Hid (BW w l w9):=al (by have hp:=HB2.o;exact upB) sM HQ;clear HQ;have HW9:Hid (Bl w w9):=(ab w l).trans (HB9.o.mono om);obtain⟨r0_9,r1_9,g0_9,g1_9,z1_9⟩:=(LIVE.o w9 HB9.o).q)
   have hR:=(LIVE.o w9 HB9.o).rb
   obtain⟨kk0,kk1⟩:=ay hR (I6 5) (.slice none 0 0)
   have hfin:=a7 (l:=l) 5 H.o HB9.o
   exact bodyPost_ret (v:=.agg #[I6 5,.slice none 0 0]) (by simp[results,results72,go_sem,kk0,kk1]) rfl hfin))
theorem pz(w:World)(x:Nat)(S:Nat->Prop)(s:Bk)(l:Ln)(hI:Inv s)(hL:aZ l)(h:au w x S s)(h1:¬l.n<22)(k:Nat)(h2:aR s.pools l.a l.n=k)(h3:aU s.nets l.a l.n=false)(h4:24<=s.nets.length):Calls prog 72 #[Pq x,.agg (lnC l)] w (Res w x S (s,ref 6)):=by
 obtain⟨vp,vn,vl,c,B⟩:=h;have hx:=B.blk.lt;have H:Hid (au w x S s):=⟨vp,vn,vl,c,B⟩
 obtain⟨x0,x1,x2⟩:=B.c3;have LIVE:Hid (∀ wk,BW w l wk->cd w wk x vp vn vl l):=aO l B
 have HBA:Hid (BA w x S vp vn vl c s):=B
 have hxa:¬(x=w.heap.size):=by omega
 have hxb:¬(w.heap.size=x):=by omega
 have HP:Hid (∀ Wc,Bl w Wc->Cr prog 114 #[vp,.agg #[U3 l.a,I6 l.n]] Wc (I6 (aR s.pools l.a l.n))):=fun Wc hW=>oi s.pools l.a l.n vp Wc (fun q hq=>(hI.pa q hq).1) hL.a ((Rd.of_owns (k:=3) (enc:=ak) (fun _=>rfl) hd0 B.op).below hW)
 rw[h2] at HP;have hkn:¬((k:Int)<0):=by omega
 have HN:Hid (∀ Wc,Bl w Wc->Cr prog 115 #[vn,.agg #[U3 l.a,I6 l.n]] Wc (.bool (aU s.nets l.a l.n))):=fun Wc hW=>mG s.nets l.a l.n vn Wc (fun q hq=>(hI.na q hq).1) hL.a ((Rd.of_owns (k:=3) (enc:=ak) (fun _=>rfl) hd0 B.on).below hW)
 rw[h3] at HN;obtain⟨bp,cp,ep,_,_⟩:=ae B.op;subst ep;obtain⟨bn,cn,en,_,_⟩:=ae B.on;subst en;have h5:(24:Int)<=(s.nets.length:Int):=by omega
 clear B;unfold lnC;go_enter func72,ntmps72
 go_wp2;go_region_held3 (fun w'=>w'.cell? (At x 0)=some (.slice bp s.pools.length cp)/\w'.cell? (Nw w 3)=some (U3 l.a)/\w'.cell? (Nw w 4)=some (I6 l.n)) (go_keep) (first|(go_at_call 114;refine Mo (HP.o _ upB) fun w1 HQ=>?_;have HB1:Hid (BW w l w1):=al upB sM HQ;clear HQ;have HW1:Hid (Bl w w1):=(ab w l).trans (HB1.o.mono om);obtain⟨x0_1,x1_1,-,-,-,-,o_1,a_1,n_1,-,-,r0_1,r1_1,g0_1,g1_1,zx_1,z0_1,z1_1,-⟩:=LIVE.o w1 HB1.o))
 all_goals (
  go_wp2;go_region_held3 (fun w'=>w'.cell? (At x 1)=some (.slice bn s.nets.length cn)/\w'.cell? (Nw w 3)=some (U3 l.a)/\w'.cell? (Nw w 4)=some (I6 l.n)) (go_keep) (first|(go_at_call 115;refine Mo (HN.o _ (by have hp:=HW1.o;exact upB)) fun w2 HQ=>?_;have HB2:Hid (BW w l w2):=al (by have hp:=HB1.o;exact upB) sM HQ;clear HQ;have HW2:Hid (Bl w w2):=(ab w l).trans (HB2.o.mono om);obtain⟨-,x1_2,-,-,-,-,o_2,a_2,n_2,-,-,r0_2,r1_2,g0_2,g1_2,zx_2,z0_2,z1_2,-⟩:=LIVE.o w2 HB2.o))
  all_goals (
   go_wp2_with (go_at_call 39;refine Mo (az 6 _) fun w9 HQ=>?_;have HB9:Hid (BW w l w9):=al (by have hp:=HB2.o;exact upB) sM HQ;clear HQ;have HW9:Hid (Bl w w9):=(ab w l).trans (HB9.o.mono om);obtain⟨r0_9,r1_9,g0_9,g1_9,z1_9⟩:=(LIVE.o w9 HB9.o).q)
   have hR:=(LIVE.o w9 HB9.o).rb
   obtain⟨kk0,kk1⟩:=ay hR (I6 6) (.slice none 0 0)
   have hfin:=a7 (l:=l) 6 H.o HB9.o
   exact bodyPost_ret (v:=.agg #[I6 6,.slice none 0 0]) (by simp[results,results72,go_sem,kk0,kk1]) rfl hfin))
theorem yq(w:World)(x:Nat)(S:Nat->Prop)(s:Bk)(l:Ln)(hI:Inv s)(hL:aZ l)(h:au w x S s)(h1:¬l.n<22)(k:Nat)(h2:aR s.pools l.a l.n=k)(h3:aU s.nets l.a l.n=false)(h4:¬24<=s.nets.length):Calls prog 72 #[Pq x,.agg (lnC l)] w (Res w x S ({ s with nets:=cm s.nets ⟨l.a,l.n,l.o⟩ },okA)):=by
 obtain⟨vp,vn,vl,c,B⟩:=h;have hx:=B.blk.lt;have H:Hid (au w x S s):=⟨vp,vn,vl,c,B⟩
 obtain⟨x0,x1,x2⟩:=B.c3;have LIVE:Hid (∀ wk,BW w l wk->cd w wk x vp vn vl l):=aO l B
 have HBA:Hid (BA w x S vp vn vl c s):=B
 have hxa:¬(x=w.heap.size):=by omega
 have hxb:¬(w.heap.size=x):=by omega
 have HS:Hid (∀ b,S b->b<w.heap.size):=B.sz
 have HP:Hid (∀ Wc,Bl w Wc->Cr prog 114 #[vp,.agg #[U3 l.a,I6 l.n]] Wc (I6 (aR s.pools l.a l.n))):=fun Wc hW=>oi s.pools l.a l.n vp Wc (fun q hq=>(hI.pa q hq).1) hL.a ((Rd.of_owns (k:=3) (enc:=ak) (fun _=>rfl) hd0 B.op).below hW)
 rw[h2] at HP;have hkn:¬((k:Int)<0):=by omega
 have HN:Hid (∀ Wc,Bl w Wc->Cr prog 115 #[vn,.agg #[U3 l.a,I6 l.n]] Wc (.bool (aU s.nets l.a l.n))):=fun Wc hW=>mG s.nets l.a l.n vn Wc (fun q hq=>(hI.na q hq).1) hL.a ((Rd.of_owns (k:=3) (enc:=ak) (fun _=>rfl) hd0 B.on).below hW)
 rw[h3] at HN;have HAD:Hid (∀ Wc,Bl w Wc->Calls prog 112 #[Pq x,.agg #[U3 l.a,I6 l.n],.string l.o] Wc fun e w'=>e=.returned (.tuple #[])/\∃ S',au w' x S' { s with nets:=cm s.nets ⟨l.a,l.n,l.o⟩ }/\(∀ b,S' b->S b\/Wc.heap.size<=b)/\Chg S Wc w'):=fun Wc hW=>il Wc x S s l.a l.n l.o hI (H.o.below hW)
 obtain⟨bp,cp,ep,_,_⟩:=ae B.op;subst ep;obtain⟨bn,cn,en,_,_⟩:=ae B.on;subst en;have h5:¬(24:Int)<=(s.nets.length:Int):=by omega
 clear B;unfold lnC;go_enter func72,ntmps72
 go_wp2;go_region_held3 (fun w'=>w'.cell? (At x 0)=some (.slice bp s.pools.length cp)/\w'.cell? (Nw w 3)=some (U3 l.a)/\w'.cell? (Nw w 4)=some (I6 l.n)) (go_keep) (first|(go_at_call 114;refine Mo (HP.o _ upB) fun w1 HQ=>?_;have HB1:Hid (BW w l w1):=al upB sM HQ;clear HQ;have HW1:Hid (Bl w w1):=(ab w l).trans (HB1.o.mono om);obtain⟨x0_1,x1_1,-,-,-,-,o_1,a_1,n_1,-,-,r0_1,r1_1,g0_1,g1_1,zx_1,z0_1,z1_1,-⟩:=LIVE.o w1 HB1.o))
 all_goals (
  go_wp2;go_region_held3 (fun w'=>w'.cell? (At x 1)=some (.slice bn s.nets.length cn)/\w'.cell? (Nw w 3)=some (U3 l.a)/\w'.cell? (Nw w 4)=some (I6 l.n)) (go_keep) (first|(go_at_call 115;refine Mo (HN.o _ (by have hp:=HW1.o;exact upB)) fun w2 HQ=>?_;have HB2:Hid (BW w l w2):=al (by have hp:=HB1.o;exact upB) sM HQ;clear HQ;have HW2:Hid (Bl w w2):=(ab w l).trans (HB2.o.mono om);obtain⟨-,x1_2,-,-,-,-,o_2,a_2,n_2,-,-,r0_2,r1_2,g0_2,g1_2,zx_2,z0_2,z1_2,-⟩:=LIVE.o w2 HB2.o))
  all_goals (
   go_wp2_with (first|(go_at_call 112;refine(HAD.o _ (by have hp:=HW2.o;exact upB)).mono ?_;rintro e w3 ⟨rfl,S3,o1,o2,o3⟩;have HG:Hid (∃ Wc,Bl w Wc/\w.heap.size+2<=Wc.heap.size/\(∀ b,S3 b->S b\/Wc.heap.size<=b)/\Chg S Wc w3):=⟨_,by have hp:=HW2.o;exact upB,by have hz:=HB2.o.size;simp at hz ⊢;omega,o2,o3⟩;have HA:Hid (au w3 x S3 { s with nets:=cm s.nets ⟨l.a,l.n,l.o⟩ }):=o1;have RB3:Hid (Blk w3 (w.heap.size+1) #[I6 0,.slice none 0 0] 98):=(o3.block _ (by have hz:=HB2.o.size;simp at hz ⊢;omega) (fun q=>by have:=HS.o _ q;omega)).trans (LIVE.o _ (by have hp:=HB2.o;exact upB)).rb;have z1_3:w.heap.size+1<w3.heap.size:=RB3.o.lt;clear o1 o2 o3)|(go_at_call 105;refine Mo (fc none 0 0 _) fun w4 HQ=>?_;have HQ4:Hid (Bl w3 w4):=HQ;have RB4:Blk w4 (w.heap.size+1) #[I6 0,.slice none 0 0] 98:=(HQ.block _ z1_3).trans RB3.o;clear HQ;have HR4:Hid (Blk w4 (w.heap.size+1) #[I6 0,.slice none 0 0] 98):=RB4;have r0_4:w4.cell? (At (w.heap.size+1) 0)=some (I6 0):=RB4.cell 0;have r1_4:w4.cell? (At (w.heap.size+1) 1)=some (.slice none 0 0):=RB4.cell 1;have g0_4:w4.frozen? (At (w.heap.size+1) 0)=false:=RB4.frozen 0;have g1_4:w4.frozen? (At (w.heap.size+1) 1)=false:=RB4.frozen 1;clear RB4))
   obtain⟨kk0,kk1⟩:=ay HR4.o (I6 0) (.slice none 0 0)
   obtain⟨Wc,hc1,hc2,hc3,hc4⟩:=HG.o;have hfin:=kR HS.o hc1 hc2 HA.o hc3 hc4 HQ4.o okA rfl (.slice none 0 0) (fun _ _ _=>iL _ _ _ _)
   exact bodyPost_ret (v:=.agg #[I6 0,.slice none 0 0]) (by simp[results,results72,go_sem,kk0,kk1]) rfl hfin))
theorem mi(w:World)(x:Nat)(S:Nat->Prop)(s:Bk)(l:Ln)(hI:Inv s)(hL:aZ l)(h:au w x S s):Calls prog 72 #[Pq x,.agg (lnC l)] w (Res w x S (bI s l)):=by
 unfold bI;by_cases h1:l.n<22
 ·rw[if_pos h1];exact pA w x S s l hI hL h h1
 ·rw[if_neg h1];rcases aV (bM l.a l.n) s.pools hd0 with⟨e,_⟩|⟨k,hk,e,hp,_⟩
  ·have e1:aR s.pools l.a l.n=-1:=e
   rw[if_pos (by rw[e1];decide)];exact rQ w x S s l hI hL h h1 e1
  ·have e1:aR s.pools l.a l.n=k:=e
   rw[if_neg (by rw[e1];omega)]
   by_cases h3:aU s.nets l.a l.n=true
   ·rw[if_pos h3];exact rP w x S s l hI hL h h1 k e1 h3
   ·rw[if_neg h3];by_cases h4:24<=s.nets.length
    ·rw[if_pos h4];exact pz w x S s l hI hL h h1 k e1 (by simpa using h3) h4
    ·rw[if_neg h4];exact yq w x S s l hI hL h h1 k e1 (by simpa using h3) h4
end
end Go.Proofs.YtjnhhnbgjjkkjaaGreatDoor
