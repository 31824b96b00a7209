import Derived.Deep.AppendLies
import Derived.Deep.LoopGhost
import Derived.Handy
import Derived.Test.YtjnhhnbgjjkkjaaGreatDoorRePAC
import Derived.Test.YtjnhhnbgjjkkjaaGreatDoorRePAB
import Derived.Shelf.Abstract
set_option linter.all false
set_option maxRecDepth 100000
set_option maxHeartbeats 2000000
namespace Go.Proofs.YtjnhhnbgjjkkjaaGreatDoor
open Go.ChangeShapes Go.WideShapes Go.ChangeAt Go.RowKit Go.Proofs.Tryz
theorem bup{w W w1:World}(h:Bl w W)(k:Bl W w1):Bl w w1:=h.trans (k.mono h.size)
def vH(h:Hd):Value:=.agg #[U3 h.a,I6 h.n,.string h.o]
def vB(a n:Int):Value:=.agg #[U3 a,I6 n]
def ad(a:Int):Prop:=0<=a/\a<4294967296
theorem fL(h:Hd)(w:World):Cr prog 173 #[vH h] w (U3 h.a):=by
 obtain⟨a,n,o⟩:=h;unfold vH;go_enter func173,ntmps173
 go_wp2;go_ret;exact⟨rfl,upB⟩
theorem lE(h:Hd)(b m:Int)(w:World)(ha:ad h.a)(hb:ad b):Cr prog 293 #[vH h,vB b m] w (.bool (bR b m h)):=by
 obtain⟨a,n,o⟩:=h;have hc:Hid (∀ w,Cr prog 237 #[vB a n,vB b m] w (.bool (mm a n b m))):=fun w=>mJ a n b m w ha.1 ha.2 hb.1 hb.2
 unfold bR;unfold vB at hc;unfold vH vB;dsimp only;generalize mm a n b m=r at hc ⊢
 go_enter func293,ntmps293
 go_wp2_with (go_at_call 237;refine(hc.o _).mono ?_;rintro e w1 ⟨rfl,hb1⟩)
 go_ret;exact⟨rfl,bup upB hb1⟩
theorem Ek(a n b m:Int)(w:World)(h:n<m):Cr prog 206 #[vB a n,vB b m] w (.bool false):=by
 unfold vB;go_enter func206,ntmps206
 go_wp2;go_ret;exact⟨rfl,upB⟩
theorem B9(a n b m:Int)(w:World)(h:¬n<m)(ha:ad a)(hb:ad b):Cr prog 206 #[vB a n,vB b m] w (.bool (mm a n b m)):=by
 have hc:Hid (∀ w,Cr prog 237 #[vB a n,vB b m] w (.bool (mm a n b m))):=fun w=>mJ a n b m w ha.1 ha.2 hb.1 hb.2
 unfold vB at hc ⊢
 generalize mm a n b m=r at hc ⊢
 go_enter func206,ntmps206
 go_wp2_with (go_at_call 237;refine(hc.o _).mono ?_;rintro e w1 ⟨rfl,hb1⟩)
 go_ret;exact⟨rfl,bup upB hb1⟩
theorem B8(a n b m:Int)(w:World)(ha:ad a)(hb:ad b):Cr prog 206 #[vB a n,vB b m] w (.bool (inn a n b m)):=by
 by_cases h:n<m
 ·have e:inn a n b m=false:=by unfold inn;rw[decide_eq_false om];rfl
  rw[e];exact Ek a n b m w h
 ·have e:inn a n b m=mm a n b m:=by unfold inn;rw[decide_eq_true om];rfl
  rw[e];exact B9 a n b m w h ha hb
theorem f8(h:Hd)(b m:Int)(w:World)(ha:ad h.a)(hb:ad b):Cr prog 160 #[vH h,vB b m] w (.bool (bM b m h)):=by
 obtain⟨a,n,o⟩:=h;have hc:Hid (∀ w,Cr prog 206 #[vB b m,vB a n] w (.bool (inn b m a n))):=fun w=>B8 b m a n w hb ha
 unfold bM;unfold vB at hc;unfold vH vB;dsimp only;generalize inn b m a n=r at hc ⊢
 go_enter func160,ntmps160
 go_wp2_with (go_at_call 206;refine(hc.o _).mono ?_;rintro e w1 ⟨rfl,hb1⟩)
 go_ret;exact⟨rfl,bup upB hb1⟩
theorem uy(h:Hd)(b m:Int)(w:World):Cr prog 292 #[vH h,vB b m] w (.bool (isH b m h)):=by
 obtain⟨a,n,o⟩:=h;unfold isH vH vB;dsimp only;by_cases e1:a=b
 ·subst e1;by_cases e2:n=m
  ·subst e2;go_enter func292,ntmps292
   go_wp2;go_ret;exact⟨aC sM,upB⟩
  ·go_enter func292,ntmps292
   go_wp2;go_ret;exact⟨aC (by simp[e2]),upB⟩
 ·go_enter func292,ntmps292
  go_wp2;go_ret;exact⟨aC (by simp[e1]),upB⟩
theorem eb(h:Hd)(s:Bz)(w:World):Cr prog 107 #[vH h,.string s] w (.bool (h.o.toList==s.toList)):=by
 obtain⟨a,n,o⟩:=h;unfold vH;dsimp only;go_enter func107,ntmps107
 go_wp2;go_ret;exact⟨rfl,upB⟩
theorem Eo(h:Hd)(b m:Int)(w:World)(c:Nat)(ha:ad h.a)(hb:ad b)(c0:w.cell? (At c 0)=some (U3 b))(c1:w.cell? (At c 1)=some (I6 m))(hc:c<w.heap.size):Cr prog 153 #[vH h,Pq c] w (.bool (bR b m h)):=by
 have hq:Hid (∀ w,Cr prog 293 #[vH h,vB b m] w (.bool (bR b m h))):=fun w=>lE h b m w ha hb
 generalize bR b m h=r at hq ⊢
 obtain⟨a,n,o⟩:=h;unfold vH vB at hq;unfold vH;dsimp only at *
 go_enter func153,ntmps153
 go_wp2_with (go_at_call 293;refine(hq.o _).mono ?_;rintro e w1 ⟨rfl,hb1⟩)
 go_ret;exact⟨rfl,bup upB hb1⟩
theorem GM(h:Hd)(b m:Int)(w:World)(c:Nat)(ha:ad h.a)(hb:ad b)(c0:w.cell? (At c 0)=some (U3 b))(c1:w.cell? (At c 1)=some (I6 m))(hc:c<w.heap.size):Cr prog 159 #[vH h,Pq c] w (.bool (isH b m h)):=by
 have hq:Hid (∀ w,Cr prog 292 #[vH h,vB b m] w (.bool (isH b m h))):=fun w=>uy h b m w
 generalize isH b m h=r at hq ⊢
 obtain⟨a,n,o⟩:=h;unfold vH vB at hq;unfold vH;dsimp only at *
 go_enter func159,ntmps159
 go_wp2_with (go_at_call 292;refine(hq.o _).mono ?_;rintro e w1 ⟨rfl,hb1⟩)
 go_ret;exact⟨rfl,bup upB hb1⟩
theorem Er(h:Hd)(b m:Int)(w:World)(c:Nat)(ha:ad h.a)(hb:ad b)(c0:w.cell? (At c 0)=some (U3 b))(c1:w.cell? (At c 1)=some (I6 m))(hc:c<w.heap.size):Cr prog 164 #[vH h,Pq c] w (.bool (bM b m h)):=by
 have hq:Hid (∀ w,Cr prog 160 #[vH h,vB b m] w (.bool (bM b m h))):=fun w=>f8 h b m w ha hb
 generalize bM b m h=r at hq ⊢
 obtain⟨a,n,o⟩:=h;unfold vH vB at hq;unfold vH;dsimp only at *
 go_enter func164,ntmps164
 go_wp2_with (go_at_call 160;refine(hq.o _).mono ?_;rintro e w1 ⟨rfl,hb1⟩)
 go_ret;exact⟨rfl,bup upB hb1⟩
theorem Ep(h:Hd)(b m:Int)(w:World)(c:Nat)(ha:ad h.a)(hb:ad b)(c0:w.cell? (At c 0)=some (U3 b))(c1:w.cell? (At c 1)=some (I6 m))(hc:c<w.heap.size):Cr prog 166 #[vH h,Pq c] w (.bool (bR b m h)):=by
 have hq:Hid (∀ w,Cr prog 293 #[vH h,vB b m] w (.bool (bR b m h))):=fun w=>lE h b m w ha hb
 generalize bR b m h=r at hq ⊢
 obtain⟨a,n,o⟩:=h;unfold vH vB at hq;unfold vH;dsimp only at *
 go_enter func166,ntmps166
 go_wp2_with (go_at_call 293;refine(hq.o _).mono ?_;rintro e w1 ⟨rfl,hb1⟩)
 go_ret;exact⟨rfl,bup upB hb1⟩
theorem GN(h:Hd)(b m:Int)(w:World)(c:Nat)(ha:ad h.a)(hb:ad b)(c0:w.cell? (At c 0)=some (U3 b))(c1:w.cell? (At c 1)=some (I6 m))(hc:c<w.heap.size):Cr prog 168 #[vH h,Pq c] w (.bool (isH b m h)):=by
 have hq:Hid (∀ w,Cr prog 292 #[vH h,vB b m] w (.bool (isH b m h))):=fun w=>uy h b m w
 generalize isH b m h=r at hq ⊢
 obtain⟨a,n,o⟩:=h;unfold vH vB at hq;unfold vH;dsimp only at *
 go_enter func168,ntmps168
 go_wp2_with (go_at_call 292;refine(hq.o _).mono ?_;rintro e w1 ⟨rfl,hb1⟩)
 go_ret;exact⟨rfl,bup upB hb1⟩
theorem Es(h:Hd)(b m:Int)(w:World)(c:Nat)(ha:ad h.a)(hb:ad b)(c0:w.cell? (At c 0)=some (U3 b))(c1:w.cell? (At c 1)=some (I6 m))(hc:c<w.heap.size):Cr prog 172 #[vH h,Pq c] w (.bool (bM b m h)):=by
 have hq:Hid (∀ w,Cr prog 160 #[vH h,vB b m] w (.bool (bM b m h))):=fun w=>f8 h b m w ha hb
 generalize bM b m h=r at hq ⊢
 obtain⟨a,n,o⟩:=h;unfold vH vB at hq;unfold vH;dsimp only at *
 go_enter func172,ntmps172
 go_wp2_with (go_at_call 160;refine(hq.o _).mono ?_;rintro e w1 ⟨rfl,hb1⟩)
 go_ret;exact⟨rfl,bup upB hb1⟩
def ak(h:Hd):List Value:=[U3 h.a,I6 h.n,.string h.o]
def br(l:Ls):List Value:=[U3 l.a,.string l.o]
def vL(l:Ls):Value:=.agg #[U3 l.a,.string l.o]
def Rd{α:Type}(k:Nat)(enc:α->List Value)(d:α)(w:World)(v:Value)(l:List α):Prop :=
 ∃ b cap,v=.slice b l.length cap/\l.length<=cap/\cap<=maxLen/\(l≠[]->∃ g,b=some (At g 0)/\g<w.heap.size/\∀ j,j<l.length->∀ i u,(enc (l.getD j d))[i]?=some u->w.cell? (At g (j*k+i))=some u)
theorem Rd.below{α:Type}{k:Nat}{enc:α->List Value}{d:α}{w w':World}{v:Value}{l:List α}(h:Rd k enc d w v l)(hb:Bl w w'):Rd k enc d w' v l:=by
 obtain⟨b,cap,rfl,h1,h2,h3⟩:=h;refine⟨b,cap,rfl,h1,h2,fun hl=>?_⟩
 obtain⟨g,rfl,hg,hc⟩:=h3 hl;exact⟨g,rfl,Nat.lt_of_lt_of_le hg hb.size,fun j hj i u hu=>(hb.cell (p:=At g (j*k+i)) hg).trans (hc j hj i u hu)⟩
theorem og{α:Type}{k:Nat}{enc:α->List Value}(hk:∀ x,(enc x).length=k)(l:List α)(d:α)(j:Nat)(hj:j<l.length)(i:Nat)(hi:i<k):(l.flatMap enc)[j*k+i]?=(enc (l.getD j d))[i]?:=by
 induction l generalizing j with
 | nil=>simp at hj
 | cons x r ih =>
  rw[List.flatMap_cons]
  cases j with
  | zero=>rw[Nat.zero_mul,Nat.zero_add,List.getElem?_append_left (by rw[hk];exact hi)];rfl
  | succ j =>
   rw[List.getElem?_append_right (by rw[hk,Nat.succ_mul];omega),hk,show (j+1)*k+i-k=j*k+i by rw[Nat.succ_mul];omega,ih j (by simpa using hj)]
   rfl
theorem Rd.of_owns{α:Type}{k:Nat}{enc:α->List Value}(hk:∀ x,(enc x).length=k)(d:α){w:World}{B:Nat}{t:TypeId}{v:Value}{l:List α}(h:w.ownsRow B t k v l.length (l.flatMap enc)):Rd k enc d w v l:=by
 rcases h.2 with⟨rfl,e⟩|⟨g,cap,cur,rfl,hb,hg,h1,h2,h3,h4⟩
 ·obtain rfl:l=[]:=List.length_eq_zero_iff.1 e
  exact⟨none,0,rfl,Nat.le_refl _,by unfold maxLen;omega,fun h=>absurd rfl h⟩
 ·refine⟨_,cap,rfl,h1,h2,fun hl=>⟨g,rfl,(Array.getElem?_eq_some_iff.1 hg).1,fun j hj i u hu=>?_⟩⟩
  have hi:i<k:=by rw[<- hk (l.getD j d)];exact(List.getElem?_eq_some_iff.1 hu).1
  have e:=og hk l d j hj i hi;rw[<- h4,hu,List.getElem?_take] at e;rw[cell_of_row w g _ cur t (0,0) hg];split at e
  ·rw[<- e];simp
  ·cases e
def mw(f:Nat)(lb:Array Value)(p:Hd->Bool)(l:List Hd)(w:World):Prop :=
 ∀ W,Bl w W->∀ h,h∈l->Calls prog f (#[vH h]++lb) W fun e w'=>e=.returned (.bool (p h))/\Bl W w'
theorem aJ{α:Type}(l:List α)(d:α)(j:Nat)(hj:j<l.length):l.getD j d∈l:=by
 rw[List.getD_eq_getElem?_getD,List.getElem?_eq_getElem hj];exact List.getElem_mem hj
theorem EA(l:List Hd)(p:Hd->Bool)(f c:Nat)(v:Value)(w:World)(eg:∀ args w,(callFunc f args).run prog w=.ok (.enter f args) w)(hr:Rd 3 ak hd0 w v l)(hp:mw f #[Pq c] p l w):Cr prog 158 #[v,.func (.func f) #[] #[Pq c]] w (I6 (fi p l)):=by
 obtain⟨b,cap,rfl,h1,h2,h3⟩:=hr;have hn:l.length<=9223372036854775807:=by unfold maxLen at h2;omega
 have hrow:Hid (∀ W,Bl w W->∀ j,j<l.length->∃ g,b=some (At g 0)/\W.cell? (At g (j*3))=some (U3 (l.getD j hd0).a)/\W.cell? (At g (j*3+1))=some (I6 (l.getD j hd0).n)/\W.cell? (At g (j*3+2))=some (.string (l.getD j hd0).o)):=fun W hW j hj=>by
  obtain⟨g,hg,hlt,hc⟩:=h3 (by intro e;rw[e] at hj;simp at hj)
  have hc:=hc j hj;exact⟨g,hg,(hW.cell (p:=At g (j*3)) hlt).trans (hc 0 _ rfl),(hW.cell (p:=At g (j*3+1)) hlt).trans (hc 1 _ rfl),(hW.cell (p:=At g (j*3+2)) hlt).trans (hc 2 _ rfl)⟩
 have HP:Hid (mw f #[Pq c] p l w):=hp
 clear h1 h2 h3 hp;go_enter func158,ntmps158
 go_wp2;go_loopg [5,8] l.length (fun gg _ s8 wr=>∃ kk:Nat,kk<=l.length/\l.length-kk<=gg/\s8=I6 kk/\Hid (Bl w wr)/\Hid (∀ j,j<kk->p (l.getD j hd0)=false))
 case atStart=>exact⟨0,Nat.zero_le _,by omega,rfl,Below.refl _ w,fun j hj=>absurd hj (Nat.not_lt_zero _)⟩
 case round =>
  obtain⟨kk,hkk,hg,rfl,BW,HA⟩:=hrel;by_cases hlt:kk<l.length
  ·have hltz:(kk:Int)<(l.length:Int):=by omega
   obtain⟨g,rfl,k0,k1,k2⟩:=hrow.o wr BW.o kk hlt;have hcall:Hid (Calls prog f (#[vH (l.getD kk hd0)]++#[Pq c]) wr fun e w'=>e=.returned (.bool (p (l.getD kk hd0)))/\Bl wr w'):=HP.o wr BW.o _ (aJ l hd0 kk hlt)
   have hB:Hid (p (l.getD kk hd0)=p (l.getD kk hd0)):=rfl
   generalize hy:l.getD kk hd0=y at k0 k1 k2 hcall
   have HY:Hid (l.getD kk hd0=y):=hy
   clear hy hrow HP hB;unfold vH at hcall
   cases hq:p y with
   | true =>
    rw[hq] at hcall;have HQ:Hid (p y=true):=hq
    clear hq;go_wp2_with (go_at_fn f;refine hcall.o.mono ?_;rintro e w' ⟨rfl,hb'⟩)
    go_ret;refine⟨?_,bup BW.o hb'⟩
    rw[iD p l hd0 kk hlt HA.o (by rw[HY.o];exact HQ.o)]
    rfl
   | false =>
    rw[hq] at hcall;have HQ:Hid (p y=false):=hq
    clear hq;go_wp2_with (go_at_fn f;refine hcall.o.mono ?_;rintro e w' ⟨rfl,hb'⟩)
    go_roundg (l.length-(kk+1))
    case measure=>omega
    case rel =>
     refine⟨kk+1,by omega,by omega,by go_num,bup BW.o hb',(show Hid _ from fun j hj=>?_)⟩
     by_cases e:j=kk
     ·subst e;rw[HY.o];exact HQ.o
     ·exact HA.o j om
  ·have hltz:¬(kk:Int)<(l.length:Int):=by omega
   have hkl:kk=l.length:=by omega
   subst hkl;clear hrow HP;go_wp2;go_ret;refine⟨?_,BW.o⟩
   rw[gY p l (fun x hx=>by
    obtain⟨j,hj,rfl⟩:=List.getElem_of_mem hx;have:=HA.o j hj
    rw[List.getD_eq_getElem?_getD,List.getElem?_eq_getElem hj] at this;exact this)]
   rfl
theorem EB(l:List Hd)(p:Hd->Bool)(f c:Nat)(v:Value)(w:World)(eg:∀ args w,(callFunc f args).run prog w=.ok (.enter f args) w)(hr:Rd 3 ak hd0 w v l)(hp:mw f #[Pq c] p l w):Cr prog 167 #[v,.func (.func f) #[] #[Pq c]] w (I6 (fi p l)):=by
 obtain⟨b,cap,rfl,h1,h2,h3⟩:=hr;have hn:l.length<=9223372036854775807:=by unfold maxLen at h2;omega
 have hrow:Hid (∀ W,Bl w W->∀ j,j<l.length->∃ g,b=some (At g 0)/\W.cell? (At g (j*3))=some (U3 (l.getD j hd0).a)/\W.cell? (At g (j*3+1))=some (I6 (l.getD j hd0).n)/\W.cell? (At g (j*3+2))=some (.string (l.getD j hd0).o)):=fun W hW j hj=>by
  obtain⟨g,hg,hlt,hc⟩:=h3 (by intro e;rw[e] at hj;simp at hj)
  have hc:=hc j hj;exact⟨g,hg,(hW.cell (p:=At g (j*3)) hlt).trans (hc 0 _ rfl),(hW.cell (p:=At g (j*3+1)) hlt).trans (hc 1 _ rfl),(hW.cell (p:=At g (j*3+2)) hlt).trans (hc 2 _ rfl)⟩
 have HP:Hid (mw f #[Pq c] p l w):=hp
 clear h1 h2 h3 hp;go_enter func167,ntmps167
 go_wp2;go_loopg [5,8] l.length (fun gg _ s8 wr=>∃ kk:Nat,kk<=l.length/\l.length-kk<=gg/\s8=I6 kk/\Hid (Bl w wr)/\Hid (∀ j,j<kk->p (l.getD j hd0)=false))
 case atStart=>exact⟨0,Nat.zero_le _,by omega,rfl,Below.refl _ w,fun j hj=>absurd hj (Nat.not_lt_zero _)⟩
 case round =>
  obtain⟨kk,hkk,hg,rfl,BW,HA⟩:=hrel;by_cases hlt:kk<l.length
  ·have hltz:(kk:Int)<(l.length:Int):=by omega
   obtain⟨g,rfl,k0,k1,k2⟩:=hrow.o wr BW.o kk hlt;have hcall:Hid (Calls prog f (#[vH (l.getD kk hd0)]++#[Pq c]) wr fun e w'=>e=.returned (.bool (p (l.getD kk hd0)))/\Bl wr w'):=HP.o wr BW.o _ (aJ l hd0 kk hlt)
   have hB:Hid (p (l.getD kk hd0)=p (l.getD kk hd0)):=rfl
   generalize hy:l.getD kk hd0=y at k0 k1 k2 hcall
   have HY:Hid (l.getD kk hd0=y):=hy
   clear hy hrow HP hB;unfold vH at hcall
   cases hq:p y with
   | true =>
    rw[hq] at hcall;have HQ:Hid (p y=true):=hq
    clear hq;go_wp2_with (go_at_fn f;refine hcall.o.mono ?_;rintro e w' ⟨rfl,hb'⟩)
    go_ret;refine⟨?_,bup BW.o hb'⟩
    rw[iD p l hd0 kk hlt HA.o (by rw[HY.o];exact HQ.o)]
    rfl
   | false =>
    rw[hq] at hcall;have HQ:Hid (p y=false):=hq
    clear hq;go_wp2_with (go_at_fn f;refine hcall.o.mono ?_;rintro e w' ⟨rfl,hb'⟩)
    go_roundg (l.length-(kk+1))
    case measure=>omega
    case rel =>
     refine⟨kk+1,by omega,by omega,by go_num,bup BW.o hb',(show Hid _ from fun j hj=>?_)⟩
     by_cases e:j=kk
     ·subst e;rw[HY.o];exact HQ.o
     ·exact HA.o j om
  ·have hltz:¬(kk:Int)<(l.length:Int):=by omega
   have hkl:kk=l.length:=by omega
   subst hkl;clear hrow HP;go_wp2;go_ret;refine⟨?_,BW.o⟩
   rw[gY p l (fun x hx=>by
    obtain⟨j,hj,rfl⟩:=List.getElem_of_mem hx;have:=HA.o j hj
    rw[List.getD_eq_getElem?_getD,List.getElem?_eq_getElem hj] at this;exact this)]
   rfl
theorem so{α:Type}(p:α->Bool)(l:List α):decide (0<=fi p l)=l.any p:=by
 induction l with
 | nil=>rfl
 | cons x r ih =>
  rw[List.any_cons,<- ih];rcases hx:p x with _|_
  ·simp only[fi,hx,Bool.false_or,Bool.false_eq_true,if_false]
   split<;>rw[Bool.eq_iff_iff]<;>simp<;>omega
  ·simp[fi,hx]
theorem GO(l:List Hd)(p:Hd->Bool)(f c:Nat)(v:Value)(w:World)(eg:∀ args w,(callFunc f args).run prog w=.ok (.enter f args) w)(hr:Rd 3 ak hd0 w v l)(hp:mw f #[Pq c] p l w):Cr prog 152 #[v,.func (.func f) #[] #[Pq c]] w (.bool (l.any p)):=by
 have hi:Hid (Cr prog 158 #[v,.func (.func f) #[] #[Pq c]] w (I6 (fi p l))):=EA l p f c v w eg hr hp
 rw[<- so];obtain⟨b,cap,rfl,h1,h2,h3⟩:=hr;clear hp h1 h2 h3 eg;generalize fi p l=r at hi ⊢
 go_enter func152,ntmps152
 go_wp2_with (go_at_call 158;refine hi.o.mono ?_;rintro e w1 ⟨rfl,hb1⟩)
 go_ret;exact⟨rfl,hb1⟩
theorem GP(l:List Hd)(p:Hd->Bool)(f c:Nat)(v:Value)(w:World)(eg:∀ args w,(callFunc f args).run prog w=.ok (.enter f args) w)(hr:Rd 3 ak hd0 w v l)(hp:mw f #[Pq c] p l w):Cr prog 165 #[v,.func (.func f) #[] #[Pq c]] w (.bool (l.any p)):=by
 have hi:Hid (Cr prog 167 #[v,.func (.func f) #[] #[Pq c]] w (I6 (fi p l))):=EB l p f c v w eg hr hp
 rw[<- so];obtain⟨b,cap,rfl,h1,h2,h3⟩:=hr;clear hp h1 h2 h3 eg;generalize fi p l=r at hi ⊢
 go_enter func165,ntmps165
 go_wp2_with (go_at_call 167;refine hi.o.mono ?_;rintro e w1 ⟨rfl,hb1⟩)
 go_ret;exact⟨rfl,hb1⟩
theorem gD(l:List Hd)(b m:Int)(v:Value)(w:World)(hl:∀ h,h∈l->ad h.a)(hb:ad b)(hr:Rd 3 ak hd0 w v l):Cr prog 106 #[v,vB b m] w (I6 (ah l b m)):=by
 have hi:Hid (∀ W c,Bl w W->c<W.heap.size->W.cell? (At c 0)=some (U3 b)->W.cell? (At c 1)=some (I6 m)->Cr prog 158 #[v,.func (.func 159) #[] #[Pq c]] W (I6 (ah l b m))):=fun W c hW hc c0 c1 =>
  EA l (isH b m) _ c v W (enters_of func159 (by kernel_rfl) rfl) (hr.below hW) fun V hV h hh=>GM h b m V c (hl h hh) hb ((hV.cell (p:=At c 0) hc).trans c0) ((hV.cell (p:=At c 1) hc).trans c1) (Nat.lt_of_lt_of_le hc hV.size)
 obtain⟨bb,cap,rfl,h1,h2,h3⟩:=hr;clear h1 h2 h3 hl;unfold ah at hi ⊢
 unfold vB;generalize fi (isH b m) l=r at hi ⊢
 go_enter func106,ntmps106
 go_wp2_with (go_at_call 158;refine(hi.o _ _ upB sM (by simp[go_sem]) (by simp[go_sem])).mono ?_;rintro e w1 ⟨rfl,hb1⟩)
 go_ret;exact⟨rfl,bup upB hb1⟩
theorem oi(l:List Hd)(b m:Int)(v:Value)(w:World)(hl:∀ h,h∈l->ad h.a)(hb:ad b)(hr:Rd 3 ak hd0 w v l):Cr prog 114 #[v,vB b m] w (I6 (aR l b m)):=by
 have hi:Hid (∀ W c,Bl w W->c<W.heap.size->W.cell? (At c 0)=some (U3 b)->W.cell? (At c 1)=some (I6 m)->Cr prog 158 #[v,.func (.func 164) #[] #[Pq c]] W (I6 (aR l b m))):=fun W c hW hc c0 c1 =>
  EA l (bM b m) _ c v W (enters_of func164 (by kernel_rfl) rfl) (hr.below hW) fun V hV h hh=>Er h b m V c (hl h hh) hb ((hV.cell (p:=At c 0) hc).trans c0) ((hV.cell (p:=At c 1) hc).trans c1) (Nat.lt_of_lt_of_le hc hV.size)
 obtain⟨bb,cap,rfl,h1,h2,h3⟩:=hr;clear h1 h2 h3 hl;unfold aR at hi ⊢
 unfold vB;generalize fi (bM b m) l=r at hi ⊢
 go_enter func114,ntmps114
 go_wp2_with (go_at_call 158;refine(hi.o _ _ upB sM (by simp[go_sem]) (by simp[go_sem])).mono ?_;rintro e w1 ⟨rfl,hb1⟩)
 go_ret;exact⟨rfl,bup upB hb1⟩
theorem ye(l:List Hd)(b m:Int)(v:Value)(w:World)(hl:∀ h,h∈l->ad h.a)(hb:ad b)(hr:Rd 3 ak hd0 w v l):Cr prog 103 #[v,vB b m] w (.bool (aU l b m)):=by
 have hi:Hid (∀ W c,Bl w W->c<W.heap.size->W.cell? (At c 0)=some (U3 b)->W.cell? (At c 1)=some (I6 m)->Cr prog 152 #[v,.func (.func 153) #[] #[Pq c]] W (.bool (aU l b m))):=fun W c hW hc c0 c1 =>
  GO l (bR b m) _ c v W (enters_of func153 (by kernel_rfl) rfl) (hr.below hW) fun V hV h hh=>Eo h b m V c (hl h hh) hb ((hV.cell (p:=At c 0) hc).trans c0) ((hV.cell (p:=At c 1) hc).trans c1) (Nat.lt_of_lt_of_le hc hV.size)
 obtain⟨bb,cap,rfl,h1,h2,h3⟩:=hr;clear h1 h2 h3 hl;unfold aU at hi ⊢
 unfold vB;generalize l.any (bR b m)=r at hi ⊢
 go_enter func103,ntmps103
 go_wp2_with (go_at_call 152;refine(hi.o _ _ upB sM (by simp[go_sem]) (by simp[go_sem])).mono ?_;rintro e w1 ⟨rfl,hb1⟩)
 go_ret;exact⟨rfl,bup upB hb1⟩
theorem im(l:List Hd)(b m:Int)(v:Value)(w:World)(hl:∀ h,h∈l->ad h.a)(hb:ad b)(hr:Rd 3 ak hd0 w v l):Cr prog 116 #[v,vB b m] w (I6 (ah l b m)):=by
 have hi:Hid (∀ W c,Bl w W->c<W.heap.size->W.cell? (At c 0)=some (U3 b)->W.cell? (At c 1)=some (I6 m)->Cr prog 167 #[v,.func (.func 168) #[] #[Pq c]] W (I6 (ah l b m))):=fun W c hW hc c0 c1 =>
  EB l (isH b m) _ c v W (enters_of func168 (by kernel_rfl) rfl) (hr.below hW) fun V hV h hh=>GN h b m V c (hl h hh) hb ((hV.cell (p:=At c 0) hc).trans c0) ((hV.cell (p:=At c 1) hc).trans c1) (Nat.lt_of_lt_of_le hc hV.size)
 obtain⟨bb,cap,rfl,h1,h2,h3⟩:=hr;clear h1 h2 h3 hl;unfold ah at hi ⊢
 unfold vB;generalize fi (isH b m) l=r at hi ⊢
 go_enter func116,ntmps116
 go_wp2_with (go_at_call 167;refine(hi.o _ _ upB sM (by simp[go_sem]) (by simp[go_sem])).mono ?_;rintro e w1 ⟨rfl,hb1⟩)
 go_ret;exact⟨rfl,bup upB hb1⟩
theorem iF(l:List Hd)(b m:Int)(v:Value)(w:World)(hl:∀ h,h∈l->ad h.a)(hb:ad b)(hr:Rd 3 ak hd0 w v l):Cr prog 122 #[v,vB b m] w (I6 (aR l b m)):=by
 have hi:Hid (∀ W c,Bl w W->c<W.heap.size->W.cell? (At c 0)=some (U3 b)->W.cell? (At c 1)=some (I6 m)->Cr prog 167 #[v,.func (.func 172) #[] #[Pq c]] W (I6 (aR l b m))):=fun W c hW hc c0 c1 =>
  EB l (bM b m) _ c v W (enters_of func172 (by kernel_rfl) rfl) (hr.below hW) fun V hV h hh=>Es h b m V c (hl h hh) hb ((hV.cell (p:=At c 0) hc).trans c0) ((hV.cell (p:=At c 1) hc).trans c1) (Nat.lt_of_lt_of_le hc hV.size)
 obtain⟨bb,cap,rfl,h1,h2,h3⟩:=hr;clear h1 h2 h3 hl;unfold aR at hi ⊢
 unfold vB;generalize fi (bM b m) l=r at hi ⊢
 go_enter func122,ntmps122
 go_wp2_with (go_at_call 167;refine(hi.o _ _ upB sM (by simp[go_sem]) (by simp[go_sem])).mono ?_;rintro e w1 ⟨rfl,hb1⟩)
 go_ret;exact⟨rfl,bup upB hb1⟩
theorem mG(l:List Hd)(b m:Int)(v:Value)(w:World)(hl:∀ h,h∈l->ad h.a)(hb:ad b)(hr:Rd 3 ak hd0 w v l):Cr prog 115 #[v,vB b m] w (.bool (aU l b m)):=by
 have hi:Hid (∀ W c,Bl w W->c<W.heap.size->W.cell? (At c 0)=some (U3 b)->W.cell? (At c 1)=some (I6 m)->Cr prog 165 #[v,.func (.func 166) #[] #[Pq c]] W (.bool (aU l b m))):=fun W c hW hc c0 c1 =>
  GP l (bR b m) _ c v W (enters_of func166 (by kernel_rfl) rfl) (hr.below hW) fun V hV h hh=>Ep h b m V c (hl h hh) hb ((hV.cell (p:=At c 0) hc).trans c0) ((hV.cell (p:=At c 1) hc).trans c1) (Nat.lt_of_lt_of_le hc hV.size)
 obtain⟨bb,cap,rfl,h1,h2,h3⟩:=hr;clear h1 h2 h3 hl;unfold aU at hi ⊢
 unfold vB;generalize l.any (bR b m)=r at hi ⊢
 go_enter func115,ntmps115
 go_wp2_with (go_at_call 165;refine(hi.o _ _ upB sM (by simp[go_sem]) (by simp[go_sem])).mono ?_;rintro e w1 ⟨rfl,hb1⟩)
 go_ret;exact⟨rfl,bup upB hb1⟩
def dd(a b:Int):Int:=if a<b then -1 else if b<a then 1 else 0
theorem gU(a b:Int):dd a b<0 ↔ a<b:=by unfold dd;split<;>(try split)<;>omega
theorem eJ(a b:Int):dd a b=0 ↔ a=b:=by unfold dd;split<;>(try split)<;>omega
theorem Ff(a:Int)(w:World):Calls prog 203 #[U3 a] w fun e w'=>e=.returned (.bool false)/\w'=w:=by
 go_enter func203,ntmps203
 go_wp2;go_ret;exact⟨aC sM,rfl⟩
theorem n8(a b:Int)(w:World):Calls prog 156 #[U3 a,U3 b] w fun e w'=>e=.returned (I6 (dd a b))/\w'=w:=by
 have hn:Hid (∀ (a:Int) (w:World),Calls prog 203 #[U3 a] w fun e w'=>e=.returned (.bool false)/\w'=w):=Ff
 unfold dd;by_cases h1:a<b
 ·rw[if_pos h1];go_enter func156,ntmps156
  go_wp2_with (go_at_call 203;refine(hn.o _ _).mono ?_;rintro e w1 ⟨rfl,rfl⟩)
  go_ret;exact⟨rfl,rfl⟩
 ·rw[if_neg h1];by_cases h2:b<a
  ·rw[if_pos h2];go_enter func156,ntmps156
   go_wp2_with (go_at_call 203;refine(hn.o _ _).mono ?_;rintro e w1 ⟨rfl,rfl⟩)
   go_ret;exact⟨rfl,rfl⟩
  ·rw[if_neg h2];go_enter func156,ntmps156
   go_wp2_with (go_at_call 203;refine(hn.o _ _).mono ?_;rintro e w1 ⟨rfl,rfl⟩)
   go_ret;exact⟨rfl,rfl⟩
theorem F9(h:Hd)(b:Int)(w:World):Cr prog 155 #[vH h,U3 b] w (I6 (dd h.a b)):=by
 have hq:Hid (∀ w,Cr prog 173 #[vH h] w (U3 h.a)):=fun w=>fL h w
 have hm:Hid (∀ w,Calls prog 156 #[U3 h.a,U3 b] w fun e w'=>e=.returned (I6 (dd h.a b))/\w'=w):=fun w=>n8 h.a b w
 generalize dd h.a b=r at hm ⊢
 obtain⟨a,n,o⟩:=h;unfold vH at hq ⊢
 dsimp only at *
 go_enter func155,ntmps155
 go_wp2_with (first|(go_at_call 173;refine(hq.o _).mono ?_;rintro e w1 ⟨rfl,hb1⟩)|(go_at_call 156;refine(hm.o _).mono ?_;rintro e w2 ⟨rfl,rfl⟩))
 go_ret;exact⟨rfl,bup upB hb1⟩
theorem Ga(h:Hd)(b:Int)(w:World):Cr prog 209 #[vH h,U3 b] w (I6 (dd h.a b)):=by
 have hq:Hid (∀ w,Cr prog 173 #[vH h] w (U3 h.a)):=fun w=>fL h w
 have hm:Hid (∀ w,Calls prog 156 #[U3 h.a,U3 b] w fun e w'=>e=.returned (I6 (dd h.a b))/\w'=w):=fun w=>n8 h.a b w
 generalize dd h.a b=r at hm ⊢
 obtain⟨a,n,o⟩:=h;unfold vH at hq ⊢
 dsimp only at *
 go_enter func209,ntmps209
 go_wp2_with (first|(go_at_call 173;refine(hq.o _).mono ?_;rintro e w1 ⟨rfl,hb1⟩)|(go_at_call 156;refine(hm.o _).mono ?_;rintro e w2 ⟨rfl,rfl⟩))
 go_ret;exact⟨rfl,bup upB hb1⟩
theorem F8(h:Ls)(b:Int)(w:World):Cr prog 176 #[vL h,U3 b] w (I6 (dd h.a b)):=by
 have hm:Hid (∀ w,Calls prog 156 #[U3 h.a,U3 b] w fun e w'=>e=.returned (I6 (dd h.a b))/\w'=w):=fun w=>n8 h.a b w
 generalize dd h.a b=r at hm ⊢
 obtain⟨a,o⟩:=h;unfold vL;dsimp only at *
 go_enter func176,ntmps176
 go_wp2_with (go_at_call 156;refine(hm.o _).mono ?_;rintro e w2 ⟨rfl,rfl⟩)
 go_ret;exact⟨rfl,upB⟩
theorem jE{α:Type}(p:α->Bool)(d:α)(l:List α)(i:Nat)(hi:i<=l.length)(h1:∀ t,t<i->p (l.getD t d)=true)(h2:∀ t,i<=t->t<l.length->p (l.getD t d)=false):l.countP p=i:=by
 induction l generalizing i with
 | nil=>simp at hi;simp[hi]
 | cons x r ih =>
  cases i with
  | zero =>
   rw[List.countP_eq_zero];intro y hy;obtain⟨t,ht,rfl⟩:=List.getElem_of_mem hy;have:=h2 t (Nat.zero_le _) ht
   rw[List.getD_eq_getElem?_getD,List.getElem?_eq_getElem ht] at this;simpa using this
  | succ i =>
   have hx:p x=true:=by simpa using h1 0 om
   rw[List.countP_cons_of_pos hx,ih i (by simpa using hi) (fun t ht=>by simpa using h1 (t+1) om) (fun t h3 h4=>by simpa using h2 (t+1) om (by simpa using h4))]
def Up{α:Type}(f:α->Int)(d:α)(l:List α):Prop:=∀ i j,i<=j->j<l.length->f (l.getD i d)<=f (l.getD j d)
theorem bsP(l:List Hd)(a:Int)(v:Value)(w:World)(hr:Rd 3 ak hd0 w v l)(hs:Up Hd.a hd0 l)(hn:l.length<=1000):Calls prog 154 #[v,U3 a,.func (.func 155) #[] #[]] w fun e w' =>
   e=.returned (.tuple #[I6 ((l.countP fun h=>decide (h.a<a):Nat)),.bool (decide ((l.countP fun h=>decide (h.a<a))<l.length)&&decide ((l.getD (l.countP fun h=>decide (h.a<a)) hd0).a=a))])/\Bl w w':=by
 obtain⟨b,cap,rfl,h1,h2,h3⟩:=hr;have eg:∀ args w,(callFunc 155 args).run prog w=.ok (.enter 155 args) w:=enters_of func155 (by kernel_rfl) rfl
 have hrow:Hid (∀ W,Bl w W->∀ j,j<l.length->∃ g,b=some (At g 0)/\W.cell? (At g (j*3))=some (U3 (l.getD j hd0).a)/\W.cell? (At g (j*3+1))=some (I6 (l.getD j hd0).n)/\W.cell? (At g (j*3+2))=some (.string (l.getD j hd0).o)):=fun W hW j hj=>by
  obtain⟨g,hg,hlt,hc⟩:=h3 (by intro e;rw[e] at hj;simp at hj)
  have hc:=hc j hj;exact⟨g,hg,(hW.cell (p:=At g (j*3)) hlt).trans (hc 0 _ rfl),(hW.cell (p:=At g (j*3+1)) hlt).trans (hc 1 _ rfl),(hW.cell (p:=At g (j*3+2)) hlt).trans (hc 2 _ rfl)⟩
 have HS:Hid (Up Hd.a hd0 l):=hs
 have HC:Hid (∀ (h:Hd) (w:World),Cr prog 155 #[vH h,U3 a] w (I6 (dd h.a a))):=fun h w=>F9 h a w
 clear h1 h2 h3 hs;generalize hcnt:(l.countP fun h=>decide (h.a<a))=cnt
 have CN:Hid ((l.countP fun h=>decide (h.a<a))=cnt):=hcnt
 clear hcnt;generalize hfin:(decide (cnt<l.length)&&decide ((l.getD cnt hd0).a=a))=fin
 have FIN:Hid ((decide (cnt<l.length)&&decide ((l.getD cnt hd0).a=a))=fin):=hfin
 clear hfin;go_enter func154,ntmps154
 go_wp2;go_loopg [9,10] l.length (fun kx s9 s10 wr=>∃ lo hi:Nat,s9=I6 lo/\s10=I6 hi/\lo<=hi/\hi<=l.length/\hi-lo<=kx/\Hid (Bl w wr) /\
  Hid ((∀ t,t<lo->(l.getD t hd0).a<a)/\(∀ t,hi<=t->t<l.length->a<=(l.getD t hd0).a)))
 case atStart=>exact⟨0,l.length,rfl,rfl,Nat.zero_le _,Nat.le_refl _,by omega,Below.refl _ w,(⟨fun t ht=>absurd ht (Nat.not_lt_zero _),fun t h1 h2=>by omega⟩:(∀ t,t<0->(l.getD t hd0).a<a)/\(∀ t,l.length<=t->t<l.length->a<=(l.getD t hd0).a))⟩
 case round =>
  obtain⟨lo,hi,rfl,rfl,hlh,hin,hg,BW,I⟩:=hrel;by_cases hlt:lo<hi
  ·obtain⟨g,rfl,k0,k1,k2⟩:=hrow.o wr BW.o ((lo+hi) / 2) om
   generalize hy:l.getD ((lo+hi) / 2) hd0=y at k0 k1 k2
   have Y:Hid (l.getD ((lo+hi) / 2) hd0=y):=hy
   clear hy hrow;have hc:Hid (Cr prog 155 #[vH y,U3 a] wr (I6 (dd y.a a))):=HC.o y wr
   unfold vH at hc;clear HC;by_cases hyx:dd y.a a<0
   ·have H2:Hid (dd y.a a<0):=hyx
    go_wp2_with (go_at_fn 155;refine hc.o.mono ?_;rintro e w' ⟨rfl,hb'⟩)
    go_roundg (hi-((lo+hi) / 2+1))
    case measure=>omega
    case rel =>
     have I2:Hid ((∀ t,t<(lo+hi) / 2+1->(l.getD t hd0).a<a)/\(∀ t,hi<=t->t<l.length->a<=(l.getD t hd0).a)):=⟨fun t ht=>by have q:=HS.o t ((lo+hi) / 2) om om;rw[Y.o] at q;have:=(gU _ _).1 H2.o;omega,I.o.2⟩
     exact⟨(lo+hi) / 2+1,hi,by rw[show ((lo:Int)+(hi:Int)) / 2+1=(((lo+hi) / 2+1:Nat):Int) by omega],rfl,by omega,hin,Nat.le_refl _,bup BW.o hb',I2⟩
   ·have H2:Hid (a<=y.a):=by have:=gU y.a a;show a<=y.a;omega
    go_wp2_with (go_at_fn 155;refine hc.o.mono ?_;rintro e w' ⟨rfl,hb'⟩)
    go_roundg ((lo+hi) / 2-lo)
    case measure=>omega
    case rel =>
     have I2:Hid ((∀ t,t<lo->(l.getD t hd0).a<a)/\(∀ t,(lo+hi) / 2<=t->t<l.length->a<=(l.getD t hd0).a)):=⟨I.o.1,fun t ht htn=>by have q:=HS.o ((lo+hi) / 2) t ht htn;rw[Y.o] at q;have:=H2.o;omega⟩
     exact⟨lo,(lo+hi) / 2,rfl,by rw[show ((lo:Int)+(hi:Int)) / 2=(((lo+hi) / 2:Nat):Int) by omega],by omega,by omega,Nat.le_refl _,bup BW.o hb',I2⟩
  ·obtain rfl:hi=lo:=by omega
   have ecnt:cnt=hi:=by
    rw[<- CN.o];exact jE _ hd0 l hi hin (fun t ht=>decide_eq_true (I.o.1 t ht)) (fun t h3 h4=>decide_eq_false (by have:=I.o.2 t h3 h4;omega))
   subst ecnt;by_cases hn:cnt<l.length
   ·obtain⟨g,rfl,k0,k1,k2⟩:=hrow.o wr BW.o cnt hn;generalize hy:l.getD cnt hd0=y at k0 k1 k2
    have Y:Hid (l.getD cnt hd0=y):=hy
    clear hy hrow;have hc:Hid (Cr prog 155 #[vH y,U3 a] wr (I6 (dd y.a a))):=HC.o y wr
    unfold vH at hc;clear HC;by_cases hyx:dd y.a a=0
    ·have H2:Hid (dd y.a a=0):=hyx
     go_wp2_with (go_at_fn 155;refine hc.o.mono ?_;rintro e w' ⟨rfl,hb'⟩)
     go_ret2
     exact⟨by rw[<- FIN.o,Y.o];simp[hn,(eJ _ _).1 H2.o],bup BW.o hb'⟩
    ·have H2:Hid (y.a≠a):=fun e=>hyx ((eJ y.a a).2 e)
     go_wp2_with (go_at_fn 155;refine hc.o.mono ?_;rintro e w' ⟨rfl,hb'⟩)
     go_ret2
     exact⟨by rw[<- FIN.o,Y.o];have q:=H2.o;have q2:=(not_congr (eJ y.a a)).2 q;simp[hn,q,q2],bup BW.o hb'⟩
   ·clear hrow HC;go_wp2;go_ret2
    exact⟨by rw[<- FIN.o];simp[hn],BW.o⟩
theorem bsS(l:List Hd)(a:Int)(v:Value)(w:World)(hr:Rd 3 ak hd0 w v l)(hs:Up Hd.a hd0 l)(hn:l.length<=1000):Calls prog 208 #[v,U3 a,.func (.func 209) #[] #[]] w fun e w' =>
   e=.returned (.tuple #[I6 ((l.countP fun h=>decide (h.a<a):Nat)),.bool (decide ((l.countP fun h=>decide (h.a<a))<l.length)&&decide ((l.getD (l.countP fun h=>decide (h.a<a)) hd0).a=a))])/\Bl w w':=by
 obtain⟨b,cap,rfl,h1,h2,h3⟩:=hr;have eg:∀ args w,(callFunc 209 args).run prog w=.ok (.enter 209 args) w:=enters_of func209 (by kernel_rfl) rfl
 have hrow:Hid (∀ W,Bl w W->∀ j,j<l.length->∃ g,b=some (At g 0)/\W.cell? (At g (j*3))=some (U3 (l.getD j hd0).a)/\W.cell? (At g (j*3+1))=some (I6 (l.getD j hd0).n)/\W.cell? (At g (j*3+2))=some (.string (l.getD j hd0).o)):=fun W hW j hj=>by
  obtain⟨g,hg,hlt,hc⟩:=h3 (by intro e;rw[e] at hj;simp at hj)
  have hc:=hc j hj;exact⟨g,hg,(hW.cell (p:=At g (j*3)) hlt).trans (hc 0 _ rfl),(hW.cell (p:=At g (j*3+1)) hlt).trans (hc 1 _ rfl),(hW.cell (p:=At g (j*3+2)) hlt).trans (hc 2 _ rfl)⟩
 have HS:Hid (Up Hd.a hd0 l):=hs
 have HC:Hid (∀ (h:Hd) (w:World),Cr prog 209 #[vH h,U3 a] w (I6 (dd h.a a))):=fun h w=>Ga h a w
 clear h1 h2 h3 hs;generalize hcnt:(l.countP fun h=>decide (h.a<a))=cnt
 have CN:Hid ((l.countP fun h=>decide (h.a<a))=cnt):=hcnt
 clear hcnt;generalize hfin:(decide (cnt<l.length)&&decide ((l.getD cnt hd0).a=a))=fin
 have FIN:Hid ((decide (cnt<l.length)&&decide ((l.getD cnt hd0).a=a))=fin):=hfin
 clear hfin;go_enter func208,ntmps208
 go_wp2;go_loopg [9,10] l.length (fun kx s9 s10 wr=>∃ lo hi:Nat,s9=I6 lo/\s10=I6 hi/\lo<=hi/\hi<=l.length/\hi-lo<=kx/\Hid (Bl w wr) /\
  Hid ((∀ t,t<lo->(l.getD t hd0).a<a)/\(∀ t,hi<=t->t<l.length->a<=(l.getD t hd0).a)))
 case atStart=>exact⟨0,l.length,rfl,rfl,Nat.zero_le _,Nat.le_refl _,by omega,Below.refl _ w,(⟨fun t ht=>absurd ht (Nat.not_lt_zero _),fun t h1 h2=>by omega⟩:(∀ t,t<0->(l.getD t hd0).a<a)/\(∀ t,l.length<=t->t<l.length->a<=(l.getD t hd0).a))⟩
 case round =>
  obtain⟨lo,hi,rfl,rfl,hlh,hin,hg,BW,I⟩:=hrel;by_cases hlt:lo<hi
  ·obtain⟨g,rfl,k0,k1,k2⟩:=hrow.o wr BW.o ((lo+hi) / 2) om
   generalize hy:l.getD ((lo+hi) / 2) hd0=y at k0 k1 k2
   have Y:Hid (l.getD ((lo+hi) / 2) hd0=y):=hy
   clear hy hrow;have hc:Hid (Cr prog 209 #[vH y,U3 a] wr (I6 (dd y.a a))):=HC.o y wr
   unfold vH at hc;clear HC;by_cases hyx:dd y.a a<0
   ·have H2:Hid (dd y.a a<0):=hyx
    go_wp2_with (go_at_fn 209;refine hc.o.mono ?_;rintro e w' ⟨rfl,hb'⟩)
    go_roundg (hi-((lo+hi) / 2+1))
    case measure=>omega
    case rel =>
     have I2:Hid ((∀ t,t<(lo+hi) / 2+1->(l.getD t hd0).a<a)/\(∀ t,hi<=t->t<l.length->a<=(l.getD t hd0).a)):=⟨fun t ht=>by have q:=HS.o t ((lo+hi) / 2) om om;rw[Y.o] at q;have:=(gU _ _).1 H2.o;omega,I.o.2⟩
     exact⟨(lo+hi) / 2+1,hi,by rw[show ((lo:Int)+(hi:Int)) / 2+1=(((lo+hi) / 2+1:Nat):Int) by omega],rfl,by omega,hin,Nat.le_refl _,bup BW.o hb',I2⟩
   ·have H2:Hid (a<=y.a):=by have:=gU y.a a;show a<=y.a;omega
    go_wp2_with (go_at_fn 209;refine hc.o.mono ?_;rintro e w' ⟨rfl,hb'⟩)
    go_roundg ((lo+hi) / 2-lo)
    case measure=>omega
    case rel =>
     have I2:Hid ((∀ t,t<lo->(l.getD t hd0).a<a)/\(∀ t,(lo+hi) / 2<=t->t<l.length->a<=(l.getD t hd0).a)):=⟨I.o.1,fun t ht htn=>by have q:=HS.o ((lo+hi) / 2) t ht htn;rw[Y.o] at q;have:=H2.o;omega⟩
     exact⟨lo,(lo+hi) / 2,rfl,by rw[show ((lo:Int)+(hi:Int)) / 2=(((lo+hi) / 2:Nat):Int) by omega],by omega,by omega,Nat.le_refl _,bup BW.o hb',I2⟩
  ·obtain rfl:hi=lo:=by omega
   have ecnt:cnt=hi:=by
    rw[<- CN.o];exact jE _ hd0 l hi hin (fun t ht=>decide_eq_true (I.o.1 t ht)) (fun t h3 h4=>decide_eq_false (by have:=I.o.2 t h3 h4;omega))
   subst ecnt;by_cases hn:cnt<l.length
   ·obtain⟨g,rfl,k0,k1,k2⟩:=hrow.o wr BW.o cnt hn;generalize hy:l.getD cnt hd0=y at k0 k1 k2
    have Y:Hid (l.getD cnt hd0=y):=hy
    clear hy hrow;have hc:Hid (Cr prog 209 #[vH y,U3 a] wr (I6 (dd y.a a))):=HC.o y wr
    unfold vH at hc;clear HC;by_cases hyx:dd y.a a=0
    ·have H2:Hid (dd y.a a=0):=hyx
     go_wp2_with (go_at_fn 209;refine hc.o.mono ?_;rintro e w' ⟨rfl,hb'⟩)
     go_ret2
     exact⟨by rw[<- FIN.o,Y.o];simp[hn,(eJ _ _).1 H2.o],bup BW.o hb'⟩
    ·have H2:Hid (y.a≠a):=fun e=>hyx ((eJ y.a a).2 e)
     go_wp2_with (go_at_fn 209;refine hc.o.mono ?_;rintro e w' ⟨rfl,hb'⟩)
     go_ret2
     exact⟨by rw[<- FIN.o,Y.o];have q:=H2.o;have q2:=(not_congr (eJ y.a a)).2 q;simp[hn,q,q2],bup BW.o hb'⟩
   ·clear hrow HC;go_wp2;go_ret2
    exact⟨by rw[<- FIN.o];simp[hn],BW.o⟩
theorem bsL(l:List Ls)(a:Int)(v:Value)(w:World)(hr:Rd 2 br ls0 w v l)(hs:Up Ls.a ls0 l)(hn:l.length<=1000):Calls prog 175 #[v,U3 a,.func (.func 176) #[] #[]] w fun e w' =>
   e=.returned (.tuple #[I6 ((l.countP fun h=>decide (h.a<a):Nat)),.bool (decide ((l.countP fun h=>decide (h.a<a))<l.length)&&decide ((l.getD (l.countP fun h=>decide (h.a<a)) ls0).a=a))])/\Bl w w':=by
 obtain⟨b,cap,rfl,h1,h2,h3⟩:=hr;have eg:∀ args w,(callFunc 176 args).run prog w=.ok (.enter 176 args) w:=enters_of func176 (by kernel_rfl) rfl
 have hrow:Hid (∀ W,Bl w W->∀ j,j<l.length->∃ g,b=some (At g 0)/\W.cell? (At g (j*2))=some (U3 (l.getD j ls0).a)/\W.cell? (At g (j*2+1))=some (.string (l.getD j ls0).o)):=fun W hW j hj=>by
  obtain⟨g,hg,hlt,hc⟩:=h3 (by intro e;rw[e] at hj;simp at hj)
  have hc:=hc j hj;exact⟨g,hg,(hW.cell (p:=At g (j*2)) hlt).trans (hc 0 _ rfl),(hW.cell (p:=At g (j*2+1)) hlt).trans (hc 1 _ rfl)⟩
 have HS:Hid (Up Ls.a ls0 l):=hs
 have HC:Hid (∀ (h:Ls) (w:World),Cr prog 176 #[vL h,U3 a] w (I6 (dd h.a a))):=fun h w=>F8 h a w
 clear h1 h2 h3 hs;generalize hcnt:(l.countP fun h=>decide (h.a<a))=cnt
 have CN:Hid ((l.countP fun h=>decide (h.a<a))=cnt):=hcnt
 clear hcnt;generalize hfin:(decide (cnt<l.length)&&decide ((l.getD cnt ls0).a=a))=fin
 have FIN:Hid ((decide (cnt<l.length)&&decide ((l.getD cnt ls0).a=a))=fin):=hfin
 clear hfin;go_enter func175,ntmps175
 go_wp2;go_loopg [9,10] l.length (fun kx s9 s10 wr=>∃ lo hi:Nat,s9=I6 lo/\s10=I6 hi/\lo<=hi/\hi<=l.length/\hi-lo<=kx/\Hid (Bl w wr) /\
  Hid ((∀ t,t<lo->(l.getD t ls0).a<a)/\(∀ t,hi<=t->t<l.length->a<=(l.getD t ls0).a)))
 case atStart=>exact⟨0,l.length,rfl,rfl,Nat.zero_le _,Nat.le_refl _,by omega,Below.refl _ w,(⟨fun t ht=>absurd ht (Nat.not_lt_zero _),fun t h1 h2=>by omega⟩:(∀ t,t<0->(l.getD t ls0).a<a)/\(∀ t,l.length<=t->t<l.length->a<=(l.getD t ls0).a))⟩
 case round =>
  obtain⟨lo,hi,rfl,rfl,hlh,hin,hg,BW,I⟩:=hrel;by_cases hlt:lo<hi
  ·obtain⟨g,rfl,k0,k1⟩:=hrow.o wr BW.o ((lo+hi) / 2) om
   generalize hy:l.getD ((lo+hi) / 2) ls0=y at k0 k1
   have Y:Hid (l.getD ((lo+hi) / 2) ls0=y):=hy
   clear hy hrow;have hc:Hid (Cr prog 176 #[vL y,U3 a] wr (I6 (dd y.a a))):=HC.o y wr
   unfold vL at hc;clear HC;by_cases hyx:dd y.a a<0
   ·have H2:Hid (dd y.a a<0):=hyx
    go_wp2_with (go_at_fn 176;refine hc.o.mono ?_;rintro e w' ⟨rfl,hb'⟩)
    go_roundg (hi-((lo+hi) / 2+1))
    case measure=>omega
    case rel =>
     have I2:Hid ((∀ t,t<(lo+hi) / 2+1->(l.getD t ls0).a<a)/\(∀ t,hi<=t->t<l.length->a<=(l.getD t ls0).a)):=⟨fun t ht=>by have q:=HS.o t ((lo+hi) / 2) om om;rw[Y.o] at q;have:=(gU _ _).1 H2.o;omega,I.o.2⟩
     exact⟨(lo+hi) / 2+1,hi,by rw[show ((lo:Int)+(hi:Int)) / 2+1=(((lo+hi) / 2+1:Nat):Int) by omega],rfl,by omega,hin,Nat.le_refl _,bup BW.o hb',I2⟩
   ·have H2:Hid (a<=y.a):=by have:=gU y.a a;show a<=y.a;omega
    go_wp2_with (go_at_fn 176;refine hc.o.mono ?_;rintro e w' ⟨rfl,hb'⟩)
    go_roundg ((lo+hi) / 2-lo)
    case measure=>omega
    case rel =>
     have I2:Hid ((∀ t,t<lo->(l.getD t ls0).a<a)/\(∀ t,(lo+hi) / 2<=t->t<l.length->a<=(l.getD t ls0).a)):=⟨I.o.1,fun t ht htn=>by have q:=HS.o ((lo+hi) / 2) t ht htn;rw[Y.o] at q;have:=H2.o;omega⟩
     exact⟨lo,(lo+hi) / 2,rfl,by rw[show ((lo:Int)+(hi:Int)) / 2=(((lo+hi) / 2:Nat):Int) by omega],by omega,by omega,Nat.le_refl _,bup BW.o hb',I2⟩
  ·obtain rfl:hi=lo:=by omega
   have ecnt:cnt=hi:=by
    rw[<- CN.o];exact jE _ ls0 l hi hin (fun t ht=>decide_eq_true (I.o.1 t ht)) (fun t h3 h4=>decide_eq_false (by have:=I.o.2 t h3 h4;omega))
   subst ecnt;by_cases hn:cnt<l.length
   ·obtain⟨g,rfl,k0,k1⟩:=hrow.o wr BW.o cnt hn;generalize hy:l.getD cnt ls0=y at k0 k1
    have Y:Hid (l.getD cnt ls0=y):=hy
    clear hy hrow;have hc:Hid (Cr prog 176 #[vL y,U3 a] wr (I6 (dd y.a a))):=HC.o y wr
    unfold vL at hc;clear HC;by_cases hyx:dd y.a a=0
    ·have H2:Hid (dd y.a a=0):=hyx
     go_wp2_with (go_at_fn 176;refine hc.o.mono ?_;rintro e w' ⟨rfl,hb'⟩)
     go_ret2
     exact⟨by rw[<- FIN.o,Y.o];simp[hn,(eJ _ _).1 H2.o],bup BW.o hb'⟩
    ·have H2:Hid (y.a≠a):=fun e=>hyx ((eJ y.a a).2 e)
     go_wp2_with (go_at_fn 176;refine hc.o.mono ?_;rintro e w' ⟨rfl,hb'⟩)
     go_ret2
     exact⟨by rw[<- FIN.o,Y.o];have q:=H2.o;have q2:=(not_congr (eJ y.a a)).2 q;simp[hn,q,q2],bup BW.o hb'⟩
   ·clear hrow HC;go_wp2;go_ret2
    exact⟨by rw[<- FIN.o];simp[hn],BW.o⟩
end Go.Proofs.YtjnhhnbgjjkkjaaGreatDoor
