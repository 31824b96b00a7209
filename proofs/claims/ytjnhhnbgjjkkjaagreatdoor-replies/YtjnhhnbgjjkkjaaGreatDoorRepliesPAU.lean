/-
  RfS, RfT
-/
import Derived.Test.YtjnhhnbgjjkkjaaGreatDoorRepliesPAT
set_option linter.unusedVariables false
set_option linter.unusedSimpArgs false
set_option maxRecDepth 100000
set_option maxHeartbeats 2000000
namespace Go.Proofs.YtjnhhnbgjjkkjaaGreatDoor
open Go.RowKit
theorem g7{h:Hd}:∀ {l:List Hd},l.Pairwise (fun x y=>x.a<=y.a)->(∀ x,x∈l->x.a≠h.a)->aT l h=b9 l h
 | [],_,_=>rfl
 | x::r,hs,hne=>by
  obtain⟨h1,h2⟩:=List.pairwise_cons.1 hs;have hx:=hne x (by simp)
  unfold aT;by_cases q:h.a<x.a
  ·rw[if_pos q];have:fa (x::r) h.a=0:=by
    unfold fa;rw[List.countP_eq_zero];intro y hy;rcases List.mem_cons.1 hy with rfl|hy
    ·simp;omega
    ·have:=h1 y hy;simp;omega
   unfold b9;rw[this];rfl
  ·rw[if_neg q,g7 h2 (fun y hy=>hne y (by simp[hy]))]
   have:fa (x::r) h.a=fa r h.a+1:=by
    unfold fa;rw[List.countP_cons,if_pos (by simp;omega)]
   unfold b9;rw[this];rfl
theorem jH{h:Ls}:∀ {l:List Ls},l.Pairwise (fun x y=>x.a<y.a)->(∀ x,x∈l->x.a≠h.a)->dS l h=dN l h
 | [],_,_=>rfl
 | x::r,hs,hne=>by
  obtain⟨h1,h2⟩:=List.pairwise_cons.1 hs;have hx:=hne x (by simp)
  unfold dS;by_cases q:h.a<x.a
  ·rw[if_pos q];have:bL (x::r) h.a=0:=by
    unfold bL;rw[List.countP_eq_zero];intro y hy;rcases List.mem_cons.1 hy with rfl|hy
    ·simp;omega
    ·have:=h1 y hy;simp;omega
   unfold dN;rw[this];rfl
  ·rw[if_neg q,jH h2 (fun y hy=>hne y (by simp[hy]))]
   have:bL (x::r) h.a=bL r h.a+1:=by
    unfold bL;rw[List.countP_cons,if_pos (by simp;omega)]
   unfold dN;rw[this];rfl
theorem qr{α:Type}{p q:α->Bool}:∀ {l:List α},(∀ x,x∈l->p x=q x)->fi p l=fi q l
 | [],_=>rfl
 | x::r,h=>by
  have h0:=h x (by simp)
  have h1:=qr (l:=r) (fun y hy=>h y (by simp[hy]))
  unfold fi;rw[h0,h1]
theorem ld{l:List Hd}{a n:Int}(hl:∀ h,h∈l->rt h.a h.n=true)(hr:rt a n=true)(h:aU l a n=false):∀ x,x∈l->x.a≠a:=fun x hx e=>by
 have:mm x.a x.n a n=false:=by
  cases q:mm x.a x.n a n with
  | false=>rfl
  | true=>rw[dj.2 ⟨x,hx,q⟩] at h;cases h
 rcases (ms (hl x hx) hr).1 this with q|q
 ·have:=aC n;omega
 ·have:=aC x.n;omega
theorem kj{l:List Hd}{a n:Int}(hl:∀ h,h∈l->rt h.a h.n=true)(hr:rt a n=true):0<df l a n ↔ af l a n≠[]:=by
 unfold df sq af;rw[List.take_length,List.countP_pos_iff];constructor
 ·rintro⟨x,hx,q⟩ e
  have:x∈l.filter fun h=>inn h.a h.n a n:=List.mem_filter.2 ⟨hx,by rw[<- eW (hl x hx) hr];exact q⟩
  rw[e] at this
  cases this
 ·intro h;obtain⟨x,hx⟩:=List.exists_mem_of_ne_nil _ h;obtain⟨h1,h2⟩:=List.mem_filter.1 hx;exact⟨x,h1,by rw[eW (hl x h1) hr];exact h2⟩
theorem ib{l:List Ls}{a n:Int}(hr:rt a n=true):0<df (l.map lsH) a n ↔ av l a n≠[]:=by
 unfold df sq av;rw[List.take_length,List.countP_pos_iff];constructor
 ·rintro⟨x,hx,q⟩ e
  obtain⟨y,hy,rfl⟩:=List.mem_map.1 hx;have:y∈l.filter fun h=>inn h.a 32 a n:=List.mem_filter.2 ⟨hy,by rw[<- eW jr hr];exact q⟩
  rw[e] at this
  cases this
 ·intro h;obtain⟨x,hx⟩:=List.exists_mem_of_ne_nil _ h;obtain⟨h1,h2⟩:=List.mem_filter.1 hx;exact⟨lsH x,List.mem_map.2 ⟨x,h1,rfl⟩,by show ri x.a 32 a n=true;rw[eW jr hr];exact h2⟩
theorem jX{l:List Hd}{a n:Int}(hl:∀ h,h∈l->rt h.a h.n=true)(hr:rt a n=true):dv l a n=aQ l a n:=qr fun x hx=>eW hr (hl x hx)
theorem rj{b n x:Int}:usR b n x=true ↔ db b n<=x/\x<=dg b n:=by
 unfold usR db dg;by_cases h:n<=30
 ·rw[if_pos h,if_pos h];by_cases q:x=b\/x=lst b n
  ·rw[if_pos ⟨h,q⟩];simp;omega
  ·rw[if_neg (fun z=>q z.2)];simp;omega
 ·rw[if_neg h,if_neg h,if_neg (fun z=>h z.1)];simp
theorem zI{x:Ls}{a:Int}:isH a 32 (lsH x)=true ↔ x.a=a:=by
 unfold isH lsH;rw[Bool.and_eq_true,decide_eq_true_eq,decide_eq_true_eq];exact⟨fun h=>h.1,fun h=>⟨h,rfl⟩⟩
theorem tr{α β:Type}(f:α->β)(d:α)(l:List α)(k:Nat)(h:k<l.length)(e:β):(l.map f).getD k e=f (l.getD k d):=by
 simp[List.getD_eq_getElem?_getD,List.getElem?_map,List.getElem?_eq_getElem h]
theorem iz{l:List Ls}(hp:l.Pairwise fun x y=>x.a<y.a)(a:Int):dK l a=if dh l a then (bL l a:Int) else -1:=by
 cases h:dh l a with
 | true =>
  rw[if_pos rfl];have h0:=h;unfold dh at h;simp only[Bool.and_eq_true,decide_eq_true_eq] at h
  have hk:bL l a<(l.map lsH).length:=by simpa using h.1
  refine ig _ _ hd0 (bL l a) hk (fun j hj=>?_) ?_
  ·rw[tr lsH ls0 l j om];have hc:=(nR Ls.a a l (Em hp)).1 (l.getD j ls0) (by
    rw[List.mem_iff_getElem?];refine⟨j,?_⟩
    rw[List.getElem?_take,if_pos (by exact hj)]
    simp[List.getD_eq_getElem?_getD,List.getElem?_eq_getElem (show j<l.length by omega)])
   cases q:isH a 32 (lsH (l.getD j ls0)) with
   | false=>rfl
   | true=>have:=zI.1 q;omega
  ·rw[tr lsH ls0 l _ h.1];exact zI.2 h.2
 | false =>
  rw[if_neg (by simp)]
  refine gY _ _ fun x hx=>?_
  obtain⟨y,hy,rfl⟩:=List.mem_map.1 hx
  cases q:isH a 32 (lsH y) with
  | false=>rfl
  | true=>rw[(gx hp a).2 ⟨y,hy,zI.1 q⟩] at h;cases h
theorem gu(p:Int->Bool):∀ (k:Nat) (x y:Int),de p k x=some y ↔ x<=y/\y<x+k/\p y=true/\∀ z,x<=z->z<y->p z=false
 | 0,x,y=>by
  unfold de;constructor
  ·intro h;cases h
  ·intro h;omega
 | k+1,x,y=>by
  unfold de
  cases hx:p x with
  | true =>
   rw[if_pos rfl];constructor
   ·intro h;cases h;exact⟨by omega,by omega,hx,fun z h1 h2=>by omega⟩
   ·rintro⟨h1,h2,h3,h4⟩
    rcases Int.lt_or_le x y with q|q
    ·have:=h4 x om q;rw[hx] at this;cases this
    ·have:x=y:=by omega
     rw[this]
  | false =>
   rw[if_neg (by simp),gu p k (x+1) y]
   constructor
   ·rintro⟨h1,h2,h3,h4⟩
    refine⟨by omega,by omega,h3,fun z z1 z2=>?_⟩
    rcases Int.lt_or_le x z with q|q
    ·exact h4 z om z2
    ·have:z=x:=by omega
     rw[this];exact hx
   ·rintro⟨h1,h2,h3,h4⟩
    have:x≠y:=fun e=>by rw[e,h3] at hx;cases hx
    exact⟨by omega,by omega,h3,fun z z1 z2=>h4 z om z2⟩
theorem pt(p:Int->Bool):∀ (k:Nat) (x:Int),(∀ z,x<=z->z<x+k->p z=false)->de p k x=none:=fun k x h=>by
 cases q:de p k x with
 | none=>rfl
 | some y =>
  obtain⟨h1,h2,h3,_⟩:=(gu p k x y).1 q
  rw[h y h1 h2] at h3;cases h3
theorem j8(last:Int):∀ (L:List Ls) (x:Int),x<=last->(∀ y,bO last x L=some y->∀ z,x<=z->z<y->∃ l,l∈L/\l.a=z)/\(bO last x L=none->∀ z,x<=z->z<=last->∃ l,l∈L/\l.a=z)
 | [],x,hx=>⟨fun y h z z1 z2=>by unfold bO at h;cases h;omega,fun h=>by unfold bO at h;cases h⟩
 | l::r,x,hx=>by
  unfold bO;by_cases h1:l.a≠x
  ·rw[if_pos h1];exact⟨fun y h z z1 z2=>by cases h;omega,fun h=>by cases h⟩
  ·rw[if_neg h1];have e:l.a=x:=by simpa using h1
   by_cases h2:x=last
   ·rw[if_pos h2];exact⟨(fun y h=>by cases h),fun _ z z1 z2=>⟨l,by simp,by omega⟩⟩
   ·rw[if_neg h2];obtain⟨i1,i2⟩:=j8 last r (x+1) om
    have hstep:∀ z,x<=z->(x+1<=z->∃ m,m∈r/\m.a=z)->∃ m,m∈l::r/\m.a=z:=fun z z1 q=>by
     rcases Int.lt_or_le x z with w|w
     ·obtain⟨m,m1,m2⟩:=q om;exact⟨m,by simp[m1],m2⟩
     ·exact⟨l,by simp,by omega⟩
    exact⟨fun y h z z1 z2=>hstep z z1 fun w=>i1 y h z w z2,fun h z z1 z2=>hstep z z1 fun w=>i2 h z w z2⟩
theorem pY{s:Bk}{h:Hd}(G:a7 s)(hh:h∈s.nets):de (eB s.leases h.a h.n) (sz h.n).toNat h.a=dm s.leases h.a h.n:=by
 have hr:=(G.nr h hh).2.2.1
 have hzp:=aC h.n;have hlez:=tR hr;have hop:∀ z,eB s.leases h.a h.n z=true ↔ (db h.a h.n<=z/\z<=dg h.a h.n)/\∀ y,y∈s.leases->y.a≠z:=fun z=>by
  unfold eB;rw[Bool.and_eq_true,rj,iz G.lp];refine and_congr Iff.rfl ?_
  cases q:dh s.leases z with
  | true =>
   obtain⟨y,h1,h2⟩:=(gx G.lp z).1 q
   simp only[if_true,decide_eq_true_eq]
   exact⟨fun w=>by omega,fun w=>absurd h2 (w y h1)⟩
  | false =>
   simp only[Bool.false_eq_true,if_false,decide_eq_true_eq]
   exact⟨(fun _ y h1 h2=>by rw[(gx G.lp z).2 ⟨y,h1,h2⟩] at q;cases q),fun _=>by omega⟩
 have hof:∀ z,db h.a h.n<=z->z<=dg h.a h.n->(∃ l,l∈av s.leases h.a h.n/\l.a=z)->eB s.leases h.a h.n z=false:=fun z z1 z2 ⟨l,l1,l2⟩=>by
  cases q:eB s.leases h.a h.n z with
  | false=>rfl
  | true=>exact absurd l2 (((hop z).1 q).2 l (List.mem_filter.1 l1).1)
 obtain⟨a1,a2⟩:=j8 (dg h.a h.n) (av s.leases h.a h.n) (db h.a h.n) hlez
 cases q:dm s.leases h.a h.n with
 | none =>
  refine pt _ _ _ fun z z1 z2=>?_
  by_cases hu:db h.a h.n<=z/\z<=dg h.a h.n
  ·exact hof z hu.1 hu.2 (a2 q z hu.1 hu.2)
  ·cases w:eB s.leases h.a h.n z with
   | false=>rfl
   | true=>exact absurd ((hop z).1 w).1 hu
 | some d =>
  obtain⟨d1,d2,d3⟩:=fR G hh q;obtain⟨e1,e2⟩:=jy d1 d2;refine(gu _ _ _ _).2 ⟨e1,by omega,(hop d).2 ⟨⟨d1,d2⟩,d3⟩,fun z z1 z2=>?_⟩
  by_cases hu:db h.a h.n<=z
  ·exact hof z hu om (a1 d q z hu z2)
  ·cases w:eB s.leases h.a h.n z with
   | false=>rfl
   | true=>exact absurd ((hop z).1 w).1.1 hu
def asT(y:Bk×An):Bk×Ba:=(y.1,⟨(aF y.2).toArray⟩)
theorem tP(t:Lu):(⟨#[79,75,32]⟩:Ba)++bs t=⟨(aF (ee ⟨t.toArray⟩)).toArray⟩:=by
 apply ByteArray.ext
 apply Array.ext'
 simp[bs,aF,ee]
theorem uD{s:Bk}(G:a7 s):∀ h,h∈s.pools->rt h.a h.n=true:=fun h hh=>(G.pr h hh).2.2
theorem gU{s:Bk}(G:a7 s):∀ h,h∈s.nets->rt h.a h.n=true:=fun h hh=>(G.nr h hh).2.2.1
theorem uW{s:Bk}{l:Ln}(G:a7 s)(hr:rt l.a l.n=true):jj s l.o l.a l.n=asT (cr s l):=by
 unfold jj cr;by_cases h1:l.n<8\/30<l.n
 ·rw[if_pos h1,if_pos h1];rfl
 rw[if_neg h1,if_neg h1]
 cases h2:aU s.pools l.a l.n with
 | true=>rfl
 | false =>
  rw[if_neg Bool.false_ne_true,if_neg Bool.false_ne_true];by_cases h3:6<=s.pools.length
  ·rw[if_pos h3,if_pos h3];rfl
  rw[if_neg h3,if_neg h3,g7 (Cx G.pp) (ld (uD G) hr h2)];rfl
theorem uS{s:Bk}{l:Ln}(G:a7 s)(hr:rt l.a l.n=true):ie s l.o l.a l.n=asT (cP s l):=by
 unfold ie cP;by_cases h1:aj s.pools l.a l.n<0
 ·rw[if_pos h1,if_pos h1];rfl
 rw[if_neg h1,if_neg h1];by_cases h2:(s.pools.getD (aj s.pools l.a l.n).toNat hd0).o≠l.o
 ·rw[if_pos h2,if_pos h2];rfl
 rw[if_neg h2,if_neg h2];by_cases h3:af s.nets l.a l.n≠[]
 ·rw[if_pos ((kj (gU G) hr).2 h3),if_pos h3];rfl
 rw[if_neg (fun q=>h3 ((kj (gU G) hr).1 q)),if_neg h3];rfl
theorem nG{s:Bk}{l:Ln}(G:a7 s)(hr:rt l.a l.n=true):du s l.o l.a l.n=asT (cQ s l):=by
 unfold du cQ;by_cases h1:aj s.nets l.a l.n<0
 ·rw[if_pos h1,if_pos h1];rfl
 rw[if_neg h1,if_neg h1];by_cases h2:(s.nets.getD (aj s.nets l.a l.n).toNat hd0).o≠l.o
 ·rw[if_pos h2,if_pos h2];rfl
 rw[if_neg h2,if_neg h2];by_cases h3:av s.leases l.a l.n≠[]
 ·rw[if_pos ((ib hr).2 h3),if_pos h3];rfl
 rw[if_neg (fun q=>h3 ((ib hr).1 q)),if_neg h3];rfl
theorem sL{s:Bk}{l:Ln}(G:a7 s)(hr:rt l.a l.n=true):fW s l.o l.a l.n=asT (bG s l):=by
 unfold fW bG;rw[jX (uD G) hr];by_cases h1:l.n<22
 ·rw[if_pos h1,if_pos h1];rfl
 rw[if_neg h1,if_neg h1];by_cases h2:aQ s.pools l.a l.n<0
 ·rw[if_pos h2,if_pos h2];rfl
 rw[if_neg h2,if_neg h2]
 cases h3:aU s.nets l.a l.n with
 | true=>rfl
 | false =>
  rw[if_neg Bool.false_ne_true,if_neg Bool.false_ne_true];by_cases h4:24<=s.nets.length
  ·rw[if_pos h4,if_pos h4];rfl
  rw[if_neg h4,if_neg h4,g7 (Cx G.np) (ld (gU G) hr h3)];rfl
theorem xD{s:Bk}{l:Ln}(G:a7 s)(hg:l.g<=32):l8 s l.o l.a l.n l.g=asT (dC s l):=by
 unfold l8 dC;by_cases h1:aj s.pools l.a l.n<0
 ·rw[if_pos h1,if_pos h1];rfl
 rw[if_neg h1,if_neg h1];by_cases h2:l.g<22\/l.g<l.n
 ·rw[if_pos h2,if_pos h2];rfl
 rw[if_neg h2,if_neg h2]
 cases hb:dL (aL 33 (af s.nets l.a l.n) l.a l.n) l.g with
 | none=>rfl
 | some b =>
  have ha:=jR G hg h1 hb;unfold iY;dsimp only;by_cases h3:24<=s.nets.length
  ·rw[if_pos h3,if_pos h3];rfl
  rw[if_neg h3,if_neg h3,g7 (Cx G.np) (by exact ld (gU G) ha.1 ha.2.2.2.1),tP];rfl
theorem yt{s:Bk}{d:Int}{h:Hd}(G:a7 s)(hh:h∈s.nets)(hl:dm s.leases h.a h.n=some d):∀ y,y∈s.leases->y.a≠d:=(fR G hh hl).2.2
theorem sJ{s:Bk}{l:Ln}(G:a7 s):fV s l.o l.a l.n=asT (bS s l):=by
 unfold fV bS;by_cases h1:aj s.nets l.a l.n<0
 ·rw[if_pos h1,if_pos h1];rfl
 rw[if_neg h1,if_neg h1];obtain⟨m1,m2,m3⟩:=eb h1;have hf:=pY G m1;rw[m2,m3] at hf;rw[hf]
 cases hb:dm s.leases l.a l.n with
 | none=>rfl
 | some d =>
  have hne:=yt G m1 (by rw[m2,m3];exact hb)
  unfold eF;dsimp only;by_cases h3:40<=s.leases.length
  ·rw[if_pos h3,if_pos h3];rfl
  rw[if_neg h3,if_neg h3,jH G.lp hne,tP];rfl
theorem xh{s:Bk}{l:Ln}(G:a7 s):i7 s l.o l.d=asT (cu s l):=by
 unfold i7 cu;rw[jX (gU G) jr,iz G.lp];by_cases h1:aQ s.nets l.d 32<0
 ·rw[if_pos h1,if_pos h1];rfl
 rw[if_neg h1,if_neg h1];generalize s.nets.getD (aQ s.nets l.d 32).toNat hd0=h
 cases hu:usR h.a h.n l.d with
 | false =>
  have:¬(db h.a h.n<=l.d/\l.d<=dg h.a h.n):=fun q=>by rw[rj.2 q] at hu;cases hu
  rw[if_pos rfl,if_pos om];rfl
 | true =>
  have:=rj.1 hu
  rw[if_neg (show ¬(true=false) by decide),if_neg (show ¬(l.d<db h.a h.n\/dg h.a h.n<l.d) by omega)]
  cases hL:dh s.leases l.d with
  | true=>rw[if_pos (show (0:Int)<=if true=true then (bL s.leases l.d:Int) else -1 by rw[if_pos rfl];omega)];rfl
  | false =>
   rw[if_neg (show ¬(0:Int)<=if false=true then (bL s.leases l.d:Int) else -1 by simp),if_neg Bool.false_ne_true]
   by_cases h3:40<=s.leases.length
   ·rw[if_pos h3,if_pos h3];rfl
   rw[if_neg h3,if_neg h3,jH G.lp (fun x hx e=>by rw[(gx G.lp l.d).2 ⟨x,hx,e⟩] at hL;cases hL)];rfl
theorem xf{s:Bk}{l:Ln}(G:a7 s):jo s l.o l.d=asT (cO s l):=by
 unfold jo cO;rw[iz G.lp]
 cases hL:dh s.leases l.d with
 | false=>rfl
 | true =>
  have hk:bL s.leases l.d<s.leases.length:=by unfold dh at hL;simp only[Bool.and_eq_true,decide_eq_true_eq] at hL;exact hL.1
  rw[if_pos rfl,if_pos rfl,if_neg (show ¬((bL s.leases l.d:Nat):Int)<0 by omega),Int.toNat_natCast,tr lsH ls0 _ _ hk]
  show (if (s.leases.getD (bL s.leases l.d) ls0).o≠l.o then _ else _)=_
  by_cases h2:(s.leases.getD (bL s.leases l.d) ls0).o≠l.o
  ·rw[if_pos h2,if_pos h2];rfl
  rw[if_neg h2,if_neg h2];rfl
theorem m9(adr:Bool)(L:List Hd)(t:Hd->Lu)(ht:∀ h,mB adr h=32::t h):[79,75]++L.flatMap (mB adr)=aF ⟨0,L.map fun h=>⟨(t h).toArray⟩⟩:=by
 unfold aF;rw[if_pos rfl];congr 1
 rw[List.flatMap_map];congr 1
 funext h
 rw[ht h]
theorem vU{s:Bk}{a n:Int}(G:a7 s)(hr:rt a n=true):bs (ck s.nets a n false)=⟨(aF ⟨0,(af s.nets a n).map fun h=>⟨(bH h).toArray⟩⟩).toArray⟩:=by
 unfold ck bs af;rw[List.filter_congr (q:=fun h=>inn h.a h.n a n) (fun x hx=>eW (gU G x hx) hr),m9 false _ bH (fun h=>rfl)]
theorem Gt:sz 0=4294967296:=by decide
theorem sy{s:Bk}(G:a7 s):bs (ck s.pools 0 0 false)=⟨(aF ⟨0,s.pools.map fun h=>⟨(bH h).toArray⟩⟩).toArray⟩:=by
 unfold ck bs;rw[List.filter_eq_self.2 (fun x hx=>?_),m9 false _ bH (fun h=>rfl)]
 obtain⟨h1,h2,h3⟩:=G.pr x hx;obtain⟨r1,r2,r3⟩:=ah.1 h3;have:=gi x.a x.n r1 r2 h1 h2 r3
 exact rH.2 ⟨h1,by rw[Gt];omega⟩
theorem vF{s:Bk}{a n:Int}(hr:rt a n=true):bs (ck (s.leases.map lsH) a n true)=⟨(aF ⟨0,(av s.leases a n).map fun h=>⟨(dp h).toArray⟩⟩).toArray⟩:=by
 unfold ck bs av;rw[List.filter_map,List.filter_congr (p:=(fun h:Hd=>ri h.a h.n a n) ∘ lsH) (q:=fun h=>inn h.a 32 a n) (fun x hx=>eW (a:=x.a) (n:=32) jr hr)]
 unfold aF;rw[if_pos rfl,List.flatMap_map,List.flatMap_map];rfl
theorem Dv(y:Bk×An):(asT y).2.data.toList.take 2=[79,75] ↔ y.2.e=0:=by
 unfold asT aF;by_cases h:y.2.e=0
 ·simp[h]
 ·simp[h]
theorem uX{s:Bk}{l:Ln}(G:a7 s)(hr:rt l.a l.n=true)(hg:l.g<=32)(hv:l.v<8):b8 s l.v l.o l.a l.n l.g l.d=asT (aG s l):=by
 unfold b8 aG;rcases (show l.v=0\/l.v=1\/l.v=2\/l.v=3\/l.v=4\/l.v=5\/l.v=6\/l.v=7 by omega) with h|h|h|h|h|h|h|h<;>rw[h]
 ·exact uW G hr
 ·exact uS G hr
 ·exact xD G hg
 ·exact sL G hr
 ·exact nG G hr
 ·exact sJ G
 ·exact xh G
 ·exact xf G
theorem yu(s:Bk)(l:Ln):(aG s l).1.toks=s.toks:=by
 unfold aG;split
 ·unfold cr;repeat' split
  all_goals rfl
 ·unfold cP;repeat' split
  all_goals rfl
 ·unfold dC;repeat' split
  all_goals rfl
 ·unfold bG;repeat' split
  all_goals rfl
 ·unfold cQ;repeat' split
  all_goals rfl
 ·unfold bS;repeat' split
  all_goals rfl
 ·unfold cu;repeat' split
  all_goals rfl
 ·unfold cO;repeat' split
  all_goals rfl
 all_goals rfl
theorem zp{s:Bk}{l:Ln}{line:Ba}{ls:List (Lu)}(G:a7 s)(hr:rt l.a l.n=true)(hg:l.g<=32)(hv:l.v<8)(ht:bs (ls.getD 1 [])=l.t)(hd:eX s ls=b8 s l.v l.o l.a l.n l.g l.d):
  doT s line ls (cV s.toks (bs (ls.getD 1 [])))=(match cV s.toks l.t with
   | some x=>if x.l≠line then (s,(⟨(aF (ref 3)).toArray⟩:Ba)) else (s,x.r)
   | none=>if (aG s l).2.e=0 then ({ (aG s l).1 with toks:=dH (aG s l).1.toks ⟨l.t,line,⟨(aF (aG s l).2).toArray⟩⟩ },⟨(aF (aG s l).2).toArray⟩) else ((aG s l).1,⟨(aF (aG s l).2).toArray⟩)):=by
 rw[ht]
 cases hf:cV s.toks l.t with
 | some x =>
  unfold doT;dsimp only;by_cases h:x.l=line
  ·rw[if_pos h,if_neg (fun q=>q h)]
  ·rw[if_neg h,if_pos h];rfl
 | none =>
  unfold doT;dsimp only;rw[hd,uX G hr hg hv,ht];unfold doK;by_cases h:(aG s l).2.e=0
  ·rw[if_pos ((Dv _).2 h),if_pos h];rfl
  ·rw[if_neg (fun q=>h ((Dv _).1 q)),if_neg h];rfl
theorem sM{w:Lu}{k:Nat}(h:num w 32=some k):cU w 32=k/\k<=32:=by
 refine⟨by unfold cU;rw[h],?_⟩
 unfold num at h;have:=List.mem_of_find?_eq_some h
 rw[List.mem_range] at this;omega
theorem ti{w:Lu}(h:num w 32=none):cU w 32=-1:=by unfold cU;rw[h]
theorem mE{w:Lu}{k:Nat}(h:dr w=some k):bY w=k:=by unfold bY;rw[h]
theorem wl{w:Lu}(h:dr w=none):bY w=-1:=by unfold bY;rw[h]
theorem uw{w:Lu}{p:Int×Int}(h:rd w=some p):rt p.1 p.2=true:=by
 unfold rd at h;split at h
 ·split at h
  ·split at h
   ·rename_i hr
    cases h;exact hr
   ·cases h
  ·cases h
 ·cases h
theorem lF{w:Lu}{p:Int×Int}(h:rd w=some p):rdB w=p.1/\rdN w=p.2/\rdE w=0:=fZ (a:=p.1) (n:=p.2) h
theorem gT{s:Bk}{line:Ba}{ls:List (Lu)}(h1:qR s ls=none)(h2:e8 ls=false):doQ s line ls (qR s ls)=(s,⟨(aF (ref 2)).toArray⟩):=by
 rw[h1];unfold doQ doC;rw[h2];rfl
theorem pF{s:Bk}{ls:List (Lu)}(h:vb (ls.getD 0 [])<8):qR s ls=none:=by
 unfold qR;rw[if_neg om,if_pos om]
theorem rV{s:Bk}{l:Ln}{line:Ba}{ls:List (Lu)}(h0:vb (ls.getD 0 [])<8)(hc:e8 ls=true)(G:a7 s)(hr:rt l.a l.n=true)(hg:l.g<=32)(hv:l.v<8)(ht:bs (ls.getD 1 [])=l.t)(hd:eX s ls=b8 s l.v l.o l.a l.n l.g l.d)(hl:aD line.data.toList=some l):
  doQ s line ls (qR s ls)=bf s line:=by
 rw[pF h0];unfold doQ doC;rw[if_pos hc,zp G hr hg hv ht hd];unfold bf;rw[hl];dsimp only;rw[if_pos hv]
 cases cV s.toks l.t with
 | some x=>rfl
 | none=>rfl
theorem fT{s:Bk}{line:Ba}(h:aD line.data.toList=none):bf s line=(s,⟨(aF (ref 2)).toArray⟩):=by
 unfold bf;rw[h]
theorem BP:rt 0 0=true:=by decide
theorem q9{line:Ba}{w:Lu}{ws:List (Lu)}(h:¬100<line.size)(hp:aw 32 line.data.toList=w::ws):aD line.data.toList=if vb w<0 then none else am (ln0 (vb w).toNat) (form (vb w).toNat) ws:=by
 unfold aD;have:line.data.toList.length=line.size:=Array.length_toList
 rw[if_pos om,hp];rfl
theorem dt{ls:List (Lu)}(h:¬(ls.length=4\/ls.length=5)):e8 ls=false:=by unfold e8 bX;simp[h]
theorem yP{ls:List (Lu)}(h:vb (ls.getD 0 [])<0\/8<=vb (ls.getD 0 [])):e8 ls=false:=by
 unfold e8 bX;rw[if_neg om,if_neg om,if_neg om];simp
theorem tN(s:Bk)(o:Ba)(a n g d:Int):b8 s ((0:Nat):Int) o a n g d=jj s o a n:=by unfold b8;rw[if_pos (by decide)]
theorem ui(s:Bk)(o:Ba)(a n g d:Int):b8 s ((1:Nat):Int) o a n g d=ie s o a n:=by unfold b8;rw[if_neg (by decide),if_pos (by decide)]
theorem ul(s:Bk)(o:Ba)(a n g d:Int):b8 s ((2:Nat):Int) o a n g d=l8 s o a n g:=by unfold b8;rw[if_neg (by decide),if_neg (by decide),if_pos (by decide)]
theorem uG(s:Bk)(o:Ba)(a n g d:Int):b8 s ((3:Nat):Int) o a n g d=fW s o a n:=by unfold b8;rw[if_neg (by decide),if_neg (by decide),if_neg (by decide),if_pos (by decide)]
theorem tL(s:Bk)(o:Ba)(a n g d:Int):b8 s ((4:Nat):Int) o a n g d=du s o a n:=by unfold b8;rw[if_neg (by decide),if_neg (by decide),if_neg (by decide),if_neg (by decide),if_pos (by decide)]
theorem uB(s:Bk)(o:Ba)(a n g d:Int):b8 s ((5:Nat):Int) o a n g d=fV s o a n:=by unfold b8;rw[if_neg (by decide),if_neg (by decide),if_neg (by decide),if_neg (by decide),if_neg (by decide),if_pos (by decide)]
theorem uA(s:Bk)(o:Ba)(a n g d:Int):b8 s ((6:Nat):Int) o a n g d=i7 s o d:=by unfold b8;rw[if_neg (by decide),if_neg (by decide),if_neg (by decide),if_neg (by decide),if_neg (by decide),if_neg (by decide),if_pos (by decide)]
theorem un(s:Bk)(o:Ba)(a n g d:Int):b8 s ((7:Nat):Int) o a n g d=jo s o d:=by unfold b8;rw[if_neg (by decide),if_neg (by decide),if_neg (by decide),if_neg (by decide),if_neg (by decide),if_neg (by decide),if_neg (by decide)]
theorem k9{s:Bk}{line:Ba}{w:Lu}{ws:List (Lu)}{v:Nat}(G:a7 s)(hv:vb w=v)(h3:v=0\/v=1\/v=3\/v=4\/v=5)(hl:aD line.data.toList=am (ln0 v) [1,2,3] ws):doQ s line (w::ws) (qR s (w::ws))=bf s line:=by
 have hv8:vb ((w::ws).getD 0 [])<8:=by show vb w<8;omega
 have hcm:∀ t o b,e8 [w,t,o,b]=(ag t&&ag o&&decide (rdE b=0)):=fun t o b=>by
  show bX (vb w) 4 (ag t) (ag o) (bY b) (rdE b) _=_
  rw[hv];unfold bX;rw[if_neg om,if_neg om,if_pos om];simp
 have off:e8 (w::ws)=false->am (ln0 v) [1,2,3] ws=none->doQ s line (w::ws) (qR s (w::ws))=bf s line:=fun h1 h2=>(gT (pF hv8) h1).trans (fT (hl.trans h2)).symm
 rcases ws with _|⟨t,_|⟨o,_|⟨b,_|⟨c,r⟩⟩⟩⟩
 ·exact off (dt (by simp)) rfl
 ·exact off (dt (by simp)) (by simp only[am,aP];cases ag t<;>rfl)
 ·exact off (dt (by simp)) (by simp only[am,aP];cases ag t<;>cases ag o<;>rfl)
 ·cases ht:ag t with
  | false=>exact off (by rw[hcm,ht];rfl) (by simp only[am,aP,ht];rfl)
  | true =>
   cases ho:ag o with
   | false=>exact off (by rw[hcm,ht,ho];rfl) (by simp only[am,aP,ht,ho];rfl)
   | true =>
    cases hb:rd b with
    | none=>exact off (by rw[hcm,ht,ho,(cR hb).2.2];rfl) (by simp only[am,aP,ht,ho,hb];rfl)
    | some p =>
     obtain⟨e1,e2,e3⟩:=lF hb;have hl2:aD line.data.toList=some { ln0 v with t:=⟨t.toArray⟩,o:=⟨o.toArray⟩,a:=p.1,n:=p.2 }:=hl.trans (by simp only[am,aP,ht,ho,hb];rfl)
     refine rV hv8 (by rw[hcm,ht,ho,e3];rfl) G (uw hb) (show (0:Int)<=32 by decide) (show v<8 by omega) rfl ?_ hl2
     show b8 s (vb w) (bs o) (rdB b) (rdN b) _ (bY b)=b8 s (v:Int) (bs o) p.1 p.2 0 0
     rw[hv,e1,e2];rcases h3 with rfl|rfl|rfl|rfl|rfl
     ·rw[tN,tN]
     ·rw[ui,ui]
     ·rw[uG,uG]
     ·rw[tL,tL]
     ·rw[uB,uB]
 ·refine off ?_ (by simp only[am,aP];cases ag t<;>cases ag o<;>cases rd b<;>rfl)
  show bX (vb w) _ _ _ _ _ _=false
  rw[hv];unfold bX;rw[if_neg om,if_neg om,if_pos om];simp
theorem z8{s:Bk}{line:Ba}{w:Lu}{ws:List (Lu)}{v:Nat}(G:a7 s)(hv:vb w=v)(h3:v=6\/v=7)(hl:aD line.data.toList=am (ln0 v) [1,2,4] ws):doQ s line (w::ws) (qR s (w::ws))=bf s line:=by
 have hv8:vb ((w::ws).getD 0 [])<8:=by show vb w<8;omega
 have hcm:∀ t o b,e8 [w,t,o,b]=(ag t&&ag o&&decide (0<=bY b)):=fun t o b=>by
  show bX (vb w) 4 (ag t) (ag o) (bY b) (rdE b) _=_
  rw[hv];unfold bX;rw[if_pos om];simp
 have off:e8 (w::ws)=false->am (ln0 v) [1,2,4] ws=none->doQ s line (w::ws) (qR s (w::ws))=bf s line:=fun h1 h2=>(gT (pF hv8) h1).trans (fT (hl.trans h2)).symm
 rcases ws with _|⟨t,_|⟨o,_|⟨b,_|⟨c,r⟩⟩⟩⟩
 ·exact off (dt (by simp)) rfl
 ·exact off (dt (by simp)) (by simp only[am,aP];cases ag t<;>rfl)
 ·exact off (dt (by simp)) (by simp only[am,aP];cases ag t<;>cases ag o<;>rfl)
 ·cases ht:ag t with
  | false=>exact off (by rw[hcm,ht];rfl) (by simp only[am,aP,ht];rfl)
  | true =>
   cases ho:ag o with
   | false=>exact off (by rw[hcm,ht,ho];rfl) (by simp only[am,aP,ht,ho];rfl)
   | true =>
    cases hb:dr b with
    | none=>exact off (by rw[hcm,ht,ho,wl hb];rfl) (by simp only[am,aP,ht,ho,hb];rfl)
    | some p =>
     have hl2:aD line.data.toList=some { ln0 v with t:=⟨t.toArray⟩,o:=⟨o.toArray⟩,d:=p }:=hl.trans (by simp only[am,aP,ht,ho,hb];rfl)
     refine rV hv8 (by rw[hcm,ht,ho,mE hb];simp) G BP (show (0:Int)<=32 by decide) (show v<8 by omega) rfl ?_ hl2
     show b8 s (vb w) (bs o) (rdB b) (rdN b) _ (bY b)=b8 s (v:Int) (bs o) 0 0 0 p
     rw[hv,mE hb];rcases h3 with rfl|rfl
     ·rw[uA,uA]
     ·rw[un,un]
 ·refine off ?_ (by simp only[am,aP];cases ag t<;>cases ag o<;>cases dr b<;>rfl)
  show bX (vb w) _ _ _ _ _ _=false
  rw[hv];unfold bX;rw[if_pos om];simp
theorem EX{s:Bk}{line:Ba}{w:Lu}{ws:List (Lu)}(G:a7 s)(hv:vb w=2)(hl:aD line.data.toList=am (ln0 2) [1,2,3,5] ws):doQ s line (w::ws) (qR s (w::ws))=bf s line:=by
 have hv8:vb ((w::ws).getD 0 [])<8:=by show vb w<8;omega
 have hcm:∀ t o b g,e8 [w,t,o,b,g]=(ag t&&ag o&&decide (rdE b=0)&&decide (0<=cU g 32)):=fun t o b g=>by
  show bX (vb w) 5 (ag t) (ag o) (bY b) (rdE b) (cU g 32)=_
  rw[hv];unfold bX;rw[if_neg om,if_pos rfl];simp[Bool.and_assoc]
 have off:e8 (w::ws)=false->am (ln0 2) [1,2,3,5] ws=none->doQ s line (w::ws) (qR s (w::ws))=bf s line:=fun h1 h2=>(gT (pF hv8) h1).trans (fT (hl.trans h2)).symm
 rcases ws with _|⟨t,_|⟨o,_|⟨b,_|⟨g,_|⟨c,r⟩⟩⟩⟩⟩
 ·exact off (dt (by simp)) rfl
 ·exact off (dt (by simp)) (by simp only[am,aP];cases ag t<;>rfl)
 ·exact off (dt (by simp)) (by simp only[am,aP];cases ag t<;>cases ag o<;>rfl)
 ·refine off ?_ (by simp only[am,aP];cases ag t<;>cases ag o<;>cases rd b<;>rfl)
  show bX (vb w) 4 _ _ _ _ _=false
  rw[hv];unfold bX;rw[if_neg om,if_pos rfl];simp
 ·cases ht:ag t with
  | false=>exact off (by rw[hcm,ht];rfl) (by simp only[am,aP,ht];rfl)
  | true =>
   cases ho:ag o with
   | false=>exact off (by rw[hcm,ht,ho];rfl) (by simp only[am,aP,ht,ho];rfl)
   | true =>
    cases hb:rd b with
    | none=>exact off (by rw[hcm,ht,ho,(cR hb).2.2];rfl) (by simp only[am,aP,ht,ho,hb];rfl)
    | some p =>
     obtain⟨e1,e2,e3⟩:=lF hb
     cases hn:num g 32 with
     | none=>exact off (by rw[hcm,ht,ho,e3,ti hn];rfl) (by simp only[am,aP,ht,ho,hb,hn];rfl)
     | some k =>
      obtain⟨n1,n2⟩:=sM hn;have hl2:aD line.data.toList=some { ln0 2 with t:=⟨t.toArray⟩,o:=⟨o.toArray⟩,a:=p.1,n:=p.2,g:=k }:=hl.trans (by simp only[am,aP,ht,ho,hb,hn];rfl)
      refine rV hv8 (by rw[hcm,ht,ho,e3,n1];simp) G (uw hb) (show (k:Int)<=32 by omega) (show 2<8 by decide) rfl ?_ hl2
      show b8 s (vb w) (bs o) (rdB b) (rdN b) (cU g 32) (bY b)=b8 s ((2:Nat):Int) (bs o) p.1 p.2 k 0
      rw[show vb w=((2:Nat):Int) from hv,e1,e2,n1,ul,ul]
 ·refine off (dt (by simp)) (by simp only[am,aP];cases ag t<;>cases ag o<;>cases rd b<;>cases num g 32<;>rfl)
theorem DA{s:Bk}{l:Ln}{line:Ba}(h:aD line.data.toList=some l)(hv:¬l.v<8):bf s line=asT (aG s l):=by
 unfold bf;rw[h];dsimp only;rw[if_neg hv];rfl
theorem E6{s:Bk}{line:Ba}{w:Lu}{ws:List (Lu)}(G:a7 s)(hv:vb w=8)(hl:aD line.data.toList=am (ln0 8) [] ws):doQ s line (w::ws) (qR s (w::ws))=bf s line:=by
 rcases ws with _|⟨t,r⟩
 ·rw[DA (l:=ln0 8) hl (by decide)]
  have:qR s [w]=some (bs (ck s.pools 0 0 false)):=by unfold qR;rw[if_pos ⟨hv,rfl⟩]
  rw[this,sy G];rfl
 ·have hq:qR s (w::t::r)=none:=by
   unfold qR;rw[if_neg (by simp),if_pos (by simp only[List.getD_cons_zero];omega)]
  exact(gT hq (yP (.inr (by show 8<=vb w;omega)))).trans (fT hl).symm
theorem yy{s:Bk}{line:Ba}{w:Lu}{ws:List (Lu)}{v:Nat}(G:a7 s)(hv:vb w=v)(h2:v=9\/v=10)(hl:aD line.data.toList=am (ln0 v) [3] ws):doQ s line (w::ws) (qR s (w::ws))=bf s line:=by
 have off:qR s (w::ws)=none->am (ln0 v) [3] ws=none->doQ s line (w::ws) (qR s (w::ws))=bf s line:=fun h1 h2=>(gT h1 (yP (.inr (by show 8<=vb w;omega)))).trans (fT (hl.trans h2)).symm
 rcases ws with _|⟨b,_|⟨c,r⟩⟩
 ·exact off (by unfold qR;rw[if_neg (by simp only[List.getD_cons_zero];omega),if_pos (by simp)]) rfl
 ·cases hb:rd b with
  | none =>
   refine off ?_ (by simp only[am,aP,hb];rfl)
   unfold qR;rw[if_neg (by simp),if_neg (not_not_intro ⟨rfl,by show vb w=9\/vb w=10;omega⟩),if_pos (by simp only[List.getD_cons_succ,List.getD_cons_zero];rw[(cR hb).2.2];decide)]
  | some p =>
   obtain⟨e1,e2,e3⟩:=lF hb;have hl2:aD line.data.toList=some { ln0 v with a:=p.1,n:=p.2 }:=hl.trans (by simp only[am,aP,hb];rfl)
   rw[DA hl2 (show ¬v<8 by omega)]
   unfold qR;rw[if_neg (by simp),if_neg (not_not_intro ⟨rfl,by show vb w=9\/vb w=10;omega⟩),if_neg (by simp only[List.getD_cons_succ,List.getD_cons_zero];rw[e3];decide)]
   simp only[List.getD_cons_succ,List.getD_cons_zero]
   rw[e1,e2,hv];rcases h2 with rfl|rfl
   ·rw[if_pos (by decide)]
    show (s,_)=asT (s,gm s _)
    unfold asT gm;dsimp only;by_cases q:aj s.pools p.1 p.2<0
    ·rw[if_pos q,if_pos q];rfl
    ·rw[if_neg q,if_neg q,vU G (uw hb)]
   ·rw[if_neg (by decide)]
    show (s,_)=asT (s,gC s _)
    unfold asT gC;dsimp only;by_cases q:aj s.nets p.1 p.2<0
    ·rw[if_pos q,if_pos q];rfl
    ·rw[if_neg q,if_neg q,vF (uw hb)]
 ·refine off ?_ (by simp only[am,aP];cases rd b<;>rfl)
  unfold qR;rw[if_neg (by simp),if_pos (by simp)]
theorem Ci{s:Bk}(G:a7 s)(line:Ba):doR s line=bf s line:=by
 unfold doR;by_cases h:100<line.size
 ·rw[if_pos h,fT]
  ·rfl
  ·unfold aD;have:line.data.toList.length=line.size:=Array.length_toList
   rw[if_neg om]
 rw[if_neg h];obtain⟨w,ws,hp⟩:∃ w ws,aw 32 line.data.toList=w::ws:=by
  have:=dE 32 line.data.toList
  cases q:aw 32 line.data.toList with
  | nil=>rw[q] at this;simp at this
  | cons w ws=>exact⟨w,ws,rfl⟩
 have hl:=q9 h hp;have hr:=lG w;rw[hp];by_cases v0:vb w<0
 ·rw[if_pos v0] at hl;exact(gT (pF (by show vb w<8;omega)) (yP (ls:=w::ws) (.inl v0))).trans (fT hl).symm
 rw[if_neg v0] at hl;obtain⟨v,hv⟩:∃ v:Nat,vb w=v:=⟨(vb w).toNat,by omega⟩
 rw[hv,Int.toNat_natCast] at hl;rcases (show v=0\/v=1\/v=2\/v=3\/v=4\/v=5\/v=6\/v=7\/v=8\/v=9\/v=10 by omega) with rfl|rfl|rfl|rfl|rfl|rfl|rfl|rfl|rfl|rfl|rfl
 ·exact k9 G hv (by decide) hl
 ·exact k9 G hv (by decide) hl
 ·exact EX G hv hl
 ·exact k9 G hv (by decide) hl
 ·exact k9 G hv (by decide) hl
 ·exact k9 G hv (by decide) hl
 ·exact z8 G hv (by decide) hl
 ·exact z8 G hv (by decide) hl
 ·exact E6 G hv hl
 ·exact yy G hv (by decide) hl
 ·exact yy G hv (by decide) hl
end Go.Proofs.YtjnhhnbgjjkkjaaGreatDoor
