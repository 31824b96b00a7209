import Derived.Lib.AppendIntMem
import Derived.Test.YtjnhhnbgjjkkjaaGreatDoorRePAH
import Derived.Test.YtjnhhnbgjjkkjaaGreatDoorRePAQ
set_option linter.all false
set_option maxRecDepth 100000
set_option maxHeartbeats 2000000
namespace Go.Proofs.YtjnhhnbgjjkkjaaGreatDoor
section
open Go.ChangeShapes Go.WideShapes Go.ChangeAt Go.RowKit Go.Proofs.Tryz
structure Env(w:World):Prop where
 lo:2<w.heap.size/\6<w.heap.size/\7<w.heap.size/\5<w.heap.size
 mx:∃ m,w.cell? (At 2 0)=some (I6 m)
 syn:∃ tp p,w.var? prog "strconv.ErrSyntax" = some #[.iface tp p]
 rng:∃ tp p,w.var? prog "strconv.ErrRange" = some #[.iface tp p]
 tab:Lib.TabIs prog w "internal/strconv.uint64pow10" .u64 Lib.pow10Tab
theorem y8:prog.globalNamed "strconv.ErrSyntax" = some 6:=by kernel_rfl
theorem y7:prog.globalNamed "strconv.ErrRange" = some 7:=by kernel_rfl
theorem y9:prog.globalNamed "internal/strconv.uint64pow10" = some 5:=by kernel_rfl
theorem Env.mono{w w':World}(h:Env w)(hb:Bl w w'):Env w' where
 lo:=by have:=h.lo;have:=hb.size;omega
 mx:=by obtain⟨m,e⟩:=h.mx;exact⟨m,(hb.cell (p:=At 2 0) h.lo.1).trans e⟩
 syn:=by obtain⟨tp,p,e⟩:=h.syn;exact⟨tp,p,var?_below hb y8 h.lo.2.1 e⟩
 rng:=by obtain⟨tp,p,e⟩:=h.rng;exact⟨tp,p,var?_below hb y7 h.lo.2.2.1 e⟩
 tab:=var?_below hb y9 h.lo.2.2.2 h.tab
theorem kL(s:Bz)(w:World)(hs:s.size<=2097152)(v:Int)(h:Lib.atoiAll s.data.toList=.ok v):Cr prog 235 #[.string s] w (.tuple #[I6 v,.nilIface]):=by
 refine(Tryz.strconv_Atoi_ok s om v h w).mono ?_
 rintro e w' ⟨rfl,rfl|⟨t,rfl⟩⟩
 ·exact⟨rfl,Below.refl _ _⟩
 ·exact⟨rfl,Lib.bytesWorld_below w _ t⟩
theorem yh(s:Bz)(w:World)(E:Env w)(hs:s.size<=2097152)(h:∀ v,Lib.atoiAll s.data.toList≠.ok v):Calls prog 235 #[.string s] w fun e w'=>∃ x N,e=.returned (.tuple #[I6 x,.iface 313 (Pq N)])/\Bl w w':=by
 rcases e:Lib.atoiAll s.data.toList with v|_|_
 ·exact absurd e (h v)
 ·obtain⟨tp,p,hv⟩:=E.syn;refine(Any.strconv_Atoi_syntax_var Tryz.laysC172 s om e tp p w hv).mono ?_
  rintro e w' ⟨N,rfl,_,_,hb⟩
  exact⟨_,N,rfl,hb⟩
 ·obtain⟨tp,p,hv⟩:=E.rng;refine(Any.strconv_Atoi_range_var Tryz.laysC172 s om e tp p w hv).mono ?_
  rintro e w' ⟨N,rfl,_,_,hb⟩
  exact⟨_,N,rfl,hb⟩
theorem fM(n:Int)(w:World)(E:Env w)(h0:-9223372036854775808<=n)(h1:n<=9223372036854775807):Cr prog 170 #[I6 n] w (.string (bs (Lib.itoa n))):=by
 refine(Tryz.strconv_Itoa n h0 h1 w E.tab).mono ?_
 rintro e w' ⟨rfl,k,os,rfl⟩
 exact⟨rfl,Lib.below_grow _ w (Nat.le_refl _) k os⟩
def nB(l:Lu)(m:Nat):Int:=match num l m with|some n=>(n:Int)|none=>0
def nOk(l:Lu)(m:Nat):Bool:=(num l m).isSome
theorem jR{l:Lu}{m:Nat}(h:num l m=none):nB l m=0/\nOk l m=false:=by simp[nB,nOk,h]
theorem td{l:Lu}{m n:Nat}(h:num l m=some n):nB l m=n/\nOk l m=true:=by simp[nB,nOk,h]
theorem Fx(s:Bz)(m:Int)(w:World)(E:Hid (Env w))(hs:s.size<=2097152)(h:Hid (∀ v,Lib.atoiAll s.data.toList≠.ok v)):Cr prog 200 #[.string s,I6 m] w (.tuple #[I6 0,.bool false]):=by
 go_enter func200,ntmps200
 go_wp2_with (go_at_call 235;refine(yh s _ E.o hs h.o).mono ?_;rintro e w1 ⟨x,N,rfl,hb1⟩)
 go_ret2
 exact⟨rfl,hb1⟩
theorem Fy(s:Bz)(m v:Int)(w:World)(hs:s.size<=2097152)(h:Hid (Lib.atoiAll s.data.toList=.ok v))(hv:v<0):Cr prog 200 #[.string s,I6 m] w (.tuple #[I6 0,.bool false]):=by
 go_enter func200,ntmps200
 go_wp2_with (go_at_call 235;refine(kL s _ hs v h.o).mono ?_;rintro e w1 ⟨rfl,hb1⟩)
 go_ret2
 exact⟨rfl,hb1⟩
theorem Dz(s:Bz)(m v:Int)(w:World)(hs:s.size<=2097152)(h:Hid (Lib.atoiAll s.data.toList=.ok v))(hv:¬v<0)(hm:m<v):Cr prog 200 #[.string s,I6 m] w (.tuple #[I6 0,.bool false]):=by
 go_enter func200,ntmps200
 go_wp2_with (go_at_call 235;refine(kL s _ hs v h.o).mono ?_;rintro e w1 ⟨rfl,hb1⟩)
 go_ret2
 exact⟨rfl,hb1⟩
theorem Gv(s t:Bz)(m v:Int)(w:World)(E:Hid (Env w))(hs:s.size<=2097152)(h:Hid (Lib.atoiAll s.data.toList=.ok v))(hv:¬v<0)(hm:¬m<v)(hm1:m<=255)(ht:Hid (t=bs (Lib.itoa v)))(b:Bool)(hb:(t.toList==s.toList)=b):Cr prog 200 #[.string s,I6 m] w (.tuple #[I6 (if b then v else 0),.bool b]):=by
 have hi:Hid (∀ w,Env w->Cr prog 170 #[I6 v] w (.string t)):=fun w E=>by
  rw[ht.o];exact fM v w E om om
 cases b
 ·go_enter func200,ntmps200
  go_wp2_with (first|(go_at_call 235;refine(kL s _ hs v h.o).mono ?_;rintro e w1 ⟨rfl,hb1⟩)|(go_at_call 170;refine(hi.o _ (E.o.mono hb1)).mono ?_;rintro e w2 ⟨rfl,hb2⟩))
  go_ret2
  exact⟨rfl,hb1.trans (hb2.mono hb1.size)⟩
 ·go_enter func200,ntmps200
  go_wp2_with (first|(go_at_call 235;refine(kL s _ hs v h.o).mono ?_;rintro e w1 ⟨rfl,hb1⟩)|(go_at_call 170;refine(hi.o _ (E.o.mono hb1)).mono ?_;rintro e w2 ⟨rfl,hb2⟩))
  go_ret2
  exact⟨rfl,hb1.trans (hb2.mono hb1.size)⟩
theorem tH(s:Bz)(m:Int)(w:World)(E:Env w)(hs:s.size<=2097152)(h0:0<=m)(h1:m<=255):Cr prog 200 #[.string s,I6 m] w (.tuple #[I6 (nB s.data.toList m.toNat),.bool (nOk s.data.toList m.toNat)]):=by
 have hm:m.toNat<=255:=by omega
 by_cases hok:∃ v,Lib.atoiAll s.data.toList=.ok v
 ·obtain⟨v,hv⟩:=hok;by_cases hlo:v<0
  ·obtain⟨q1,q2⟩:=jR (kP hm (l:=s.data.toList) fun n hn e=>by rw[hv] at e;cases e;omega)
   rw[q1,q2];exact Fy s m v w hs hv hlo
  ·by_cases hhi:m<v
   ·obtain⟨q1,q2⟩:=jR (kP hm (l:=s.data.toList) fun n hn e=>by rw[hv] at e;cases e;omega)
    rw[q1,q2];exact Dz s m v w hs hv hlo hhi
   ·have h:=Gv s (bs (Lib.itoa v)) m v w E hs hv hlo hhi h1 rfl _ rfl
    rw[gT,Lib.toList_data] at h;rcases hb:(Lib.itoa v==s.data.toList) with _|_
    ·rw[hb] at h;rw[beq_eq_false_iff_ne] at hb;obtain⟨q1,q2⟩:=jR (kP hm (l:=s.data.toList) fun n hn e=>by rw[hv] at e;cases e;exact hb)
     rw[q1,q2];exact h
    ·rw[hb] at h;rw[beq_iff_eq] at hb;obtain⟨q1,q2⟩:=td (qE hm hv om om hb)
     rw[q1,q2,show ((v.toNat:Nat):Int)=v by omega];exact h
 ·have hno:∀ v,Lib.atoiAll s.data.toList≠.ok v:=fun v e=>hok ⟨v,e⟩
  obtain⟨q1,q2⟩:=jR (kP hm (l:=s.data.toList) fun n hn e=>absurd e (hno _))
  rw[q1,q2];exact Fx s m w E hs hno
theorem nF(s:Bz)(w:World)(E0:Env w)(hs:s.size<=2097152):Cr prog 145 #[.string s] w (.tuple #[I6 (nB s.data.toList 32),.bool (nOk s.data.toList 32)]):=by
 have hn:Hid (Cr prog 200 #[.string s,I6 32] w (.tuple #[I6 (nB s.data.toList 32),.bool (nOk s.data.toList 32)])):=tH s 32 w E0 hs om om
 generalize nB s.data.toList 32=y at hn ⊢
 generalize nOk s.data.toList 32=b at hn ⊢
 clear E0;go_enter func145,ntmps145
 go_wp2_with (go_at_call 200;refine hn.o.mono ?_;rintro e w1 ⟨rfl,hb1⟩)
 go_ret2
 exact⟨rfl,hb1⟩
end
section
open Go.ChangeShapes Go.WideShapes Go.ChangeAt Go.RowKit
def tU:Array Value:=#[.string ⟨#[79,75]⟩,.string ⟨#[69,82,82]⟩,.string ⟨#[76,73,78,69]⟩,.string ⟨#[84,79,75,69,78]⟩,.string ⟨#[82,65,78,71,69]⟩,.string ⟨#[79,86,69,82,76,65,80]⟩,.string ⟨#[76,73,77,73,84]⟩,.string ⟨#[80,79,79,76]⟩,.string ⟨#[79,87,78,69,82]⟩,.string ⟨#[66,85,83,89]⟩,.string ⟨#[70,85,76,76]⟩,.string ⟨#[78,69,84]⟩,.string ⟨#[65,68,68,82]⟩,.string ⟨#[84,65,75,69,78]⟩]
def cB:Array Value:=#[.string ⟨#[80,79,79,76]⟩,I6 1,I6 2,I6 3,I6 0,.string ⟨#[68,82,79,80]⟩,I6 1,I6 2,I6 3,I6 0,.string ⟨#[78,69,84]⟩,I6 1,I6 2,I6 3,I6 5,.string ⟨#[66,76,79,67,75]⟩,I6 1,I6 2,I6 3,I6 0,.string ⟨#[70,82,69,69]⟩,I6 1,I6 2,I6 3,I6 0,.string ⟨#[76,69,65,83,69]⟩,I6 1,I6 2,I6 3,I6 0,.string ⟨#[84,65,75,69]⟩,I6 1,I6 2,I6 4,I6 0,.string ⟨#[71,73,86,69]⟩,I6 1,I6 2,I6 4,I6 0,.string ⟨#[80,79,79,76,83]⟩,I6 0,I6 0,I6 0,I6 0,.string ⟨#[78,69,84,83]⟩,I6 3,I6 0,I6 0,I6 0,.string ⟨#[85,83,69,68]⟩,I6 3,I6 0,I6 0,I6 0]
structure di(w:World):Prop where
 env:Env w
 lw:1<w.heap.size
 lf:0<w.heap.size
 wd:∀ (i:Nat) v,tU[i]?=some v->w.cell? (At 1 i)=some v
 fm:∀ (i:Nat) v,cB[i]?=some v->w.cell? (At 0 i)=some v
theorem di.mono{w w':World}(h:di w)(hb:Bl w w'):di w' where
 env:=h.env.mono hb
 lw:=Nat.lt_of_lt_of_le h.lw hb.size
 lf:=Nat.lt_of_lt_of_le h.lf hb.size
 wd:=fun i v e=>(hb.cell (p:=At 1 i) h.lw).trans (h.wd i v e)
 fm:=fun i v e=>(hb.cell (p:=At 0 i) h.lf).trans (h.fm i v e)
end
section
open Go.ChangeShapes Go.WideShapes Go.ChangeAt Go.RowKit Go.Proofs.Tryz
def Sx(a:Int)(k j:Nat):Bz:=if 4-k<=j then bs (Lib.itoa (a / 256^(3-j)%256)) else ⟨#[]⟩
theorem kO(x:Int)(h0:0<=x)(h1:x<4294967296):bits .and .u32 x 255=x%256:=by
 rw[u32_and x 255 h0 h1 om om,show (255:Int).toNat=255 from rfl,nat_mask8];omega
theorem kU{a:Int}{H:Nat}{wr w2:World}{st:Bz}(k:Nat)(hsz:H<wr.heap.size)(hb2:Bl wr w2)(HX:∀ j,j<4->wr.cell? (At H j)=some (.string (Sx a k j))/\wr.frozen? (At H j)=false)(hk:k<4)(hst:st=bs (Lib.itoa (a / 256^k%256))):
  ∀ j,j<4->(w2.setCell (At H (3-k)) (.string st)).cell? (At H j)=some (.string (Sx a (k+1) j))/\(w2.setCell (At H (3-k)) (.string st)).frozen? (At H j)=false:=by
 intro j hj;obtain⟨hc,hf⟩:=HX j hj;refine⟨?_,?_⟩
 ·by_cases e:j=3-k
  ·subst e;rw[World.cell?_setCell_same w2 (At H (3-k)) (.string st) (u:=.string (Sx a k (3-k))) (gw hb2 hsz hc),hst];unfold Sx;rw[if_pos om,show 3-(3-k)=k by omega]
  ·rw[World.cell?_setCell_other w2 (At H (3-k)) ⟨H,j,none⟩ (.string st) (by intro h;injection h with _ h2 _;omega),gw hb2 hsz hc]
   unfold Sx;by_cases h:4-k<=j
   ·rw[if_pos h,if_pos om]
   ·rw[if_neg h,if_neg om]
 ·rw[World.frozen?_setCell];exact(hb2.frozen (p:=At H j) hsz).trans hf
theorem fN(x:Int)(h:0<=x):Lib.itoa x=dec x.toNat:=by unfold Lib.itoa dec;rw[if_neg om]
theorem FE(a:Int)(h0:0<=a)(h1:a<4294967296):Lib.join ([Sx a 4 0,Sx a 4 1,Sx a 4 2,Sx a 4 3].map (·.data.toList)) (⟨#[46]⟩:Bz).data.toList=dot a.toNat:=by
 have e:∀ j,Sx a 4 j=bs (Lib.itoa (a / 256^(3-j)%256)):=fun j=>by unfold Sx;rw[if_pos om]
 simp only[List.map_cons,List.map_nil,e,bN]
 have e0:a / 256^(3-0)%256=a / 16777216:=by rw[show (256:Int)^(3-0)=16777216 from by decide];omega
 have e1:a / 256^(3-1)%256=a / 65536%256:=by rw[show (256:Int)^(3-1)=65536 from by decide]
 have e2:a / 256^(3-2)%256=a / 256%256:=by rw[show (256:Int)^(3-2)=256 from by decide]
 have e3:a / 256^(3-3)%256=a%256:=by rw[show (256:Int)^(3-3)=1 from by decide,Int.ediv_one]
 rw[e0,e1,e2,e3,fN (a / 16777216) om,fN (a / 65536%256) om,fN (a / 256%256) om,fN (a%256) om];rw[show (a / 16777216).toNat=a.toNat / 16777216 by omega,show (a / 65536%256).toNat=a.toNat / 65536%256 by omega,show (a / 256%256).toNat=a.toNat / 256%256 by omega,show (a%256).toNat=a.toNat%256 by omega]
 simp[Lib.join,List.intercalate,dot]
theorem iZ(a:Nat)(h:a<4294967296):(dot a).length<=15:=by
 rw[<- oS a h];exact oT a 3
theorem oV(a:Int)(w:World)(E0:Env w)(h0:0<=a)(h1:a<4294967296):Cr prog 121 #[U3 a] w (.string (bs (dot a.toNat))):=by
 have E:Hid (Env w):=E0
 clear E0;go_enter func121,ntmps121
 go_wp2;go_loopw [5] (fun i wr=>∃ k:Nat,k<=4/\i=I6 k/\w.heap.size<wr.heap.size/\Bl w wr/\Hid (∀ j,j<4->wr.cell? (Nw w j)=some (.string (Sx a k j))/\wr.frozen? (Nw w j)=false)) (fun i _=>4-(intOf i).toNat)
 case atStart =>
  refine⟨0,by omega,rfl,by simp,upB,fun j hj=>?_⟩
  have:j=0\/j=1\/j=2\/j=3:=by omega
  rcases this with rfl|rfl|rfl|rfl<;>simp[go_sem,Sx]<;>rfl
 case round =>
  obtain⟨k,hk,rfl,hsz,hb,HX⟩:=hrel;by_cases hlt:k<4
  ·have E1:Hid (Env wr):=E.o.mono hb
   have hk4:k=0\/k=1\/k=2\/k=3:=by omega
   have hm0:=kO a h0 h1;have hm1:=kO (a / 256) om om
   have hm2:=kO (a / 65536) om om
   have hm3:=kO (a / 16777216) om om
   rcases hk4 with rfl|rfl|rfl|rfl
   ·obtain⟨hc,hf⟩:=HX.o 3 om;go_wp2_with (go_at_call 170;refine Mo (fM _ _ E1.o om om) fun w2 hb2=>?_;have hc2:=gw hb2 hsz hc;have hf2:=(hb2.frozen (p:=Nw w 3) hsz).trans hf)
    go_roundw
    case rel=>exact⟨1,by omega,rfl,by have:=hb2.size;simp;omega,(hb.trans (hb2.mono hb.size)).setCell sM _,kU 0 hsz hb2 HX.o om sM⟩
    case measure=>simp[intOf]
   ·obtain⟨hc,hf⟩:=HX.o 2 om;go_wp2_with (go_at_call 170;refine Mo (fM _ _ E1.o om om) fun w2 hb2=>?_;have hc2:=gw hb2 hsz hc;have hf2:=(hb2.frozen (p:=Nw w 2) hsz).trans hf)
    go_roundw
    case rel=>exact⟨2,by omega,rfl,by have:=hb2.size;simp;omega,(hb.trans (hb2.mono hb.size)).setCell sM _,kU 1 hsz hb2 HX.o om sM⟩
    case measure=>simp[intOf]
   ·obtain⟨hc,hf⟩:=HX.o 1 om;go_wp2_with (go_at_call 170;refine Mo (fM _ _ E1.o om om) fun w2 hb2=>?_;have hc2:=gw hb2 hsz hc;have hf2:=(hb2.frozen (p:=Nw w 1) hsz).trans hf)
    go_roundw
    case rel=>exact⟨3,by omega,rfl,by have:=hb2.size;simp;omega,(hb.trans (hb2.mono hb.size)).setCell sM _,kU 2 hsz hb2 HX.o om sM⟩
    case measure=>simp[intOf]
   ·obtain⟨hc,hf⟩:=HX.o 0 om;go_wp2_with (go_at_call 170;refine Mo (fM _ _ E1.o om om) fun w2 hb2=>?_;have hc2:=gw hb2 hsz hc;have hf2:=(hb2.frozen (p:=Nw w 0) hsz).trans hf)
    go_roundw
    case rel=>exact⟨4,by omega,rfl,by have:=hb2.size;simp;omega,(hb.trans (hb2.mono hb.size)).setCell sM _,kU 3 hsz hb2 HX.o om sM⟩
    case measure=>simp[intOf]
  ·obtain rfl:k=4:=by omega
   have c0:=(HX.o 0 om).1
   have c1:=(HX.o 1 om).1
   have c2:=(HX.o 2 om).1
   have c3:=(HX.o 3 om).1
   have hj:Hid (Cr prog 171 #[.slice (some (Nw w 0)) 4 4,.string ⟨#[46]⟩] wr (.string (bs (dot a.toNat)))):=by
    have hd:=FE a h0 h1;have h:=Tryz.strings_Join w.heap.size 0 4 [Sx a 4 0,Sx a 4 1,Sx a 4 2,Sx a 4 3] ⟨#[46]⟩ wr (fun j x hj=>by
     match j,hj with
     | 0,hj=>cases hj;simpa using c0
     | 1,hj=>cases hj;simpa using c1
     | 2,hj=>cases hj;simpa using c2
     | 3,hj=>cases hj;simpa using c3
     | j+4,hj=>simp at hj) hsz sM sM (by rw[hd];have:=iZ a.toNat om;omega)
    rw[hd] at h;exact h
   clear c0 c1 c2 c3;go_wp2_with (go_at_call 171;refine hj.o.mono ?_;rintro e w2 ⟨rfl,hb2⟩)
   go_ret;exact⟨rfl,hb.trans (hb2.mono hb.size)⟩
attribute [local go_sem ↓] Go.wp_at_zero Go.wp_at_succ
theorem rV(a n:Int)(w:World)(E0:Env w)(ha:0<=a)(hb:a<4294967296)(hr:rt a n=true):Cr prog 163 #[.agg #[U3 a,I6 n]] w (.tuple #[.string (bs (wr a.toNat n.toNat)),I6 0]):=by
 have E:Hid (Env w):=E0
 clear E0;obtain⟨n0,n1,n2⟩:=aj.1 hr;clear n2;have hd:(bs (dot a.toNat)).size<=15:=by rw[aN];exact iZ _ om
 have hn:(bs (Lib.itoa n)).size<=3:=by rw[aN,fN n n0];exact fH _ om
 have hq:Hid (bs (dot a.toNat)++(⟨#[47]⟩:Bz)++bs (Lib.itoa n)=bs (wr a.toNat n.toNat)):=(by rw[fN n n0];exact tW _ _:bs (dot a.toNat)++(⟨#[47]⟩:Bz)++bs (Lib.itoa n)=bs (wr a.toNat n.toNat))
 have hc1:¬9223372036854775807<(bs (dot a.toNat)).size+1:=by omega
 have hc2:¬9223372036854775807<(bs (dot a.toNat)).size+1+(bs (Lib.itoa n)).size:=by omega
 have hc3:¬9223372036854775807<(bs (dot a.toNat)).size+(⟨#[47]⟩:Bz).size:=by rw[show (⟨#[47]⟩:Bz).size=1 from rfl];omega
 have hc4:¬9223372036854775807<(bs (dot a.toNat)++(⟨#[47]⟩:Bz)).size+(bs (Lib.itoa n)).size:=by rw[ByteArray.size_append,show (⟨#[47]⟩:Bz).size=1 from rfl];omega
 go_enter func163,ntmps163
 go_wp2_with (go_at_call 198;refine Mo (cQ _ _ _ ha hb) fun w1 hb1=>?_;obtain⟨hc,hf⟩:=aS hb1;have c1_0_0:w1.cell? (Nw w 0)=some (U3 a):=((hc _ _ byO).trans byC);have c1_0_1:w1.cell? (Nw w 1)=some (I6 n):=((hc _ _ byO).trans byC);have z1_0:w.heap.size<w1.heap.size:=(by have:=hb1.size;(try simp at this);omega);clear hc hf;have q1:Hid (Bl w w1):=Below.trans (B:=w.heap.size) (a:=w) upB (hb1.mono sM);have Ed:Hid (Env w1.drew):=(E.o.mono q1.o).mono upB)
 go_region_held3 (fun w'=>w'.cell? (Nw w 0)=some (U3 a)/\w'.cell? (Nw w 1)=some (I6 n)) (go_keep) ((first|(go_at_call 121;refine Mo (oV a _ (by first|exact E4.o|exact Ed.o) ha hb) fun w3 hb3=>?_;have c3_0_0:w3.cell? (Nw w 0)=some (U3 a):=(by first|exact(hb3.cell (p:=Nw w 0) (by first|omega|(simp;omega))).trans c4_0_0|exact(hb3.cell (p:=Nw w 0) (by simp;omega)).trans (by simpa using c1_0_0));have c3_0_1:w3.cell? (Nw w 1)=some (I6 n):=(by first|exact(hb3.cell (p:=Nw w 1) (by first|omega|(simp;omega))).trans c4_0_1|exact(hb3.cell (p:=Nw w 1) (by simp;omega)).trans (by simpa using c1_0_1));have z3_0:w.heap.size<w3.heap.size:=(by have:=hb3.size;(try simp at this);omega);have q3:Hid (Bl w w3):=(by first|exact q4.o.trans (hb3.mono om)|exact(Below.drew q1.o).trans (hb3.mono (by simp;omega)));have E3:Hid (Env w3):=(by first|exact E4.o.mono hb3|exact Ed.o.mono hb3))|(go_at_call 170;refine Mo (fM n _ (by first|exact E3.o|exact Ed.o) om om) fun w4 hb4=>?_;have c4_0_0:w4.cell? (Nw w 0)=some (U3 a):=(by first|exact(hb4.cell (p:=Nw w 0) (by first|omega|(simp;omega))).trans c3_0_0|exact(hb4.cell (p:=Nw w 0) (by simp;omega)).trans (by simpa using c1_0_0));have c4_0_1:w4.cell? (Nw w 1)=some (I6 n):=(by first|exact(hb4.cell (p:=Nw w 1) (by first|omega|(simp;omega))).trans c3_0_1|exact(hb4.cell (p:=Nw w 1) (by simp;omega)).trans (by simpa using c1_0_1));have z4_0:w.heap.size<w4.heap.size:=(by have:=hb4.size;(try simp at this);omega);have q4:Hid (Bl w w4):=(by first|exact q3.o.trans (hb4.mono om)|exact(Below.drew q1.o).trans (hb4.mono (by simp;omega)));have E4:Hid (Env w4):=(by first|exact E3.o.mono hb4|exact Ed.o.mono hb4))))
 all_goals (go_wp2;rw[hq.o];go_ret2;first|exact⟨rfl,q4.o⟩|exact⟨rfl,q3.o⟩)
end
end Go.Proofs.YtjnhhnbgjjkkjaaGreatDoor
