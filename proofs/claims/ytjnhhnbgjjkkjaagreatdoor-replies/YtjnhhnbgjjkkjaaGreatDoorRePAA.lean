import Derived.WalkSmall
import Derived.OpenShut
import Derived.ProofKit
set_option linter.all false
set_option maxRecDepth 100000
set_option maxHeartbeats 2000000
namespace Go.Proofs.YtjnhhnbgjjkkjaaGreatDoor
section
open Go.ChangeShapes Go.WideShapes Go.ChangeAt Go.RowKit
theorem upB{B:Nat}{a w:World}(h:Below B a w:=by repeat' (first|with_reducible assumption|with_reducible exact Below.refl _ _|with_reducible apply Below.drew|with_reducible apply below_drewN|with_reducible apply Below.setCell|with_reducible apply Below.alloc|omega|(simp;done)|(simp;omega))):Below B a w:=h
abbrev Bl(a w:World):Prop:=Below a.heap.size a w
abbrev Cr(P:Program)(f:FuncId)(x:Array Value)(V:World)(v:Value):Prop:=Calls P f x V fun e w=>e=.returned v/\Below V.heap.size V w
abbrev _root_.Go.World.z(w:World):Nat:=w.heap.size
abbrev At(b o:Nat):Addr:=⟨b,o,none⟩
abbrev Nw(w:World)(o:Nat):Addr:=⟨w.heap.size,o,none⟩
abbrev I6(x:Int):Value:=.int .i64 x
abbrev U3(x:Int):Value:=.int .u32 x
abbrev Pq(x:Nat):Value:=.pointer (some ⟨x,0,none⟩)
abbrev Sq(x n c:Nat):Value:=.slice (some ⟨x,0,none⟩) n c
abbrev Bz:=ByteArray
abbrev Lu:=List UInt8
theorem _root_.Go.RowKit.Hid.o{p:Prop}(h:Hid p):p:=h
theorem sM{p:Prop}(h:p:=by simp):p:=h
theorem dE{p:Prop}(h:p:=by decide):p:=h
theorem Mo{P:Program}{f:FuncId}{x:Array Value}{V:World}{v:Value}{Q:World->Prop}{R:Ending->World->Prop}(h:Calls P f x V fun e w=>e=.returned v/\Q w)(k:∀ w,Q w->R (.returned v) w):Calls P f x V R:=h.mono fun _ w q=>q.1 ▸ k w q.2
theorem Hi{p:Prop}(h:p):Hid p:=h
theorem upH{a b c:World}(h:Hid (Bl a b))(k:Bl b c:=by exact upB):Bl a c:=h.out.trans (k.mono h.out.size)
theorem bu2{a b c d:World}(h:Hid (Bl a b))(k:Bl c d)(e:Bl b c:=by exact upB):Hid (Bl a d):=(upH h e).trans (k.mono (upH h e).size)
theorem cN{a b:World}{p:Addr}{v:Value}(h:Bl a b)(x:p.block<a.heap.size:=by simp)(y:a.cell? p=some v:=by simp[go_sem]):b.cell? p=some v:=(h.cell x).trans y
theorem cK{a b c:World}{p:Addr}{v:Value}(h:Bl b c)(x:a.cell? p=some v)(k:Bl a b:=by exact upB):c.cell? p=some v:=(h.cell (Nat.lt_of_lt_of_le (block_lt_of_cell x) k.size)).trans ((k.cell (block_lt_of_cell x)).trans x)
theorem om{p:Prop}(h:p:=by omega):p:=h
theorem byO{p:Prop}(h:p:=by first|omega|(simp;done)|(simp;omega)):p:=h
theorem byA{p:Prop}(h:p:=by first|assumption|(simp[go_sem];done)|(simp[go_sem, *];done)):p:=h
theorem byC{p:Prop}(h:p:=by first|assumption|(rw[World.cell?_alloc_past _ _ _ (by omega)];assumption)|(simp[go_sem, *];done)):p:=h
theorem byF{p:Prop}(h:p:=by first|assumption|(rw[World.frozen?_alloc_past _ _ _ (by omega)];assumption)|(simp[go_sem, *];done)):p:=h
end
section
open Go.RowKit
def sz(n:Int):Int:=2^(32-n).toNat
def rt(a n:Int):Bool:=decide (0<=n/\n<=32/\a%sz n=0)
theorem aD(n:Int):0<sz n:=by unfold sz;exact Int.pow_pos dE
theorem iQ(n:Int):sz n=((2^(32-n).toNat:Nat):Int):=by unfold sz;simp
theorem gO(n:Int)(h0:0<=n):sz n<=4294967296:=by
 have h:2^(32-n).toNat<=2^32:=Nat.pow_le_pow_right dE (by omega)
 rw[iQ];omega
theorem db(n:Int)(h:n<32):sz n=2*sz (n+1):=by
 have e:(32-n).toNat=(32-(n+1)).toNat+1:=by omega
 unfold sz;rw[e,Int.pow_succ];omega
theorem Br:sz 32=1:=by decide
theorem rq(n:Int)(h0:0<=n)(h1:n<=32):∃ m:Int,4294967296=sz n*m/\0<m:=by
 refine⟨2^n.toNat,?_,Int.pow_pos dE⟩
 unfold sz;rw[<- Int.pow_add,show (32-n).toNat+n.toNat=32 by omega]
 decide
theorem oR(m n:Int)(h:m<=n)(h1:n<=32):∃ q:Int,sz m=sz n*q/\0<q:=by
 refine⟨2^(n-m).toNat,?_,Int.pow_pos dE⟩
 unfold sz;rw[<- Int.pow_add,show (32-n).toNat+(n-m).toNat=(32-m).toNat by omega]
theorem aj{a n:Int}:rt a n=true ↔ 0<=n/\n<=32/\a%sz n=0:=by simp[rt]
theorem z6:∀ k:Fin 33,((4294967295:Int)*2^(k:Nat))%4294967296=4294967296-2^(k:Nat):=by decide +kernel
theorem Cb:∀ k:Fin 32,((1:Int)*2^(k:Nat))%4294967296=2^(k:Nat):=by decide +kernel
theorem zZ(n:Int)(h0:0<=n)(h1:n<=32):(4294967295:Int)*2^(32-n).toNat%4294967296=4294967296-sz n:=z6 ⟨(32-n).toNat,by omega⟩
theorem Ca(n:Int)(h0:1<=n)(h1:n<=32):(2:Int)^(32-n).toNat%4294967296=sz n:=by
 have:=Cb ⟨(32-n).toNat,by omega⟩
 simpa[sz] using this
theorem cM{k:IntKind}{a b:Int}(h:a=b):Ending.returned (.int k a)=.returned (.int k b):=by rw[h]
theorem aC{a b:Bool}(h:a=b):Ending.returned (.bool a)=.returned (.bool b):=by rw[h]
theorem oL{a n:Int}(h:n<0\/32<n):rt a n=false:=by simp[rt];omega
theorem Eb{a n:Int}(h0:0<=n)(h1:n<=32):rt a n=(a%sz n==0):=by simp[rt,h0,h1];rfl
theorem gP(n:Int):(sz n).toNat=2^(32-n).toNat:=by rw[iQ];exact Int.toNat_natCast _
theorem x7(a n:Int)(h0:0<=n)(h1:n<=32)(ha:0<=a)(hb:a<4294967296):bits .and .u32 a (4294967296-sz n)=a / sz n*sz n:=by
 have hp:=aD n;have hl:=gO n h0;rw[u32_and a _ ha hb (by omega) (by omega)]
 have e:(4294967296-sz n).toNat=2^32-2^(32-n).toNat:=by have:=gP n;omega
 rw[e,nat_midmask 32 (32-n).toNat a.toNat (by omega),Nat.mod_eq_of_lt (by omega),iQ]
 have hc:a=(a.toNat:Int):=by omega
 rw[hc];simp only[Int.toNat_natCast,<- Int.natCast_ediv,<- Int.natCast_mul]
theorem pj(a n:Int)(h0:0<=n)(h1:n<=32)(ha:0<=a)(hb:a<4294967296):bits .andNot .u32 a (4294967296-sz n)=a%sz n:=by
 have hp:=aD n;have hl:=gO n h0;rw[u32_andNot a _ ha hb (by omega) (by omega)]
 have e:4294967295-(4294967296-sz n).toNat=2^(32-n).toNat-1:=by have:=gP n;omega
 rw[e,Nat.and_two_pow_sub_one_eq_mod,iQ];have hc:a=(a.toNat:Int):=by omega
 rw[hc];simp only[Int.toNat_natCast,<- Int.natCast_emod]
theorem Fq(k n:Int)(h0:n<=k)(h1:k<=32)(h2:0<=n):(2:Int)^(k-n).toNat<=4294967296:=by
 have h:2^(k-n).toNat<=2^32:=Nat.pow_le_pow_right dE (by omega)
 have e:(2:Int)^(k-n).toNat=((2^(k-n).toNat:Nat):Int):=by simp
 rw[e];omega
theorem Fs(k n:Int)(h0:n<=k):(2:Int)*2^(k-n).toNat=2^(k+1-n).toNat:=by
 rw[show (k+1-n).toNat=(k-n).toNat+1 by omega,Int.pow_succ,Int.mul_comm]
def par(a n:Int):Int:=a / sz (n-1)*sz (n-1)
def bud(a n:Int):Int:=if par a n=a then a+sz n else par a n
def lst(a n:Int):Int:=a+sz n-1
def mt(a m b n:Int):Bool:=decide (a<=b+sz n-1/\b<=a+sz m-1)
theorem kV(n:Int)(h:n<=32):sz (n-1)=2*sz n:=by
 have:=db (n-1) (by omega)
 rw[this,show n-1+1=n by omega]
theorem jV(a n:Int)(h1:n<=32)(ha:a%sz n=0):(par a n=a/\a%(2*sz n)=0)\/(par a n=a-sz n/\a%(2*sz n)=sz n):=by
 have hp:=aD n;have hs:=kV n h1;unfold par;rw[hs];obtain⟨q,rfl⟩:=Int.dvd_of_emod_eq_zero ha;have e1:sz n*q / (2*sz n)=q / 2:=by
  rw[Int.mul_comm 2 (sz n)];exact Int.mul_ediv_mul_of_pos _ _ hp
 have e2:sz n*q%(2*sz n)=sz n*(q%2):=by
  rw[Int.mul_comm 2 (sz n)];exact Int.mul_emod_mul_of_pos _ _ hp
 rw[e1,e2];rcases Int.emod_two_eq q with h|h
 ·left
  refine⟨?_,by rw[h];omega⟩
  rw[<- Int.mul_assoc,Int.mul_comm (q / 2) 2,Int.mul_comm,show 2*(q / 2)=q by omega]
 ·right
  refine⟨?_,by rw[h];omega⟩
  rw[<- Int.mul_assoc,Int.mul_comm (q / 2) 2,Int.mul_comm,show 2*(q / 2)=q-1 by omega,Int.mul_sub];omega
theorem tj(a n:Int)(h1:n<=32)(h0:0<=a)(hb:a<4294967296):0<=par a n/\par a n<=a:=by
 have hp:=aD (n-1)
 unfold par;exact⟨Int.mul_nonneg (Int.ediv_nonneg h0 (by omega)) (by omega),Int.ediv_mul_le _ (by omega)⟩
theorem Gq(a n:Int)(h0:0<=n)(h1:n<32)(ha:0<=a)(hb:a<4294967296)(hr:a%sz n=0):bits .or .u32 a (sz (n+1))=a+sz (n+1):=by
 have hp:=aD (n+1)
 have hl:=gO (n+1) (by omega)
 have hw:=db n (by omega)
 rw[u32_or a _ ha hb (by omega) (by have:=gO n h0;omega)]
 have e:a.toNat ||| (sz (n+1)).toNat=a.toNat+(sz (n+1)).toNat:=by
  refine nat_join (32-n).toNat _ _ ?_ ?_
  ·have:(a.toNat:Int)%((2^(32-n).toNat:Nat):Int)=0:=by rw[<- iQ,Int.toNat_of_nonneg ha];exact hr
   omega
  ·have:=gP n;omega
 rw[e];omega
theorem gC(a n:Int)(h0:0<=n)(h1:n<=32)(ha:0<=a)(hb:a<4294967296)(hr:a%sz n=0):a+sz n<=4294967296:=by
 obtain⟨m,hm,_⟩:=rq n h0 h1;have hp:=aD n;obtain⟨q,rfl⟩:=Int.dvd_of_emod_eq_zero hr;rw[hm] at hb;have h:=Int.lt_of_mul_lt_mul_left hb (by omega)
 have:sz n*(q+1)<=sz n*m:=Int.mul_le_mul_of_nonneg_left (by omega) (by omega)
 rw[Int.mul_add] at this;omega
theorem te(x y k:Nat):(x ^^^ y) / 2^k=0 ↔ x / 2^k=y / 2^k:=by
 have:=Nat.shiftRight_xor_distrib (a:=x) (b:=y) (i:=k)
 simp only[Nat.shiftRight_eq_div_pow] at this
 rw[this];constructor
 ·intro h;have h2:(x / 2^k) ^^^ (x / 2^k) ^^^ (y / 2^k)=(x / 2^k) ^^^ 0:=by rw[Nat.xor_assoc,h]
  rw[Nat.xor_self,Nat.zero_xor,Nat.xor_zero] at h2;exact h2.symm
 ·intro h;rw[h,Nat.xor_self]
theorem FT(a b:Int)(ha:0<=a)(hb:a<4294967296)(ka:0<=b)(kb:b<4294967296):0<=bits .xor .u32 a b/\bits .xor .u32 a b<4294967296:=by
 rw[u32_xor a b ha hb ka kb];have:a.toNat ^^^ b.toNat<2^32:=Nat.xor_lt_two_pow (by omega) (by omega)
 omega
theorem nj(a b m:Int)(h0:0<=m)(h1:m<=32)(ha:0<=a)(hb:a<4294967296)(ka:0<=b)(kb:b<4294967296):
  (bits .and .u32 (bits .xor .u32 a b) (4294967296-sz m)==0)=decide (a / sz m=b / sz m):=by
 obtain⟨x0,x1⟩:=FT a b ha hb ka kb;have hp:=aD m;rw[x7 _ m h0 h1 x0 x1,u32_xor a b ha hb ka kb,Bool.eq_iff_iff];simp only[beq_iff_eq,decide_eq_true_eq]
 have e1:a=(a.toNat:Int):=by omega
 have e2:b=(b.toNat:Int):=by omega
 rw[Int.mul_eq_zero,e1,e2];simp only[Int.toNat_natCast,iQ,<- Int.natCast_ediv]
 have:=te a.toNat b.toNat (32-m).toNat
 have hq:0<2^(32-m).toNat:=Nat.pos_of_ne_zero sM
 omega
theorem vJ(a b s:Int)(hs:0<s)(ha:a%s=0):a / s=b / s ↔ a<=b/\b<a+s:=by
 have h1:=Int.mul_ediv_add_emod a s;have h2:=Int.mul_ediv_add_emod b s;have h3:=Int.emod_nonneg b (show s≠0 by omega)
 have h4:=Int.emod_lt_of_pos b hs;constructor
 ·intro h;rw[h] at h1;omega
 ·rintro⟨h5,h6⟩
  have g1:s*(a / s)<s*(b / s+1):=by rw[Int.mul_add];omega
  have g2:s*(b / s)<s*(a / s+1):=by rw[Int.mul_add];omega
  have:=Int.lt_of_mul_lt_mul_left g1 (by omega)
  have:=Int.lt_of_mul_lt_mul_left g2 (by omega)
  omega
theorem oM(a b s:Int)(hs:0<s)(ha:a%s=0)(hb:b%s=0)(h:a<b+s):a<=b:=by
 obtain⟨x,rfl⟩:=Int.dvd_of_emod_eq_zero ha;obtain⟨y,rfl⟩:=Int.dvd_of_emod_eq_zero hb;have g:s*x<s*(y+1):=by rw[Int.mul_add];omega
 have:=Int.lt_of_mul_lt_mul_left g (by omega)
 exact Int.mul_le_mul_of_nonneg_left (by omega) (by omega)
theorem et(a m n:Int)(h:m<=n)(h1:n<=32)(ha:a%sz m=0):a%sz n=0:=by
 obtain⟨q,hq,_⟩:=oR m n h h1;obtain⟨x,rfl⟩:=Int.dvd_of_emod_eq_zero ha;rw[hq,Int.mul_assoc];exact Int.mul_emod_right _ _
theorem qx(a m b n:Int)(h:m<=n)(h1:n<=32)(ha:a%sz m=0)(hb:b%sz n=0):decide (a / sz m=b / sz m)=mt a m b n:=by
 have hp:=aD m;have hq:=aD n;have hs:=oM a b (sz n) hq (et a m n h h1 ha) hb
 unfold mt;rw[Bool.eq_iff_iff];simp only[decide_eq_true_eq]
 rw[vJ a b (sz m) hp ha];omega
theorem oz(a m b n:Int):mt a m b n=mt b n a m:=by
 unfold mt;rw[Bool.eq_iff_iff];simp only[decide_eq_true_eq];omega
theorem C7(a m b n:Int)(hm:0<=m)(hm1:m<=32)(hn:0<=n)(hn1:n<=32)(ha:0<=a)(hb:a<4294967296)(ka:0<=b)(kb:b<4294967296)(ra:a%sz m=0)(rb:b%sz n=0):
  (bits .and .u32 (bits .xor .u32 a b) (4294967296-sz (if n<m then n else m))==0)=mt a m b n:=by
 split
 ·rename_i h;rw[nj a b n hn hn1 ha hb ka kb,oz,<- qx b n a m (by omega) hm1 rb ra]
  exact decide_eq_decide.2 eq_comm
 ·rename_i h;rw[nj a b m hm hm1 ha hb ka kb,qx a m b n (by omega) hn1 ra rb]
def hOk(a n:Int):Bool:=rt a n&&(n != 32)
def hB(a n:Int):Int:=if hOk a n then a else 0
def hC(a n:Int):Int:=if hOk a n then a+sz (n+1) else 0
def hN(a n:Int):Int:=if hOk a n then n+1 else 0
def hE(a n:Int):Int:=if hOk a n then 0 else 2
def mm(a m b n:Int):Bool:=rt a m&&rt b n&&mt a m b n
theorem bf(a:Int)(h0:0<=a)(h1:a<4294967296):IntKind.i64.wrap a=a:=by
 simp[IntKind.wrap,IntKind.bits,IntKind.signed];omega
theorem jx(a:Int)(h0:0<=a)(h1:a<4294967296):IntKind.u32.wrap a=a:=by
 rw[IntKind.wrap_u32'];omega
theorem qC{a m b n:Int}(ra:rt a m=true)(rb:rt b n=true):mm a m b n=(decide (a<=lst b n)&&decide (b<=lst a m)):=by
 unfold mm mt lst;rw[ra,rb,Bool.eq_iff_iff];simp only[Bool.true_and,Bool.and_eq_true,decide_eq_true_eq]
theorem yT(a n:Int)(h0:0<=n)(h1:n<32)(ha:0<=a)(hb:a<4294967296)(hr:a%sz n=0):a+sz (n+1)<4294967296:=by
 have:=gC a n h0 (by omega) ha hb hr
 have:=db n h1
 have:=aD (n+1)
 omega
theorem Ar(a n:Int)(h0:1<=n)(h1:n<=32):rt (par a n) (n-1)=true:=by
 rw[aj];unfold par;exact⟨by omega,by omega,Int.mul_emod_left _ _⟩
theorem ng{a n:Int}(hr:rt a n=true)(h:n<32):rt a (n+1)=true:=by
 obtain⟨h0,h1,h2⟩:=aj.1 hr;exact aj.2 ⟨by omega,by omega,et a n (n+1) (by omega) (by omega) h2⟩
theorem m8{a n:Int}(hr:rt a n=true)(h:n<32):rt (a+sz (n+1)) (n+1)=true:=by
 obtain⟨h0,h1,h2⟩:=aj.1 hr;refine aj.2 ⟨by omega,by omega,?_⟩
 rw[Int.add_emod,et a n (n+1) (by omega) (by omega) h2,Int.emod_self];rfl
theorem zR{a n:Int}(hr:rt a n=true)(h:n<32):a%(2*sz (n+1))=0:=by
 obtain⟨h0,h1,h2⟩:=aj.1 hr;rw[<- db n h];exact h2
theorem Ez{a n:Int}(hr:rt a n=true)(h:n<32):(a+sz (n+1))%(2*sz (n+1))=sz (n+1):=by
 have hp:=aD (n+1)
 rw[Int.add_emod,zR hr h,Int.zero_add,Int.emod_emod_of_dvd _ (Int.dvd_refl _)];exact Int.emod_eq_of_lt (by omega) (by omega)
theorem sY{a n:Int}(hr:rt a n=true)(h:n<32):par a (n+1)=a:=by
 obtain⟨_,_,h3⟩:=aj.1 (ng hr h)
 have hp:=aD (n+1)
 have hm:=zR hr h;rcases jV a (n+1) (by omega) h3 with⟨e,_⟩|⟨_,e⟩
 ·exact e
 ·omega
theorem sJ{a n:Int}(hr:rt a n=true)(h:n<32):par (a+sz (n+1)) (n+1)=a:=by
 obtain⟨_,_,h3⟩:=aj.1 (m8 hr h)
 have hp:=aD (n+1)
 have hm:=Ez hr h;rcases jV (a+sz (n+1)) (n+1) (by omega) h3 with⟨_,e⟩|⟨e,_⟩
 ·omega
 ·omega
theorem Fc{a n:Int}(hr:rt a n=true)(h:n<32):bud a (n+1)=a+sz (n+1):=by unfold bud;rw[if_pos (sY hr h)]
theorem Ey{a n:Int}(hr:rt a n=true)(h:n<32):bud (a+sz (n+1)) (n+1)=a:=by
 have hp:=aD (n+1)
 unfold bud;rw[sJ hr h,if_neg (by omega)]
theorem uH(a n b m:Int)(hr:rt a n=true)(hc:rt b m=true):mm a n b m=(decide (a<b+sz m)&&decide (b<a+sz n)):=by
 unfold mm mt;rw[hr,hc,Bool.eq_iff_iff];simp only[Bool.true_and,Bool.and_eq_true,decide_eq_true_eq];omega
theorem jh(a n b m:Int):mm a n b m=mm b m a n:=by
 unfold mm;rw[oz,Bool.and_comm (rt a n)]
end
end Go.Proofs.YtjnhhnbgjjkkjaaGreatDoor
