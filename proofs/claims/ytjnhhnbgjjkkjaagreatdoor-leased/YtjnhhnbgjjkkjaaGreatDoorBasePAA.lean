/-
  UpB, Plain, PlainB, PlainC
-/
import Derived.WalkKit
import Derived.WalkSmall
import Derived.OpenShut
import Derived.ProofKit
import Derived.Laws.BitsAllLaws
import Derived.Laws.ShiftsVarLaws
import Derived.RowKit
namespace Go.Proofs.YtjnhhnbgjjkkjaaGreatDoor
open Go.ChangeShapes Go.WideShapes Go.ChangeAt Go.RowKit
set_option linter.unusedVariables false
set_option linter.unusedSimpArgs false
theorem upB {B:Nat} {a w:World} (h:Below B a w:=by repeat' (first|with_reducible assumption|with_reducible exact Below.refl _ _|with_reducible apply Below.drew|with_reducible apply below_drewN|with_reducible apply Below.setCell|with_reducible apply Below.alloc|omega|(simp;done)|(simp;omega))):Below B a w:=h
theorem om {p:Prop} (h:p:=by omega):p:=h
theorem byO {p:Prop} (h:p:=by first|omega|(simp;done)|(simp;omega)):p:=h
theorem byA {p:Prop} (h:p:=by first|assumption|(simp[go_sem];done)|(simp[go_sem, *];done)):p:=h
theorem byC {p:Prop} (h:p:=by first|assumption|(rw[World.cell?_alloc_past _ _ _ (by omega)];assumption)|(simp[go_sem, *];done)):p:=h
theorem byF {p:Prop} (h:p:=by first|assumption|(rw[World.frozen?_alloc_past _ _ _ (by omega)];assumption)|(simp[go_sem, *];done)):p:=h
end Go.Proofs.YtjnhhnbgjjkkjaaGreatDoor
namespace Go.Proofs.YtjnhhnbgjjkkjaaGreatDoor
open Go.RowKit
set_option linter.unusedVariables false
set_option linter.unusedSimpArgs false
def sz (n:Int):Int:=2^(32-n).toNat
def rt (a n:Int):Bool:=decide (0<=n/\n<=32/\a%sz n=0)
theorem sz_pos (n:Int):0<sz n:=by unfold sz;exact Int.pow_pos (by decide)
theorem sz_nat (n:Int):sz n=((2^(32-n).toNat:Nat):Int):=by unfold sz;simp
theorem sz_le (n:Int) (h0:0<=n):sz n<=4294967296:=by
  have h:2^(32-n).toNat<=2^32:=Nat.pow_le_pow_right (by decide) (by omega)
  rw[sz_nat];omega
theorem sz_succ (n:Int) (h:n<32):sz n=2*sz (n+1):=by
  have e:(32-n).toNat=(32-(n+1)).toNat+1:=by omega
  unfold sz;rw[e,Int.pow_succ];omega
theorem sz_32:sz 32=1:=by decide
theorem sz_whole (n:Int) (h0:0<=n) (h1:n<=32):∃ m:Int,4294967296=sz n*m/\0<m:=by
  refine⟨2^n.toNat,?_,Int.pow_pos (by decide)⟩
  unfold sz;rw[<- Int.pow_add,show (32-n).toNat+n.toNat=32 by omega]
  decide
theorem sz_dvd (m n:Int) (h:m<=n) (h1:n<=32):∃ q:Int,sz m=sz n*q/\0<q:=by
  refine⟨2^(n-m).toNat,?_,Int.pow_pos (by decide)⟩
  unfold sz;rw[<- Int.pow_add,show (32-n).toNat+(n-m).toNat=(32-m).toNat by omega]
theorem rt_iff {a n:Int}:rt a n=true ↔ 0<=n/\n<=32/\a%sz n=0:=by simp[rt]
theorem mask_fin:∀ k:Fin 33,((4294967295:Int)*2^(k:Nat))%4294967296=4294967296-2^(k:Nat):=by decide +kernel
theorem bit_fin:∀ k:Fin 32,((1:Int)*2^(k:Nat))%4294967296=2^(k:Nat):=by decide +kernel
theorem mask_eq (n:Int) (h0:0<=n) (h1:n<=32):IntKind.u32.wrap (4294967295*2^min (32-n).toNat IntKind.u32.bits)=4294967296-sz n:=by
  have e:min (32-n).toNat IntKind.u32.bits=(32-n).toNat:=by simp[IntKind.bits];omega
  rw[e,IntKind.wrap_u32'];exact mask_fin ⟨(32-n).toNat,by omega⟩
theorem bit_eq (n:Int) (h0:1<=n) (h1:n<=32):IntKind.u32.wrap (1*2^min (32-n).toNat IntKind.u32.bits)=sz n:=by
  have e:min (32-n).toNat IntKind.u32.bits=(32-n).toNat:=by simp[IntKind.bits];omega
  rw[e,IntKind.wrap_u32'];exact bit_fin ⟨(32-n).toNat,by omega⟩
theorem mask_eq' (n:Int) (h0:0<=n) (h1:n<=32):(4294967295:Int)*2^(32-n).toNat%4294967296=4294967296-sz n:=mask_fin ⟨(32-n).toNat,by omega⟩
theorem bit_eq' (n:Int) (h0:1<=n) (h1:n<=32):(2:Int)^(32-n).toNat%4294967296=sz n:=by
  have:=bit_fin ⟨(32-n).toNat,by omega⟩
  simpa[sz] using this
theorem ret_int {k:IntKind} {a b:Int} (h:a=b):Ending.returned (.int k a)=.returned (.int k b):=by rw[h]
theorem ret_bool {a b:Bool} (h:a=b):Ending.returned (.bool a)=.returned (.bool b):=by rw[h]
theorem rt_out {a n:Int} (h:n<0\/32<n):rt a n=false:=by simp[rt];omega
theorem rt_in {a n:Int} (h0:0<=n) (h1:n<=32):rt a n=(a%sz n==0):=by simp[rt,h0,h1];rfl
theorem toNat_sz (n:Int):(sz n).toNat=2^(32-n).toNat:=by rw[sz_nat];exact Int.toNat_natCast _
theorem and_mask (a n:Int) (h0:0<=n) (h1:n<=32) (ha:0<=a) (hb:a<4294967296):bits .and .u32 a (4294967296-sz n)=a / sz n*sz n:=by
  have hp:=sz_pos n;have hl:=sz_le n h0;rw[u32_and a _ ha hb (by omega) (by omega)]
  have e:(4294967296-sz n).toNat=2^32-2^(32-n).toNat:=by have:=toNat_sz n;omega
  rw[e,nat_midmask 32 (32-n).toNat a.toNat (by omega),Nat.mod_eq_of_lt (by omega),sz_nat]
  have hc:a=(a.toNat:Int):=by omega
  rw[hc];simp only[Int.toNat_natCast,<- Int.natCast_ediv,<- Int.natCast_mul]
theorem andNot_mask (a n:Int) (h0:0<=n) (h1:n<=32) (ha:0<=a) (hb:a<4294967296):bits .andNot .u32 a (4294967296-sz n)=a%sz n:=by
  have hp:=sz_pos n;have hl:=sz_le n h0;rw[u32_andNot a _ ha hb (by omega) (by omega)]
  have e:4294967295-(4294967296-sz n).toNat=2^(32-n).toNat-1:=by have:=toNat_sz n;omega
  rw[e,Nat.and_two_pow_sub_one_eq_mod,sz_nat];have hc:a=(a.toNat:Int):=by omega
  rw[hc];simp only[Int.toNat_natCast,<- Int.natCast_emod]
def lst (a n:Int):Int:=a+sz n-1
def mt (a m b n:Int):Bool:=decide (a<=b+sz n-1/\b<=a+sz m-1)
theorem or_eq (a n:Int) (h0:0<=n) (h1:n<32) (ha:0<=a) (hb:a<4294967296) (hr:a%sz n=0):bits .or .u32 a (sz (n+1))=a+sz (n+1):=by
  have hp:=sz_pos (n+1)
  have hl:=sz_le (n+1) (by omega)
  have hw:=sz_succ n (by omega)
  rw[u32_or a _ ha hb (by omega) (by have:=sz_le n h0;omega)]
  have e:a.toNat ||| (sz (n+1)).toNat=a.toNat+(sz (n+1)).toNat:=by
    refine nat_join (32-n).toNat _ _ ?_ ?_
    . have:(a.toNat:Int)%((2^(32-n).toNat:Nat):Int)=0:=by rw[<- sz_nat,Int.toNat_of_nonneg ha];exact hr
      omega
    . have:=toNat_sz n;omega
  rw[e];omega
theorem end_le (a n:Int) (h0:0<=n) (h1:n<=32) (ha:0<=a) (hb:a<4294967296) (hr:a%sz n=0):a+sz n<=4294967296:=by
  obtain⟨m,hm,_⟩:=sz_whole n h0 h1;have hp:=sz_pos n;obtain⟨q,rfl⟩:=Int.dvd_of_emod_eq_zero hr;rw[hm] at hb;have h:=Int.lt_of_mul_lt_mul_left hb (by omega)
  have:sz n*(q+1)<=sz n*m:=Int.mul_le_mul_of_nonneg_left (by omega) (by omega)
  rw[Int.mul_add] at this;omega
theorem nat_xor_hi (x y k:Nat):(x ^^^ y) / 2^k=0 ↔ x / 2^k=y / 2^k:=by
  have:=Nat.shiftRight_xor_distrib (a:=x) (b:=y) (i:=k)
  simp only[Nat.shiftRight_eq_div_pow] at this
  rw[this];constructor
  . intro h;have h2:(x / 2^k) ^^^ (x / 2^k) ^^^ (y / 2^k)=(x / 2^k) ^^^ 0:=by rw[Nat.xor_assoc,h]
    rw[Nat.xor_self,Nat.zero_xor,Nat.xor_zero] at h2;exact h2.symm
  . intro h;rw[h,Nat.xor_self]
theorem xor_bd (a b:Int) (ha:0<=a) (hb:a<4294967296) (ka:0<=b) (kb:b<4294967296):0<=bits .xor .u32 a b/\bits .xor .u32 a b<4294967296:=by
  rw[u32_xor a b ha hb ka kb];have:a.toNat ^^^ b.toNat<2^32:=Nat.xor_lt_two_pow (by omega) (by omega)
  omega
theorem meet_bits (a b m:Int) (h0:0<=m) (h1:m<=32) (ha:0<=a) (hb:a<4294967296) (ka:0<=b) (kb:b<4294967296) :
    (bits .and .u32 (bits .xor .u32 a b) (4294967296-sz m)==0)=decide (a / sz m=b / sz m):=by
  obtain⟨x0,x1⟩:=xor_bd a b ha hb ka kb;have hp:=sz_pos m;rw[and_mask _ m h0 h1 x0 x1,u32_xor a b ha hb ka kb,Bool.eq_iff_iff];simp only[beq_iff_eq,decide_eq_true_eq]
  have e1:a=(a.toNat:Int):=by omega
  have e2:b=(b.toNat:Int):=by omega
  rw[Int.mul_eq_zero,e1,e2];simp only[Int.toNat_natCast,sz_nat,<- Int.natCast_ediv]
  have:=nat_xor_hi a.toNat b.toNat (32-m).toNat
  have hq:0<2^(32-m).toNat:=Nat.pos_of_ne_zero (by simp)
  omega
theorem ediv_same (a b s:Int) (hs:0<s) (ha:a%s=0):a / s=b / s ↔ a<=b/\b<a+s:=by
  have h1:=Int.mul_ediv_add_emod a s;have h2:=Int.mul_ediv_add_emod b s;have h3:=Int.emod_nonneg b (show s≠0 by omega)
  have h4:=Int.emod_lt_of_pos b hs;constructor
  . intro h;rw[h] at h1;omega
  . rintro⟨h5,h6⟩
    have g1:s*(a / s)<s*(b / s+1):=by rw[Int.mul_add];omega
    have g2:s*(b / s)<s*(a / s+1):=by rw[Int.mul_add];omega
    have:=Int.lt_of_mul_lt_mul_left g1 (by omega)
    have:=Int.lt_of_mul_lt_mul_left g2 (by omega)
    omega
theorem step_le (a b s:Int) (hs:0<s) (ha:a%s=0) (hb:b%s=0) (h:a<b+s):a<=b:=by
  obtain⟨x,rfl⟩:=Int.dvd_of_emod_eq_zero ha;obtain⟨y,rfl⟩:=Int.dvd_of_emod_eq_zero hb;have g:s*x<s*(y+1):=by rw[Int.mul_add];omega
  have:=Int.lt_of_mul_lt_mul_left g (by omega)
  exact Int.mul_le_mul_of_nonneg_left (by omega) (by omega)
theorem mod_down (a m n:Int) (h:m<=n) (h1:n<=32) (ha:a%sz m=0):a%sz n=0:=by
  obtain⟨q,hq,_⟩:=sz_dvd m n h h1;obtain⟨x,rfl⟩:=Int.dvd_of_emod_eq_zero ha;rw[hq,Int.mul_assoc];exact Int.mul_emod_right _ _
theorem meet_low (a m b n:Int) (h:m<=n) (h1:n<=32) (ha:a%sz m=0) (hb:b%sz n=0):decide (a / sz m=b / sz m)=mt a m b n:=by
  have hp:=sz_pos m;have hq:=sz_pos n;have hs:=step_le a b (sz n) hq (mod_down a m n h h1 ha) hb
  unfold mt;rw[Bool.eq_iff_iff];simp only[decide_eq_true_eq]
  rw[ediv_same a b (sz m) hp ha];omega
theorem mt_comm (a m b n:Int):mt a m b n=mt b n a m:=by
  unfold mt;rw[Bool.eq_iff_iff];simp only[decide_eq_true_eq];omega
theorem meet_eq (a m b n:Int) (hm:0<=m) (hm1:m<=32) (hn:0<=n) (hn1:n<=32) (ha:0<=a) (hb:a<4294967296) (ka:0<=b) (kb:b<4294967296) (ra:a%sz m=0) (rb:b%sz n=0) :
    (bits .and .u32 (bits .xor .u32 a b) (4294967296-sz (if n<m then n else m))==0)=mt a m b n:=by
  split
  . rename_i h;rw[meet_bits a b n hn hn1 ha hb ka kb,mt_comm,<- meet_low b n a m (by omega) hm1 rb ra]
    exact decide_eq_decide.2 eq_comm
  . rename_i h;rw[meet_bits a b m hm hm1 ha hb ka kb,meet_low a m b n (by omega) hn1 ra rb]
def hOk (a n:Int):Bool:=rt a n&&(n != 32)
def hB (a n:Int):Int:=if hOk a n then a else 0
def hC (a n:Int):Int:=if hOk a n then a+sz (n+1) else 0
def hN (a n:Int):Int:=if hOk a n then n+1 else 0
def hE (a n:Int):Int:=if hOk a n then 0 else 2
def mm (a m b n:Int):Bool:=rt a m&&rt b n&&mt a m b n
theorem wrap_small (a:Int) (h0:0<=a) (h1:a<4294967296):IntKind.i64.wrap a=a:=by
  simp[IntKind.wrap,IntKind.bits,IntKind.signed];omega
theorem end_lt (a n:Int) (h0:0<=n) (h1:n<32) (ha:0<=a) (hb:a<4294967296) (hr:a%sz n=0):a+sz (n+1)<4294967296:=by
  have:=end_le a n h0 (by omega) ha hb hr
  have:=sz_succ n h1
  have:=sz_pos (n+1)
  omega
def pk (c n:Int):Int:=(if c<0 then -(c+1) else c)%n
theorem wrap_sum (a b:Int) (h0:0<=a) (h1:a<4294967296) (h2:0<=b) (h3:b<=4294967296):IntKind.i64.wrap (a+b)=a+b:=by
  simp[IntKind.wrap,IntKind.bits,IntKind.signed];omega
theorem pk_neg (c n:Int) (h:c<0):-(c+1).tmod n=pk c n:=by
  unfold pk;rw[if_pos h,<- Int.neg_tmod,Int.tmod_eq_emod_of_nonneg (by omega)]
theorem pk_bd (c n:Int) (h:0<n):0<=pk c n/\pk c n<n:=by
  unfold pk;exact⟨Int.emod_nonneg _ (by omega),Int.emod_lt_of_pos _ h⟩
theorem ksize_fin:∀ k:Fin 33,wrap64 ((2:Int)^(k:Nat))=2^(k:Nat):=by decide +kernel
theorem ksize_eq (n:Int) (h0:0<=n) (h1:n<=32):wrap64 ((2:Int)^(32-n).toNat)=sz n:=ksize_fin ⟨(32-n).toNat,by omega⟩
theorem lo_rt {a n:Int} (hr:rt a n=true) (h:n<32):rt a (n+1)=true:=by
  obtain⟨h0,h1,h2⟩:=rt_iff.1 hr;exact rt_iff.2 ⟨by omega,by omega,mod_down a n (n+1) (by omega) (by omega) h2⟩
theorem hi_rt {a n:Int} (hr:rt a n=true) (h:n<32):rt (a+sz (n+1)) (n+1)=true:=by
  obtain⟨h0,h1,h2⟩:=rt_iff.1 hr;refine rt_iff.2 ⟨by omega,by omega,?_⟩
  rw[Int.add_emod,mod_down a n (n+1) (by omega) (by omega) h2,Int.emod_self];rfl
theorem mm_lohi (a n b m:Int) (hr:rt a n=true) (hc:rt b m=true):mm a n b m=(decide (a<b+sz m)&&decide (b<a+sz n)):=by
  unfold mm mt;rw[hr,hc,Bool.eq_iff_iff];simp only[Bool.true_and,Bool.and_eq_true,decide_eq_true_eq];omega
theorem mm_comm (a n b m:Int):mm a n b m=mm b m a n:=by
  unfold mm;rw[mt_comm,Bool.and_comm (rt a n)]
end Go.Proofs.YtjnhhnbgjjkkjaaGreatDoor
