/-
  TextRef, TextRefE, TextKeep
-/
import Derived.PlainAid
import Derived.Test.YtjnhhnbgjjkkjaaGreatDoorBasePAA
import Derived.Test.YtjnhhnbgjjkkjaaGreatDoorBasePAD
import Derived.Test.YtjnhhnbgjjkkjaaGreatDoorBasePAB
namespace Go.Proofs.YtjnhhnbgjjkkjaaGreatDoor
open Go.ChangeShapes Go.WideShapes Go.ChangeAt Go.RowKit
set_option linter.unusedVariables false
set_option linter.unusedSimpArgs false
def bs (l:List UInt8):ByteArray:=⟨l.toArray⟩
def one (b:Int):ByteArray:=ByteArray.empty.push (UInt8.ofNat b.toNat)
theorem one_bs (b:Int):one b=bs [UInt8.ofNat b.toNat]:=rfl
theorem conv_one (b:Int) (w:World) :
    (convert 106 9 (.slice (some ⟨w.heap.size,0,none⟩) 1 1)).run Tryz.prog (w.alloc (.cells #[.int .u8 b] 5))=.ok (.string (one b)) (w.alloc (.cells #[.int .u8 b] 5)):=by
  rw[run_convert_bytes_string _ _ _ 5 _ _ _ Tryz.underlying106 Tryz.underlying5 Tryz.underlying9];have hl:=run_loadCells_list (P:=Tryz.prog) (w.alloc (.cells #[.int .u8 b] 5)) ⟨w.heap.size,0,none⟩ [.int .u8 b] (fun j v hj=>by
    match j,hj with
    | 0,hj=>simp at hj;subst hj;simp[Addr.add]
    | j+1,hj=>simp at hj)
  exact run_bytesToString _ _ 1 1 [b] (by simpa using hl)
theorem ret_str {a b:ByteArray} (h:a=b):Ending.returned (.string a)=.returned (.string b):=by rw[h]
theorem bs_size (l:List UInt8):(bs l).size=l.length:=by simp[bs,ByteArray.size]
theorem one_size (b:Int):(one b).size=1:=by rw[one_bs,bs_size];rfl
theorem cat_ok (a b:ByteArray) (h:a.size+b.size<=9223372036854775807):¬9223372036854775807<a.size+b.size:=by omega
theorem dec_len (n:Nat):(dec n).length<=n+1:=by
  induction n using Nat.strongRecOn with
  | ind n ih =>
    unfold dec;rw[Lib.decDigits];split
    . simp
    . have:=ih (n / 10) (om)
      unfold dec at this;simp;omega
theorem bs_append (a b:List UInt8):bs a++bs b=bs (a++b):=by
  apply ByteArray.ext;simp[bs]
theorem bs_data (l:List UInt8):(bs l).data.toList=l:=by simp[bs]
theorem bs_of (s:ByteArray):bs s.data.toList=s:=by cases s;simp[bs]
theorem bs_inj {a b:List UInt8} (h:bs a=bs b):a=b:=by rw[<- bs_data a,<- bs_data b,h]
theorem dec_small (x:Int) (h0:0<=x) (h1:x<10):one (48+x%10)=bs (dec x.toNat):=by
  rw[one_bs,dec,Lib.decDigits_one (om),show (48+x%10).toNat=48+x.toNat by omega]
theorem dec_big (x:Int) (h0:0<=x) (h1:¬x<10):bs (dec (x / 10).toNat)++one (48+x%10)=bs (dec x.toNat):=by
  rw[one_bs,bs_append];congr 1
  unfold dec;have e:Lib.decDigits x.toNat=Lib.decDigits (x.toNat / 10)++[UInt8.ofNat (48+x.toNat%10)]:=by rw[Lib.decDigits,dif_neg (om)]
  rw[e,show (x / 10).toNat=x.toNat / 10 by omega,show (48+x%10).toNat=48+x.toNat%10 by omega]
def numI (l:List UInt8) (most:Nat):Int:=match num l most with|some n=>(n:Int)|none=>-1
theorem bs_toList (l:List UInt8):(bs l).toList=l:=by rw[Lib.toList_data,bs_data]
theorem hit {k m:Int} {s:ByteArray} (hk0:0<=k) (hk1:k<=m) (h:((bs (dec k.toNat)).toList==s.toList)=true):k=numI s.data.toList m.toNat:=by
  rw[bs_toList,Lib.toList_data,beq_iff_eq] at h;unfold numI;rw[num_some.2 ⟨show k.toNat<=m.toNat by omega,h⟩]
  show k=(k.toNat:Int)
  omega
def tl (a:Nat):Nat->List UInt8
  | 0=>dec (a%256)
  | k+1=>dec (a / 256^(k+1)%256)++46::tl a k
theorem dec_len3 (n:Nat) (h:n<1000):(dec n).length<=3:=by
  rw[dec_3 n h];unfold dec3;split
  . simp
  . split<;>simp
theorem tl_len (a k:Nat):(tl a k).length<=4*k+3:=by
  induction k with
  | zero=>exact dec_len3 _ (om)
  | succ k ih =>
    have:=dec_len3 (a / 256^(k+1)%256) (om)
    simp only[tl,List.length_append,List.length_cons];omega
theorem tl_dot (a:Nat) (h:a<4294967296):tl a 3=dot a:=by
  simp only[tl,dot]
  rw[show a / 256^(2+1)%256=a / 16777216 by omega,show a / 256^(1+1)%256=a / 65536%256 by omega,show a / 256^(0+1)%256=a / 256%256 by omega]
theorem wr_cat (a n:Nat):bs (dot a)++(⟨#[47]⟩:ByteArray)++bs (dec n)=bs (wr a n):=by
  rw[show (⟨#[47]⟩:ByteArray)=bs [47] from rfl,bs_append,bs_append];simp[wr]
theorem kd_last {x m:Int} {l:List UInt8} (h0:0<=m) (h1:m<10) (h:dec x.toNat=dec m.toNat++l):one (48+m%10)++bs l=bs (dec x.toNat):=by
  rw[dec_small m h0 h1,bs_append,h]
theorem kd_more {x m:Int} {l:List UInt8} (h0:0<=m) (h1:¬m<10) (h:dec x.toNat=dec m.toNat++l):dec x.toNat=dec (m / 10).toNat++(UInt8.ofNat (48+m%10).toNat::l):=by
  have:=dec_big m h0 h1
  rw[one_bs,bs_append] at this;rw[h,<- bs_inj this];simp
set_option maxRecDepth 1000000 in
set_option maxHeartbeats 1000000 in
theorem kdigits_any (x:Int) (w:World) (h0:0<=x) (h1:x<=4294967296) :
    Calls Tryz.prog 21 #[.int .i64 x] w fun e w'=>e=.returned (.string (bs (dec x.toNat)))/\Below w.heap.size w w':=by
  go_enter Tryz.func21,Tryz.ntmps21
  go_wp2;go_loopw [0,3] (fun n t wr=>∃ (m:Int) (l:List UInt8) (st:ByteArray),0<=m/\m<=4294967296/\st.size<=4294967297/\n=.int .i64 m/\t=.string st/\Hid (st=bs l/\dec x.toNat=dec m.toNat++l)/\Below w.heap.size w wr) (fun n _ _=>(intOf n).toNat)
  case atStart=>exact⟨x,[],⟨#[]⟩,h0,h1,Nat.zero_le _,rfl,rfl,⟨rfl,by simp⟩,Below.refl _ _⟩
  case round =>
    obtain⟨m,l,st,m0,m1,hst,rfl,rfl,H,hb⟩:=hrel;have hcv:=conv_one (48+m%10)
    have hos:=one_size (48+m%10)
    have HO:Hid ((one (48+m%10)).size=1):=hos
    have hsz:=cat_ok (one (48+m%10)) st (om)
    clear hos;by_cases hlt:m<10
    . have hq:(m / 10==0)=true:=by simp;omega
      go_wp2;go_ret;exact⟨ret_str (by rw[H.out.1];exact kd_last m0 hlt H.out.2),Below.alloc hb hb.size _⟩
    . have hq:(m / 10==0)=false:=by simp;omega
      have hl2:=kd_more m0 hlt H.out.2;have hs2:Hid (one (48+m%10)++st=bs (UInt8.ofNat (48+m%10).toNat::l)):=(by rw[H.out.1,one_bs,bs_append];rfl:one (48+m%10)++st=bs (UInt8.ofNat (48+m%10).toNat::l))
      have HL:Hid (dec x.toNat=dec (m / 10).toNat++(UInt8.ofNat (48+m%10).toNat::l)):=hl2
      clear hl2;have hsz2:Hid ((one (48+m%10)++st).size<=4294967297):=(by
        rw[hs2.out,bs_size];have h1:=dec_len x.toNat;rw[HL.out,List.length_append] at h1;omega:(one (48+m%10)++st).size<=4294967297)
      go_wp2;go_roundw
      case rel=>exact⟨m / 10,_,_,by omega,by omega,hsz2.out,rfl,rfl,⟨hs2.out,HL.out⟩,Below.alloc hb hb.size _⟩
      case measure=>simp[intOf];omega
def pr (a:Nat):Nat->List UInt8
  | 0=>[]
  | 1=>dec (a / 16777216)++[46]
  | 2=>dec (a / 16777216)++[46]++(dec (a / 65536%256)++[46])
  | 3=>dec (a / 16777216)++[46]++(dec (a / 65536%256)++[46])++(dec (a / 256%256)++[46])
  | _=>dot a
theorem pr_len (a:Nat) (h:a<4294967296) (k:Nat):(pr a k).length<=15:=by
  have h3:=dec_len3 (a / 16777216) (om)
  have h2:=dec_len3 (a / 65536%256) (om)
  have h1:=dec_len3 (a / 256%256) (om)
  have h0:(dot a).length<=15:=by rw[<- tl_dot a h];exact tl_len a 3
  unfold pr;split<;>first|(simp only[List.length_append,List.length_cons,List.length_nil];omega)|exact h0
theorem oct (a:Int) (h0:0<=a) (h1:a<4294967296):(a / 16777216%256).toNat=a.toNat / 16777216/\(a / 65536%256).toNat=a.toNat / 65536%256/\(a / 256%256).toNat=a.toNat / 256%256/\(a%256).toNat=a.toNat%256:=by omega
theorem pr_0 (a:Int) (h0:0<=a) (h1:a<4294967296) {st:ByteArray} (h:st=bs (pr a.toNat 0)):st++bs (dec (a / 16777216%256).toNat)++(⟨#[46]⟩:ByteArray)=bs (pr a.toNat 1):=by
  rw[h,(oct a h0 h1).1,show (⟨#[46]⟩:ByteArray)=bs [46] from rfl,bs_append,bs_append];simp[pr]
theorem pr_1 (a:Int) (h0:0<=a) (h1:a<4294967296) {st:ByteArray} (h:st=bs (pr a.toNat 1)):st++bs (dec (a / 65536%256).toNat)++(⟨#[46]⟩:ByteArray)=bs (pr a.toNat 2):=by
  rw[h,(oct a h0 h1).2.1,show (⟨#[46]⟩:ByteArray)=bs [46] from rfl,bs_append,bs_append];simp[pr]
theorem pr_2 (a:Int) (h0:0<=a) (h1:a<4294967296) {st:ByteArray} (h:st=bs (pr a.toNat 2)):st++bs (dec (a / 256%256).toNat)++(⟨#[46]⟩:ByteArray)=bs (pr a.toNat 3):=by
  rw[h,(oct a h0 h1).2.2.1,show (⟨#[46]⟩:ByteArray)=bs [46] from rfl,bs_append,bs_append];simp[pr]
theorem pr_3 (a:Int) (h0:0<=a) (h1:a<4294967296) {st:ByteArray} (h:st=bs (pr a.toNat 3)):st++bs (dec (a%256).toNat)=bs (pr a.toNat 4):=by
  rw[h,(oct a h0 h1).2.2.2,bs_append];simp[pr,dot]
set_option maxRecDepth 1000000 in
set_option maxHeartbeats 1000000 in
theorem kaddr_any (a:Int) (w:World) (h0:0<=a) (h1:a<4294967296) :
    Calls Tryz.prog 22 #[.int .u32 a] w fun e w'=>e=.returned (.string (bs (dot a.toNat)))/\Below w.heap.size w w':=by
  go_enter Tryz.func22,Tryz.ntmps22
  go_wp2;go_loopw [3,4] (fun t i wr=>∃ (k:Nat) (st:ByteArray),k<=4/\st.size<=15/\i=.int .i64 (3-k)/\t=.string st/\Hid (st=bs (pr a.toNat k))/\Below w.heap.size w wr) (fun _ i _=>(intOf i+1).toNat)
  case atStart=>exact⟨0,⟨#[]⟩,by omega,Nat.zero_le _,rfl,rfl,rfl,Below.refl _ _⟩
  case round =>
    obtain⟨k,st,hk,hst,rfl,rfl,H,hb⟩:=hrel;by_cases hlt:k<4
    . have hk4:k=0\/k=1\/k=2\/k=3:=by omega
      have hw0:=wrap_small a h0 h1;have hw1:=wrap_small (a / 256) (om) (om)
      have hw2:=wrap_small (a / 65536) (om) (om)
      have hw3:=wrap_small (a / 16777216) (om) (om)
      have hd0:(bs (dec (a%256).toNat)).size<=3:=by rw[bs_size];exact dec_len3 _ (om)
      have hd1:(bs (dec (a / 256%256).toNat)).size<=3:=by rw[bs_size];exact dec_len3 _ (om)
      have hd2:(bs (dec (a / 65536%256).toNat)).size<=3:=by rw[bs_size];exact dec_len3 _ (om)
      have hd3:(bs (dec (a / 16777216%256).toNat)).size<=3:=by rw[bs_size];exact dec_len3 _ (om)
      rcases hk4 with rfl|rfl|rfl|rfl
      . have hs2:=pr_0 a h0 h1 (st:=st) H.out
        revert hs2;intro hs2;have HS:Hid _:=hs2
        clear hs2;go_wp2_with (go_at_call 21;refine(kdigits_any _ _ (om) (om)).mono ?_;rintro e w2 ⟨rfl,hb2⟩)
        go_roundw
        case rel=>exact⟨1,_,by omega,by rw[HS.out,bs_size];exact pr_len _ (om) _,by rfl,rfl,HS.out,hb.trans (hb2.mono hb.size)⟩
        case measure=>simp[intOf]
      . have hs2:=pr_1 a h0 h1 (st:=st) H.out
        revert hs2;intro hs2;have HS:Hid _:=hs2
        clear hs2;go_wp2_with (go_at_call 21;refine(kdigits_any _ _ (om) (om)).mono ?_;rintro e w2 ⟨rfl,hb2⟩)
        go_roundw
        case rel=>exact⟨2,_,by omega,by rw[HS.out,bs_size];exact pr_len _ (om) _,by rfl,rfl,HS.out,hb.trans (hb2.mono hb.size)⟩
        case measure=>simp[intOf]
      . have hs2:=pr_2 a h0 h1 (st:=st) H.out
        revert hs2;intro hs2;have HS:Hid _:=hs2
        clear hs2;go_wp2_with (go_at_call 21;refine(kdigits_any _ _ (om) (om)).mono ?_;rintro e w2 ⟨rfl,hb2⟩)
        go_roundw
        case rel=>exact⟨3,_,by omega,by rw[HS.out,bs_size];exact pr_len _ (om) _,by rfl,rfl,HS.out,hb.trans (hb2.mono hb.size)⟩
        case measure=>simp[intOf]
      . have hs2:=pr_3 a h0 h1 (st:=st) H.out
        revert hs2;intro hs2;have HS:Hid _:=hs2
        clear hs2;go_wp2_with (go_at_call 21;refine(kdigits_any _ _ (om) (om)).mono ?_;rintro e w2 ⟨rfl,hb2⟩)
        go_roundw
        case rel=>exact⟨4,_,by omega,by rw[HS.out,bs_size];exact pr_len _ (om) _,by rfl,rfl,HS.out,hb.trans (hb2.mono hb.size)⟩
        case measure=>simp[intOf]
    . obtain rfl:k=4:=by omega
      go_wp2;go_ret;exact⟨ret_str H.out,hb⟩
end Go.Proofs.YtjnhhnbgjjkkjaaGreatDoor
