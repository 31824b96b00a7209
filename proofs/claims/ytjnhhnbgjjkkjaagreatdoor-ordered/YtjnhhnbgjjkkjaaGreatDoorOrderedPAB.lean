/-
  BkNu
-/
import Derived.Deep.CutRange
import Derived.Test.YtjnhhnbgjjkkjaaGreatDoorBasePAA
import Derived.Test.YtjnhhnbgjjkkjaaGreatDoorBasePAE
import Derived.Test.YtjnhhnbgjjkkjaaGreatDoorBasePAH
namespace Go.Proofs.YtjnhhnbgjjkkjaaGreatDoor
open Go.ChangeShapes Go.WideShapes Go.ChangeAt Go.RowKit
set_option linter.unusedVariables false
set_option linter.unusedSimpArgs false
theorem u8_wrap (x:Int) (h0:48<=x) (h1:x<=57):IntKind.u8.wrap (x-48)=x-48:=by
  simp[IntKind.wrap,IntKind.signed,IntKind.bits]
  omega
set_option maxRecDepth 100000 in
set_option maxHeartbeats 1000000 in
theorem knum_at (s:ByteArray) (m most:Int) (V:Nat->Int) (w:World) (hm0:0<=m) (hm1:m<=most) (hz:1<=s.size) (hz3:s.size<=3)
    (hd:Hid (∀ j (h:j<s.size),48<=((s[j].toNat:Nat):Int)/\((s[j].toNat:Nat):Int)<=57/\V (j+1)=10*V j+(((s[j].toNat:Nat):Int)-48))) (hV:Hid (∀ j,0<=V j/\V j<=1000)) (h0:Hid (V 0=0)) (hE:Hid (V s.size=m))
    (HD:Hid (∀ W,Calls Tryz.prog 21 #[.int .i64 m] W fun e w'=>e=.returned (.string s)/\Below W.heap.size W w')) :
    Calls Tryz.prog 80 #[.string s,.int .i64 most] w fun e w'=>e=.returned (.int .i64 m)/\Below w.heap.size w w':=by
  go_enter Tryz.func80,Tryz.ntmps80
  go_wp2;go_loopw [5,6] (fun v i wr=>∃ k:Nat,k<=s.size/\i=.int .i64 k/\v=.int .i64 (V k)/\Below w.heap.size w wr) (fun _ i _=>s.size-(intOf i).toNat)
  case atStart=>exact⟨0,by omega,rfl,by rw[h0.out],Below.refl _ _⟩
  case round =>
    obtain⟨k,hk,rfl,rfl,hb⟩:=hrel;by_cases hlt:k<s.size
    . obtain⟨d1,d2,d3⟩:=hd.out k hlt;obtain⟨v1,v2⟩:=hV.out k;have hu:=u8_wrap _ d1 d2;have hw1:IntKind.i64.wrap (10*V k)=10*V k:=wrap_small _ (om) (om)
      have hw2:IntKind.i64.wrap (((s[k].toNat:Nat):Int)-48)=((s[k].toNat:Nat):Int)-48:=wrap_small _ (om) (om)
      have hw3:IntKind.i64.wrap (10*V k+(((s[k].toNat:Nat):Int)-48))=V (k+1):=by rw[d3];exact wrap_small _ (om) (om)
      have hk4:(k:Int)<4:=by omega
      have n1:¬((s[k].toNat:Nat):Int)<48:=by omega
      have n2:¬57<((s[k].toNat:Nat):Int):=by omega
      replace hb:Hid _:=hb;replace d3:Hid _:=d3;go_wp2;go_roundw
      case rel=>exact⟨k+1,by omega,by go_num,rfl,hb.out⟩
      case measure=>simp[intOf];omega
    . obtain rfl:k=s.size:=by omega
      rw[hE.out];replace hb:Hid _:=hb;have n0:(((s.size:Nat):Int)==0)=false:=by simp;intro q;rw[q] at hz;simp at hz
      have n1:¬most<m:=by omega
      go_wp2_with (go_at_call 21;refine(HD.out _).mono ?_;rintro e w1 ⟨rfl,hq⟩;replace hq:Hid _:=hq)
      go_ret;exact⟨rfl,hb.out.trans (hq.out.mono hb.out.size)⟩
theorem dec_dig (m:Nat) (c:UInt8) (h:c∈dec m):48<=c.toNat/\c.toNat<=57:=by
  by_cases hc:c.toNat<48\/57<c.toNat
  . exact absurd h (dec_no c hc m)
  . omega
theorem val_front (a b:List UInt8):val a<=val (a++b):=by
  induction b generalizing a with
  | nil=>simp
  | cons c b ih =>
    have h1:=ih (a++[c])
    rw[val_snoc,List.append_assoc] at h1;simp only[List.cons_append,List.nil_append] at h1
    omega
theorem val_take (l:List UInt8) (j:Nat):val (l.take j)<=val l:=by
  conv=>rhs;rw[<- List.take_append_drop j l]
  exact val_front _ _
theorem knum_any (m most:Nat) (w:World) (h:m<=255) (hm:m<=most) (h2:most<=255) :
    Calls Tryz.prog 80 #[.string (bs (dec m)),.int .i64 most] w fun e w'=>e=.returned (.int .i64 m)/\Below w.heap.size w w':=by
  have hl:=dec_lenB (n:=m) (om)
  have hsz:(bs (dec m)).size=(dec m).length:=bs_size _
  have hat:∀ j (hj:j<(bs (dec m)).size),(bs (dec m))[j]=(dec m)[j]'(om):=fun j hj=>rfl
  refine knum_at (bs (dec m)) m most (fun j=>(val ((dec m).take j):Nat)) w (om) (om) (om) (om) (fun j hj=>?_) (fun j=>?_) (by show ((val ((dec m).take 0):Nat):Int)=0;simp[val]) ?_ (fun W=>?_)
  . have hj':j<(dec m).length:=by omega
    have hc:=dec_dig m ((dec m)[j]) (List.getElem_mem hj')
    rw[hat j hj];refine⟨by omega,by omega,?_⟩
    show ((val ((dec m).take (j+1)):Nat):Int)=10*((val ((dec m).take j):Nat):Int)+_
    rw[List.take_succ_eq_append_getElem hj',val_snoc];omega
  . have h3:=val_take (dec m) j
    rw[val_dec] at h3;exact⟨by omega,by show ((val ((dec m).take j):Nat):Int)<=1000;omega⟩
  . show ((val ((dec m).take (bs (dec m)).size):Nat):Int)=m
    rw[hsz,List.take_length,val_dec]
  . exact kdigits_any m W (om) (om)
end Go.Proofs.YtjnhhnbgjjkkjaaGreatDoor
