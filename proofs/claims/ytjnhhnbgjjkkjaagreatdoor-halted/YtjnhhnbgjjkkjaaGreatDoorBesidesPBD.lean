/-
  BkRn
-/
import Derived.Laws.IdiomStrings
import Derived.Test.YtjnhhnbgjjkkjaaGreatDoorBesidesPAA
import Derived.Test.YtjnhhnbgjjkkjaaGreatDoorBesidesPBC
import Derived.Test.YtjnhhnbgjjkkjaaGreatDoorBesidesPAN
namespace Go.Proofs.YtjnhhnbgjjkkjaaGreatDoor
open Go.ChangeShapes Go.WideShapes Go.ChangeAt Go.RowKit
set_option linter.unusedVariables false
set_option linter.unusedSimpArgs false
theorem bytes_of (s:ByteArray) (w:World):∃ cap W,(convert 9 106 (.string s)).run Tryz.prog w=.ok (.slice (some ⟨w.heap.size,0,none⟩) s.size cap) W/\Below w.heap.size w W/\w.heap.size<W.heap.size/\∀ j (hj:j<s.data.size),W.cell? ⟨w.heap.size,j,none⟩=some (.int .u8 (s.data[j].toNat:Int)):=by
  refine⟨_,_,run_bytes_of_string w 9 106 5 s Tryz.underlying9 Tryz.underlying106 Tryz.underlying5,upB,by simp,fun j hj=>?_⟩
  have hsz:w.drew.heap.size=w.heap.size:=by simp
  simp only[World.alloc,World.cell?]
  rw[show (w.heap.size)=w.drew.heap.size from hsz.symm,Array.getElem?_push_size];exact bytesRow_at s _ j hj
def okc (c:Int):Prop:=(97<=c/\c<=122)\/(48<=c/\c<=57)
def allk (s:ByteArray) (k:Nat):Prop:=∀ j (hj:j<s.data.size),j<k->okc (s.data[j].toNat:Int)
theorem isName_iff (s:ByteArray):isName s.data.toList=true ↔ ¬s.size=0/\s.size<=8/\allk s s.size:=by
  have hz:s.data.toList.length=s.size:=Array.length_toList
  unfold isName;simp only[Bool.and_eq_true,decide_eq_true_eq,List.all_eq_true,Bool.or_eq_true,hz]
  constructor
  . rintro⟨⟨h1,h2⟩,h3⟩
    refine⟨by omega,h2,fun j hj _=>?_⟩
    have:=h3 s.data[j] (by simp)
    unfold okc;omega
  . rintro⟨h1,h2,h3⟩
    refine⟨⟨by omega,h2⟩,fun c hc=>?_⟩
    obtain⟨j,hj,rfl⟩:=List.mem_iff_getElem.1 hc;have hj2:j<s.data.size:=by rw[Array.length_toList] at hj;exact hj
    have:=h3 j hj2 hj2
    unfold okc at this;simp only[Array.getElem_toList] at this ⊢
    omega
theorem allk_next {s:ByteArray} {k:Nat} (hk:k<s.data.size) (h:allk s k) (hc:okc (s.data[k].toNat:Int)):allk s (k+1):=fun j hj hlt=>by
  rcases Nat.lt_or_ge j k with q|q
  . exact h j hj q
  . obtain rfl:j=k:=by omega
    exact hc
theorem name_off {s:ByteArray} {k:Nat} (hk:k<s.data.size) (hc:¬okc (s.data[k].toNat:Int)):isName s.data.toList=false:=by
  rcases e:isName s.data.toList with _|_
  . rfl
  . exact absurd (((isName_iff s).1 e).2.2 k hk hk) hc
set_option maxRecDepth 100000 in
set_option maxHeartbeats 2000000 in
theorem readName_out (s:ByteArray) (w:World) (h:s.size=0\/8<s.size) :
    Calls Tryz.prog 142 #[.string s] w fun e w'=>e=.returned (.tuple #[.string ⟨#[]⟩,.bool false])/\Below w.heap.size w w':=by
  rcases h with h|h
  . have h2:((s.size:Int)==0)=true:=by rw[h];rfl
    go_enter Tryz.func142,Tryz.ntmps142
    go_wp2;go_ret2
    exact⟨rfl,Below.refl _ _⟩
  . have h2:((s.size:Int)==0)=false:=beq_eq_false_iff_ne.2 om
    have h3:(8:Int)<(s.size:Int):=by omega
    go_enter Tryz.func142,Tryz.ntmps142
    go_wp2;go_ret2
    exact⟨rfl,Below.refl _ _⟩
set_option maxRecDepth 100000 in
set_option maxHeartbeats 2000000 in
theorem readName_go (s:ByteArray) (w:World) (r:ByteArray) (f:Bool) (h0:¬s.size=0) (h1:s.size<=8) (HR:Hid ((r=if isName s.data.toList then s else ⟨#[]⟩)/\f=isName s.data.toList)) :
    Calls Tryz.prog 142 #[.string s] w fun e w'=>e=.returned (.tuple #[.string r,.bool f])/\Below w.heap.size w w':=by
  obtain⟨cap,W,hcv,hbW,hW,hcell⟩:=bytes_of s w;have hz0:((s.size:Int)==0)=false:=beq_eq_false_iff_ne.2 om
  have hz1:¬(8:Int)<(s.size:Int):=by omega
  have HC:Hid (∀ j (hj:j<s.data.size),W.cell? ⟨w.heap.size,j,none⟩=some (.int .u8 (s.data[j].toNat:Int))):=hcell
  have HBW:Hid (Below w.heap.size w W):=hbW
  have HCL:Hid (∀ w,Calls Tryz.prog 98 #[.string s] w fun e w'=>e=.returned (.string s)/\Below w.heap.size w w'):=fun w=>sclone_any s w om
  clear hcell hbW;go_enter Tryz.func142,Tryz.ntmps142
  go_wp2;go_loopw [17] (fun i wr=>∃ k:Nat,k<=s.size/\i=.int .i64 k/\Hid (allk s k)/\Below W.heap.size W wr) (fun i _=>(s.size-intOf i).toNat)
  case atStart=>exact⟨0,by omega,rfl,fun j _ hj=>absurd hj (Nat.not_lt_zero j),Below.refl _ _⟩
  case round =>
    obtain⟨k,hk8,rfl,H,hb⟩:=hrel;by_cases hlt:k<s.size
    . have hkd:k<s.data.size:=hlt
      obtain⟨c,hce⟩:∃ c:Int,c=(s.data[k].toNat:Int):=⟨_,rfl⟩
      have hload:wr.cell? ⟨w.heap.size,k,none⟩=some (.int .u8 c):=by rw[hce];exact(hb.cell (p:=⟨w.heap.size,k,none⟩) hW).trans (HC.out k hkd)
      have hlt2:(k:Int)<(s.size:Int):=by omega
      have HN:Hid (okc c->allk s (k+1)):=fun q=>allk_next hkd H.out (by rw[<- hce];exact q)
      have HF:Hid (¬okc c->isName s.data.toList=false):=fun q=>name_off hkd (by rw[<- hce];exact q)
      clear hce;by_cases q1:c<97
      . by_cases q2:c<48
        . go_wp2;go_ret2
          exact⟨by rw[HR.out.1,HR.out.2,HF.out (by unfold okc;omega)];rfl,HBW.out.trans (hb.mono om)⟩
        . by_cases q3:(57:Int)<c
          . go_wp2;go_ret2
            exact⟨by rw[HR.out.1,HR.out.2,HF.out (by unfold okc;omega)];rfl,HBW.out.trans (hb.mono om)⟩
          . go_wp2;go_roundw
            case rel=>exact⟨k+1,by omega,by simp,HN.out (by unfold okc;omega),hb⟩
            case measure=>simp[intOf];omega
      . by_cases q2:(122:Int)<c
        . have q3:¬c<48:=by omega
          have q4:(57:Int)<c:=by omega
          go_wp2;go_ret2
          exact⟨by rw[HR.out.1,HR.out.2,HF.out (by unfold okc;omega)];rfl,HBW.out.trans (hb.mono om)⟩
        . go_wp2;go_roundw
          case rel=>exact⟨k+1,by omega,by simp,HN.out (by unfold okc;omega),hb⟩
          case measure=>simp[intOf];omega
    . obtain rfl:k=s.size:=by omega
      have hN:Hid (isName s.data.toList=true):=(isName_iff s).2 ⟨h0,h1,H.out⟩
      have hlt2:¬(s.size:Int)<(s.size:Int):=by omega
      go_wp2_with (go_at_call 98;refine(HCL.out _).mono ?_;rintro e w1 ⟨rfl,hb1⟩)
      go_ret2
      exact⟨by rw[HR.out.1,HR.out.2,hN.out];rfl,(HBW.out.trans (hb.mono om)).trans (hb1.mono (by have:=hb.size;omega))⟩
def nmB (s:ByteArray):ByteArray:=if isName s.data.toList then s else ⟨#[]⟩
theorem readName_any (s:ByteArray) (w:World) :
    Calls Tryz.prog 142 #[.string s] w fun e w'=>e=.returned (.tuple #[.string (nmB s),.bool (isName s.data.toList)])/\Below w.heap.size w w':=by
  by_cases h:s.size=0\/8<s.size
  . have hn:isName s.data.toList=false:=by
      rcases e:isName s.data.toList with _|_
      . rfl
      . have:=(isName_iff s).1 e;omega
    unfold nmB;rw[hn];exact readName_out s w h
  . exact readName_go s w _ _ om om ⟨rfl,rfl⟩
end Go.Proofs.YtjnhhnbgjjkkjaaGreatDoor
