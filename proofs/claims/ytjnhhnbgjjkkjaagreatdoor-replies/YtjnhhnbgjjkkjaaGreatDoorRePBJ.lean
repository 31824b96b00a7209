import Derived.Test.YtjnhhnbgjjkkjaaGreatDoorRePBI
import Derived.Test.YtjnhhnbgjjkkjaaGreatDoorRePAI
set_option linter.all false
set_option maxRecDepth 100000
set_option maxHeartbeats 2000000
namespace Go.Proofs.YtjnhhnbgjjkkjaaGreatDoor
open Go.ChangeShapes Go.WideShapes Go.ChangeAt Go.RowKit Go.Proofs.Tryz
theorem yw(s:Bz)(w:World):∃ cap W,(convert 9 106 (.string s)).run prog w=.ok (.slice (some (Nw w 0)) s.size cap) W/\Bl w W/\w.heap.size<W.heap.size/\∀ j (hj:j<s.data.size),W.cell? (Nw w j)=some (.int .u8 (s.data[j].toNat:Int)):=by
 refine⟨_,_,run_bytes_of_string w 9 106 5 s underlying9 underlying106 underlying5,upB,by simp,fun j hj=>?_⟩
 have hsz:w.drew.heap.size=w.heap.size:=by simp
 simp only[World.alloc,World.cell?]
 rw[show (w.heap.size)=w.drew.heap.size from hsz.symm,Array.getElem?_push_size];exact bytesRow_at s _ j hj
def okc(c:Int):Prop:=(97<=c/\c<=122)\/(48<=c/\c<=57)
def x5(s:Bz)(k:Nat):Prop:=∀ j (hj:j<s.data.size),j<k->okc (s.data[j].toNat:Int)
theorem iH(s:Bz):ag s.data.toList=true ↔ ¬s.size=0/\s.size<=8/\x5 s s.size:=by
 have hz:s.data.toList.length=s.size:=Array.length_toList
 unfold ag;simp only[Bool.and_eq_true,decide_eq_true_eq,List.all_eq_true,Bool.or_eq_true,hz]
 constructor
 ·rintro⟨⟨h1,h2⟩,h3⟩
  refine⟨by omega,h2,fun j hj _=>?_⟩
  have:=h3 s.data[j] sM
  unfold okc;omega
 ·rintro⟨h1,h2,h3⟩
  refine⟨⟨by omega,h2⟩,fun c hc=>?_⟩
  obtain⟨j,hj,rfl⟩:=List.mem_iff_getElem.1 hc;have hj2:j<s.data.size:=by rw[Array.length_toList] at hj;exact hj
  have:=h3 j hj2 hj2
  unfold okc at this;simp only[Array.getElem_toList] at this ⊢
  omega
theorem vg{s:Bz}{k:Nat}(hk:k<s.data.size)(h:x5 s k)(hc:okc (s.data[k].toNat:Int)):x5 s (k+1):=fun j hj hlt=>by
 rcases Nat.lt_or_ge j k with q|q
 ·exact h j hj q
 ·obtain rfl:j=k:=by omega
  exact hc
theorem z8{s:Bz}{k:Nat}(hk:k<s.data.size)(hc:¬okc (s.data[k].toNat:Int)):ag s.data.toList=false:=by
 rcases e:ag s.data.toList with _|_
 ·rfl
 ·exact absurd (((iH s).1 e).2.2 k hk hk) hc
theorem oC(s:Bz)(w:World)(h:s.size=0\/8<s.size):Cr prog 142 #[.string s] w (.tuple #[.string ⟨#[]⟩,.bool false]):=by
 rcases h with h|h
 ·have h2:((s.size:Int)==0)=true:=by rw[h];rfl
  go_enter func142,ntmps142
  go_wp2;go_ret2
  exact⟨rfl,Below.refl _ _⟩
 ·have h2:((s.size:Int)==0)=false:=beq_eq_false_iff_ne.2 om
  have h3:(8:Int)<(s.size:Int):=by omega
  go_enter func142,ntmps142
  go_wp2;go_ret2
  exact⟨rfl,Below.refl _ _⟩
theorem qN(s:Bz)(w:World)(r:Bz)(f:Bool)(h0:¬s.size=0)(h1:s.size<=8)(HR:Hid ((r=if ag s.data.toList then s else ⟨#[]⟩)/\f=ag s.data.toList)):Cr prog 142 #[.string s] w (.tuple #[.string r,.bool f]):=by
 obtain⟨cap,W,hcv,hbW,hW,hcell⟩:=yw s w;have hz0:((s.size:Int)==0)=false:=beq_eq_false_iff_ne.2 om
 have hz1:¬(8:Int)<(s.size:Int):=by omega
 have HC:Hid (∀ j (hj:j<s.data.size),W.cell? (Nw w j)=some (.int .u8 (s.data[j].toNat:Int))):=hcell
 have HBW:Hid (Bl w W):=hbW
 have HCL:Hid (∀ w,Cr prog 98 #[.string s] w (.string s)):=fun w=>iO s w om
 clear hcell hbW;go_enter func142,ntmps142
 go_wp2;go_loopw [17] (fun i wr=>∃ k:Nat,k<=s.size/\i=I6 k/\Hid (x5 s k)/\Bl W wr) (fun i _=>(s.size-intOf i).toNat)
 case atStart=>exact⟨0,by omega,rfl,fun j _ hj=>absurd hj (Nat.not_lt_zero j),Below.refl _ _⟩
 case round =>
  obtain⟨k,hk8,rfl,H,hb⟩:=hrel;by_cases hlt:k<s.size
  ·have hkd:k<s.data.size:=hlt
   obtain⟨c,hce⟩:∃ c:Int,c=(s.data[k].toNat:Int):=⟨_,rfl⟩
   have hload:wr.cell? (Nw w k)=some (.int .u8 c):=by rw[hce];exact(hb.cell (p:=Nw w k) hW).trans (HC.o k hkd)
   have hlt2:(k:Int)<(s.size:Int):=by omega
   have HN:Hid (okc c->x5 s (k+1)):=fun q=>vg hkd H.o (by rw[<- hce];exact q)
   have HF:Hid (¬okc c->ag s.data.toList=false):=fun q=>z8 hkd (by rw[<- hce];exact q)
   clear hce;by_cases q1:c<97
   ·by_cases q2:c<48
    ·go_wp2;go_ret2
     exact⟨by rw[HR.o.1,HR.o.2,HF.o (by unfold okc;omega)];rfl,HBW.o.trans (hb.mono om)⟩
    ·by_cases q3:(57:Int)<c
     ·go_wp2;go_ret2
      exact⟨by rw[HR.o.1,HR.o.2,HF.o (by unfold okc;omega)];rfl,HBW.o.trans (hb.mono om)⟩
     ·go_wp2;go_roundw
      case rel=>exact⟨k+1,by omega,by simp,HN.o (by unfold okc;omega),hb⟩
      case measure=>simp[intOf];omega
   ·by_cases q2:(122:Int)<c
    ·have q3:¬c<48:=by omega
     have q4:(57:Int)<c:=by omega
     go_wp2;go_ret2
     exact⟨by rw[HR.o.1,HR.o.2,HF.o (by unfold okc;omega)];rfl,HBW.o.trans (hb.mono om)⟩
    ·go_wp2;go_roundw
     case rel=>exact⟨k+1,by omega,by simp,HN.o (by unfold okc;omega),hb⟩
     case measure=>simp[intOf];omega
  ·obtain rfl:k=s.size:=by omega
   have hN:Hid (ag s.data.toList=true):=(iH s).2 ⟨h0,h1,H.o⟩
   have hlt2:¬(s.size:Int)<(s.size:Int):=by omega
   go_wp2_with (go_at_call 98;refine(HCL.o _).mono ?_;rintro e w1 ⟨rfl,hb1⟩)
   go_ret2
   exact⟨by rw[HR.o.1,HR.o.2,hN.o];rfl,(HBW.o.trans (hb.mono om)).trans (hb1.mono (by have:=hb.size;omega))⟩
def nmB(s:Bz):Bz:=if ag s.data.toList then s else ⟨#[]⟩
theorem ju(s:Bz)(w:World):Cr prog 142 #[.string s] w (.tuple #[.string (nmB s),.bool (ag s.data.toList)]):=by
 by_cases h:s.size=0\/8<s.size
 ·have hn:ag s.data.toList=false:=by
   rcases e:ag s.data.toList with _|_
   ·rfl
   ·have:=(iH s).1 e;omega
  unfold nmB;rw[hn];exact oC s w h
 ·exact qN s w _ _ om om ⟨rfl,rfl⟩
end Go.Proofs.YtjnhhnbgjjkkjaaGreatDoor
