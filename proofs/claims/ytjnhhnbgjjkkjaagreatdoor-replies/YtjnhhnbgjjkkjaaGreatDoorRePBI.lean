import Derived.Lib.SlicesS
import Derived.Test.YtjnhhnbgjjkkjaaGreatDoorRePBE
set_option linter.all false
set_option maxRecDepth 100000
set_option maxHeartbeats 2000000
namespace Go.Proofs.YtjnhhnbgjjkkjaaGreatDoor
open Go.ChangeShapes Go.WideShapes Go.ChangeAt Go.RowKit Go.Proofs.Tryz
def vbB(k:Nat):Bz:=⟨(aX.getD k []).toArray⟩
theorem dQ{s:Bz}(k:Nat)(hk:k<11)(h:∀ j,j<k->vbB j≠s)(hn:vbB k≠s):∀ j,j<k+1->vbB j≠s:=fun j hj=>by
 rcases Nat.lt_or_ge j k with q|q
 ·exact h j q
 ·obtain rfl:j=k:=by omega
  exact hn
theorem DM{s:Bz}{j:Nat}(h:vbB j≠s):((aX.getD j [])==s.data.toList)=false:=by
 simp only[beq_eq_false_iff_ne,ne_eq]
 intro e;apply h
 unfold vbB;rw[e]
theorem e8{s:Bz}(k:Nat)(hk:k<11)(h:∀ j,j<k->vbB j≠s)(hn:vbB k=s):fi (fun v=>v==s.data.toList) aX=k :=
 ir _ aX [] k hk (fun j hj=>DM (h j hj)) (by rw[<- hn];simp[vbB])
theorem Dq{s:Bz}(h:∀ j,j<11->vbB j≠s):fi (fun v=>v==s.data.toList) aX=-1:=by
 rcases aU (fun v=>v==s.data.toList) aX [] with⟨e,_⟩|⟨k,hk,e,hp,_⟩
 ·exact e
 ·have:=DM (h k hk)
  rw[this] at hp;cases hp
theorem pA(w:World):(Instr.index 135 (.agg cu.toList.toArray) (I6 0)).run prog w=.ok (.agg #[.string ⟨#[80,79,79,76]⟩,I6 1,I6 2,I6 3,I6 0]) w:=by kernel_rfl
theorem pB(w:World):(Instr.index 135 (.agg cu.toList.toArray) (I6 1)).run prog w=.ok (.agg #[.string ⟨#[68,82,79,80]⟩,I6 1,I6 2,I6 3,I6 0]) w:=by kernel_rfl
theorem pC(w:World):(Instr.index 135 (.agg cu.toList.toArray) (I6 2)).run prog w=.ok (.agg #[.string ⟨#[78,69,84]⟩,I6 1,I6 2,I6 3,I6 5]) w:=by kernel_rfl
theorem pD(w:World):(Instr.index 135 (.agg cu.toList.toArray) (I6 3)).run prog w=.ok (.agg #[.string ⟨#[66,76,79,67,75]⟩,I6 1,I6 2,I6 3,I6 0]) w:=by kernel_rfl
theorem pE(w:World):(Instr.index 135 (.agg cu.toList.toArray) (I6 4)).run prog w=.ok (.agg #[.string ⟨#[70,82,69,69]⟩,I6 1,I6 2,I6 3,I6 0]) w:=by kernel_rfl
theorem pF(w:World):(Instr.index 135 (.agg cu.toList.toArray) (I6 5)).run prog w=.ok (.agg #[.string ⟨#[76,69,65,83,69]⟩,I6 1,I6 2,I6 3,I6 0]) w:=by kernel_rfl
theorem pG(w:World):(Instr.index 135 (.agg cu.toList.toArray) (I6 6)).run prog w=.ok (.agg #[.string ⟨#[84,65,75,69]⟩,I6 1,I6 2,I6 4,I6 0]) w:=by kernel_rfl
theorem pH(w:World):(Instr.index 135 (.agg cu.toList.toArray) (I6 7)).run prog w=.ok (.agg #[.string ⟨#[71,73,86,69]⟩,I6 1,I6 2,I6 4,I6 0]) w:=by kernel_rfl
theorem pI(w:World):(Instr.index 135 (.agg cu.toList.toArray) (I6 8)).run prog w=.ok (.agg #[.string ⟨#[80,79,79,76,83]⟩,I6 0,I6 0,I6 0,I6 0]) w:=by kernel_rfl
theorem pJ(w:World):(Instr.index 135 (.agg cu.toList.toArray) (I6 9)).run prog w=.ok (.agg #[.string ⟨#[78,69,84,83]⟩,I6 3,I6 0,I6 0,I6 0]) w:=by kernel_rfl
theorem mG(w:World):(Instr.index 135 (.agg cu.toList.toArray) (I6 10)).run prog w=.ok (.agg #[.string ⟨#[85,83,69,68]⟩,I6 3,I6 0,I6 0,I6 0]) w:=by kernel_rfl
theorem qv(s:Bz)(w:World)(E:Hid (df w))(kv:Int)(fv:Bool)(HK:Hid (kv=(if fi (fun v=>v==s.data.toList) aX<0 then 0 else fi (fun v=>v==s.data.toList) aX)/\fv=!decide (fi (fun v=>v==s.data.toList) aX<0))):Cr prog 59 #[.string s] w (.tuple #[I6 kv,.bool fv]):=by
 go_enter func59,ntmps59
 go_wp2_with (refine wpList_load_mid rfl 135 _ rfl 0 0 rfl cu.toList _ (fun j v hv=>by rw[Nat.zero_add];exact E.o.fm j v (by simpa using hv)) underlying135 rfl (by kernel_rfl) ?_)
 go_loopw [7] (fun i wr=>∃ k:Nat,k<=11/\i=I6 k/\Hid (∀ j,j<k->vbB j≠s)/\Bl w wr) (fun i _=>(11-intOf i).toNat)
 case atStart=>exact⟨0,by omega,rfl,fun j hj=>absurd hj (Nat.not_lt_zero j),Below.refl _ _⟩
 case round =>
  obtain⟨k,hk11,rfl,H,hb⟩:=hrel;have hc:k=0\/k=1\/k=2\/k=3\/k=4\/k=5\/k=6\/k=7\/k=8\/k=9\/k=10\/k=11:=by omega
  have hz:=hb.size;rcases hc with rfl|rfl|rfl|rfl|rfl|rfl|rfl|rfl|rfl|rfl|rfl|rfl
  ·by_cases hk:(⟨#[80,79,79,76]⟩:Bz)=s
   ·have hq:=(Lib.bytes_beq_iff _ _).2 hk
    rw[show (⟨#[80,79,79,76]⟩:Bz).toList=[80,79,79,76] by decide +kernel] at hq
    have hix:=pA;have hfi:fi (fun v=>v==s.data.toList) aX=0:=e8 0 dE H.o hk
    have HF:Hid _:=hfi
    clear hfi hk;go_wp2;go_ret2
    exact⟨by rw[HK.o.1,HK.o.2,HF.o];rfl,upB⟩
   ·have hq:=(Lib.bytes_beq_false_iff _ _).2 hk
    rw[show (⟨#[80,79,79,76]⟩:Bz).toList=[80,79,79,76] by decide +kernel] at hq
    have hix:=pA;have HN:Hid _:=dQ 0 dE H.o hk
    clear hk;go_wp2;go_roundw
    case rel=>exact⟨1,by omega,rfl,HN.o,upB⟩
    case measure=>simp[intOf]
  ·by_cases hk:(⟨#[68,82,79,80]⟩:Bz)=s
   ·have hq:=(Lib.bytes_beq_iff _ _).2 hk
    rw[show (⟨#[68,82,79,80]⟩:Bz).toList=[68,82,79,80] by decide +kernel] at hq
    have hix:=pB;have hfi:fi (fun v=>v==s.data.toList) aX=1:=e8 1 dE H.o hk
    have HF:Hid _:=hfi
    clear hfi hk;go_wp2;go_ret2
    exact⟨by rw[HK.o.1,HK.o.2,HF.o];rfl,upB⟩
   ·have hq:=(Lib.bytes_beq_false_iff _ _).2 hk
    rw[show (⟨#[68,82,79,80]⟩:Bz).toList=[68,82,79,80] by decide +kernel] at hq
    have hix:=pB;have HN:Hid _:=dQ 1 dE H.o hk
    clear hk;go_wp2;go_roundw
    case rel=>exact⟨2,by omega,rfl,HN.o,upB⟩
    case measure=>simp[intOf]
  ·by_cases hk:(⟨#[78,69,84]⟩:Bz)=s
   ·have hq:=(Lib.bytes_beq_iff _ _).2 hk
    rw[show (⟨#[78,69,84]⟩:Bz).toList=[78,69,84] by decide +kernel] at hq
    have hix:=pC;have hfi:fi (fun v=>v==s.data.toList) aX=2:=e8 2 dE H.o hk
    have HF:Hid _:=hfi
    clear hfi hk;go_wp2;go_ret2
    exact⟨by rw[HK.o.1,HK.o.2,HF.o];rfl,upB⟩
   ·have hq:=(Lib.bytes_beq_false_iff _ _).2 hk
    rw[show (⟨#[78,69,84]⟩:Bz).toList=[78,69,84] by decide +kernel] at hq
    have hix:=pC;have HN:Hid _:=dQ 2 dE H.o hk
    clear hk;go_wp2;go_roundw
    case rel=>exact⟨3,by omega,rfl,HN.o,upB⟩
    case measure=>simp[intOf]
  ·by_cases hk:(⟨#[66,76,79,67,75]⟩:Bz)=s
   ·have hq:=(Lib.bytes_beq_iff _ _).2 hk
    rw[show (⟨#[66,76,79,67,75]⟩:Bz).toList=[66,76,79,67,75] by decide +kernel] at hq
    have hix:=pD;have hfi:fi (fun v=>v==s.data.toList) aX=3:=e8 3 dE H.o hk
    have HF:Hid _:=hfi
    clear hfi hk;go_wp2;go_ret2
    exact⟨by rw[HK.o.1,HK.o.2,HF.o];rfl,upB⟩
   ·have hq:=(Lib.bytes_beq_false_iff _ _).2 hk
    rw[show (⟨#[66,76,79,67,75]⟩:Bz).toList=[66,76,79,67,75] by decide +kernel] at hq
    have hix:=pD;have HN:Hid _:=dQ 3 dE H.o hk
    clear hk;go_wp2;go_roundw
    case rel=>exact⟨4,by omega,rfl,HN.o,upB⟩
    case measure=>simp[intOf]
  ·by_cases hk:(⟨#[70,82,69,69]⟩:Bz)=s
   ·have hq:=(Lib.bytes_beq_iff _ _).2 hk
    rw[show (⟨#[70,82,69,69]⟩:Bz).toList=[70,82,69,69] by decide +kernel] at hq
    have hix:=pE;have hfi:fi (fun v=>v==s.data.toList) aX=4:=e8 4 dE H.o hk
    have HF:Hid _:=hfi
    clear hfi hk;go_wp2;go_ret2
    exact⟨by rw[HK.o.1,HK.o.2,HF.o];rfl,upB⟩
   ·have hq:=(Lib.bytes_beq_false_iff _ _).2 hk
    rw[show (⟨#[70,82,69,69]⟩:Bz).toList=[70,82,69,69] by decide +kernel] at hq
    have hix:=pE;have HN:Hid _:=dQ 4 dE H.o hk
    clear hk;go_wp2;go_roundw
    case rel=>exact⟨5,by omega,rfl,HN.o,upB⟩
    case measure=>simp[intOf]
  ·by_cases hk:(⟨#[76,69,65,83,69]⟩:Bz)=s
   ·have hq:=(Lib.bytes_beq_iff _ _).2 hk
    rw[show (⟨#[76,69,65,83,69]⟩:Bz).toList=[76,69,65,83,69] by decide +kernel] at hq
    have hix:=pF;have hfi:fi (fun v=>v==s.data.toList) aX=5:=e8 5 dE H.o hk
    have HF:Hid _:=hfi
    clear hfi hk;go_wp2;go_ret2
    exact⟨by rw[HK.o.1,HK.o.2,HF.o];rfl,upB⟩
   ·have hq:=(Lib.bytes_beq_false_iff _ _).2 hk
    rw[show (⟨#[76,69,65,83,69]⟩:Bz).toList=[76,69,65,83,69] by decide +kernel] at hq
    have hix:=pF;have HN:Hid _:=dQ 5 dE H.o hk
    clear hk;go_wp2;go_roundw
    case rel=>exact⟨6,by omega,rfl,HN.o,upB⟩
    case measure=>simp[intOf]
  ·by_cases hk:(⟨#[84,65,75,69]⟩:Bz)=s
   ·have hq:=(Lib.bytes_beq_iff _ _).2 hk
    rw[show (⟨#[84,65,75,69]⟩:Bz).toList=[84,65,75,69] by decide +kernel] at hq
    have hix:=pG;have hfi:fi (fun v=>v==s.data.toList) aX=6:=e8 6 dE H.o hk
    have HF:Hid _:=hfi
    clear hfi hk;go_wp2;go_ret2
    exact⟨by rw[HK.o.1,HK.o.2,HF.o];rfl,upB⟩
   ·have hq:=(Lib.bytes_beq_false_iff _ _).2 hk
    rw[show (⟨#[84,65,75,69]⟩:Bz).toList=[84,65,75,69] by decide +kernel] at hq
    have hix:=pG;have HN:Hid _:=dQ 6 dE H.o hk
    clear hk;go_wp2;go_roundw
    case rel=>exact⟨7,by omega,rfl,HN.o,upB⟩
    case measure=>simp[intOf]
  ·by_cases hk:(⟨#[71,73,86,69]⟩:Bz)=s
   ·have hq:=(Lib.bytes_beq_iff _ _).2 hk
    rw[show (⟨#[71,73,86,69]⟩:Bz).toList=[71,73,86,69] by decide +kernel] at hq
    have hix:=pH;have hfi:fi (fun v=>v==s.data.toList) aX=7:=e8 7 dE H.o hk
    have HF:Hid _:=hfi
    clear hfi hk;go_wp2;go_ret2
    exact⟨by rw[HK.o.1,HK.o.2,HF.o];rfl,upB⟩
   ·have hq:=(Lib.bytes_beq_false_iff _ _).2 hk
    rw[show (⟨#[71,73,86,69]⟩:Bz).toList=[71,73,86,69] by decide +kernel] at hq
    have hix:=pH;have HN:Hid _:=dQ 7 dE H.o hk
    clear hk;go_wp2;go_roundw
    case rel=>exact⟨8,by omega,rfl,HN.o,upB⟩
    case measure=>simp[intOf]
  ·by_cases hk:(⟨#[80,79,79,76,83]⟩:Bz)=s
   ·have hq:=(Lib.bytes_beq_iff _ _).2 hk
    rw[show (⟨#[80,79,79,76,83]⟩:Bz).toList=[80,79,79,76,83] by decide +kernel] at hq
    have hix:=pI;have hfi:fi (fun v=>v==s.data.toList) aX=8:=e8 8 dE H.o hk
    have HF:Hid _:=hfi
    clear hfi hk;go_wp2;go_ret2
    exact⟨by rw[HK.o.1,HK.o.2,HF.o];rfl,upB⟩
   ·have hq:=(Lib.bytes_beq_false_iff _ _).2 hk
    rw[show (⟨#[80,79,79,76,83]⟩:Bz).toList=[80,79,79,76,83] by decide +kernel] at hq
    have hix:=pI;have HN:Hid _:=dQ 8 dE H.o hk
    clear hk;go_wp2;go_roundw
    case rel=>exact⟨9,by omega,rfl,HN.o,upB⟩
    case measure=>simp[intOf]
  ·by_cases hk:(⟨#[78,69,84,83]⟩:Bz)=s
   ·have hq:=(Lib.bytes_beq_iff _ _).2 hk
    rw[show (⟨#[78,69,84,83]⟩:Bz).toList=[78,69,84,83] by decide +kernel] at hq
    have hix:=pJ;have hfi:fi (fun v=>v==s.data.toList) aX=9:=e8 9 dE H.o hk
    have HF:Hid _:=hfi
    clear hfi hk;go_wp2;go_ret2
    exact⟨by rw[HK.o.1,HK.o.2,HF.o];rfl,upB⟩
   ·have hq:=(Lib.bytes_beq_false_iff _ _).2 hk
    rw[show (⟨#[78,69,84,83]⟩:Bz).toList=[78,69,84,83] by decide +kernel] at hq
    have hix:=pJ;have HN:Hid _:=dQ 9 dE H.o hk
    clear hk;go_wp2;go_roundw
    case rel=>exact⟨10,by omega,rfl,HN.o,upB⟩
    case measure=>simp[intOf]
  ·by_cases hk:(⟨#[85,83,69,68]⟩:Bz)=s
   ·have hq:=(Lib.bytes_beq_iff _ _).2 hk
    rw[show (⟨#[85,83,69,68]⟩:Bz).toList=[85,83,69,68] by decide +kernel] at hq
    have hix:=mG;have hfi:fi (fun v=>v==s.data.toList) aX=10:=e8 10 dE H.o hk
    have HF:Hid _:=hfi
    clear hfi hk;go_wp2;go_ret2
    exact⟨by rw[HK.o.1,HK.o.2,HF.o];rfl,upB⟩
   ·have hq:=(Lib.bytes_beq_false_iff _ _).2 hk
    rw[show (⟨#[85,83,69,68]⟩:Bz).toList=[85,83,69,68] by decide +kernel] at hq
    have hix:=mG;have HN:Hid _:=dQ 10 dE H.o hk
    clear hk;go_wp2;go_roundw
    case rel=>exact⟨11,by omega,rfl,HN.o,upB⟩
    case measure=>simp[intOf]
  ·have hfi:=Dq H.o;have HF:Hid _:=hfi
   clear hfi;go_wp2;go_ret2
   exact⟨by rw[HK.o.1,HK.o.2,HF.o];rfl,hb⟩
theorem oe(s:Bz)(w:World)(E:df w):Cr prog 59 #[.string s] w (.tuple #[I6 (if fi (fun v=>v==s.data.toList) aX<0 then 0 else fi (fun v=>v==s.data.toList) aX),.bool (!decide (fi (fun v=>v==s.data.toList) aX<0))]):=qv s w E _ _ ⟨rfl,rfl⟩
end Go.Proofs.YtjnhhnbgjjkkjaaGreatDoor
