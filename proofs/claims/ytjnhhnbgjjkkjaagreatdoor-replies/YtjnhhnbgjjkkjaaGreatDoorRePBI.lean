import Derived.Lib.SlicesS
import Derived.Test.YtjnhhnbgjjkkjaaGreatDoorRePBE
set_option linter.all false
set_option maxRecDepth 100000
set_option maxHeartbeats 2000000
namespace Go.Proofs.YtjnhhnbgjjkkjaaGreatDoor
open Go.ChangeShapes Go.WideShapes Go.ChangeAt Go.RowKit Go.Proofs.Tryz
def vbB(k:Nat):Bz:=⟨(aY.getD k []).toArray⟩
theorem dV{s:Bz}(k:Nat)(hk:k<11)(h:∀ j,j<k->vbB j≠s)(hn:vbB k≠s):∀ j,j<k+1->vbB j≠s:=fun j hj=>by
 rcases Nat.lt_or_ge j k with q|q
 ·exact h j q
 ·obtain rfl:j=k:=by omega
  exact hn
theorem Ef{s:Bz}{j:Nat}(h:vbB j≠s):((aY.getD j [])==s.data.toList)=false:=by
 simp only[beq_eq_false_iff_ne,ne_eq]
 intro e;apply h
 unfold vbB;rw[e]
theorem fh{s:Bz}(k:Nat)(hk:k<11)(h:∀ j,j<k->vbB j≠s)(hn:vbB k=s):fi (fun v=>v==s.data.toList) aY=k :=
 iD _ aY [] k hk (fun j hj=>Ef (h j hj)) (by rw[<- hn];simp[vbB])
theorem DR{s:Bz}(h:∀ j,j<11->vbB j≠s):fi (fun v=>v==s.data.toList) aY=-1:=by
 rcases aV (fun v=>v==s.data.toList) aY [] with⟨e,_⟩|⟨k,hk,e,hp,_⟩
 ·exact e
 ·have:=Ef (h k hk)
  rw[this] at hp;cases hp
theorem pR(w:World):(Instr.index 135 (.agg cB.toList.toArray) (I6 0)).run prog w=.ok (.agg #[.string ⟨#[80,79,79,76]⟩,I6 1,I6 2,I6 3,I6 0]) w:=by kernel_rfl
theorem pS(w:World):(Instr.index 135 (.agg cB.toList.toArray) (I6 1)).run prog w=.ok (.agg #[.string ⟨#[68,82,79,80]⟩,I6 1,I6 2,I6 3,I6 0]) w:=by kernel_rfl
theorem pT(w:World):(Instr.index 135 (.agg cB.toList.toArray) (I6 2)).run prog w=.ok (.agg #[.string ⟨#[78,69,84]⟩,I6 1,I6 2,I6 3,I6 5]) w:=by kernel_rfl
theorem pU(w:World):(Instr.index 135 (.agg cB.toList.toArray) (I6 3)).run prog w=.ok (.agg #[.string ⟨#[66,76,79,67,75]⟩,I6 1,I6 2,I6 3,I6 0]) w:=by kernel_rfl
theorem pV(w:World):(Instr.index 135 (.agg cB.toList.toArray) (I6 4)).run prog w=.ok (.agg #[.string ⟨#[70,82,69,69]⟩,I6 1,I6 2,I6 3,I6 0]) w:=by kernel_rfl
theorem pW(w:World):(Instr.index 135 (.agg cB.toList.toArray) (I6 5)).run prog w=.ok (.agg #[.string ⟨#[76,69,65,83,69]⟩,I6 1,I6 2,I6 3,I6 0]) w:=by kernel_rfl
theorem pX(w:World):(Instr.index 135 (.agg cB.toList.toArray) (I6 6)).run prog w=.ok (.agg #[.string ⟨#[84,65,75,69]⟩,I6 1,I6 2,I6 4,I6 0]) w:=by kernel_rfl
theorem pY(w:World):(Instr.index 135 (.agg cB.toList.toArray) (I6 7)).run prog w=.ok (.agg #[.string ⟨#[71,73,86,69]⟩,I6 1,I6 2,I6 4,I6 0]) w:=by kernel_rfl
theorem pZ(w:World):(Instr.index 135 (.agg cB.toList.toArray) (I6 8)).run prog w=.ok (.agg #[.string ⟨#[80,79,79,76,83]⟩,I6 0,I6 0,I6 0,I6 0]) w:=by kernel_rfl
theorem p8(w:World):(Instr.index 135 (.agg cB.toList.toArray) (I6 9)).run prog w=.ok (.agg #[.string ⟨#[78,69,84,83]⟩,I6 3,I6 0,I6 0,I6 0]) w:=by kernel_rfl
theorem mV(w:World):(Instr.index 135 (.agg cB.toList.toArray) (I6 10)).run prog w=.ok (.agg #[.string ⟨#[85,83,69,68]⟩,I6 3,I6 0,I6 0,I6 0]) w:=by kernel_rfl
theorem qP(s:Bz)(w:World)(E:Hid (di w))(kv:Int)(fv:Bool)(HK:Hid (kv=(if fi (fun v=>v==s.data.toList) aY<0 then 0 else fi (fun v=>v==s.data.toList) aY)/\fv=!decide (fi (fun v=>v==s.data.toList) aY<0))):Cr prog 59 #[.string s] w (.tuple #[I6 kv,.bool fv]):=by
 go_enter func59,ntmps59
 go_wp2_with (refine wpList_load_mid rfl 135 _ rfl 0 0 rfl cB.toList _ (fun j v hv=>by rw[Nat.zero_add];exact E.o.fm j v (by simpa using hv)) underlying135 rfl (by kernel_rfl) ?_)
 go_loopw [7] (fun i wr=>∃ k:Nat,k<=11/\i=I6 k/\Hid (∀ j,j<k->vbB j≠s)/\Bl w wr) (fun i _=>(11-intOf i).toNat)
 case atStart=>exact⟨0,by omega,rfl,fun j hj=>absurd hj (Nat.not_lt_zero j),Below.refl _ _⟩
 case round =>
  obtain⟨k,hk11,rfl,H,hb⟩:=hrel;have hc:k=0\/k=1\/k=2\/k=3\/k=4\/k=5\/k=6\/k=7\/k=8\/k=9\/k=10\/k=11:=by omega
  have hz:=hb.size;rcases hc with rfl|rfl|rfl|rfl|rfl|rfl|rfl|rfl|rfl|rfl|rfl|rfl
  ·by_cases hk:(⟨#[80,79,79,76]⟩:Bz)=s
   ·have hq:=(Lib.bytes_beq_iff _ _).2 hk
    rw[show (⟨#[80,79,79,76]⟩:Bz).toList=[80,79,79,76] by decide +kernel] at hq
    have hix:=pR;have hfi:fi (fun v=>v==s.data.toList) aY=0:=fh 0 dE H.o hk
    have HF:Hid _:=hfi
    clear hfi hk;go_wp2;go_ret2
    exact⟨by rw[HK.o.1,HK.o.2,HF.o];rfl,upB⟩
   ·have hq:=(Lib.bytes_beq_false_iff _ _).2 hk
    rw[show (⟨#[80,79,79,76]⟩:Bz).toList=[80,79,79,76] by decide +kernel] at hq
    have hix:=pR;have HN:Hid _:=dV 0 dE H.o hk
    clear hk;go_wp2;go_roundw
    case rel=>exact⟨1,by omega,rfl,HN.o,upB⟩
    case measure=>simp[intOf]
  ·by_cases hk:(⟨#[68,82,79,80]⟩:Bz)=s
   ·have hq:=(Lib.bytes_beq_iff _ _).2 hk
    rw[show (⟨#[68,82,79,80]⟩:Bz).toList=[68,82,79,80] by decide +kernel] at hq
    have hix:=pS;have hfi:fi (fun v=>v==s.data.toList) aY=1:=fh 1 dE H.o hk
    have HF:Hid _:=hfi
    clear hfi hk;go_wp2;go_ret2
    exact⟨by rw[HK.o.1,HK.o.2,HF.o];rfl,upB⟩
   ·have hq:=(Lib.bytes_beq_false_iff _ _).2 hk
    rw[show (⟨#[68,82,79,80]⟩:Bz).toList=[68,82,79,80] by decide +kernel] at hq
    have hix:=pS;have HN:Hid _:=dV 1 dE H.o hk
    clear hk;go_wp2;go_roundw
    case rel=>exact⟨2,by omega,rfl,HN.o,upB⟩
    case measure=>simp[intOf]
  ·by_cases hk:(⟨#[78,69,84]⟩:Bz)=s
   ·have hq:=(Lib.bytes_beq_iff _ _).2 hk
    rw[show (⟨#[78,69,84]⟩:Bz).toList=[78,69,84] by decide +kernel] at hq
    have hix:=pT;have hfi:fi (fun v=>v==s.data.toList) aY=2:=fh 2 dE H.o hk
    have HF:Hid _:=hfi
    clear hfi hk;go_wp2;go_ret2
    exact⟨by rw[HK.o.1,HK.o.2,HF.o];rfl,upB⟩
   ·have hq:=(Lib.bytes_beq_false_iff _ _).2 hk
    rw[show (⟨#[78,69,84]⟩:Bz).toList=[78,69,84] by decide +kernel] at hq
    have hix:=pT;have HN:Hid _:=dV 2 dE H.o hk
    clear hk;go_wp2;go_roundw
    case rel=>exact⟨3,by omega,rfl,HN.o,upB⟩
    case measure=>simp[intOf]
  ·by_cases hk:(⟨#[66,76,79,67,75]⟩:Bz)=s
   ·have hq:=(Lib.bytes_beq_iff _ _).2 hk
    rw[show (⟨#[66,76,79,67,75]⟩:Bz).toList=[66,76,79,67,75] by decide +kernel] at hq
    have hix:=pU;have hfi:fi (fun v=>v==s.data.toList) aY=3:=fh 3 dE H.o hk
    have HF:Hid _:=hfi
    clear hfi hk;go_wp2;go_ret2
    exact⟨by rw[HK.o.1,HK.o.2,HF.o];rfl,upB⟩
   ·have hq:=(Lib.bytes_beq_false_iff _ _).2 hk
    rw[show (⟨#[66,76,79,67,75]⟩:Bz).toList=[66,76,79,67,75] by decide +kernel] at hq
    have hix:=pU;have HN:Hid _:=dV 3 dE H.o hk
    clear hk;go_wp2;go_roundw
    case rel=>exact⟨4,by omega,rfl,HN.o,upB⟩
    case measure=>simp[intOf]
  ·by_cases hk:(⟨#[70,82,69,69]⟩:Bz)=s
   ·have hq:=(Lib.bytes_beq_iff _ _).2 hk
    rw[show (⟨#[70,82,69,69]⟩:Bz).toList=[70,82,69,69] by decide +kernel] at hq
    have hix:=pV;have hfi:fi (fun v=>v==s.data.toList) aY=4:=fh 4 dE H.o hk
    have HF:Hid _:=hfi
    clear hfi hk;go_wp2;go_ret2
    exact⟨by rw[HK.o.1,HK.o.2,HF.o];rfl,upB⟩
   ·have hq:=(Lib.bytes_beq_false_iff _ _).2 hk
    rw[show (⟨#[70,82,69,69]⟩:Bz).toList=[70,82,69,69] by decide +kernel] at hq
    have hix:=pV;have HN:Hid _:=dV 4 dE H.o hk
    clear hk;go_wp2;go_roundw
    case rel=>exact⟨5,by omega,rfl,HN.o,upB⟩
    case measure=>simp[intOf]
  ·by_cases hk:(⟨#[76,69,65,83,69]⟩:Bz)=s
   ·have hq:=(Lib.bytes_beq_iff _ _).2 hk
    rw[show (⟨#[76,69,65,83,69]⟩:Bz).toList=[76,69,65,83,69] by decide +kernel] at hq
    have hix:=pW;have hfi:fi (fun v=>v==s.data.toList) aY=5:=fh 5 dE H.o hk
    have HF:Hid _:=hfi
    clear hfi hk;go_wp2;go_ret2
    exact⟨by rw[HK.o.1,HK.o.2,HF.o];rfl,upB⟩
   ·have hq:=(Lib.bytes_beq_false_iff _ _).2 hk
    rw[show (⟨#[76,69,65,83,69]⟩:Bz).toList=[76,69,65,83,69] by decide +kernel] at hq
    have hix:=pW;have HN:Hid _:=dV 5 dE H.o hk
    clear hk;go_wp2;go_roundw
    case rel=>exact⟨6,by omega,rfl,HN.o,upB⟩
    case measure=>simp[intOf]
  ·by_cases hk:(⟨#[84,65,75,69]⟩:Bz)=s
   ·have hq:=(Lib.bytes_beq_iff _ _).2 hk
    rw[show (⟨#[84,65,75,69]⟩:Bz).toList=[84,65,75,69] by decide +kernel] at hq
    have hix:=pX;have hfi:fi (fun v=>v==s.data.toList) aY=6:=fh 6 dE H.o hk
    have HF:Hid _:=hfi
    clear hfi hk;go_wp2;go_ret2
    exact⟨by rw[HK.o.1,HK.o.2,HF.o];rfl,upB⟩
   ·have hq:=(Lib.bytes_beq_false_iff _ _).2 hk
    rw[show (⟨#[84,65,75,69]⟩:Bz).toList=[84,65,75,69] by decide +kernel] at hq
    have hix:=pX;have HN:Hid _:=dV 6 dE H.o hk
    clear hk;go_wp2;go_roundw
    case rel=>exact⟨7,by omega,rfl,HN.o,upB⟩
    case measure=>simp[intOf]
  ·by_cases hk:(⟨#[71,73,86,69]⟩:Bz)=s
   ·have hq:=(Lib.bytes_beq_iff _ _).2 hk
    rw[show (⟨#[71,73,86,69]⟩:Bz).toList=[71,73,86,69] by decide +kernel] at hq
    have hix:=pY;have hfi:fi (fun v=>v==s.data.toList) aY=7:=fh 7 dE H.o hk
    have HF:Hid _:=hfi
    clear hfi hk;go_wp2;go_ret2
    exact⟨by rw[HK.o.1,HK.o.2,HF.o];rfl,upB⟩
   ·have hq:=(Lib.bytes_beq_false_iff _ _).2 hk
    rw[show (⟨#[71,73,86,69]⟩:Bz).toList=[71,73,86,69] by decide +kernel] at hq
    have hix:=pY;have HN:Hid _:=dV 7 dE H.o hk
    clear hk;go_wp2;go_roundw
    case rel=>exact⟨8,by omega,rfl,HN.o,upB⟩
    case measure=>simp[intOf]
  ·by_cases hk:(⟨#[80,79,79,76,83]⟩:Bz)=s
   ·have hq:=(Lib.bytes_beq_iff _ _).2 hk
    rw[show (⟨#[80,79,79,76,83]⟩:Bz).toList=[80,79,79,76,83] by decide +kernel] at hq
    have hix:=pZ;have hfi:fi (fun v=>v==s.data.toList) aY=8:=fh 8 dE H.o hk
    have HF:Hid _:=hfi
    clear hfi hk;go_wp2;go_ret2
    exact⟨by rw[HK.o.1,HK.o.2,HF.o];rfl,upB⟩
   ·have hq:=(Lib.bytes_beq_false_iff _ _).2 hk
    rw[show (⟨#[80,79,79,76,83]⟩:Bz).toList=[80,79,79,76,83] by decide +kernel] at hq
    have hix:=pZ;have HN:Hid _:=dV 8 dE H.o hk
    clear hk;go_wp2;go_roundw
    case rel=>exact⟨9,by omega,rfl,HN.o,upB⟩
    case measure=>simp[intOf]
  ·by_cases hk:(⟨#[78,69,84,83]⟩:Bz)=s
   ·have hq:=(Lib.bytes_beq_iff _ _).2 hk
    rw[show (⟨#[78,69,84,83]⟩:Bz).toList=[78,69,84,83] by decide +kernel] at hq
    have hix:=p8;have hfi:fi (fun v=>v==s.data.toList) aY=9:=fh 9 dE H.o hk
    have HF:Hid _:=hfi
    clear hfi hk;go_wp2;go_ret2
    exact⟨by rw[HK.o.1,HK.o.2,HF.o];rfl,upB⟩
   ·have hq:=(Lib.bytes_beq_false_iff _ _).2 hk
    rw[show (⟨#[78,69,84,83]⟩:Bz).toList=[78,69,84,83] by decide +kernel] at hq
    have hix:=p8;have HN:Hid _:=dV 9 dE H.o hk
    clear hk;go_wp2;go_roundw
    case rel=>exact⟨10,by omega,rfl,HN.o,upB⟩
    case measure=>simp[intOf]
  ·by_cases hk:(⟨#[85,83,69,68]⟩:Bz)=s
   ·have hq:=(Lib.bytes_beq_iff _ _).2 hk
    rw[show (⟨#[85,83,69,68]⟩:Bz).toList=[85,83,69,68] by decide +kernel] at hq
    have hix:=mV;have hfi:fi (fun v=>v==s.data.toList) aY=10:=fh 10 dE H.o hk
    have HF:Hid _:=hfi
    clear hfi hk;go_wp2;go_ret2
    exact⟨by rw[HK.o.1,HK.o.2,HF.o];rfl,upB⟩
   ·have hq:=(Lib.bytes_beq_false_iff _ _).2 hk
    rw[show (⟨#[85,83,69,68]⟩:Bz).toList=[85,83,69,68] by decide +kernel] at hq
    have hix:=mV;have HN:Hid _:=dV 10 dE H.o hk
    clear hk;go_wp2;go_roundw
    case rel=>exact⟨11,by omega,rfl,HN.o,upB⟩
    case measure=>simp[intOf]
  ·have hfi:=DR H.o;have HF:Hid _:=hfi
   clear hfi;go_wp2;go_ret2
   exact⟨by rw[HK.o.1,HK.o.2,HF.o];rfl,hb⟩
theorem oE(s:Bz)(w:World)(E:di w):Cr prog 59 #[.string s] w (.tuple #[I6 (if fi (fun v=>v==s.data.toList) aY<0 then 0 else fi (fun v=>v==s.data.toList) aY),.bool (!decide (fi (fun v=>v==s.data.toList) aY<0))]):=qP s w E _ _ ⟨rfl,rfl⟩
end Go.Proofs.YtjnhhnbgjjkkjaaGreatDoor
