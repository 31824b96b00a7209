/-
  BkVb
-/
import Derived.Lib.SlicesS
import Derived.Test.YtjnhhnbgjjkkjaaGreatDoorRepliesPBF
set_option linter.unusedVariables false
set_option linter.unusedSimpArgs false
set_option maxRecDepth 100000
set_option maxHeartbeats 2000000
namespace Go.Proofs.YtjnhhnbgjjkkjaaGreatDoor
open Go.ChangeShapes Go.WideShapes Go.ChangeAt Go.RowKit Go.Proofs.Tryz
def vbB(k:Nat):Ba:=⟨(aX.getD k []).toArray⟩
theorem dI{s:Ba}(k:Nat)(hk:k<11)(h:∀ j,j<k->vbB j≠s)(hn:vbB k≠s):∀ j,j<k+1->vbB j≠s:=fun j hj=>by
 rcases Nat.lt_or_ge j k with q|q
 ·exact h j q
 ·obtain rfl:j=k:=by omega
  exact hn
theorem DK{s:Ba}{j:Nat}(h:vbB j≠s):((aX.getD j [])==s.data.toList)=false:=by
 simp only[beq_eq_false_iff_ne,ne_eq]
 intro e;apply h
 unfold vbB;rw[e]
theorem eZ{s:Ba}(k:Nat)(hk:k<11)(h:∀ j,j<k->vbB j≠s)(hn:vbB k=s):fi (fun v=>v==s.data.toList) aX=k :=
 ig _ aX [] k hk (fun j hj=>DK (h j hj)) (by rw[<- hn];simp[vbB])
theorem CD{s:Ba}(h:∀ j,j<11->vbB j≠s):fi (fun v=>v==s.data.toList) aX=-1:=by
 rcases aV (fun v=>v==s.data.toList) aX [] with⟨e,_⟩|⟨k,hk,e,hp,_⟩
 ·exact e
 ·have:=DK (h k hk)
  rw[this] at hp;cases hp
theorem pJ(w:World):(Instr.index 135 (.agg co.toList.toArray) (.int .i64 0)).run prog w=.ok (.agg #[.string ⟨#[80,79,79,76]⟩,.int .i64 1,.int .i64 2,.int .i64 3,.int .i64 0]) w:=by kernel_rfl
theorem pv(w:World):(Instr.index 135 (.agg co.toList.toArray) (.int .i64 1)).run prog w=.ok (.agg #[.string ⟨#[68,82,79,80]⟩,.int .i64 1,.int .i64 2,.int .i64 3,.int .i64 0]) w:=by kernel_rfl
theorem oR(w:World):(Instr.index 135 (.agg co.toList.toArray) (.int .i64 2)).run prog w=.ok (.agg #[.string ⟨#[78,69,84]⟩,.int .i64 1,.int .i64 2,.int .i64 3,.int .i64 5]) w:=by kernel_rfl
theorem pR(w:World):(Instr.index 135 (.agg co.toList.toArray) (.int .i64 3)).run prog w=.ok (.agg #[.string ⟨#[66,76,79,67,75]⟩,.int .i64 1,.int .i64 2,.int .i64 3,.int .i64 0]) w:=by kernel_rfl
theorem pS(w:World):(Instr.index 135 (.agg co.toList.toArray) (.int .i64 4)).run prog w=.ok (.agg #[.string ⟨#[70,82,69,69]⟩,.int .i64 1,.int .i64 2,.int .i64 3,.int .i64 0]) w:=by kernel_rfl
theorem pd(w:World):(Instr.index 135 (.agg co.toList.toArray) (.int .i64 5)).run prog w=.ok (.agg #[.string ⟨#[76,69,65,83,69]⟩,.int .i64 1,.int .i64 2,.int .i64 3,.int .i64 0]) w:=by kernel_rfl
theorem oT(w:World):(Instr.index 135 (.agg co.toList.toArray) (.int .i64 6)).run prog w=.ok (.agg #[.string ⟨#[84,65,75,69]⟩,.int .i64 1,.int .i64 2,.int .i64 4,.int .i64 0]) w:=by kernel_rfl
theorem pL(w:World):(Instr.index 135 (.agg co.toList.toArray) (.int .i64 7)).run prog w=.ok (.agg #[.string ⟨#[71,73,86,69]⟩,.int .i64 1,.int .i64 2,.int .i64 4,.int .i64 0]) w:=by kernel_rfl
theorem p9(w:World):(Instr.index 135 (.agg co.toList.toArray) (.int .i64 8)).run prog w=.ok (.agg #[.string ⟨#[80,79,79,76,83]⟩,.int .i64 0,.int .i64 0,.int .i64 0,.int .i64 0]) w:=by kernel_rfl
theorem oO(w:World):(Instr.index 135 (.agg co.toList.toArray) (.int .i64 9)).run prog w=.ok (.agg #[.string ⟨#[78,69,84,83]⟩,.int .i64 3,.int .i64 0,.int .i64 0,.int .i64 0]) w:=by kernel_rfl
theorem ng(w:World):(Instr.index 135 (.agg co.toList.toArray) (.int .i64 10)).run prog w=.ok (.agg #[.string ⟨#[85,83,69,68]⟩,.int .i64 3,.int .i64 0,.int .i64 0,.int .i64 0]) w:=by kernel_rfl
theorem pI(s:Ba)(w:World)(E:Hid (di w))(kv:Int)(fv:Bool)(HK:Hid (kv=(if fi (fun v=>v==s.data.toList) aX<0 then 0 else fi (fun v=>v==s.data.toList) aX)/\fv=!decide (fi (fun v=>v==s.data.toList) aX<0))):Cr prog 59 #[.string s] w (.tuple #[.int .i64 kv,.bool fv]):=by
 go_enter func59,ntmps59
 go_wp2_with (refine wpList_load_mid rfl 135 _ rfl 0 0 rfl co.toList _ (fun j v hv=>by rw[Nat.zero_add];exact E.o.fm j v (by simpa using hv)) underlying135 rfl (by kernel_rfl) ?_)
 go_loopw [7] (fun i wr=>∃ k:Nat,k<=11/\i=.int .i64 k/\Hid (∀ j,j<k->vbB j≠s)/\Bl w wr) (fun i _=>(11-intOf i).toNat)
 case atStart=>exact⟨0,by omega,rfl,fun j hj=>absurd hj (Nat.not_lt_zero j),Below.refl _ _⟩
 case round =>
  obtain⟨k,hk11,rfl,H,hb⟩:=hrel;have hc:k=0\/k=1\/k=2\/k=3\/k=4\/k=5\/k=6\/k=7\/k=8\/k=9\/k=10\/k=11:=by omega
  have hz:=hb.size;rcases hc with rfl|rfl|rfl|rfl|rfl|rfl|rfl|rfl|rfl|rfl|rfl|rfl
  ·by_cases hk:(⟨#[80,79,79,76]⟩:Ba)=s
   ·have hq:=(Lib.bytes_beq_iff _ _).2 hk
    rw[show (⟨#[80,79,79,76]⟩:Ba).toList=[80,79,79,76] by decide +kernel] at hq
    have hix:=pJ;have hfi:fi (fun v=>v==s.data.toList) aX=0:=eZ 0 (by decide) H.o hk
    have HF:Hid _:=hfi
    clear hfi hk;go_wp2;go_ret2
    exact⟨by rw[HK.o.1,HK.o.2,HF.o];rfl,upB⟩
   ·have hq:=(Lib.bytes_beq_false_iff _ _).2 hk
    rw[show (⟨#[80,79,79,76]⟩:Ba).toList=[80,79,79,76] by decide +kernel] at hq
    have hix:=pJ;have HN:Hid _:=dI 0 (by decide) H.o hk
    clear hk;go_wp2;go_roundw
    case rel=>exact⟨1,by omega,rfl,HN.o,upB⟩
    case measure=>simp[intOf]
  ·by_cases hk:(⟨#[68,82,79,80]⟩:Ba)=s
   ·have hq:=(Lib.bytes_beq_iff _ _).2 hk
    rw[show (⟨#[68,82,79,80]⟩:Ba).toList=[68,82,79,80] by decide +kernel] at hq
    have hix:=pv;have hfi:fi (fun v=>v==s.data.toList) aX=1:=eZ 1 (by decide) H.o hk
    have HF:Hid _:=hfi
    clear hfi hk;go_wp2;go_ret2
    exact⟨by rw[HK.o.1,HK.o.2,HF.o];rfl,upB⟩
   ·have hq:=(Lib.bytes_beq_false_iff _ _).2 hk
    rw[show (⟨#[68,82,79,80]⟩:Ba).toList=[68,82,79,80] by decide +kernel] at hq
    have hix:=pv;have HN:Hid _:=dI 1 (by decide) H.o hk
    clear hk;go_wp2;go_roundw
    case rel=>exact⟨2,by omega,rfl,HN.o,upB⟩
    case measure=>simp[intOf]
  ·by_cases hk:(⟨#[78,69,84]⟩:Ba)=s
   ·have hq:=(Lib.bytes_beq_iff _ _).2 hk
    rw[show (⟨#[78,69,84]⟩:Ba).toList=[78,69,84] by decide +kernel] at hq
    have hix:=oR;have hfi:fi (fun v=>v==s.data.toList) aX=2:=eZ 2 (by decide) H.o hk
    have HF:Hid _:=hfi
    clear hfi hk;go_wp2;go_ret2
    exact⟨by rw[HK.o.1,HK.o.2,HF.o];rfl,upB⟩
   ·have hq:=(Lib.bytes_beq_false_iff _ _).2 hk
    rw[show (⟨#[78,69,84]⟩:Ba).toList=[78,69,84] by decide +kernel] at hq
    have hix:=oR;have HN:Hid _:=dI 2 (by decide) H.o hk
    clear hk;go_wp2;go_roundw
    case rel=>exact⟨3,by omega,rfl,HN.o,upB⟩
    case measure=>simp[intOf]
  ·by_cases hk:(⟨#[66,76,79,67,75]⟩:Ba)=s
   ·have hq:=(Lib.bytes_beq_iff _ _).2 hk
    rw[show (⟨#[66,76,79,67,75]⟩:Ba).toList=[66,76,79,67,75] by decide +kernel] at hq
    have hix:=pR;have hfi:fi (fun v=>v==s.data.toList) aX=3:=eZ 3 (by decide) H.o hk
    have HF:Hid _:=hfi
    clear hfi hk;go_wp2;go_ret2
    exact⟨by rw[HK.o.1,HK.o.2,HF.o];rfl,upB⟩
   ·have hq:=(Lib.bytes_beq_false_iff _ _).2 hk
    rw[show (⟨#[66,76,79,67,75]⟩:Ba).toList=[66,76,79,67,75] by decide +kernel] at hq
    have hix:=pR;have HN:Hid _:=dI 3 (by decide) H.o hk
    clear hk;go_wp2;go_roundw
    case rel=>exact⟨4,by omega,rfl,HN.o,upB⟩
    case measure=>simp[intOf]
  ·by_cases hk:(⟨#[70,82,69,69]⟩:Ba)=s
   ·have hq:=(Lib.bytes_beq_iff _ _).2 hk
    rw[show (⟨#[70,82,69,69]⟩:Ba).toList=[70,82,69,69] by decide +kernel] at hq
    have hix:=pS;have hfi:fi (fun v=>v==s.data.toList) aX=4:=eZ 4 (by decide) H.o hk
    have HF:Hid _:=hfi
    clear hfi hk;go_wp2;go_ret2
    exact⟨by rw[HK.o.1,HK.o.2,HF.o];rfl,upB⟩
   ·have hq:=(Lib.bytes_beq_false_iff _ _).2 hk
    rw[show (⟨#[70,82,69,69]⟩:Ba).toList=[70,82,69,69] by decide +kernel] at hq
    have hix:=pS;have HN:Hid _:=dI 4 (by decide) H.o hk
    clear hk;go_wp2;go_roundw
    case rel=>exact⟨5,by omega,rfl,HN.o,upB⟩
    case measure=>simp[intOf]
  ·by_cases hk:(⟨#[76,69,65,83,69]⟩:Ba)=s
   ·have hq:=(Lib.bytes_beq_iff _ _).2 hk
    rw[show (⟨#[76,69,65,83,69]⟩:Ba).toList=[76,69,65,83,69] by decide +kernel] at hq
    have hix:=pd;have hfi:fi (fun v=>v==s.data.toList) aX=5:=eZ 5 (by decide) H.o hk
    have HF:Hid _:=hfi
    clear hfi hk;go_wp2;go_ret2
    exact⟨by rw[HK.o.1,HK.o.2,HF.o];rfl,upB⟩
   ·have hq:=(Lib.bytes_beq_false_iff _ _).2 hk
    rw[show (⟨#[76,69,65,83,69]⟩:Ba).toList=[76,69,65,83,69] by decide +kernel] at hq
    have hix:=pd;have HN:Hid _:=dI 5 (by decide) H.o hk
    clear hk;go_wp2;go_roundw
    case rel=>exact⟨6,by omega,rfl,HN.o,upB⟩
    case measure=>simp[intOf]
  ·by_cases hk:(⟨#[84,65,75,69]⟩:Ba)=s
   ·have hq:=(Lib.bytes_beq_iff _ _).2 hk
    rw[show (⟨#[84,65,75,69]⟩:Ba).toList=[84,65,75,69] by decide +kernel] at hq
    have hix:=oT;have hfi:fi (fun v=>v==s.data.toList) aX=6:=eZ 6 (by decide) H.o hk
    have HF:Hid _:=hfi
    clear hfi hk;go_wp2;go_ret2
    exact⟨by rw[HK.o.1,HK.o.2,HF.o];rfl,upB⟩
   ·have hq:=(Lib.bytes_beq_false_iff _ _).2 hk
    rw[show (⟨#[84,65,75,69]⟩:Ba).toList=[84,65,75,69] by decide +kernel] at hq
    have hix:=oT;have HN:Hid _:=dI 6 (by decide) H.o hk
    clear hk;go_wp2;go_roundw
    case rel=>exact⟨7,by omega,rfl,HN.o,upB⟩
    case measure=>simp[intOf]
  ·by_cases hk:(⟨#[71,73,86,69]⟩:Ba)=s
   ·have hq:=(Lib.bytes_beq_iff _ _).2 hk
    rw[show (⟨#[71,73,86,69]⟩:Ba).toList=[71,73,86,69] by decide +kernel] at hq
    have hix:=pL;have hfi:fi (fun v=>v==s.data.toList) aX=7:=eZ 7 (by decide) H.o hk
    have HF:Hid _:=hfi
    clear hfi hk;go_wp2;go_ret2
    exact⟨by rw[HK.o.1,HK.o.2,HF.o];rfl,upB⟩
   ·have hq:=(Lib.bytes_beq_false_iff _ _).2 hk
    rw[show (⟨#[71,73,86,69]⟩:Ba).toList=[71,73,86,69] by decide +kernel] at hq
    have hix:=pL;have HN:Hid _:=dI 7 (by decide) H.o hk
    clear hk;go_wp2;go_roundw
    case rel=>exact⟨8,by omega,rfl,HN.o,upB⟩
    case measure=>simp[intOf]
  ·by_cases hk:(⟨#[80,79,79,76,83]⟩:Ba)=s
   ·have hq:=(Lib.bytes_beq_iff _ _).2 hk
    rw[show (⟨#[80,79,79,76,83]⟩:Ba).toList=[80,79,79,76,83] by decide +kernel] at hq
    have hix:=p9;have hfi:fi (fun v=>v==s.data.toList) aX=8:=eZ 8 (by decide) H.o hk
    have HF:Hid _:=hfi
    clear hfi hk;go_wp2;go_ret2
    exact⟨by rw[HK.o.1,HK.o.2,HF.o];rfl,upB⟩
   ·have hq:=(Lib.bytes_beq_false_iff _ _).2 hk
    rw[show (⟨#[80,79,79,76,83]⟩:Ba).toList=[80,79,79,76,83] by decide +kernel] at hq
    have hix:=p9;have HN:Hid _:=dI 8 (by decide) H.o hk
    clear hk;go_wp2;go_roundw
    case rel=>exact⟨9,by omega,rfl,HN.o,upB⟩
    case measure=>simp[intOf]
  ·by_cases hk:(⟨#[78,69,84,83]⟩:Ba)=s
   ·have hq:=(Lib.bytes_beq_iff _ _).2 hk
    rw[show (⟨#[78,69,84,83]⟩:Ba).toList=[78,69,84,83] by decide +kernel] at hq
    have hix:=oO;have hfi:fi (fun v=>v==s.data.toList) aX=9:=eZ 9 (by decide) H.o hk
    have HF:Hid _:=hfi
    clear hfi hk;go_wp2;go_ret2
    exact⟨by rw[HK.o.1,HK.o.2,HF.o];rfl,upB⟩
   ·have hq:=(Lib.bytes_beq_false_iff _ _).2 hk
    rw[show (⟨#[78,69,84,83]⟩:Ba).toList=[78,69,84,83] by decide +kernel] at hq
    have hix:=oO;have HN:Hid _:=dI 9 (by decide) H.o hk
    clear hk;go_wp2;go_roundw
    case rel=>exact⟨10,by omega,rfl,HN.o,upB⟩
    case measure=>simp[intOf]
  ·by_cases hk:(⟨#[85,83,69,68]⟩:Ba)=s
   ·have hq:=(Lib.bytes_beq_iff _ _).2 hk
    rw[show (⟨#[85,83,69,68]⟩:Ba).toList=[85,83,69,68] by decide +kernel] at hq
    have hix:=ng;have hfi:fi (fun v=>v==s.data.toList) aX=10:=eZ 10 (by decide) H.o hk
    have HF:Hid _:=hfi
    clear hfi hk;go_wp2;go_ret2
    exact⟨by rw[HK.o.1,HK.o.2,HF.o];rfl,upB⟩
   ·have hq:=(Lib.bytes_beq_false_iff _ _).2 hk
    rw[show (⟨#[85,83,69,68]⟩:Ba).toList=[85,83,69,68] by decide +kernel] at hq
    have hix:=ng;have HN:Hid _:=dI 10 (by decide) H.o hk
    clear hk;go_wp2;go_roundw
    case rel=>exact⟨11,by omega,rfl,HN.o,upB⟩
    case measure=>simp[intOf]
  ·have hfi:=CD H.o;have HF:Hid _:=hfi
   clear hfi;go_wp2;go_ret2
   exact⟨by rw[HK.o.1,HK.o.2,HF.o];rfl,hb⟩
theorem nX(s:Ba)(w:World)(E:di w):Cr prog 59 #[.string s] w (.tuple #[.int .i64 (if fi (fun v=>v==s.data.toList) aX<0 then 0 else fi (fun v=>v==s.data.toList) aX),.bool (!decide (fi (fun v=>v==s.data.toList) aX<0))]):=pI s w E _ _ ⟨rfl,rfl⟩
end Go.Proofs.YtjnhhnbgjjkkjaaGreatDoor
