/-
  BkVb
-/
import Derived.Lib.SlicesS
import Derived.Test.YtjnhhnbgjjkkjaaGreatDoorRepliesPBF
set_option linter.unusedVariables false
set_option linter.unusedSimpArgs false
set_option maxRecDepth 100000
set_option maxHeartbeats 2000000
namespace Go.Proofs.YtjnhhnbgjjkkjaaGreatDoor
open Go.ChangeShapes Go.WideShapes Go.ChangeAt Go.RowKit Go.Proofs.Tryz
def vbB(k:Nat):ByteArray:=⟨(aX.getD k []).toArray⟩
theorem dI{s:ByteArray}(k:Nat)(hk:k<11)(h:∀ j,j<k->vbB j≠s)(hn:vbB k≠s):∀ j,j<k+1->vbB j≠s:=fun j hj=>by
 rcases Nat.lt_or_ge j k with q|q
 ·exact h j q
 ·obtain rfl:j=k:=by omega
  exact hn
theorem Dy{s:ByteArray}{j:Nat}(h:vbB j≠s):((aX.getD j [])==s.data.toList)=false:=by
 simp only[beq_eq_false_iff_ne,ne_eq]
 intro e;apply h
 unfold vbB;rw[e]
theorem eY{s:ByteArray}(k:Nat)(hk:k<11)(h:∀ j,j<k->vbB j≠s)(hn:vbB k=s):fi(fun v=>v==s.data.toList)aX=k :=
 iz _ aX []k hk(fun j hj=>Dy(h j hj))(by rw[<- hn];simp[vbB])
theorem B8{s:ByteArray}(h:∀ j,j<11->vbB j≠s):fi(fun v=>v==s.data.toList)aX=-1:=by
 rcases aT(fun v=>v==s.data.toList)aX []with⟨e,_⟩|⟨k,hk,e,hp,_⟩
 ·exact e
 ·have:=Dy(h k hk)
  rw[this]at hp;cases hp
theorem qS(w:World):(Instr.index 135(.agg cr.toList.toArray)(.int .i64 0)).run prog w=.ok(.agg#[.string⟨#[80,79,79,76]⟩,.int .i64 1,.int .i64 2,.int .i64 3,.int .i64 0])w:=by kernel_rfl
theorem o8(w:World):(Instr.index 135(.agg cr.toList.toArray)(.int .i64 1)).run prog w=.ok(.agg#[.string⟨#[68,82,79,80]⟩,.int .i64 1,.int .i64 2,.int .i64 3,.int .i64 0])w:=by kernel_rfl
theorem pS(w:World):(Instr.index 135(.agg cr.toList.toArray)(.int .i64 2)).run prog w=.ok(.agg#[.string⟨#[78,69,84]⟩,.int .i64 1,.int .i64 2,.int .i64 3,.int .i64 5])w:=by kernel_rfl
theorem qL(w:World):(Instr.index 135(.agg cr.toList.toArray)(.int .i64 3)).run prog w=.ok(.agg#[.string⟨#[66,76,79,67,75]⟩,.int .i64 1,.int .i64 2,.int .i64 3,.int .i64 0])w:=by kernel_rfl
theorem qP(w:World):(Instr.index 135(.agg cr.toList.toArray)(.int .i64 4)).run prog w=.ok(.agg#[.string⟨#[70,82,69,69]⟩,.int .i64 1,.int .i64 2,.int .i64 3,.int .i64 0])w:=by kernel_rfl
theorem pj(w:World):(Instr.index 135(.agg cr.toList.toArray)(.int .i64 5)).run prog w=.ok(.agg#[.string⟨#[76,69,65,83,69]⟩,.int .i64 1,.int .i64 2,.int .i64 3,.int .i64 0])w:=by kernel_rfl
theorem qQ(w:World):(Instr.index 135(.agg cr.toList.toArray)(.int .i64 6)).run prog w=.ok(.agg#[.string⟨#[84,65,75,69]⟩,.int .i64 1,.int .i64 2,.int .i64 4,.int .i64 0])w:=by kernel_rfl
theorem qC(w:World):(Instr.index 135(.agg cr.toList.toArray)(.int .i64 7)).run prog w=.ok(.agg#[.string⟨#[71,73,86,69]⟩,.int .i64 1,.int .i64 2,.int .i64 4,.int .i64 0])w:=by kernel_rfl
theorem oM(w:World):(Instr.index 135(.agg cr.toList.toArray)(.int .i64 8)).run prog w=.ok(.agg#[.string⟨#[80,79,79,76,83]⟩,.int .i64 0,.int .i64 0,.int .i64 0,.int .i64 0])w:=by kernel_rfl
theorem qH(w:World):(Instr.index 135(.agg cr.toList.toArray)(.int .i64 9)).run prog w=.ok(.agg#[.string⟨#[78,69,84,83]⟩,.int .i64 3,.int .i64 0,.int .i64 0,.int .i64 0])w:=by kernel_rfl
theorem mK(w:World):(Instr.index 135(.agg cr.toList.toArray)(.int .i64 10)).run prog w=.ok(.agg#[.string⟨#[85,83,69,68]⟩,.int .i64 3,.int .i64 0,.int .i64 0,.int .i64 0])w:=by kernel_rfl
theorem qy(s:ByteArray)(w:World)(E:Hid(dh w))(kv:Int)(fv:Bool)(HK:Hid(kv=(if fi(fun v=>v==s.data.toList)aX<0 then 0 else fi(fun v=>v==s.data.toList)aX)/\fv=!decide(fi(fun v=>v==s.data.toList)aX<0))) :
  Cr prog 59#[.string s]w(.tuple#[.int .i64 kv,.bool fv]):=by
 go_enter func59,ntmps59
 go_wp2_with(refine wpList_load_mid rfl 135 _ rfl 0 0 rfl cr.toList _(fun j v hv=>by rw[Nat.zero_add];exact E.out.fm j v(by simpa using hv))underlying135 rfl(by kernel_rfl)?_)
 go_loopw [7](fun i wr=>∃ k:Nat,k<=11/\i=.int .i64 k/\Hid(∀ j,j<k->vbB j≠s)/\Bl w wr)(fun i _=>(11-intOf i).toNat)
 case atStart=>exact⟨0,by omega,rfl,fun j hj=>absurd hj(Nat.not_lt_zero j),Below.refl _ _⟩
 case round =>
  obtain⟨k,hk11,rfl,H,hb⟩:=hrel;have hc:k=0\/k=1\/k=2\/k=3\/k=4\/k=5\/k=6\/k=7\/k=8\/k=9\/k=10\/k=11:=by omega
  have hz:=hb.size;rcases hc with rfl|rfl|rfl|rfl|rfl|rfl|rfl|rfl|rfl|rfl|rfl|rfl
  ·by_cases hk:(⟨#[80,79,79,76]⟩:ByteArray)=s
   ·have hq:=(Lib.bytes_beq_iff _ _).2 hk
    rw[show(⟨#[80,79,79,76]⟩:ByteArray).toList=[80,79,79,76]by decide +kernel]at hq
    have hix:=qS;have hfi:fi(fun v=>v==s.data.toList)aX=0:=eY 0(by decide)H.out hk
    have HF:Hid _:=hfi
    clear hfi hk;go_wp2;go_ret2
    exact⟨by rw[HK.out.1,HK.out.2,HF.out];rfl,upB⟩
   ·have hq:=(Lib.bytes_beq_false_iff _ _).2 hk
    rw[show(⟨#[80,79,79,76]⟩:ByteArray).toList=[80,79,79,76]by decide +kernel]at hq
    have hix:=qS;have HN:Hid _:=dI 0(by decide)H.out hk
    clear hk;go_wp2;go_roundw
    case rel=>exact⟨1,by omega,rfl,HN.out,upB⟩
    case measure=>simp[intOf]
  ·by_cases hk:(⟨#[68,82,79,80]⟩:ByteArray)=s
   ·have hq:=(Lib.bytes_beq_iff _ _).2 hk
    rw[show(⟨#[68,82,79,80]⟩:ByteArray).toList=[68,82,79,80]by decide +kernel]at hq
    have hix:=o8;have hfi:fi(fun v=>v==s.data.toList)aX=1:=eY 1(by decide)H.out hk
    have HF:Hid _:=hfi
    clear hfi hk;go_wp2;go_ret2
    exact⟨by rw[HK.out.1,HK.out.2,HF.out];rfl,upB⟩
   ·have hq:=(Lib.bytes_beq_false_iff _ _).2 hk
    rw[show(⟨#[68,82,79,80]⟩:ByteArray).toList=[68,82,79,80]by decide +kernel]at hq
    have hix:=o8;have HN:Hid _:=dI 1(by decide)H.out hk
    clear hk;go_wp2;go_roundw
    case rel=>exact⟨2,by omega,rfl,HN.out,upB⟩
    case measure=>simp[intOf]
  ·by_cases hk:(⟨#[78,69,84]⟩:ByteArray)=s
   ·have hq:=(Lib.bytes_beq_iff _ _).2 hk
    rw[show(⟨#[78,69,84]⟩:ByteArray).toList=[78,69,84]by decide +kernel]at hq
    have hix:=pS;have hfi:fi(fun v=>v==s.data.toList)aX=2:=eY 2(by decide)H.out hk
    have HF:Hid _:=hfi
    clear hfi hk;go_wp2;go_ret2
    exact⟨by rw[HK.out.1,HK.out.2,HF.out];rfl,upB⟩
   ·have hq:=(Lib.bytes_beq_false_iff _ _).2 hk
    rw[show(⟨#[78,69,84]⟩:ByteArray).toList=[78,69,84]by decide +kernel]at hq
    have hix:=pS;have HN:Hid _:=dI 2(by decide)H.out hk
    clear hk;go_wp2;go_roundw
    case rel=>exact⟨3,by omega,rfl,HN.out,upB⟩
    case measure=>simp[intOf]
  ·by_cases hk:(⟨#[66,76,79,67,75]⟩:ByteArray)=s
   ·have hq:=(Lib.bytes_beq_iff _ _).2 hk
    rw[show(⟨#[66,76,79,67,75]⟩:ByteArray).toList=[66,76,79,67,75]by decide +kernel]at hq
    have hix:=qL;have hfi:fi(fun v=>v==s.data.toList)aX=3:=eY 3(by decide)H.out hk
    have HF:Hid _:=hfi
    clear hfi hk;go_wp2;go_ret2
    exact⟨by rw[HK.out.1,HK.out.2,HF.out];rfl,upB⟩
   ·have hq:=(Lib.bytes_beq_false_iff _ _).2 hk
    rw[show(⟨#[66,76,79,67,75]⟩:ByteArray).toList=[66,76,79,67,75]by decide +kernel]at hq
    have hix:=qL;have HN:Hid _:=dI 3(by decide)H.out hk
    clear hk;go_wp2;go_roundw
    case rel=>exact⟨4,by omega,rfl,HN.out,upB⟩
    case measure=>simp[intOf]
  ·by_cases hk:(⟨#[70,82,69,69]⟩:ByteArray)=s
   ·have hq:=(Lib.bytes_beq_iff _ _).2 hk
    rw[show(⟨#[70,82,69,69]⟩:ByteArray).toList=[70,82,69,69]by decide +kernel]at hq
    have hix:=qP;have hfi:fi(fun v=>v==s.data.toList)aX=4:=eY 4(by decide)H.out hk
    have HF:Hid _:=hfi
    clear hfi hk;go_wp2;go_ret2
    exact⟨by rw[HK.out.1,HK.out.2,HF.out];rfl,upB⟩
   ·have hq:=(Lib.bytes_beq_false_iff _ _).2 hk
    rw[show(⟨#[70,82,69,69]⟩:ByteArray).toList=[70,82,69,69]by decide +kernel]at hq
    have hix:=qP;have HN:Hid _:=dI 4(by decide)H.out hk
    clear hk;go_wp2;go_roundw
    case rel=>exact⟨5,by omega,rfl,HN.out,upB⟩
    case measure=>simp[intOf]
  ·by_cases hk:(⟨#[76,69,65,83,69]⟩:ByteArray)=s
   ·have hq:=(Lib.bytes_beq_iff _ _).2 hk
    rw[show(⟨#[76,69,65,83,69]⟩:ByteArray).toList=[76,69,65,83,69]by decide +kernel]at hq
    have hix:=pj;have hfi:fi(fun v=>v==s.data.toList)aX=5:=eY 5(by decide)H.out hk
    have HF:Hid _:=hfi
    clear hfi hk;go_wp2;go_ret2
    exact⟨by rw[HK.out.1,HK.out.2,HF.out];rfl,upB⟩
   ·have hq:=(Lib.bytes_beq_false_iff _ _).2 hk
    rw[show(⟨#[76,69,65,83,69]⟩:ByteArray).toList=[76,69,65,83,69]by decide +kernel]at hq
    have hix:=pj;have HN:Hid _:=dI 5(by decide)H.out hk
    clear hk;go_wp2;go_roundw
    case rel=>exact⟨6,by omega,rfl,HN.out,upB⟩
    case measure=>simp[intOf]
  ·by_cases hk:(⟨#[84,65,75,69]⟩:ByteArray)=s
   ·have hq:=(Lib.bytes_beq_iff _ _).2 hk
    rw[show(⟨#[84,65,75,69]⟩:ByteArray).toList=[84,65,75,69]by decide +kernel]at hq
    have hix:=qQ;have hfi:fi(fun v=>v==s.data.toList)aX=6:=eY 6(by decide)H.out hk
    have HF:Hid _:=hfi
    clear hfi hk;go_wp2;go_ret2
    exact⟨by rw[HK.out.1,HK.out.2,HF.out];rfl,upB⟩
   ·have hq:=(Lib.bytes_beq_false_iff _ _).2 hk
    rw[show(⟨#[84,65,75,69]⟩:ByteArray).toList=[84,65,75,69]by decide +kernel]at hq
    have hix:=qQ;have HN:Hid _:=dI 6(by decide)H.out hk
    clear hk;go_wp2;go_roundw
    case rel=>exact⟨7,by omega,rfl,HN.out,upB⟩
    case measure=>simp[intOf]
  ·by_cases hk:(⟨#[71,73,86,69]⟩:ByteArray)=s
   ·have hq:=(Lib.bytes_beq_iff _ _).2 hk
    rw[show(⟨#[71,73,86,69]⟩:ByteArray).toList=[71,73,86,69]by decide +kernel]at hq
    have hix:=qC;have hfi:fi(fun v=>v==s.data.toList)aX=7:=eY 7(by decide)H.out hk
    have HF:Hid _:=hfi
    clear hfi hk;go_wp2;go_ret2
    exact⟨by rw[HK.out.1,HK.out.2,HF.out];rfl,upB⟩
   ·have hq:=(Lib.bytes_beq_false_iff _ _).2 hk
    rw[show(⟨#[71,73,86,69]⟩:ByteArray).toList=[71,73,86,69]by decide +kernel]at hq
    have hix:=qC;have HN:Hid _:=dI 7(by decide)H.out hk
    clear hk;go_wp2;go_roundw
    case rel=>exact⟨8,by omega,rfl,HN.out,upB⟩
    case measure=>simp[intOf]
  ·by_cases hk:(⟨#[80,79,79,76,83]⟩:ByteArray)=s
   ·have hq:=(Lib.bytes_beq_iff _ _).2 hk
    rw[show(⟨#[80,79,79,76,83]⟩:ByteArray).toList=[80,79,79,76,83]by decide +kernel]at hq
    have hix:=oM;have hfi:fi(fun v=>v==s.data.toList)aX=8:=eY 8(by decide)H.out hk
    have HF:Hid _:=hfi
    clear hfi hk;go_wp2;go_ret2
    exact⟨by rw[HK.out.1,HK.out.2,HF.out];rfl,upB⟩
   ·have hq:=(Lib.bytes_beq_false_iff _ _).2 hk
    rw[show(⟨#[80,79,79,76,83]⟩:ByteArray).toList=[80,79,79,76,83]by decide +kernel]at hq
    have hix:=oM;have HN:Hid _:=dI 8(by decide)H.out hk
    clear hk;go_wp2;go_roundw
    case rel=>exact⟨9,by omega,rfl,HN.out,upB⟩
    case measure=>simp[intOf]
  ·by_cases hk:(⟨#[78,69,84,83]⟩:ByteArray)=s
   ·have hq:=(Lib.bytes_beq_iff _ _).2 hk
    rw[show(⟨#[78,69,84,83]⟩:ByteArray).toList=[78,69,84,83]by decide +kernel]at hq
    have hix:=qH;have hfi:fi(fun v=>v==s.data.toList)aX=9:=eY 9(by decide)H.out hk
    have HF:Hid _:=hfi
    clear hfi hk;go_wp2;go_ret2
    exact⟨by rw[HK.out.1,HK.out.2,HF.out];rfl,upB⟩
   ·have hq:=(Lib.bytes_beq_false_iff _ _).2 hk
    rw[show(⟨#[78,69,84,83]⟩:ByteArray).toList=[78,69,84,83]by decide +kernel]at hq
    have hix:=qH;have HN:Hid _:=dI 9(by decide)H.out hk
    clear hk;go_wp2;go_roundw
    case rel=>exact⟨10,by omega,rfl,HN.out,upB⟩
    case measure=>simp[intOf]
  ·by_cases hk:(⟨#[85,83,69,68]⟩:ByteArray)=s
   ·have hq:=(Lib.bytes_beq_iff _ _).2 hk
    rw[show(⟨#[85,83,69,68]⟩:ByteArray).toList=[85,83,69,68]by decide +kernel]at hq
    have hix:=mK;have hfi:fi(fun v=>v==s.data.toList)aX=10:=eY 10(by decide)H.out hk
    have HF:Hid _:=hfi
    clear hfi hk;go_wp2;go_ret2
    exact⟨by rw[HK.out.1,HK.out.2,HF.out];rfl,upB⟩
   ·have hq:=(Lib.bytes_beq_false_iff _ _).2 hk
    rw[show(⟨#[85,83,69,68]⟩:ByteArray).toList=[85,83,69,68]by decide +kernel]at hq
    have hix:=mK;have HN:Hid _:=dI 10(by decide)H.out hk
    clear hk;go_wp2;go_roundw
    case rel=>exact⟨11,by omega,rfl,HN.out,upB⟩
    case measure=>simp[intOf]
  ·have hfi:=B8 H.out;have HF:Hid _:=hfi
   clear hfi;go_wp2;go_ret2
   exact⟨by rw[HK.out.1,HK.out.2,HF.out];rfl,hb⟩
theorem oy(s:ByteArray)(w:World)(E:dh w) :
  Cr prog 59#[.string s]w(.tuple#[.int .i64(if fi(fun v=>v==s.data.toList)aX<0 then 0 else fi(fun v=>v==s.data.toList)aX),.bool(!decide(fi(fun v=>v==s.data.toList)aX<0))]):=qy s w E _ _⟨rfl,rfl⟩
end Go.Proofs.YtjnhhnbgjjkkjaaGreatDoor
