/-
  BkVb
-/
import Derived.Lib.SlicesS
import Derived.Deep.MidRow
import Derived.Test.YtjnhhnbgjjkkjaaGreatDoorBesidesPAA
import Derived.Test.YtjnhhnbgjjkkjaaGreatDoorBesidesPAY
namespace Go.Proofs.YtjnhhnbgjjkkjaaGreatDoor
open Go.ChangeShapes Go.WideShapes Go.ChangeAt Go.RowKit
set_option linter.unusedVariables false
set_option linter.unusedSimpArgs false
def vbB (k:Nat):ByteArray:=⟨(verbT.getD k []).toArray⟩
theorem vb_next {s:ByteArray} (k:Nat) (hk:k<11) (h:∀ j,j<k->vbB j≠s) (hn:vbB k≠s):∀ j,j<k+1->vbB j≠s:=fun j hj=>by
  rcases Nat.lt_or_ge j k with q|q
  . exact h j q
  . obtain rfl:j=k:=by omega
    exact hn
theorem vb_ne {s:ByteArray} {j:Nat} (h:vbB j≠s):((verbT.getD j [])==s.data.toList)=false:=by
  simp only[beq_eq_false_iff_ne,ne_eq]
  intro e;apply h
  unfold vbB;rw[e]
theorem vb_hit {s:ByteArray} (k:Nat) (hk:k<11) (h:∀ j,j<k->vbB j≠s) (hn:vbB k=s):fi (fun v=>v==s.data.toList) verbT=k :=
  fi_hit _ verbT [] k hk (fun j hj=>vb_ne (h j hj)) (by rw[<- hn];simp[vbB])
theorem vb_miss {s:ByteArray} (h:∀ j,j<11->vbB j≠s):fi (fun v=>v==s.data.toList) verbT=-1:=by
  rcases fi_cases (fun v=>v==s.data.toList) verbT [] with⟨e,_⟩|⟨k,hk,e,hp,_⟩
  . exact e
  . have:=vb_ne (h k hk)
    rw[this] at hp;cases hp
theorem form_at0 (w:World):(Instr.index 135 (.agg formsC.toList.toArray) (.int .i64 0)).run Tryz.prog w=.ok (.agg #[.string ⟨#[80,79,79,76]⟩,.int .i64 1,.int .i64 2,.int .i64 3,.int .i64 0]) w:=by kernel_rfl
theorem form_at1 (w:World):(Instr.index 135 (.agg formsC.toList.toArray) (.int .i64 1)).run Tryz.prog w=.ok (.agg #[.string ⟨#[68,82,79,80]⟩,.int .i64 1,.int .i64 2,.int .i64 3,.int .i64 0]) w:=by kernel_rfl
theorem form_at2 (w:World):(Instr.index 135 (.agg formsC.toList.toArray) (.int .i64 2)).run Tryz.prog w=.ok (.agg #[.string ⟨#[78,69,84]⟩,.int .i64 1,.int .i64 2,.int .i64 3,.int .i64 5]) w:=by kernel_rfl
theorem form_at3 (w:World):(Instr.index 135 (.agg formsC.toList.toArray) (.int .i64 3)).run Tryz.prog w=.ok (.agg #[.string ⟨#[66,76,79,67,75]⟩,.int .i64 1,.int .i64 2,.int .i64 3,.int .i64 0]) w:=by kernel_rfl
theorem form_at4 (w:World):(Instr.index 135 (.agg formsC.toList.toArray) (.int .i64 4)).run Tryz.prog w=.ok (.agg #[.string ⟨#[70,82,69,69]⟩,.int .i64 1,.int .i64 2,.int .i64 3,.int .i64 0]) w:=by kernel_rfl
theorem form_at5 (w:World):(Instr.index 135 (.agg formsC.toList.toArray) (.int .i64 5)).run Tryz.prog w=.ok (.agg #[.string ⟨#[76,69,65,83,69]⟩,.int .i64 1,.int .i64 2,.int .i64 3,.int .i64 0]) w:=by kernel_rfl
theorem form_at6 (w:World):(Instr.index 135 (.agg formsC.toList.toArray) (.int .i64 6)).run Tryz.prog w=.ok (.agg #[.string ⟨#[84,65,75,69]⟩,.int .i64 1,.int .i64 2,.int .i64 4,.int .i64 0]) w:=by kernel_rfl
theorem form_at7 (w:World):(Instr.index 135 (.agg formsC.toList.toArray) (.int .i64 7)).run Tryz.prog w=.ok (.agg #[.string ⟨#[71,73,86,69]⟩,.int .i64 1,.int .i64 2,.int .i64 4,.int .i64 0]) w:=by kernel_rfl
theorem form_at8 (w:World):(Instr.index 135 (.agg formsC.toList.toArray) (.int .i64 8)).run Tryz.prog w=.ok (.agg #[.string ⟨#[80,79,79,76,83]⟩,.int .i64 0,.int .i64 0,.int .i64 0,.int .i64 0]) w:=by kernel_rfl
theorem form_at9 (w:World):(Instr.index 135 (.agg formsC.toList.toArray) (.int .i64 9)).run Tryz.prog w=.ok (.agg #[.string ⟨#[78,69,84,83]⟩,.int .i64 3,.int .i64 0,.int .i64 0,.int .i64 0]) w:=by kernel_rfl
theorem form_at10 (w:World):(Instr.index 135 (.agg formsC.toList.toArray) (.int .i64 10)).run Tryz.prog w=.ok (.agg #[.string ⟨#[85,83,69,68]⟩,.int .i64 3,.int .i64 0,.int .i64 0,.int .i64 0]) w:=by kernel_rfl
set_option maxRecDepth 100000 in
set_option maxHeartbeats 4000000 in
theorem readVerb_go (s:ByteArray) (w:World) (E:Hid (EnvT w)) (kv:Int) (fv:Bool) (HK:Hid (kv=(if fi (fun v=>v==s.data.toList) verbT<0 then 0 else fi (fun v=>v==s.data.toList) verbT)/\fv=!decide (fi (fun v=>v==s.data.toList) verbT<0))) :
    Calls Tryz.prog 59 #[.string s] w fun e w'=>e=.returned (.tuple #[.int .i64 kv,.bool fv])/\Below w.heap.size w w':=by
  go_enter Tryz.func59,Tryz.ntmps59
  go_wp2_with (refine wpList_load_mid rfl 135 _ rfl 0 0 rfl formsC.toList _ (fun j v hv=>by rw[Nat.zero_add];exact E.out.fm j v (by simpa using hv)) Tryz.underlying135 rfl (by kernel_rfl) ?_)
  go_loopw [7] (fun i wr=>∃ k:Nat,k<=11/\i=.int .i64 k/\Hid (∀ j,j<k->vbB j≠s)/\Below w.heap.size w wr) (fun i _=>(11-intOf i).toNat)
  case atStart=>exact⟨0,by omega,rfl,fun j hj=>absurd hj (Nat.not_lt_zero j),Below.refl _ _⟩
  case round =>
    obtain⟨k,hk11,rfl,H,hb⟩:=hrel;have hc:k=0\/k=1\/k=2\/k=3\/k=4\/k=5\/k=6\/k=7\/k=8\/k=9\/k=10\/k=11:=by omega
    have hz:=hb.size;rcases hc with rfl|rfl|rfl|rfl|rfl|rfl|rfl|rfl|rfl|rfl|rfl|rfl
    . by_cases hk:(⟨#[80,79,79,76]⟩:ByteArray)=s
      . have hq:=(Lib.bytes_beq_iff _ _).2 hk
        rw[show (⟨#[80,79,79,76]⟩:ByteArray).toList=[80,79,79,76] by decide +kernel] at hq
        have hix:=form_at0;have hfi:fi (fun v=>v==s.data.toList) verbT=0:=vb_hit 0 (by decide) H.out hk
        have HF:Hid _:=hfi
        clear hfi hk;go_wp2;go_ret2
        exact⟨by rw[HK.out.1,HK.out.2,HF.out];rfl,upB⟩
      . have hq:=(Lib.bytes_beq_false_iff _ _).2 hk
        rw[show (⟨#[80,79,79,76]⟩:ByteArray).toList=[80,79,79,76] by decide +kernel] at hq
        have hix:=form_at0;have HN:Hid _:=vb_next 0 (by decide) H.out hk
        clear hk;go_wp2;go_roundw
        case rel=>exact⟨1,by omega,rfl,HN.out,upB⟩
        case measure=>simp[intOf]
    . by_cases hk:(⟨#[68,82,79,80]⟩:ByteArray)=s
      . have hq:=(Lib.bytes_beq_iff _ _).2 hk
        rw[show (⟨#[68,82,79,80]⟩:ByteArray).toList=[68,82,79,80] by decide +kernel] at hq
        have hix:=form_at1;have hfi:fi (fun v=>v==s.data.toList) verbT=1:=vb_hit 1 (by decide) H.out hk
        have HF:Hid _:=hfi
        clear hfi hk;go_wp2;go_ret2
        exact⟨by rw[HK.out.1,HK.out.2,HF.out];rfl,upB⟩
      . have hq:=(Lib.bytes_beq_false_iff _ _).2 hk
        rw[show (⟨#[68,82,79,80]⟩:ByteArray).toList=[68,82,79,80] by decide +kernel] at hq
        have hix:=form_at1;have HN:Hid _:=vb_next 1 (by decide) H.out hk
        clear hk;go_wp2;go_roundw
        case rel=>exact⟨2,by omega,rfl,HN.out,upB⟩
        case measure=>simp[intOf]
    . by_cases hk:(⟨#[78,69,84]⟩:ByteArray)=s
      . have hq:=(Lib.bytes_beq_iff _ _).2 hk
        rw[show (⟨#[78,69,84]⟩:ByteArray).toList=[78,69,84] by decide +kernel] at hq
        have hix:=form_at2;have hfi:fi (fun v=>v==s.data.toList) verbT=2:=vb_hit 2 (by decide) H.out hk
        have HF:Hid _:=hfi
        clear hfi hk;go_wp2;go_ret2
        exact⟨by rw[HK.out.1,HK.out.2,HF.out];rfl,upB⟩
      . have hq:=(Lib.bytes_beq_false_iff _ _).2 hk
        rw[show (⟨#[78,69,84]⟩:ByteArray).toList=[78,69,84] by decide +kernel] at hq
        have hix:=form_at2;have HN:Hid _:=vb_next 2 (by decide) H.out hk
        clear hk;go_wp2;go_roundw
        case rel=>exact⟨3,by omega,rfl,HN.out,upB⟩
        case measure=>simp[intOf]
    . by_cases hk:(⟨#[66,76,79,67,75]⟩:ByteArray)=s
      . have hq:=(Lib.bytes_beq_iff _ _).2 hk
        rw[show (⟨#[66,76,79,67,75]⟩:ByteArray).toList=[66,76,79,67,75] by decide +kernel] at hq
        have hix:=form_at3;have hfi:fi (fun v=>v==s.data.toList) verbT=3:=vb_hit 3 (by decide) H.out hk
        have HF:Hid _:=hfi
        clear hfi hk;go_wp2;go_ret2
        exact⟨by rw[HK.out.1,HK.out.2,HF.out];rfl,upB⟩
      . have hq:=(Lib.bytes_beq_false_iff _ _).2 hk
        rw[show (⟨#[66,76,79,67,75]⟩:ByteArray).toList=[66,76,79,67,75] by decide +kernel] at hq
        have hix:=form_at3;have HN:Hid _:=vb_next 3 (by decide) H.out hk
        clear hk;go_wp2;go_roundw
        case rel=>exact⟨4,by omega,rfl,HN.out,upB⟩
        case measure=>simp[intOf]
    . by_cases hk:(⟨#[70,82,69,69]⟩:ByteArray)=s
      . have hq:=(Lib.bytes_beq_iff _ _).2 hk
        rw[show (⟨#[70,82,69,69]⟩:ByteArray).toList=[70,82,69,69] by decide +kernel] at hq
        have hix:=form_at4;have hfi:fi (fun v=>v==s.data.toList) verbT=4:=vb_hit 4 (by decide) H.out hk
        have HF:Hid _:=hfi
        clear hfi hk;go_wp2;go_ret2
        exact⟨by rw[HK.out.1,HK.out.2,HF.out];rfl,upB⟩
      . have hq:=(Lib.bytes_beq_false_iff _ _).2 hk
        rw[show (⟨#[70,82,69,69]⟩:ByteArray).toList=[70,82,69,69] by decide +kernel] at hq
        have hix:=form_at4;have HN:Hid _:=vb_next 4 (by decide) H.out hk
        clear hk;go_wp2;go_roundw
        case rel=>exact⟨5,by omega,rfl,HN.out,upB⟩
        case measure=>simp[intOf]
    . by_cases hk:(⟨#[76,69,65,83,69]⟩:ByteArray)=s
      . have hq:=(Lib.bytes_beq_iff _ _).2 hk
        rw[show (⟨#[76,69,65,83,69]⟩:ByteArray).toList=[76,69,65,83,69] by decide +kernel] at hq
        have hix:=form_at5;have hfi:fi (fun v=>v==s.data.toList) verbT=5:=vb_hit 5 (by decide) H.out hk
        have HF:Hid _:=hfi
        clear hfi hk;go_wp2;go_ret2
        exact⟨by rw[HK.out.1,HK.out.2,HF.out];rfl,upB⟩
      . have hq:=(Lib.bytes_beq_false_iff _ _).2 hk
        rw[show (⟨#[76,69,65,83,69]⟩:ByteArray).toList=[76,69,65,83,69] by decide +kernel] at hq
        have hix:=form_at5;have HN:Hid _:=vb_next 5 (by decide) H.out hk
        clear hk;go_wp2;go_roundw
        case rel=>exact⟨6,by omega,rfl,HN.out,upB⟩
        case measure=>simp[intOf]
    . by_cases hk:(⟨#[84,65,75,69]⟩:ByteArray)=s
      . have hq:=(Lib.bytes_beq_iff _ _).2 hk
        rw[show (⟨#[84,65,75,69]⟩:ByteArray).toList=[84,65,75,69] by decide +kernel] at hq
        have hix:=form_at6;have hfi:fi (fun v=>v==s.data.toList) verbT=6:=vb_hit 6 (by decide) H.out hk
        have HF:Hid _:=hfi
        clear hfi hk;go_wp2;go_ret2
        exact⟨by rw[HK.out.1,HK.out.2,HF.out];rfl,upB⟩
      . have hq:=(Lib.bytes_beq_false_iff _ _).2 hk
        rw[show (⟨#[84,65,75,69]⟩:ByteArray).toList=[84,65,75,69] by decide +kernel] at hq
        have hix:=form_at6;have HN:Hid _:=vb_next 6 (by decide) H.out hk
        clear hk;go_wp2;go_roundw
        case rel=>exact⟨7,by omega,rfl,HN.out,upB⟩
        case measure=>simp[intOf]
    . by_cases hk:(⟨#[71,73,86,69]⟩:ByteArray)=s
      . have hq:=(Lib.bytes_beq_iff _ _).2 hk
        rw[show (⟨#[71,73,86,69]⟩:ByteArray).toList=[71,73,86,69] by decide +kernel] at hq
        have hix:=form_at7;have hfi:fi (fun v=>v==s.data.toList) verbT=7:=vb_hit 7 (by decide) H.out hk
        have HF:Hid _:=hfi
        clear hfi hk;go_wp2;go_ret2
        exact⟨by rw[HK.out.1,HK.out.2,HF.out];rfl,upB⟩
      . have hq:=(Lib.bytes_beq_false_iff _ _).2 hk
        rw[show (⟨#[71,73,86,69]⟩:ByteArray).toList=[71,73,86,69] by decide +kernel] at hq
        have hix:=form_at7;have HN:Hid _:=vb_next 7 (by decide) H.out hk
        clear hk;go_wp2;go_roundw
        case rel=>exact⟨8,by omega,rfl,HN.out,upB⟩
        case measure=>simp[intOf]
    . by_cases hk:(⟨#[80,79,79,76,83]⟩:ByteArray)=s
      . have hq:=(Lib.bytes_beq_iff _ _).2 hk
        rw[show (⟨#[80,79,79,76,83]⟩:ByteArray).toList=[80,79,79,76,83] by decide +kernel] at hq
        have hix:=form_at8;have hfi:fi (fun v=>v==s.data.toList) verbT=8:=vb_hit 8 (by decide) H.out hk
        have HF:Hid _:=hfi
        clear hfi hk;go_wp2;go_ret2
        exact⟨by rw[HK.out.1,HK.out.2,HF.out];rfl,upB⟩
      . have hq:=(Lib.bytes_beq_false_iff _ _).2 hk
        rw[show (⟨#[80,79,79,76,83]⟩:ByteArray).toList=[80,79,79,76,83] by decide +kernel] at hq
        have hix:=form_at8;have HN:Hid _:=vb_next 8 (by decide) H.out hk
        clear hk;go_wp2;go_roundw
        case rel=>exact⟨9,by omega,rfl,HN.out,upB⟩
        case measure=>simp[intOf]
    . by_cases hk:(⟨#[78,69,84,83]⟩:ByteArray)=s
      . have hq:=(Lib.bytes_beq_iff _ _).2 hk
        rw[show (⟨#[78,69,84,83]⟩:ByteArray).toList=[78,69,84,83] by decide +kernel] at hq
        have hix:=form_at9;have hfi:fi (fun v=>v==s.data.toList) verbT=9:=vb_hit 9 (by decide) H.out hk
        have HF:Hid _:=hfi
        clear hfi hk;go_wp2;go_ret2
        exact⟨by rw[HK.out.1,HK.out.2,HF.out];rfl,upB⟩
      . have hq:=(Lib.bytes_beq_false_iff _ _).2 hk
        rw[show (⟨#[78,69,84,83]⟩:ByteArray).toList=[78,69,84,83] by decide +kernel] at hq
        have hix:=form_at9;have HN:Hid _:=vb_next 9 (by decide) H.out hk
        clear hk;go_wp2;go_roundw
        case rel=>exact⟨10,by omega,rfl,HN.out,upB⟩
        case measure=>simp[intOf]
    . by_cases hk:(⟨#[85,83,69,68]⟩:ByteArray)=s
      . have hq:=(Lib.bytes_beq_iff _ _).2 hk
        rw[show (⟨#[85,83,69,68]⟩:ByteArray).toList=[85,83,69,68] by decide +kernel] at hq
        have hix:=form_at10;have hfi:fi (fun v=>v==s.data.toList) verbT=10:=vb_hit 10 (by decide) H.out hk
        have HF:Hid _:=hfi
        clear hfi hk;go_wp2;go_ret2
        exact⟨by rw[HK.out.1,HK.out.2,HF.out];rfl,upB⟩
      . have hq:=(Lib.bytes_beq_false_iff _ _).2 hk
        rw[show (⟨#[85,83,69,68]⟩:ByteArray).toList=[85,83,69,68] by decide +kernel] at hq
        have hix:=form_at10;have HN:Hid _:=vb_next 10 (by decide) H.out hk
        clear hk;go_wp2;go_roundw
        case rel=>exact⟨11,by omega,rfl,HN.out,upB⟩
        case measure=>simp[intOf]
    . have hfi:=vb_miss H.out;have HF:Hid _:=hfi
      clear hfi;go_wp2;go_ret2
      exact⟨by rw[HK.out.1,HK.out.2,HF.out];rfl,hb⟩
theorem readVerb_any (s:ByteArray) (w:World) (E:EnvT w) :
    Calls Tryz.prog 59 #[.string s] w fun e w'=>e=.returned (.tuple #[.int .i64 (if fi (fun v=>v==s.data.toList) verbT<0 then 0 else fi (fun v=>v==s.data.toList) verbT),.bool (!decide (fi (fun v=>v==s.data.toList) verbT<0))])/\Below w.heap.size w w':=readVerb_go s w E _ _ ⟨rfl,rfl⟩
end Go.Proofs.YtjnhhnbgjjkkjaaGreatDoor
