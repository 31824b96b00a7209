/-
  HaltedProof
-/
import Derived.Lib.SmallJoins
import Derived.Carry
import Derived.Test.YtjnhhnbgjjkkjaaGreatDoorBesidesPAA
import Derived.Test.YtjnhhnbgjjkkjaaGreatDoorHaltedPAA
import Derived.Test.YtjnhhnbgjjkkjaaGreatDoorBesidesPBW
import Derived.Test.YtjnhhnbgjjkkjaaGreatDoorBesidesPBX
namespace Go.Proofs.YtjnhhnbgjjkkjaaGreatDoor
open Go.ChangeShapes Go.WideShapes Go.ChangeAt Go.RowKit Go.Joins
open Go.ChangeMaps (open_string shut_string)
set_option linter.unusedVariables false
set_option linter.unusedSimpArgs false
namespace halted
theorem laidOut:laidOutB Tryz.prog=true:=by kernel_rfl
set_option maxRecDepth 100000 in
theorem contract (H:Type) (enc:TypeId×Value->H) (W:World) (base:Nat) (args:Array Value) (ds gs:List (DataW H)) (before:List MemPlace)
    (hval:∀ (j:Nat) t v,Tryz.f9.params[j]?=some t->args[j]?=some v->Value.okWide Tryz.prog W .any base t v)
    (hW:DataW.Whole enc Tryz.prog Tryz.f9.params.toList Rows.haltedSpec.vars false W args.toList ds gs before) (hL:laidMetH Tryz.prog laidAt W) (hsh:W.ShapedOpen Tryz.prog) (hk:Rows.uptoSmall H (ds++gs)=true) :
    Calls Tryz.prog 9 args W fun e W'=>∃ v,e=.returned v/\Rows.haltedSpec.post enc Tryz.prog Tryz.f9 false true false false W args v W':=by
  have hW':=hW;obtain⟨p,q,hA0,hV,rfl,hfz,hnd⟩:=hW;have hA:DataW.TrodAll enc Tryz.prog W 0 (fun _=>true) true Tryz.f9.params.toList args.toList ds p:=hA0
  rw[Tryz.params9] at hA hval;obtain⟨v0,v1,v2,d0,d1,d2,p0,p1,p2,rfl,rfl,hpp,h0,h1,h2⟩:=trodAll_three hA;obtain⟨rfl,rfl⟩:=trodVars_none hV;clear hA0;simp only[List.append_nil] at hW'
  have hlt:∀ x∈p,x.block<W.heap.size:=fun x hx=>by simpa using hW'.lt x hx
  have hbk:=of_decide_eq_true hk;clear hk;simp only[List.append_nil,Rows.uptoBulkAll] at hbk
  subst hpp;have E:=env_of_laid hL hsh;have hv0:v0.cells.toList=[v0]:=by
    obtain⟨a,len,cap,rfl⟩:=okWide_slice Tryz.underlying25 (hval 0 25 v0 rfl rfl)
    rfl
  have h1':=h1;obtain⟨st,rfl,_,_,w1⟩:=open_int Tryz.underlying3 (hval 1 3 v1 rfl rfl) h1'
  have hv2:v2.cells.toList=[v2]:=by
    obtain⟨a,len,cap,rfl⟩:=okWide_slice Tryz.underlying50 (hval 2 50 v2 rfl rfl)
    rfl
  obtain⟨n,f,hn,hS⟩:=open_steps h0 hv0 om;obtain⟨L,hLm,hLL⟩:=open_left h2 hv2 om;refine(halted_walk v0 v2 n f st L W E.1 E.2 hS hLL hn (bounds_i64 w1) hLm).mono fun e W' ⟨he,hg⟩=>?_
  subst he;exact⟨_,rfl,_,_,_,[],_,[],hW',trodAll_mk1 (shut_bool Tryz.underlying4 _),trodAll_mk3 (Below.trod laidOut (by kernel_rfl) (of_decide_eq_true (by kernel_rfl)) h0 hg (fun x hx=>hlt x (by simp[hx]))) (Below.trod laidOut (by kernel_rfl) (of_decide_eq_true (by kernel_rfl)) h1 hg (fun x hx=>hlt x (by simp[hx]))) (Below.trod laidOut (by kernel_rfl) (of_decide_eq_true (by kernel_rfl)) h2 hg (fun x hx=>hlt x (by simp[hx]))),rfl,hg.frame _,fun h=>by cases h⟩
theorem okArgs (os:Os):Input.okWideB Tryz.prog ((World.laidAll Tryz.prog os laidAt).forCall (fun _ _=>0) ⟨#[],#[.slice none 0 0,.int .i64 0,.slice none 0 0],[]⟩) 9 ⟨#[],#[.slice none 0 0,.int .i64 0,.slice none 0 0],[]⟩=true:=by kernel_rfl
theorem reads0 (os:Os) {H:Type} (enc:TypeId×Value->H):∃ places,DataW.whole enc Tryz.prog ((World.laidAll Tryz.prog os laidAt).forCall (fun _ _=>0) ⟨#[],#[.slice none 0 0,.int .i64 0,.slice none 0 0],[]⟩).memory Tryz.f9.params.toList Rows.haltedSpec.vars false (#[.slice none 0 0,.int .i64 0,.slice none 0 0]:Array Value).toList 8=some ([.nil,.lit (.int .i64 0),.nil],[],places) :=
  ⟨[],by kernel_rfl⟩
set_option maxRecDepth 100000 in
theorem liftedUpto (os:Os) (started:os.Started) (H:Type) (enc:TypeId×Value->H) (F:Stop.Interp) :
    ReturnsInHanded {} Tryz.checked os 9 .any ((Rows.OpenSpec.upto Rows.haltedSpec).preRow enc Tryz.prog Tryz.f9 Rows.haltedUptoRow.domain false Rows.haltedUptoRow.laid) (((Rows.OpenSpec.upto Rows.haltedSpec).at F).post enc Tryz.prog Tryz.f9 false true false false):=by
  obtain⟨places,hx⟩:=reads0 os enc;refine returnsInHanded_of_row (C:=Tryz.checked) (s:=Rows.OpenSpec.upto Rows.haltedSpec) own started (by kernel_rfl) Tryz.func9
    ⟨World.laidAll Tryz.prog os laidAt,fun _ _=>0,⟨#[],#[.slice none 0 0,.int .i64 0,.slice none 0 0],[]⟩,World.laidAll_os _ _ _,World.shaped_of_ZipB (by kernel_rfl) (by kernel_rfl),(Input.okWide_of_okWideB (base:=0) (okArgs os)).1,(Input.okWide_of_okWideB (okArgs os)).2,
      OpenSpec.preRow_of_cond 8 hx (by kernel_rfl) (fun k hk=>by cases hk;kernel_rfl) (by kernel_rfl) (by have h:=laid_met os #[.slice none 0 0,.int .i64 0,.slice none 0 0];rw[MakeChecks.laidMetH_plain _ _ _ (by kernel_rfl)] at h;exact h),by
      simp only[Assume.holds]
      exact⟨by simp,by simp,fun _=>Modest.zero,by simp,by simp⟩⟩ ?_
  intro W base args ds gs before hval hW _ hcond _ hL hsh _;exact contract H enc W base args ds gs before hval hW hL hsh (hcond _ rfl)
theorem saidUpto:Rows.HaltedUptoSaid :=
  OpenClaim.holds_of_cond 9 Tryz.f9 rfl rfl rfl rfl rfl rfl rfl ⟨rfl,rfl,rfl,rfl,rfl⟩ rfl rfl rfl rfl rfl (by kernel_rfl) Tryz.func9 (by kernel_rfl)
    (of_decide_eq_true (by kernel_rfl)) (by unfold Func.isWrapper;rw[if_neg (of_decide_eq_false (by kernel_rfl))];exact⟨rfl,rfl⟩)
    (fun os started H enc _ F=>by rw[OpenClaim.pre_eq_preRow];exact liftedUpto os started H enc F)
theorem plain (f:FuncId) (fn:Func) (hf:Tryz.pinned.checked.prog.funcNamed "acre/acrekeep.Halted" = some f) (hfn:Tryz.pinned.checked.prog.funcs[f]?=some fn) :
    true=Tryz.pinned.checked.prog.looks []/\∀ (j:Nat) t,fn.params[j]?=some t->Tryz.pinned.checked.prog.wantsStandIn t=false:=by
  obtain rfl:f=9:=Option.some.inj ((show Tryz.prog.funcNamed "acre/acrekeep.Halted" = some 9 by kernel_rfl).symm.trans hf) |>.symm
  obtain rfl:fn=Tryz.f9:=(Option.some.inj (Tryz.func9.symm.trans hfn)).symm
  refine⟨by kernel_rfl,fun j t ht=>?_⟩
  rw[Tryz.params9] at ht;have hm:t∈[25,3,50]:=by simpa using Array.mem_of_getElem? ht
  have hall:([25,3,50].all fun u=>!Tryz.prog.wantsStandIn u)=true:=by kernel_rfl
  exact(show Tryz.prog.wantsStandIn t=false by simpa using List.all_eq_true.1 hall t hm)
end halted
theorem haltedUpto_holds:Rows.HaltedUptoCardSaid :=
  Claim7.holds_tied_plain_at .later [] _ _ _ _ halted.saidUpto (fun _ h=>by cases h) (by kernel_rfl) (fun _ h=>by cases h) haltedUpto_row_tie rfl ⟨rfl,rfl⟩ (by kernel_rfl) rfl halted.plain (by kernel_rfl)
#print axioms haltedUpto_holds
end Go.Proofs.YtjnhhnbgjjkkjaaGreatDoor
