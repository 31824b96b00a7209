import Derived.RangeFuncNested
import Derived.Test.YtjnhhnbgjjkkjaaGreatDoorRePAB
set_option linter.all false
set_option maxRecDepth 100000
set_option maxHeartbeats 2000000
namespace Go.Proofs.YtjnhhnbgjjkkjaaGreatDoor
open Go.RowKit
section
variable {F:Fence} {n:Nat} {P:Program}
def DA(D:Nat)(B':World->Prop)(X:World->Prop)(W:World):Exit->Act->World->Prop
 | .normal,_,V=>V.heap[D]?=W.heap[D]?/\V.heap[D+1]?=W.heap[D+1]?/\B' V
 | .ret,_,V=>V.heap[D]?=W.heap[D]?/\V.heap[D+1]?=W.heap[D+1]?/\X V
 | _,_,_=>False
def Rdy(D:Nat)(R:LoopState->Option Code->Loop)(W:World):Prop:=W.heap[D]?=some (.deferred (some []))/\W.heap[D+1]?=some (.loop (R .ready none))
def Lft(D:Nat)(R:LoopState->Option Code->Loop)(W:World):Prop:=W.heap[D]?=some (.deferred (some []))/\W.heap[D+1]?=some (.loop (R .done (some .ret)))
theorem Rdy.same{D:Nat}{R:LoopState->Option Code->Loop}{W V:World}(h:Rdy D R W)(h1:V.heap[D]?=W.heap[D]?)(h2:V.heap[D+1]?=W.heap[D+1]?):Rdy D R V:=⟨h1.trans h.1,h2.trans h.2⟩
theorem nL{D:Nat}{fn:FuncId}{ps:Array Tmp}{tmps:Array Value}{assign body:Code}{R:LoopState->Option Code->Loop}(hR:R=fun st pe=>{ state:=st,pending:=pe,fn:=fn,tmps:=tmps,params:=ps,assign:=assign,body:=body,defers:=D })(hfn:F.fn fn)
  {x:Array Value} (hx:x.size=ps.size) (a₁:Act) {B' X:World->Prop}
  (sB:∀ W o,B' W->B' (W.putObj (D+1) o)) (sX:∀ W o,X W->X (W.putObj (D+1) o))
  {W:World} (hb:Rdy D R W)
  (ha:∀ K:Act->World->Prop,K a₁ W->assign.wpIn (F.inRound (D+1)) n P (Exit.then K (fun _ _ _=>False)) { tmps:=(ps.zip x).foldl (fun t (p,v)=>t.setIfInBounds p v) tmps,defers:=[] } W)
  (hbody:∀ o,body.wpIn (F.inRound (D+1)) n P (DA D B' X (W.putObj (D+1) o)) a₁ (W.putObj (D+1) o)) :
  YieldAt F n P (D+1) x W fun e V=>(e=.returned (.bool true)/\B' V/\Rdy D R V)\/(e=.returned (.bool false)/\X V/\Lft D R V):=by
 obtain⟨b1,b2⟩:=hb;have hlt:D+1<W.heap.size:=(Array.getElem?_eq_some_iff.1 b2).1
 have hy:=run_yield (P:=P) (args:=x) b2 (by rw[hR];exact hx)
 have hend:∀ (jump:Option Code) (V:World),V.heap[D]?=(W.putObj (D+1) (.loop { R .ready none with state:=.busy })).heap[D]?->V.heap[D+1]?=(W.putObj (D+1) (.loop { R .ready none with state:=.busy })).heap[D+1]? ->
   (Instr.endRound (D+1) jump).run P V=.ok (.bool jump.isNone) (V.putObj (D+1) (.loop (R (if jump.isNone then .ready else .done) jump)))/\(V.putObj (D+1) (.loop (R (if jump.isNone then .ready else .done) jump))).heap[D]?=some (.deferred (some []))/\(V.putObj (D+1) (.loop (R (if jump.isNone then .ready else .done) jump))).heap[D+1]?=some (.loop (R (if jump.isNone then .ready else .done) jump)):=fun jump V v1 v2=>by
  rw[World.putObj_heap_other om] at v1;rw[World.putObj_heap_same hlt] at v2;have h:=run_endRound (P:=P) jump v2
  have hz:D+1<V.heap.size:=(Array.getElem?_eq_some_iff.1 v2).1
  refine⟨?_,(World.putObj_heap_other om).trans (v1.trans b1),World.putObj_heap_same hz⟩
  rw[h,hR]
 have hbody':=hbody (.loop { R .ready none with state:=.busy })
 have hbr:=run_beginRound (P:=P) b2 (by rw[hR])
 rw[hR] at hy;refine⟨fn,_,assign,body,hy,roundIn_of_wpIn hfn (ha _ ⟨_,hbr,wpIn_mono hbody' ?_⟩)⟩
 intro e a V h
 cases e with
 | normal =>
  obtain⟨h1,h2,h3⟩:=h;obtain⟨e1,e2,e3⟩:=hend none V h1 h2;exact⟨_,_,e1,.inl ⟨rfl,sB _ _ h3,e2,e3⟩⟩
 | ret =>
  obtain⟨h1,h2,h3⟩:=h;obtain⟨e1,e2,e3⟩:=hend (some .ret) V h1 h2
  exact⟨_,_,e1,.inr ⟨rfl,sX _ _ h3,e2,e3⟩⟩
 | exit id=>exact h.elim
 | goto t=>exact h.elim
 | panic c=>exact h.elim
 | outgrown=>exact h.elim
theorem nE{g:Operand}{ps:Array Tmp}{assign body:Code}{Q:Exit->Act->World->Prop}{a:Act}{w:World}(hro:F.round=none)(h1:1<=n){gf:Nat}{lb:Array Value}(hg:a.eval g=.func (.func gf) #[] lb)(hFg:F.fn gf)(eg:∀ args w,(callFunc gf args).run P w=.ok (.enter gf args) w)
  (E X:World->Prop) (sE:∀ W o,E W->E (W.putObj (w.heap.size+1) o)) (sX:∀ W o,X W->X (W.putObj (w.heap.size+1) o))
  (hit:∀ fn,F.fn fn->∀ R:LoopState->Option Code->Loop,R=(fun st pe=>{ state:=st,pending:=pe,fn:=fn,tmps:=a.tmps,params:=ps,assign:=assign,body:=body,defers:=w.heap.size }) ->
   ∀ W1,Rdy w.heap.size R W1->Bl w W1->W1.heap.size=w.heap.size+2 ->
   CallsIn F (n-1) P gf (#[.func (.yield (w.heap.size+1)) #[] #[]]++lb) W1 fun e V=>(∃ v,e=.returned v)/\((E V/\Rdy w.heap.size R V)\/(X V/\Lft w.heap.size R V)))
  (hdone:∀ V,E V->V.heap[w.heap.size]?=some (.deferred (some []))->Q .normal { a with defers:={ target:=.collected w.heap.size,args:=#[] }::a.defers } V)
  (hstop:∀ V,X V->V.heap[w.heap.size]?=some (.deferred (some []))->Code.ret.wpIn F n P Q { a with defers:={ target:=.collected w.heap.size,args:=#[] }::a.defers } V) :
  (Code.rangeFunc g ps assign body).wpIn F n P Q a w:=by
 refine wpIn_rangeFunc fun fn hfn=>?_
 obtain⟨R,hR⟩:∃ R:LoopState->Option Code->Loop,R=fun st pe=>{ state:=st,pending:=pe,fn:=fn,tmps:=a.tmps,params:=ps,assign:=assign,body:=body,defers:=w.heap.size }:=⟨_,rfl⟩
 obtain⟨W1,hW1⟩:∃ W1,W1=(w.alloc (.deferred (some []))).alloc (.loop (R .ready none)):=⟨_,rfl⟩
 have q1:W1.heap[w.heap.size]?=some (.deferred (some [])):=by rw[hW1];exact(Below.heap_alloc _ _ _ sM).trans (World.alloc_heap_new w _)
 have q2:W1.heap[w.heap.size+1]?=some (.loop (R .ready none)):=by
  have h:=World.alloc_heap_new (w.alloc (.deferred (some []))) (.loop (R .ready none))
  rw[World.size_alloc] at h;rw[hW1];exact h
 have q3:Bl w W1:=by rw[hW1];exact((Below.refl _ w).alloc (Nat.le_refl _) _).alloc sM _
 have q4:W1.heap.size=w.heap.size+2:=by rw[hW1];simp
 refine⟨w.heap.size+1,[{ target:=.collected w.heap.size,args:=#[] }],W1,{ target:=.fn (.func gf) lb,args:=#[.func (.yield (w.heap.size+1)) #[] #[]] },W1,gf,#[.func (.yield (w.heap.size+1)) #[] #[]]++lb,W1,?_,?_,?_,?_,fun _=>h1,?_⟩
 ·rw[hro,hW1,hR];exact run_enterLoop_outer _ _ _ _ _
 ·simp only[resolve,hg]
  simp[go_sem]
 ·intro f' hf';simp[Target.leads] at hf'
  subst hf';exact hFg
 ·simp[invoke,go_sem,eg]
 ·refine(hit fn hfn R hR W1 ⟨q1,q2⟩ q3 q4).mono ?_
  rintro e V ⟨⟨v,rfl⟩,⟨hE,b1,b2⟩|⟨hX,b1,b2⟩⟩
  ·have hl:=run_endLoop (P:=P) b2 (by rw[hR];simp)
   refine⟨none,_,by rw[hl,hR],hdone _ (sE _ _ hE) ((World.putObj_heap_other om).trans b1)⟩
  ·have hl:=run_endLoop (P:=P) b2 (by rw[hR];simp)
   refine⟨some .ret,_,by rw[hl,hR],hstop _ (sX _ _ hX) ((World.putObj_heap_other om).trans b1)⟩
end
end Go.Proofs.YtjnhhnbgjjkkjaaGreatDoor
