import Derived.OrdersIn
import Derived.RangeFuncCalls
import Derived.Shelf.Abstract
import Derived.Test.YtjnhhnbgjjkkjaaGreatDoorRePAB
set_option linter.all false
set_option maxRecDepth 100000
set_option maxHeartbeats 2000000
namespace Go.Proofs.YtjnhhnbgjjkkjaaGreatDoor
open Go.RowKit
def hO(P:Program)(o:Oper):Bool :=
 match o.op with
 | .move _|.load _ _|.store _ _ _|.convert _ _ _|.unOp _ _ _|.binOp _ _ _ _ _|.fieldAddr _ _ _|.field _ _ _|.extract _ _|.indexAddr _ _ _|.slice _ _ _ _ _|.alloc _|.box _ _=>true
 | .call c=>(match c.callee with
  | .value (.func f)=>(match P.funcs[f]? with|some fn=>!(fn.name == "runtime.NumGoroutine")&&fn.body.isSome|none=>false)
  | _=>false)
 | _=>false
theorem Ag{P:Program}{w w':World}{row args}(s:Sem Value):((do pure (Next.value (<- s))):Sem Next).run P w≠.ok (.row row args) w':=by
 rw[Sem.run_bind];cases s.run P w<;>simp
theorem Af{P:Program}{w w':World}{row args}(s:Sem Unit):((do s;pure Next.skip):Sem Next).run P w≠.ok (.row row args) w':=by
 rw[Sem.run_bind];cases s.run P w<;>simp
theorem wM{P:Program}{o:Oper}(h:hO P o=true)(a:Act)(w:World)(row)(args)(w':World):(execOp a.eval o).run P w≠.ok (.row row args) w':=by
 unfold hO at h;unfold execOp
 cases e:o.op<;>rw[e] at h<;>dsimp only at h ⊢<;>first|exact Bool.noConfusion h|exact Ag _|exact Af _|(simp;done)|skip
 rename_i c;have hc:∃ f,c.callee=.value (.func f)/\(match P.funcs[f]? with|some fn=>!(fn.name == "runtime.NumGoroutine")&&fn.body.isSome|none=>false)=true:=by
  split at h
  ·exact⟨_,by assumption,h⟩
  ·exact Bool.noConfusion h
 obtain⟨f,ec,h⟩:=hc;rcases ef:P.funcs[f]? with _|fn<;>rw[ef] at h<;>dsimp only at h
 ·exact Bool.noConfusion h
 ·rw[Bool.and_eq_true] at h;obtain⟨h1,h2⟩:=h;obtain⟨b,hb⟩:=Option.isSome_iff_exists.1 h2;have hE:=enters_of ef (by simpa using h1) hb
  simp[resolve,ec,Act.eval,Deferred.ofValue,invoke,hE _ _]
theorem qI{P:Program}{o:Oper}(h:hO P o=true)(c):o.op≠.defer c:=fun e=>by
 unfold hO at h;rw[e] at h;exact Bool.noConfusion h
section
variable {P:Program} {ops:Array Oper} {md:Region.Mode} {l n:Nat} {Q:Exit->Act->World->Prop}
theorem Gp(hQ:¬LetsOut Q){i:Nat}{K K':Act->World->Prop}(hK:∀ a w,K a w->K' a w){a:Act}{w:World}(hd:∀ o,ops[i]?=some o->∀ c,o.op≠.defer c)(hr:∀ o,ops[i]?=some o->∀ row args w',(execOp a.eval o).run P w≠.ok (.row row args) w')
  (h:wpOp P ops Q i K a w):wpOpIn (Fence.wide.inRound l) n P ops Q i K' a w:=by
 unfold wpOp at h;unfold wpOpIn;rcases e:ops[i]? with _|o
 ·rw[e] at h;exact hK _ _ h
 ·rw[e] at h;dsimp only at h ⊢
  by_cases hw:Region.wanted o (yielded ops a.tmps)=true
  ·rw[if_pos hw] at h ⊢;rcases h with h|⟨_,h⟩
   ·have hrow:=hr o e;unfold Oper.wp at h;refine⟨fun f _=>trivial,?_⟩
    rw[show (Fence.wide.inRound l).round=some l from rfl,Oper.semAt_some l a.eval o (hd o e)];generalize (execOp a.eval o).run P w=r at h hrow
    cases r with
    | ok x w' =>
     cases x with
     | value v=>exact hK _ _ h
     | skip=>exact hK _ _ h
     | defer d=>exact hK _ _ h
     | enter f args =>
      refine⟨fun q=>(by cases q),CallsIn.inRound l (callsIn_wide.2 ?_)⟩
      refine Calls.mono h ?_
      intro e w'' he
      cases e with
      | returned v=>exact hK _ _ he
      | panicked c=>exact he
      | outgrown=>exact he
     | row row args=>exact absurd rfl (hrow row args w')
     | _=>exact h.elim
    | halt x w' =>
     cases x<;>first|exact h|exact h.elim
   ·exact absurd h hQ
  ·rw[if_neg hw] at h ⊢;exact⟨fun f _=>trivial,hK _ _ h⟩
theorem yc(hQ:¬LetsOut Q)(hd:∀ (i:Nat) (o:Oper),ops[i]?=some o->∀ c,o.op≠.defer c)(hr:∀ (i:Nat) (o:Oper),ops[i]?=some o->∀ (a:Act) w row args w',(execOp a.eval o).run P w≠.ok (.row row args) w'):
  ∀ (fuel:Nat) (listed:Array Bool) (a:Act) (w:World),wpAny P md ops Q fuel listed a w->wpAnyIn (Fence.wide.inRound l) n P md ops Q fuel listed a w
 | 0,_,_,_,h=>h
 | fuel+1,_,_,_,h=>⟨h.1,fun i hi=>Gp hQ (fun a' w' h'=>yc hQ hd hr fuel _ a' w' h') (hd i) (fun o ho=>hr i o ho _ _) (h.2 i hi)⟩
def qG(Q:Exit->Act->World->Prop):Exit->Act->World->Prop
 | .normal,a,w=>Q .normal a w
 | _,_,_=>False
theorem nJ{id:Nat}{S:World->Prop}(hm:P.follows .mixedOrders=true)(hp:ops.all (hO P)=true){a:Act}{w:World}(hS:S w.drew)
  (h:S w.drew->wpAnyH P .any ops (qG Q) S ops.size (Array.replicate ops.size false) a w.drew):(Code.region id ops true).wpIn (Fence.wide.inRound l) n P Q a w:=by
 have ha:∀ (i:Nat) (o:Oper),ops[i]?=some o->hO P o=true:=fun i o ho=>by
  obtain⟨hi,he⟩:=Array.getElem?_eq_some_iff.1 ho
  rw[<- he];exact(Array.all_eq_true.1 hp) i hi
 have hQ:¬LetsOut (qG Q):=fun ⟨_,_,q⟩=>q
 refine wpIn_mono (wpIn_region_any hm (yc hQ (fun i o ho=>qI (ha i o ho)) (fun i o ho=>wM (ha i o ho)) _ _ _ _ (wpAny_of_held _ _ _ _ (h hS)))) ?_
 intro e a w h
 cases e<;>first|exact h|exact h.elim
end
end Go.Proofs.YtjnhhnbgjjkkjaaGreatDoor
