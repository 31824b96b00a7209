import Derived.RangeFuncBound
import Derived.Shelf.RegionOpen
import Derived.OwnWalkIn
import Derived.LoopNIn
import Derived.LoopIn
import Derived.Test.YtjnhhnbgjjkkjaaGreatDoorRePAZ
set_option linter.all false
set_option maxRecDepth 100000
set_option maxHeartbeats 2000000
namespace Go.Proofs.YtjnhhnbgjjkkjaaGreatDoor
open Go.RowKit Go.Shelf Go.Proofs.Tryz
attribute [local go_sem] Oper.semAt_some
theorem dD(x:Int)(h0:-1000<=x)(h1:x<=10000000000):IntKind.i64.wrap x=x:=by simp[IntKind.wrap,IntKind.signed,IntKind.bits];omega
theorem yB(n:Nat)(hn:1<=n)(l b4 b5 b6 L c:Nat)(hL:L<=1000000)(hLc:L<=c)(J:Nat->World->Prop)(X:World->Prop)(W1:World)
  (hd:Hid (∀ j W,J j W->J j W.drew))
  (hs:Hid (∀ j W,J j W->W.cell? (At b5 0)=some (Sq b4 L c)/\W.cell? (At b6 0)=some (I6 64)))
  (hY:Hid (∀ j W,J j W->64*j<L->YieldAt Fence.wide (n-1) prog l #[.slice (some (At b4 (64*j))) (min 64 (L-64*j)) (min 64 (L-64*j))] W fun e V=>(e=.returned (.bool true)/\J (j+1) V)\/(e=.returned (.bool false)/\X V)))
  (h0:J 0 W1) :
  CallsIn Fence.wide n prog 201 #[.func (.yield l) #[] #[],Pq b5,Pq b6] W1 fun e V=>(∃ v,e=.returned v)/\((∃ j,L<=64*j/\64*j<L+64/\J j V)\/X V):=by
 refine callsIn_of_wp func201 rfl trivial ?_ rfl
 simp only[ntmps201,List.size_toArray,List.length_cons,List.length_nil,Nat.reduceAdd,Nat.reduceSub,Array.replicate_succ,Array.replicate_zero,List.push_toArray,List.append_toArray,List.nil_append,List.cons_append]
 gi_wp2
 gi_loopw [4] (fun i wr=>∃ (j m:Nat),m=64*j/\i=I6 m/\m<L+64/\J j wr) (fun i _=>(L+64)-(intOf i).toNat)
 case atStart=>exact⟨0,0,rfl,rfl,by omega,h0⟩
 case round =>
  obtain⟨j,m,hm,rfl,hj,hJ⟩:=hrel;obtain⟨c5,c6⟩:=hs.o j wr hJ;have HM:Hid (m=64*j):=hm
  have HJ:Hid (J j wr):=hJ
  by_cases hlt:m<L
  ·have hY1:=hY.o j wr.drew (hd.o _ _ hJ) om
   have hmz:(m:Int)<(L:Int):=by omega
   have hm0:(0:Int)<=(m:Int):=by omega
   have hmL:(m:Int)<=(L:Int):=by omega
   by_cases h64:L-m<64
   ·have hmin:((L-m:Nat):Int)<64:=by omega
    rw[<- hm,show min 64 (L-m)=L-m by omega] at hY1
    obtain⟨fn,tmps,assign,body,hy,hR⟩:=hY1;have hw1:IntKind.i64.wrap ((m:Int)+((L-m:Nat):Int))=L:=by rw[dD _ om om];omega
    clear hm hJ hY;gi_wp2
    gi_region
    all_goals (
     gi_wp2
     refine hR.mono ?_
     rintro e W3 (⟨rfl,hJ3⟩|⟨rfl,hX3⟩)
     ·obtain⟨c51,c61⟩:=hs.o _ _ hJ3;have HJ3:Hid (J (j+1) W3):=hJ3
      clear hJ3;have hw2:IntKind.i64.wrap ((m:Int)+64)=m+64:=dD _ om om
      gi_wp2
      go_roundw
      case rel=>exact⟨j+1,m+64,by have:=HM.o;omega,by simp,by omega,HJ3.o⟩
      case measure=>simp[intOf];omega
     ·gi_wp2
      refine bodyPost_ret (results_none rfl _ _ _) rfl ?_
      exact⟨⟨_,rfl⟩,.inr hX3⟩)
   ·have hmin:¬((L-m:Nat):Int)<64:=by omega
    rw[<- hm,show min 64 (L-m)=64 by omega] at hY1
    obtain⟨fn,tmps,assign,body,hy,hR⟩:=hY1;have hw1:IntKind.i64.wrap ((m:Int)+64)=m+64:=dD _ om om
    have hm6:(m:Int)+64<=(L:Int):=by omega
    clear hm hJ hY;gi_wp2
    gi_region
    all_goals (
     gi_wp2
     refine hR.mono ?_
     rintro e W3 (⟨rfl,hJ3⟩|⟨rfl,hX3⟩)
     ·obtain⟨c51,c61⟩:=hs.o _ _ hJ3;have HJ3:Hid (J (j+1) W3):=hJ3
      clear hJ3;have hw2:IntKind.i64.wrap ((m:Int)+64)=m+64:=dD _ om om
      gi_wp2
      go_roundw
      case rel=>exact⟨j+1,m+64,by have:=HM.o;omega,by simp,by omega,HJ3.o⟩
      case measure=>simp[intOf];omega
     ·gi_wp2
      refine bodyPost_ret (results_none rfl _ _ _) rfl ?_
      exact⟨⟨_,rfl⟩,.inr hX3⟩)
  ·have hmz:¬(m:Int)<(L:Int):=by omega
   gi_wp2
   go_end0
   exact⟨⟨_,rfl⟩,.inl ⟨j,by have:=HM.o;omega,by have:=HM.o;omega,HJ.o⟩⟩
end Go.Proofs.YtjnhhnbgjjkkjaaGreatDoor
