import Derived.Test.YtjnhhnbgjjkkjaaGreatDoorRePAU
import Derived.Test.YtjnhhnbgjjkkjaaGreatDoorRePAE
set_option linter.all false
set_option maxRecDepth 100000
set_option maxHeartbeats 2000000
namespace Go.Proofs.YtjnhhnbgjjkkjaaGreatDoor
open Go.ChangeShapes Go.WideShapes Go.ChangeAt Go.RowKit Go.Proofs.Tryz
theorem Blk.alloc{w:World}{g:Nat}{cs:Array Value}{t:TypeId}(h:Blk w g cs t)(o:Obj):Blk (w.alloc o) g cs t:=(Below.heap_alloc w o g h.lt).trans h
structure Upd(w w':World)(g:Nat)(cs:Array Value)(t:TypeId):Prop where
 os:w'.os=w.os
 tape:w'.tape=w.tape
 output:w'.output=w.output
 size:w'.heap.size=w.heap.size
 other:∀ b,b≠g->w'.heap[b]?=w.heap[b]?
 blk:Blk w' g cs t
theorem Upd.refl{w:World}{g:Nat}{cs:Array Value}{t:TypeId}(h:Blk w g cs t):Upd w w g cs t:=⟨rfl,rfl,rfl,rfl,fun _ _=>rfl,h⟩
theorem Upd.set{w w':World}{g:Nat}{cs cs':Array Value}{t:TypeId}(h:Upd w w' g cs t)(i:Nat)(v:Value)(hc:cs.setIfInBounds i v=cs'):Upd w (w'.setCell (At g i) v) g cs' t:=by
 subst hc;exact⟨h.os,h.tape,h.output,by simp[World.setCell,h.size],fun b hb=>(Below.heap_setCell _ _ _ _ hb).trans (h.other b hb),h.blk.set i v⟩
def cH(left:Int)(st:Bool):Bool:=!(st||left==0)
def bK(left:Int)(st:Bool):Int:=if cH left st&&decide (0<left) then left-1 else left
def stS(left:Int)(st:Bool):Bool:=st||left==0
def ku(left:Int)(st:Bool)(n:Int):Int:=if stS left st then left else if n<0 then -1 else n
def dB(vs vn vl:Value)(left:Int)(st:Bool):Array Value:=#[vs,vn,vl,I6 left,.bool st]
theorem j7(w:World)(g:Nat)(vs vn vl:Value)(left:Int)(st:Bool)(hB:Blk w g (dB vs vn vl left st) 112):Calls prog 31 #[Pq g] w fun e w'=>e=.returned (.bool (stS left st))/\w'=w:=by
 have c3:w.cell? (At g 3)=some (I6 left):=hB.cell 3
 have c4:w.cell? (At g 4)=some (.bool st):=hB.cell 4
 clear hB
 cases st
 ·go_enter func31,ntmps31
  go_wp2;go_ret;exact⟨aC (by simp[stS]),rfl⟩
 ·go_enter func31,ntmps31
  go_wp2;go_ret;exact⟨aC (by simp[stS]),rfl⟩
theorem Bh(w:World)(g:Nat)(vs vn vl:Value)(left:Int)(st:Bool)(h1:left<9223372036854775808)(hB:Blk w g (dB vs vn vl left st) 112):Calls prog 149 #[Pq g] w fun e w'=>e=.returned (.bool (cH left st))/\Upd w w' g (dB vs vn vl (bK left st) (stS left st)) 112:=by
 have c3:w.cell? (At g 3)=some (I6 left):=hB.cell 3
 have c4:w.cell? (At g 4)=some (.bool st):=hB.cell 4
 have f3:w.frozen? (At g 3)=false:=hB.frozen 3
 have f4:w.frozen? (At g 4)=false:=hB.frozen 4
 have U:=Upd.refl hB;have HU:Hid (Upd w w g (dB vs vn vl left st) 112):=U
 clear hB U;by_cases h0:left=0
 ·subst h0
  cases st
  ·go_enter func149,ntmps149
   go_wp2;go_ret;exact⟨rfl,HU.o.set 4 _ rfl⟩
  ·go_enter func149,ntmps149
   go_wp2;go_ret;exact⟨rfl,HU.o.set 4 _ rfl⟩
 ·have h0':(left==0)=false:=by simpa using h0
  cases st
  ·by_cases hp:0<left
   ·have e:bK left false=left-1:=by simp[bK,cH,h0',hp]
    have e2:cH left false=true:=by simp[cH,h0']
    have e3:stS left false=false:=by simp[stS,h0']
    rw[e,e2,e3];go_enter func149,ntmps149
    go_wp2;go_ret;exact⟨rfl,HU.o.set 3 _ rfl⟩
   ·have e:bK left false=left:=by simp[bK,cH,h0',hp]
    have e2:cH left false=true:=by simp[cH,h0']
    have e3:stS left false=false:=by simp[stS,h0']
    rw[e,e2,e3];go_enter func149,ntmps149
    go_wp2;go_ret;exact⟨rfl,HU.o⟩
  ·have e:bK left true=left:=by simp[bK,cH]
   have e2:cH left true=false:=by simp[cH]
   have e3:stS left true=true:=by simp[stS]
   rw[e,e2,e3];go_enter func149,ntmps149
   go_wp2;go_ret;exact⟨rfl,HU.o.set 4 _ rfl⟩
theorem FC(w:World)(g:Nat)(vs vn vl:Value)(left n:Int)(st:Bool)(n0:-9223372036854775808<=n)(n1:n<9223372036854775808)(hB:Blk w g (dB vs vn vl left st) 112):Calls prog 30 #[Pq g,I6 n] w fun e w'=>e=.returned (.tuple #[])/\Upd w w' g (dB vs vn vl (ku left st n) st) 112:=by
 have c3:w.cell? (At g 3)=some (I6 left):=hB.cell 3
 have f3:w.frozen? (At g 3)=false:=hB.frozen 3
 have HU:Hid (Upd w w g (dB vs vn vl left st) 112):=Upd.refl hB
 have hs:Hid (Calls prog 31 #[Pq g] w fun e w'=>e=.returned (.bool (stS left st))/\w'=w):=j7 w g vs vn vl left st hB
 clear hB;rcases e3:stS left st with _|_
 ·rw[e3] at hs;by_cases hn:n<0
  ·have e:ku left st n=-1:=by simp[ku,e3,hn]
   rw[e];clear e;go_enter func30,ntmps30
   go_wp2_with (go_at_call 31;refine hs.o.mono ?_;rintro e w1 ⟨rfl,rfl⟩)
   all_goals (first|go_end0|refine bodyPost_ret (results_none rfl _ _ _) rfl ?_)
   all_goals exact⟨rfl,by first|exact HU.o|exact HU.o.set 3 _ rfl|(obtain rfl:n=-1:=om;exact HU.o.set 3 _ rfl)⟩
  ·have e:ku left st n=n:=by simp[ku,e3,hn]
   rw[e];clear e;go_enter func30,ntmps30
   go_wp2_with (go_at_call 31;refine hs.o.mono ?_;rintro e w1 ⟨rfl,rfl⟩)
   all_goals (first|go_end0|refine bodyPost_ret (results_none rfl _ _ _) rfl ?_)
   all_goals exact⟨rfl,by first|exact HU.o|exact HU.o.set 3 _ rfl|(obtain rfl:n=-1:=om;exact HU.o.set 3 _ rfl)⟩
 ·rw[e3] at hs;have e:ku left st n=left:=by simp[ku,e3]
  rw[e];clear e;go_enter func30,ntmps30
  go_wp2_with (go_at_call 31;refine hs.o.mono ?_;rintro e w1 ⟨rfl,rfl⟩)
  all_goals (first|go_end0|refine bodyPost_ret (results_none rfl _ _ _) rfl ?_)
  all_goals exact⟨rfl,by first|exact HU.o|exact HU.o.set 3 _ rfl|(obtain rfl:n=-1:=om;exact HU.o.set 3 _ rfl)⟩
end Go.Proofs.YtjnhhnbgjjkkjaaGreatDoor
