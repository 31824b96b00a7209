/-
  DiskC
-/
import Derived.Deep.AppendLies
import Derived.Test.YtjnhhnbgjjkkjaaGreatDoorBasePBE
import Derived.Test.YtjnhhnbgjjkkjaaGreatDoorBasePAK
namespace Go.Proofs.YtjnhhnbgjjkkjaaGreatDoor
open Go.ChangeShapes Go.WideShapes Go.ChangeAt Go.RowKit
set_option linter.unusedVariables false
set_option linter.unusedSimpArgs false
theorem Blk.alloc {w:World} {g:Nat} {cs:Array Value} {t:TypeId} (h:Blk w g cs t) (o:Obj):Blk (w.alloc o) g cs t:=(Below.heap_alloc w o g h.lt).trans h
structure Upd (w w':World) (g:Nat) (cs:Array Value) (t:TypeId):Prop where
  os:w'.os=w.os
  tape:w'.tape=w.tape
  output:w'.output=w.output
  size:w'.heap.size=w.heap.size
  other:∀ b,b≠g->w'.heap[b]?=w.heap[b]?
  blk:Blk w' g cs t
theorem Upd.refl {w:World} {g:Nat} {cs:Array Value} {t:TypeId} (h:Blk w g cs t):Upd w w g cs t:=⟨rfl,rfl,rfl,rfl,fun _ _=>rfl,h⟩
theorem Upd.set {w w':World} {g:Nat} {cs cs':Array Value} {t:TypeId} (h:Upd w w' g cs t) (i:Nat) (v:Value) (hc:cs.setIfInBounds i v=cs'):Upd w (w'.setCell ⟨g,i,none⟩ v) g cs' t:=by
  subst hc;exact⟨h.os,h.tape,h.output,by simp[World.setCell,h.size],fun b hb=>(Below.heap_setCell _ _ _ _ hb).trans (h.other b hb),h.blk.set i v⟩
def stOk (left:Int) (st:Bool):Bool:=!(st||left==0)
def leftS (left:Int) (st:Bool):Int:=if stOk left st&&decide (0<left) then left-1 else left
def stS (left:Int) (st:Bool):Bool:=st||left==0
def dB (vs vn vl:Value) (left:Int) (st:Bool):Array Value:=#[vs,vn,vl,.int .i64 left,.bool st]
set_option maxHeartbeats 400000 in
theorem stopped_d (w:World) (g:Nat) (vs vn vl:Value) (left:Int) (st:Bool) (hB:Blk w g (dB vs vn vl left st) 112) :
    Calls Tryz.prog 31 #[.pointer (some ⟨g,0,none⟩)] w fun e w'=>e=.returned (.bool (stS left st))/\w'=w:=by
  have c3:w.cell? ⟨g,3,none⟩=some (.int .i64 left):=hB.cell 3
  have c4:w.cell? ⟨g,4,none⟩=some (.bool st):=hB.cell 4
  clear hB
  cases st
  . go_enter Tryz.func31,Tryz.ntmps31
    go_wp2;go_ret;exact⟨ret_bool (by simp[stS]),rfl⟩
  . go_enter Tryz.func31,Tryz.ntmps31
    go_wp2;go_ret;exact⟨ret_bool (by simp[stS]),rfl⟩
set_option maxHeartbeats 400000 in
theorem step_d (w:World) (g:Nat) (vs vn vl:Value) (left:Int) (st:Bool) (h1:left<9223372036854775808) (hB:Blk w g (dB vs vn vl left st) 112) :
    Calls Tryz.prog 149 #[.pointer (some ⟨g,0,none⟩)] w fun e w'=>e=.returned (.bool (stOk left st))/\Upd w w' g (dB vs vn vl (leftS left st) (stS left st)) 112:=by
  have c3:w.cell? ⟨g,3,none⟩=some (.int .i64 left):=hB.cell 3
  have c4:w.cell? ⟨g,4,none⟩=some (.bool st):=hB.cell 4
  have f3:w.frozen? ⟨g,3,none⟩=false:=hB.frozen 3
  have f4:w.frozen? ⟨g,4,none⟩=false:=hB.frozen 4
  have U:=Upd.refl hB;have HU:Hid (Upd w w g (dB vs vn vl left st) 112):=U
  clear hB U;by_cases h0:left=0
  . subst h0
    cases st
    . go_enter Tryz.func149,Tryz.ntmps149
      go_wp2;go_ret;exact⟨rfl,HU.out.set 4 _ rfl⟩
    . go_enter Tryz.func149,Tryz.ntmps149
      go_wp2;go_ret;exact⟨rfl,HU.out.set 4 _ rfl⟩
  . have h0':(left==0)=false:=by simpa using h0
    cases st
    . by_cases hp:0<left
      . have e:leftS left false=left-1:=by simp[leftS,stOk,h0',hp]
        have e2:stOk left false=true:=by simp[stOk,h0']
        have e3:stS left false=false:=by simp[stS,h0']
        rw[e,e2,e3];go_enter Tryz.func149,Tryz.ntmps149
        go_wp2;go_ret;exact⟨rfl,HU.out.set 3 _ rfl⟩
      . have e:leftS left false=left:=by simp[leftS,stOk,h0',hp]
        have e2:stOk left false=true:=by simp[stOk,h0']
        have e3:stS left false=false:=by simp[stS,h0']
        rw[e,e2,e3];go_enter Tryz.func149,Tryz.ntmps149
        go_wp2;go_ret;exact⟨rfl,HU.out⟩
    . have e:leftS left true=left:=by simp[leftS,stOk]
      have e2:stOk left true=false:=by simp[stOk]
      have e3:stS left true=true:=by simp[stS]
      rw[e,e2,e3];go_enter Tryz.func149,Tryz.ntmps149
      go_wp2;go_ret;exact⟨rfl,HU.out.set 4 _ rfl⟩
end Go.Proofs.YtjnhhnbgjjkkjaaGreatDoor
