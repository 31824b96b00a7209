import Derived.Test.YtjnhhnbgjjkkjaaGreatDoorRePAD
set_option linter.all false
set_option maxRecDepth 100000
set_option maxHeartbeats 2000000
namespace Go.Proofs.YtjnhhnbgjjkkjaaGreatDoor
open Go.ChangeShapes Go.WideShapes Go.ChangeAt Go.RowKit
def Blk(w:World)(g:Nat)(cs:Array Value)(t:TypeId):Prop:=w.heap[g]?=some (.cells cs t (0,0))
theorem Blk.lt{w:World}{g:Nat}{cs:Array Value}{t:TypeId}(h:Blk w g cs t):g<w.heap.size:=(Array.getElem?_eq_some_iff.1 h).1
theorem Blk.cell{w:World}{g:Nat}{cs:Array Value}{t:TypeId}(h:Blk w g cs t)(i:Nat):w.cell? (At g i)=cs[i]?:=cell_of_row w g i cs t (0,0) h
theorem Blk.frozen{w:World}{g:Nat}{cs:Array Value}{t:TypeId}(h:Blk w g cs t)(i:Nat):w.frozen? (At g i)=false:=by
 unfold Blk at h;simp[World.frozen?,h]
theorem Blk.new(w:World)(cs:Array Value)(t:TypeId):Blk (w.alloc (.cells cs t)) w.heap.size cs t:=heap_alloc_new w _
theorem Blk.set{w:World}{g:Nat}{cs:Array Value}{t:TypeId}(h:Blk w g cs t)(i:Nat)(v:Value):Blk (w.setCell (At g i) v) g (cs.setIfInBounds i v) t:=by
 unfold Blk at h ⊢
 simp[World.setCell,Array.getElem?_modify,h]
theorem Blk.below{w w':World}{g:Nat}{cs:Array Value}{t:TypeId}(h:Blk w g cs t)(hb:Bl w w'):Blk w' g cs t:=(hb.block g h.lt).trans h
def bB(l:List Value)(o:Nat)(cs:List Value):List Value:=l.take o++cs++l.drop (o+cs.length)
theorem bL(l:List Value)(o:Nat)(cs:List Value)(h:o+cs.length<=l.length):(bB l o cs).length=l.length:=by
 unfold bB;simp;omega
theorem wQ(l:List Value)(o:Nat)(v:Value)(r:List Value)(h:o+(r.length+1)<=l.length):bB (l.set o v) (o+1) r=bB l o (v::r):=by
 unfold bB;rw[List.drop_set_of_lt om,List.take_set,List.length_cons,show o+1+r.length=o+(r.length+1) by omega]
 congr 1
 rw[List.take_succ_eq_append_getElem (show o<l.length by omega),List.set_append_right _ _ (by simp;omega)]
 simp[Nat.min_eq_left (show o<=l.length by omega)]
theorem Blk.sets{g:Nat}{t:TypeId}(cs:List Value):∀ {w:World} {cur:Array Value} (o:Nat),Blk w g cur t->o+cs.length<=cur.size->Blk (w.setCells g o cs) g (bB cur.toList o cs).toArray t:=by
 induction cs with
 | nil=>intro w cur o h _;simpa[World.setCells,bB] using h
 | cons v r ih =>
  intro w cur o h hl;rw[List.length_cons] at hl;have:=ih (o+1) (h.set o v) (by simp;omega)
  rw[Array.toList_setIfInBounds,wQ _ _ _ _ (by simpa using hl)] at this
  exact this
theorem aK(b:Nat)(cs:List Value):∀ (o:Nat) (w:World),(w.setCells b o cs).os=w.os/\(w.setCells b o cs).tape=w.tape/\(w.setCells b o cs).output=w.output/\(w.setCells b o cs).heap.size=w.heap.size/\∀ k,k≠b->(w.setCells b o cs).heap[k]?=w.heap[k]?:=by
 induction cs with
 | nil=>intro o w;exact⟨rfl,rfl,rfl,rfl,fun _ _=>rfl⟩
 | cons v r ih =>
  intro o w;obtain⟨h1,h2,h3,h4,h5⟩:=ih (o+1) (w.setCell (At b o) v)
  refine⟨h1,h2,h3,by rw[World.setCells,h4];simp[World.setCell],fun k hk=>?_⟩
  rw[World.setCells,h5 k hk];exact Below.heap_setCell _ _ _ _ hk
theorem aP{w w':World}{row:Option Nat}(h:w.grownBy w' row)(b o:Nat)(cs:List Value)(hb:row=some b\/w.heap.size<=b):w.grownBy (w'.setCells b o cs) row:=by
 obtain⟨h1,h2,h3,h4,h5⟩:=aK b cs o w';refine⟨h1.trans h.os,h2.trans h.tape,h3.trans h.output,by rw[h4];exact h.size,fun k hk hr=>?_⟩
 have:k≠b:=by rintro rfl;rcases hb with e|e;exact hr e.symm;omega
 exact(h5 k this).trans (h.block k hk hr)
theorem dC(w:World)(row:Option Nat):w.grownBy w row:=⟨rfl,rfl,rfl,Nat.le_refl _,fun _ _ _=>rfl⟩
theorem cV{w w':World}{row:Option Nat}(h:w.grownBy w' row):w.grownBy w'.drew row:=⟨h.os,h.tape,h.output,h.size,h.block⟩
theorem sL(A B R vs:List Value)(k:Nat)(hk:vs.length=k)(hR:k<=R.length):bB (bB (A++B++R) (A.length+k) B) A.length vs=A++vs++B++R.drop k:=by
 have e1:bB (A++B++R) (A.length+k) B=A++((B++R).take k++(B++R.drop k)):=by
  unfold bB;rw[List.append_assoc A B R,List.take_append,List.drop_append];simp only[Nat.add_sub_cancel_left,List.take_of_length_le (show A.length<=A.length+k by omega),List.drop_eq_nil_of_le (show A.length<=A.length+k+B.length by omega),List.nil_append,show A.length+k+B.length-A.length=B.length+k by omega,List.drop_append,List.drop_eq_nil_of_le (show B.length<=B.length+k by omega),List.append_assoc]
 rw[e1];have hl:((B++R).take k).length=k:=by simp;omega
 unfold bB;rw[List.take_left,hk,List.drop_append];simp only[Nat.add_sub_cancel_left,List.drop_eq_nil_of_le (show A.length<=A.length+k by omega),List.nil_append]
 rw[List.drop_left' hl];simp
theorem oj(A B Z vs:List Value)(k:Nat)(hk:vs.length=k)(hZ:k+B.length<=Z.length):bB (bB (A++Z) A.length vs) (A.length+k) B=A++vs++B++Z.drop (k+B.length):=by
 have e1:bB (A++Z) A.length vs=(A++vs)++Z.drop k:=by
  unfold bB;rw[List.take_left,hk,List.drop_append];simp only[Nat.add_sub_cancel_left,List.drop_eq_nil_of_le (show A.length<=A.length+k by omega),List.nil_append]
 rw[e1];have hl:(A++vs).length=A.length+k:=by simp[hk]
 unfold bB;rw[List.take_left' hl,List.drop_append,hl];simp only[Nat.add_sub_cancel_left,List.drop_eq_nil_of_le (show (A++vs).length<=A.length+k+B.length by rw[hl];omega),List.nil_append,List.drop_drop]
theorem se(A M B R Z:List Value)(k:Nat)(hM:M.length=k)(hZ:Z.length=k):bB (bB (A++M++B++R) A.length B) (A.length+B.length) Z=A++B++Z++R:=by
 have e1:bB (A++M++B++R) A.length B=(A++B)++((M++B).drop B.length++R):=by
  unfold bB;rw[List.append_assoc A M B,List.append_assoc A (M++B) R,List.take_left,List.drop_append];simp only[Nat.add_sub_cancel_left,List.drop_eq_nil_of_le (show A.length<=A.length+B.length by omega),List.nil_append]
  rw[List.drop_append_of_le_length sM]
 rw[e1];have hl:(A++B).length=A.length+B.length:=by simp
 have hq:((M++B).drop B.length).length=k:=by simp;omega
 unfold bB;rw[List.take_left' hl,List.drop_append,hl,hZ];simp only[Nat.add_sub_cancel_left,List.drop_eq_nil_of_le (show (A++B).length<=A.length+B.length+k by rw[hl];omega),List.nil_append]
 rw[List.drop_left' hq]
section
variable {P:Program}
theorem bX(w:World)(dT sT ty elem:TypeId)(k:Nat)(b o dLen dCap:Nat)(a:Addr)(sLen sCap:Nat)(cs:List Value)
  (hu:P.underlying dT=some (.slice elem)) (hs:(P.info? elem).map (·.size)=some k) (m:Nat) (hm:Nat.min sLen dLen=m) (hn:cs.length=m*k)
  (hsrc:∀ j v,cs[j]?=some v->w.cell? (a.add j)=some v) (hc:∀ j,j<cs.length->(w.cell? (At b (o+j))).isSome=true) (hf:∀ j,j<cs.length->w.frozen? (At b (o+j))=false) (h1:∀ v∈cs,v.oneCell'=true) :
  (Builtin.copy_ #[dT,sT] ty #[.slice (some (At b o)) dLen dCap,.slice (some a) sLen sCap]).run P w=.ok (goInt m) (w.setCells b o cs):=by
 have hl:=run_loadCells_list (P:=P) w a cs hsrc
 have hst:=run_storeCells_cells (P:=P) b o cs 0 w (by simpa using hc) (by simpa using hf) h1
 cases hq:P.info? elem with
 | none=>simp[hq] at hs
 | some i =>
  have hi:i.size=k:=by simpa[hq] using hs
  subst hm;simp[Builtin.copy_,run_underlying hu,Builtin.lenOf,Builtin.firstCells,sizeOf,typeInfo,hq,hi,<- hn,hl,hst]
theorem fF(w:World)(t e ty:TypeId)(z:Value)(ht:P.underlying t=some (.slice e))(hv:∀ w,(zeroValue e).run P w=.ok z w)(b o c:Nat)
  (hc:∀ j,j<z.cells.size->(w.cell? (At b (o+j))).isSome=true) (hf:∀ j,j<z.cells.size->w.frozen? (At b (o+j))=false) (h1:∀ u∈z.cells.toList,u.oneCell'=true) :
  (Builtin.clear_ #[t] ty #[.slice (some (At b o)) 1 c]).run P w=.ok (.tuple #[]) (w.setCells b o z.cells.toList):=by
 have hzc:(Builtin.zeroCells z.cells 1).toList=z.cells.toList:=by
  simp only[Builtin.zeroCells]
  apply List.ext_getElem
  ·simp
  ·intro i h1 h2;simp at h1 h2;simp[Nat.mod_eq_of_lt h2,getElem!_pos z.cells i h2]
 have hst:=run_storeCells_cells (P:=P) b o z.cells.toList 0 w (by simpa using hc) (by simpa using hf) h1
 simp only[Nat.add_zero] at hst
 simp[Builtin.clear_,run_underlying ht,hv,hzc,hst]
end
end Go.Proofs.YtjnhhnbgjjkkjaaGreatDoor
