import Derived.Test.YtjnhhnbgjjkkjaaGreatDoorRePAY
import Derived.Test.YtjnhhnbgjjkkjaaGreatDoorRePBA
set_option linter.all false
set_option maxRecDepth 100000
set_option maxHeartbeats 2000000
namespace Go.Proofs.YtjnhhnbgjjkkjaaGreatDoor
open Go.RowKit
theorem Stp.fresh{R:Nat->Prop}{ρ ρ':Nat->Nat}{w W:World}(h:Stp R ρ ρ' w W){b i:Nat}(hb:w.heap.size<=b)(v:Value):Stp R ρ ρ' w (W.setCell (At b i) v) :=
 ⟨h.os,h.tape,h.output,by simpa[World.setCell,Bl] using h.size,h.role,fun c hc hr=>(Below.heap_setCell _ _ _ _ (show c≠b by omega)).trans (h.block c hc hr),fun c hc=>h.clean c (by simpa[World.setCell,Bl] using hc)⟩
theorem Stp.freshP{R:Nat->Prop}{ρ ρ':Nat->Nat}{w W:World}(h:Stp R ρ ρ' w W){b:Nat}(hb:w.heap.size<=b)(o:Obj):Stp R ρ ρ' w (W.putObj b o) :=
 ⟨h.os,h.tape,h.output,by rw[World.putObj_size];exact h.size,h.role,fun c hc hr=>(World.putObj_heap_other om).trans (h.block c hc hr),fun c hc=>h.clean c (by rw[World.putObj_size] at hc;exact hc)⟩
theorem Stp.put{R:Nat->Prop}{ρ:Nat->Nat}{W:World}(hc:cO ρ W){b:Nat}(hb:R (ρ b))(o:Obj):Stp R ρ ρ W (W.putObj b o) :=
 ⟨rfl,rfl,rfl,by rw[World.putObj_size];exact Nat.le_refl _,fun _ _=>rfl,fun c hl hr=>World.putObj_heap_other (fun e=>hr (e ▸ hb)),fun c h=>hc c (by rw[World.putObj_size] at h;exact h)⟩
theorem Blk.put{w:World}{g:Nat}{cs:Array Value}{t:TypeId}(h:Blk w g cs t){b:Nat}(hb:g≠b)(o:Obj):Blk (w.putObj b o) g cs t:=(World.putObj_heap_other hb).trans h
theorem Blk.other{w:World}{g:Nat}{cs:Array Value}{t:TypeId}(h:Blk w g cs t){b i:Nat}(hb:g≠b)(v:Value):Blk (w.setCell (At b i) v) g cs t:=(Below.heap_setCell _ _ _ _ hb).trans h
theorem eY{w W:World}{b i:Nat}(e:W.heap[b]?=w.heap[b]?):W.cell? (At b i)=w.cell? (At b i):=World.cell?_of_block (a:=At b i) e
structure SWr(ρ ρ':Nat->Nat)(k:Nat)(w:World)(g a:Nat)(u:Bz)(cap:Nat)(A:PD)(i:Nat)(r:Bool)(W:World):Prop where
 dk:DAt ρ' k W g A
 st:Stp (RDk k) ρ ρ' w W
 ro:∀ b,w.heap.size<=b->b<w.heap.size+9->ρ' b=4*k+4
 b0:Blk W w.heap.size #[Pq g] 84
 b1:Blk W (w.heap.size+1) #[I6 a] 3
 b2:Blk W (w.heap.size+2) #[.bool r] 4
 b3:Blk W (w.heap.size+3) #[I6 i] 3
 b4:∀ m,m<u.size->W.cell? (At (w.heap.size+4) m)=some (.int .u8 (u.data.toList.getD m 0).toNat)
 b5:Blk W (w.heap.size+5) #[Sq (w.heap.size+4) u.size cap] 106
 b6:Blk W (w.heap.size+6) #[I6 64] 3
 sz:w.heap.size+9<=W.heap.size
variable {ρ ρ':Nat->Nat} {k:Nat} {w:World} {g a:Nat} {u:Bz} {cap:Nat} {A:PD} {i:Nat} {r:Bool} {W:World}
theorem SWr.cl(h:SWr ρ ρ' k w g a u cap A i r W):cO ρ' W:=h.st.clean
theorem SWr.four(k:Nat):¬RDk k (4*k+4):=by unfold RDk;omega
theorem SWr.drew(h:SWr ρ ρ' k w g a u cap A i r W):SWr ρ ρ' k w g a u cap A i r W.drew :=
 ⟨h.dk.step (Stp.below (R:=fun _=>False) h.cl (Below.drew (Below.refl _ _))) (fun q=>q) (fun q=>q) (fun q=>q),h.st.drew,h.ro,h.b0,h.b1,h.b2,h.b3,h.b4,h.b5,h.b6,h.sz⟩
theorem SWr.put(h:SWr ρ ρ' k w g a u cap A i r W){c:Nat}(hc:c=w.heap.size+7\/c=w.heap.size+8)(o:Obj):SWr ρ ρ' k w g a u cap A i r (W.putObj c o):=by
 have hr:ρ' c=4*k+4:=h.ro c om om
 have S:Stp (fun q=>q=4*k+4) ρ' ρ' W (W.putObj c o):=Stp.put h.cl hr o
 exact⟨h.dk.step S om om om,h.st.freshP om o,h.ro,h.b0.put om o,h.b1.put om o,h.b2.put om o,h.b3.put om o,
  fun m hm=>(eY (World.putObj_heap_other om)).trans (h.b4 m hm),h.b5.put om o,h.b6.put om o,by rw[World.putObj_size];exact h.sz⟩
theorem SWr.seti(h:SWr ρ ρ' k w g a u cap A i r W)(j:Nat):SWr ρ ρ' k w g a u cap A j r (W.setCell (At (w.heap.size+3) 0) (I6 j)):=by
 have hr:ρ' (w.heap.size+3)=4*k+4:=h.ro _ om om
 have S:Stp (fun q=>q=4*k+4) ρ' ρ' W (W.setCell (At (w.heap.size+3) 0) (I6 j)):=Stp.set h.cl hr 0 _
 exact⟨h.dk.step S om om om,h.st.fresh om _,h.ro,h.b0.other om _,h.b1.other om _,h.b2.other om _,h.b3.set 0 _,
  fun m hm=>(eY (Below.heap_setCell _ _ _ _ (show w.heap.size+4≠w.heap.size+3 by omega))).trans (h.b4 m hm),h.b5.other om _,h.b6.other om _,by simpa[World.setCell,Bl] using h.sz⟩
theorem SWr.setr(h:SWr ρ ρ' k w g a u cap A i r W)(q:Bool):SWr ρ ρ' k w g a u cap A i q (W.setCell (At (w.heap.size+2) 0) (.bool q)):=by
 have hr:ρ' (w.heap.size+2)=4*k+4:=h.ro _ om om
 have S:Stp (fun q=>q=4*k+4) ρ' ρ' W (W.setCell (At (w.heap.size+2) 0) (.bool q)):=Stp.set h.cl hr 0 _
 exact⟨h.dk.step S om om om,h.st.fresh om _,h.ro,h.b0.other om _,h.b1.other om _,h.b2.set 0 _,h.b3.other om _,
  fun m hm=>(eY (Below.heap_setCell _ _ _ _ (show w.heap.size+4≠w.heap.size+2 by omega))).trans (h.b4 m hm),h.b5.other om _,h.b6.other om _,by simpa[World.setCell,Bl] using h.sz⟩
theorem SWr.disk(h:SWr ρ ρ' k w g a u cap A i r W){ρ'':Nat->Nat}{V:World}{A':PD}(hd:DAt ρ'' k V g A')(hs:Stp (RDk k) ρ' ρ'' W V):SWr ρ ρ'' k w g a u cap A' i r V/\∀ c,(c=w.heap.size+7\/c=w.heap.size+8)->V.heap[c]?=W.heap[c]?:=by
 have hz:=h.sz;have hn:∀ c,w.heap.size<=c->c<w.heap.size+9->¬RDk k (ρ' c):=fun c h1 h2=>by rw[h.ro c h1 h2];exact SWr.four k
 refine⟨⟨hd,h.st.trans hs,fun b h1 h2=>(hs.role b om).trans (h.ro b h1 h2),h.b0.step hs (hn _ om om),h.b1.step hs (hn _ om om),h.b2.step hs (hn _ om om),h.b3.step hs (hn _ om om),
  fun m hm=>(eY (hs.block _ om (hn _ om om))).trans (h.b4 m hm),h.b5.step hs (hn _ om om),h.b6.step hs (hn _ om om),Nat.le_trans hz hs.size⟩,fun c hc=>hs.block c om (hn c om om)⟩
theorem SWr.start(hc:cO ρ w)(hd:DAt ρ k w g A){W1:World}(hb:Bl w W1)(hz:W1.heap.size=w.heap.size+9)
  (b0:Blk W1 w.heap.size #[Pq g] 84) (b1:Blk W1 (w.heap.size+1) #[I6 a] 3) (b2:Blk W1 (w.heap.size+2) #[.bool r] 4) (b3:Blk W1 (w.heap.size+3) #[I6 i] 3)
  (b4:∀ m,m<u.size->W1.cell? (At (w.heap.size+4) m)=some (.int .u8 (u.data.toList.getD m 0).toNat)) (b5:Blk W1 (w.heap.size+5) #[Sq (w.heap.size+4) u.size cap] 106) (b6:Blk W1 (w.heap.size+6) #[I6 64] 3) :
  ∃ ρ',SWr ρ ρ' k w g a u cap A i r W1:=by
 obtain⟨ρ',hr'⟩:∃ ρ':Nat->Nat,ρ'=fun b=>if w.heap.size<=b/\b<w.heap.size+9 then 4*k+4 else ρ b:=⟨_,rfl⟩
 have hS:∀ R,Stp R ρ ρ' w W1:=fun R=>⟨hb.os,hb.tape,hb.output,hb.size,fun b h=>by rw[hr'];exact if_neg om,fun b h _=>hb.block b h,fun b h=>by rw[hr'];show (if _ then _ else _)=0;rw[if_neg om];exact hc b om⟩
 exact⟨ρ',hd.step (hS fun _=>False) (fun q=>q) (fun q=>q) (fun q=>q),hS _,fun b h1 h2=>by rw[hr'];exact if_pos ⟨h1,h2⟩,b0,b1,b2,b3,b4,b5,b6,by omega⟩
theorem mN(t:Lu):∀ j,(aI t).getD j []=(t.drop (64*j)).take 64:=by
 intro j;induction j generalizing t with
 | zero =>
  by_cases h:t=[]
  ·subst h;rfl
  ·rw[ek h];simp
 | succ j ih =>
  by_cases h:t=[]
  ·subst h;simp[iy]
  ·rw[ek h,show 64*(j+1)=64+64*j by omega,<- List.drop_drop]
   exact ih (t.drop 64)
theorem iw(t:Lu):∀ j,j<(aI t).length ↔ 64*j<t.length:=by
 intro j;induction j generalizing t with
 | zero =>
  by_cases h:t=[]
  ·subst h;simp[iy]
  ·rw[ek h];have:0<t.length:=List.length_pos_iff.2 h
   simp;omega
 | succ j ih =>
  by_cases h:t=[]
  ·subst h;simp[iy]
  ·rw[ek h];have:=ih (t.drop 64)
   simp at this ⊢;omega
def wrJ(a:Nat)(t:Lu)(A:PD):Nat->PD
 | 0=>A
 | j+1=>bG (wrJ a t A j) (bd a j) (bs ((aI t).getD j []))
def xZ(a:Nat)(t:Lu)(A:PD)(j:Nat):Prop:=∀ m,m<j->wOk (wrJ a t A m).left (wrJ a t A m).st (bd a m) (bs ((aI t).getD m []))=true
theorem uD(a:Nat)(t:Lu)(A:PD):∀ j,j<=(aI t).length->xZ a t A j->aT a A 0 (aI t)=aT a (wrJ a t A j) j ((aI t).drop j):=by
 intro j;induction j with
 | zero=>intro _ _;rfl
 | succ j ih =>
  intro hj h;rw[ih om (fun m hm=>h m om)]
  have e:(aI t).drop j=(aI t).getD j []::(aI t).drop (j+1):=by
   rw[List.drop_eq_getElem_cons om,List.getD_eq_getElem?_getD,List.getElem?_eq_getElem om];rfl
  rw[e];simp only[aT]
  rw[if_pos (h j om)];rfl
theorem wv(a:Nat)(t:Lu)(A:PD)(j:Nat)(hj:j=(aI t).length)(h:xZ a t A j):aT a A 0 (aI t)=(wrJ a t A j,true):=by
 rw[uD a t A j om h,hj,List.drop_length];rfl
theorem wx(a:Nat)(t:Lu)(A:PD)(j:Nat)(hj:j<(aI t).length)(h:xZ a t A j)(hn:wOk (wrJ a t A j).left (wrJ a t A j).st (bd a j) (bs ((aI t).getD j []))=false):aT a A 0 (aI t)=(wrJ a t A (j+1),false):=by
 rw[uD a t A j om h];have e:(aI t).drop j=(aI t).getD j []::(aI t).drop (j+1):=by
  rw[List.drop_eq_getElem_cons om,List.getD_eq_getElem?_getD,List.getElem?_eq_getElem om];rfl
 rw[e];simp only[aT]
 rw[if_neg (by rw[hn];simp)]
 rfl
theorem DV(a:Nat)(t:Lu)(A:PD)(j:Nat):(wrJ a t A j).now.length<=A.now.length+j/\(wrJ a t A j).loose.length<=A.loose.length+j/\(wrJ a t A j).left<=A.left:=by
 induction j with
 | zero=>exact⟨Nat.le_refl _,Nat.le_refl _,Int.le_refl _⟩
 | succ j ih =>
  obtain⟨h1,h2,h3⟩:=ih;simp only[wrJ]
  by_cases ho:wOk (wrJ a t A j).left (wrJ a t A j).st (bd a j) (bs ((aI t).getD j []))=true
  ·rw[jz ho];have:=AD (wrJ a t A j).now (bd a j,da (bs ((aI t).getD j [])))
   refine⟨?_,?_,Int.le_trans (cD _ _) h3⟩
   ·show (cG _ _).length<=_;omega
   ·show (_++[_]).length<=_;simp;omega
  ·rw[jy (by simpa using ho)]
   exact⟨by show (wrJ a t A j).now.length<=_;omega,by show (wrJ a t A j).loose.length<=_;omega,Int.le_trans (cD _ _) h3⟩
end Go.Proofs.YtjnhhnbgjjkkjaaGreatDoor
