import Derived.Test.YtjnhhnbgjjkkjaaGreatDoorRePBB
import Derived.Test.YtjnhhnbgjjkkjaaGreatDoorRePBC
set_option linter.all false
set_option maxRecDepth 100000
set_option maxHeartbeats 2000000
namespace Go.Proofs.YtjnhhnbgjjkkjaaGreatDoor
section
open Go.RowKit Go.Shelf Go.Proofs.Tryz
attribute [local go_sem] Oper.semAt_some
theorem vx(b L c:Nat)(w:World):Calls prog 148 #[Sq b L c,I6 64] w fun e w'=>e=.returned (.func (.func 201) #[] #[Pq w.heap.size,Pq (w.heap.size+1)])/\w'=(w.alloc (.cells #[Sq b L c] 106)).alloc (.cells #[I6 64] 3):=by
 go_enter func148,ntmps148
 go_wp2;go_ret;exact⟨rfl,rfl⟩
theorem tM(ρ:Nat->Nat)(k:Nat)(w:World)(g a:Nat)(u:Bz)(A:PD)(ha:a<=1)(hu:u.size<=100000)(hn:A.now.length<=1000)(hlo:A.loose.length<=1000)(hlf:A.left<9223372036854775808)(hc:cO ρ w)(hd:DAt ρ k w g A):Calls prog 99 #[.agg #[Pq g],I6 a,.string u] w fun e w'=>e=.returned (.bool (aT a A 0 (aI u.data.toList)).2)/\∃ ρ',DAt ρ' k w' g (aT a A 0 (aI u.data.toList)).1/\Stp (RDk k) ρ ρ' w w':=by
 obtain⟨t,ht⟩:∃ t,t=u.data.toList:=⟨_,rfl⟩
 have htl:t.length=u.size:=by rw[ht];exact Array.length_toList
 rw[<- ht];obtain⟨RR,hRR⟩:∃ RR:Ending->World->Prop,RR=fun e w'=>e=.returned (.bool (aT a A 0 (aI t)).2)/\∃ ρ',DAt ρ' k w' g (aT a A 0 (aI t)).1/\Stp (RDk k) ρ ρ' w w':=⟨_,rfl⟩
 rw[<- hRR];refine(callsIn_wide (n:=7)).1 ?_
 refine callsIn_of_wp_marks func99 rfl trivial ?_ rfl
 simp only[ntmps99,List.size_toArray,List.length_cons,List.length_nil,Nat.reduceAdd,Nat.reduceSub,Array.replicate_succ,Array.replicate_zero,List.push_toArray,List.append_toArray,List.nil_append,List.cons_append]
 have hcv:=fun W=>Lib.run_convert_string_bytes (P:=prog) W 9 106 5 u underlying9 underlying106 underlying5
 gi_wp2_with (refine⟨trivial,?_⟩;gi_at_call 148;refine(callsIn_wide.2 (vx _ _ _ _)).mono ?_;rintro e w1 ⟨rfl,rfl⟩)
 obtain⟨W4,hW4⟩:∃ W4,W4=(((w.alloc (.cells #[Pq g] 84)).alloc (.cells #[I6 a] 3)).alloc (.cells #[.bool false] 4)).alloc (.cells #[I6 0] 3):=⟨_,rfl⟩
 rw[<- hW4];have q4:W4.heap.size=w.heap.size+4:=by rw[hW4];simp
 have l4:Bl w W4:=by rw[hW4];exact upB
 have p0:Blk W4 w.heap.size #[Pq g] 84:=by
  rw[hW4];exact(((Blk.new w _ _).alloc _).alloc _).alloc _
 have p1:Blk W4 (w.heap.size+1) #[I6 a] 3:=by
  have h:=(((Blk.new (w.alloc (.cells #[Pq g] 84)) #[I6 a] 3).alloc (.cells #[.bool false] 4)).alloc (.cells #[I6 0] 3))
  rw[World.size_alloc] at h;rw[hW4];exact h
 have p2:Blk W4 (w.heap.size+2) #[.bool false] 4:=by
  have h:=(Blk.new ((w.alloc (.cells #[Pq g] 84)).alloc (.cells #[I6 a] 3)) #[.bool false] 4).alloc (.cells #[I6 0] 3)
  rw[World.size_alloc,World.size_alloc] at h;rw[hW4];exact h
 have p3:Blk W4 (w.heap.size+3) #[I6 0] 3:=by
  have h:=Blk.new (((w.alloc (.cells #[Pq g] 84)).alloc (.cells #[I6 a] 3)).alloc (.cells #[.bool false] 4)) #[I6 0] 3
  rw[World.size_alloc,World.size_alloc,World.size_alloc] at h;rw[hW4];exact h
 clear hW4;obtain⟨cap,hcap⟩:∃ cap,cap=grownCap W4 u.size 0 5:=⟨_,rfl⟩
 have hcl:u.size<=cap:=by rw[hcap];exact grownCap_ge _ _ _ _
 rw[<- hcap];obtain⟨Wb,hWb⟩:∃ Wb,Wb=Lib.bytesWorld W4 5 u:=⟨_,rfl⟩
 rw[<- hWb];have qb:Wb.heap.size=w.heap.size+5:=by rw[hWb,Lib.bytesWorld_size,q4]
 have ob:∀ b,b<w.heap.size+4->Wb.heap[b]?=W4.heap[b]?:=fun b hb=>by rw[hWb];exact Lib.bytesWorld_at_old W4 _ u b om
 have c4:∀ m,m<u.size->Wb.cell? (At (w.heap.size+4) m)=some (.int .u8 (u.data.toList.getD m 0).toNat):=fun m hm=>by rw[hWb,<- q4];exact Lib.bytesWorld_cell W4 _ u m hm
 have lb:Bl w Wb:=by
  refine⟨?_,?_,?_,by omega,fun b hb=>(ob b om).trans (l4.block b hb)⟩
  ·rw[hWb];exact l4.os
  ·rw[hWb];exact l4.tape
  ·rw[hWb];exact l4.output
 clear hWb hcap;rw[qb];simp only[Nat.add_assoc,Nat.reduceAdd]
 obtain⟨V0,hV0⟩:∃ V0,V0=(Wb.alloc (.cells #[Sq (w.heap.size+4) u.size cap] 106)).alloc (.cells #[I6 64] 3):=⟨_,rfl⟩
 rw[<- hV0];have q0:V0.heap.size=w.heap.size+7:=by rw[hV0];simp;omega
 have lv:Bl w V0:=by rw[hV0];have h:=lb;exact upB
 have ov:∀ b,b<w.heap.size+5->V0.heap[b]?=Wb.heap[b]?:=fun b hb=>by rw[hV0];exact(Below.heap_alloc _ _ b (by simp;omega)).trans (Below.heap_alloc _ _ b om)
 have p5:Blk V0 (w.heap.size+5) #[Sq (w.heap.size+4) u.size cap] 106:=by
  have h:=(Blk.new Wb #[Sq (w.heap.size+4) u.size cap] 106).alloc (.cells #[I6 64] 3)
  rw[qb] at h;rw[hV0];exact h
 have p6:Blk V0 (w.heap.size+6) #[I6 64] 3:=by
  have h:=Blk.new (Wb.alloc (.cells #[Sq (w.heap.size+4) u.size cap] 106)) #[I6 64] 3
  rw[World.size_alloc,qb] at h;rw[hV0];exact h
 have ST:Hid (∀ W1,Bl V0 W1->W1.heap.size=w.heap.size+9->∃ ρ',SWr ρ ρ' k w g a u cap A 0 false W1):=fun W1 hb hz=>by
  have ho:∀ b,b<w.heap.size+4->W1.heap[b]?=W4.heap[b]?:=fun b h=>(hb.block b om).trans ((ov b om).trans (ob b h))
  refine SWr.start hc hd (lv.trans (hb.mono lv.size)) hz ((ho _ om).trans p0) ((ho _ om).trans p1) ((ho _ om).trans p2) ((ho _ om).trans p3) (fun m hm=>?_) ((hb.block _ om).trans p5) ((hb.block _ om).trans p6)
  exact(eY ((hb.block _ om).trans (ov _ om))).trans (c4 m hm)
 clear p0 p1 p2 p3 p5 p6 ov ob c4 lb lv l4 q4 qb hV0 hcv;obtain⟨N,hN⟩:∃ N,N=(aI t).length:=⟨_,rfl⟩
 have hNl:=ix t;obtain⟨XX,hXX⟩:∃ XX:World->Prop,XX=fun V=>∃ ρ' j,j<N/\xZ a t A j/\wOk (wrJ a t A j).left (wrJ a t A j).st (bd a j) (bs ((aI t).getD j []))=false/\SWr ρ ρ' k w g a u cap (wrJ a t A (j+1)) j false V:=⟨_,rfl⟩
 obtain⟨EE,hEE⟩:∃ EE:Nat->World->Prop,EE=fun j V=>∃ ρ',xZ a t A j/\SWr ρ ρ' k w g a u cap (wrJ a t A j) j false V:=⟨_,rfl⟩
 have sX:∀ V o,XX V->XX (V.putObj (V0.heap.size+1) o):=fun V o h=>by
  rw[hXX] at h ⊢;obtain⟨ρ',j,h1,h2,h3,h4⟩:=h;exact⟨ρ',j,h1,h2,h3,h4.put (.inr om) o⟩
 have sE:∀ j V o,EE j V->EE j (V.putObj (V0.heap.size+1) o):=fun j V o h=>by
  rw[hEE] at h ⊢;obtain⟨ρ',h1,h2⟩:=h;exact⟨ρ',h1,h2.put (.inr om) o⟩
 refine nE rfl om (gf:=201) (lb:=#[Pq (w.heap.size+5),Pq (w.heap.size+6)]) rfl trivial (enters_of func201 (by kernel_rfl) rfl) (EE N) XX (sE N) sX ?hit ?hdone ?hstop
 case hit =>
  intro fn hfn R hR W1 hrdy hb1 hz1;rw[q0] at hrdy hz1 hR ⊢;obtain⟨ρ1,hS1⟩:=ST.o W1 hb1 om;refine(yB 6 om (w.heap.size+7+1) (w.heap.size+4) (w.heap.size+5) (w.heap.size+6) u.size cap om hcl (fun j W=>EE j W/\Rdy (w.heap.size+7) R W) (fun W=>XX W/\Lft (w.heap.size+7) R W) W1 ?hd ?hs ?hY ⟨by rw[hEE];exact⟨ρ1,fun m hm=>by omega,hS1⟩,hrdy⟩).mono ?_
  case hd =>
   rintro j W ⟨h1,h2⟩
   refine⟨?_,h2⟩
   rw[hEE] at h1 ⊢;obtain⟨ρ',a1,a2⟩:=h1;exact⟨ρ',a1,a2.drew⟩
  case hs =>
   rintro j W ⟨h1,h2⟩
   rw[hEE] at h1;obtain⟨ρ',a1,a2⟩:=h1;exact⟨a2.b5.cell 0,a2.b6.cell 0⟩
  case hY =>
   rintro j W ⟨h1,h2⟩ hlt
   have h1':=h1;rw[hEE] at h1';obtain⟨ρ',hall,hS⟩:=h1';have hjN:j<N:=by rw[hN];exact(iw t j).2 om
   obtain⟨q,hq⟩:∃ q,q=min 64 (u.size-64*j):=⟨_,rfl⟩
   rw[<- hq];rw[q0] at sX sE;refine nL (n:=5) hR hfn (x:=#[.slice (some (At (w.heap.size+4) (64*j))) q q]) rfl
    { tmps:=#[.agg #[Pq g],I6 a,.string u,Pq w.heap.size,Pq (w.heap.size+1),undef,Pq (w.heap.size+2),Pq (w.heap.size+3),.slice (some (At (w.heap.size+4) (64*j))) q q,.string u,Sq (w.heap.size+4) u.size cap,.func (.func 201) #[] #[Pq (w.heap.size+5),Pq (w.heap.size+6)],.slice (some (At (w.heap.size+4) (64*j))) q q,undef,undef,undef,undef,undef,undef,undef,undef,undef,undef,undef],defers:=[] }
    (B':=EE (j+1)) (X:=XX) (sE (j+1)) sX h2 ?ha ?hbody
   case ha =>
    intro K hK;clear hq;gi_wp2
    exact hK
   case hbody =>
    intro o;have hS':=hS.put (.inr rfl) o
    generalize W.putObj (w.heap.size+7+1) o=V at *
    obtain⟨c,hcd⟩:∃ c,c=(aI t).getD j []:=⟨_,rfl⟩
    have hcl:c.length=q:=by rw[hcd,mN];simp;omega
    have hcv:∀ (V':World),(∃ ρ'' A',SWr ρ ρ'' k w g a u cap A' j false V')->V'.cell? (At w.heap.size 0)=some (Pq g)/\V'.cell? (At (w.heap.size+1) 0)=some (I6 a)/\V'.cell? (At (w.heap.size+3) 0)=some (I6 j)/\(convert 106 9 (.slice (some (At (w.heap.size+4) (64*j))) q q)).run prog V'=.ok (.string (bs c)) V':=fun V' ⟨ρ'',A',hV'⟩=>by
     have h:=run_convert_bytes_back (P:=prog) V' 106 9 5 (At (w.heap.size+4) (64*j)) q c underlying106 underlying5 underlying9 (fun m hm=>?_)
     ·rw[hcl] at h;exact⟨hV'.b0.cell 0,hV'.b1.cell 0,hV'.b3.cell 0,h⟩
     ·rw[Addr.add_lit,hV'.b4 (64*j+m) om,<- ht];have e1:t.getD (64*j+m) 0=c[m]:=by
       have hc2:c[m]=c.getD m 0:=by rw[List.getD_eq_getElem?_getD,List.getElem?_eq_getElem hm];rfl
       rw[hc2,hcd,mN,List.getD_eq_getElem?_getD,List.getD_eq_getElem?_getD,List.getElem?_take,if_pos om,List.getElem?_drop]
      rw[e1]
    obtain⟨SS,hSS⟩:∃ SS:World->Prop,SS=fun V'=>V'.cell? (At w.heap.size 0)=some (Pq g)/\V'.cell? (At (w.heap.size+1) 0)=some (I6 a)/\V'.cell? (At (w.heap.size+3) 0)=some (I6 j)/\(convert 106 9 (.slice (some (At (w.heap.size+4) (64*j))) q q)).run prog V'=.ok (.string (bs c)) V':=⟨_,rfl⟩
    have HSS:Hid (∀ V',(∃ ρ'' A',SWr ρ ρ'' k w g a u cap A' j false V')->SS V'):=fun V' h=>by rw[hSS];exact hcv V' h
    have hS0:SS V.drew:=HSS.o _ ⟨_,_,hS'.drew⟩
    have HS1:Hid (∀ V',SS V'->V'.cell? (At w.heap.size 0)=some (Pq g)/\V'.cell? (At (w.heap.size+1) 0)=some (I6 a)/\V'.cell? (At (w.heap.size+3) 0)=some (I6 j)/\(convert 106 9 (.slice (some (At (w.heap.size+4) (64*j))) q q)).run prog V'=.ok (.string (bs c)) V'):=fun V' h=>by rw[hSS] at h;exact h
    clear hcv hSS;obtain⟨z1,z2,z3⟩:=DV a t A j;have HSec:Hid (∀ V',Calls prog 89 #[I6 a,I6 j] V' fun e w'=>e=.returned (I6 (bd a j))/\w'=V'):=fun V'=>l8 a j V' ha om
    have HWr:Hid (∀ V',V'=V\/V'=V.drew->Calls prog 101 #[Pq g,I6 (bd a j),.string (bs c)] V' fun e w'=>e=.returned (.bool (wOk (wrJ a t A j).left (wrJ a t A j).st (bd a j) (bs c)))/\(w'.heap[w.heap.size+7]?=V.heap[w.heap.size+7]?/\w'.heap[w.heap.size+7+1]?=V.heap[w.heap.size+7+1]?)/\∃ ρ'',SWr ρ ρ'' k w g a u cap (wrJ a t A (j+1)) j false w'):=fun V' hV'=>by
     have hSv:SWr ρ ρ' k w g a u cap (wrJ a t A j) j false V':=by rcases hV' with rfl|rfl;exact hS';exact hS'.drew
     have hh:∀ b:Nat,V'.heap[b]?=V.heap[b]?:=fun b=>by rcases hV' with rfl|rfl<;>rfl
     refine(vc ρ' k V' g (wrJ a t A j) (bd a j) (bs c) hSv.cl om om om (by rw[aN];omega) hSv.dk).mono ?_
     rintro e w' ⟨rfl,ρ'',e1,e2⟩
     obtain⟨e3,e4⟩:=hSv.disk e1 e2;refine⟨rfl,⟨(e4 _ (.inl rfl)).trans (hh _),(e4 _ (.inr rfl)).trans (hh _)⟩,ρ'',?_⟩
     rw[show wrJ a t A (j+1)=bG (wrJ a t A j) (bd a j) (bs c) by rw[hcd];rfl]
     exact e3
    have hmx:prog.follows .mixedOrders=true:=by kernel_rfl
    have hX1:Hid (∀ w',w'.heap[w.heap.size+7]?=V.heap[w.heap.size+7]?/\w'.heap[w.heap.size+7+1]?=V.heap[w.heap.size+7+1]?->(∃ ρ'',SWr ρ ρ'' k w g a u cap (wrJ a t A (j+1)) j false w')->wOk (wrJ a t A j).left (wrJ a t A j).st (bd a j) (bs c)=false->(w'.setCell (At (w.heap.size+2) 0) (.bool false)).heap[w.heap.size+7]?=V.heap[w.heap.size+7]?/\(w'.setCell (At (w.heap.size+2) 0) (.bool false)).heap[w.heap.size+7+1]?=V.heap[w.heap.size+7+1]?/\XX (w'.setCell (At (w.heap.size+2) 0) (.bool false))):=fun w' h1 h2 h3=>by
     obtain⟨ρ'',h2⟩:=h2;refine⟨(Below.heap_setCell _ _ _ _ (show w.heap.size+7≠w.heap.size+2 by omega)).trans h1.1,(Below.heap_setCell _ _ _ _ (show w.heap.size+7+1≠w.heap.size+2 by omega)).trans h1.2,?_⟩
     rw[hXX];exact⟨ρ'',j,hjN,hall,by rw[<- hcd];exact h3,h2.setr false⟩
    have hB1:Hid (∀ w',w'.heap[w.heap.size+7]?=V.heap[w.heap.size+7]?/\w'.heap[w.heap.size+7+1]?=V.heap[w.heap.size+7+1]?->(∃ ρ'',SWr ρ ρ'' k w g a u cap (wrJ a t A (j+1)) j false w')->wOk (wrJ a t A j).left (wrJ a t A j).st (bd a j) (bs c)=true->(w'.setCell (At (w.heap.size+3) 0) (I6 ((j+1:Nat):Int))).heap[w.heap.size+7]?=V.heap[w.heap.size+7]?/\(w'.setCell (At (w.heap.size+3) 0) (I6 ((j+1:Nat):Int))).heap[w.heap.size+7+1]?=V.heap[w.heap.size+7+1]?/\EE (j+1) (w'.setCell (At (w.heap.size+3) 0) (I6 ((j+1:Nat):Int)))):=fun w' h1 h2 h3=>by
     obtain⟨ρ'',h2⟩:=h2;refine⟨(Below.heap_setCell _ _ _ _ (show w.heap.size+7≠w.heap.size+3 by omega)).trans h1.1,(Below.heap_setCell _ _ _ _ (show w.heap.size+7+1≠w.heap.size+3 by omega)).trans h1.2,?_⟩
     rw[hEE];refine⟨ρ'',fun m hm=>?_,h2.seti (j+1)⟩
     rcases Nat.lt_or_ge m j with q|q
     ·exact hall m q
     ·obtain rfl:m=j:=by omega
      rw[<- hcd];exact h3
    have LV:Hid (∀ w',(∃ ρ'',SWr ρ ρ'' k w g a u cap (wrJ a t A (j+1)) j false w')->w'.cell? (At (w.heap.size+2) 0)=some (.bool false)/\w'.frozen? (At (w.heap.size+2) 0)=false/\w'.cell? (At (w.heap.size+3) 0)=some (I6 j)/\w'.frozen? (At (w.heap.size+3) 0)=false):=fun w' ⟨ρ'',h⟩=>⟨h.b2.cell 0,h.b2.frozen 0,h.b3.cell 0,h.b3.frozen 0⟩
    have hjw:IntKind.i64.wrap ((j:Int)+1)=((j+1:Nat):Int):=by rw[dD _ om om];omega
    generalize hok:wOk (wrJ a t A j).left (wrJ a t A j).st (bd a j) (bs c)=ok at HWr hX1 hB1
    clear hok hS' hS h1 h2 hall hcl hcd z1 z2 z3 hq hXX hEE hRR;gi_wp2
    refine nJ (S:=SS) hmx (by kernel_rfl) hS0 (fun hHeld=>?hreg)
    case hreg =>
     refine wpAnyH_take (i:=0) (v:=?_) rfl (by kernel_rfl) (by kernel_rfl) (by kernel_rfl) (fun _ _ _ h=>h) (Or.inl ⟨by rfl,?_⟩) hHeld ?_
     rotate_left
     ·intro w hSw;obtain⟨hs0,hs1,hs3,hsc⟩:=HS1.o _ hSw;go_simp;try with_reducible rfl
     try simp only[Act.put,List.setIfInBounds_toArray,List.set_cons_zero,List.set_cons_succ]
     refine wpAnyH_take (i:=1) (v:=?_) rfl (by kernel_rfl) (by kernel_rfl) (by kernel_rfl) (fun _ _ _ h=>h) (Or.inl ⟨by rfl,?_⟩) hHeld ?_
     rotate_left
     ·intro w hSw;obtain⟨hs0,hs1,hs3,hsc⟩:=HS1.o _ hSw;go_simp;try with_reducible rfl
     try simp only[Act.put,List.setIfInBounds_toArray,List.set_cons_zero,List.set_cons_succ]
     refine wpAnyH_take (i:=2) (v:=?_) rfl (by kernel_rfl) (by kernel_rfl) (by kernel_rfl) (fun _ _ _ h=>h) (Or.inl ⟨by rfl,?_⟩) hHeld ?_
     rotate_left
     ·intro w hSw;obtain⟨hs0,hs1,hs3,hsc⟩:=HS1.o _ hSw;go_simp;try with_reducible rfl
     try simp only[Act.put,List.setIfInBounds_toArray,List.set_cons_zero,List.set_cons_succ]
     refine wpAnyH_take (i:=3) (v:=?_) rfl (by kernel_rfl) (by kernel_rfl) (by kernel_rfl) (fun _ _ _ h=>h) (Or.inl ⟨by rfl,?_⟩) hHeld ?_
     rotate_left
     ·intro w hSw;obtain⟨hs0,hs1,hs3,hsc⟩:=HS1.o _ hSw;go_simp;try with_reducible rfl
     try simp only[Act.put,List.setIfInBounds_toArray,List.set_cons_zero,List.set_cons_succ]
     refine wpAnyH_take (i:=5) (v:=?_) rfl (by kernel_rfl) (by kernel_rfl) (by kernel_rfl) (fun _ _ _ h=>h) (Or.inl ⟨by rfl,?_⟩) hHeld ?_
     rotate_left
     ·intro w hSw;obtain⟨hs0,hs1,hs3,hsc⟩:=HS1.o _ hSw;go_simp;try with_reducible rfl
     try simp only[Act.put,List.setIfInBounds_toArray,List.set_cons_zero,List.set_cons_succ]
     refine wpAnyH_take (i:=6) (v:=?_) rfl (by kernel_rfl) (by kernel_rfl) (by kernel_rfl) (fun _ _ _ h=>h) (Or.inl ⟨by rfl,?_⟩) hHeld ?_
     rotate_left
     ·intro w hSw;obtain⟨hs0,hs1,hs3,hsc⟩:=HS1.o _ hSw;go_simp;try with_reducible rfl
     try simp only[Act.put,List.setIfInBounds_toArray,List.set_cons_zero,List.set_cons_succ]
     refine wpAnyH_ready (rs:=[4]) (by kernel_rfl) sM ?_
     refine AllReadyH.cons rfl (fun K hK=>?_) AllReadyH.nil
     go_simp
     go_at_call 89
     refine(HSec.o _).mono ?_
     rintro e w5 ⟨rfl,rfl⟩
     refine hK.out _ _ hHeld (fun hHeld=>?_)
     clear hK K;try simp only[Act.put,List.setIfInBounds_toArray,List.set_cons_zero,List.set_cons_succ]
     refine wpAnyH_ready (rs:=[7]) (by kernel_rfl) sM ?_
     refine AllReadyH.cons rfl (fun K hK=>?_) AllReadyH.nil
     go_simp
     go_at_call 101
     refine(HWr.o _ (.inr rfl)).mono ?_
     rintro e w6 ⟨rfl,hp6,hs6⟩
     refine hK.out _ _ (HSS.o _ (by obtain⟨ρ6,h6⟩:=hs6;exact⟨_,_,h6⟩)) (fun hHeld=>?_)
     clear hK K;try simp only[Act.put,List.setIfInBounds_toArray,List.set_cons_zero,List.set_cons_succ]
     refine wpAnyH_ready (rs:=[8]) (by kernel_rfl) sM ?_
     refine AllReadyH.cons rfl (fun K hK=>?_) AllReadyH.nil
     go_simp
     refine hK.out _ _ hHeld (fun hHeld=>?_)
     clear hK K;try simp only[Act.put,List.setIfInBounds_toArray,List.set_cons_zero,List.set_cons_succ]
     refine wpAnyH_done (by kernel_rfl) ?_ _
     replace hp6:Hid _:=hp6;replace hs6:Hid _:=hs6;obtain⟨l0,l1,l2,l3⟩:=LV.o _ hs6.o;clear hHeld HSec HWr HSS HS1 LV;rcases ok with _|_
     ·have hfin:=hX1.o w6 hp6.o hs6.o rfl;clear hX1 hB1;simp only[qG]
      gi_wp2
      exact hfin
     ·have hfin:=hB1.o w6 hp6.o hs6.o rfl;rw[show ((j+1:Nat):Int)=(j:Int)+1 by omega] at hfin
      clear hX1 hB1;simp only[qG]
      gi_wp2
      exact hfin
  ·rintro e V ⟨hv,⟨j,j1,j2,j3,j4⟩|⟨j3,j4⟩⟩
   ·refine⟨hv,.inl ⟨?_,j4⟩⟩
    have:j=N:=by
     have e1:=iw t j;have e2:j=0\/j-1<(aI t).length:=by
      rcases Nat.eq_zero_or_pos j with q|q
      ·exact .inl q
      ·exact .inr ((iw t (j-1)).2 om)
     omega
    rw[<- this];exact j3
   ·exact⟨hv,.inr ⟨j3,j4⟩⟩
 case hdone =>
  intro V hE hK;rw[q0] at hK ⊢;rw[hEE] at hE;obtain⟨ρ',hall,hS⟩:=hE;have c2:V.cell? (At (w.heap.size+2) 0)=some (.bool false):=hS.b2.cell 0
  have f2:V.frozen? (At (w.heap.size+2) 0)=false:=hS.b2.frozen 0
  have hS2:=hS.setr true;have hK':(V.setCell (At (w.heap.size+2) 0) (.bool true)).heap[w.heap.size+7]?=some (.deferred (some [])):=(Below.heap_setCell _ _ _ _ (show w.heap.size+7≠w.heap.size+2 by omega)).trans hK
  have hS3:=hS2.put (c:=w.heap.size+7) (.inl rfl) (.deferred none)
  have hfin:RR (.returned (.bool true)) ((V.setCell (At (w.heap.size+2) 0) (.bool true)).putObj (w.heap.size+7) (.deferred none)):=by
   rw[hRR];have e:=wv a t A N hN hall;rw[e];exact⟨rfl,ρ',hS3.dk,hS3.st⟩
  have k2:=hS3.b2.cell 0;clear hS hS2;gi_wp2
  refine⟨by simp,.inl ⟨_,_,rfl,run_takeDeferred hK',?_⟩⟩
  exact⟨.bool true,by simp[results,Tryz.f99,go_sem,k2],hfin⟩
 case hstop =>
  intro V hX hK;rw[q0] at hK ⊢;rw[hXX] at hX;obtain⟨ρ',j,j1,hall,hno,hS⟩:=hX;have hS3:=hS.put (c:=w.heap.size+7) (.inl rfl) (.deferred none)
  have hfin:RR (.returned (.bool false)) (V.putObj (w.heap.size+7) (.deferred none)):=by
   rw[hRR];have e:=wx a t A j om hall hno;rw[e];exact⟨rfl,ρ',hS3.dk,hS3.st⟩
  have k2:=hS3.b2.cell 0;clear hS;gi_wp2
  refine⟨by simp,.inl ⟨_,_,rfl,run_takeDeferred hK,?_⟩⟩
  exact⟨.bool false,by simp[results,Tryz.f99,go_sem,k2],hfin⟩
end
section
open Go.RowKit Go.Proofs.Tryz
def pA1(A:PD)(t:Lu):PD×Bool:=aT (1-bH A.now) A 0 (aI (t++[0]))
def pA2(A:PD)(t:Lu):PD:=b9 (pA1 A t).1
def pA3(A:PD)(t:Lu):PD:=bG (pA2 A t) 0 (bs [UInt8.ofNat (1-bH A.now)])
def pA4(A:PD)(t:Lu):PD:=b9 (pA3 A t)
def pAt(A:PD)(t:Lu):Nat->PD
 | 0=>A
 | 1=>(pA1 A t).1
 | 2=>pA2 A t
 | 3=>pA3 A t
 | _=>pA4 A t
theorem jm(A:PD)(t:Lu):gb A t=if (pA1 A t).2=false then ((pA1 A t).1,false) else
  if cH (pA1 A t).1.left (pA1 A t).1.st=false then (pA2 A t,false) else
  if wOk (pA2 A t).left (pA2 A t).st 0 (bs [UInt8.ofNat (1-bH A.now)])=false then (pA3 A t,false) else
  (pA4 A t,cH (pA3 A t).left (pA3 A t).st):=rfl
theorem Bq(A:PD):(b9 A).now.length=A.now.length/\(b9 A).loose.length<=A.loose.length/\(b9 A).left<=A.left:=by
 by_cases h:cH A.left A.st=true
 ·rw[oQ h];exact⟨rfl,by simp,cD _ _⟩
 ·rw[oP (by simpa using h)];exact⟨rfl,Nat.le_refl _,cD _ _⟩
theorem Dd(a:Nat)(ha:a<=1):one (a:Int)=bs [UInt8.ofNat a]:=by
 rcases (show a=0\/a=1 by omega) with rfl|rfl<;>decide +kernel
def kY(ρ:Nat->Nat)(k:Nat)(w:World)(g:Nat)(B:PD)(W:World):Prop :=
 ∃ ρ',DAt ρ' k W g B/\Stp (RDk k) ρ ρ' w W/\Blk W w.heap.size #[Pq g] 84/\ρ' w.heap.size=4*k+4
theorem kY.down{ρ:Nat->Nat}{k:Nat}{w:World}{g:Nat}{B:PD}{W W':World}(h:kY ρ k w g B W)(hb:Bl W W'):kY ρ k w g B W':=by
 obtain⟨ρ',h1,h2,h3,h4⟩:=h;exact⟨ρ',h1.step (Stp.below (R:=fun _=>False) h2.clean hb) (fun q=>q) (fun q=>q) (fun q=>q),h2.trans (Stp.below h2.clean hb),(hb.block _ h3.lt).trans h3,h4⟩
theorem kY.step{ρ:Nat->Nat}{k:Nat}{w:World}{g:Nat}{B':PD}{W W':World}{ρ' ρ'':Nat->Nat}(h2:Stp (RDk k) ρ ρ' w W)(h3:Blk W w.heap.size #[Pq g] 84)(h4:ρ' w.heap.size=4*k+4)(hd:DAt ρ'' k W' g B')(hs:Stp (RDk k) ρ' ρ'' W W'):kY ρ k w g B' W' :=
 ⟨ρ'',hd,h2.trans hs,h3.step hs (by rw[h4];exact SWr.four k),(hs.role _ h3.lt).trans h4⟩
theorem Bd(ρ:Nat->Nat)(k:Nat)(w:World)(g:Nat)(t:Bz)(A:PD)(ht:t.size<=8000)(hwf:WF A.now)(hlo:A.loose=[])(hlf:A.left<9223372036854775808)(hc:cO ρ w)(hd:DAt ρ k w g A):Calls prog 67 #[.agg #[Pq g],.string t] w fun e w'=>e=.returned (.bool (gb A t.data.toList).2)/\∃ ρ',DAt ρ' k w' g (gb A t.data.toList).1/\Stp (RDk k) ρ ρ' w w':=by
 obtain⟨l,hl⟩:∃ l,l=t.data.toList:=⟨_,rfl⟩
 have hll:l.length=t.size:=by rw[hl];exact Array.length_toList
 rw[<- hl];obtain⟨a,ea⟩:∃ a,a=1-bH A.now:=⟨_,rfl⟩
 have hal:=ld A.now;have ha:a<=1:=by omega
 have hcl:=ix (l++[0])
 have hR:=kA a ha (aI (l++[0])) A 0 hwf (fun c hc=>(mO _ c hc).1) (by simp at hcl;omega)
 have e1:pA1 A l=aT a A 0 (aI (l++[0])):=by rw[ea];rfl
 rw[<- e1] at hR;have hn1:(pA1 A l).1.now.length<=256:=hR.now.len
 have hl1:(pA1 A l).1.loose.length<=200:=by
  obtain⟨M,m1,_,_,m4⟩:=hR.loose;rw[m1,hlo];simp at hcl ⊢;omega
 have hf1:=hR.left;have s2:=Bq (pA1 A l).1
 have e2:pA2 A l=b9 (pA1 A l).1:=rfl
 rw[<- e2] at s2;have f3:(pA3 A l).left<=(pA2 A l).left:=by
  have e3:pA3 A l=bG (pA2 A l) 0 (bs [UInt8.ofNat (1-bH A.now)]):=rfl
  rw[e3];by_cases h:wOk (pA2 A l).left (pA2 A l).st 0 (bs [UInt8.ofNat (1-bH A.now)])=true
  ·rw[jz h];exact cD _ _
  ·rw[jy (by simpa using h)];exact cD _ _
 refine Ft g t om w (fun i W=>kY ρ k w g (pAt A l i) W) a ha (pA1 A l).2 (cH (pA1 A l).1.left (pA1 A l).1.st) (wOk (pA2 A l).left (pA2 A l).st 0 (bs [UInt8.ofNat a])) (cH (pA3 A l).left (pA3 A l).st) _ ?_ ?_ ?_ ?_ ?_ ?_ ?_ ?_ ?_ ?_ ?_ ?_
 ·rintro h1 w' ⟨ρ',q1,q2,_,_⟩
  rw[jm,if_pos h1];exact⟨rfl,ρ',q1,q2⟩
 ·rintro h1 h2 w' ⟨ρ',q1,q2,_,_⟩
  rw[jm,if_neg (by rw[h1];simp),if_pos h2]
  exact⟨rfl,ρ',q1,q2⟩
 ·rintro h1 h2 h3 w' ⟨ρ',q1,q2,_,_⟩
  rw[jm,if_neg (by rw[h1];simp),if_neg (by rw[h2];simp),if_pos (by rw[<- ea];exact h3)]
  exact⟨rfl,ρ',q1,q2⟩
 ·rintro h1 h2 h3 w' ⟨ρ',q1,q2,_,_⟩
  rw[jm,if_neg (by rw[h1];simp),if_neg (by rw[h2];simp),if_neg (by rw[<- ea,h3];simp)]
  exact⟨rfl,ρ',q1,q2⟩
 ·exact fun i W W' h hb=>h.down hb
 ·rintro i W ⟨ρ',_,_,h,_⟩
  exact h.cell 0
 ·have hS:=Stp.alloc (R:=RDk k) hc (.cells #[Pq g] 84) (4*k+4)
  exact⟨ru ρ w.heap.size (4*k+4),hd.step (Stp.alloc (R:=fun _=>False) hc _ (4*k+4)) (fun q=>q) (fun q=>q) (fun q=>q),hS,Blk.new w _ _,jw _ _ _⟩
 ·intro W hW;obtain⟨ρ',h1,h2,h3,h4⟩:=hW;refine(tZ g (bT A.now 0) (g8 hwf.w 0) W (fun W' hb=>?_)).mono ?_
  ·refine tD ρ' k W' g A 0 (by have:=hwf.len;omega) ?_
   exact h1.step (Stp.below (R:=fun _=>False) h2.clean hb) (fun q=>q) (fun q=>q) (fun q=>q)
  ·rintro e w' ⟨rfl,hb⟩
   refine⟨?_,kY.down ⟨ρ',h1,h2,h3,h4⟩ hb⟩
   show Ending.returned (I6 ((bH A.now:Nat):Int))=_
   rw[show ((bH A.now:Nat):Int)=1-(a:Int) by omega]
 ·rintro W ⟨ρ',h1,h2,h3,h4⟩
  have hz:(t++(⟨#[0]⟩:Bz)).size<=100000:=by rw[ByteArray.size_append,show (⟨#[0]⟩:Bz).size=1 from rfl];omega
  have hw:=hwf.len;have h:=tM ρ' k W g a (t++⟨#[0]⟩) A ha hz om (by rw[hlo];simp) hlf h2.clean h1
  refine h.mono ?_
  rintro e w' ⟨rfl,ρ'',q1,q2⟩
  have ed:(t++(⟨#[0]⟩:Bz)).data.toList=l++[0]:=by rw[hl];simp[ByteArray.data_append]
  rw[ed,<- e1] at q1 ⊢;exact⟨rfl,kY.step h2 h3 h4 q1 q2⟩
 ·rintro W ⟨ρ',h1,h2,h3,h4⟩ _
  refine(Bp ρ' k W g (pA1 A l).1 h2.clean om h1).mono ?_
  rintro e w' ⟨rfl,q1,q2⟩
  exact⟨rfl,kY.step h2 h3 h4 q1 q2⟩
 ·rintro W ⟨ρ',h1,h2,h3,h4⟩ _
  rw[Dd a ha];refine(vc ρ' k W g (pA2 A l) 0 (bs [UInt8.ofNat a]) h2.clean om om om (by rw[aN];simp) h1).mono ?_
  rintro e w' ⟨rfl,ρ'',q1,q2⟩
  refine⟨rfl,kY.step h2 h3 h4 (B':=pA3 A l) ?_ q2⟩
  rw[ea] at q1;exact q1
 ·rintro W ⟨ρ',h1,h2,h3,h4⟩ _
  refine(Bp ρ' k W g (pA3 A l) h2.clean om h1).mono ?_
  rintro e w' ⟨rfl,q1,q2⟩
  exact⟨rfl,kY.step h2 h3 h4 q1 q2⟩
end
end Go.Proofs.YtjnhhnbgjjkkjaaGreatDoor
