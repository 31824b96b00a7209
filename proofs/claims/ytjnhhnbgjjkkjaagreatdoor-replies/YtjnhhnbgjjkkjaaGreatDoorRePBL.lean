import Derived.Test.YtjnhhnbgjjkkjaaGreatDoorRePAK
set_option linter.all false
set_option maxRecDepth 100000
set_option maxHeartbeats 2000000
namespace Go.Proofs.YtjnhhnbgjjkkjaaGreatDoor
open Go.ChangeShapes Go.WideShapes Go.ChangeAt Go.RowKit Go.Proofs.Tryz
def eE(b:Int×Int):List Value:=[U3 b.1,I6 b.2]
theorem EC:(prog.info? 80).map (fun i=>(i.zero,i.size,i.bytes))=some (some (.agg #[U3 0,I6 0]),2,16):=by kernel_rfl
theorem G8(l:List (Int×Int)):∀ u∈l.flatMap eE,u.oneCell'=true:=by
 intro u hu;obtain⟨h,_,hh⟩:=List.mem_flatMap.1 hu;simp[eE] at hh
 rcases hh with rfl|rfl<;>rfl
theorem fK(l:List Hd)(k:Nat):∀ a n,(aM k l a n).length<=2^k:=by
 induction k with
 | zero=>intro a n;simp[aM]
 | succ k ih =>
  intro a n;have h1:=ih a (n+1)
  have h2:=ih (a+sz (n+1)) (n+1)
  have h3:0<2^k:=Nat.pos_of_ne_zero sM
  simp only[aM]
  split
  ·simp;omega
  ·split
   ·simp
   ·rw[List.length_append,Nat.pow_succ];omega
theorem lZ(w:World)(ty:TypeId)(base base2:Nat)(v v2:Value)(n m:Nat)(xs ys:List Value)(hown:w.ownsRow base 80 2 v n xs)(hown2:w.ownsRow base2 80 2 v2 m ys)(h1:∀ u∈ys,u.oneCell'=true)(hb:base<=w.heap.size)(hl:n+m<=8796093022208):
  ∃ v' w',(Builtin.append_ #[126,126] ty #[v,v2]).run prog w=.ok v' w'/\w'.ownsRow base 80 2 v' (n+m) (xs++ys)/\w.grownBy w' v.ownBlock:=by
 obtain⟨i0,hi0,hz0,hz1,hz2⟩:=info_parts EC;rcases hown2.2 with⟨rfl,e⟩|⟨g,cap,cur,rfl,hg0,hg,h2,h3,h4,h5⟩
 ·have hy:ys=[]:=List.length_eq_zero_iff.1 (by rw[hown2.1,e])
  have hr:=run_append_owned_none (P:=prog) w base 126 ty 80 i0 2 underlying126 hi0 v n xs hown
  subst hy;subst e;exact⟨v,w,hr,by simpa using hown,dC _ _⟩
 ·obtain⟨v',w',hr,h6,h7,_,_⟩:=run_append_own_at (P:=prog) w base 126 ty 80 i0 _ 2 16 underlying126 hi0 hz0 hz1 hz2 rfl dE v n xs hown (At g 0) m cap ys hown2.1 (fun j u hj=>by
   rw[Addr.add_lit,Nat.zero_add,cell_of_row w g j cur _ (0,0) hg,<- Array.getElem?_toList];rw[<- h5,List.getElem?_take] at hj;split at hj
   ·exact hj
   ·cases hj) h1 (by unfold maxLen;omega) om hb
  exact⟨v',w',hr,h6,h7⟩
theorem nC{w:World}{B B':Nat}{t:TypeId}{k:Nat}{v:Value}{n:Nat}{xs:List Value}(h:w.ownsRow B t k v n xs)(hb:B'<=B):w.ownsRow B' t k v n xs:=by
 refine⟨h.1,?_⟩
 rcases h.2 with q|⟨g,cap,cur,e,h1,rest⟩
 ·exact .inl q
 ·exact .inr ⟨g,cap,cur,e,by omega,rest⟩
section
variable {P:Program}
theorem mb{ops:Array Oper}{o:Oper}{a:Act}{w:World}{K:Act->World->Prop}{Q:Exit->Act->World->Prop}{E:Prop}
  (hg:o.guard=none) (d x:Operand) (dT sT:TypeId) (hop:o.op=Op.call { callee:=Callee.builtin Builtin.append,args:=#[d,x],argTypes:=#[dT,sT] })
  (v u:Value) (hd:a.eval d=v) (hx:a.eval x=u) {v':Value} {w':World} (hr:(Builtin.append_ #[dT,sT] o.type #[v,u]).run P w=.ok v' w') (hK:K (a.put o.dst v') w') :
  if Region.wanted o (yielded ops a.tmps)=true then Oper.wp P o a w K Q else E:=by
 have hw:Region.wanted o (yielded ops a.tmps)=true:=by simp[Region.wanted,hg]
 rw[if_pos hw];unfold Oper.wp;simp[execOp,hop,resolve,invoke,builtin,hd,hx,hr,Result.andThen]
 exact hK
end
theorem qD{l:List Hd}{a n:Int}(hl:∀ h,h∈l->h.n<=32)(h1:aU l a n=true)(h2:aR l a n<0):n<32:=by
 rcases Int.lt_or_le n 32 with h|h
 ·exact h
 ·exfalso
  obtain⟨q,hq,hm⟩:=List.any_eq_true.1 h1;rcases aV (bM a n) l hd0 with⟨_,e⟩|⟨k,_,e,_⟩
  ·have:=e q hq
   have h3:=hl q hq;unfold bM inn at this;unfold bR at hm;have h4:mm a n q.a q.n=true:=by
    unfold mm at hm ⊢
    rw[oz a n q.a q.n];simp only[Bool.and_eq_true] at hm ⊢
    exact⟨⟨hm.1.2,hm.1.1⟩,hm.2⟩
   rw[h4,decide_eq_true om] at this
   cases this
  ·have:aR l a n=k:=e
   omega
theorem ux{a n:Int}(ha:ad a)(hr:rt a n=true)(hn:n<32):(ad a/\rt a (n+1)=true)/\(ad (a+sz (n+1))/\rt (a+sz (n+1)) (n+1)=true):=by
 obtain⟨h0,h1,h2⟩:=aj.1 hr;have hs:=db n hn;have hp:=aD (n+1)
 have he:=yT a n h0 hn ha.1 ha.2 h2;have h3:=et a n (n+1) om om h2
 refine⟨⟨ha,aj.2 ⟨by omega,by omega,h3⟩⟩,⟨⟨by have:=ha.1;omega,he⟩,aj.2 ⟨by omega,by omega,?_⟩⟩⟩
 rw[Int.add_emod_right];exact h3
theorem vN(l:List Hd)(hl:∀ h,h∈l->ad h.a)(v:Value)(a n:Int)(w:World)(ha:ad a)(hr:Rd 3 ak hd0 w v l)(h1:aU l a n=false):Calls prog 111 #[.agg #[U3 a,I6 n],v] w fun e w'=>∃ v',e=.returned v'/\w'.ownsRow w.heap.size 80 2 v' 1 [U3 a,I6 n]/\Bl w w':=by
 have HN:Hid (∀ Wc,Bl w Wc->Cr prog 115 #[v,.agg #[U3 a,I6 n]] Wc (.bool false)):=fun Wc hW=>by have:=mG l a n v Wc hl ha (hr.below hW);rw[h1] at this;exact this
 obtain⟨b,cap,rfl,_⟩:=hr;clear hl ha h1;go_enter func111,ntmps111
 go_wp2_with (go_at_call 115;refine Mo (HN.o _ upB) fun w1 hb1=>?_;have HB1:Hid (Bl w w1):=bup upB hb1;have k0:w1.cell? (At w.heap.size 0)=some (U3 a):=(by rw[hb1.cell (p:=At w.heap.size 0) sM];simp[go_sem]);have k1:w1.cell? (At w.heap.size 1)=some (I6 n):=(by rw[hb1.cell (p:=At w.heap.size 1) sM];simp[go_sem]);clear hb1)
 go_ret;exact⟨_,rfl,⟨rfl,.inr ⟨w1.heap.size,1,#[U3 a,I6 n],rfl,HB1.o.size,Blk.new w1 _ _,Nat.le_refl _,by unfold maxLen;omega,rfl,rfl⟩⟩,Below.alloc HB1.o HB1.o.size _⟩
theorem vO(l:List Hd)(hl:∀ h,h∈l->ad h.a)(v:Value)(a n:Int)(w:World)(ha:ad a)(hr:Rd 3 ak hd0 w v l)(h1:aU l a n=true)(k:Nat)(h2:aR l a n=k):Cr prog 111 #[.agg #[U3 a,I6 n],v] w (.slice none 0 0):=by
 have HN:Hid (∀ Wc,Bl w Wc->Cr prog 115 #[v,.agg #[U3 a,I6 n]] Wc (.bool true)):=fun Wc hW=>by have:=mG l a n v Wc hl ha (hr.below hW);rw[h1] at this;exact this
 have HP:Hid (∀ Wc,Bl w Wc->Cr prog 122 #[v,.agg #[U3 a,I6 n]] Wc (I6 k)):=fun Wc hW=>by have:=iF l a n v Wc hl ha (hr.below hW);rw[h2] at this;exact this
 obtain⟨b,cap,rfl,_⟩:=hr;have hk0:(0:Int)<=(k:Int):=by omega
 clear hl ha h1 h2;go_enter func111,ntmps111
 go_wp2_with (first|(go_at_call 115;refine Mo (HN.o _ upB) fun w1 hb1=>?_;have HB1:Hid (Bl w w1):=bup upB hb1;have k0:w1.cell? (At w.heap.size 0)=some (U3 a):=(by rw[hb1.cell (p:=At w.heap.size 0) sM];simp[go_sem]);have k1:w1.cell? (At w.heap.size 1)=some (I6 n):=(by rw[hb1.cell (p:=At w.heap.size 1) sM];simp[go_sem]);clear hb1)|(go_at_call 122;refine Mo (HP.o _ HB1.o) fun w2 hb2=>?_;have HB2:Hid (Bl w w2):=bup HB1.o hb2;clear hb2))
 go_ret;exact⟨rfl,HB2.o⟩
theorem vQ(l:List Hd)(hl:∀ h,h∈l->ad h.a)(v:Value)(a n:Int)(w:World)(ha:ad a)(hr:Rd 3 ak hd0 w v l)(hrt:rt a n=true)(h1:aU l a n=true)(h2:aR l a n=-1)(hn:n<32)(FL:Int->List (Int×Int))(hAB:(FL a).length+(FL (a+sz (n+1))).length<=8796093022208)
  (hA:Hid (∀ Wc aa,Bl w Wc->(aa=a\/aa=a+sz (n+1))->Calls prog 111 #[.agg #[U3 aa,I6 (n+1)],v] Wc fun e w'=>∃ v',e=.returned v'/\w'.ownsRow Wc.heap.size 80 2 v' (FL aa).length ((FL aa).flatMap eE)/\Bl Wc w')) :
  Calls prog 111 #[.agg #[U3 a,I6 n],v] w fun e w'=>∃ v',e=.returned v'/\w'.ownsRow w.heap.size 80 2 v' (FL a++FL (a+sz (n+1))).length ((FL a++FL (a+sz (n+1))).flatMap eE)/\Bl w w':=by
 have HN:Hid (∀ Wc,Bl w Wc->Cr prog 115 #[v,.agg #[U3 a,I6 n]] Wc (.bool true)):=fun Wc hW=>by have:=mG l a n v Wc hl ha (hr.below hW);rw[h1] at this;exact this
 have HP:Hid (∀ Wc,Bl w Wc->Cr prog 122 #[v,.agg #[U3 a,I6 n]] Wc (I6 (-1))):=fun Wc hW=>by have:=iF l a n v Wc hl ha (hr.below hW);rw[h2] at this;exact this
 have HH:Hid (∀ Wc,Cr prog 161 #[.agg #[U3 a,I6 n]] Wc (.tuple #[.agg #[U3 a,I6 (n+1)],.agg #[U3 (a+sz (n+1)),I6 (n+1)],I6 0])):=fun Wc=>pv a n Wc ha.1 ha.2 hrt om
 obtain⟨b,cap,rfl,_⟩:=hr;generalize a+sz (n+1)=a2 at HH hA hAB ⊢
 generalize n+1=n2 at HH hA
 clear hl ha h1 h2 hrt hn;go_enter func111,ntmps111
 go_wp2_with (first|(go_at_call 115;refine Mo (HN.o _ upB) fun w1 hb1=>?_;have HB1:Hid (Bl w w1):=bup upB hb1;have k0:w1.cell? (At w.heap.size 0)=some (U3 a):=(by rw[hb1.cell (p:=At w.heap.size 0) sM];simp[go_sem]);have k1:w1.cell? (At w.heap.size 1)=some (I6 n):=(by rw[hb1.cell (p:=At w.heap.size 1) sM];simp[go_sem]);have z1:w.heap.size<w1.heap.size:=(by have:=hb1.size;simp at this;omega);clear hb1)|(go_at_call 122;refine Mo (HP.o _ HB1.o) fun w2 hb2=>?_;have HB2:Hid (Bl w w2):=bup HB1.o hb2;have j0:w2.cell? (At w.heap.size 0)=some (U3 a):=(hb2.cell (p:=At w.heap.size 0) z1).trans k0;have j1:w2.cell? (At w.heap.size 1)=some (I6 n):=(hb2.cell (p:=At w.heap.size 1) z1).trans k1;clear hb2)|(go_at_call 161;refine Mo (HH.o _) fun w3 hb3=>?_;have HB3:Hid (Bl w w3):=bup HB2.o hb3;clear hb3))
 have HV:Hid (Bl w ((w3.alloc (.cells #[U3 a,I6 n2] 80)).alloc (.cells #[U3 a2,I6 n2] 80))):=(HB3.o.alloc HB3.o.size _).alloc (by have:=HB3.o.size;simp;omega) _
 have b1:Blk ((w3.alloc (.cells #[U3 a,I6 n2] 80)).alloc (.cells #[U3 a2,I6 n2] 80)) w3.heap.size #[U3 a,I6 n2] 80:=(Below.heap_alloc _ _ _ sM).trans (Blk.new w3 _ _)
 have b2:=Blk.new (w3.alloc (.cells #[U3 a,I6 n2] 80)) #[U3 a2,I6 n2] 80
 rw[show (w3.alloc (.cells #[U3 a,I6 n2] 80)).heap.size=w3.heap.size+1 by simp] at b2
 generalize ((w3.alloc (.cells #[U3 a,I6 n2] 80)).alloc (.cells #[U3 a2,I6 n2] 80))=V at HV b1 b2 ⊢
 have zV:w3.heap.size+1<V.heap.size:=b2.lt
 have c0:V.cell? (At w3.heap.size 0)=some (U3 a):=b1.cell 0
 have c1:V.cell? (At w3.heap.size 1)=some (I6 n2):=b1.cell 1
 have d0:V.cell? (At (w3.heap.size+1) 0)=some (U3 a2):=b2.cell 0
 have d1:V.cell? (At (w3.heap.size+1) 1)=some (I6 n2):=b2.cell 1
 generalize w3.heap.size=N3 at zV c0 c1 d0 d1 ⊢
 clear b1 b2 HB3 HB2 HB1 j0 j1 k0 k1 z1 HN HP HH;go_region_held3 (fun w'=>w'.cell? (At N3 0)=some (U3 a)/\w'.cell? (At N3 1)=some (I6 n2)/\w'.cell? (At (N3+1) 0)=some (U3 a2)/\w'.cell? (At (N3+1) 1)=some (I6 n2)) (go_keep) (first|(go_at_call 111;refine(hA.o _ _ (by have hp:=HV.o;exact upB) (by first|exact .inl rfl|exact .inr rfl)).mono ?_;rintro e w4 ⟨v4,rfl,o4,hb4⟩;have HB4:Hid (Bl V w4):=bup upB hb4;have HW4:Hid (Bl w w4):=bup HV.o HB4.o;have p0:w4.cell? (At N3 0)=some (U3 a):=(HB4.o.cell (p:=At N3 0) (Nat.lt_of_succ_lt zV)).trans c0;have p1:w4.cell? (At N3 1)=some (I6 n2):=(HB4.o.cell (p:=At N3 1) (Nat.lt_of_succ_lt zV)).trans c1;have p2:w4.cell? (At (N3+1) 0)=some (U3 a2):=(HB4.o.cell (p:=At (N3+1) 0) zV).trans d0;have p3:w4.cell? (At (N3+1) 1)=some (I6 n2):=(HB4.o.cell (p:=At (N3+1) 1) zV).trans d1;have y4:N3+1<w4.heap.size:=(by have:=HB4.o.size;omega);obtain⟨b4,c4,rfl,_,_⟩:=ae o4;have HO4:Hid (w4.ownsRow V.heap.size 80 2 (.slice b4 (FL a).length c4) (FL a).length ((FL a).flatMap eE)):=o4;clear o4 hb4)|(go_at_call 111;refine(hA.o _ _ HW4.o (by first|exact .inl rfl|exact .inr rfl)).mono ?_;rintro e w5 ⟨v5,rfl,o5,hb5⟩;have HB5:Hid (Bl w4 w5):=hb5;have HW5:Hid (Bl w w5):=bup HW4.o hb5;have q0:w5.cell? (At N3 0)=some (U3 a):=(hb5.cell (p:=At N3 0) (Nat.lt_of_succ_lt y4)).trans p0;have q1:w5.cell? (At N3 1)=some (I6 n2):=(hb5.cell (p:=At N3 1) (Nat.lt_of_succ_lt y4)).trans p1;have q2:w5.cell? (At (N3+1) 0)=some (U3 a2):=(hb5.cell (p:=At (N3+1) 0) y4).trans p2;have q3:w5.cell? (At (N3+1) 1)=some (I6 n2):=(hb5.cell (p:=At (N3+1) 1) y4).trans p3;obtain⟨b5,c5,rfl,_,_⟩:=ae o5;have HO5:Hid (w5.ownsRow w4.heap.size 80 2 (.slice b5 (FL a2).length c5) (FL a2).length ((FL a2).flatMap eE)):=o5;clear o5 hb5)|(obtain⟨v6,w6,hr6,o6,g6⟩:=lZ w5 126 V.heap.size w4.heap.size (.slice b4 (FL a).length c4) (.slice b5 (FL a2).length c5) (FL a).length (FL a2).length ((FL a).flatMap eE) ((FL a2).flatMap eE) (av HO4.o HB5.o) HO5.o (G8 (FL a2)) (by have h1:=HB4.o.size;have h2:=HB5.o.size;omega) hAB;have y5:N3+1<w5.heap.size:=Nat.lt_of_lt_of_le y4 HB5.o.size;have ne0:some N3≠(Value.slice b4 (FL a).length c4).ownBlock:=(fun e=>by have:=bc HO4.o N3 e.symm;omega);have ne1:some (N3+1)≠(Value.slice b4 (FL a).length c4).ownBlock:=(fun e=>by have:=bc HO4.o (N3+1) e.symm;omega);have s0:w6.cell? (At N3 0)=some (U3 a):=(g6.cell_far (At N3 0) (Nat.lt_of_succ_lt y5) ne0).trans q0;have s1:w6.cell? (At N3 1)=some (I6 n2):=(g6.cell_far (At N3 1) (Nat.lt_of_succ_lt y5) ne0).trans q1;have s2:w6.cell? (At (N3+1) 0)=some (U3 a2):=(g6.cell_far (At (N3+1) 0) y5 ne1).trans q2;have s3:w6.cell? (At (N3+1) 1)=some (I6 n2):=(g6.cell_far (At (N3+1) 1) y5 ne1).trans q3;clear ne0 ne1;refine mb rfl _ _ 126 126 rfl (.slice b4 (FL a).length c4) (.slice b5 (FL a2).length c5) (by simp[Act.eval,Act.put]) (by simp[Act.eval,Act.put]) hr6 ?_))
 all_goals (
  go_wp2;go_ret;refine⟨_,rfl,?_,bu HW5.o g6 (fun b e=>?_) HW5.o.size⟩
  ·rw[List.length_append,List.flatMap_append];exact nC o6 HV.o.size
  ·exact Nat.le_trans HV.o.size (bc HO4.o b e))
theorem e8(l:List Hd)(hl:∀ h,h∈l->ad h.a/\h.n<=32)(v:Value)(k:Nat)(hk:k<=33):∀ (a n:Int) (w:World),ad a->rt a n=true->33<=n+k->Rd 3 ak hd0 w v l ->
  Calls prog 111 #[.agg #[U3 a,I6 n],v] w fun e w'=>∃ v',e=.returned v'/\w'.ownsRow w.heap.size 80 2 v' (aM k l a n).length ((aM k l a n).flatMap eE)/\Bl w w':=by
 induction k with
 | zero =>
  intro a n w ha hr hn _;obtain⟨h0,h1,_⟩:=aj.1 hr;omega
 | succ k ih =>
  intro a n w ha hr hn hrd;have hl1:∀ h,h∈l->ad h.a:=fun h q=>(hl h q).1
  simp only[aM]
  rcases h1:aU l a n with _|_
  ·exact vN l hl1 v a n w ha hrd h1
  ·rcases aV (bM a n) l hd0 with⟨e,_⟩|⟨j,_,e,_⟩
   ·have e1:aR l a n=-1:=e
    have hn32:=qD (fun h q=>(hl h q).2) h1 (by rw[e1];decide)
    obtain⟨⟨p1,p2⟩,p3,p4⟩:=ux ha hr hn32;have hsp:¬(0<=aR l a n):=by rw[e1];decide
    simp only[hsp,Bool.not_true,Bool.false_eq_true,if_false]
    have l1:=fK l k a (n+1)
    have l2:=fK l k (a+sz (n+1)) (n+1)
    have l3:2^k<=2^33:=Nat.pow_le_pow_right dE om
    refine vQ l hl1 v a n w ha hrd hr h1 e1 hn32 (fun aa=>aM k l aa (n+1)) om (fun Wc aa hW h=>?_)
    rcases h with rfl|rfl
    ·exact ih om aa (n+1) Wc p1 p2 om (hrd.below hW)
    ·exact ih om (a+sz (n+1)) (n+1) Wc p3 p4 om (hrd.below hW)
   ·have e1:aR l a n=j:=e
    have hsp:0<=aR l a n:=by rw[e1];omega
    simp only[hsp,Bool.not_true,Bool.false_eq_true,if_false,if_true]
    refine(vO l hl1 v a n w ha hrd h1 j e1).mono ?_
    rintro e w' ⟨rfl,hb⟩
    exact⟨_,rfl,World.ownsRow_nil _ _ _ _,hb⟩
def obA(o:Option (Int×Int)):Int:=(o.getD (0,0)).1
def obN(o:Option (Int×Int)):Int:=(o.getD (0,0)).2
theorem vK{α β:Type}(f:β->α->β)(l:List α)(d:α)(b:β)(k:Nat)(hk:k<l.length):(l.take (k+1)).foldl f b=f ((l.take k).foldl f b) (l.getD k d):=by
 rw[List.take_succ_eq_append_getElem hk,List.foldl_append,List.getD_eq_getElem?_getD,List.getElem?_eq_getElem hk];rfl
theorem gx(L:List (Int×Int))(bits:Int)(v:Value)(w:World)(hr:Rd 2 eE (0,0) w v L)(hn:L.length<=9223372036854775806):Cr prog 110 #[v,I6 bits] w (.tuple #[.agg #[U3 (obA (dN L bits)),I6 (obN (dN L bits))],.bool (dN L bits).isSome]):=by
 obtain⟨b,cap,rfl,h1,h2,h3⟩:=hr;have hrow:Hid (∀ W,Bl w W->∀ j,j<L.length->∃ g,b=some (At g 0)/\W.cell? (At g (j*2))=some (U3 (L.getD j (0,0)).1)/\W.cell? (At g (j*2+1))=some (I6 (L.getD j (0,0)).2)):=fun W hW j hj=>by
  obtain⟨g,hg,hlt,hc⟩:=h3 (by intro e;rw[e] at hj;simp at hj)
  have hc:=hc j hj;exact⟨g,hg,(hW.cell (p:=At g (j*2)) hlt).trans (hc 0 _ rfl),(hW.cell (p:=At g (j*2+1)) hlt).trans (hc 1 _ rfl)⟩
 have HF:Hid (∀ j,j<L.length->(L.take (j+1)).foldl (aX bits) none=aX bits ((L.take j).foldl (aX bits) none) (L.getD j (0,0))):=fun j hj=>vK _ L (0,0) none j hj
 have HBE:Hid (dN L bits=L.foldl (aX bits) none):=rfl
 generalize dN L bits=res at HBE ⊢
 clear h1 h2 h3;go_enter func110,ntmps110
 go_wp2;go_loopg [7,9,12] L.length (fun gg s7 _ s12 wr=>∃ (k:Nat) (o:Option (Int×Int)),k<=L.length/\L.length-k<=gg/\s12=I6 k/\s7=.bool o.isSome/\Hid (Blk wr (w.heap.size+1) #[U3 (obA o),I6 (obN o)] 80)/\w.heap.size+1<wr.heap.size/\Hid (Bl w wr)/\Hid (Blk wr w.heap.size #[U3 0,I6 0] 80)/\Hid ((L.take k).foldl (aX bits) none=o))
 case atStart =>
  have q0:=Blk.new (w.alloc (.cells #[U3 0,I6 0] 80)) #[U3 0,I6 0] 80
  rw[show (w.alloc (.cells #[U3 0,I6 0] 80)).heap.size=w.heap.size+1 by simp] at q0
  have hb0:Bl w ((w.alloc (.cells #[U3 0,I6 0] 80)).alloc (.cells #[U3 0,I6 0] 80)):=upB
  exact⟨0,none,Nat.zero_le _,by omega,rfl,rfl,q0,by simp,hb0,((Below.heap_alloc _ _ _ sM).trans (Blk.new w _ _):Blk _ _ _ _),(rfl:([]:List (Int×Int)).foldl (aX bits) none=none)⟩
 case round =>
  obtain⟨k,o,hk,hg,rfl,rfl,B1,hz,BW,RB,HL⟩:=hrel;have m0:wr.cell? (At (w.heap.size+1) 0)=some (U3 (obA o)):=B1.o.cell 0
  have m1:wr.cell? (At (w.heap.size+1) 1)=some (I6 (obN o)):=B1.o.cell 1
  have f0:wr.frozen? (At (w.heap.size+1) 0)=false:=B1.o.frozen 0
  have f1:wr.frozen? (At (w.heap.size+1) 1)=false:=B1.o.frozen 1
  have hsz2:∀ u v:Value,((wr.setCell (At (w.heap.size+1) 0) u).setCell (At (w.heap.size+1) 1) v).heap.size=wr.heap.size:=fun u v=>(aK (w.heap.size+1) [u,v] 0 wr).2.2.2.1
  have HST:Hid (∀ (u v:Value) (ob:Obj),Blk (((wr.setCell (At (w.heap.size+1) 0) u).setCell (At (w.heap.size+1) 1) v).alloc ob) (w.heap.size+1) #[u,v] 80/\Blk (((wr.setCell (At (w.heap.size+1) 0) u).setCell (At (w.heap.size+1) 1) v).alloc ob) w.heap.size #[U3 0,I6 0] 80/\Bl w (((wr.setCell (At (w.heap.size+1) 0) u).setCell (At (w.heap.size+1) 1) v).alloc ob)):=fun u v ob=>by
   refine⟨(Below.heap_alloc _ _ _ (by rw[hsz2];exact hz)).trans ((B1.o.set 0 u).set 1 v),(Below.heap_alloc _ _ _ (by rw[hsz2];omega)).trans (((aK (w.heap.size+1) [u,v] 0 wr).2.2.2.2 w.heap.size om).trans RB.o),?_⟩
   have hp:=BW.o;have hs:=hsz2 u v;refine Below.alloc ?_ (by rw[hs];omega) _
   exact upB
  clear hsz2;have hz0:w.heap.size<wr.heap.size:=by omega
  by_cases hlt:k<L.length
  ·obtain⟨g,rfl,c0,c1⟩:=hrow.o wr BW.o k hlt;have hf:=HF.o k hlt;rw[HL.o] at hf;generalize L.getD k (0,0)=y at c0 c1 hf
   obtain⟨ya,yn⟩:=y;dsimp only at c0 c1;have HFK:Hid ((L.take (k+1)).foldl (aX bits) none=aX bits o (ya,yn)):=hf
   clear hf hrow HF;have hltz:(k:Int)<(L.length:Int):=by omega
   by_cases hb:yn<=bits
   ·cases o with
    | none =>
     have HQ:Hid ((L.take (k+1)).foldl (aX bits) none=some (ya,yn)):=HFK.o.trans (by simp[aX,hb])
     go_wp2;go_roundg (L.length-(k+1))
     case measure=>omega
     case rel =>
      obtain⟨x1,x2,x3⟩:=HST.o (U3 ya) (I6 yn) (.cells #[U3 ya,I6 yn] 80)
      exact⟨k+1,some (ya,yn),by omega,by omega,by go_num,rfl,x1,by simp[World.setCell];omega,x3,x2,HQ⟩
    | some c =>
     obtain⟨ca,cn⟩:=c;simp only[obA,obN,Option.getD_some] at m0 m1
     by_cases hc:cn<yn
     ·have HQ:Hid ((L.take (k+1)).foldl (aX bits) none=some (ya,yn)):=HFK.o.trans (by simp[aX,hb,hc])
      go_wp2;go_roundg (L.length-(k+1))
      case measure=>omega
      case rel =>
       obtain⟨x1,x2,x3⟩:=HST.o (U3 ya) (I6 yn) (.cells #[U3 ya,I6 yn] 80)
       exact⟨k+1,some (ya,yn),by omega,by omega,by go_num,rfl,x1,by simp[World.setCell];omega,x3,x2,HQ⟩
     ·have HQ:Hid ((L.take (k+1)).foldl (aX bits) none=some (ca,cn)):=HFK.o.trans (by simp[aX,hb,hc])
      go_wp2;go_roundg (L.length-(k+1))
      case measure=>omega
      case rel =>
       exact⟨k+1,some (ca,cn),by omega,by omega,by go_num,rfl,(Below.heap_alloc _ _ _ hz).trans B1.o,by simp;omega,bup BW.o upB,(Below.heap_alloc _ _ _ hz0).trans RB.o,HQ⟩
   ·have HQ:Hid ((L.take (k+1)).foldl (aX bits) none=o):=HFK.o.trans (by simp[aX,hb])
    go_wp2;go_roundg (L.length-(k+1))
    case measure=>omega
    case rel =>
     exact⟨k+1,o,by omega,by omega,by go_num,rfl,(Below.heap_alloc _ _ _ hz).trans B1.o,by simp;omega,bup BW.o upB,(Below.heap_alloc _ _ _ hz0).trans RB.o,HQ⟩
  ·have hkl:k=L.length:=by omega
   subst hkl;rw[List.take_length] at HL;have hres:res=o:=HBE.o.trans HL.o
   subst hres;have r0:wr.cell? (At w.heap.size 0)=some (U3 0):=RB.o.cell 0
   have r1:wr.cell? (At w.heap.size 1)=some (I6 0):=RB.o.cell 1
   have r2:wr.frozen? (At w.heap.size 0)=false:=RB.o.frozen 0
   have r3:wr.frozen? (At w.heap.size 1)=false:=RB.o.frozen 1
   have hk01:=ay RB.o (U3 (obA res)) (I6 (obN res))
   clear hrow HF HL HBE;go_wp2;obtain⟨kk0,kk1⟩:=hk01;exact bodyPost_ret (v:=.tuple #[.agg #[U3 (obA res),I6 (obN res)],.bool res.isSome]) (by simp[results,results110,go_sem,kk0,kk1]) rfl ⟨rfl,by have hp:=BW.o;exact upB⟩
end Go.Proofs.YtjnhhnbgjjkkjaaGreatDoor
