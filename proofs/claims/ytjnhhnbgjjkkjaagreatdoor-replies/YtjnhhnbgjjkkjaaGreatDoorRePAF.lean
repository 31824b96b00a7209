import Derived.Shelf.Spec.SlicesInsertGrow
import Derived.Test.YtjnhhnbgjjkkjaaGreatDoorRePAE
set_option linter.all false
set_option maxRecDepth 100000
set_option maxHeartbeats 2000000
namespace Go.Proofs.YtjnhhnbgjjkkjaaGreatDoor
open Go.ChangeShapes Go.WideShapes Go.ChangeAt Go.RowKit Go.Proofs.Tryz
theorem Aq{a:Prop}{g n:Nat}(h:a\/g=n):a\/n<=g:=by rcases h with h|h;exact .inl h;exact .inr om
theorem zk:(prog.info? 155).map (fun i=>(i.zero,i.size,i.bytes))=some (some (.agg #[U3 0,I6 0,.string ByteArray.empty]),3,32):=by kernel_rfl
theorem uS:(prog.info? 155).map (·.size)=some 3:=by kernel_rfl
theorem CR(cs vs:List Value)(n:Nat)(v:Value)(vb:Nat)(w:World)(hown:w.ownsRow 0 155 3 v n cs)(hn:n<=1000)(hvl:vs.length=3)(hv:Blk w vb vs.toArray 155)(h1v:∀ u∈vs,u.oneCell'=true):Calls prog 157 #[v,I6 n,Sq vb 1 1] w fun e w'=>∃ g cap,e=.returned (Sq g (n+1) cap)/\w'.ownsRow 0 155 3 (Sq g (n+1) cap) (n+1) (cs++vs)/\w.grownBy w' v.ownBlock/\(v.ownBlock=some g\/w.heap.size<=g)/\g<w'.heap.size:=by
 have hsl:∃ b cap,v=.slice b n cap/\n<=cap/\cap<=maxLen:=by
  rcases hown.2 with⟨rfl,e⟩|⟨g,cap,cur,rfl,_,_,h1,h2,_⟩
  ·exact⟨none,0,by rw[e],by omega,by unfold maxLen;omega⟩
  ·exact⟨_,cap,rfl,h1,h2⟩
 have HO:Hid (w.ownsRow 0 155 3 v n cs):=hown
 have hcell:Hid (∀ j u,vs[j]?=some u->w.cell? (Addr.add (At vb 0) j)=some u):=fun j u hj=>by
  rw[Addr.add_lit,hv.cell];simpa using hj
 have H1:Hid (∀ u∈vs,u.oneCell'=true):=h1v
 obtain⟨b,cap,rfl,hc1,hc2⟩:=hsl;unfold maxLen at hc2;obtain⟨i0,hi,hz0,hz1,hz2⟩:=info_parts zk;clear hown hv h1v;generalize hob:(Value.slice b n cap).ownBlock=ob
 have OB:Hid ((Value.slice b n cap).ownBlock=ob):=hob
 clear hob;go_enter func157,ntmps157
 go_wp2_with (at_builtin;refine wpList_append_lies _ rfl _ _ 156 rfl 0 155 i0 _ 3 32 underlying156 hi hz0 hz1 hz2 rfl dE (.slice b n cap) n cs rfl HO.o (At vb 0) 1 1 vs rfl om hcell.o H1.o om (by unfold maxLen;omega) om om _ rfl ?_;intro g3 cap3 w3 hown3 hgrow3 hat3 hlt3;rw[OB.o] at hgrow3 hat3)
 all_goals (
  go_ret;exact⟨g3,cap3,rfl,hown3,hgrow3,Aq hat3,hlt3⟩)
theorem EH(cs vs:List Value)(n i:Nat)(g cap:Nat)(cur:Array Value)(vb:Nat)(w:World)(hi:i<n)(hn:n<=1000)(hg:Blk w g cur 155)(hcur:cur.size=cap*3)(hcs:cur.toList.take (n*3)=cs)(hroom:n+1<=cap)(hcm:cap<=9223372036854775807)
  (hvl:vs.length=3) (hv:Blk w vb vs.toArray 155) (hvb:vb≠g) (h1v:∀ u∈vs,u.oneCell'=true) (h1c:∀ u∈cs,u.oneCell'=true) :
  Calls prog 157 #[Sq g n cap,I6 i,Sq vb 1 1] w fun e w'=>e=.returned (Sq g (n+1) cap)/\w'=(w.drew.setCells g ((i+1)*3) (cs.drop (i*3))).setCells g (i*3) vs:=by
 have hcl:cs.length=n*3:=by rw[<- hcs];simp[hcur];omega
 have hz2:¬((i:Int)=(n:Int)):=by omega
 have hov:∀ lb cb,(callFunc 204 #[Sq vb 1 1,.slice (some (At g ((i+1)*3))) lb cb]).run prog w=.ok (.value (.bool false)) w:=fun lb cb=>by
  rw[run_callFunc_extern func204 (by kernel_rfl) (by kernel_rfl) (by kernel_rfl) (e:=Extern.SlicesOverlaps.overlaps #[156,156] #[4]) (by kernel_rfl),
   Lib.run_overlaps_apart w 156 4 155 underlying156 3 Tryz.sizeOf155 (At vb 0) ⟨g,(i+1)*3,none⟩ 1 1 lb cb hvb 155 155 vs.length cur.size (by unfold Blk at hv;simp[World.shape?,hv]) (by unfold Blk at hg;simp[World.shape?,hg]) om (hv.frozen 0) (hv.frozen _)]
  rfl
 have hdl:(cs.drop (i*3)).length=(n-i)*3:=by rw[List.length_drop,hcl];omega
 have hcell:∀ j u,cs[j]?=some u->w.cell? (At g j)=some u:=fun j u hj=>by
  rw[hg.cell,<- Array.getElem?_toList,<- hj,<- hcs,List.getElem?_take];rw[<- hcs,List.getElem?_take] at hj;split at hj
  ·rename_i h;rw[if_pos h]
  ·cases hj
 have hsp:∀ j,j<(n+1)*3->(w.cell? (At g j)).isSome=true:=fun j hj=>by rw[hg.cell,Array.getElem?_eq_getElem om];rfl
 have hcp1:∀ ty dc sc,(Builtin.copy_ #[156,156] ty #[.slice (some (At g ((i+1)*3))) (n-i) dc,.slice (some (At g (i*3))) (n+1-i) sc]).run prog w.drew=.ok (goInt (n-i:Nat)) (w.drew.setCells g ((i+1)*3) (cs.drop (i*3))):=fun ty dc sc =>
  bX w.drew _ _ ty 155 3 g ((i+1)*3) (n-i) dc (At g (i*3)) (n+1-i) sc (cs.drop (i*3)) underlying156 uS (n-i) (by simp only[Nat.min_def];split<;>omega) hdl
   (fun j u hj=>by rw[Addr.add_lit];exact hcell _ u (by rwa [List.getElem?_drop] at hj))
   (fun j hj=>hsp _ om) (fun j hj=>hg.frozen _) (fun u hu=>h1c u (List.mem_of_mem_drop hu))
 obtain⟨W1,hW1⟩:∃ W1,W1=w.drew.setCells g ((i+1)*3) (cs.drop (i*3)):=⟨_,rfl⟩
 have hg1:Blk W1 g (bB cur.toList ((i+1)*3) (cs.drop (i*3))).toArray 155:=by rw[hW1];exact Blk.sets (w:=w.drew) _ _ hg (by rw[hdl];omega)
 have hs1:(bB cur.toList ((i+1)*3) (cs.drop (i*3))).length=cap*3:=by rw[bL _ _ _ (by rw[hdl];simp;omega)];simpa using hcur
 have hv1:Blk W1 vb vs.toArray 155:=by rw[hW1];exact((aK g _ _ w.drew).2.2.2.2 vb hvb).trans hv
 have hcp2:∀ (W:World),W.heap=W1.heap->∀ ty dc,(Builtin.copy_ #[156,156] ty #[.slice (some (At g (i*3))) (n+1-i) dc,Sq vb 1 1]).run prog W=.ok (goInt (1:Nat)) (W.setCells g (i*3) vs):=fun W hW ty dc=>by
  have hgW:Blk W g (bB cur.toList ((i+1)*3) (cs.drop (i*3))).toArray 155:=by unfold Blk;rw[hW];exact hg1
  have hvW:Blk W vb vs.toArray 155:=by unfold Blk;rw[hW];exact hv1
  exact bX W _ _ ty 155 3 g (i*3) (n+1-i) dc (At vb 0) 1 1 vs underlying156 uS 1 (by simp only[Nat.min_def];split<;>omega) om
   (fun j u hj=>by rw[Addr.add_lit,hvW.cell];simpa using hj)
   (fun j hj=>by rw[hgW.cell,Array.getElem?_eq_getElem (by simp[hs1];omega)];rfl) (fun j hj=>hgW.frozen _) h1v
 rw[<- hW1] at hcp1 ⊢;have hcpB:=hcp2 W1 rfl;have HW:Hid (W1=w.drew.setCells g ((i+1)*3) (cs.drop (i*3))):=hW1
 clear hW1;have hw1:IntKind.i64.wrap ((i:Int)+1)=(i:Int)+1:=by rw[IntKind.wrap_i64];omega
 have hb1:(0:Int)<=(i:Int)+1:=by omega
 have htn:((i:Int)+1).toNat=i+1:=by omega
 have hb2:¬(cap=i+1):=by omega
 have hb3:(i:Int)<=(n:Int)+1:=by omega
 have hb4:¬(cap=i):=by omega
 have hin:i<=n:=by omega
 clear hcp2 hg hg1 hv hv1 hcell hsp hdl hcl hcs hcur hs1 h1v h1c;go_enter func157,ntmps157
 go_wp2_with (simp only[hov])
 go_region
 go_wp2;go_ret;exact⟨rfl,rfl⟩
theorem zn(cs vs:List Value)(n i:Nat)(g cap:Nat)(cur:Array Value)(vb:Nat)(w:World)(hi:i<n)(hn:n<=1000)(hg:Blk w g cur 155)(hcur:cur.size=cap*3)(hcs:cur.toList.take (n*3)=cs)(hnc:n<=cap)(hroom:cap<n+1)
  (hvl:vs.length=3) (hv:Blk w vb vs.toArray 155) (h1v:∀ u∈vs,u.oneCell'=true) (h1c:∀ u∈cs,u.oneCell'=true) :
  Calls prog 157 #[Sq g n cap,I6 i,Sq vb 1 1] w fun e w'=>∃ c',e=.returned (.slice (some (Nw w 0)) (n+1) c')/\w'.ownsRow 0 155 3 (.slice (some (Nw w 0)) (n+1) c') (n+1) (cs.take (i*3)++vs++cs.drop (i*3))/\w.grownBy w' none/\w.heap.size<w'.heap.size:=by
 have hcl:cs.length=n*3:=by rw[<- hcs];simp[hcur];omega
 obtain⟨i0,hi0,hz0,hzs,hzb⟩:=info_parts zk;have hcell:∀ j u,cs[j]?=some u->w.cell? (At g j)=some u:=fun j u hj=>by
  rw[hg.cell,<- Array.getElem?_toList,<- hj,<- hcs,List.getElem?_take];rw[<- hcs,List.getElem?_take] at hj;split at hj
  ·rename_i h;rw[if_pos h]
  ·cases hj
 have hdl:(cs.drop (i*3)).length=(n-i)*3:=by rw[List.length_drop,hcl];omega
 have htl:(cs.take (i*3)).length=i*3:=by rw[List.length_take,hcl];omega
 have hold:(Builtin.firstCells i0.size i (Sq g i cap)).run prog w.drew=.ok (cs.take (i*3)).toArray w.drew:=by
  rw[hzs];exact run_firstCells_some w.drew 3 i (At g 0) i cap (cs.take (i*3)) htl (fun j v hj=>by
   rw[Addr.add_lit,Nat.zero_add];rw[List.getElem?_take] at hj;split at hj
   ·exact hcell j v hj
   ·cases hj)
 obtain⟨G,hG⟩:∃ G,G=grownCap w (n+1) cap 155:=⟨_,rfl⟩
 have hGn:n+1<=G:=by rw[hG];exact grownCap_ge w _ _ _
 have hGm:G<=maxLen:=by rw[hG];exact grownCap_le_maxLen w (n+1) cap _ (by unfold maxLen;omega)
 obtain⟨Z,hZ⟩:∃ Z:Array Value,Z=Builtin.zeroCells (.agg #[U3 0,I6 0,.string ByteArray.empty]:Value).cells (n+1-i)++Builtin.zeroCells (.agg #[U3 0,I6 0,.string ByteArray.empty]:Value).cells (G-(n+1)):=⟨_,rfl⟩
 have hZs:Z.size=(G-i)*3:=by rw[hZ];simp[Builtin.zeroCells,Value.cells];omega
 obtain⟨W1,hW1⟩:∃ W1,W1=w.drew.alloc (.cells ((cs.take (i*3)).toArray++Z) 155):=⟨_,rfl⟩
 have hrz:∀ ty,(Builtin.append_ #[156,3] ty #[Sq g i cap,I6 ((n:Int)+1-(i:Int))]).run prog w=.ok (.slice (some (Nw w 0)) (n+1) G) W1:=fun ty=>by
  have h:=Lib.run_append_grow_zeros w 156 3 ty 155 i0 _ .i64 .i64 underlying156 underlying3 hi0 hz0 (some (At g 0)) i cap (cs.take (i*3)) hold (n+1-i) om om om om (by rw[hzb];omega) (by rw[hzb,show i+(n+1-i)=n+1 by omega];exact growslice_fits hroom om)
  rw[show i+(n+1-i)=n+1 by omega,<- hG] at h
  rw[show (n:Int)+1-(i:Int)=((n+1-i:Nat):Int) by omega,h,hW1,hZ,Array.append_assoc]
 have b1:Blk W1 w.heap.size ((cs.take (i*3)).toArray++Z) 155:=by rw[hW1];exact Blk.new w.drew _ _
 have z1:((cs.take (i*3)).toArray++Z).size=G*3:=by rw[Array.size_append,hZs];simp only[List.size_toArray,htl];omega
 have hb1:Bl w W1:=by rw[hW1];exact((Below.refl _ w).drew).alloc (Nat.le_refl _) _
 have v1:Blk W1 vb vs.toArray 155:=hv.below hb1
 have g1:Blk W1 g cur 155:=hg.below hb1
 have hgw:=hg.lt;have hvw:=hv.lt;obtain⟨W2,hW2⟩:∃ W2,W2=W1.setCells w.heap.size (i*3) vs:=⟨_,rfl⟩
 have hcp1:∀ ty dc,(Builtin.copy_ #[156,156] ty #[.slice (some (Nw w (i*3))) (n+1-i) dc,Sq vb 1 1]).run prog W1=.ok (goInt (1:Nat)) W2:=fun ty dc=>by
  rw[hW2];exact bX W1 _ _ ty 155 3 w.heap.size (i*3) (n+1-i) dc (At vb 0) 1 1 vs underlying156 uS 1 (by simp only[Nat.min_def];split<;>omega) om
   (fun j u hj=>by rw[Addr.add_lit,v1.cell];simpa using hj)
   (fun j hj=>by rw[b1.cell,Array.getElem?_eq_getElem (by rw[z1];omega)];rfl) (fun j hj=>b1.frozen _) h1v
 have b2:=Blk.sets vs (i*3) b1 (by rw[z1];omega)
 rw[<- hW2] at b2;have z2:(bB ((cs.take (i*3)).toArray++Z).toList (i*3) vs).length=G*3:=by
  have hx:((cs.take (i*3)).toArray++Z).toList.length=G*3:=by rw[Array.length_toList,z1]
  rw[bL _ _ _ (by rw[hx];omega),hx]
 have g2:Blk W2 g cur 155:=by rw[hW2];exact((aK w.heap.size _ _ W1).2.2.2.2 g om).trans g1
 obtain⟨W3,hW3⟩:∃ W3,W3=W2.drew.setCells w.heap.size ((i+1)*3) (cs.drop (i*3)):=⟨_,rfl⟩
 have hcp2:∀ ty dc sc,(Builtin.copy_ #[156,156] ty #[.slice (some (Nw w ((i+1)*3))) (n-i) dc,.slice (some (At g (i*3))) (n-i) sc]).run prog W2.drew=.ok (goInt (n-i:Nat)) W3:=fun ty dc sc=>by
  rw[hW3];exact bX W2.drew _ _ ty 155 3 w.heap.size ((i+1)*3) (n-i) dc (At g (i*3)) (n-i) sc (cs.drop (i*3)) underlying156 uS (n-i) sM hdl
   (fun j u hj=>by
    rw[Addr.add_lit];have h1:=hcell (i*3+j) u (by rwa [List.getElem?_drop] at hj)
    rw[hg.cell] at h1;exact(Blk.cell (w:=W2.drew) g2 _).trans h1)
   (fun j hj=>by rw[Blk.cell (w:=W2.drew) b2,Array.getElem?_eq_getElem (by rw[List.size_toArray,z2];omega)];rfl) (fun j hj=>Blk.frozen (w:=W2.drew) b2 _) (fun u hu=>h1c u (List.mem_of_mem_drop hu))
 have b3:=Blk.sets (w:=W2.drew) (cs.drop (i*3)) ((i+1)*3) b2 (by rw[List.size_toArray,z2];omega)
 rw[<- hW3] at b3;have hrow:bB (bB ((cs.take (i*3)).toArray++Z).toList (i*3) vs) ((i+1)*3) (cs.drop (i*3))=cs.take (i*3)++vs++cs.drop (i*3)++Z.toList.drop (3+(cs.drop (i*3)).length):=by
  have:=oj (cs.take (i*3)) (cs.drop (i*3)) Z.toList vs 3 hvl (by rw[hdl,Array.length_toList,hZs];omega)
  rw[htl] at this;rw[Array.toList_append,show (i+1)*3=i*3+3 by omega]
  exact this
 have hend:Hid (W3.ownsRow 0 155 3 (.slice (some (Nw w 0)) (n+1) G) (n+1) (cs.take (i*3)++vs++cs.drop (i*3))/\w.grownBy W3 none/\w.heap.size<W3.heap.size):=by
  refine⟨⟨by simp[htl,hvl,hdl];omega,.inr ⟨_,G,_,rfl,Nat.zero_le _,b3,hGn,hGm,?_,?_⟩⟩,?_,b3.lt⟩
  ·rw[List.size_toArray,hrow];simp[htl,hvl,hdl,hZs];omega
  ·rw[List.toList_toArray,hrow];exact List.take_left' (by simp[htl,hvl,hdl];omega)
  ·rw[hW3];refine aP (cV ?_) _ _ _ (.inr (Nat.le_refl _))
   rw[hW2];refine aP ?_ _ _ _ (.inr (Nat.le_refl _))
   rw[hW1];exact⟨rfl,rfl,rfl,by simp,fun k hk _=>Below.heap_alloc w.drew _ k hk⟩
 have hG63:G<=9223372036854775807:=by unfold maxLen at hGm;omega
 have hz2:¬((i:Int)=(n:Int)):=by omega
 have hz3:(cap:Int)<(n:Int)+1:=by omega
 have hw1:IntKind.i64.wrap ((i:Int)+1)=(i:Int)+1:=by rw[IntKind.wrap_i64];omega
 have hp1:(0:Int)<=(i:Int)+1:=by omega
 have htn:((i:Int)+1).toNat=i+1:=by omega
 have hb2:¬(G=i+1):=by omega
 have hb4:¬(G=i):=by omega
 have hb5:¬(cap=i):=by omega
 have hin:i<=n:=by omega
 clear hG hGn hGm hZ hZs hW1 hW2 hW3 hold b1 b2 b3 z1 z2 g1 g2 v1 hrow hb1 hg hv hcell hdl htl hcl hcs hcur h1v h1c hzs hzb hz0 hi0;go_enter func157,ntmps157
 go_wp2_with (at_builtin;refine Lib.wpList_append_run _ rfl _ _ _ _ rfl _ _ rfl rfl _ _ (hrz _) ?_)
 go_region
 go_wp2;go_ret;exact⟨G,rfl,hend.o⟩
theorem GR(cs:List Value)(m i:Nat)(g cap:Nat)(cur:Array Value)(w:World)(hi:i<m+1)(hn:m<=1000)(hg:Blk w g cur 155)(hcur:cur.size=cap*3)(hcs:cur.toList.take ((m+1)*3)=cs)(hnc:m+1<=cap)(hcm:cap<=maxLen)(h1c:∀ u∈cs,u.oneCell'=true):Calls prog 109 #[Sq g (m+1) cap,I6 i,I6 ((i:Int)+1)] w fun e w'=>e=.returned (Sq g m cap)/\w'.ownsRow 0 155 3 (Sq g m cap) m (cs.take (i*3)++cs.drop ((i+1)*3))/\w.grownBy w' (some g):=by
 have hcl:cs.length=(m+1)*3:=by rw[<- hcs];simp[hcur];omega
 obtain⟨i0,hi0,hz0,hzs,hzb⟩:=info_parts zk;have hcell:∀ j u,cs[j]?=some u->w.cell? (At g j)=some u:=fun j u hj=>by
  rw[hg.cell,<- Array.getElem?_toList,<- hj,<- hcs,List.getElem?_take];rw[<- hcs,List.getElem?_take] at hj;split at hj
  ·rename_i h;rw[if_pos h]
  ·cases hj
 have hdl:(cs.drop ((i+1)*3)).length=(m-i)*3:=by rw[List.length_drop,hcl];omega
 have htl:(cs.take (i*3)).length=i*3:=by rw[List.length_take,hcl];omega
 obtain⟨W1,hW1⟩:∃ W1,W1=w.drew.setCells g (i*3) (cs.drop ((i+1)*3)):=⟨_,rfl⟩
 obtain⟨A,hA,hsrc⟩:∃ A:Addr,(if cap=i+1 then some ((At g 0):Addr) else some (At g ((i+1)*3)))=some A/\Hid (∀ t u,(cs.drop ((i+1)*3))[t]?=some u->w.drew.cell? (A.add t)=some u):=by
  by_cases h:cap=i+1
  ·refine⟨_,if_pos h,fun t u hu=>?_⟩
   have h0:(cs.drop ((i+1)*3)).length=0:=by rw[hdl];omega
   rw[List.length_eq_zero_iff.1 h0] at hu;simp at hu
  ·refine⟨_,if_neg h,fun t u hu=>?_⟩
   rw[Addr.add_lit];exact hcell _ u (by rwa [List.getElem?_drop] at hu)
 have s1:Hid ((cs.drop ((i+1)*3)).length=(m-i)*3):=hdl
 have s2:Hid (∀ u∈cs.drop ((i+1)*3),u.oneCell'=true):=fun u hu=>h1c u (List.mem_of_mem_drop hu)
 have s3:Hid (∀ t,t<(cs.drop ((i+1)*3)).length->(w.drew.cell? (At g (0+i*3+t))).isSome=true/\w.drew.frozen? (At g (0+i*3+t))=false):=fun t ht=>by
  rw[hdl] at ht;exact⟨by rw[Blk.cell (w:=w.drew) hg,Array.getElem?_eq_getElem om];rfl,Blk.frozen (w:=w.drew) hg _⟩
 have HW:Hid (W1=w.drew.setCells g (0+i*3) (cs.drop ((i+1)*3))):=by rw[Nat.zero_add];exact hW1
 have b1:Blk W1 g (bB cur.toList (i*3) (cs.drop ((i+1)*3))).toArray 155:=by rw[hW1];exact Blk.sets (w:=w.drew) _ _ hg (by rw[hdl];omega)
 have z1:(bB cur.toList (i*3) (cs.drop ((i+1)*3))).length=cap*3:=by rw[bL _ _ _ (by rw[hdl];simp;omega)];simpa using hcur
 obtain⟨W2,hW2⟩:∃ W2,W2=W1.setCells g (m*3) (.agg #[U3 0,I6 0,.string ByteArray.empty]:Value).cells.toList:=⟨_,rfl⟩
 have hcr:∀ ty c,(Builtin.clear_ #[156] ty #[.slice (some (At g (m*3))) 1 c]).run prog W1=.ok (.tuple #[]) W2:=fun ty c=>by
  rw[hW2];exact fF W1 156 155 ty (.agg #[U3 0,I6 0,.string ByteArray.empty]) underlying156 (fun w=>by rw[Tryz.zeroValue155];rfl) g (m*3) c
   (fun j hj=>by simp[Value.cells] at hj;rw[b1.cell,Array.getElem?_eq_getElem (by rw[List.size_toArray,z1];omega)];rfl) (fun j hj=>b1.frozen _) (by intro u hu;simp[Value.cells] at hu;rcases hu with rfl|rfl|rfl<;>rfl)
 have b2:=Blk.sets (.agg #[U3 0,I6 0,.string ByteArray.empty]:Value).cells.toList (m*3) b1 (by rw[List.size_toArray,z1];simp[Value.cells];omega)
 rw[<- hW2] at b2;have hrow:bB (bB cur.toList (i*3) (cs.drop ((i+1)*3))) (m*3) (.agg #[U3 0,I6 0,.string ByteArray.empty]:Value).cells.toList=cs.take (i*3)++cs.drop ((i+1)*3)++(.agg #[U3 0,I6 0,.string ByteArray.empty]:Value).cells.toList++cur.toList.drop ((m+1)*3):=by
  have hM:((cs.drop (i*3)).take 3).length=3:=by simp[hcl];omega
  have:=se (cs.take (i*3)) ((cs.drop (i*3)).take 3) (cs.drop ((i+1)*3)) (cur.toList.drop ((m+1)*3)) (.agg #[U3 0,I6 0,.string ByteArray.empty]:Value).cells.toList 3 hM (by simp[Value.cells])
  have e:cs.take (i*3)++(cs.drop (i*3)).take 3++cs.drop ((i+1)*3)++cur.toList.drop ((m+1)*3)=cur.toList:=by
   rw[show cs.drop ((i+1)*3)=(cs.drop (i*3)).drop 3 by rw[List.drop_drop];congr 1;omega,List.append_assoc (cs.take (i*3)),List.take_append_drop,List.take_append_drop,<- hcs,List.take_append_drop]
  rw[e,htl,hdl,show i*3+(m-i)*3=m*3 by omega] at this
  exact this
 have hend:Hid (W2.ownsRow 0 155 3 (Sq g m cap) m (cs.take (i*3)++cs.drop ((i+1)*3))/\w.grownBy W2 (some g)):=by
  refine⟨⟨by simp[htl,hdl];omega,.inr ⟨g,cap,_,rfl,Nat.zero_le _,b2,by omega,hcm,?_,?_⟩⟩,?_⟩
  ·rw[List.size_toArray,bL _ _ _ (by rw[z1];simp[Value.cells];omega),z1]
  ·rw[List.toList_toArray,hrow,List.append_assoc];exact List.take_left' (by simp[htl,hdl];omega)
  ·rw[hW2];refine aP ?_ _ _ _ (.inl rfl)
   rw[hW1];exact aP (cV (dC _ _)) _ _ _ (.inl rfl)
 have hw1:IntKind.i64.wrap ((i:Int)+1)=(i:Int)+1:=by rw[IntKind.wrap_i64];omega
 have hp1:(0:Int)<=(i:Int)+1:=by omega
 have htn:((i:Int)+1).toNat=i+1:=by omega
 have hb1:¬(cap=m):=by omega
 have hb3:(i:Int)<=(i:Int)+1:=by omega
 have hb4:(i:Int)+1<=(m:Int)+1:=by omega
 have hb6:i+1<=m+1:=by omega
 have hb7:m<=cap:=by omega
 have hb8:i<=cap:=by omega
 have hc63:cap<=9223372036854775807:=by unfold maxLen at hcm;omega
 have hmi:i+(m-i)=m:=by omega
 clear hW1 hW2 b1 b2 z1 hrow hg hcell hdl htl hcl hcs hcur h1c hzb hz0;go_enter func109,ntmps109
 go_wp2;go_region_law (refine step_append_room rfl (.tmp 22) (.tmp 25) 156 rfl 155 i0 3 underlying156 hi0 hzs g 0 i cap (by simp[Act.eval,Act.put]) A (m-i) (cap-(i+1)) (cs.drop ((i+1)*3)) (by simp[Act.eval,Act.put]) s1.o hsrc.o s2.o om s3.o ?_;rw[<- HW.o,hmi])
 go_wp2;go_ret;exact⟨rfl,hend.o⟩
theorem Gh(cs vs:List Value)(n i:Nat)(v:Value)(vb:Nat)(w:World)(hown:w.ownsRow 0 155 3 v n cs)(hi:i<=n)(hn:n<=1000)(hvl:vs.length=3)(hv:Blk w vb vs.toArray 155)(hvb:v.ownBlock≠some vb)(h1v:∀ u∈vs,u.oneCell'=true)(h1c:∀ u∈cs,u.oneCell'=true):Calls prog 157 #[v,I6 i,Sq vb 1 1] w fun e w'=>∃ g cap,e=.returned (Sq g (n+1) cap)/\w'.ownsRow 0 155 3 (Sq g (n+1) cap) (n+1) (cs.take (i*3)++vs++cs.drop (i*3))/\w.grownBy w' v.ownBlock/\(v.ownBlock=some g\/w.heap.size<=g)/\g<w'.heap.size:=by
 by_cases he:i=n
 ·subst he;have e:cs.take (i*3)++vs++cs.drop (i*3)=cs++vs:=by rw[List.take_of_length_le (by rw[hown.1];omega),List.drop_eq_nil_of_le (by rw[hown.1];omega),List.append_nil]
  rw[e];exact CR cs vs i v vb w hown hn hvl hv h1v
 ·have hlt:i<n:=by omega
  have h0:=hown.1;rcases hown.2 with⟨rfl,e⟩|⟨g,cap,cur,rfl,_,hg,h1,h2,h3,h4⟩
  ·omega
  ·by_cases hroom:n+1<=cap
   ·have hne:vb≠g:=fun e=>hvb (by rw[e];rfl)
    refine(EH cs vs n i g cap cur vb w hlt hn hg h3 h4 hroom (by unfold maxLen at h2;omega) hvl hv hne h1v h1c).mono ?_
    rintro e w' ⟨rfl,rfl⟩
    have hdl:(cs.drop (i*3)).length=(n-i)*3:=by rw[List.length_drop,h0];omega
    have htl:(cs.take (i*3)).length=i*3:=by rw[List.length_take,h0];omega
    have hx:cur.toList.length=cap*3:=by rw[Array.length_toList,h3]
    have b1:=Blk.sets (w:=w.drew) (cs.drop (i*3)) ((i+1)*3) hg (by rw[h3,hdl];omega)
    have z1:(bB cur.toList ((i+1)*3) (cs.drop (i*3))).length=cap*3:=by rw[bL _ _ _ (by rw[hdl,hx];omega),hx]
    have b2:=Blk.sets vs (i*3) b1 (by rw[List.size_toArray,z1];omega)
    have hrow:bB (bB cur.toList ((i+1)*3) (cs.drop (i*3))) (i*3) vs=cs.take (i*3)++vs++cs.drop (i*3)++(cur.toList.drop (n*3)).drop 3:=by
     have:=sL (cs.take (i*3)) (cs.drop (i*3)) (cur.toList.drop (n*3)) vs 3 hvl (by rw[List.length_drop,hx];omega)
     rw[List.take_append_drop,<- h4,List.take_append_drop,h4,htl,show i*3+3=(i+1)*3 by omega] at this
     exact this
    refine⟨g,cap,rfl,⟨by simp[htl,hvl,hdl];omega,.inr ⟨g,cap,_,rfl,Nat.zero_le _,b2,hroom,h2,?_,?_⟩⟩,aP (aP (cV (dC _ _)) _ _ _ (.inl rfl)) _ _ _ (.inl rfl),.inl rfl,b2.lt⟩
    ·rw[List.size_toArray,bL _ _ _ (by rw[z1];omega),z1]
    ·rw[List.toList_toArray,hrow];exact List.take_left' (by simp[htl,hvl,hdl];omega)
   ·refine(zn cs vs n i g cap cur vb w hlt hn hg h3 h4 h1 om hvl hv h1v h1c).mono ?_
    rintro e w' ⟨c',rfl,o1,o2,o3⟩
    exact⟨_,c',rfl,o1,⟨o2.os,o2.tape,o2.output,o2.size,fun k hk _=>o2.block k hk sM⟩,.inr (Nat.le_refl _),o3⟩
theorem uA:(prog.info? 208).map (fun i=>(i.zero,i.size,i.bytes))=some (some (.agg #[U3 0,.string ByteArray.empty]),2,24):=by kernel_rfl
theorem uR:(prog.info? 208).map (·.size)=some 2:=by kernel_rfl
theorem CQ(cs vs:List Value)(n:Nat)(v:Value)(vb:Nat)(w:World)(hown:w.ownsRow 0 208 2 v n cs)(hn:n<=1000)(hvl:vs.length=2)(hv:Blk w vb vs.toArray 208)(h1v:∀ u∈vs,u.oneCell'=true):Calls prog 169 #[v,I6 n,Sq vb 1 1] w fun e w'=>∃ g cap,e=.returned (Sq g (n+1) cap)/\w'.ownsRow 0 208 2 (Sq g (n+1) cap) (n+1) (cs++vs)/\w.grownBy w' v.ownBlock/\(v.ownBlock=some g\/w.heap.size<=g)/\g<w'.heap.size:=by
 have hsl:∃ b cap,v=.slice b n cap/\n<=cap/\cap<=maxLen:=by
  rcases hown.2 with⟨rfl,e⟩|⟨g,cap,cur,rfl,_,_,h1,h2,_⟩
  ·exact⟨none,0,by rw[e],by omega,by unfold maxLen;omega⟩
  ·exact⟨_,cap,rfl,h1,h2⟩
 have HO:Hid (w.ownsRow 0 208 2 v n cs):=hown
 have hcell:Hid (∀ j u,vs[j]?=some u->w.cell? (Addr.add (At vb 0) j)=some u):=fun j u hj=>by
  rw[Addr.add_lit,hv.cell];simpa using hj
 have H1:Hid (∀ u∈vs,u.oneCell'=true):=h1v
 obtain⟨b,cap,rfl,hc1,hc2⟩:=hsl;unfold maxLen at hc2;obtain⟨i0,hi,hz0,hz1,hz2⟩:=info_parts uA;clear hown hv h1v;generalize hob:(Value.slice b n cap).ownBlock=ob
 have OB:Hid ((Value.slice b n cap).ownBlock=ob):=hob
 clear hob;go_enter func169,ntmps169
 go_wp2_with (at_builtin;refine wpList_append_lies _ rfl _ _ 158 rfl 0 208 i0 _ 2 24 underlying158 hi hz0 hz1 hz2 rfl dE (.slice b n cap) n cs rfl HO.o (At vb 0) 1 1 vs rfl om hcell.o H1.o om (by unfold maxLen;omega) om om _ rfl ?_;intro g3 cap3 w3 hown3 hgrow3 hat3 hlt3;rw[OB.o] at hgrow3 hat3)
 all_goals (
  go_ret;exact⟨g3,cap3,rfl,hown3,hgrow3,Aq hat3,hlt3⟩)
theorem EG(cs vs:List Value)(n i:Nat)(g cap:Nat)(cur:Array Value)(vb:Nat)(w:World)(hi:i<n)(hn:n<=1000)(hg:Blk w g cur 208)(hcur:cur.size=cap*2)(hcs:cur.toList.take (n*2)=cs)(hroom:n+1<=cap)(hcm:cap<=9223372036854775807)
  (hvl:vs.length=2) (hv:Blk w vb vs.toArray 208) (hvb:vb≠g) (h1v:∀ u∈vs,u.oneCell'=true) (h1c:∀ u∈cs,u.oneCell'=true) :
  Calls prog 169 #[Sq g n cap,I6 i,Sq vb 1 1] w fun e w'=>e=.returned (Sq g (n+1) cap)/\w'=(w.drew.setCells g ((i+1)*2) (cs.drop (i*2))).setCells g (i*2) vs:=by
 have hcl:cs.length=n*2:=by rw[<- hcs];simp[hcur];omega
 have hz2:¬((i:Int)=(n:Int)):=by omega
 have hov:∀ lb cb,(callFunc 211 #[Sq vb 1 1,.slice (some (At g ((i+1)*2))) lb cb]).run prog w=.ok (.value (.bool false)) w:=fun lb cb=>by
  rw[run_callFunc_extern func211 (by kernel_rfl) (by kernel_rfl) (by kernel_rfl) (e:=Extern.SlicesOverlaps.overlaps #[158,158] #[4]) (by kernel_rfl),
   Lib.run_overlaps_apart w 158 4 208 underlying158 2 Tryz.sizeOf208 (At vb 0) ⟨g,(i+1)*2,none⟩ 1 1 lb cb hvb 208 208 vs.length cur.size (by unfold Blk at hv;simp[World.shape?,hv]) (by unfold Blk at hg;simp[World.shape?,hg]) om (hv.frozen 0) (hv.frozen _)]
  rfl
 have hdl:(cs.drop (i*2)).length=(n-i)*2:=by rw[List.length_drop,hcl];omega
 have hcell:∀ j u,cs[j]?=some u->w.cell? (At g j)=some u:=fun j u hj=>by
  rw[hg.cell,<- Array.getElem?_toList,<- hj,<- hcs,List.getElem?_take];rw[<- hcs,List.getElem?_take] at hj;split at hj
  ·rename_i h;rw[if_pos h]
  ·cases hj
 have hsp:∀ j,j<(n+1)*2->(w.cell? (At g j)).isSome=true:=fun j hj=>by rw[hg.cell,Array.getElem?_eq_getElem om];rfl
 have hcp1:∀ ty dc sc,(Builtin.copy_ #[158,158] ty #[.slice (some (At g ((i+1)*2))) (n-i) dc,.slice (some (At g (i*2))) (n+1-i) sc]).run prog w.drew=.ok (goInt (n-i:Nat)) (w.drew.setCells g ((i+1)*2) (cs.drop (i*2))):=fun ty dc sc =>
  bX w.drew _ _ ty 208 2 g ((i+1)*2) (n-i) dc (At g (i*2)) (n+1-i) sc (cs.drop (i*2)) underlying158 uR (n-i) (by simp only[Nat.min_def];split<;>omega) hdl
   (fun j u hj=>by rw[Addr.add_lit];exact hcell _ u (by rwa [List.getElem?_drop] at hj))
   (fun j hj=>hsp _ om) (fun j hj=>hg.frozen _) (fun u hu=>h1c u (List.mem_of_mem_drop hu))
 obtain⟨W1,hW1⟩:∃ W1,W1=w.drew.setCells g ((i+1)*2) (cs.drop (i*2)):=⟨_,rfl⟩
 have hg1:Blk W1 g (bB cur.toList ((i+1)*2) (cs.drop (i*2))).toArray 208:=by rw[hW1];exact Blk.sets (w:=w.drew) _ _ hg (by rw[hdl];omega)
 have hs1:(bB cur.toList ((i+1)*2) (cs.drop (i*2))).length=cap*2:=by rw[bL _ _ _ (by rw[hdl];simp;omega)];simpa using hcur
 have hv1:Blk W1 vb vs.toArray 208:=by rw[hW1];exact((aK g _ _ w.drew).2.2.2.2 vb hvb).trans hv
 have hcp2:∀ (W:World),W.heap=W1.heap->∀ ty dc,(Builtin.copy_ #[158,158] ty #[.slice (some (At g (i*2))) (n+1-i) dc,Sq vb 1 1]).run prog W=.ok (goInt (1:Nat)) (W.setCells g (i*2) vs):=fun W hW ty dc=>by
  have hgW:Blk W g (bB cur.toList ((i+1)*2) (cs.drop (i*2))).toArray 208:=by unfold Blk;rw[hW];exact hg1
  have hvW:Blk W vb vs.toArray 208:=by unfold Blk;rw[hW];exact hv1
  exact bX W _ _ ty 208 2 g (i*2) (n+1-i) dc (At vb 0) 1 1 vs underlying158 uR 1 (by simp only[Nat.min_def];split<;>omega) om
   (fun j u hj=>by rw[Addr.add_lit,hvW.cell];simpa using hj)
   (fun j hj=>by rw[hgW.cell,Array.getElem?_eq_getElem (by simp[hs1];omega)];rfl) (fun j hj=>hgW.frozen _) h1v
 rw[<- hW1] at hcp1 ⊢;have hcpB:=hcp2 W1 rfl;have HW:Hid (W1=w.drew.setCells g ((i+1)*2) (cs.drop (i*2))):=hW1
 clear hW1;have hw1:IntKind.i64.wrap ((i:Int)+1)=(i:Int)+1:=by rw[IntKind.wrap_i64];omega
 have hb1:(0:Int)<=(i:Int)+1:=by omega
 have htn:((i:Int)+1).toNat=i+1:=by omega
 have hb2:¬(cap=i+1):=by omega
 have hb3:(i:Int)<=(n:Int)+1:=by omega
 have hb4:¬(cap=i):=by omega
 have hin:i<=n:=by omega
 clear hcp2 hg hg1 hv hv1 hcell hsp hdl hcl hcs hcur hs1 h1v h1c;go_enter func169,ntmps169
 go_wp2_with (simp only[hov])
 go_region
 go_wp2;go_ret;exact⟨rfl,rfl⟩
theorem zm(cs vs:List Value)(n i:Nat)(g cap:Nat)(cur:Array Value)(vb:Nat)(w:World)(hi:i<n)(hn:n<=1000)(hg:Blk w g cur 208)(hcur:cur.size=cap*2)(hcs:cur.toList.take (n*2)=cs)(hnc:n<=cap)(hroom:cap<n+1)
  (hvl:vs.length=2) (hv:Blk w vb vs.toArray 208) (h1v:∀ u∈vs,u.oneCell'=true) (h1c:∀ u∈cs,u.oneCell'=true) :
  Calls prog 169 #[Sq g n cap,I6 i,Sq vb 1 1] w fun e w'=>∃ c',e=.returned (.slice (some (Nw w 0)) (n+1) c')/\w'.ownsRow 0 208 2 (.slice (some (Nw w 0)) (n+1) c') (n+1) (cs.take (i*2)++vs++cs.drop (i*2))/\w.grownBy w' none/\w.heap.size<w'.heap.size:=by
 have hcl:cs.length=n*2:=by rw[<- hcs];simp[hcur];omega
 obtain⟨i0,hi0,hz0,hzs,hzb⟩:=info_parts uA;have hcell:∀ j u,cs[j]?=some u->w.cell? (At g j)=some u:=fun j u hj=>by
  rw[hg.cell,<- Array.getElem?_toList,<- hj,<- hcs,List.getElem?_take];rw[<- hcs,List.getElem?_take] at hj;split at hj
  ·rename_i h;rw[if_pos h]
  ·cases hj
 have hdl:(cs.drop (i*2)).length=(n-i)*2:=by rw[List.length_drop,hcl];omega
 have htl:(cs.take (i*2)).length=i*2:=by rw[List.length_take,hcl];omega
 have hold:(Builtin.firstCells i0.size i (Sq g i cap)).run prog w.drew=.ok (cs.take (i*2)).toArray w.drew:=by
  rw[hzs];exact run_firstCells_some w.drew 2 i (At g 0) i cap (cs.take (i*2)) htl (fun j v hj=>by
   rw[Addr.add_lit,Nat.zero_add];rw[List.getElem?_take] at hj;split at hj
   ·exact hcell j v hj
   ·cases hj)
 obtain⟨G,hG⟩:∃ G,G=grownCap w (n+1) cap 208:=⟨_,rfl⟩
 have hGn:n+1<=G:=by rw[hG];exact grownCap_ge w _ _ _
 have hGm:G<=maxLen:=by rw[hG];exact grownCap_le_maxLen w (n+1) cap _ (by unfold maxLen;omega)
 obtain⟨Z,hZ⟩:∃ Z:Array Value,Z=Builtin.zeroCells (.agg #[U3 0,.string ByteArray.empty]:Value).cells (n+1-i)++Builtin.zeroCells (.agg #[U3 0,.string ByteArray.empty]:Value).cells (G-(n+1)):=⟨_,rfl⟩
 have hZs:Z.size=(G-i)*2:=by rw[hZ];simp[Builtin.zeroCells,Value.cells];omega
 obtain⟨W1,hW1⟩:∃ W1,W1=w.drew.alloc (.cells ((cs.take (i*2)).toArray++Z) 208):=⟨_,rfl⟩
 have hrz:∀ ty,(Builtin.append_ #[158,3] ty #[Sq g i cap,I6 ((n:Int)+1-(i:Int))]).run prog w=.ok (.slice (some (Nw w 0)) (n+1) G) W1:=fun ty=>by
  have h:=Lib.run_append_grow_zeros w 158 3 ty 208 i0 _ .i64 .i64 underlying158 underlying3 hi0 hz0 (some (At g 0)) i cap (cs.take (i*2)) hold (n+1-i) om om om om (by rw[hzb];omega) (by rw[hzb,show i+(n+1-i)=n+1 by omega];exact growslice_fits hroom om)
  rw[show i+(n+1-i)=n+1 by omega,<- hG] at h
  rw[show (n:Int)+1-(i:Int)=((n+1-i:Nat):Int) by omega,h,hW1,hZ,Array.append_assoc]
 have b1:Blk W1 w.heap.size ((cs.take (i*2)).toArray++Z) 208:=by rw[hW1];exact Blk.new w.drew _ _
 have z1:((cs.take (i*2)).toArray++Z).size=G*2:=by rw[Array.size_append,hZs];simp only[List.size_toArray,htl];omega
 have hb1:Bl w W1:=by rw[hW1];exact((Below.refl _ w).drew).alloc (Nat.le_refl _) _
 have v1:Blk W1 vb vs.toArray 208:=hv.below hb1
 have g1:Blk W1 g cur 208:=hg.below hb1
 have hgw:=hg.lt;have hvw:=hv.lt;obtain⟨W2,hW2⟩:∃ W2,W2=W1.setCells w.heap.size (i*2) vs:=⟨_,rfl⟩
 have hcp1:∀ ty dc,(Builtin.copy_ #[158,158] ty #[.slice (some (Nw w (i*2))) (n+1-i) dc,Sq vb 1 1]).run prog W1=.ok (goInt (1:Nat)) W2:=fun ty dc=>by
  rw[hW2];exact bX W1 _ _ ty 208 2 w.heap.size (i*2) (n+1-i) dc (At vb 0) 1 1 vs underlying158 uR 1 (by simp only[Nat.min_def];split<;>omega) om
   (fun j u hj=>by rw[Addr.add_lit,v1.cell];simpa using hj)
   (fun j hj=>by rw[b1.cell,Array.getElem?_eq_getElem (by rw[z1];omega)];rfl) (fun j hj=>b1.frozen _) h1v
 have b2:=Blk.sets vs (i*2) b1 (by rw[z1];omega)
 rw[<- hW2] at b2;have z2:(bB ((cs.take (i*2)).toArray++Z).toList (i*2) vs).length=G*2:=by
  have hx:((cs.take (i*2)).toArray++Z).toList.length=G*2:=by rw[Array.length_toList,z1]
  rw[bL _ _ _ (by rw[hx];omega),hx]
 have g2:Blk W2 g cur 208:=by rw[hW2];exact((aK w.heap.size _ _ W1).2.2.2.2 g om).trans g1
 obtain⟨W3,hW3⟩:∃ W3,W3=W2.drew.setCells w.heap.size ((i+1)*2) (cs.drop (i*2)):=⟨_,rfl⟩
 have hcp2:∀ ty dc sc,(Builtin.copy_ #[158,158] ty #[.slice (some (Nw w ((i+1)*2))) (n-i) dc,.slice (some (At g (i*2))) (n-i) sc]).run prog W2.drew=.ok (goInt (n-i:Nat)) W3:=fun ty dc sc=>by
  rw[hW3];exact bX W2.drew _ _ ty 208 2 w.heap.size ((i+1)*2) (n-i) dc (At g (i*2)) (n-i) sc (cs.drop (i*2)) underlying158 uR (n-i) sM hdl
   (fun j u hj=>by
    rw[Addr.add_lit];have h1:=hcell (i*2+j) u (by rwa [List.getElem?_drop] at hj)
    rw[hg.cell] at h1;exact(Blk.cell (w:=W2.drew) g2 _).trans h1)
   (fun j hj=>by rw[Blk.cell (w:=W2.drew) b2,Array.getElem?_eq_getElem (by rw[List.size_toArray,z2];omega)];rfl) (fun j hj=>Blk.frozen (w:=W2.drew) b2 _) (fun u hu=>h1c u (List.mem_of_mem_drop hu))
 have b3:=Blk.sets (w:=W2.drew) (cs.drop (i*2)) ((i+1)*2) b2 (by rw[List.size_toArray,z2];omega)
 rw[<- hW3] at b3;have hrow:bB (bB ((cs.take (i*2)).toArray++Z).toList (i*2) vs) ((i+1)*2) (cs.drop (i*2))=cs.take (i*2)++vs++cs.drop (i*2)++Z.toList.drop (2+(cs.drop (i*2)).length):=by
  have:=oj (cs.take (i*2)) (cs.drop (i*2)) Z.toList vs 2 hvl (by rw[hdl,Array.length_toList,hZs];omega)
  rw[htl] at this;rw[Array.toList_append,show (i+1)*2=i*2+2 by omega]
  exact this
 have hend:Hid (W3.ownsRow 0 208 2 (.slice (some (Nw w 0)) (n+1) G) (n+1) (cs.take (i*2)++vs++cs.drop (i*2))/\w.grownBy W3 none/\w.heap.size<W3.heap.size):=by
  refine⟨⟨by simp[htl,hvl,hdl];omega,.inr ⟨_,G,_,rfl,Nat.zero_le _,b3,hGn,hGm,?_,?_⟩⟩,?_,b3.lt⟩
  ·rw[List.size_toArray,hrow];simp[htl,hvl,hdl,hZs];omega
  ·rw[List.toList_toArray,hrow];exact List.take_left' (by simp[htl,hvl,hdl];omega)
  ·rw[hW3];refine aP (cV ?_) _ _ _ (.inr (Nat.le_refl _))
   rw[hW2];refine aP ?_ _ _ _ (.inr (Nat.le_refl _))
   rw[hW1];exact⟨rfl,rfl,rfl,by simp,fun k hk _=>Below.heap_alloc w.drew _ k hk⟩
 have hG63:G<=9223372036854775807:=by unfold maxLen at hGm;omega
 have hz2:¬((i:Int)=(n:Int)):=by omega
 have hz3:(cap:Int)<(n:Int)+1:=by omega
 have hw1:IntKind.i64.wrap ((i:Int)+1)=(i:Int)+1:=by rw[IntKind.wrap_i64];omega
 have hp1:(0:Int)<=(i:Int)+1:=by omega
 have htn:((i:Int)+1).toNat=i+1:=by omega
 have hb2:¬(G=i+1):=by omega
 have hb4:¬(G=i):=by omega
 have hb5:¬(cap=i):=by omega
 have hin:i<=n:=by omega
 clear hG hGn hGm hZ hZs hW1 hW2 hW3 hold b1 b2 b3 z1 z2 g1 g2 v1 hrow hb1 hg hv hcell hdl htl hcl hcs hcur h1v h1c hzs hzb hz0 hi0;go_enter func169,ntmps169
 go_wp2_with (at_builtin;refine Lib.wpList_append_run _ rfl _ _ _ _ rfl _ _ rfl rfl _ _ (hrz _) ?_)
 go_region
 go_wp2;go_ret;exact⟨G,rfl,hend.o⟩
theorem GQ(cs:List Value)(m i:Nat)(g cap:Nat)(cur:Array Value)(w:World)(hi:i<m+1)(hn:m<=1000)(hg:Blk w g cur 208)(hcur:cur.size=cap*2)(hcs:cur.toList.take ((m+1)*2)=cs)(hnc:m+1<=cap)(hcm:cap<=maxLen)(h1c:∀ u∈cs,u.oneCell'=true):Calls prog 126 #[Sq g (m+1) cap,I6 i,I6 ((i:Int)+1)] w fun e w'=>e=.returned (Sq g m cap)/\w'.ownsRow 0 208 2 (Sq g m cap) m (cs.take (i*2)++cs.drop ((i+1)*2))/\w.grownBy w' (some g):=by
 have hcl:cs.length=(m+1)*2:=by rw[<- hcs];simp[hcur];omega
 obtain⟨i0,hi0,hz0,hzs,hzb⟩:=info_parts uA;have hcell:∀ j u,cs[j]?=some u->w.cell? (At g j)=some u:=fun j u hj=>by
  rw[hg.cell,<- Array.getElem?_toList,<- hj,<- hcs,List.getElem?_take];rw[<- hcs,List.getElem?_take] at hj;split at hj
  ·rename_i h;rw[if_pos h]
  ·cases hj
 have hdl:(cs.drop ((i+1)*2)).length=(m-i)*2:=by rw[List.length_drop,hcl];omega
 have htl:(cs.take (i*2)).length=i*2:=by rw[List.length_take,hcl];omega
 obtain⟨W1,hW1⟩:∃ W1,W1=w.drew.setCells g (i*2) (cs.drop ((i+1)*2)):=⟨_,rfl⟩
 obtain⟨A,hA,hsrc⟩:∃ A:Addr,(if cap=i+1 then some ((At g 0):Addr) else some (At g ((i+1)*2)))=some A/\Hid (∀ t u,(cs.drop ((i+1)*2))[t]?=some u->w.drew.cell? (A.add t)=some u):=by
  by_cases h:cap=i+1
  ·refine⟨_,if_pos h,fun t u hu=>?_⟩
   have h0:(cs.drop ((i+1)*2)).length=0:=by rw[hdl];omega
   rw[List.length_eq_zero_iff.1 h0] at hu;simp at hu
  ·refine⟨_,if_neg h,fun t u hu=>?_⟩
   rw[Addr.add_lit];exact hcell _ u (by rwa [List.getElem?_drop] at hu)
 have s1:Hid ((cs.drop ((i+1)*2)).length=(m-i)*2):=hdl
 have s2:Hid (∀ u∈cs.drop ((i+1)*2),u.oneCell'=true):=fun u hu=>h1c u (List.mem_of_mem_drop hu)
 have s3:Hid (∀ t,t<(cs.drop ((i+1)*2)).length->(w.drew.cell? (At g (0+i*2+t))).isSome=true/\w.drew.frozen? (At g (0+i*2+t))=false):=fun t ht=>by
  rw[hdl] at ht;exact⟨by rw[Blk.cell (w:=w.drew) hg,Array.getElem?_eq_getElem om];rfl,Blk.frozen (w:=w.drew) hg _⟩
 have HW:Hid (W1=w.drew.setCells g (0+i*2) (cs.drop ((i+1)*2))):=by rw[Nat.zero_add];exact hW1
 have b1:Blk W1 g (bB cur.toList (i*2) (cs.drop ((i+1)*2))).toArray 208:=by rw[hW1];exact Blk.sets (w:=w.drew) _ _ hg (by rw[hdl];omega)
 have z1:(bB cur.toList (i*2) (cs.drop ((i+1)*2))).length=cap*2:=by rw[bL _ _ _ (by rw[hdl];simp;omega)];simpa using hcur
 obtain⟨W2,hW2⟩:∃ W2,W2=W1.setCells g (m*2) (.agg #[U3 0,.string ByteArray.empty]:Value).cells.toList:=⟨_,rfl⟩
 have hcr:∀ ty c,(Builtin.clear_ #[158] ty #[.slice (some (At g (m*2))) 1 c]).run prog W1=.ok (.tuple #[]) W2:=fun ty c=>by
  rw[hW2];exact fF W1 158 208 ty (.agg #[U3 0,.string ByteArray.empty]) underlying158 (fun w=>by rw[Tryz.zeroValue208];rfl) g (m*2) c
   (fun j hj=>by simp[Value.cells] at hj;rw[b1.cell,Array.getElem?_eq_getElem (by rw[List.size_toArray,z1];omega)];rfl) (fun j hj=>b1.frozen _) (by intro u hu;simp[Value.cells] at hu;rcases hu with rfl|rfl<;>rfl)
 have b2:=Blk.sets (.agg #[U3 0,.string ByteArray.empty]:Value).cells.toList (m*2) b1 (by rw[List.size_toArray,z1];simp[Value.cells];omega)
 rw[<- hW2] at b2;have hrow:bB (bB cur.toList (i*2) (cs.drop ((i+1)*2))) (m*2) (.agg #[U3 0,.string ByteArray.empty]:Value).cells.toList=cs.take (i*2)++cs.drop ((i+1)*2)++(.agg #[U3 0,.string ByteArray.empty]:Value).cells.toList++cur.toList.drop ((m+1)*2):=by
  have hM:((cs.drop (i*2)).take 2).length=2:=by simp[hcl];omega
  have:=se (cs.take (i*2)) ((cs.drop (i*2)).take 2) (cs.drop ((i+1)*2)) (cur.toList.drop ((m+1)*2)) (.agg #[U3 0,.string ByteArray.empty]:Value).cells.toList 2 hM (by simp[Value.cells])
  have e:cs.take (i*2)++(cs.drop (i*2)).take 2++cs.drop ((i+1)*2)++cur.toList.drop ((m+1)*2)=cur.toList:=by
   rw[show cs.drop ((i+1)*2)=(cs.drop (i*2)).drop 2 by rw[List.drop_drop];congr 1;omega,List.append_assoc (cs.take (i*2)),List.take_append_drop,List.take_append_drop,<- hcs,List.take_append_drop]
  rw[e,htl,hdl,show i*2+(m-i)*2=m*2 by omega] at this
  exact this
 have hend:Hid (W2.ownsRow 0 208 2 (Sq g m cap) m (cs.take (i*2)++cs.drop ((i+1)*2))/\w.grownBy W2 (some g)):=by
  refine⟨⟨by simp[htl,hdl];omega,.inr ⟨g,cap,_,rfl,Nat.zero_le _,b2,by omega,hcm,?_,?_⟩⟩,?_⟩
  ·rw[List.size_toArray,bL _ _ _ (by rw[z1];simp[Value.cells];omega),z1]
  ·rw[List.toList_toArray,hrow,List.append_assoc];exact List.take_left' (by simp[htl,hdl];omega)
  ·rw[hW2];refine aP ?_ _ _ _ (.inl rfl)
   rw[hW1];exact aP (cV (dC _ _)) _ _ _ (.inl rfl)
 have hw1:IntKind.i64.wrap ((i:Int)+1)=(i:Int)+1:=by rw[IntKind.wrap_i64];omega
 have hp1:(0:Int)<=(i:Int)+1:=by omega
 have htn:((i:Int)+1).toNat=i+1:=by omega
 have hb1:¬(cap=m):=by omega
 have hb3:(i:Int)<=(i:Int)+1:=by omega
 have hb4:(i:Int)+1<=(m:Int)+1:=by omega
 have hb6:i+1<=m+1:=by omega
 have hb7:m<=cap:=by omega
 have hb8:i<=cap:=by omega
 have hc63:cap<=9223372036854775807:=by unfold maxLen at hcm;omega
 have hmi:i+(m-i)=m:=by omega
 clear hW1 hW2 b1 b2 z1 hrow hg hcell hdl htl hcl hcs hcur h1c hzb hz0;go_enter func126,ntmps126
 go_wp2;go_region_law (refine step_append_room rfl (.tmp 22) (.tmp 25) 158 rfl 208 i0 2 underlying158 hi0 hzs g 0 i cap (by simp[Act.eval,Act.put]) A (m-i) (cap-(i+1)) (cs.drop ((i+1)*2)) (by simp[Act.eval,Act.put]) s1.o hsrc.o s2.o om s3.o ?_;rw[<- HW.o,hmi])
 go_wp2;go_ret;exact⟨rfl,hend.o⟩
theorem Gg(cs vs:List Value)(n i:Nat)(v:Value)(vb:Nat)(w:World)(hown:w.ownsRow 0 208 2 v n cs)(hi:i<=n)(hn:n<=1000)(hvl:vs.length=2)(hv:Blk w vb vs.toArray 208)(hvb:v.ownBlock≠some vb)(h1v:∀ u∈vs,u.oneCell'=true)(h1c:∀ u∈cs,u.oneCell'=true):Calls prog 169 #[v,I6 i,Sq vb 1 1] w fun e w'=>∃ g cap,e=.returned (Sq g (n+1) cap)/\w'.ownsRow 0 208 2 (Sq g (n+1) cap) (n+1) (cs.take (i*2)++vs++cs.drop (i*2))/\w.grownBy w' v.ownBlock/\(v.ownBlock=some g\/w.heap.size<=g)/\g<w'.heap.size:=by
 by_cases he:i=n
 ·subst he;have e:cs.take (i*2)++vs++cs.drop (i*2)=cs++vs:=by rw[List.take_of_length_le (by rw[hown.1];omega),List.drop_eq_nil_of_le (by rw[hown.1];omega),List.append_nil]
  rw[e];exact CQ cs vs i v vb w hown hn hvl hv h1v
 ·have hlt:i<n:=by omega
  have h0:=hown.1;rcases hown.2 with⟨rfl,e⟩|⟨g,cap,cur,rfl,_,hg,h1,h2,h3,h4⟩
  ·omega
  ·by_cases hroom:n+1<=cap
   ·have hne:vb≠g:=fun e=>hvb (by rw[e];rfl)
    refine(EG cs vs n i g cap cur vb w hlt hn hg h3 h4 hroom (by unfold maxLen at h2;omega) hvl hv hne h1v h1c).mono ?_
    rintro e w' ⟨rfl,rfl⟩
    have hdl:(cs.drop (i*2)).length=(n-i)*2:=by rw[List.length_drop,h0];omega
    have htl:(cs.take (i*2)).length=i*2:=by rw[List.length_take,h0];omega
    have hx:cur.toList.length=cap*2:=by rw[Array.length_toList,h3]
    have b1:=Blk.sets (w:=w.drew) (cs.drop (i*2)) ((i+1)*2) hg (by rw[h3,hdl];omega)
    have z1:(bB cur.toList ((i+1)*2) (cs.drop (i*2))).length=cap*2:=by rw[bL _ _ _ (by rw[hdl,hx];omega),hx]
    have b2:=Blk.sets vs (i*2) b1 (by rw[List.size_toArray,z1];omega)
    have hrow:bB (bB cur.toList ((i+1)*2) (cs.drop (i*2))) (i*2) vs=cs.take (i*2)++vs++cs.drop (i*2)++(cur.toList.drop (n*2)).drop 2:=by
     have:=sL (cs.take (i*2)) (cs.drop (i*2)) (cur.toList.drop (n*2)) vs 2 hvl (by rw[List.length_drop,hx];omega)
     rw[List.take_append_drop,<- h4,List.take_append_drop,h4,htl,show i*2+2=(i+1)*2 by omega] at this
     exact this
    refine⟨g,cap,rfl,⟨by simp[htl,hvl,hdl];omega,.inr ⟨g,cap,_,rfl,Nat.zero_le _,b2,hroom,h2,?_,?_⟩⟩,aP (aP (cV (dC _ _)) _ _ _ (.inl rfl)) _ _ _ (.inl rfl),.inl rfl,b2.lt⟩
    ·rw[List.size_toArray,bL _ _ _ (by rw[z1];omega),z1]
    ·rw[List.toList_toArray,hrow];exact List.take_left' (by simp[htl,hvl,hdl];omega)
   ·refine(zm cs vs n i g cap cur vb w hlt hn hg h3 h4 h1 om hvl hv h1v h1c).mono ?_
    rintro e w' ⟨c',rfl,o1,o2,o3⟩
    exact⟨_,c',rfl,o1,⟨o2.os,o2.tape,o2.output,o2.size,fun k hk _=>o2.block k hk sM⟩,.inr (Nat.le_refl _),o3⟩
theorem uB:(prog.info? 195).map (fun i=>(i.zero,i.size,i.bytes))=some (some (.agg #[U3 0,I6 0,.string ByteArray.empty]),3,32):=by kernel_rfl
theorem uT:(prog.info? 195).map (·.size)=some 3:=by kernel_rfl
theorem CS(cs vs:List Value)(n:Nat)(v:Value)(vb:Nat)(w:World)(hown:w.ownsRow 0 195 3 v n cs)(hn:n<=1000)(hvl:vs.length=3)(hv:Blk w vb vs.toArray 195)(h1v:∀ u∈vs,u.oneCell'=true):Calls prog 210 #[v,I6 n,Sq vb 1 1] w fun e w'=>∃ g cap,e=.returned (Sq g (n+1) cap)/\w'.ownsRow 0 195 3 (Sq g (n+1) cap) (n+1) (cs++vs)/\w.grownBy w' v.ownBlock/\(v.ownBlock=some g\/w.heap.size<=g)/\g<w'.heap.size:=by
 have hsl:∃ b cap,v=.slice b n cap/\n<=cap/\cap<=maxLen:=by
  rcases hown.2 with⟨rfl,e⟩|⟨g,cap,cur,rfl,_,_,h1,h2,_⟩
  ·exact⟨none,0,by rw[e],by omega,by unfold maxLen;omega⟩
  ·exact⟨_,cap,rfl,h1,h2⟩
 have HO:Hid (w.ownsRow 0 195 3 v n cs):=hown
 have hcell:Hid (∀ j u,vs[j]?=some u->w.cell? (Addr.add (At vb 0) j)=some u):=fun j u hj=>by
  rw[Addr.add_lit,hv.cell];simpa using hj
 have H1:Hid (∀ u∈vs,u.oneCell'=true):=h1v
 obtain⟨b,cap,rfl,hc1,hc2⟩:=hsl;unfold maxLen at hc2;obtain⟨i0,hi,hz0,hz1,hz2⟩:=info_parts uB;clear hown hv h1v;generalize hob:(Value.slice b n cap).ownBlock=ob
 have OB:Hid ((Value.slice b n cap).ownBlock=ob):=hob
 clear hob;go_enter func210,ntmps210
 go_wp2_with (at_builtin;refine wpList_append_lies _ rfl _ _ 157 rfl 0 195 i0 _ 3 32 underlying157 hi hz0 hz1 hz2 rfl dE (.slice b n cap) n cs rfl HO.o (At vb 0) 1 1 vs rfl om hcell.o H1.o om (by unfold maxLen;omega) om om _ rfl ?_;intro g3 cap3 w3 hown3 hgrow3 hat3 hlt3;rw[OB.o] at hgrow3 hat3)
 all_goals (
  go_ret;exact⟨g3,cap3,rfl,hown3,hgrow3,Aq hat3,hlt3⟩)
theorem EI(cs vs:List Value)(n i:Nat)(g cap:Nat)(cur:Array Value)(vb:Nat)(w:World)(hi:i<n)(hn:n<=1000)(hg:Blk w g cur 195)(hcur:cur.size=cap*3)(hcs:cur.toList.take (n*3)=cs)(hroom:n+1<=cap)(hcm:cap<=9223372036854775807)
  (hvl:vs.length=3) (hv:Blk w vb vs.toArray 195) (hvb:vb≠g) (h1v:∀ u∈vs,u.oneCell'=true) (h1c:∀ u∈cs,u.oneCell'=true) :
  Calls prog 210 #[Sq g n cap,I6 i,Sq vb 1 1] w fun e w'=>e=.returned (Sq g (n+1) cap)/\w'=(w.drew.setCells g ((i+1)*3) (cs.drop (i*3))).setCells g (i*3) vs:=by
 have hcl:cs.length=n*3:=by rw[<- hcs];simp[hcur];omega
 have hz2:¬((i:Int)=(n:Int)):=by omega
 have hov:∀ lb cb,(callFunc 238 #[Sq vb 1 1,.slice (some (At g ((i+1)*3))) lb cb]).run prog w=.ok (.value (.bool false)) w:=fun lb cb=>by
  rw[run_callFunc_extern func238 (by kernel_rfl) (by kernel_rfl) (by kernel_rfl) (e:=Extern.SlicesOverlaps.overlaps #[157,157] #[4]) (by kernel_rfl),
   Lib.run_overlaps_apart w 157 4 195 underlying157 3 Tryz.sizeOf195 (At vb 0) ⟨g,(i+1)*3,none⟩ 1 1 lb cb hvb 195 195 vs.length cur.size (by unfold Blk at hv;simp[World.shape?,hv]) (by unfold Blk at hg;simp[World.shape?,hg]) om (hv.frozen 0) (hv.frozen _)]
  rfl
 have hdl:(cs.drop (i*3)).length=(n-i)*3:=by rw[List.length_drop,hcl];omega
 have hcell:∀ j u,cs[j]?=some u->w.cell? (At g j)=some u:=fun j u hj=>by
  rw[hg.cell,<- Array.getElem?_toList,<- hj,<- hcs,List.getElem?_take];rw[<- hcs,List.getElem?_take] at hj;split at hj
  ·rename_i h;rw[if_pos h]
  ·cases hj
 have hsp:∀ j,j<(n+1)*3->(w.cell? (At g j)).isSome=true:=fun j hj=>by rw[hg.cell,Array.getElem?_eq_getElem om];rfl
 have hcp1:∀ ty dc sc,(Builtin.copy_ #[157,157] ty #[.slice (some (At g ((i+1)*3))) (n-i) dc,.slice (some (At g (i*3))) (n+1-i) sc]).run prog w.drew=.ok (goInt (n-i:Nat)) (w.drew.setCells g ((i+1)*3) (cs.drop (i*3))):=fun ty dc sc =>
  bX w.drew _ _ ty 195 3 g ((i+1)*3) (n-i) dc (At g (i*3)) (n+1-i) sc (cs.drop (i*3)) underlying157 uT (n-i) (by simp only[Nat.min_def];split<;>omega) hdl
   (fun j u hj=>by rw[Addr.add_lit];exact hcell _ u (by rwa [List.getElem?_drop] at hj))
   (fun j hj=>hsp _ om) (fun j hj=>hg.frozen _) (fun u hu=>h1c u (List.mem_of_mem_drop hu))
 obtain⟨W1,hW1⟩:∃ W1,W1=w.drew.setCells g ((i+1)*3) (cs.drop (i*3)):=⟨_,rfl⟩
 have hg1:Blk W1 g (bB cur.toList ((i+1)*3) (cs.drop (i*3))).toArray 195:=by rw[hW1];exact Blk.sets (w:=w.drew) _ _ hg (by rw[hdl];omega)
 have hs1:(bB cur.toList ((i+1)*3) (cs.drop (i*3))).length=cap*3:=by rw[bL _ _ _ (by rw[hdl];simp;omega)];simpa using hcur
 have hv1:Blk W1 vb vs.toArray 195:=by rw[hW1];exact((aK g _ _ w.drew).2.2.2.2 vb hvb).trans hv
 have hcp2:∀ (W:World),W.heap=W1.heap->∀ ty dc,(Builtin.copy_ #[157,157] ty #[.slice (some (At g (i*3))) (n+1-i) dc,Sq vb 1 1]).run prog W=.ok (goInt (1:Nat)) (W.setCells g (i*3) vs):=fun W hW ty dc=>by
  have hgW:Blk W g (bB cur.toList ((i+1)*3) (cs.drop (i*3))).toArray 195:=by unfold Blk;rw[hW];exact hg1
  have hvW:Blk W vb vs.toArray 195:=by unfold Blk;rw[hW];exact hv1
  exact bX W _ _ ty 195 3 g (i*3) (n+1-i) dc (At vb 0) 1 1 vs underlying157 uT 1 (by simp only[Nat.min_def];split<;>omega) om
   (fun j u hj=>by rw[Addr.add_lit,hvW.cell];simpa using hj)
   (fun j hj=>by rw[hgW.cell,Array.getElem?_eq_getElem (by simp[hs1];omega)];rfl) (fun j hj=>hgW.frozen _) h1v
 rw[<- hW1] at hcp1 ⊢;have hcpB:=hcp2 W1 rfl;have HW:Hid (W1=w.drew.setCells g ((i+1)*3) (cs.drop (i*3))):=hW1
 clear hW1;have hw1:IntKind.i64.wrap ((i:Int)+1)=(i:Int)+1:=by rw[IntKind.wrap_i64];omega
 have hb1:(0:Int)<=(i:Int)+1:=by omega
 have htn:((i:Int)+1).toNat=i+1:=by omega
 have hb2:¬(cap=i+1):=by omega
 have hb3:(i:Int)<=(n:Int)+1:=by omega
 have hb4:¬(cap=i):=by omega
 have hin:i<=n:=by omega
 clear hcp2 hg hg1 hv hv1 hcell hsp hdl hcl hcs hcur hs1 h1v h1c;go_enter func210,ntmps210
 go_wp2_with (simp only[hov])
 go_region
 go_wp2;go_ret;exact⟨rfl,rfl⟩
theorem zo(cs vs:List Value)(n i:Nat)(g cap:Nat)(cur:Array Value)(vb:Nat)(w:World)(hi:i<n)(hn:n<=1000)(hg:Blk w g cur 195)(hcur:cur.size=cap*3)(hcs:cur.toList.take (n*3)=cs)(hnc:n<=cap)(hroom:cap<n+1)
  (hvl:vs.length=3) (hv:Blk w vb vs.toArray 195) (h1v:∀ u∈vs,u.oneCell'=true) (h1c:∀ u∈cs,u.oneCell'=true) :
  Calls prog 210 #[Sq g n cap,I6 i,Sq vb 1 1] w fun e w'=>∃ c',e=.returned (.slice (some (Nw w 0)) (n+1) c')/\w'.ownsRow 0 195 3 (.slice (some (Nw w 0)) (n+1) c') (n+1) (cs.take (i*3)++vs++cs.drop (i*3))/\w.grownBy w' none/\w.heap.size<w'.heap.size:=by
 have hcl:cs.length=n*3:=by rw[<- hcs];simp[hcur];omega
 obtain⟨i0,hi0,hz0,hzs,hzb⟩:=info_parts uB;have hcell:∀ j u,cs[j]?=some u->w.cell? (At g j)=some u:=fun j u hj=>by
  rw[hg.cell,<- Array.getElem?_toList,<- hj,<- hcs,List.getElem?_take];rw[<- hcs,List.getElem?_take] at hj;split at hj
  ·rename_i h;rw[if_pos h]
  ·cases hj
 have hdl:(cs.drop (i*3)).length=(n-i)*3:=by rw[List.length_drop,hcl];omega
 have htl:(cs.take (i*3)).length=i*3:=by rw[List.length_take,hcl];omega
 have hold:(Builtin.firstCells i0.size i (Sq g i cap)).run prog w.drew=.ok (cs.take (i*3)).toArray w.drew:=by
  rw[hzs];exact run_firstCells_some w.drew 3 i (At g 0) i cap (cs.take (i*3)) htl (fun j v hj=>by
   rw[Addr.add_lit,Nat.zero_add];rw[List.getElem?_take] at hj;split at hj
   ·exact hcell j v hj
   ·cases hj)
 obtain⟨G,hG⟩:∃ G,G=grownCap w (n+1) cap 195:=⟨_,rfl⟩
 have hGn:n+1<=G:=by rw[hG];exact grownCap_ge w _ _ _
 have hGm:G<=maxLen:=by rw[hG];exact grownCap_le_maxLen w (n+1) cap _ (by unfold maxLen;omega)
 obtain⟨Z,hZ⟩:∃ Z:Array Value,Z=Builtin.zeroCells (.agg #[U3 0,I6 0,.string ByteArray.empty]:Value).cells (n+1-i)++Builtin.zeroCells (.agg #[U3 0,I6 0,.string ByteArray.empty]:Value).cells (G-(n+1)):=⟨_,rfl⟩
 have hZs:Z.size=(G-i)*3:=by rw[hZ];simp[Builtin.zeroCells,Value.cells];omega
 obtain⟨W1,hW1⟩:∃ W1,W1=w.drew.alloc (.cells ((cs.take (i*3)).toArray++Z) 195):=⟨_,rfl⟩
 have hrz:∀ ty,(Builtin.append_ #[157,3] ty #[Sq g i cap,I6 ((n:Int)+1-(i:Int))]).run prog w=.ok (.slice (some (Nw w 0)) (n+1) G) W1:=fun ty=>by
  have h:=Lib.run_append_grow_zeros w 157 3 ty 195 i0 _ .i64 .i64 underlying157 underlying3 hi0 hz0 (some (At g 0)) i cap (cs.take (i*3)) hold (n+1-i) om om om om (by rw[hzb];omega) (by rw[hzb,show i+(n+1-i)=n+1 by omega];exact growslice_fits hroom om)
  rw[show i+(n+1-i)=n+1 by omega,<- hG] at h
  rw[show (n:Int)+1-(i:Int)=((n+1-i:Nat):Int) by omega,h,hW1,hZ,Array.append_assoc]
 have b1:Blk W1 w.heap.size ((cs.take (i*3)).toArray++Z) 195:=by rw[hW1];exact Blk.new w.drew _ _
 have z1:((cs.take (i*3)).toArray++Z).size=G*3:=by rw[Array.size_append,hZs];simp only[List.size_toArray,htl];omega
 have hb1:Bl w W1:=by rw[hW1];exact((Below.refl _ w).drew).alloc (Nat.le_refl _) _
 have v1:Blk W1 vb vs.toArray 195:=hv.below hb1
 have g1:Blk W1 g cur 195:=hg.below hb1
 have hgw:=hg.lt;have hvw:=hv.lt;obtain⟨W2,hW2⟩:∃ W2,W2=W1.setCells w.heap.size (i*3) vs:=⟨_,rfl⟩
 have hcp1:∀ ty dc,(Builtin.copy_ #[157,157] ty #[.slice (some (Nw w (i*3))) (n+1-i) dc,Sq vb 1 1]).run prog W1=.ok (goInt (1:Nat)) W2:=fun ty dc=>by
  rw[hW2];exact bX W1 _ _ ty 195 3 w.heap.size (i*3) (n+1-i) dc (At vb 0) 1 1 vs underlying157 uT 1 (by simp only[Nat.min_def];split<;>omega) om
   (fun j u hj=>by rw[Addr.add_lit,v1.cell];simpa using hj)
   (fun j hj=>by rw[b1.cell,Array.getElem?_eq_getElem (by rw[z1];omega)];rfl) (fun j hj=>b1.frozen _) h1v
 have b2:=Blk.sets vs (i*3) b1 (by rw[z1];omega)
 rw[<- hW2] at b2;have z2:(bB ((cs.take (i*3)).toArray++Z).toList (i*3) vs).length=G*3:=by
  have hx:((cs.take (i*3)).toArray++Z).toList.length=G*3:=by rw[Array.length_toList,z1]
  rw[bL _ _ _ (by rw[hx];omega),hx]
 have g2:Blk W2 g cur 195:=by rw[hW2];exact((aK w.heap.size _ _ W1).2.2.2.2 g om).trans g1
 obtain⟨W3,hW3⟩:∃ W3,W3=W2.drew.setCells w.heap.size ((i+1)*3) (cs.drop (i*3)):=⟨_,rfl⟩
 have hcp2:∀ ty dc sc,(Builtin.copy_ #[157,157] ty #[.slice (some (Nw w ((i+1)*3))) (n-i) dc,.slice (some (At g (i*3))) (n-i) sc]).run prog W2.drew=.ok (goInt (n-i:Nat)) W3:=fun ty dc sc=>by
  rw[hW3];exact bX W2.drew _ _ ty 195 3 w.heap.size ((i+1)*3) (n-i) dc (At g (i*3)) (n-i) sc (cs.drop (i*3)) underlying157 uT (n-i) sM hdl
   (fun j u hj=>by
    rw[Addr.add_lit];have h1:=hcell (i*3+j) u (by rwa [List.getElem?_drop] at hj)
    rw[hg.cell] at h1;exact(Blk.cell (w:=W2.drew) g2 _).trans h1)
   (fun j hj=>by rw[Blk.cell (w:=W2.drew) b2,Array.getElem?_eq_getElem (by rw[List.size_toArray,z2];omega)];rfl) (fun j hj=>Blk.frozen (w:=W2.drew) b2 _) (fun u hu=>h1c u (List.mem_of_mem_drop hu))
 have b3:=Blk.sets (w:=W2.drew) (cs.drop (i*3)) ((i+1)*3) b2 (by rw[List.size_toArray,z2];omega)
 rw[<- hW3] at b3;have hrow:bB (bB ((cs.take (i*3)).toArray++Z).toList (i*3) vs) ((i+1)*3) (cs.drop (i*3))=cs.take (i*3)++vs++cs.drop (i*3)++Z.toList.drop (3+(cs.drop (i*3)).length):=by
  have:=oj (cs.take (i*3)) (cs.drop (i*3)) Z.toList vs 3 hvl (by rw[hdl,Array.length_toList,hZs];omega)
  rw[htl] at this;rw[Array.toList_append,show (i+1)*3=i*3+3 by omega]
  exact this
 have hend:Hid (W3.ownsRow 0 195 3 (.slice (some (Nw w 0)) (n+1) G) (n+1) (cs.take (i*3)++vs++cs.drop (i*3))/\w.grownBy W3 none/\w.heap.size<W3.heap.size):=by
  refine⟨⟨by simp[htl,hvl,hdl];omega,.inr ⟨_,G,_,rfl,Nat.zero_le _,b3,hGn,hGm,?_,?_⟩⟩,?_,b3.lt⟩
  ·rw[List.size_toArray,hrow];simp[htl,hvl,hdl,hZs];omega
  ·rw[List.toList_toArray,hrow];exact List.take_left' (by simp[htl,hvl,hdl];omega)
  ·rw[hW3];refine aP (cV ?_) _ _ _ (.inr (Nat.le_refl _))
   rw[hW2];refine aP ?_ _ _ _ (.inr (Nat.le_refl _))
   rw[hW1];exact⟨rfl,rfl,rfl,by simp,fun k hk _=>Below.heap_alloc w.drew _ k hk⟩
 have hG63:G<=9223372036854775807:=by unfold maxLen at hGm;omega
 have hz2:¬((i:Int)=(n:Int)):=by omega
 have hz3:(cap:Int)<(n:Int)+1:=by omega
 have hw1:IntKind.i64.wrap ((i:Int)+1)=(i:Int)+1:=by rw[IntKind.wrap_i64];omega
 have hp1:(0:Int)<=(i:Int)+1:=by omega
 have htn:((i:Int)+1).toNat=i+1:=by omega
 have hb2:¬(G=i+1):=by omega
 have hb4:¬(G=i):=by omega
 have hb5:¬(cap=i):=by omega
 have hin:i<=n:=by omega
 clear hG hGn hGm hZ hZs hW1 hW2 hW3 hold b1 b2 b3 z1 z2 g1 g2 v1 hrow hb1 hg hv hcell hdl htl hcl hcs hcur h1v h1c hzs hzb hz0 hi0;go_enter func210,ntmps210
 go_wp2_with (at_builtin;refine Lib.wpList_append_run _ rfl _ _ _ _ rfl _ _ rfl rfl _ _ (hrz _) ?_)
 go_region
 go_wp2;go_ret;exact⟨G,rfl,hend.o⟩
theorem GU(cs:List Value)(m i:Nat)(g cap:Nat)(cur:Array Value)(w:World)(hi:i<m+1)(hn:m<=1000)(hg:Blk w g cur 195)(hcur:cur.size=cap*3)(hcs:cur.toList.take ((m+1)*3)=cs)(hnc:m+1<=cap)(hcm:cap<=maxLen)(h1c:∀ u∈cs,u.oneCell'=true):Calls prog 118 #[Sq g (m+1) cap,I6 i,I6 ((i:Int)+1)] w fun e w'=>e=.returned (Sq g m cap)/\w'.ownsRow 0 195 3 (Sq g m cap) m (cs.take (i*3)++cs.drop ((i+1)*3))/\w.grownBy w' (some g):=by
 have hcl:cs.length=(m+1)*3:=by rw[<- hcs];simp[hcur];omega
 obtain⟨i0,hi0,hz0,hzs,hzb⟩:=info_parts uB;have hcell:∀ j u,cs[j]?=some u->w.cell? (At g j)=some u:=fun j u hj=>by
  rw[hg.cell,<- Array.getElem?_toList,<- hj,<- hcs,List.getElem?_take];rw[<- hcs,List.getElem?_take] at hj;split at hj
  ·rename_i h;rw[if_pos h]
  ·cases hj
 have hdl:(cs.drop ((i+1)*3)).length=(m-i)*3:=by rw[List.length_drop,hcl];omega
 have htl:(cs.take (i*3)).length=i*3:=by rw[List.length_take,hcl];omega
 obtain⟨W1,hW1⟩:∃ W1,W1=w.drew.setCells g (i*3) (cs.drop ((i+1)*3)):=⟨_,rfl⟩
 obtain⟨A,hA,hsrc⟩:∃ A:Addr,(if cap=i+1 then some ((At g 0):Addr) else some (At g ((i+1)*3)))=some A/\Hid (∀ t u,(cs.drop ((i+1)*3))[t]?=some u->w.drew.cell? (A.add t)=some u):=by
  by_cases h:cap=i+1
  ·refine⟨_,if_pos h,fun t u hu=>?_⟩
   have h0:(cs.drop ((i+1)*3)).length=0:=by rw[hdl];omega
   rw[List.length_eq_zero_iff.1 h0] at hu;simp at hu
  ·refine⟨_,if_neg h,fun t u hu=>?_⟩
   rw[Addr.add_lit];exact hcell _ u (by rwa [List.getElem?_drop] at hu)
 have s1:Hid ((cs.drop ((i+1)*3)).length=(m-i)*3):=hdl
 have s2:Hid (∀ u∈cs.drop ((i+1)*3),u.oneCell'=true):=fun u hu=>h1c u (List.mem_of_mem_drop hu)
 have s3:Hid (∀ t,t<(cs.drop ((i+1)*3)).length->(w.drew.cell? (At g (0+i*3+t))).isSome=true/\w.drew.frozen? (At g (0+i*3+t))=false):=fun t ht=>by
  rw[hdl] at ht;exact⟨by rw[Blk.cell (w:=w.drew) hg,Array.getElem?_eq_getElem om];rfl,Blk.frozen (w:=w.drew) hg _⟩
 have HW:Hid (W1=w.drew.setCells g (0+i*3) (cs.drop ((i+1)*3))):=by rw[Nat.zero_add];exact hW1
 have b1:Blk W1 g (bB cur.toList (i*3) (cs.drop ((i+1)*3))).toArray 195:=by rw[hW1];exact Blk.sets (w:=w.drew) _ _ hg (by rw[hdl];omega)
 have z1:(bB cur.toList (i*3) (cs.drop ((i+1)*3))).length=cap*3:=by rw[bL _ _ _ (by rw[hdl];simp;omega)];simpa using hcur
 obtain⟨W2,hW2⟩:∃ W2,W2=W1.setCells g (m*3) (.agg #[U3 0,I6 0,.string ByteArray.empty]:Value).cells.toList:=⟨_,rfl⟩
 have hcr:∀ ty c,(Builtin.clear_ #[157] ty #[.slice (some (At g (m*3))) 1 c]).run prog W1=.ok (.tuple #[]) W2:=fun ty c=>by
  rw[hW2];exact fF W1 157 195 ty (.agg #[U3 0,I6 0,.string ByteArray.empty]) underlying157 (fun w=>by rw[Tryz.zeroValue195];rfl) g (m*3) c
   (fun j hj=>by simp[Value.cells] at hj;rw[b1.cell,Array.getElem?_eq_getElem (by rw[List.size_toArray,z1];omega)];rfl) (fun j hj=>b1.frozen _) (by intro u hu;simp[Value.cells] at hu;rcases hu with rfl|rfl|rfl<;>rfl)
 have b2:=Blk.sets (.agg #[U3 0,I6 0,.string ByteArray.empty]:Value).cells.toList (m*3) b1 (by rw[List.size_toArray,z1];simp[Value.cells];omega)
 rw[<- hW2] at b2;have hrow:bB (bB cur.toList (i*3) (cs.drop ((i+1)*3))) (m*3) (.agg #[U3 0,I6 0,.string ByteArray.empty]:Value).cells.toList=cs.take (i*3)++cs.drop ((i+1)*3)++(.agg #[U3 0,I6 0,.string ByteArray.empty]:Value).cells.toList++cur.toList.drop ((m+1)*3):=by
  have hM:((cs.drop (i*3)).take 3).length=3:=by simp[hcl];omega
  have:=se (cs.take (i*3)) ((cs.drop (i*3)).take 3) (cs.drop ((i+1)*3)) (cur.toList.drop ((m+1)*3)) (.agg #[U3 0,I6 0,.string ByteArray.empty]:Value).cells.toList 3 hM (by simp[Value.cells])
  have e:cs.take (i*3)++(cs.drop (i*3)).take 3++cs.drop ((i+1)*3)++cur.toList.drop ((m+1)*3)=cur.toList:=by
   rw[show cs.drop ((i+1)*3)=(cs.drop (i*3)).drop 3 by rw[List.drop_drop];congr 1;omega,List.append_assoc (cs.take (i*3)),List.take_append_drop,List.take_append_drop,<- hcs,List.take_append_drop]
  rw[e,htl,hdl,show i*3+(m-i)*3=m*3 by omega] at this
  exact this
 have hend:Hid (W2.ownsRow 0 195 3 (Sq g m cap) m (cs.take (i*3)++cs.drop ((i+1)*3))/\w.grownBy W2 (some g)):=by
  refine⟨⟨by simp[htl,hdl];omega,.inr ⟨g,cap,_,rfl,Nat.zero_le _,b2,by omega,hcm,?_,?_⟩⟩,?_⟩
  ·rw[List.size_toArray,bL _ _ _ (by rw[z1];simp[Value.cells];omega),z1]
  ·rw[List.toList_toArray,hrow,List.append_assoc];exact List.take_left' (by simp[htl,hdl];omega)
  ·rw[hW2];refine aP ?_ _ _ _ (.inl rfl)
   rw[hW1];exact aP (cV (dC _ _)) _ _ _ (.inl rfl)
 have hw1:IntKind.i64.wrap ((i:Int)+1)=(i:Int)+1:=by rw[IntKind.wrap_i64];omega
 have hp1:(0:Int)<=(i:Int)+1:=by omega
 have htn:((i:Int)+1).toNat=i+1:=by omega
 have hb1:¬(cap=m):=by omega
 have hb3:(i:Int)<=(i:Int)+1:=by omega
 have hb4:(i:Int)+1<=(m:Int)+1:=by omega
 have hb6:i+1<=m+1:=by omega
 have hb7:m<=cap:=by omega
 have hb8:i<=cap:=by omega
 have hc63:cap<=9223372036854775807:=by unfold maxLen at hcm;omega
 have hmi:i+(m-i)=m:=by omega
 clear hW1 hW2 b1 b2 z1 hrow hg hcell hdl htl hcl hcs hcur h1c hzb hz0;go_enter func118,ntmps118
 go_wp2;go_region_law (refine step_append_room rfl (.tmp 22) (.tmp 25) 157 rfl 195 i0 3 underlying157 hi0 hzs g 0 i cap (by simp[Act.eval,Act.put]) A (m-i) (cap-(i+1)) (cs.drop ((i+1)*3)) (by simp[Act.eval,Act.put]) s1.o hsrc.o s2.o om s3.o ?_;rw[<- HW.o,hmi])
 go_wp2;go_ret;exact⟨rfl,hend.o⟩
theorem Gi(cs vs:List Value)(n i:Nat)(v:Value)(vb:Nat)(w:World)(hown:w.ownsRow 0 195 3 v n cs)(hi:i<=n)(hn:n<=1000)(hvl:vs.length=3)(hv:Blk w vb vs.toArray 195)(hvb:v.ownBlock≠some vb)(h1v:∀ u∈vs,u.oneCell'=true)(h1c:∀ u∈cs,u.oneCell'=true):Calls prog 210 #[v,I6 i,Sq vb 1 1] w fun e w'=>∃ g cap,e=.returned (Sq g (n+1) cap)/\w'.ownsRow 0 195 3 (Sq g (n+1) cap) (n+1) (cs.take (i*3)++vs++cs.drop (i*3))/\w.grownBy w' v.ownBlock/\(v.ownBlock=some g\/w.heap.size<=g)/\g<w'.heap.size:=by
 by_cases he:i=n
 ·subst he;have e:cs.take (i*3)++vs++cs.drop (i*3)=cs++vs:=by rw[List.take_of_length_le (by rw[hown.1];omega),List.drop_eq_nil_of_le (by rw[hown.1];omega),List.append_nil]
  rw[e];exact CS cs vs i v vb w hown hn hvl hv h1v
 ·have hlt:i<n:=by omega
  have h0:=hown.1;rcases hown.2 with⟨rfl,e⟩|⟨g,cap,cur,rfl,_,hg,h1,h2,h3,h4⟩
  ·omega
  ·by_cases hroom:n+1<=cap
   ·have hne:vb≠g:=fun e=>hvb (by rw[e];rfl)
    refine(EI cs vs n i g cap cur vb w hlt hn hg h3 h4 hroom (by unfold maxLen at h2;omega) hvl hv hne h1v h1c).mono ?_
    rintro e w' ⟨rfl,rfl⟩
    have hdl:(cs.drop (i*3)).length=(n-i)*3:=by rw[List.length_drop,h0];omega
    have htl:(cs.take (i*3)).length=i*3:=by rw[List.length_take,h0];omega
    have hx:cur.toList.length=cap*3:=by rw[Array.length_toList,h3]
    have b1:=Blk.sets (w:=w.drew) (cs.drop (i*3)) ((i+1)*3) hg (by rw[h3,hdl];omega)
    have z1:(bB cur.toList ((i+1)*3) (cs.drop (i*3))).length=cap*3:=by rw[bL _ _ _ (by rw[hdl,hx];omega),hx]
    have b2:=Blk.sets vs (i*3) b1 (by rw[List.size_toArray,z1];omega)
    have hrow:bB (bB cur.toList ((i+1)*3) (cs.drop (i*3))) (i*3) vs=cs.take (i*3)++vs++cs.drop (i*3)++(cur.toList.drop (n*3)).drop 3:=by
     have:=sL (cs.take (i*3)) (cs.drop (i*3)) (cur.toList.drop (n*3)) vs 3 hvl (by rw[List.length_drop,hx];omega)
     rw[List.take_append_drop,<- h4,List.take_append_drop,h4,htl,show i*3+3=(i+1)*3 by omega] at this
     exact this
    refine⟨g,cap,rfl,⟨by simp[htl,hvl,hdl];omega,.inr ⟨g,cap,_,rfl,Nat.zero_le _,b2,hroom,h2,?_,?_⟩⟩,aP (aP (cV (dC _ _)) _ _ _ (.inl rfl)) _ _ _ (.inl rfl),.inl rfl,b2.lt⟩
    ·rw[List.size_toArray,bL _ _ _ (by rw[z1];omega),z1]
    ·rw[List.toList_toArray,hrow];exact List.take_left' (by simp[htl,hvl,hdl];omega)
   ·refine(zo cs vs n i g cap cur vb w hlt hn hg h3 h4 h1 om hvl hv h1v h1c).mono ?_
    rintro e w' ⟨c',rfl,o1,o2,o3⟩
    exact⟨_,c',rfl,o1,⟨o2.os,o2.tape,o2.output,o2.size,fun k hk _=>o2.block k hk sM⟩,.inr (Nat.le_refl _),o3⟩
end Go.Proofs.YtjnhhnbgjjkkjaaGreatDoor
