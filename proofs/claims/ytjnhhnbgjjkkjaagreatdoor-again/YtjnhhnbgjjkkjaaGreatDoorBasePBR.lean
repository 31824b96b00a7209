/-
  BkEn
-/
import Derived.Lib.SlicesS
import Derived.Test.YtjnhhnbgjjkkjaaGreatDoorBasePAA
import Derived.Test.YtjnhhnbgjjkkjaaGreatDoorBasePAF
import Derived.Test.YtjnhhnbgjjkkjaaGreatDoorBasePAO
import Derived.Test.YtjnhhnbgjjkkjaaGreatDoorBasePAW
namespace Go.Proofs.YtjnhhnbgjjkkjaaGreatDoor
open Go.ChangeShapes Go.WideShapes Go.ChangeAt Go.RowKit
set_option linter.unusedVariables false
set_option linter.unusedSimpArgs false
def eqA (l:List UInt8):List UInt8:=l.takeWhile (fun c=>c != 61)
def eqB (l:List UInt8):List UInt8:=l.drop ((eqA l).length+1)
def hasEq (l:List UInt8):Bool:=decide ((eqA l).length<l.length)
def encE (e:List UInt8×List UInt8):List Value:=[.string (bs e.1),.string (bs e.2)]
def entsOf (ws:List (List UInt8)):List (List UInt8×List UInt8):=ws.map fun w=>(eqA w,eqB w)
def entL (l:List UInt8):Option (List (List UInt8×List UInt8)) :=
  match parts 32 l with
  | w::ws=>if w=[79,75] then (if ws.all hasEq then some (entsOf ws) else none) else none
  | []=>none
theorem eqA_at (x:List UInt8):(eqA x).length<=x.length/\(∀ (j:Nat) (h:j<x.length),j<(eqA x).length->x[j]≠61)/\(∀ (h:(eqA x).length<x.length),x[(eqA x).length]=61):=by
  induction x with
  | nil=>simp[eqA]
  | cons c r ih =>
    obtain⟨h1,h2,h3⟩:=ih;by_cases hc:c=61
    . have e:eqA (c::r)=[]:=by unfold eqA;rw[List.takeWhile_cons_of_neg (by simp[hc])]
      rw[e];exact⟨by simp,fun j _ hj=>by simp at hj,fun _=>by simpa using hc⟩
    . have e:eqA (c::r)=c::eqA r:=by unfold eqA;rw[List.takeWhile_cons_of_pos (by simp[hc])]
      rw[e];refine⟨by simp;omega,fun j h hj=>?_,fun h=>?_⟩
      . cases j with
        | zero=>simpa using hc
        | succ j=>simp at hj h ⊢;exact h2 j h hj
      . simp at h ⊢;exact h3 h
theorem eqA_take (x:List UInt8):x.take (eqA x).length=eqA x:=by
  unfold eqA;exact List.prefix_iff_eq_take.1 (List.takeWhile_prefix _) |>.symm
theorem infoEn:(Tryz.prog.info? 78).map (fun i=>(i.zero,i.size,i.bytes))=some (some (.agg #[.string ByteArray.empty,.string ByteArray.empty]),2,32):=by kernel_rfl
theorem all_next {ws:List (List UInt8)} {j:Nat} (h:∀ t,1<=t->t<j->hasEq (ws.getD t [])=true) (e:hasEq (ws.getD j [])=true):∀ t,1<=t->t<j+1->hasEq (ws.getD t [])=true:=fun t h1 h2=>by
  rcases Nat.lt_or_ge t j with q|q
  . exact h t h1 q
  . obtain rfl:t=j:=by omega
    exact e
def entN (ws:List (List UInt8)) (j:Nat):List (List UInt8×List UInt8):=entsOf ((ws.drop 1).take (j-1))
theorem entN_next {ws:List (List UInt8)} {j:Nat} (h1:1<=j) (h:j<ws.length):entN ws (j+1)=entN ws j++[(eqA (ws.getD j []),eqB (ws.getD j []))]:=by
  unfold entN entsOf;have e:j+1-1=(j-1)+1:=by omega
  rw[e,List.take_succ_eq_append_getElem (by simp;omega),List.map_append]
  have e2:(ws.drop 1)[j-1]'(by simp;omega)=ws.getD j []:=by
    rw[List.getD_eq_getElem?_getD,List.getElem?_eq_getElem h,Option.getD_some,List.getElem_drop];congr 1;omega
  rw[e2];rfl
theorem owns_mono' {w:World} {B B':Nat} {t:TypeId} {k:Nat} {v:Value} {n:Nat} {xs:List Value} (h:w.ownsRow B t k v n xs) (hb:B'<=B):w.ownsRow B' t k v n xs:=by
  refine⟨h.1,?_⟩
  rcases h.2 with q|⟨g,cap,cur,e,h1,rest⟩
  . exact .inl q
  . exact .inr ⟨g,cap,cur,e,by omega,rest⟩
set_option maxRecDepth 100000 in
set_option maxHeartbeats 1000000 in
theorem ent_go (s:ByteArray) (w:World) (n:Nat) (ws:List (List UInt8)) (hws:ws.length=n) (hn:n<=1000000) (hn1:1<=n) (hok:ws.getD 0 []=[79,75]) (hsz:∀ j,(bs (ws.getD j [])).size<=2097152)
    (HW:Hid (∀ W,Calls Tryz.prog 57 #[.string s] W fun e w'=>∃ g c,e=.returned (.slice (some ⟨g,0,none⟩) n c)/\W.heap.size<=g/\g<w'.heap.size/\(∀ j,j<n->w'.cell? ⟨g,j,none⟩=some (.string (bs (ws.getD j []))))/\Below W.heap.size W w')) :
    Calls Tryz.prog 35 #[.string s] w fun e w'=>(∃ v,e=.returned (.tuple #[v,.bool true])/\(∀ t,1<=t->t<n->hasEq (ws.getD t [])=true)/\w'.ownsRow w.heap.size 78 2 v (n-1) ((entN ws n).flatMap encE)/\Below w.heap.size w w')\/(e=.returned (.tuple #[.slice none 0 0,.bool false])/\(∃ t,1<=t/\t<n/\hasEq (ws.getD t [])=false)/\Below w.heap.size w w'):=by
  have h1:(0:Int)<(n:Int):=by omega
  obtain⟨i0,hi,hz0,hz1,hz2⟩:=info_parts infoEn;go_enter Tryz.func35,Tryz.ntmps35
  go_wp2_with (go_at_call 57;refine(HW.out _).mono ?_;rintro e w1 ⟨g,c,rfl,hg1,hg2,hcell,hq1⟩;have c0:w1.cell? ⟨g,0,none⟩=some (.string (⟨#[79,75]⟩:ByteArray)):=(by have h:=hcell 0 (om);rw[hok] at h;exact h);replace hcell:Hid (∀ j,j<n->w1.cell? ⟨g,j,none⟩=some (.string (bs (ws.getD j [])))):=hcell;replace hq1:Hid (Below w.heap.size w w1):=hq1)
  go_loopw [5,6] (fun v i wr=>∃ j:Nat,1<=j/\j<=n/\i=.int .i64 j/\Hid (wr.ownsRow w1.heap.size 78 2 v (j-1) ((entN ws j).flatMap encE)/\(∀ t,1<=t->t<j->hasEq (ws.getD t [])=true)/\Below w1.heap.size w1 wr)) (fun _ i _=>(n-intOf i).toNat)
  case atStart=>exact⟨1,by omega,by omega,rfl,World.ownsRow_nil _ _ _ _,fun t a b=>by omega,Below.refl _ _⟩
  case round =>
    obtain⟨j,hj1,hjn,rfl,H⟩:=hrel;by_cases hlt:j<n
    . obtain⟨x,hx⟩:∃ x,x=ws.getD j []:=⟨_,rfl⟩
      obtain⟨xb,hxb⟩:∃ xb,xb=bs x:=⟨_,rfl⟩
      obtain⟨L,hL⟩:∃ L,L=(eqA x).length:=⟨_,rfl⟩
      have hld:wr.cell? ⟨g,j,none⟩=some (.string xb):=by rw[hxb,hx];exact(H.out.2.2.cell (p:=⟨g,j,none⟩) hg2).trans (hcell.out j hlt)
      have hxs:xb.size=x.length:=by rw[hxb,bs_size]
      have hxm:xb.size<=2097152:=by rw[hxb,hx];exact hsz j
      obtain⟨q1,q2,q3⟩:=eqA_at x;have hLx:L<=xb.size:=by omega
      have hbt:∀ (k:Nat) (h:k<xb.size),(xb[k]:UInt8)=x[k]'(om):=fun k h=>by
        subst hxb;simp[bs,ByteArray.getElem_eq_getElem_data]
      have hne:∀ (k:Nat) (h:k<xb.size),k<L->(((xb[k].toNat:Nat):Int)==61)=false:=fun k h hk=>by
        rw[beq_eq_false_iff_ne];intro e;refine q2 k (om) (om) ?_
        rw[<- hbt k h];have h61:xb[k].toNat=61:=by omega
        exact UInt8.toNat_inj.1 (h61.trans rfl)
      have hqe:∀ (h:L<xb.size),(((xb[L].toNat:Nat):Int)==61)=true:=fun h=>by
        have e:=q3 (om)
        have e2:xb[L]=61:=by rw[hbt L h];subst hL;exact e
        rw[e2];rfl
      have HX:Hid (x=ws.getD j []/\xb=bs x/\L=(eqA x).length/\xb.size=x.length):=⟨hx,hxb,hL,hxs⟩
      replace hne:Hid _:=hne;replace hqe:Hid _:=hqe;have hlt2:(j:Int)<(n:Int):=by omega
      have hj0:(0:Int)<=(j:Int):=by omega
      clear hx hxb hL hxs q1 q2 q3 hbt;go_wp2;go_loopw [7] (fun k W=>∃ m:Nat,m<=L/\k=.int .i64 m/\W=wr) (fun k _=>(L-intOf k).toNat)
      case atStart=>exact⟨0,by omega,rfl,rfl⟩
      case round =>
        obtain⟨m,hmL,rfl,rfl⟩:=hrel;have hm0:(0:Int)<=(m:Int):=by omega
        by_cases hlm:m<L
        . have hms:m<xb.size:=by omega
          have hms2:(m:Int)<(xb.size:Int):=by omega
          have hc:=hne.out m hms hlm;go_wp2;go_roundw
          case rel=>exact⟨m+1,by omega,by simp,trivial⟩
          case measure=>simp[intOf];omega
        . obtain rfl:m=L:=by omega
          by_cases hsz2:m<xb.size
          . have hms2:(m:Int)<(xb.size:Int):=by omega
            have hc:=hqe.out hsz2;have hnq:((m:Int)==(xb.size:Int))=false:=beq_eq_false_iff_ne.2 (om)
            obtain⟨A,hA⟩:∃ A,A=xb.extract 0 m:=⟨_,rfl⟩
            obtain⟨B,hB⟩:∃ B,B=xb.extract (m+1) xb.size:=⟨_,rfl⟩
            have hAe:xb.extract 0 m=A:=hA.symm
            have hBe:xb.extract (m+1) xb.size=B:=hB.symm
            have hms3:(m:Int)+1<=(xb.size:Int):=by omega
            have hms4:(0:Int)<=(m:Int)+1:=by omega
            have hms5:(m:Int)<=(xb.size:Int):=by omega
            have hwr:IntKind.i64.wrap ((m:Int)+1)=(m:Int)+1:=wrap_sum (m:Int) 1 (om) (om) (om) (om)
            have hw1z:=H.out.2.2.size;have hnw:=Blk.new wr #[.string A,.string B] 78
            have hbd:Below wr.heap.size wr (wr.alloc (.cells #[.string A,.string B] 78)).drew:=(upB)
            have hown5:(wr.alloc (.cells #[.string A,.string B] 78)).drew.ownsRow w1.heap.size 78 2 u5 (j-1) ((entN ws j).flatMap encE):=owns_same H.out.1 (fun b e=>hbd.block b (owns_lt H.out.1 b e).1)
            obtain⟨v6,w6,hr6,o6,g6,_⟩:=run_append_own (P:=Tryz.prog) (w:=(wr.alloc (.cells #[.string A,.string B] 78)).drew) w1.heap.size 74 74 78 i0 _ 2 32 Tryz.underlying74 hi hz0 hz1 hz2 rfl (by decide) u5 (j-1) ((entN ws j).flatMap encE) hown5 ⟨wr.heap.size,0,none⟩ 1 1 [.string A,.string B] rfl (fun i u hu=>by
              rw[Addr.add_lit,Nat.zero_add];have hc2:(wr.alloc (.cells #[.string A,.string B] 78)).drew.cell? ⟨wr.heap.size,i,none⟩=(#[Value.string A,.string B]:Array Value)[i]?:=hnw.cell i
              rw[hc2];simpa using hu) (by intro u hu;simp at hu;rcases hu with rfl|rfl<;>rfl) (by unfold maxLen;omega) (om) (by simp;omega)
            have y6:w6.cell? ⟨g,j,none⟩=some (.string xb):=(World.cell?_of_block (a:=⟨g,j,none⟩) (g6.block g (by simp;omega) (fun e=>by have:=owns_base H.out.1 g e.symm;omega))).trans ((hbd.cell (p:=⟨g,j,none⟩) (by show g<wr.heap.size;omega)).trans hld)
            have HA6:Hid (A=xb.extract 0 m/\B=xb.extract (m+1) xb.size):=⟨hA,hB⟩
            have HO6:Hid (w6.ownsRow w1.heap.size 78 2 v6 (j-1+1) ((entN ws j).flatMap encE++[.string A,.string B])):=o6
            have HG6:Hid (Below w1.heap.size w1 w6):=below_grown (H.out.2.2.trans (hbd.mono hw1z)) g6 (fun b e=>owns_base H.out.1 b e) (by simp;omega)
            clear hA hB hnw hown5 o6 g6 hbd;go_wp2;go_region_held3 (fun w'=>w'.cell? ⟨g,j,none⟩=some (.string xb)) (go_keep) (first|(refine step_append_eq rfl _ _ 74 74 rfl u5 (.slice (some ⟨wr.heap.size,0,none⟩) 1 1) (by simp[Act.eval,Act.put]) (by simp[Act.eval,Act.put]) hr6 ?_))
            all_goals (
              go_wp2;go_roundw
              case rel =>
                refine⟨j+1,by omega,by omega,by simp,?_,?_,HG6.out⟩
                . obtain⟨e1,e2,e3,e4⟩:=HX.out;have h6:=HO6.out;have hAB:[Value.string A,Value.string B]=encE (eqA (ws.getD j []),eqB (ws.getD j [])):=by
                    have a1:A=bs (eqA x):=by rw[HA6.out.1,ext_bs,e2,bs_data,List.drop_zero,e3,eqA_take]
                    have a2:B=bs (eqB x):=by rw[HA6.out.2,ext_bs,e2,bs_data,bs_size,List.take_length,e3];rfl
                    unfold encE;rw[a1,a2,e1]
                  rw[hAB] at h6;have hn2:j+1-1=j-1+1:=by omega
                  rw[hn2,entN_next hj1 (om),List.flatMap_append];simpa using h6
                . exact all_next H.out.2.1 (by obtain⟨e1,e2,e3,e4⟩:=HX.out;rw[<- e1];exact decide_eq_true (om))
              case measure=>simp[intOf];omega)
          . have hms2:¬(m:Int)<(xb.size:Int):=by omega
            have hnq:((m:Int)==(xb.size:Int))=true:=beq_iff_eq.2 (om)
            have HE:Hid (hasEq (ws.getD j [])=false):=by
              obtain⟨e1,e2,e3,e4⟩:=HX.out;rw[<- e1];exact decide_eq_false (om)
            go_wp2;go_ret2
            exact .inr ⟨rfl,⟨j,hj1,hlt,HE.out⟩,hq1.out.trans (H.out.2.2.mono hq1.out.size)⟩
    . obtain rfl:j=n:=by omega
      have hlt2:¬(j:Int)<(j:Int):=by omega
      go_wp2;go_ret2
      exact .inl ⟨_,rfl,H.out.2.1,owns_mono' H.out.1 hq1.out.size,hq1.out.trans (H.out.2.2.mono hq1.out.size)⟩
set_option maxRecDepth 100000 in
set_option maxHeartbeats 400000 in
theorem ent_no (s:ByteArray) (w:World) (n:Nat) (t0:ByteArray) (hn1:1<=n) (hok:t0≠⟨#[79,75]⟩)
    (HW:Hid (∀ W,Calls Tryz.prog 57 #[.string s] W fun e w'=>∃ g c,e=.returned (.slice (some ⟨g,0,none⟩) n c)/\W.heap.size<=g/\g<w'.heap.size/\w'.cell? ⟨g,0,none⟩=some (.string t0)/\Below W.heap.size W w')) :
    Calls Tryz.prog 35 #[.string s] w fun e w'=>e=.returned (.tuple #[.slice none 0 0,.bool false])/\Below w.heap.size w w':=by
  have h1:(0:Int)<(n:Int):=by omega
  have hq:=(Lib.bytes_beq_false_iff t0 ⟨#[79,75]⟩).2 hok
  rw[show (⟨#[79,75]⟩:ByteArray).toList=[79,75] by decide +kernel] at hq
  clear hok;go_enter Tryz.func35,Tryz.ntmps35
  go_wp2_with (go_at_call 57;refine(HW.out _).mono ?_;rintro e w1 ⟨g,c,rfl,hg1,hg2,c0,hq1⟩)
  go_ret2
  exact⟨rfl,hq1⟩
theorem entries_any (s:ByteArray) (w:World) (hs:s.size<=900000) :
    Calls Tryz.prog 35 #[.string s] w fun e w'=>∃ v,e=.returned (.tuple #[v,.bool (entL s.data.toList).isSome])/\w'.ownsRow w.heap.size 78 2 v ((entL s.data.toList).getD []).length (((entL s.data.toList).getD []).flatMap encE)/\Below w.heap.size w w':=by
  have hl:=Lib.size_eq s;obtain⟨ws,hws⟩:∃ ws,ws=parts 32 s.data.toList:=⟨_,rfl⟩
  have hp:=parts_pos 32 s.data.toList;have hple:=cut_len 32 s.data.toList ([],[])
  have hlen:ws.length<=1000000:=by rw[hws];unfold parts;simp at hple ⊢;omega
  rw[<- hws] at hp;have HW:∀ W,Calls Tryz.prog 57 #[.string s] W fun e w'=>∃ g c,e=.returned (.slice (some ⟨g,0,none⟩) ws.length c)/\W.heap.size<=g/\g<w'.heap.size/\(∀ j,j<ws.length->w'.cell? ⟨g,j,none⟩=some (.string (bs (ws.getD j []))))/\Below W.heap.size W w':=fun W=>by
    refine(kwords_any s W (om)).mono ?_
    rintro e w' ⟨v,rfl,ho,hb⟩
    rw[<- hws] at ho;obtain⟨g,cap,rfl,g1,g2,_,_,g5⟩:=owns_form ho hp;exact⟨g,cap,rfl,g1,g2,g5,hb⟩
  obtain⟨w0,wr,hcons⟩:∃ w0 wr,ws=w0::wr:=by
    rcases ws with _|⟨a,b⟩
    . simp at hp
    . exact⟨a,b,rfl⟩
  have hE:entL s.data.toList=if w0=[79,75] then (if wr.all hasEq then some (entsOf wr) else none) else none:=by
    unfold entL;rw[<- hws,hcons]
  have hszs:∀ j,(bs (ws.getD j [])).size<=2097152:=fun j=>by
    rw[bs_size,hws];have:=part_len 32 s.data.toList j
    omega
  by_cases h0:w0=[79,75]
  . rw[if_pos h0] at hE;refine(ent_go s w ws.length ws rfl hlen hp (by rw[hcons];exact h0) hszs HW).mono ?_
    rintro e w' (⟨v,rfl,ha,ho,hb⟩|⟨rfl,⟨t,t1,t2,t3⟩,hb⟩)
    . have hall:wr.all hasEq=true:=List.all_eq_true.2 fun y hy=>by
        obtain⟨j,hj,rfl⟩:=List.mem_iff_getElem.1 hy;have:=ha (j+1) (om) (by rw[hcons];simp;omega)
        rw[hcons] at this;simpa[List.getElem?_eq_getElem hj] using this
      rw[if_pos hall] at hE;have e1:entN ws ws.length=entsOf wr:=by unfold entN;rw[hcons];simp
      rw[e1] at ho;rw[hE];refine⟨v,rfl,?_,hb⟩
      have e2:(entsOf wr).length=ws.length-1:=by rw[hcons];simp[entsOf]
      simp only[Option.getD_some]
      rw[e2];exact ho
    . have hall:¬wr.all hasEq=true:=fun q=>by
        have hm:ws.getD t []∈wr:=by
          rw[hcons] at t2 ⊢;obtain⟨t,rfl⟩:∃ q,t=q+1:=⟨t-1,by omega⟩
          simp at t2 ⊢
          rw[List.getElem?_eq_getElem t2];exact List.getElem_mem t2
        have:=List.all_eq_true.1 q _ hm
        rw[t3] at this;cases this
      rw[if_neg hall] at hE;rw[hE];exact⟨_,rfl,World.ownsRow_nil _ _ _ _,hb⟩
  . rw[if_neg h0] at hE;refine(ent_no s w ws.length (bs w0) hp (fun q=>h0 (bs_inj (q.trans rfl))) (fun W=>(HW W).mono ?_)).mono ?_
    . rintro e w' ⟨g,c,rfl,a1,a2,a3,a4⟩
      refine⟨g,c,rfl,a1,a2,?_,a4⟩
      have:=a3 0 hp
      rw[hcons] at this;exact this
    . rintro e w' ⟨rfl,hb⟩
      rw[hE];exact⟨_,rfl,World.ownsRow_nil _ _ _ _,hb⟩
end Go.Proofs.YtjnhhnbgjjkkjaaGreatDoor
