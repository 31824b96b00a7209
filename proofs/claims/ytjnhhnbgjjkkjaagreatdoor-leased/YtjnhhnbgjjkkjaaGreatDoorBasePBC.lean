/-
  SnD, SnE
-/
import Derived.Test.YtjnhhnbgjjkkjaaGreatDoorBasePAA
import Derived.Test.YtjnhhnbgjjkkjaaGreatDoorBasePBA
import Derived.Test.YtjnhhnbgjjkkjaaGreatDoorBasePAR
namespace Go.Proofs.YtjnhhnbgjjkkjaaGreatDoor
open Go.ChangeShapes Go.WideShapes Go.ChangeAt Go.RowKit
set_option linter.unusedVariables false
set_option linter.unusedSimpArgs false
theorem infoStrC:(Tryz.prog.info? 9).map (fun i=>(i.zero,i.size,i.bytes))=some (some (.string ByteArray.empty),1,16):=by kernel_rfl
def upS (T:Nat->ByteArray) (k:Nat):List Value:=(List.range k).map fun j=>.string (T j)
theorem upS_next (T:Nat->ByteArray) (k:Nat):upS T (k+1)=upS T k++[.string (T k)]:=by unfold upS;simp[List.range_succ]
set_option maxRecDepth 100000 in
set_option maxHeartbeats 4000000 in
theorem comm_at (x:Nat) (w:World) (b1 b2 b3:Option Addr) (n1 c1 n2 c2 n3 c3:Nat) (P1 P2:Nat->Hd) (P3:Nat->Ls) (T:Nat->ByteArray) (h1:n1<=1000) (h2:n2<=1000) (h3:n3<=1000) (hx:x<w.heap.size)
    (d0:w.cell? ⟨x,0,none⟩=some (.slice b1 n1 c1)) (d1:w.cell? ⟨x,1,none⟩=some (.slice b2 n2 c2)) (d2:w.cell? ⟨x,2,none⟩=some (.slice b3 n3 c3))
    (hr1:Hid (∀ W,Below w.heap.size w W->∀ j,j<n1->∃ g,b1=some ⟨g,0,none⟩/\W.cell? ⟨g,j*3,none⟩=some (.int .u32 (P1 j).a)/\W.cell? ⟨g,j*3+1,none⟩=some (.int .i64 (P1 j).n)/\W.cell? ⟨g,j*3+2,none⟩=some (.string (P1 j).o)))
    (HT1:Hid (∀ j,j<n1->∀ Wc,Below w.heap.size w Wc->Calls Tryz.prog 150 #[.agg #[.int .u32 (P1 j).a,.int .i64 (P1 j).n,.string (P1 j).o],.int .i64 0] Wc fun e w'=>e=.returned (.string (T (0+j)))/\Below Wc.heap.size Wc w'))
    (hr2:Hid (∀ W,Below w.heap.size w W->∀ j,j<n2->∃ g,b2=some ⟨g,0,none⟩/\W.cell? ⟨g,j*3,none⟩=some (.int .u32 (P2 j).a)/\W.cell? ⟨g,j*3+1,none⟩=some (.int .i64 (P2 j).n)/\W.cell? ⟨g,j*3+2,none⟩=some (.string (P2 j).o)))
    (HT2:Hid (∀ j,j<n2->∀ Wc,Below w.heap.size w Wc->Calls Tryz.prog 150 #[.agg #[.int .u32 (P2 j).a,.int .i64 (P2 j).n,.string (P2 j).o],.int .i64 3] Wc fun e w'=>e=.returned (.string (T (n1+j)))/\Below Wc.heap.size Wc w'))
    (hr3:Hid (∀ W,Below w.heap.size w W->∀ j,j<n3->∃ g,b3=some ⟨g,0,none⟩/\W.cell? ⟨g,j*2,none⟩=some (.int .u32 (P3 j).a)/\W.cell? ⟨g,j*2+1,none⟩=some (.string (P3 j).o)))
    (HT3:Hid (∀ j,j<n3->∀ Wc,Below w.heap.size w Wc->Calls Tryz.prog 151 #[.agg #[.int .u32 (P3 j).a,.string (P3 j).o]] Wc fun e w'=>e=.returned (.string (T ((n1+n2)+j)))/\Below Wc.heap.size Wc w')) :
    Calls Tryz.prog 102 #[.pointer (some ⟨x,0,none⟩)] w fun e w'=>∃ v,e=.returned v/\w'.ownsRow w.heap.size 9 1 v (n1+n2+n3) (upS T (n1+n2+n3))/\Below w.heap.size w w':=by
  obtain⟨i0,hi,hz0,hz1,hz2'⟩:=info_parts infoStrC;go_enter Tryz.func102,Tryz.ntmps102
  go_wp2;go_loopw [3,5,15] (fun v _ i wr=>∃ j:Nat,j<=n1/\i=.int .i64 j/\Hid (wr.ownsRow w.heap.size 9 1 v (0+j) (upS T (0+j))/\Below w.heap.size w wr)) (fun _ _ i _=>n1-(intOf i).toNat)
  case atStart=>exact⟨0,Nat.zero_le _,rfl,⟨World.ownsRow_nil _ _ _ _,Below.refl _ _⟩⟩
  case round =>
    obtain⟨j,hj,rfl,O⟩:=hrel;obtain⟨b4,c4,rfl,hn4,hm4⟩:=owns_slice O.out.1;by_cases hlt:j<n1
    . obtain⟨g,rfl,k0,k1,k2⟩:=hr1.out wr O.out.2 j hlt;have hcall:=HT1.out j hlt;generalize P1 j=y at k0 k1 k2 hcall
      obtain⟨t,ht⟩:∃ t,t=T (0+j):=⟨_,rfl⟩
      rw[<- ht] at hcall;replace hcall:Hid _:=hcall;replace ht:Hid _:=ht;obtain⟨m,hm⟩:∃ m,m=0+j:=⟨_,rfl⟩
      rw[<- hm] at O hn4 ⊢;have hm6:m<=10000:=by omega
      have HM:Hid (m=0+j):=hm
      obtain⟨l5,hl5⟩:∃ l5,l5=upS T m:=⟨_,rfl⟩
      rw[<- hl5] at O;replace hl5:Hid _:=hl5;have hltz:(j:Int)<(n1:Int):=by omega
      have hz:=O.out.2.size;clear hm;go_wp2_with (first
        | (go_at_call 150;refine(hcall.out _ (by have hp:=O.out.2;exact upB)).mono ?_;rintro e w2 ⟨rfl,hq2⟩;have HB2:Hid (Below wr.heap.size wr w2):=bstep (upB) (Nat.le_refl _) hq2;have hz2:=HB2.out.size;clear hq2;have ho2:=owns_below O.out.1 HB2.out)
        | (at_builtin;refine wpList_append_own _ rfl _ _ 31 rfl w.heap.size 9 i0 (.string ByteArray.empty) 1 16 Tryz.underlying31 hi hz0 hz1 hz2' rfl (by decide) _ _ _ rfl (ho2.alloc _) ⟨w2.heap.size,0,none⟩ 1 1 [.string t] rfl rfl ?c1 ?c2 ?c3 ?c4 ?c5 ?_)
        | go_in)
      case c1 =>
        intro j u hj;match j,hj with
        | 0,hj=>simp at hj;subst hj;simp[Addr.add]
      case c2=>intro u hu;simp at hu;subst hu;rfl
      case c3=>unfold maxLen;omega
      case c4=>omega
      case c5=>simp;omega
      intro v4 w4 ho4 hg4 _;have hlow:Below w.heap.size w w4:=(((O.out.2.trans (HB2.out.mono hz)).alloc (om) _)).grown hg4 (by simp;omega) (fun r hr=>(ho2.lt r hr).1)
      have HN:Hid (w4.ownsRow w.heap.size 9 1 v4 (m+1) (upS T (m+1))/\Below w.heap.size w w4):=⟨by rw[upS_next,<- hl5.out,HM.out,<- ht.out,<- HM.out];exact ho4,hlow⟩
      clear ho4 hg4 hlow ho2;go_wp2;go_roundw
      case rel=>exact⟨j+1,by omega,by go_num,by have h:=HN.out;rw[HM.out] at h;exact h⟩
      case measure=>simp[intOf];omega
    . obtain rfl:n1=j:=by omega
      have hkm:¬(n1:Int)<(n1:Int):=by omega
      obtain⟨m1,hm1⟩:∃ m,m=0+n1:=⟨_,rfl⟩
      rw[<- hm1] at O ⊢;have O1:Hid (wr.ownsRow w.heap.size 9 1 (.slice b4 m1 c4) (n1+0) (upS T (n1+0))/\Below w.heap.size w wr):=by
        have h:=O.out;rw[show n1+0=m1 by omega];exact h
      have kx:wr.cell? ⟨x,1,none⟩=some (.slice b2 n2 c2):=(O.out.2.cell (p:=⟨x,1,none⟩) hx).trans d1
      clear O hn4 hm4 hj hlt hm1;go_wp2;go_loopw [3,7,31] (fun v _ i wr=>∃ j:Nat,j<=n2/\i=.int .i64 j/\Hid (wr.ownsRow w.heap.size 9 1 v (n1+j) (upS T (n1+j))/\Below w.heap.size w wr)) (fun _ _ i _=>n2-(intOf i).toNat)
      case atStart=>exact⟨0,Nat.zero_le _,rfl,O1⟩
      case round =>
        obtain⟨j,hj,rfl,O⟩:=hrel;obtain⟨b4,c4,rfl,hn4,hm4⟩:=owns_slice O.out.1;by_cases hlt:j<n2
        . obtain⟨g,rfl,k0,k1,k2⟩:=hr2.out wr O.out.2 j hlt;have hcall:=HT2.out j hlt;generalize P2 j=y at k0 k1 k2 hcall
          obtain⟨t,ht⟩:∃ t,t=T (n1+j):=⟨_,rfl⟩
          rw[<- ht] at hcall;replace hcall:Hid _:=hcall;replace ht:Hid _:=ht;obtain⟨m,hm⟩:∃ m,m=n1+j:=⟨_,rfl⟩
          rw[<- hm] at O hn4 ⊢;have hm6:m<=10000:=by omega
          have HM:Hid (m=n1+j):=hm
          obtain⟨l5,hl5⟩:∃ l5,l5=upS T m:=⟨_,rfl⟩
          rw[<- hl5] at O;replace hl5:Hid _:=hl5;have hltz:(j:Int)<(n2:Int):=by omega
          have hz:=O.out.2.size;clear hm;go_wp2_with (first
            | (go_at_call 150;refine(hcall.out _ (by have hp:=O.out.2;exact upB)).mono ?_;rintro e w2 ⟨rfl,hq2⟩;have HB2:Hid (Below wr.heap.size wr w2):=bstep (upB) (Nat.le_refl _) hq2;have hz2:=HB2.out.size;clear hq2;have ho2:=owns_below O.out.1 HB2.out)
            | (at_builtin;refine wpList_append_own _ rfl _ _ 31 rfl w.heap.size 9 i0 (.string ByteArray.empty) 1 16 Tryz.underlying31 hi hz0 hz1 hz2' rfl (by decide) _ _ _ rfl (ho2.alloc _) ⟨w2.heap.size,0,none⟩ 1 1 [.string t] rfl rfl ?c1 ?c2 ?c3 ?c4 ?c5 ?_)
            | go_in)
          case c1 =>
            intro j u hj;match j,hj with
            | 0,hj=>simp at hj;subst hj;simp[Addr.add]
          case c2=>intro u hu;simp at hu;subst hu;rfl
          case c3=>unfold maxLen;omega
          case c4=>omega
          case c5=>simp;omega
          intro v4 w4 ho4 hg4 _;have hlow:Below w.heap.size w w4:=(((O.out.2.trans (HB2.out.mono hz)).alloc (om) _)).grown hg4 (by simp;omega) (fun r hr=>(ho2.lt r hr).1)
          have HN:Hid (w4.ownsRow w.heap.size 9 1 v4 (m+1) (upS T (m+1))/\Below w.heap.size w w4):=⟨by rw[upS_next,<- hl5.out,HM.out,<- ht.out,<- HM.out];exact ho4,hlow⟩
          clear ho4 hg4 hlow ho2;go_wp2;go_roundw
          case rel=>exact⟨j+1,by omega,by go_num,by have h:=HN.out;rw[HM.out] at h;exact h⟩
          case measure=>simp[intOf];omega
        . obtain rfl:n2=j:=by omega
          have hkm:¬(n2:Int)<(n2:Int):=by omega
          obtain⟨m2,hm2⟩:∃ m,m=n1+n2:=⟨_,rfl⟩
          rw[<- hm2] at O ⊢;have O2:Hid (wr.ownsRow w.heap.size 9 1 (.slice b4 m2 c4) ((n1+n2)+0) (upS T ((n1+n2)+0))/\Below w.heap.size w wr):=by
            have h:=O.out;rw[show (n1+n2)+0=m2 by omega];exact h
          have kx:wr.cell? ⟨x,2,none⟩=some (.slice b3 n3 c3):=(O.out.2.cell (p:=⟨x,2,none⟩) hx).trans d2
          clear O hn4 hm4 hj hlt hm2;go_wp2;go_loopw [3,9,47] (fun v _ i wr=>∃ j:Nat,j<=n3/\i=.int .i64 j/\Hid (wr.ownsRow w.heap.size 9 1 v ((n1+n2)+j) (upS T ((n1+n2)+j))/\Below w.heap.size w wr)) (fun _ _ i _=>n3-(intOf i).toNat)
          case atStart=>exact⟨0,Nat.zero_le _,rfl,O2⟩
          case round =>
            obtain⟨j,hj,rfl,O⟩:=hrel;obtain⟨b4,c4,rfl,hn4,hm4⟩:=owns_slice O.out.1;by_cases hlt:j<n3
            . obtain⟨g,rfl,k0,k1⟩:=hr3.out wr O.out.2 j hlt;have hcall:=HT3.out j hlt;generalize P3 j=y at k0 k1 hcall
              obtain⟨t,ht⟩:∃ t,t=T ((n1+n2)+j):=⟨_,rfl⟩
              rw[<- ht] at hcall;replace hcall:Hid _:=hcall;replace ht:Hid _:=ht;obtain⟨m,hm⟩:∃ m,m=(n1+n2)+j:=⟨_,rfl⟩
              rw[<- hm] at O hn4 ⊢;have hm6:m<=10000:=by omega
              have HM:Hid (m=(n1+n2)+j):=hm
              obtain⟨l5,hl5⟩:∃ l5,l5=upS T m:=⟨_,rfl⟩
              rw[<- hl5] at O;replace hl5:Hid _:=hl5;have hltz:(j:Int)<(n3:Int):=by omega
              have hz:=O.out.2.size;clear hm;go_wp2_with (first
                | (go_at_call 151;refine(hcall.out _ (by have hp:=O.out.2;exact upB)).mono ?_;rintro e w2 ⟨rfl,hq2⟩;have HB2:Hid (Below wr.heap.size wr w2):=bstep (upB) (Nat.le_refl _) hq2;have hz2:=HB2.out.size;clear hq2;have ho2:=owns_below O.out.1 HB2.out)
                | (at_builtin;refine wpList_append_own _ rfl _ _ 31 rfl w.heap.size 9 i0 (.string ByteArray.empty) 1 16 Tryz.underlying31 hi hz0 hz1 hz2' rfl (by decide) _ _ _ rfl (ho2.alloc _) ⟨w2.heap.size,0,none⟩ 1 1 [.string t] rfl rfl ?c1 ?c2 ?c3 ?c4 ?c5 ?_)
                | go_in)
              case c1 =>
                intro j u hj;match j,hj with
                | 0,hj=>simp at hj;subst hj;simp[Addr.add]
              case c2=>intro u hu;simp at hu;subst hu;rfl
              case c3=>unfold maxLen;omega
              case c4=>omega
              case c5=>simp;omega
              intro v4 w4 ho4 hg4 _;have hlow:Below w.heap.size w w4:=(((O.out.2.trans (HB2.out.mono hz)).alloc (om) _)).grown hg4 (by simp;omega) (fun r hr=>(ho2.lt r hr).1)
              have HN:Hid (w4.ownsRow w.heap.size 9 1 v4 (m+1) (upS T (m+1))/\Below w.heap.size w w4):=⟨by rw[upS_next,<- hl5.out,HM.out,<- ht.out,<- HM.out];exact ho4,hlow⟩
              clear ho4 hg4 hlow ho2;go_wp2;go_roundw
              case rel=>exact⟨j+1,by omega,by go_num,by have h:=HN.out;rw[HM.out] at h;exact h⟩
              case measure=>simp[intOf];omega
            . obtain rfl:n3=j:=by omega
              have hkm:¬(n3:Int)<(n3:Int):=by omega
              go_wp2;go_ret;exact⟨_,rfl,O.out.1,O.out.2⟩
theorem range_mapC {α:Type} (f:List UInt8->α) (l:List (List UInt8)):(List.range l.length).map (fun j=>f (l.getD j []))=l.map f:=by
  apply List.ext_getElem?
  intro i;by_cases h:i<l.length
  . rw[List.getElem?_map,List.getElem?_map,List.getElem?_range h];simp[List.getD_eq_getElem?_getD,List.getElem?_eq_getElem h]
  . rw[List.getElem?_eq_none (by simp;omega),List.getElem?_eq_none (by simp;omega)]
theorem getD_mapC {α β:Type} (f:α->β) (l:List α) (d:α) (e:β) (i:Nat) (h:i<l.length):(l.map f).getD i e=f (l.getD i d):=by
  simp[List.getD_eq_getElem?_getD,List.getElem?_eq_getElem h]
theorem getD_app1 {α:Type} (a b:List α) (d:α) (i:Nat) (h:i<a.length):(a++b).getD i d=a.getD i d:=by
  rw[List.getD_eq_getElem?_getD,List.getD_eq_getElem?_getD,List.getElem?_append_left h]
theorem getD_app2 {α:Type} (a b:List α) (d:α) (i:Nat) (h:a.length<=i):(a++b).getD i d=b.getD (i-a.length) d:=by
  rw[List.getD_eq_getElem?_getD,List.getD_eq_getElem?_getD,List.getElem?_append_right h]
theorem pick_row (s:Bk):upS (fun j=>byt ((rowsC s).getD j [])) (s.pools.length+s.nets.length+s.leases.length)=(rowsC s).map fun r=>Value.string (byt r):=by
  have e:s.pools.length+s.nets.length+s.leases.length=(rowsC s).length:=by unfold rowsC;simp;omega
  rw[e];unfold upS;exact range_mapC (fun r=>Value.string (byt r)) (rowsC s)
theorem comm_any (x:Nat) (w:World) (s:Bk) (vp vn vl:Value) (E:EnvT w) (hI:Inv s) (hb:Blk w x #[vp,vn,vl] 160) (rp:Rd 3 encH hd0 w vp s.pools) (rn:Rd 3 encH hd0 w vn s.nets) (rl:Rd 2 encL ls0 w vl s.leases) :
    Calls Tryz.prog 102 #[.pointer (some ⟨x,0,none⟩)] w fun e w'=>∃ v,e=.returned v/\w'.ownsRow w.heap.size 9 1 v (rowsC s).length ((rowsC s).map fun r=>Value.string (byt r))/\Below w.heap.size w w':=by
  obtain⟨b1,c1,rfl,_,_,q1⟩:=rp;obtain⟨b2,c2,rfl,_,_,q2⟩:=rn;obtain⟨b3,c3,rfl,_,_,q3⟩:=rl;have i1:=hI.p;have i2:=hI.n;have i3:=hI.l;have h:=comm_at x w b1 b2 b3 s.pools.length c1 s.nets.length c2 s.leases.length c3 (fun j=>s.pools.getD j hd0) (fun j=>s.nets.getD j hd0) (fun j=>s.leases.getD j ls0) (fun j=>byt ((rowsC s).getD j [])) (om) (om) (om) hb.lt (hb.cell 0) (hb.cell 1) (hb.cell 2)
    (fun W hW j hj=>by
      obtain⟨g,hg,hlt,hc⟩:=q1 (by intro e;rw[e] at hj;simp at hj)
      have hc:=hc j hj;exact⟨g,hg,(hW.cell (p:=⟨g,j*3,none⟩) hlt).trans (hc 0 _ rfl),(hW.cell (p:=⟨g,j*3+1,none⟩) hlt).trans (hc 1 _ rfl),(hW.cell (p:=⟨g,j*3+2,none⟩) hlt).trans (hc 2 _ rfl)⟩)
    (fun j hj Wc hW=>by
      obtain⟨a1,a2,_,_,a3⟩:=hI.pa _ (getD_mem hd0 hj)
      have h:=hcmd_any 0 (.inl rfl) (s.pools.getD j hd0) Wc (E.mono hW) a1 a2 a3
      have e:(rowsC s).getD (0+j) []=cmdL 0 xT (s.pools.getD j hd0).o.data.toList (bText (s.pools.getD j hd0).a (s.pools.getD j hd0).n):=by
        unfold rowsC;rw[Nat.zero_add,List.append_assoc,getD_app1 _ _ _ _ (by simpa using hj),getD_mapC rowP s.pools hd0 _ j hj];rfl
      show Calls _ _ _ _ fun e w'=>e=.returned (.string (byt ((rowsC s).getD (0+j) [])))/\_
      rw[e];exact h)
    (fun W hW j hj=>by
      obtain⟨g,hg,hlt,hc⟩:=q2 (by intro e;rw[e] at hj;simp at hj)
      have hc:=hc j hj;exact⟨g,hg,(hW.cell (p:=⟨g,j*3,none⟩) hlt).trans (hc 0 _ rfl),(hW.cell (p:=⟨g,j*3+1,none⟩) hlt).trans (hc 1 _ rfl),(hW.cell (p:=⟨g,j*3+2,none⟩) hlt).trans (hc 2 _ rfl)⟩)
    (fun j hj Wc hW=>by
      obtain⟨a1,a2,_,a3⟩:=hI.na _ (getD_mem hd0 hj)
      have h:=hcmd_any 3 (.inr rfl) (s.nets.getD j hd0) Wc (E.mono hW) a1 a2 a3
      have e:(rowsC s).getD (s.pools.length+j) []=cmdL 3 xT (s.nets.getD j hd0).o.data.toList (bText (s.nets.getD j hd0).a (s.nets.getD j hd0).n):=by
        unfold rowsC;rw[List.append_assoc,getD_app2 _ _ _ _ (by simp),show s.pools.length+j-(s.pools.map rowP).length=j by simp,getD_app1 _ _ _ _ (by simpa using hj),getD_mapC rowN s.nets hd0 _ j hj];rfl
      show Calls _ _ _ _ fun e w'=>e=.returned (.string (byt ((rowsC s).getD (s.pools.length+j) [])))/\_
      rw[e];exact h)
    (fun W hW j hj=>by
      obtain⟨g,hg,hlt,hc⟩:=q3 (by intro e;rw[e] at hj;simp at hj)
      have hc:=hc j hj;exact⟨g,hg,(hW.cell (p:=⟨g,j*2,none⟩) hlt).trans (hc 0 _ rfl),(hW.cell (p:=⟨g,j*2+1,none⟩) hlt).trans (hc 1 _ rfl)⟩)
    (fun j hj Wc hW=>by
      obtain⟨a1,a3⟩:=hI.la _ (getD_mem ls0 hj)
      have h:=lcmd_any (s.leases.getD j ls0) Wc (E.mono hW) a1 a3
      have e:(rowsC s).getD (s.pools.length+s.nets.length+j) []=rowL (s.leases.getD j ls0):=by
        unfold rowsC;rw[getD_app2 _ _ _ _ (by simp),show s.pools.length+s.nets.length+j-(s.pools.map rowP++s.nets.map rowN).length=j by simp,getD_mapC rowL s.leases ls0 _ j hj]
      show Calls _ _ _ _ fun e w'=>e=.returned (.string (byt ((rowsC s).getD (s.pools.length+s.nets.length+j) [])))/\_
      rw[e];exact h)
  rw[pick_row] at h;have e:s.pools.length+s.nets.length+s.leases.length=(rowsC s).length:=by unfold rowsC;simp;omega
  rw[e] at h;exact h
set_option maxRecDepth 100000 in
set_option maxHeartbeats 2000000 in
theorem swr_go (x c:Nat) (w:World) (n1 n2:Nat) (R L A:Nat->ByteArray) (Q1 Q2:Value->Nat->World->Prop) (F:Ending->World->Prop) (h1:n1<=1000) (h2:n2<=1000)
    (hR:∀ k,(R k).size<=1000) (hL:∀ k,(L k).size<=1000) (hA:∀ k,(A k).size<=1000)
    (V1:Hid (∀ v k W,Q1 v k W->∃ b cap,v=.slice b n1 cap/\(k<n1->∃ g,b=some ⟨g,0,none⟩/\W.cell? ⟨g,k,none⟩=some (.string (R k)))))
    (C1:Hid (∀ v k W,Q1 v k W->W.cell? ⟨w.heap.size,0,none⟩=some (.chan (some c))))
    (V2:Hid (∀ v k W,Q2 v k W->∃ b cap,v=.slice b n2 cap/\(k<n2->∃ g u,b=some ⟨g,0,none⟩/\W.cell? ⟨g,k*3,none⟩=some (.string u)/\W.cell? ⟨g,k*3+1,none⟩=some (.string (L k))/\W.cell? ⟨g,k*3+2,none⟩=some (.string (A k)))))
    (A2:Hid (∀ v k W o,Q2 v k W->Q2 v k (W.alloc o)))
    (HC:Hid (Calls Tryz.prog 102 #[.pointer (some ⟨x,0,none⟩)] ((w.alloc (.cells #[.chan (some c)] 88)).alloc (.cells #[.pointer none,.slice none 0 0] 139)) fun e w'=>∃ v,e=.returned v/\Q1 v 0 w'))
    (HW1:Hid (∀ v k W,Q1 v k W->k<n1->Calls Tryz.prog 62 #[.pointer (some ⟨w.heap.size+1,0,none⟩),.string (R k++⟨#[10]⟩)] W fun e w'=>(∃ r,e=.returned r)/\Q1 v (k+1) w'))
    (HA:Hid (∀ v W,Q1 v n1 W->Calls Tryz.prog 95 #[.agg #[.chan (some c)]] W fun e w'=>∃ v,e=.returned v/\Q2 v 0 w'))
    (HW2:Hid (∀ v k W,Q2 v k W->k<n2->Calls Tryz.prog 62 #[.pointer (some ⟨w.heap.size+1,0,none⟩),.string (L k++⟨#[61]⟩++A k++⟨#[10]⟩)] W fun e w'=>(∃ r,e=.returned r)/\Q2 v (k+1) w'))
    (HS:Hid (∀ v W,Q2 v n2 W->Calls Tryz.prog 63 #[.pointer (some ⟨w.heap.size+1,0,none⟩)] W fun e w'=>∃ t,e=.returned (.string t)/\F (.returned (.string t)) w')) :
    Calls Tryz.prog 68 #[.pointer (some ⟨x,0,none⟩),.agg #[.chan (some c)]] w F:=by
  replace HC:Hid (Calls Tryz.prog 102 #[.pointer (some ⟨x,0,none⟩)] ((w.alloc (.cells #[.chan (some c)] 88)).alloc (.cells #[.pointer none,.slice none 0 0] 139)) fun e w'=>∃ b cap,e=.returned (.slice b n1 cap)/\Hid (Q1 (.slice b n1 cap) 0 w')):=by
    refine HC.out.mono ?_
    rintro e w' ⟨v,rfl,h⟩
    obtain⟨b,cap,rfl,_⟩:=V1.out _ _ _ h;exact⟨b,cap,rfl,h⟩
  replace HA:Hid (∀ v W,Q1 v n1 W->Calls Tryz.prog 95 #[.agg #[.chan (some c)]] W fun e w'=>∃ b cap,e=.returned (.slice b n2 cap)/\Hid (Q2 (.slice b n2 cap) 0 w')):=fun v W hW=>by
    refine(HA.out v W hW).mono ?_
    rintro e w' ⟨v,rfl,h⟩
    obtain⟨b,cap,rfl,_⟩:=V2.out _ _ _ h;exact⟨b,cap,rfl,h⟩
  replace hR:Hid (∀ k,(R k).size<=1000):=hR;replace hL:Hid (∀ k,(L k).size<=1000):=hL;replace hA:Hid (∀ k,(A k).size<=1000):=hA;go_enter Tryz.func68,Tryz.ntmps68
  go_wp2_with (go_at_call 102;refine HC.out.mono ?_;rintro e w1 ⟨b1,cap1,rfl,q1⟩)
  go_loopw [7,13] (fun _ i wr=>∃ k:Nat,k<=n1/\i=.int .i64 k/\Hid (Q1 (.slice b1 n1 cap1) k wr)) (fun _ i _=>n1-(intOf i).toNat)
  case atStart=>exact⟨0,Nat.zero_le _,rfl,q1⟩
  case round =>
    obtain⟨k,hk,rfl,H⟩:=hrel;by_cases hlt:k<n1
    . obtain⟨b,cap,e0,hv⟩:=V1.out _ _ _ H.out
      cases e0;obtain⟨g,rfl,d0⟩:=hv hlt;have hw:=HW1.out _ _ _ H.out hlt;have hs:=hR.out k;generalize R k=t at d0 hw hs
      replace hw:Hid (Calls Tryz.prog 62 #[.pointer (some ⟨w.heap.size+1,0,none⟩),.string (t++⟨#[10]⟩)] wr fun e w'=>(∃ r,e=.returned r)/\Q1 (.slice (some ⟨g,0,none⟩) n1 cap1) (k+1) w'):=hw
      have hs1:¬9223372036854775807<t.size+1:=by omega
      have hltz:(k:Int)<(n1:Int):=by omega
      go_wp2_with (go_at_call 62;refine hw.out.mono ?_;rintro e w2 ⟨⟨r,rfl⟩,q2⟩;replace q2:Hid (Q1 (.slice (some ⟨g,0,none⟩) n1 cap1) (k+1) w2):=q2)
      go_roundw
      case rel=>exact⟨k+1,by omega,by go_num,q2⟩
      case measure=>simp[intOf];omega
    . obtain rfl:n1=k:=by omega
      have hkm:¬(n1:Int)<(n1:Int):=by omega
      have d0:=C1.out _ _ _ H.out;have ha:=HA.out _ _ H.out;replace ha:Hid (Calls Tryz.prog 95 #[.agg #[.chan (some c)]] wr fun e w'=>∃ b cap,e=.returned (.slice b n2 cap)/\Hid (Q2 (.slice b n2 cap) 0 w')):=ha
      clear hk hlt;go_wp2_with (go_at_call 95;refine ha.out.mono ?_;rintro e w3 ⟨b2,cap2,rfl,q3⟩)
      go_loopw [9,24] (fun _ i wr=>∃ k:Nat,k<=n2/\i=.int .i64 k/\Hid (Q2 (.slice b2 n2 cap2) k wr)) (fun _ i _=>n2-(intOf i).toNat)
      case atStart=>exact⟨0,Nat.zero_le _,rfl,q3⟩
      case round =>
        obtain⟨k,hk,rfl,H⟩:=hrel;by_cases hlt:k<n2
        . obtain⟨b,cap,e0,hv⟩:=V2.out _ _ _ H.out
          cases e0;obtain⟨g,u,rfl,d0,d1,d2⟩:=hv hlt;have hw:=fun o=>HW2.out _ _ _ (A2.out _ _ _ o H.out) hlt
          have hs:=hL.out k;have hs':=hA.out k;generalize L k=t at d1 hw hs
          generalize A k=t' at d2 hw hs'
          replace hw:Hid (∀ o,Calls Tryz.prog 62 #[.pointer (some ⟨w.heap.size+1,0,none⟩),.string (t++⟨#[61]⟩++t'++⟨#[10]⟩)] (wr.alloc o) fun e w'=>(∃ r,e=.returned r)/\Q2 (.slice (some ⟨g,0,none⟩) n2 cap2) (k+1) w'):=hw
          have hs1:¬9223372036854775807<t.size+1:=by omega
          have hs2:¬9223372036854775807<t.size+1+t'.size:=by omega
          have hs3:¬9223372036854775807<t.size+1+t'.size+1:=by omega
          have hltz:(k:Int)<(n2:Int):=by omega
          go_wp2_with (go_at_call 62;refine(hw.out _).mono ?_;rintro e w2 ⟨⟨r,rfl⟩,q2⟩;replace q2:Hid (Q2 (.slice (some ⟨g,0,none⟩) n2 cap2) (k+1) w2):=q2)
          go_roundw
          case rel=>exact⟨k+1,by omega,by go_num,q2⟩
          case measure=>simp[intOf];omega
        . obtain rfl:n2=k:=by omega
          have hkm:¬(n2:Int)<(n2:Int):=by omega
          have hs:=HS.out _ _ H.out;replace hs:Hid (Calls Tryz.prog 63 #[.pointer (some ⟨w.heap.size+1,0,none⟩)] wr fun e w'=>∃ t,e=.returned (.string t)/\F (.returned (.string t)) w'):=hs
          go_wp2_with (go_at_call 63;refine hs.out.mono ?_;rintro e w5 ⟨t,rfl,hf⟩;replace hf:Hid (F (.returned (.string t)) w5):=hf)
          exact hf.out
end Go.Proofs.YtjnhhnbgjjkkjaaGreatDoor
