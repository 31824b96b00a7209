/-
  BkTw, BkTa, BkOw, BkKt, BkKn, BkAw
-/
import Derived.Test.YtjnhhnbgjjkkjaaGreatDoorBesidesPAA
import Derived.Test.YtjnhhnbgjjkkjaaGreatDoorBesidesPBP
import Derived.Test.YtjnhhnbgjjkkjaaGreatDoorBesidesPAD
import Derived.Test.YtjnhhnbgjjkkjaaGreatDoorBesidesPBA
namespace Go.Proofs.YtjnhhnbgjjkkjaaGreatDoor
open Go.Conc Go.ChangeShapes Go.WideShapes Go.ChangeAt Go.RowKit
set_option linter.unusedVariables false
set_option linter.unusedSimpArgs false
theorem owns_other {W W':World} {B B':Nat} {t t':TypeId} {k k':Nat} {v v':Value} {n n':Nat} {xs xs':List Value} (h:W.ownsRow B t k v n xs) (h':W.ownsRow B' t' k' v' n' xs') (ht:t≠t') (g:W.grownBy W' v'.ownBlock):W'.ownsRow B t k v n xs :=
  owns_same h fun b e=>by
    obtain⟨b1,c1,e1⟩:=owns_lt h b e;refine g.block b b1 fun q=>?_
    obtain⟨_,c2,e2⟩:=owns_lt h' b q.symm;rw[e1] at e2;injection e2 with e2
    injection e2 with _ e3 _
    exact ht e3
theorem owns_ent {W:World} {B:Nat} {t:TypeId} {v:Value} {l:List (List UInt8×List UInt8)} (h:W.ownsRow B t 2 v l.length (l.flatMap encE)) (k:Nat) (hk:k<l.length):∃ g cap,v=.slice (some ⟨g,0,none⟩) l.length cap/\W.cell? ⟨g,k*2,none⟩=some (.string (bs (l.getD k ([],[])).1)):=by
  obtain⟨b,cap,rfl,_,_,h3⟩:=Rd.of_owns (k:=2) (enc:=encE) (fun _=>rfl) ([],[]) h
  obtain⟨g,rfl,_,h4⟩:=h3 (by intro q;rw[q] at hk;simp at hk)
  have:=h4 k hk 0 _ rfl
  exact⟨g,cap,rfl,this⟩
def strV (F:List ByteArray):List Value:=F.map Value.string
theorem strV_snoc (F:List ByteArray) (s:ByteArray):strV (F++[s])=strV F++[.string s]:=by unfold strV;simp
def tolG (N:Nat->ByteArray) (n:Nat->Nat) (U:Nat->Nat->ByteArray) (i:Nat):List ByteArray:=N i::(List.range (n i)).map (U i)
def tolF (P0:ByteArray) (N:Nat->ByteArray) (n:Nat->Nat) (U:Nat->Nat->ByteArray) (k:Nat):List ByteArray:=P0::(List.range k).flatMap (tolG N n U)
theorem tolF_len (P0:ByteArray) (N:Nat->ByteArray) (n:Nat->Nat) (U:Nat->Nat->ByteArray) (h:∀ i,n i<=10000) (k:Nat):(tolF P0 N n U k).length<=1+k*10001:=by
  induction k with
  | zero=>simp[tolF]
  | succ k ih =>
    unfold tolF tolG at *
    rw[List.range_succ,List.flatMap_append];have:=h k
    simp at ih ⊢
    omega
theorem tolF_next (P0:ByteArray) (N:Nat->ByteArray) (n:Nat->Nat) (U:Nat->Nat->ByteArray) (k:Nat):tolF P0 N n U (k+1)=tolF P0 N n U k++[N k]++(List.range (n k)).map (U k):=by
  unfold tolF tolG;rw[List.range_succ,List.flatMap_append];simp
set_option maxRecDepth 100000 in
set_option maxHeartbeats 1000000 in
theorem told_go (x:Nat) (I:World->Prop) (hI:Hid (∀ W W',I W->Below W.heap.size W W'->I W')) (w:World) (h:Hid (I w)) (P0:ByteArray) (p:List (List UInt8×List UInt8)) (N:Nat->ByteArray) (n:Nat->List (List UInt8×List UInt8)) (U:Nat->Nat->ByteArray) (lp:Nat) (hp:Hid (lp=p.length)) (hp6:lp<=10000) (hn6:Hid (∀ i,(n i).length<=10000)) (hs6:Hid (∀ i,((p.getD i ([],[])).1).length<=1000)) (ht6:Hid (∀ i j,(((n i).getD j ([],[])).1).length<=1000))
    (HA:Hid (∀ W,I W->Calls Tryz.prog 16 #[.pointer (some ⟨x,0,none⟩),.string ⟨#[80,79,79,76,83]⟩] W fun e w'=>e=.returned (.string P0)/\Below W.heap.size W w'))
    (HN:Hid (∀ i,i<lp->∀ W,I W->Calls Tryz.prog 16 #[.pointer (some ⟨x,0,none⟩),.string (⟨#[78,69,84,83,32]⟩++bs (p.getD i ([],[])).1)] W fun e w'=>e=.returned (.string (N i))/\Below W.heap.size W w'))
    (HU:Hid (∀ i,i<lp->∀ j,j<(n i).length->∀ W,I W->Calls Tryz.prog 16 #[.pointer (some ⟨x,0,none⟩),.string (⟨#[85,83,69,68,32]⟩++bs ((n i).getD j ([],[])).1)] W fun e w'=>e=.returned (.string (U i j))/\Below W.heap.size W w'))
    (HE0:Hid (∀ W,Calls Tryz.prog 35 #[.string P0] W fun e w'=>∃ b c,e=.returned (.tuple #[.slice b lp c,.bool true])/\w'.ownsRow W.heap.size 78 2 (.slice b lp c) p.length (p.flatMap encE)/\Below W.heap.size W w'))
    (HE1:Hid (∀ i,i<lp->∀ W,Calls Tryz.prog 35 #[.string (N i)] W fun e w'=>∃ b c,e=.returned (.tuple #[.slice b (n i).length c,.bool true])/\w'.ownsRow W.heap.size 78 2 (.slice b (n i).length c) (n i).length ((n i).flatMap encE)/\Below W.heap.size W w'))
    (HE2:Hid (∀ i,i<lp->∀ j,j<(n i).length->∀ W,Calls Tryz.prog 35 #[.string (U i j)] W fun e w'=>∃ v,e=.returned (.tuple #[v,.bool true])/\Below W.heap.size W w')) :
    Calls Tryz.prog 13 #[.pointer (some ⟨x,0,none⟩)] w fun e w'=>∃ v,e=.returned (.tuple #[v,.bool true])/\w'.ownsRow w.heap.size 9 1 v (tolF P0 N (fun i=>(n i).length) U lp).length (strV (tolF P0 N (fun i=>(n i).length) U lp))/\Below w.heap.size w w':=by
  obtain⟨i0,hi,hz0,hz1,hz2⟩:=info_parts infoStr;obtain⟨F,hF⟩:∃ F,F=tolF P0 N (fun i=>(n i).length) U:=⟨_,rfl⟩
  have hFl:Hid (∀ k,k<=lp->(F k).length<=200000000):=fun k hk=>by
    have:=tolF_len P0 N (fun i=>(n i).length) U hn6.out k
    rw[hF];omega
  have hFn:Hid (∀ k,F (k+1)=F k++[N k]++(List.range (n k).length).map (U k)):=fun k=>by rw[hF];exact tolF_next _ _ _ _ _
  have hF0:Hid (F 0=[P0]):=by rw[hF];rfl
  rw[<- hF];clear hF;go_enter Tryz.func13,Tryz.ntmps13
  go_wp2_with (first|(go_at_call 16;refine(HA.out _ h.out).mono ?_;rintro e w1 ⟨rfl,hq1⟩;replace hq1:Hid (Below w.heap.size w w1):=hq1)|(go_at_call 35;refine(HE0.out _).mono ?_;rintro e w2 ⟨b,c,rfl,hr2,hq2⟩;replace hr2:Hid _:=hr2;replace hq2:Hid _:=hq2))
  have hz:w.heap.size<=w1.heap.size:=hq1.out.size
  have ho1:(w1.alloc (.cells #[.string P0] 9)).ownsRow w.heap.size 9 1 (.slice (some ⟨w1.heap.size,0,none⟩) 1 1) (F 0).length (strV (F 0)):=by
    rw[hF0.out];exact⟨rfl,.inr ⟨w1.heap.size,1,#[.string P0],rfl,hz,heap_alloc_new w1 _,Nat.le_refl _,by decide,rfl,rfl⟩⟩
  have hb1:Below w.heap.size w (w1.alloc (.cells #[.string P0] 9)):=hq1.out.alloc hz _
  have HS:Hid (w2.ownsRow w.heap.size 9 1 (.slice (some ⟨w1.heap.size,0,none⟩) 1 1) (F 0).length (strV (F 0))/\w2.ownsRow w.heap.size 78 2 (.slice b lp c) p.length (p.flatMap encE)/\Below w.heap.size w w2/\I w2) :=
    ⟨owns_below ho1 hq2.out,owns_mono hr2.out hb1.size,hb1.trans (hq2.out.mono hb1.size),hI.out _ _ h.out (hb1.trans (hq2.out.mono hb1.size))⟩
  clear ho1 hb1 hq2 hr2 hq1;go_loopw [5,7,8] (fun v ok i wr=>∃ (k:Nat),k<=lp/\ok=.bool true/\i=.int .i64 k/\Hid (wr.ownsRow w.heap.size 9 1 v (F k).length (strV (F k))/\wr.ownsRow w.heap.size 78 2 (.slice b lp c) p.length (p.flatMap encE)/\Below w.heap.size w wr/\I wr))
    (fun _ _ i _=>lp-(intOf i).toNat)
  case atStart=>exact⟨0,Nat.zero_le _,rfl,rfl,HS⟩
  case round =>
    clear HS hz;obtain⟨k,hk,rfl,rfl,H⟩:=hrel;by_cases hlt:k<lp
    . obtain⟨g,cap,hv,hc⟩:=owns_ent H.out.2.1 k (hp.out ▸ hlt)
      replace hv:=(Value.slice.inj hv).1
      subst hv;have hlt2:(k:Int)<(lp:Int):=by omega
      have hk0:(0:Int)<=(k:Int):=by omega
      obtain⟨A,hA⟩:∃ A,A=bs (p.getD k ([],[])).1:=⟨_,rfl⟩
      rw[<- hA] at hc;have HN':=HN.out k hlt;rw[<- hA] at HN';replace HN':Hid _:=HN';have HL:=hFl.out k hk;have hbz:=H.out.2.2.1.size;have hAz:A.size<=1000:=by rw[hA,bs_size];exact hs6.out k
      clear hA;go_wp2_with (first
        | (go_at_call 16;refine(HN'.out _ H.out.2.2.2).mono ?_;rintro e w3 ⟨rfl,hq3⟩;have hz3:=hq3.size;have ho3:=owns_below H.out.1 hq3;replace hq3:Hid (Below wr.heap.size wr w3):=hq3)
        | (at_builtin;refine wpList_append_own _ rfl _ _ 31 rfl w.heap.size 9 i0 (.string ByteArray.empty) 1 16 Tryz.underlying31 hi hz0 hz1 hz2 rfl (by decide) _ _ _ rfl (ho3.alloc _) ⟨w3.heap.size,0,none⟩ 1 1 [.string (N k)] rfl rfl ?c1 ?c2 ?c3 ?c4 ?c5 ?_)
        | go_in)
      case c1 =>
        intro j u hj;match j,hj with
        | 0,hj=>simp at hj;subst hj;simp[Addr.add]
      case c2=>intro u hu;simp at hu;subst hu;rfl
      case c3=>unfold maxLen;omega
      case c4=>omega
      case c5=>simp;omega
      intro v4 w4 ho4 hg4 _;have hent:w4.ownsRow w.heap.size 78 2 (.slice (some ⟨g,0,none⟩) lp c) p.length (p.flatMap encE):=owns_other ((owns_below H.out.2.1 hq3.out).alloc _) (ho3.alloc _) (by decide) hg4
      have hlow:Below w.heap.size w w4:=(((H.out.2.2.1.trans (hq3.out.mono hbz)).alloc om _)).grown hg4 (by simp;omega) (fun r hr=>(ho3.lt r hr).1)
      have ho5:w4.ownsRow w.heap.size 9 1 v4 (F k++[N k]).length (strV (F k++[N k])):=by rw[strV_snoc];simpa using ho4
      have HI4:Hid (I w4):=hI.out _ _ h.out hlow
      replace ho5:Hid _:=ho5;replace hent:Hid _:=hent;replace hlow:Hid _:=hlow;have hz4:=hg4.size;clear ho4 hg4 ho3 hc;go_wp2_with (first
        | (go_at_call 35;refine(HE1.out k hlt _).mono ?_;rintro e w5 ⟨b5,c5,rfl,hr5,hq5⟩;replace hr5:Hid _:=hr5;replace hq5:Hid _:=hq5)
        | go_in)
      obtain⟨G,hG⟩:∃ G:Nat->List ByteArray,G=fun m=>F k++[N k]++(List.range m).map (U k):=⟨_,rfl⟩
      obtain⟨ln,hln⟩:∃ ln,ln=(n k).length:=⟨_,rfl⟩
      have hln6:ln<=10000:=hln ▸ hn6.out k
      have HL2:Hid (∀ m,m<=ln->(G m).length<=300000000):=fun m hm=>by rw[hG];simp;omega
      have HG0:Hid (G 0=F k++[N k]):=show G 0=F k++[N k] by rw[hG];simp
      have HGn:Hid (∀ m,G (m+1)=G m++[U k m]):=fun m=>by rw[hG];simp[List.range_succ]
      have HGe:Hid (G ln=F (k+1)):=show G ln=F (k+1) by rw[hG,hFn.out k,hln]
      have HU':=HU.out k hlt;have HE2':=HE2.out k hlt;rw[<- hln] at HU' HE2';replace HU':Hid _:=HU';replace HE2':Hid _:=HE2';have ht6':Hid (∀ j,(((n k).getD j ([],[])).1).length<=1000):=ht6.out k
      have HS5:Hid (w5.ownsRow w.heap.size 9 1 v4 (G 0).length (strV (G 0))/\w5.ownsRow w.heap.size 78 2 (.slice (some ⟨g,0,none⟩) lp c) p.length (p.flatMap encE)/\w5.ownsRow w.heap.size 78 2 (.slice b5 (n k).length c5) (n k).length ((n k).flatMap encE)/\Below w.heap.size w w5/\I w5):=by
        have hb5:=hlow.out.trans (hq5.out.mono hlow.out.size)
        refine⟨?_,owns_below hent.out hq5.out,owns_mono hr5.out hlow.out.size,hb5,hI.out _ _ h.out hb5⟩
        rw[HG0.out];exact owns_below ho5.out hq5.out
      rw[<- hln] at HS5 ⊢;have HLN:Hid (ln=(n k).length):=hln
      clear hG hln ho5 hent hlow hq5 hr5 hq3 HI4 hz3 hz4 HL HN' hAz hbz H hlt2;go_loopw [5,7,12] (fun v ok i wr=>∃ (m:Nat),m<=ln/\ok=.bool true/\i=.int .i64 m/\Hid (wr.ownsRow w.heap.size 9 1 v (G m).length (strV (G m))/\wr.ownsRow w.heap.size 78 2 (.slice (some ⟨g,0,none⟩) lp c) p.length (p.flatMap encE)/\wr.ownsRow w.heap.size 78 2 (.slice b5 ln c5) ln ((n k).flatMap encE)/\Below w.heap.size w wr/\I wr))
        (fun _ _ i _=>ln-(intOf i).toNat)
      case atStart=>exact⟨0,Nat.zero_le _,rfl,rfl,HS5⟩
      case round =>
        clear HS5;obtain⟨m,hm,rfl,rfl,H⟩:=hrel;by_cases hmt:m<ln
        . obtain⟨g2,cap2,hv2,hc2⟩:∃ g2 cap2,Value.slice b5 ln c5=.slice (some ⟨g2,0,none⟩) (n k).length cap2/\wr.cell? ⟨g2,m*2,none⟩=some (.string (bs ((n k).getD m ([],[])).1)):=by
            have h7:=H.out.2.2.1;have h8:=hmt;have h9:=HLN.out;rw[h9] at h7 h8 ⊢;exact owns_ent h7 m h8
          replace hv2:=(Value.slice.inj hv2).1
          subst hv2;have hmt2:(m:Int)<(ln:Int):=by omega
          have hm0:(0:Int)<=(m:Int):=by omega
          obtain⟨A,hA⟩:∃ A,A=bs ((n k).getD m ([],[])).1:=⟨_,rfl⟩
          rw[<- hA] at hc2;have HU2:=HU'.out m hmt;rw[<- hA] at HU2;replace HU2:Hid _:=HU2;have HL:=HL2.out m hm;have hbz:=H.out.2.2.2.1.size;have hAz:A.size<=1000:=by rw[hA,bs_size];exact ht6'.out m
          clear hA;go_wp2_with (first
            | (go_at_call 16;refine(HU2.out _ H.out.2.2.2.2).mono ?_;rintro e w6 ⟨rfl,hq6⟩;have hz6:=hq6.size;have ho6:=owns_below H.out.1 hq6;replace hq6:Hid (Below wr.heap.size wr w6):=hq6)
            | (at_builtin;refine wpList_append_own _ rfl _ _ 31 rfl w.heap.size 9 i0 (.string ByteArray.empty) 1 16 Tryz.underlying31 hi hz0 hz1 hz2 rfl (by decide) _ _ _ rfl (ho6.alloc _) ⟨w6.heap.size,0,none⟩ 1 1 [.string (U k m)] rfl rfl ?c1 ?c2 ?c3 ?c4 ?c5 ?_)
            | go_in)
          case c1 =>
            intro j u hj;match j,hj with
            | 0,hj=>simp at hj;subst hj;simp[Addr.add]
          case c2=>intro u hu;simp at hu;subst hu;rfl
          case c3=>unfold maxLen;omega
          case c4=>omega
          case c5=>simp;omega
          intro v7 w7 ho7 hg7 _;have hent:w7.ownsRow w.heap.size 78 2 (.slice (some ⟨g,0,none⟩) lp c) p.length (p.flatMap encE):=owns_other ((owns_below H.out.2.1 hq6.out).alloc _) (ho6.alloc _) (by decide) hg7
          have hent2:w7.ownsRow w.heap.size 78 2 (.slice (some ⟨g2,0,none⟩) ln c5) ln ((n k).flatMap encE):=owns_other ((owns_below H.out.2.2.1 hq6.out).alloc _) (ho6.alloc _) (by decide) hg7
          have hlow:Below w.heap.size w w7:=(((H.out.2.2.2.1.trans (hq6.out.mono hbz)).alloc om _)).grown hg7 (by simp;omega) (fun r hr=>(ho6.lt r hr).1)
          have ho8:w7.ownsRow w.heap.size 9 1 v7 (G (m+1)).length (strV (G (m+1))):=by rw[HGn.out m,strV_snoc];simpa using ho7
          have HS8:Hid (w7.ownsRow w.heap.size 9 1 v7 (G (m+1)).length (strV (G (m+1)))/\w7.ownsRow w.heap.size 78 2 (.slice (some ⟨g,0,none⟩) lp c) p.length (p.flatMap encE)/\w7.ownsRow w.heap.size 78 2 (.slice (some ⟨g2,0,none⟩) ln c5) ln ((n k).flatMap encE)/\Below w.heap.size w w7):=⟨ho8,hent,hent2,hlow⟩
          have hz7:=hg7.size;clear ho7 hg7 ho6 hc2 hent hent2 hlow ho8;go_wp2_with (first
            | (go_at_call 35;refine(HE2'.out m hmt _).mono ?_;rintro e w8 ⟨v8,rfl,hq8⟩;replace hq8:Hid (Below w7.heap.size w7 w8):=hq8)
            | go_in)
          go_roundw
          case rel =>
            obtain⟨y1,y2,y3,y4⟩:=HS8.out;have hb8:=y4.trans (hq8.out.mono y4.size)
            exact⟨m+1,by omega,rfl,by go_num,owns_below y1 hq8.out,owns_below y2 hq8.out,owns_below y3 hq8.out,hb8,hI.out _ _ h.out hb8⟩
          case measure=>simp[intOf];omega
        . obtain rfl:m=ln:=by omega
          have hmt2:¬(m:Int)<(m:Int):=by omega
          go_wp2;go_roundw
          case rel=>exact⟨k+1,by omega,rfl,by go_num,HGe.out ▸ H.out.1,H.out.2.1,H.out.2.2.2⟩
          case measure=>simp[intOf];omega
    . obtain rfl:k=lp:=by omega
      have hlt2:¬(k:Int)<(k:Int):=by omega
      go_wp2;go_ret2
      exact⟨_,rfl,H.out.1,H.out.2.2.1⟩
def toldB (s:Bk):List ByteArray:=(toldS s).map bs
def entH (h:Hd):List UInt8×List UInt8:=(bText h.a h.n,h.o.data.toList)
theorem ansT_len (L:List (List UInt8)) (m:Nat) (h:∀ t,t∈L->t.length<=m):(ansT L).length<=2+L.length*(m+1):=by
  unfold ansT;rw[List.length_append];have:(L.flatMap fun t=>32::t).length<=L.length*(m+1):=by
    induction L with
    | nil=>simp
    | cons x r ih =>
      have h1:=h x (by simp)
      have h2:=ih fun t ht=>h t (by simp[ht])
      rw[List.flatMap_cons,List.length_append,List.length_cons,List.length_cons,Nat.succ_mul];omega
  simp only[List.length_cons,List.length_nil];omega
theorem arr_size (l:List UInt8):(⟨l.toArray⟩:ByteArray).size=l.length:=by simp[ByteArray.size]
theorem hT_len {s:Bk} (hI:Inv s) {h:Hd} (hh:h∈s.pools\/h∈s.nets):(hText h).length<=100:=by
  rw[<- arr_size];rcases hh with hh|hh
  . obtain⟨a1,a2,_,_,a5⟩:=hI.pa h hh;exact hText_len a1 a2 a5
  . obtain⟨a1,a2,_,a5⟩:=hI.na h hh;exact hText_len a1 a2 a5
theorem lT_len {s:Bk} (hI:Inv s) {h:Ls} (hh:h∈s.leases):(lText h).length<=100:=by
  rw[<- arr_size];obtain⟨a1,a5⟩:=hI.la h hh;exact lText_len a1 a5
theorem poolsT_len {s:Bk} (hI:Inv s):(poolsT s).length<=5000:=by
  have:=ansT_len (s.pools.map hText) 100 (fun t ht=>by obtain⟨h,hh,rfl⟩:=List.mem_map.1 ht;exact hT_len hI (.inl hh))
  have:=hI.p
  unfold poolsT;rw[List.length_map] at *;omega
theorem netsOf_len (l:List Hd) (a n:Int):(netsOf l a n).length<=l.length:=List.length_filter_le _ _
theorem leasesOf_len (l:List Ls) (a n:Int):(leasesOf l a n).length<=l.length:=List.length_filter_le _ _
theorem netsT_len {s:Bk} (hI:Inv s) (p:Hd):(netsT s p).length<=5000:=by
  have:=ansT_len ((netsOf s.nets p.a p.n).map hText) 100 (fun t ht=>by obtain⟨h,hh,rfl⟩:=List.mem_map.1 ht;exact hT_len hI (.inr (netsOf_sub hh)))
  have:=hI.n
  have:=netsOf_len s.nets p.a p.n
  unfold netsT;rw[List.length_map] at *;omega
theorem usedT_len {s:Bk} (hI:Inv s) (p:Hd):(usedT s p).length<=5000:=by
  have:=ansT_len ((leasesOf s.leases p.a p.n).map lText) 100 (fun t ht=>by obtain⟨h,hh,rfl⟩:=List.mem_map.1 ht;exact lT_len hI (leasesOf_sub hh))
  have:=hI.l
  have:=leasesOf_len s.leases p.a p.n
  unfold usedT;rw[List.length_map] at *;omega
theorem getD_map {α β:Type} (f:α->β) (l:List α) (d:α) (e:β) (i:Nat) (h:i<l.length):(l.map f).getD i e=f (l.getD i d):=by
  simp[List.getD_eq_getElem?_getD,List.getElem?_eq_getElem h]
theorem range_map {α β:Type} (f:α->β) (l:List α) (d:α):(List.range l.length).map (fun i=>f (l.getD i d))=l.map f:=by
  apply List.ext_getElem?
  intro i;by_cases h:i<l.length
  . rw[List.getElem?_map,List.getElem?_map,List.getElem?_range h];simp[List.getD_eq_getElem?_getD,List.getElem?_eq_getElem h]
  . rw[List.getElem?_eq_none (by simp;omega),List.getElem?_eq_none (by simp;omega)]
theorem range_flat {α β:Type} (f:α->List β) (l:List α) (d:α):(List.range l.length).flatMap (fun i=>f (l.getD i d))=l.flatMap f:=by
  rw[List.flatMap_def,List.flatMap_def,range_map (fun x=>f x)]
theorem ent_of (s:ByteArray) (q:List (List UInt8×List UInt8)) (hs:s.size<=900000) (h:entL s.data.toList=some q) (W:World):Calls Tryz.prog 35 #[.string s] W fun e w'=>∃ b c,e=.returned (.tuple #[.slice b q.length c,.bool true])/\w'.ownsRow W.heap.size 78 2 (.slice b q.length c) q.length (q.flatMap encE)/\Below W.heap.size W w':=by
  refine(entries_any s W hs).mono ?_
  rintro e w' ⟨v,rfl,ho,hb⟩
  rw[h] at ho ⊢;obtain⟨b,c,rfl,_,_⟩:=owns_slice ho;exact⟨b,c,rfl,ho,hb⟩
theorem ask_cat (k:Nat) (t:List UInt8) (v:List UInt8) (h:verb k++[32]=v):(⟨v.toArray⟩:ByteArray)++bs t=bs (verb k++32::t):=by
  have e:(⟨v.toArray⟩:ByteArray)=bs v:=rfl
  rw[e,bs_append,<- h];simp
set_option maxHeartbeats 1000000 in
theorem ktold_any (w0:World) (K:Nat->Prop) (x:Nat) (s:Bk) (E:EnvT w0) (hZ:10<=w0.heap.size) (hI:Inv s) (G:Good s) (W:World) (h:HB w0 K x s W) :
    Calls Tryz.prog 13 #[.pointer (some ⟨x,0,none⟩)] W fun e w'=>∃ v,e=.returned (.tuple #[v,.bool true])/\w'.ownsRow W.heap.size 9 1 v (toldB s).length (strV (toldB s))/\Below W.heap.size W w':=by
  have hN:∀ i,netsOf s.nets (s.pools.getD i hd0).a (s.pools.getD i hd0).n=netsOf s.nets (s.pools.getD i hd0).a (s.pools.getD i hd0).n:=fun _=>rfl
  obtain⟨nn,hnn⟩:∃ nn:Nat->List Hd,nn=fun i=>netsOf s.nets (s.pools.getD i hd0).a (s.pools.getD i hd0).n:=⟨_,rfl⟩
  have hin:∀ i,i<s.pools.length->s.pools.getD i hd0∈s.pools:=fun i hi=>by
    rw[List.getD_eq_getElem?_getD,List.getElem?_eq_getElem hi];exact List.getElem_mem hi
  have hjn:∀ i j,j<(nn i).length->(nn i).getD j hd0∈s.nets:=fun i j hj=>by
    have hm:(nn i).getD j hd0∈nn i:=by rw[List.getD_eq_getElem?_getD,List.getElem?_eq_getElem hj];exact List.getElem_mem hj
    have hm2:∀ y,y∈nn i->y∈s.nets:=by intro y hy;rw[hnn] at hy;exact netsOf_sub hy
    exact hm2 _ hm
  have hnl:∀ i,(nn i).length<=24:=fun i=>by
    have:=netsOf_len s.nets (s.pools.getD i hd0).a (s.pools.getD i hd0).n
    have:=hI.n
    rw[hnn];show (netsOf s.nets _ _).length<=24;omega
  have hpl:=hI.p;refine(told_go x (HB w0 K x s) (fun W W' a b=>a.below b) W h (bs (poolsT s)) (s.pools.map entH) (fun i=>bs (netsT s (s.pools.getD i hd0))) (fun i=>(nn i).map entH) (fun i j=>bs (usedT s ((nn i).getD j hd0))) s.pools.length (by exact(List.length_map _).symm) om (fun i=>by have:=hnl i;simp;omega) ?a1 ?a2 ?a3 ?a4 ?a5 ?a6 ?a7 ?a8).mono ?_
  case a1 =>
    intro i;by_cases hi:i<s.pools.length
    . rw[getD_map entH s.pools hd0 _ i hi];obtain⟨a1,a2,_⟩:=hI.pa _ (hin i hi)
      exact bText_len _ _ a1 a2
    . rw[List.getD_eq_getElem?_getD,List.getElem?_eq_none (by simp;omega)];simp
  case a2 =>
    intro i j;by_cases hj:j<(nn i).length
    . show (((nn i).map entH).getD j ([],[])).1.length<=1000
      rw[getD_map entH (nn i) hd0 _ j hj];obtain⟨a1,a2,_⟩:=hI.na _ (hjn i j hj)
      exact bText_len _ _ a1 a2
    . show (((nn i).map entH).getD j ([],[])).1.length<=1000
      rw[List.getD_eq_getElem?_getD,List.getElem?_eq_none (by simp;omega)];simp
  case a3 =>
    intro W hW;have h1:=hb_ask w0 K x s (bs (verb 8)) E hZ hI (fun l hl=>by rw[bs_data,read_pools] at hl;injection hl with hl;rw[<- hl];show ¬8<8;omega) W hW
    rw[ask_pools] at h1;exact h1
  case a4 =>
    intro i hi W hW;obtain⟨h0,h1,hr⟩:=G.pr _ (hin i hi)
    have e:=read_ask (k:=9) om h0 h1 hr
    have h1:=hb_ask w0 K x s (bs (verb 9++32::bText (s.pools.getD i hd0).a (s.pools.getD i hd0).n)) E hZ hI (fun l hl=>by rw[bs_data] at hl;replace hl:=e.symm.trans hl;injection hl with hl;rw[<- hl];show ¬9<8;omega) W hW
    rw[ask_nets G (hin i hi)] at h1;rw[getD_map entH s.pools hd0 _ i hi];have e3:=ask_cat 9 (entH (s.pools.getD i hd0)).1 [78,69,84,83,32] rfl
    rw[show (⟨#[78,69,84,83,32]⟩:ByteArray)++bs (entH (s.pools.getD i hd0)).1=_ from e3];exact h1
  case a5 =>
    intro i hi j hj W hW;replace hj:j<(nn i).length:=by simpa using hj
    obtain⟨h0,h1,hr,_⟩:=G.nr _ (hjn i j hj)
    have e:=read_ask (k:=10) om h0 h1 hr
    have h1:=hb_ask w0 K x s (bs (verb 10++32::bText ((nn i).getD j hd0).a ((nn i).getD j hd0).n)) E hZ hI (fun l hl=>by rw[bs_data] at hl;replace hl:=e.symm.trans hl;injection hl with hl;rw[<- hl];show ¬10<8;omega) W hW
    rw[ask_used G (hjn i j hj)] at h1;rw[getD_map entH (nn i) hd0 _ j hj];have e3:=ask_cat 10 (entH ((nn i).getD j hd0)).1 [85,83,69,68,32] rfl
    rw[show (⟨#[85,83,69,68,32]⟩:ByteArray)++bs (entH ((nn i).getD j hd0)).1=_ from e3];exact h1
  case a6 =>
    intro W;have:=poolsT_len hI
    have h1:=ent_of (bs (poolsT s)) (s.pools.map entH) (by rw[bs_size];omega) (by rw[bs_data];exact ent_h _ G.po) W
    rw[List.length_map] at h1 ⊢;exact h1
  case a7 =>
    intro i hi W;have:=netsT_len hI (s.pools.getD i hd0)
    exact ent_of (bs (netsT s (s.pools.getD i hd0))) ((nn i).map entH) (by rw[bs_size];omega) (by rw[bs_data,hnn];exact ent_h _ fun h hh=>G.no h (netsOf_sub hh)) W
  case a8 =>
    intro i hi j hj W;have:=usedT_len hI ((nn i).getD j hd0)
    refine(ent_of (bs (usedT s ((nn i).getD j hd0))) _ (by rw[bs_size];omega) (by rw[bs_data];exact ent_l _ fun h hh=>G.lo h (leasesOf_sub hh)) W).mono ?_
    rintro e w' ⟨b,c,rfl,_,hb⟩
    exact⟨_,rfl,hb⟩
  . rintro e w' ⟨v,rfl,ho,hb⟩
    refine⟨v,rfl,?_,hb⟩
    have e:tolF (bs (poolsT s)) (fun i=>bs (netsT s (s.pools.getD i hd0))) (fun i=>((nn i).map entH).length) (fun i j=>bs (usedT s ((nn i).getD j hd0))) s.pools.length=toldB s:=by
      unfold tolF toldB toldS;rw[List.map_cons,List.map_flatMap];congr 1
      rw[<- range_flat _ s.pools hd0];congr 1
      funext i
      unfold tolG toldP;rw[List.map_cons];congr 1
      show (List.range ((nn i).map entH).length).map (fun j=>bs (usedT s ((nn i).getD j hd0)))=_
      rw[List.length_map,range_map (fun h=>bs (usedT s h)),hnn,List.map_map]
      rfl
    rw[e] at ho;exact ho
set_option maxRecDepth 100000 in
set_option maxHeartbeats 400000 in
theorem owner_at (r:Int) (q:Nat) (t:ByteArray) (w:World) (hq:pk r 3=q) (hc:-9223372036854775808<=r/\r<=9223372036854775807) (ht:(q=0/\t=⟨#[97,110,110]⟩)\/(q=1/\t=⟨#[98,111,98]⟩)\/(q=2/\t=⟨#[99,121]⟩)) :
    Calls Tryz.prog 24 #[.int .i64 r] w fun e w'=>e=.returned (.string t)/\Below w.heap.size w w':=by
  have HP:Hid (∀ W,Calls Tryz.prog 20 #[.int .i64 r,.int .i64 3] W fun e w'=>e=.returned (.int .i64 q)/\w'=W):=fun W=>by rw[<- hq];exact pick_any r 3 W hc om om
  rcases ht with⟨rfl,rfl⟩|⟨rfl,rfl⟩|⟨rfl,rfl⟩
  all_goals (
    clear hq hc;go_enter Tryz.func24,Tryz.ntmps24
    go_wp2_with (go_at_call 20;refine(HP.out _).mono ?_;rintro e w1 ⟨rfl,rfl⟩)
    go_ret;exact⟨rfl,upB⟩)
theorem owner_any (r:Int) (w:World) (hc:-9223372036854775808<=r/\r<=9223372036854775807) :
    Calls Tryz.prog 24 #[.int .i64 r] w fun e w'=>e=.returned (.string (bs (own3 (pk r 3).toNat)))/\Below w.heap.size w w':=by
  have h:=pk_bd r 3 om;refine owner_at r (pk r 3).toNat _ w om hc ?_
  have hh:(pk r 3).toNat=0\/(pk r 3).toNat=1\/(pk r 3).toNat=2:=by omega
  rcases hh with e|e|e<;>rw[e]
  . exact .inl ⟨rfl,rfl⟩
  . exact .inr (.inl ⟨rfl,rfl⟩)
  . exact .inr (.inr ⟨rfl,rfl⟩)
theorem blk_live {w wk:World} {cs:Array Value} {t:TypeId} (h:Below (w.heap.size+1) (w.alloc (.cells cs t)) wk):Blk wk w.heap.size cs t/\w.heap.size<wk.heap.size:=by
  have hz:=h.size;rw[World.size_alloc] at hz;exact⟨(h.block w.heap.size om).trans (heap_alloc_new w _),by omega⟩
set_option maxRecDepth 100000 in
set_option maxHeartbeats 400000 in
theorem ktext_at (a n:Int) (T1 T2:ByteArray) (w:World) (hT1:T1.size<=15) (hT2:T2.size<=12)
    (HA:Hid (∀ W,Calls Tryz.prog 22 #[.int .u32 a] W fun e w'=>e=.returned (.string T1)/\Below W.heap.size W w'))
    (HD:Hid (∀ W,Calls Tryz.prog 21 #[.int .i64 n] W fun e w'=>e=.returned (.string T2)/\Below W.heap.size W w')) :
    Calls Tryz.prog 37 #[.agg #[.int .u32 a,.int .i64 n]] w fun e w'=>e=.returned (.string (T1++⟨#[47]⟩++T2))/\Below w.heap.size w w':=by
  have LIVE:Hid (∀ wk,Below (w.heap.size+1) (w.alloc (.cells #[.int .u32 a,.int .i64 n] 80)) wk->wk.cell? ⟨w.heap.size,0,none⟩=some (.int .u32 a)/\wk.cell? ⟨w.heap.size,1,none⟩=some (.int .i64 n)/\w.heap.size<wk.heap.size):=fun wk h=>⟨(blk_live h).1.cell 0,(blk_live h).1.cell 1,(blk_live h).2⟩
  have hc1:¬9223372036854775807<T1.size+1:=by omega
  have hc2:¬9223372036854775807<T1.size+1+T2.size:=by omega
  have hc3:¬9223372036854775807<T1.size+(⟨#[47]⟩:ByteArray).size:=by rw[show (⟨#[47]⟩:ByteArray).size=1 from rfl];omega
  have hc4:¬9223372036854775807<(T1++(⟨#[47]⟩:ByteArray)).size+T2.size:=by rw[ByteArray.size_append,show (⟨#[47]⟩:ByteArray).size=1 from rfl];omega
  go_enter Tryz.func37,Tryz.ntmps37
  go_wp2;go_region_held3 (fun w'=>w'.cell? ⟨w.heap.size,0,none⟩=some (.int .u32 a)/\w'.cell? ⟨w.heap.size,1,none⟩=some (.int .i64 n)) (go_keep) (first
    | (go_at_call 22;refine(HA.out _).mono ?_;rintro e w1 ⟨rfl,HQ⟩;have HB1:Hid (Below (w.heap.size+1) (w.alloc (.cells #[.int .u32 a,.int .i64 n] 80)) w1):=bstep upB (by simp) HQ;clear HQ;obtain⟨c1_0,c1_1,c1_z⟩:=LIVE.out _ HB1.out)
    | (go_at_call 21;refine(HD.out _).mono ?_;rintro e w2 ⟨rfl,HQ⟩;have HB2:Hid (Below (w.heap.size+1) (w.alloc (.cells #[.int .u32 a,.int .i64 n] 80)) w2):=bstep (by have hp:=HB1.out;exact upB) (by simp) HQ;clear HQ;obtain⟨c2_0,c2_1,c2_z⟩:=LIVE.out _ HB2.out))
  all_goals (
    go_wp2;go_ret;exact⟨rfl,(Below.alloc (Below.refl _ _) (Nat.le_refl _) _).trans (HB2.out.mono om)⟩)
theorem ktext_any (a n:Int) (w:World) (h0:0<=a) (h1:a<4294967296) (hn0:0<=n) (hn1:n<=32) :
    Calls Tryz.prog 37 #[.agg #[.int .u32 a,.int .i64 n]] w fun e w'=>e=.returned (.string (bs (bText a n)))/\Below w.heap.size w w':=by
  have h:=ktext_at a n _ _ w (by rw[bs_size];exact dot_len _ om) (by rw[bs_size];have:=dec_len2 (n:=n.toNat) om;omega) (fun W=>kaddr_any a W h0 h1) (fun W=>kdigits_any n W hn0 om)
  have e:bs (dot a.toNat)++⟨#[47]⟩++bs (dec n.toNat)=bs (bText a n):=by
    have e1:(⟨#[47]⟩:ByteArray)=bs [47]:=rfl
    rw[e1,bs_append,bs_append];show _=bs (wr a.toNat n.toNat)
    unfold wr;simp
  rw[e] at h;exact h
def poolA (q:Nat):Int:=if q=0 then 167772160 else if q=1 then 167773184 else if q=2 then 167773184 else if q=3 then 3232235520 else if q=4 then 3232235584 else 4294966272
def poolN (q:Nat):Int:=if q=0 then 22 else if q=1 then 24 else if q=2 then 22 else if q=3 then 26 else if q=4 then 30 else 22
set_option maxRecDepth 100000 in
set_option maxHeartbeats 400000 in
theorem kpools_at (r:Int) (q:Nat) (a n:Int) (w:World) (hq:pk r 6=q) (hc:-9223372036854775808<=r/\r<=9223372036854775807)
    (ht:(q=0/\a=167772160/\n=22)\/(q=1/\a=167773184/\n=24)\/(q=2/\a=167773184/\n=22)\/(q=3/\a=3232235520/\n=26)\/(q=4/\a=3232235584/\n=30)\/(q=5/\a=4294966272/\n=22)) :
    Calls Tryz.prog 36 #[.int .i64 r] w fun e w'=>e=.returned (.agg #[.int .u32 a,.int .i64 n])/\Below w.heap.size w w':=by
  have HP:Hid (∀ W,Calls Tryz.prog 20 #[.int .i64 r,.int .i64 6] W fun e w'=>e=.returned (.int .i64 q)/\w'=W):=fun W=>by rw[<- hq];exact pick_any r 6 W hc om om
  clear hc;rcases ht with⟨rfl,rfl,rfl⟩|⟨rfl,rfl,rfl⟩|⟨rfl,rfl,rfl⟩|⟨rfl,rfl,rfl⟩|⟨rfl,rfl,rfl⟩|⟨rfl,rfl,rfl⟩
  . clear hq;go_enter Tryz.func36,Tryz.ntmps36
    go_wp2_with (go_at_call 20;refine(HP.out _).mono ?_;rintro e w1 ⟨rfl,rfl⟩)
    exact bodyPost_ret (v:=.agg #[.int .u32 167772160,.int .i64 22]) (by simp[results,Tryz.results36,go_sem]) rfl ⟨rfl,upB⟩
  . clear hq;go_enter Tryz.func36,Tryz.ntmps36
    go_wp2_with (go_at_call 20;refine(HP.out _).mono ?_;rintro e w1 ⟨rfl,rfl⟩)
    exact bodyPost_ret (v:=.agg #[.int .u32 167773184,.int .i64 24]) (by simp[results,Tryz.results36,go_sem]) rfl ⟨rfl,upB⟩
  . clear hq;go_enter Tryz.func36,Tryz.ntmps36
    go_wp2_with (go_at_call 20;refine(HP.out _).mono ?_;rintro e w1 ⟨rfl,rfl⟩)
    exact bodyPost_ret (v:=.agg #[.int .u32 167773184,.int .i64 22]) (by simp[results,Tryz.results36,go_sem]) rfl ⟨rfl,upB⟩
  . clear hq;go_enter Tryz.func36,Tryz.ntmps36
    go_wp2_with (go_at_call 20;refine(HP.out _).mono ?_;rintro e w1 ⟨rfl,rfl⟩)
    exact bodyPost_ret (v:=.agg #[.int .u32 3232235520,.int .i64 26]) (by simp[results,Tryz.results36,go_sem]) rfl ⟨rfl,upB⟩
  . clear hq;go_enter Tryz.func36,Tryz.ntmps36
    go_wp2_with (go_at_call 20;refine(HP.out _).mono ?_;rintro e w1 ⟨rfl,rfl⟩)
    exact bodyPost_ret (v:=.agg #[.int .u32 3232235584,.int .i64 30]) (by simp[results,Tryz.results36,go_sem]) rfl ⟨rfl,upB⟩
  . clear hq;go_enter Tryz.func36,Tryz.ntmps36
    go_wp2_with (go_at_call 20;refine(HP.out _).mono ?_;rintro e w1 ⟨rfl,rfl⟩)
    exact bodyPost_ret (v:=.agg #[.int .u32 4294966272,.int .i64 22]) (by simp[results,Tryz.results36,go_sem]) rfl ⟨rfl,upB⟩
theorem kpools_any (r:Int) (w:World) (hc:-9223372036854775808<=r/\r<=9223372036854775807) :
    Calls Tryz.prog 36 #[.int .i64 r] w fun e w'=>e=.returned (.agg #[.int .u32 (poolA (pk r 6).toNat),.int .i64 (poolN (pk r 6).toNat)])/\Below w.heap.size w w':=by
  have h:=pk_bd r 6 om;refine kpools_at r (pk r 6).toNat _ _ w om hc ?_
  have hh:(pk r 6).toNat=0\/(pk r 6).toNat=1\/(pk r 6).toNat=2\/(pk r 6).toNat=3\/(pk r 6).toNat=4\/(pk r 6).toNat=5:=by omega
  rcases hh with e|e|e|e|e|e<;>rw[e]<;>decide
theorem hb_known (w:World) (E:EnvT w) (hZ:10<=w.heap.size) (x:Nat) (s s':Bk) (line line' ans:ByteArray) (hl:line=line') (he:doAll s line'=(s',ans)) (hI:Inv s) (W:World) (hW:HB w (fun _=>False) x s W) :
    Calls Tryz.prog 16 #[.pointer (some ⟨x,0,none⟩),.string line] W fun e w'=>e=.returned (.string ans)/\HB w (fun _=>False) x s' w':=by
  subst hl;refine(hb_do w (fun _=>False) x s line E hZ hI W hW (fun b k=>k.elim)).mono ?_
  rintro e w' ⟨rfl,h1,_⟩
  rw[he] at h1 ⊢;exact⟨rfl,h1⟩
def awL:Nat->ByteArray
  | 0=>⟨#[80,79,79,76,32,97,32,97,110,110,32,49,48,46,48,46,48,46,48,47,50,52]⟩
  | 1=>⟨#[78,69,84,32,98,32,98,111,98,32,49,48,46,48,46,48,46,48,47,50,52,32,50,56]⟩
  | 2=>⟨#[76,69,65,83,69,32,99,32,99,121,32,49,48,46,48,46,48,46,48,47,50,56]⟩
  | 3=>⟨#[80,79,79,76,83]⟩
  | 4=>⟨#[78,69,84,83,32,49,48,46,48,46,48,46,48,47,50,52]⟩
  | _=>⟨#[85,83,69,68,32,49,48,46,48,46,48,46,48,47,50,56]⟩
def awS:Nat->Bk
  | 0=>bk0
  | k+1=>(doAll (awS k) (awL k)).1
theorem awS_inv:∀ k,Inv (awS k)
  | 0=>bk0_ok.1
  | k+1=>inv_all (awS_inv k) _
theorem aw_0:(doAll (awS 0) (awL 0)).2=⟨#[79,75]⟩:=by decide +kernel
theorem awd_0:doAll (awS 0) (awL 0)=(awS 1,⟨#[79,75]⟩):=(Prod.eta _).symm.trans (congrArg (Prod.mk (awS 1)) aw_0)
theorem aw_1:(doAll (awS 1) (awL 1)).2=⟨#[79,75,32,49,48,46,48,46,48,46,48,47,50,56]⟩:=by decide +kernel
theorem awd_1:doAll (awS 1) (awL 1)=(awS 2,⟨#[79,75,32,49,48,46,48,46,48,46,48,47,50,56]⟩):=(Prod.eta _).symm.trans (congrArg (Prod.mk (awS 2)) aw_1)
theorem aw_2:(doAll (awS 2) (awL 2)).2=⟨#[79,75,32,49,48,46,48,46,48,46,49]⟩:=by decide +kernel
theorem awd_2:doAll (awS 2) (awL 2)=(awS 3,⟨#[79,75,32,49,48,46,48,46,48,46,49]⟩):=(Prod.eta _).symm.trans (congrArg (Prod.mk (awS 3)) aw_2)
theorem aw_3:(doAll (awS 3) (awL 3)).2=⟨#[79,75,32,49,48,46,48,46,48,46,48,47,50,52,61,97,110,110]⟩:=by decide +kernel
theorem awd_3:doAll (awS 3) (awL 3)=(awS 4,⟨#[79,75,32,49,48,46,48,46,48,46,48,47,50,52,61,97,110,110]⟩):=(Prod.eta _).symm.trans (congrArg (Prod.mk (awS 4)) aw_3)
theorem aw_4:(doAll (awS 4) (awL 4)).2=⟨#[79,75,32,49,48,46,48,46,48,46,48,47,50,56,61,98,111,98]⟩:=by decide +kernel
theorem awd_4:doAll (awS 4) (awL 4)=(awS 5,⟨#[79,75,32,49,48,46,48,46,48,46,48,47,50,56,61,98,111,98]⟩):=(Prod.eta _).symm.trans (congrArg (Prod.mk (awS 5)) aw_4)
theorem aw_5:(doAll (awS 5) (awL 5)).2=⟨#[79,75,32,49,48,46,48,46,48,46,49,61,99,121]⟩:=by decide +kernel
theorem awd_5:doAll (awS 5) (awL 5)=(awS 6,⟨#[79,75,32,49,48,46,48,46,48,46,49,61,99,121]⟩):=(Prod.eta _).symm.trans (congrArg (Prod.mk (awS 6)) aw_5)
set_option maxRecDepth 100000 in
set_option maxHeartbeats 1000000 in
theorem awake_any (w:World) (E:EnvT w) (hZ:10<=w.heap.size) :
    Calls Tryz.prog 12 #[] w fun e w'=>e=.returned (.bool true)/\Below w.heap.size w w':=by
  have HO:Hid (∀ (_:Unit),Calls Tryz.prog 11 #[] w fun e w'=>∃ x d,e=.returned (.tuple #[.pointer (some ⟨x,0,none⟩),.pointer (some ⟨d,0,none⟩)])/\HB w (fun _=>False) x (awS 0) w'):=fun _=>(opened_any w w (Below.refl _ _)).mono fun e w' ⟨x,d,h1,h2,_⟩=>⟨x,d,h1,h2⟩
  have H0:Hid (∀ x W,HB w (fun _=>False) x (awS 0) W->Calls Tryz.prog 16 #[.pointer (some ⟨x,0,none⟩),.string ⟨#[80,79,79,76,32,97,32,97,110,110,32,49,48,46,48,46,48,46,48,47,50,52]⟩] W fun e w'=>e=.returned (.string ⟨#[79,75]⟩)/\HB w (fun _=>False) x (awS 1) w'):=fun x W h=>hb_known w E hZ x (awS 0) (awS 1) ⟨#[80,79,79,76,32,97,32,97,110,110,32,49,48,46,48,46,48,46,48,47,50,52]⟩ (awL 0) _ rfl awd_0 (awS_inv 0) W h
  have H1:Hid (∀ x W,HB w (fun _=>False) x (awS 1) W->Calls Tryz.prog 16 #[.pointer (some ⟨x,0,none⟩),.string ⟨#[78,69,84,32,98,32,98,111,98,32,49,48,46,48,46,48,46,48,47,50,52,32,50,56]⟩] W fun e w'=>e=.returned (.string ⟨#[79,75,32,49,48,46,48,46,48,46,48,47,50,56]⟩)/\HB w (fun _=>False) x (awS 2) w'):=fun x W h=>hb_known w E hZ x (awS 1) (awS 2) ⟨#[78,69,84,32,98,32,98,111,98,32,49,48,46,48,46,48,46,48,47,50,52,32,50,56]⟩ (awL 1) _ rfl awd_1 (awS_inv 1) W h
  have H2:Hid (∀ x W,HB w (fun _=>False) x (awS 2) W->Calls Tryz.prog 16 #[.pointer (some ⟨x,0,none⟩),.string ⟨#[76,69,65,83,69,32,99,32,99,121,32,49,48,46,48,46,48,46,48,47,50,56]⟩] W fun e w'=>e=.returned (.string ⟨#[79,75,32,49,48,46,48,46,48,46,49]⟩)/\HB w (fun _=>False) x (awS 3) w'):=fun x W h=>hb_known w E hZ x (awS 2) (awS 3) ⟨#[76,69,65,83,69,32,99,32,99,121,32,49,48,46,48,46,48,46,48,47,50,56]⟩ (awL 2) _ rfl awd_2 (awS_inv 2) W h
  have H3:Hid (∀ x W,HB w (fun _=>False) x (awS 3) W->Calls Tryz.prog 16 #[.pointer (some ⟨x,0,none⟩),.string ⟨#[80,79,79,76,83]⟩] W fun e w'=>e=.returned (.string ⟨#[79,75,32,49,48,46,48,46,48,46,48,47,50,52,61,97,110,110]⟩)/\HB w (fun _=>False) x (awS 4) w'):=fun x W h=>hb_known w E hZ x (awS 3) (awS 4) ⟨#[80,79,79,76,83]⟩ (awL 3) _ rfl awd_3 (awS_inv 3) W h
  have H4:Hid (∀ x W,HB w (fun _=>False) x (awS 4) W->Calls Tryz.prog 16 #[.pointer (some ⟨x,0,none⟩),.string ⟨#[78,69,84,83,32,49,48,46,48,46,48,46,48,47,50,52]⟩] W fun e w'=>e=.returned (.string ⟨#[79,75,32,49,48,46,48,46,48,46,48,47,50,56,61,98,111,98]⟩)/\HB w (fun _=>False) x (awS 5) w'):=fun x W h=>hb_known w E hZ x (awS 4) (awS 5) ⟨#[78,69,84,83,32,49,48,46,48,46,48,46,48,47,50,52]⟩ (awL 4) _ rfl awd_4 (awS_inv 4) W h
  have H5:Hid (∀ x W,HB w (fun _=>False) x (awS 5) W->Calls Tryz.prog 16 #[.pointer (some ⟨x,0,none⟩),.string ⟨#[85,83,69,68,32,49,48,46,48,46,48,46,48,47,50,56]⟩] W fun e w'=>e=.returned (.string ⟨#[79,75,32,49,48,46,48,46,48,46,49,61,99,121]⟩)/\HB w (fun _=>False) x (awS 6) w'):=fun x W h=>hb_known w E hZ x (awS 5) (awS 6) ⟨#[85,83,69,68,32,49,48,46,48,46,48,46,48,47,50,56]⟩ (awL 5) _ rfl awd_5 (awS_inv 5) W h
  clear E hZ;go_enter Tryz.func12,Tryz.ntmps12
  go_wp2_with (first|(go_at_call 11;refine(HO.out ()).mono ?_;rintro e v0 ⟨x,d,rfl,hb0⟩;replace hb0:Hid (HB w (fun _=>False) x (awS 0) v0):=hb0)|(go_at_call 16;refine(H0.out _ _ hb0.out).mono ?_;rintro e v1 ⟨rfl,hb1⟩;replace hb1:Hid (HB w (fun _=>False) x (awS 1) v1):=hb1;clear hb0)|(go_at_call 16;refine(H1.out _ _ hb1.out).mono ?_;rintro e v2 ⟨rfl,hb2⟩;replace hb2:Hid (HB w (fun _=>False) x (awS 2) v2):=hb2;clear hb1)|(go_at_call 16;refine(H2.out _ _ hb2.out).mono ?_;rintro e v3 ⟨rfl,hb3⟩;replace hb3:Hid (HB w (fun _=>False) x (awS 3) v3):=hb3;clear hb2)|(go_at_call 16;refine(H3.out _ _ hb3.out).mono ?_;rintro e v4 ⟨rfl,hb4⟩;replace hb4:Hid (HB w (fun _=>False) x (awS 4) v4):=hb4;clear hb3)|(go_at_call 16;refine(H4.out _ _ hb4.out).mono ?_;rintro e v5 ⟨rfl,hb5⟩;replace hb5:Hid (HB w (fun _=>False) x (awS 5) v5):=hb5;clear hb4)|(go_at_call 16;refine(H5.out _ _ hb5.out).mono ?_;rintro e v6 ⟨rfl,hb6⟩;replace hb6:Hid (HB w (fun _=>False) x (awS 6) v6):=hb6;clear hb5))
  go_ret;exact⟨rfl,hb6.out.low⟩
end Go.Proofs.YtjnhhnbgjjkkjaaGreatDoor
