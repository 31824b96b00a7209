/-
  MbB, MbC, PrA, PrB, PrC
-/
import Derived.Test.YtjnhhnbgjjkkjaaGreatDoorBesidesPAA
import Derived.Test.YtjnhhnbgjjkkjaaGreatDoorBesidesPBR
import Derived.Test.YtjnhhnbgjjkkjaaGreatDoorBesidesPBN
import Derived.Test.YtjnhhnbgjjkkjaaGreatDoorBesidesPBQ
import Derived.Test.YtjnhhnbgjjkkjaaGreatDoorBesidesPAQ
namespace Go.Proofs.YtjnhhnbgjjkkjaaGreatDoor
open Go.RowKit
set_option linter.unusedVariables false
set_option linter.unusedSimpArgs false
def DkH (ρ:Nat->Nat) (k:Nat) (W:World) (d:Nat) (t:List UInt8):Prop:=∃ A,DAt ρ k W d A/\Ever A/\Has A t
theorem crash_on {ρ:Nat->Nat} {k:Nat} (kn:Nat) {W:World} {d:Nat} {A:PD} {t:List UInt8} (hd:DAt ρ k W d A) (hc:Clean ρ W) (h:Has A t) (v:Value) (L:List Int) (hL:IntsAt W v L) (hLm:L.length<=2097152) :
    Calls Tryz.prog 28 #[.pointer (some ⟨d,0,none⟩),v] W fun e W'=>e=.returned (.pointer (some ⟨W.heap.size,0,none⟩))/\∃ ρ',DkH ρ' kn W' W.heap.size t/\Stp (fun _=>False) ρ ρ' W W'/\∀ q,ρ' q≠0->ρ q≠0\/q=W.heap.size:=by
  have hl:=h.wf.len;refine(crash_d ρ k kn W d A v L hc hd hL hLm (by rw[h.safe];exact h.wf.w) (by rw[h.loose];intro c hc;simp at hc) (by rw[h.safe,h.loose];simp;omega)).mono ?_
  rintro e W' ⟨rfl,h1,h2⟩
  have e1:crD L A.safe A.loose A.loose.length=A.now:=crash_has h L
  rw[e1] at h1;refine⟨rfl,_,⟨_,h1,⟨rfl,rfl⟩,⟨h.wf,rfl,rfl,h.text⟩⟩,h2,fun q hq=>?_⟩
  by_cases e:q=W.heap.size
  . exact .inr e
  . rw[ru_ne _ _ _ e] at hq;exact .inl hq
theorem crash_mid {ρ:Nat->Nat} {k:Nat} (kn:Nat) {W:World} {d:Nat} {A:PD} {t u:List UInt8} (hd:DAt ρ k W d A) (hc:Clean ρ W) (h:Half A t u) (v:Value) (L:List Int) (hL:IntsAt W v L) (hLm:L.length<=2097152) :
    Calls Tryz.prog 28 #[.pointer (some ⟨d,0,none⟩),v] W fun e W'=>e=.returned (.pointer (some ⟨W.heap.size,0,none⟩))/\∃ ρ',(DkH ρ' kn W' W.heap.size t\/DkH ρ' kn W' W.heap.size u)/\Stp (fun _=>False) ρ ρ' W W'/\∀ q,ρ' q≠0->ρ q≠0\/q=W.heap.size:=by
  have hl:=h.wf.len;have hl2:=h.len;refine(crash_d ρ k kn W d A v L hc hd hL hLm h.wf.w h.whole om).mono ?_
  rintro e W' ⟨rfl,h1,h2⟩
  have hw:WF (crD L A.safe A.loose A.loose.length):=crash_half h L
  have ht:textL (crD L A.safe A.loose A.loose.length)=t\/textL (crD L A.safe A.loose A.loose.length)=u:=h.text L
  generalize crD L A.safe A.loose A.loose.length=C at h1 hw ht
  refine⟨rfl,_,?_,h2,fun q hq=>?_⟩
  . rcases ht with e|e
    . exact .inl ⟨_,h1,⟨rfl,rfl⟩,⟨hw,rfl,rfl,e⟩⟩
    . exact .inr ⟨_,h1,⟨rfl,rfl⟩,⟨hw,rfl,rfl,e⟩⟩
  . by_cases e:q=W.heap.size
    . exact .inr e
    . rw[ru_ne _ _ _ e] at hq;exact .inl hq
theorem dk_open {ρ:Nat->Nat} {k:Nat} {W:World} {d:Nat} {s:Bk} (h:DkH ρ k W d (snapT s)) (hc:Clean ρ W) (K:Kp s) (E:EnvT W) (hZ:10<=W.heap.size) :
    Calls Tryz.prog 27 #[.pointer (some ⟨d,0,none⟩)] W fun e W'=>∃ x ρ',e=.returned (.tuple #[.pointer (some ⟨x,0,none⟩),.int .i64 0])/\Hb ρ' k W' x d s/\Stp (fun _=>False) ρ ρ' W W'/\Below W.heap.size W W':=by
  obtain⟨A,h1,h2,h3⟩:=h;refine(open_any ρ k W d A s E hZ K h3.wf h3.text (by obtain⟨e1,e2⟩:=h2;rw[e1,e2];decide) h1 hc).mono ?_
  rintro e W' ⟨x',b',c',ρ',rfl,a1,a2,a3⟩
  exact⟨x',ρ',rfl,⟨⟨A,b',c',a1,h2,h3⟩,K⟩,a2,a3⟩
theorem DkH.calm {ρ ρ':Nat->Nat} {k:Nat} {w W:World} {d:Nat} {t:List UInt8} (h:DkH ρ k w d t) (hs:Stp (fun _=>False) ρ ρ' w W):DkH ρ' k W d t:=by
  obtain⟨A,h1,h2,h3⟩:=h;exact⟨A,h1.step hs (fun q=>q) (fun q=>q) (fun q=>q),h2,h3⟩
theorem DkH.by {ρ ρ':Nat->Nat} {k k':Nat} {w W:World} {d:Nat} {t:List UInt8} (h:DkH ρ k w d t) (hk:k≠k') (hs:Stp (ROk k') ρ ρ' w W):DkH ρ' k W d t:=by
  obtain⟨A,h1,h2,h3⟩:=h;exact⟨A,h1.by hk hs,h2,h3⟩
theorem Hb.dk {ρ:Nat->Nat} {k:Nat} {W:World} {x d:Nat} {s:Bk} (h:Hb ρ k W x d s):DkH ρ k W d (snapT s)/\Clean ρ W:=by
  obtain⟨A,b,c,h1,h2,h3⟩:=h.ac;exact⟨⟨A,h1.dk,h2,h3⟩,h1.cl⟩
end Go.Proofs.YtjnhhnbgjjkkjaaGreatDoor
namespace Go.Proofs.YtjnhhnbgjjkkjaaGreatDoor
open Go.Conc Go.ChangeShapes Go.WideShapes Go.ChangeAt Go.RowKit
set_option linter.unusedVariables false
set_option linter.unusedSimpArgs false
theorem Hb.hb {ρ:Nat->Nat} {k:Nat} {W w0:World} {K:Nat->Prop} {x d:Nat} {s:Bk} (h:Hb ρ k W x d s) (hr:∀ q,ρ q≠0->w0.heap.size<=q/\¬K q) (hl:Below w0.heap.size w0 W):HB w0 K x s W:=by
  obtain⟨A,b,c,h1,h2,h3⟩:=h.ac;exact⟨ρ,k,A,d,b,c,h1,h2,h3,h.kp,hr,hl⟩
theorem Stp.roles {R:Nat->Prop} {ρ ρ':Nat->Nat} {w W:World} (h:Stp R ρ ρ' w W):∀ q,ρ' q≠0->ρ q≠0\/w.heap.size<=q:=fun q hq=>by
  rcases Nat.lt_or_ge q w.heap.size with e|e
  . rw[h.role q e] at hq;exact .inl hq
  . exact .inr e
theorem dat_newk (ρ:Nat->Nat) (k:Nat) (w:World):DAt (ru ρ w.heap.size (4*k+1)) k (w.alloc (.cells (dB (.slice none 0 0) (.slice none 0 0) (.slice none 0 0) (-1) false) 112)) w.heap.size ⟨[],[],[],-1,false⟩:=by
  have hr:∀ W,Reads W (.slice none 0 0) []:=fun W=>⟨none,0,rfl,Nat.le_refl _,by unfold maxLen;omega,fun h=>absurd rfl h⟩
  exact⟨ru_at _ _ _,.slice none 0 0,.slice none 0 0,.slice none 0 0,Blk.new w _ _,⟨hr _,fun h=>absurd rfl h⟩,⟨hr _,fun h=>absurd rfl h⟩,⟨rfl,.inl ⟨rfl,rfl⟩⟩,fun b e=>(by cases e)⟩
set_option maxRecDepth 100000 in
set_option maxHeartbeats 400000 in
theorem opened3 (ρ:Nat->Nat) (k:Nat) (w:World) (hc:Clean ρ w) (E:EnvT w) (hZ:10<=w.heap.size):Calls Tryz.prog 11 #[] w fun e w'=>∃ x d ρ',e=.returned (.tuple #[.pointer (some ⟨x,0,none⟩),.pointer (some ⟨d,0,none⟩)])/\Hb ρ' k w' x d bk0/\Stp (fun _=>False) ρ ρ' w w'/\Below w.heap.size w w':=by
  have HN:Hid (∀ W,Calls Tryz.prog 34 #[] W fun e w'=>e=.returned (.pointer (some ⟨W.heap.size,0,none⟩))/\w'=W.alloc (.cells (dB (.slice none 0 0) (.slice none 0 0) (.slice none 0 0) (-1) false) 112)):=fun W=>new_d W
  have HO:Hid (Calls Tryz.prog 27 #[.pointer (some ⟨w.heap.size,0,none⟩)] (w.alloc (.cells (dB (.slice none 0 0) (.slice none 0 0) (.slice none 0 0) (-1) false) 112)) fun e w'=>∃ x ρ',e=.returned (.tuple #[.pointer (some ⟨x,0,none⟩),.int .i64 0])/\Hid (Hb ρ' k w' x w.heap.size bk0/\Stp (fun _=>False) ρ ρ' w w'/\Below w.heap.size w w')):=by
    have hb:Below w.heap.size w (w.alloc (.cells (dB (.slice none 0 0) (.slice none 0 0) (.slice none 0 0) (-1) false) 112)):=(Below.refl _ w).alloc (Nat.le_refl _) _
    have hs:=Stp.alloc (R:=fun _=>False) hc (.cells (dB (.slice none 0 0) (.slice none 0 0) (.slice none 0 0) (-1) false) 112) (4*k+1)
    have hk:DkH (ru ρ w.heap.size (4*k+1)) k (w.alloc (.cells (dB (.slice none 0 0) (.slice none 0 0) (.slice none 0 0) (-1) false) 112)) w.heap.size (snapT bk0):=⟨_,dat_newk ρ k w,⟨rfl,rfl⟩,by rw[snap0];exact new_has⟩
    refine(dk_open hk hs.clean kp0 (E.mono hb) (Nat.le_trans hZ hb.size)).mono ?_
    rintro e w' ⟨x,ρ',rfl,a1,a2,a3⟩
    exact⟨x,ρ',rfl,a1,hs.trans a2,hb.trans (a3.mono hb.size)⟩
  go_enter Tryz.func11,Tryz.ntmps11
  go_wp2_with (first|(go_at_call 34;refine(HN.out _).mono ?_;rintro e w1 ⟨rfl,rfl⟩)|(go_at_call 27;refine HO.out.mono ?_;rintro e w2 ⟨x,ρ',rfl,hh⟩))
  have hfin:∃ x' d' ρ',Ending.returned (Value.tuple #[.pointer (some ⟨x,0,none⟩),.pointer (some ⟨w.heap.size,0,none⟩)])=Ending.returned (.tuple #[.pointer (some ⟨x',0,none⟩),.pointer (some ⟨d',0,none⟩)])/\Hb ρ' k w2 x' d' bk0/\Stp (fun _=>False) ρ ρ' w w2/\Below w.heap.size w w2:=⟨x,_,ρ',rfl,hh.out.1,hh.out.2.1,hh.out.2.2⟩
  exact bodyPost_ret (v:=.tuple #[.pointer (some ⟨x,0,none⟩),.pointer (some ⟨w.heap.size,0,none⟩)]) (by simp[results,Tryz.results11]) rfl hfin
structure Two (w:World) (ρ:Nat->Nat) (W:World) (x d y dy:Nat) (s u:Bk):Prop where
  hx:Hb ρ 0 W x d s
  hy:Hb ρ 1 W y dy u
  ro:∀ q,ρ q≠0->w.heap.size<=q
  low:Below w.heap.size w W
theorem Two.calm {w:World} {ρ ρ':Nat->Nat} {W W':World} {x d y dy:Nat} {s u:Bk} (h:Two w ρ W x d y dy s u) (hs:Stp (fun _=>False) ρ ρ' W W') (hb:Below W.heap.size W W'):Two w ρ' W' x d y dy s u :=
  ⟨h.hx.calm hs,h.hy.calm hs,fun q e=>by rcases hs.roles q e with e|e;exact h.ro q e;exact Nat.le_trans h.low.size e,h.low.trans (hb.mono h.low.size)⟩
theorem Two.clean {w:World} {ρ:Nat->Nat} {W:World} {x d y dy:Nat} {s u:Bk} (h:Two w ρ W x d y dy s u):Clean ρ W:=h.hx.dk.2
theorem Two.below {w:World} {ρ:Nat->Nat} {W W':World} {x d y dy:Nat} {s u:Bk} (h:Two w ρ W x d y dy s u) (hb:Below W.heap.size W W'):Two w ρ W' x d y dy s u:=h.calm (Stp.below h.clean hb) hb
set_option maxRecDepth 100000 in
set_option maxHeartbeats 400000 in
theorem paired_any (w:World) (E:EnvT w) (hZ:10<=w.heap.size) (HAw:∀ W,EnvT W->10<=W.heap.size->Calls Tryz.prog 12 #[] W fun e w'=>e=.returned (.bool true)/\Below W.heap.size W w') :
    Calls Tryz.prog 25 #[] w fun e w'=>∃ p x y d dy ρ,e=.returned (.pointer (some ⟨p,0,none⟩))/\Blk w' p #[.pointer (some ⟨x,0,none⟩),.pointer (some ⟨y,0,none⟩),.pointer (some ⟨d,0,none⟩)] 59/\w.heap.size<=p/\ρ p=100/\Two w ρ w' x d y dy bk0 bk0:=by
  have H1:Hid (Calls Tryz.prog 11 #[] w fun e w'=>∃ x d,e=.returned (.tuple #[.pointer (some ⟨x,0,none⟩),.pointer (some ⟨d,0,none⟩)])/\Hid (∃ ρ,Hb ρ 0 w' x d bk0/\(∀ q,ρ q≠0->w.heap.size<=q)/\Below w.heap.size w w')):=by
    refine(opened3 (fun _=>0) 0 w (fun q _=>rfl) E hZ).mono ?_
    rintro e w' ⟨x,d,ρ',rfl,a1,a2,a3⟩
    refine⟨x,d,rfl,ρ',a1,fun q e=>?_,a3⟩
    rcases a2.roles q e with e|e
    . exact absurd rfl e
    . exact e
  have H2:Hid (∀ x d W,(∃ ρ,Hb ρ 0 W x d bk0/\(∀ q,ρ q≠0->w.heap.size<=q)/\Below w.heap.size w W)->Calls Tryz.prog 11 #[] W fun e w'=>∃ y dy,e=.returned (.tuple #[.pointer (some ⟨y,0,none⟩),.pointer (some ⟨dy,0,none⟩)])/\Hid (∃ ρ,Two w ρ w' x d y dy bk0 bk0)):=fun x d W ⟨ρ,b1,b2,b3⟩=>by
    refine(opened3 ρ 1 W b1.dk.2 (E.mono b3) (Nat.le_trans hZ b3.size)).mono ?_
    rintro e w' ⟨y,dy,ρ',rfl,a1,a2,a3⟩
    refine⟨y,dy,rfl,ρ',b1.calm a2,a1,fun q e=>?_,b3.trans (a3.mono b3.size)⟩
    rcases a2.roles q e with e|e
    . exact b2 q e
    . exact Nat.le_trans b3.size e
  have H3:Hid (∀ x d y dy W,(∃ ρ,Two w ρ W x d y dy bk0 bk0)->Calls Tryz.prog 12 #[] W fun e w'=>e=.returned (.bool true)/\Hid (∃ ρ,Two w ρ w' x d y dy bk0 bk0)):=fun x d y dy W ⟨ρ,h⟩=>by
    refine(HAw W (E.mono h.low) (Nat.le_trans hZ h.low.size)).mono ?_
    rintro e w' ⟨rfl,hb⟩
    exact⟨rfl,ρ,h.below hb⟩
  clear HAw;go_enter Tryz.func25,Tryz.ntmps25
  go_wp2_with (first
    | (go_at_call 12;refine(H3.out x d y dy _ q2.out).mono ?_;rintro e w3 ⟨rfl,q3⟩)
    | (go_at_call 11;refine(H2.out x d _ q1.out).mono ?_;rintro e w2 ⟨y,dy,rfl,q2⟩)
    | (go_at_call 11;refine H1.out.mono ?_;rintro e w1 ⟨x,d,rfl,q1⟩))
  go_ret;obtain⟨ρ,h⟩:=q3.out;have hb:Below w3.heap.size w3 (w3.alloc (.cells #[.pointer (some ⟨x,0,none⟩),.pointer (some ⟨y,0,none⟩),.pointer (some ⟨d,0,none⟩)] 59)):=(Below.refl _ w3).alloc (Nat.le_refl _) _
  have hs:=Stp.alloc (R:=fun _=>False) h.clean (.cells #[.pointer (some ⟨x,0,none⟩),.pointer (some ⟨y,0,none⟩),.pointer (some ⟨d,0,none⟩)] 59) 100
  exact⟨w3.heap.size,x,y,d,dy,_,rfl,Blk.new w3 _ _,h.low.size,ru_at _ _ _,h.calm hs hb⟩
set_option maxRecDepth 100000 in
set_option maxHeartbeats 400000 in
theorem shows_go (x y:Nat) (w:World) (r:Bool) (P1:Option Addr->Nat->Nat->World->Prop) (P2:Option Addr->Nat->Nat->Option Addr->Nat->Nat->World->Prop) (Q:World->Prop)
    (H1:Hid (Calls Tryz.prog 13 #[.pointer (some ⟨x,0,none⟩)] w fun e w'=>∃ b n c,e=.returned (.tuple #[.slice b n c,.bool true])/\P1 b n c w'))
    (H2:Hid (∀ b n c W,P1 b n c W->Calls Tryz.prog 13 #[.pointer (some ⟨y,0,none⟩)] W fun e w'=>∃ b' n' c',e=.returned (.tuple #[.slice b' n' c',.bool true])/\P2 b n c b' n' c' w'))
    (H3:Hid (∀ b n c b' n' c' W,P2 b n c b' n' c' W->Calls Tryz.prog 18 #[.slice b n c,.slice b' n' c'] W fun e w'=>e=.returned (.bool r)/\Q w')) :
    Calls Tryz.prog 29 #[.pointer (some ⟨x,0,none⟩),.pointer (some ⟨y,0,none⟩)] w fun e w'=>e=.returned (.bool r)/\Q w':=by
  go_enter Tryz.func29,Tryz.ntmps29
  go_wp2_with (first
    | (go_at_call 18;refine(H3.out b n c b' n' c' _ q2.out).mono ?_;rintro e w3 ⟨rfl,q3⟩;replace q3:Hid (Q w3):=q3)
    | (go_at_call 13;refine(H2.out b n c _ q1.out).mono ?_;rintro e w2 ⟨b',n',c',rfl,q2⟩;replace q2:Hid (P2 b n c b' n' c' w2):=q2)
    | (go_at_call 13;refine H1.out.mono ?_;rintro e w1 ⟨b,n,c,rfl,q1⟩;replace q1:Hid (P1 b n c w1):=q1))
  go_ret;exact⟨rfl,q3.out⟩
end Go.Proofs.YtjnhhnbgjjkkjaaGreatDoor
namespace Go.Proofs.YtjnhhnbgjjkkjaaGreatDoor
open Go.Conc Go.RowKit
set_option linter.unusedVariables false
set_option linter.unusedSimpArgs false
theorem strV_enc (l:List ByteArray):strV l=l.flatMap encS:=by
  unfold strV;induction l with
  | nil=>rfl
  | cons x r ih=>simp only[List.map_cons,List.flatMap_cons,ih];rfl
theorem shows_any (w0:World) (K:Nat->Prop) (x y:Nat) (s u:Bk) (E:EnvT w0) (hZ:10<=w0.heap.size) (hI:Inv s) (G:Good s) (hI':Inv u) (G':Good u) (hn:(toldB s).length<=1000000) (W:World) (h:HB w0 K x s W) (h':HB w0 K y u W) :
    Calls Tryz.prog 29 #[.pointer (some ⟨x,0,none⟩),.pointer (some ⟨y,0,none⟩)] W fun e w'=>e=.returned (.bool (decide (toldB s=toldB u)))/\Below W.heap.size W w':=by
  have rd:∀ (l:List ByteArray) (B:Nat) (v:Value) (V:World),V.ownsRow B 9 1 v l.length (strV l)->Rd 1 encS ⟨#[]⟩ V v l:=fun l B v V ho=>Rd.of_owns (enc:=encS) (fun _=>rfl) ⟨#[]⟩ (by rw[<- strV_enc];exact ho)
  refine shows_go x y W _ (fun b n c V=>Rd 1 encS ⟨#[]⟩ V (.slice b n c) (toldB s)/\Below W.heap.size W V) (fun b n c b' n' c' V=>Rd 1 encS ⟨#[]⟩ V (.slice b n c) (toldB s)/\Rd 1 encS ⟨#[]⟩ V (.slice b' n' c') (toldB u)/\Below W.heap.size W V) (fun V=>Below W.heap.size W V) ?_ ?_ ?_
  . refine(ktold_any w0 K x s E hZ hI G W h).mono ?_
    rintro e w' ⟨v,rfl,ho,hb⟩
    have hr:=rd _ _ _ _ ho;obtain⟨b,c,rfl,q⟩:=hr;exact⟨b,_,c,rfl,⟨b,c,rfl,q⟩,hb⟩
  . rintro b n c V ⟨h1,h2⟩
    refine(ktold_any w0 K y u E hZ hI' G' V (h'.below h2)).mono ?_
    rintro e w' ⟨v,rfl,ho,hb⟩
    have hr:=rd _ _ _ _ ho;obtain⟨b',c',rfl,q⟩:=hr;exact⟨b',_,c',rfl,h1.below hb,⟨b',c',rfl,q⟩,h2.trans (hb.mono h2.size)⟩
  . rintro b n c b' n' c' V ⟨h1,h2,h3⟩
    refine(alike_any (toldB s) (toldB u) _ _ V h1 h2 hn).mono ?_
    rintro e w' ⟨rfl,hb⟩
    exact⟨rfl,h3.trans (hb.mono h3.size)⟩
end Go.Proofs.YtjnhhnbgjjkkjaaGreatDoor
