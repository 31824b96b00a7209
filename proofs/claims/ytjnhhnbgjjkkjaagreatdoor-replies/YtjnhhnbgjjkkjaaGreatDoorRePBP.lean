import Derived.Test.YtjnhhnbgjjkkjaaGreatDoorRePBN
import Derived.Test.YtjnhhnbgjjkkjaaGreatDoorRePBG
import Derived.Test.YtjnhhnbgjjkkjaaGreatDoorRePBO
import Derived.Test.YtjnhhnbgjjkkjaaGreatDoorRePBF
import Derived.Shelf.Strings.BuilderK
set_option linter.all false
set_option maxRecDepth 100000
set_option maxHeartbeats 2000000
namespace Go.Proofs.YtjnhhnbgjjkkjaaGreatDoor
section
theorem qk{w:Lu}(h:ag w=true):(⟨w.toArray⟩:Bz).size<=8:=by
 unfold ag at h;simp only[Bool.and_eq_true,decide_eq_true_eq] at h
 have h2:=h.1.2;show w.toArray.size<=8
 simpa using h2
theorem wT{l l':Ln}{p:Nat}{w:Lu}(hL:aZ l)(h:aQ l p w=some l'):aZ l'/\l'.v=l.v:=by
 unfold aQ at h;split at h
 ·split at h
  ·cases h;exact⟨⟨hL.a,hL.d,hL.r,hL.g0,hL.g1,hL.o⟩,rfl⟩
  ·cases h
 ·split at h
  ·split at h
   ·rename_i hn
    cases h;exact⟨⟨hL.a,hL.d,hL.r,hL.g0,hL.g1,qk hn⟩,rfl⟩
   ·cases h
  ·split at h
   ·split at h
    ·rename_i b e
     cases h;have hb:=oB (a:=b.1) (n:=b.2) e
     exact⟨⟨⟨hb.2.2.1,hb.2.2.2.1⟩,hL.d,hb.2.1,hL.g0,hL.g1,hL.o⟩,rfl⟩
    ·cases h
   ·split at h
    ·split at h
     ·rename_i d e
      cases h;have hb:=gS e;exact⟨⟨hL.a,⟨by dsimp only;omega,by dsimp only;omega⟩,hL.r,hL.g0,hL.g1,hL.o⟩,rfl⟩
     ·cases h
    ·split at h
     ·split at h
      ·rename_i g e
       cases h;have hb:=(bA.1 e).1
       exact⟨⟨hL.a,hL.d,hL.r,by dsimp only;omega,by dsimp only;omega,hL.o⟩,rfl⟩
      ·cases h
     ·cases h
theorem lR:∀ (ps:List Nat) (ws:List (Lu)) (l l':Ln),aZ l->aq l ps ws=some l'->aZ l'/\l'.v=l.v
 | [],[],l,l',hL,h=>by simp[aq] at h;subst h;exact⟨hL,rfl⟩
 | [],_::_,l,l',hL,h=>by simp[aq] at h
 | _::_,[],l,l',hL,h=>by simp[aq] at h
 | p::ps,w::ws,l,l',hL,h=>by
  rw[aq] at h;split at h
  ·rename_i l2 e;have h1:=wT hL e;have h2:=lR ps ws l2 l' h1.1 h;exact⟨h2.1,h2.2.trans h1.2⟩
  ·cases h
theorem Fb(v:Nat):aZ (ln0 v):=⟨by unfold ln0 ad;dsimp only;omega,by unfold ln0 ad;dsimp only;omega,aj.2 ⟨by simp[ln0],by simp[ln0],by simp[ln0]⟩,by simp[ln0],by simp[ln0],Nat.zero_le 8⟩
theorem eT{s:Lu}{l:Ln}(h:aE s=some l):aZ l/\l.v<11:=by
 unfold aE at h;split at h
 ·split at h
  ·rename_i w ws e;split at h
   ·cases h
   ·rename_i hv;have h1:=lR _ _ _ _ (Fb _) h
    refine⟨h1.1,?_⟩
    rw[h1.2];show (fi (fun v=>v==w) aY).toNat<11
    rcases aV (fun v=>v==w) aY [] with⟨q,_⟩|⟨k,hk,q,_,_⟩
    ·rw[q];decide
    ·rw[q];exact hk
  ·cases h
 ·cases h
end
section
open Go.ChangeShapes Go.WideShapes Go.ChangeAt Go.RowKit Go.Proofs.Tryz
theorem Ea(a b c:Bz):(⟨(Lib.join ([a,b,c].map (·.data.toList)) (⟨#[32]⟩:Bz).data.toList).toArray⟩:Bz)=a++⟨#[32]⟩++b++⟨#[32]⟩++c:=by
 apply ByteArray.ext
 simp[Lib.join,ByteArray.data_append]
theorem qw(V J:Bz)(hV:V.size<=10)(hJ:J.size<=1000)(g:Nat)(w:World)(hz:0<w.heap.size)(c0:w.cell? (At 0 0)=some (.string V))
  (HJ:Hid (∀ W,Bl w W->Cr prog 171 #[Sq g 3 3,.string ⟨#[32]⟩] W (.string J))) :
  Cr prog 202 #[I6 0,Sq g 3 3] w (.string (V++⟨#[32]⟩++J)):=by
 have hs1:¬9223372036854775807<V.size+1:=by omega
 have hs2:¬9223372036854775807<V.size+1+J.size:=by omega
 have hs3:¬9223372036854775807<(V++(⟨#[32]⟩:Bz)).size+J.size:=by rw[ByteArray.size_append,show (⟨#[32]⟩:Bz).size=1 from rfl];omega
 have CE:Hid (∀ W,Bl w W->W.cell? (At 0 0)=some (.string V)):=fun W hW=>(hW.cell (p:=At 0 0) hz).trans c0
 go_enter func202,ntmps202
 go_wp2;go_region_held3 (fun w'=>w'.cell? (At 0 0)=some (.string V)) (go_keep) ((go_at_call 171;refine Mo (HJ.o _ upB) fun w1 hq1=>?_;have hb1:Hid (Bl w w1):=al upB (Nat.le_refl _) hq1;clear hq1;have c1:=CE.o w1 hb1.o;clear c0))
 all_goals (
  go_wp2;go_ret;have hq:=hb1.o;exact⟨rfl,upB⟩)
theorem ta(V J:Bz)(hV:V.size<=10)(hJ:J.size<=1000)(g:Nat)(w:World)(hz:0<w.heap.size)(c0:w.cell? (At 0 15)=some (.string V))
  (HJ:Hid (∀ W,Bl w W->Cr prog 171 #[Sq g 3 3,.string ⟨#[32]⟩] W (.string J))) :
  Cr prog 202 #[I6 3,Sq g 3 3] w (.string (V++⟨#[32]⟩++J)):=by
 have hs1:¬9223372036854775807<V.size+1:=by omega
 have hs2:¬9223372036854775807<V.size+1+J.size:=by omega
 have hs3:¬9223372036854775807<(V++(⟨#[32]⟩:Bz)).size+J.size:=by rw[ByteArray.size_append,show (⟨#[32]⟩:Bz).size=1 from rfl];omega
 have CE:Hid (∀ W,Bl w W->W.cell? (At 0 15)=some (.string V)):=fun W hW=>(hW.cell (p:=At 0 15) hz).trans c0
 go_enter func202,ntmps202
 go_wp2;go_region_held3 (fun w'=>w'.cell? (At 0 15)=some (.string V)) (go_keep) ((go_at_call 171;refine Mo (HJ.o _ upB) fun w1 hq1=>?_;have hb1:Hid (Bl w w1):=al upB (Nat.le_refl _) hq1;clear hq1;have c1:=CE.o w1 hb1.o;clear c0))
 all_goals (
  go_wp2;go_ret;have hq:=hb1.o;exact⟨rfl,upB⟩)
theorem ot(V J:Bz)(hV:V.size<=10)(hJ:J.size<=1000)(g:Nat)(w:World)(hz:0<w.heap.size)(c0:w.cell? (At 0 30)=some (.string V))
  (HJ:Hid (∀ W,Bl w W->Cr prog 171 #[Sq g 3 3,.string ⟨#[32]⟩] W (.string J))) :
  Cr prog 202 #[I6 6,Sq g 3 3] w (.string (V++⟨#[32]⟩++J)):=by
 have hs1:¬9223372036854775807<V.size+1:=by omega
 have hs2:¬9223372036854775807<V.size+1+J.size:=by omega
 have hs3:¬9223372036854775807<(V++(⟨#[32]⟩:Bz)).size+J.size:=by rw[ByteArray.size_append,show (⟨#[32]⟩:Bz).size=1 from rfl];omega
 have CE:Hid (∀ W,Bl w W->W.cell? (At 0 30)=some (.string V)):=fun W hW=>(hW.cell (p:=At 0 30) hz).trans c0
 go_enter func202,ntmps202
 go_wp2;go_region_held3 (fun w'=>w'.cell? (At 0 30)=some (.string V)) (go_keep) ((go_at_call 171;refine Mo (HJ.o _ upB) fun w1 hq1=>?_;have hb1:Hid (Bl w w1):=al upB (Nat.le_refl _) hq1;clear hq1;have c1:=CE.o w1 hb1.o;clear c0))
 all_goals (
  go_wp2;go_ret;have hq:=hb1.o;exact⟨rfl,upB⟩)
theorem Fd(k:Nat)(hk:k=0\/k=3\/k=6)(o r:Bz)(ho:o.size<=8)(hr:r.size<=40)(g:Nat)(w:World)(E:di w)(hg:g<w.heap.size)
  (c0:w.cell? (At g 0)=some (.string ⟨#[120]⟩)) (c1:w.cell? (At g 1)=some (.string o)) (c2:w.cell? (At g 2)=some (.string r)) :
  Cr prog 202 #[I6 k,Sq g 3 3] w (.string (byt (iz k xT o.data.toList r.data.toList))):=by
 have HJ:Hid (∀ W,Bl w W->Cr prog 171 #[Sq g 3 3,.string ⟨#[32]⟩] W (.string (⟨#[120]⟩++⟨#[32]⟩++o++⟨#[32]⟩++r))):=fun W hW=>by
  have h:=Tryz.strings_Join g 0 3 [⟨#[120]⟩,o,r] ⟨#[32]⟩ W (fun j x hx=>by
   match j,hx with
   | 0,hx=>simp at hx;subst hx;rw[Nat.zero_add];exact(hW.cell (p:=At g 0) hg).trans c0
   | 1,hx=>simp at hx;subst hx;rw[Nat.zero_add];exact(hW.cell (p:=At g 1) hg).trans c1
   | 2,hx=>simp at hx;subst hx;rw[Nat.zero_add];exact(hW.cell (p:=At g 2) hg).trans c2
   | j+3,hx=>simp at hx) (Nat.lt_of_lt_of_le hg hW.size) sM sM (by
    have e:=congrArg ByteArray.size (Ea ⟨#[120]⟩ o r)
    rw[show ∀ l:Lu,(⟨l.toArray⟩:Bz).size=l.length from fun l=>by simp[ByteArray.size]] at e
    rw[e];simp only[ByteArray.size_append,show (⟨#[32]⟩:Bz).size=1 from rfl,show (⟨#[120]⟩:Bz).size=1 from rfl];omega)
  rw[Ea] at h;exact h
 have hJ:((⟨#[120]⟩:Bz)++⟨#[32]⟩++o++⟨#[32]⟩++r).size<=1000:=by simp only[ByteArray.size_append,show (⟨#[32]⟩:Bz).size=1 from rfl,show (⟨#[120]⟩:Bz).size=1 from rfl];omega
 have e:∀ V:Lu,V=fW k->(bs V++⟨#[32]⟩++((⟨#[120]⟩:Bz)++⟨#[32]⟩++o++⟨#[32]⟩++r))=byt (iz k xT o.data.toList r.data.toList):=fun V hV=>by
  subst hV;apply ByteArray.ext
  apply Array.ext'
  simp[bs,byt,iz,xT,ByteArray.data_append]
 rcases hk with rfl|rfl|rfl
 ·rw[<- e (fW 0) rfl];exact qw (bs (fW 0)) _ dE hJ g w E.lf (E.fm 0 _ rfl) HJ
 ·rw[<- e (fW 3) rfl];exact ta (bs (fW 3)) _ dE hJ g w E.lf (E.fm 15 _ rfl) HJ
 ·rw[<- e (fW 6) rfl];exact ot (bs (fW 6)) _ dE hJ g w E.lf (E.fm 30 _ rfl) HJ
theorem CJ(k a n:Int)(o t R:Bz)(w:World)
  (HB:Hid (∀ W,Bl w W->Cr prog 113 #[.agg #[U3 a,I6 n]] W (.string t)))
  (HW:Hid (∀ W g,Bl w W->Blk W g #[.string ⟨#[120]⟩,.string o,.string t] 9->Cr prog 202 #[I6 k,Sq g 3 3] W (.string R))) :
  Cr prog 150 #[.agg #[U3 a,I6 n,.string o],I6 k] w (.string R):=by
 have LIVE:Hid (∀ wk,Below (w.heap.size+1) (w.alloc (.cells #[U3 a,I6 n,.string o] 153)) wk->wk.cell? (At w.heap.size 0)=some (U3 a)/\wk.cell? (At w.heap.size 1)=some (I6 n)/\wk.cell? (At w.heap.size 2)=some (.string o)/\w.heap.size<wk.heap.size):=fun wk h=>by
  have hz:=h.size;rw[World.size_alloc] at hz;have hk:Blk wk w.heap.size #[U3 a,I6 n,.string o] 153:=(h.block w.heap.size om).trans (heap_alloc_new w _)
  exact⟨hk.cell 0,hk.cell 1,hk.cell 2,by omega⟩
 have LOW:Hid (∀ wk,Below (w.heap.size+1) (w.alloc (.cells #[U3 a,I6 n,.string o] 153)) wk->Bl w wk):=fun wk h=>(Below.alloc (Below.refl _ _) (Nat.le_refl _) _).trans (h.mono om)
 go_enter func150,ntmps150
 go_wp2;go_region_held3 (fun w'=>w'.cell? (At w.heap.size 0)=some (U3 a)/\w'.cell? (At w.heap.size 1)=some (I6 n)/\w'.cell? (At w.heap.size 2)=some (.string o)) (go_keep) (first
  | (go_at_call 113;refine Mo (HB.o _ upB) fun w1 hq1=>?_;have HB1:Hid (Below (w.heap.size+1) (w.alloc (.cells #[U3 a,I6 n,.string o] 153)) w1):=al upB sM hq1;clear hq1;obtain⟨d0,d1,d2,dz⟩:=LIVE.o _ HB1.o)
  | (go_at_call 202;refine Mo (HW.o _ w1.heap.size (by have hp:=LOW.o _ HB1.o;have hz:=hp.size;exact upB) (by first|exact Blk.new w1 _ _|exact(Blk.new w1 _ _).drew)) fun w2 hq2=>?_;have HB2:Hid (Below (w.heap.size+1) (w.alloc (.cells #[U3 a,I6 n,.string o] 153)) w2):=al (by have hp:=HB1.o;have hz:=hp.size;rw[World.size_alloc] at hz;exact upB) sM hq2;clear hq2;obtain⟨f0,f1,f2,fz⟩:=LIVE.o _ HB2.o))
 all_goals (
  go_wp2;go_ret;have hq:=LOW.o _ HB2.o;have hz:=hq.size;exact⟨rfl,upB⟩)
theorem CZ(a:Int)(o t R:Bz)(w:World)
  (HB:Hid (∀ W,Bl w W->Cr prog 121 #[U3 a] W (.string t)))
  (HW:Hid (∀ W g,Bl w W->Blk W g #[.string ⟨#[120]⟩,.string o,.string t] 9->Cr prog 202 #[I6 6,Sq g 3 3] W (.string R))) :
  Cr prog 151 #[.agg #[U3 a,.string o]] w (.string R):=by
 have LIVE:Hid (∀ wk,Below (w.heap.size+1) (w.alloc (.cells #[U3 a,.string o] 208)) wk->wk.cell? (At w.heap.size 0)=some (U3 a)/\wk.cell? (At w.heap.size 1)=some (.string o)/\w.heap.size<wk.heap.size):=fun wk h=>by
  have hz:=h.size;rw[World.size_alloc] at hz;have hk:Blk wk w.heap.size #[U3 a,.string o] 208:=(h.block w.heap.size om).trans (heap_alloc_new w _)
  exact⟨hk.cell 0,hk.cell 1,by omega⟩
 have LOW:Hid (∀ wk,Below (w.heap.size+1) (w.alloc (.cells #[U3 a,.string o] 208)) wk->Bl w wk):=fun wk h=>(Below.alloc (Below.refl _ _) (Nat.le_refl _) _).trans (h.mono om)
 go_enter func151,ntmps151
 go_wp2;go_region_held3 (fun w'=>w'.cell? (At w.heap.size 0)=some (U3 a)/\w'.cell? (At w.heap.size 1)=some (.string o)) (go_keep) (first
  | (go_at_call 121;refine Mo (HB.o _ upB) fun w1 hq1=>?_;have HB1:Hid (Below (w.heap.size+1) (w.alloc (.cells #[U3 a,.string o] 208)) w1):=al upB sM hq1;clear hq1;obtain⟨d0,d1,dz⟩:=LIVE.o _ HB1.o)
  | (go_at_call 202;refine Mo (HW.o _ w1.heap.size (by have hp:=LOW.o _ HB1.o;have hz:=hp.size;exact upB) (by first|exact Blk.new w1 _ _|exact(Blk.new w1 _ _).drew)) fun w2 hq2=>?_;have HB2:Hid (Below (w.heap.size+1) (w.alloc (.cells #[U3 a,.string o] 208)) w2):=al (by have hp:=HB1.o;have hz:=hp.size;rw[World.size_alloc] at hz;exact upB) sM hq2;clear hq2;obtain⟨f0,f1,fz⟩:=LIVE.o _ HB2.o))
 all_goals (
  go_wp2;go_ret;have hq:=LOW.o _ HB2.o;have hz:=hq.size;exact⟨rfl,upB⟩)
theorem zX{k:Nat}(hk:k=0\/k=3\/k=6)(o r:Bz)(ho:o.size<=8)(hr:r.size<=40){w:World}(E:di w):∀ W g,Bl w W->Blk W g #[.string ⟨#[120]⟩,.string o,.string r] 9->Cr prog 202 #[I6 k,Sq g 3 3] W (.string (byt (iz k xT o.data.toList r.data.toList))) :=
 fun W g hW hb=>Fd k hk o r ho hr g W (E.mono hW) hb.lt (hb.cell 0) (hb.cell 1) (hb.cell 2)
theorem qf(k:Nat)(hk:k=0\/k=3)(h:Hd)(w:World)(E:di w)(ha:ad h.a)(hr:rt h.a h.n=true)(ho:h.o.size<=8):Cr prog 150 #[vH h,I6 k] w (.string (byt (iz k xT h.o.data.toList (cF h.a h.n)))):=by
 have hs:(bs (cF h.a h.n)).size<=40:=by
  rw[aN];obtain⟨r1,r2,_⟩:=aj.1 hr;have:=oW h.a.toNat h.n.toNat (by unfold ad at ha;omega) om
  unfold cF;omega
 have hw:=zX (k:=k) om h.o (bs (cF h.a h.n)) ho hs E
 rw[bN] at hw;exact CJ k h.a h.n h.o (bs (cF h.a h.n)) _ w (fun W hW=>fC h.a h.n W (E.env.mono hW) ha hr) hw
theorem zG(l:Ls)(w:World)(E:di w)(ha:ad l.a)(ho:l.o.size<=8):Cr prog 151 #[vL l] w (.string (byt (qW l))):=by
 have hs:(bs (dot l.a.toNat)).size<=40:=by
  rw[aN];have:=iZ l.a.toNat (by unfold ad at ha;omega)
  omega
 have hw:=zX (k:=6) om l.o (bs (dot l.a.toNat)) ho hs E
 rw[bN] at hw;exact CZ l.a l.o (bs (dot l.a.toNat)) _ w (fun W hW=>oV l.a W (E.env.mono hW) ha.1 ha.2) hw
theorem zl:(prog.info? 9).map (fun i=>(i.zero,i.size,i.bytes))=some (some (.string ByteArray.empty),1,16):=by kernel_rfl
def upS(T:Nat->Bz)(k:Nat):List Value:=(List.range k).map fun j=>.string (T j)
theorem mg(T:Nat->Bz)(k:Nat):upS T (k+1)=upS T k++[.string (T k)]:=by unfold upS;simp[List.range_succ]
theorem Cm(x:Nat)(w:World)(b1 b2 b3:Option Addr)(n1 c1 n2 c2 n3 c3:Nat)(P1 P2:Nat->Hd)(P3:Nat->Ls)(T:Nat->Bz)(h1:n1<=1000)(h2:n2<=1000)(h3:n3<=1000)(hx:x<w.heap.size)
  (d0:w.cell? (At x 0)=some (.slice b1 n1 c1)) (d1:w.cell? (At x 1)=some (.slice b2 n2 c2)) (d2:w.cell? (At x 2)=some (.slice b3 n3 c3))
  (hr1:Hid (∀ W,Bl w W->∀ j,j<n1->∃ g,b1=some (At g 0)/\W.cell? (At g (j*3))=some (U3 (P1 j).a)/\W.cell? (At g (j*3+1))=some (I6 (P1 j).n)/\W.cell? (At g (j*3+2))=some (.string (P1 j).o)))
  (HT1:Hid (∀ j,j<n1->∀ Wc,Bl w Wc->Cr prog 150 #[.agg #[U3 (P1 j).a,I6 (P1 j).n,.string (P1 j).o],I6 0] Wc (.string (T (0+j)))))
  (hr2:Hid (∀ W,Bl w W->∀ j,j<n2->∃ g,b2=some (At g 0)/\W.cell? (At g (j*3))=some (U3 (P2 j).a)/\W.cell? (At g (j*3+1))=some (I6 (P2 j).n)/\W.cell? (At g (j*3+2))=some (.string (P2 j).o)))
  (HT2:Hid (∀ j,j<n2->∀ Wc,Bl w Wc->Cr prog 150 #[.agg #[U3 (P2 j).a,I6 (P2 j).n,.string (P2 j).o],I6 3] Wc (.string (T (n1+j)))))
  (hr3:Hid (∀ W,Bl w W->∀ j,j<n3->∃ g,b3=some (At g 0)/\W.cell? (At g (j*2))=some (U3 (P3 j).a)/\W.cell? (At g (j*2+1))=some (.string (P3 j).o)))
  (HT3:Hid (∀ j,j<n3->∀ Wc,Bl w Wc->Cr prog 151 #[.agg #[U3 (P3 j).a,.string (P3 j).o]] Wc (.string (T ((n1+n2)+j))))) :
  Calls prog 102 #[Pq x] w fun e w'=>∃ v,e=.returned v/\w'.ownsRow w.heap.size 9 1 v (n1+n2+n3) (upS T (n1+n2+n3))/\Bl w w':=by
 obtain⟨i0,hi,hz0,hz1,hz2'⟩:=info_parts zl;go_enter func102,ntmps102
 go_wp2;go_loopw [3,5,15] (fun v _ i wr=>∃ j:Nat,j<=n1/\i=I6 j/\Hid (wr.ownsRow w.heap.size 9 1 v (0+j) (upS T (0+j))/\Bl w wr)) (fun _ _ i _=>n1-(intOf i).toNat)
 case atStart=>exact⟨0,Nat.zero_le _,rfl,⟨World.ownsRow_nil _ _ _ _,Below.refl _ _⟩⟩
 case round =>
  obtain⟨j,hj,rfl,O⟩:=hrel;obtain⟨b4,c4,rfl,hn4,hm4⟩:=ae O.o.1;by_cases hlt:j<n1
  ·obtain⟨g,rfl,k0,k1,k2⟩:=hr1.o wr O.o.2 j hlt;have hcall:=HT1.o j hlt;generalize P1 j=y at k0 k1 k2 hcall
   obtain⟨t,ht⟩:∃ t,t=T (0+j):=⟨_,rfl⟩
   rw[<- ht] at hcall;replace hcall:Hid _:=hcall;replace ht:Hid _:=ht;obtain⟨m,hm⟩:∃ m,m=0+j:=⟨_,rfl⟩
   rw[<- hm] at O hn4 ⊢;have hm6:m<=10000:=by omega
   have HM:Hid (m=0+j):=hm
   obtain⟨l5,hl5⟩:∃ l5,l5=upS T m:=⟨_,rfl⟩
   rw[<- hl5] at O;replace hl5:Hid _:=hl5;have hltz:(j:Int)<(n1:Int):=by omega
   have hz:=O.o.2.size;clear hm;go_wp2_with (first
    | (go_at_call 150;refine Mo (hcall.o _ (by have hp:=O.o.2;exact upB)) fun w2 hq2=>?_;have HB2:Hid (Bl wr w2):=al upB (Nat.le_refl _) hq2;have hz2:=HB2.o.size;clear hq2;have ho2:=av O.o.1 HB2.o)
    | (at_builtin;refine wpList_append_own _ rfl _ _ 31 rfl w.heap.size 9 i0 (.string ByteArray.empty) 1 16 underlying31 hi hz0 hz1 hz2' rfl dE _ _ _ rfl (ho2.alloc _) (At w2.heap.size 0) 1 1 [.string t] rfl rfl ?c1 ?c2 ?c3 ?c4 ?c5 ?_)
    | go_in)
   case c1 =>
    intro j u hj;match j,hj with
    | 0,hj=>simp at hj;subst hj;simp[Addr.add]
   case c2=>intro u hu;simp at hu;subst hu;rfl
   case c3=>unfold maxLen;omega
   case c4=>omega
   case c5=>simp;omega
   intro v4 w4 ho4 hg4 _;have hlow:Bl w w4:=(((O.o.2.trans (HB2.o.mono hz)).alloc om _)).grown hg4 (by simp;omega) (fun r hr=>(ho2.lt r hr).1)
   have HN:Hid (w4.ownsRow w.heap.size 9 1 v4 (m+1) (upS T (m+1))/\Bl w w4):=⟨by rw[mg,<- hl5.o,HM.o,<- ht.o,<- HM.o];exact ho4,hlow⟩
   clear ho4 hg4 hlow ho2;go_wp2;go_roundw
   case rel=>exact⟨j+1,by omega,by go_num,by have h:=HN.o;rw[HM.o] at h;exact h⟩
   case measure=>simp[intOf];omega
  ·obtain rfl:n1=j:=by omega
   have hkm:¬(n1:Int)<(n1:Int):=by omega
   obtain⟨m1,hm1⟩:∃ m,m=0+n1:=⟨_,rfl⟩
   rw[<- hm1] at O ⊢;have O1:Hid (wr.ownsRow w.heap.size 9 1 (.slice b4 m1 c4) (n1+0) (upS T (n1+0))/\Bl w wr):=by
    have h:=O.o;rw[show n1+0=m1 by omega];exact h
   have kx:wr.cell? (At x 1)=some (.slice b2 n2 c2):=(O.o.2.cell (p:=At x 1) hx).trans d1
   clear O hn4 hm4 hj hlt hm1;go_wp2;go_loopw [3,7,31] (fun v _ i wr=>∃ j:Nat,j<=n2/\i=I6 j/\Hid (wr.ownsRow w.heap.size 9 1 v (n1+j) (upS T (n1+j))/\Bl w wr)) (fun _ _ i _=>n2-(intOf i).toNat)
   case atStart=>exact⟨0,Nat.zero_le _,rfl,O1⟩
   case round =>
    obtain⟨j,hj,rfl,O⟩:=hrel;obtain⟨b4,c4,rfl,hn4,hm4⟩:=ae O.o.1;by_cases hlt:j<n2
    ·obtain⟨g,rfl,k0,k1,k2⟩:=hr2.o wr O.o.2 j hlt;have hcall:=HT2.o j hlt;generalize P2 j=y at k0 k1 k2 hcall
     obtain⟨t,ht⟩:∃ t,t=T (n1+j):=⟨_,rfl⟩
     rw[<- ht] at hcall;replace hcall:Hid _:=hcall;replace ht:Hid _:=ht;obtain⟨m,hm⟩:∃ m,m=n1+j:=⟨_,rfl⟩
     rw[<- hm] at O hn4 ⊢;have hm6:m<=10000:=by omega
     have HM:Hid (m=n1+j):=hm
     obtain⟨l5,hl5⟩:∃ l5,l5=upS T m:=⟨_,rfl⟩
     rw[<- hl5] at O;replace hl5:Hid _:=hl5;have hltz:(j:Int)<(n2:Int):=by omega
     have hz:=O.o.2.size;clear hm;go_wp2_with (first
      | (go_at_call 150;refine Mo (hcall.o _ (by have hp:=O.o.2;exact upB)) fun w2 hq2=>?_;have HB2:Hid (Bl wr w2):=al upB (Nat.le_refl _) hq2;have hz2:=HB2.o.size;clear hq2;have ho2:=av O.o.1 HB2.o)
      | (at_builtin;refine wpList_append_own _ rfl _ _ 31 rfl w.heap.size 9 i0 (.string ByteArray.empty) 1 16 underlying31 hi hz0 hz1 hz2' rfl dE _ _ _ rfl (ho2.alloc _) (At w2.heap.size 0) 1 1 [.string t] rfl rfl ?c1 ?c2 ?c3 ?c4 ?c5 ?_)
      | go_in)
     case c1 =>
      intro j u hj;match j,hj with
      | 0,hj=>simp at hj;subst hj;simp[Addr.add]
     case c2=>intro u hu;simp at hu;subst hu;rfl
     case c3=>unfold maxLen;omega
     case c4=>omega
     case c5=>simp;omega
     intro v4 w4 ho4 hg4 _;have hlow:Bl w w4:=(((O.o.2.trans (HB2.o.mono hz)).alloc om _)).grown hg4 (by simp;omega) (fun r hr=>(ho2.lt r hr).1)
     have HN:Hid (w4.ownsRow w.heap.size 9 1 v4 (m+1) (upS T (m+1))/\Bl w w4):=⟨by rw[mg,<- hl5.o,HM.o,<- ht.o,<- HM.o];exact ho4,hlow⟩
     clear ho4 hg4 hlow ho2;go_wp2;go_roundw
     case rel=>exact⟨j+1,by omega,by go_num,by have h:=HN.o;rw[HM.o] at h;exact h⟩
     case measure=>simp[intOf];omega
    ·obtain rfl:n2=j:=by omega
     have hkm:¬(n2:Int)<(n2:Int):=by omega
     obtain⟨m2,hm2⟩:∃ m,m=n1+n2:=⟨_,rfl⟩
     rw[<- hm2] at O ⊢;have O2:Hid (wr.ownsRow w.heap.size 9 1 (.slice b4 m2 c4) ((n1+n2)+0) (upS T ((n1+n2)+0))/\Bl w wr):=by
      have h:=O.o;rw[show (n1+n2)+0=m2 by omega];exact h
     have kx:wr.cell? (At x 2)=some (.slice b3 n3 c3):=(O.o.2.cell (p:=At x 2) hx).trans d2
     clear O hn4 hm4 hj hlt hm2;go_wp2;go_loopw [3,9,47] (fun v _ i wr=>∃ j:Nat,j<=n3/\i=I6 j/\Hid (wr.ownsRow w.heap.size 9 1 v ((n1+n2)+j) (upS T ((n1+n2)+j))/\Bl w wr)) (fun _ _ i _=>n3-(intOf i).toNat)
     case atStart=>exact⟨0,Nat.zero_le _,rfl,O2⟩
     case round =>
      obtain⟨j,hj,rfl,O⟩:=hrel;obtain⟨b4,c4,rfl,hn4,hm4⟩:=ae O.o.1;by_cases hlt:j<n3
      ·obtain⟨g,rfl,k0,k1⟩:=hr3.o wr O.o.2 j hlt;have hcall:=HT3.o j hlt;generalize P3 j=y at k0 k1 hcall
       obtain⟨t,ht⟩:∃ t,t=T ((n1+n2)+j):=⟨_,rfl⟩
       rw[<- ht] at hcall;replace hcall:Hid _:=hcall;replace ht:Hid _:=ht;obtain⟨m,hm⟩:∃ m,m=(n1+n2)+j:=⟨_,rfl⟩
       rw[<- hm] at O hn4 ⊢;have hm6:m<=10000:=by omega
       have HM:Hid (m=(n1+n2)+j):=hm
       obtain⟨l5,hl5⟩:∃ l5,l5=upS T m:=⟨_,rfl⟩
       rw[<- hl5] at O;replace hl5:Hid _:=hl5;have hltz:(j:Int)<(n3:Int):=by omega
       have hz:=O.o.2.size;clear hm;go_wp2_with (first
        | (go_at_call 151;refine Mo (hcall.o _ (by have hp:=O.o.2;exact upB)) fun w2 hq2=>?_;have HB2:Hid (Bl wr w2):=al upB (Nat.le_refl _) hq2;have hz2:=HB2.o.size;clear hq2;have ho2:=av O.o.1 HB2.o)
        | (at_builtin;refine wpList_append_own _ rfl _ _ 31 rfl w.heap.size 9 i0 (.string ByteArray.empty) 1 16 underlying31 hi hz0 hz1 hz2' rfl dE _ _ _ rfl (ho2.alloc _) (At w2.heap.size 0) 1 1 [.string t] rfl rfl ?c1 ?c2 ?c3 ?c4 ?c5 ?_)
        | go_in)
       case c1 =>
        intro j u hj;match j,hj with
        | 0,hj=>simp at hj;subst hj;simp[Addr.add]
       case c2=>intro u hu;simp at hu;subst hu;rfl
       case c3=>unfold maxLen;omega
       case c4=>omega
       case c5=>simp;omega
       intro v4 w4 ho4 hg4 _;have hlow:Bl w w4:=(((O.o.2.trans (HB2.o.mono hz)).alloc om _)).grown hg4 (by simp;omega) (fun r hr=>(ho2.lt r hr).1)
       have HN:Hid (w4.ownsRow w.heap.size 9 1 v4 (m+1) (upS T (m+1))/\Bl w w4):=⟨by rw[mg,<- hl5.o,HM.o,<- ht.o,<- HM.o];exact ho4,hlow⟩
       clear ho4 hg4 hlow ho2;go_wp2;go_roundw
       case rel=>exact⟨j+1,by omega,by go_num,by have h:=HN.o;rw[HM.o] at h;exact h⟩
       case measure=>simp[intOf];omega
      ·obtain rfl:n3=j:=by omega
       have hkm:¬(n3:Int)<(n3:Int):=by omega
       go_wp2;go_ret;exact⟨_,rfl,O.o.1,O.o.2⟩
theorem tu{α:Type}(f:Lu->α)(l:List (Lu)):(List.range l.length).map (fun j=>f (l.getD j []))=l.map f:=by
 apply List.ext_getElem?
 intro i;by_cases h:i<l.length
 ·rw[List.getElem?_map,List.getElem?_map,List.getElem?_range h];simp[List.getD_eq_getElem?_getD,List.getElem?_eq_getElem h]
 ·rw[List.getElem?_eq_none (by simp;omega),List.getElem?_eq_none (by simp;omega)]
theorem gZ{α β:Type}(f:α->β)(l:List α)(d:α)(e:β)(i:Nat)(h:i<l.length):(l.map f).getD i e=f (l.getD i d):=by
 simp[List.getD_eq_getElem?_getD,List.getElem?_eq_getElem h]
theorem mX{α:Type}(a b:List α)(d:α)(i:Nat)(h:i<a.length):(a++b).getD i d=a.getD i d:=by
 rw[List.getD_eq_getElem?_getD,List.getD_eq_getElem?_getD,List.getElem?_append_left h]
theorem mY{α:Type}(a b:List α)(d:α)(i:Nat)(h:a.length<=i):(a++b).getD i d=b.getD (i-a.length) d:=by
 rw[List.getD_eq_getElem?_getD,List.getD_eq_getElem?_getD,List.getElem?_append_right h]
theorem Az(s:Bk):upS (fun j=>byt ((b7 s).getD j [])) (s.pools.length+s.nets.length+s.leases.length)=(b7 s).map fun r=>Value.string (byt r):=by
 have e:s.pools.length+s.nets.length+s.leases.length=(b7 s).length:=by unfold b7;simp;omega
 rw[e];unfold upS;exact tu (fun r=>Value.string (byt r)) (b7 s)
theorem yF(x:Nat)(w:World)(s:Bk)(vp vn vl:Value)(E:di w)(hI:Inv s)(hb:Blk w x #[vp,vn,vl] 160)(rp:Rd 3 ak hd0 w vp s.pools)(rn:Rd 3 ak hd0 w vn s.nets)(rl:Rd 2 br ls0 w vl s.leases):Calls prog 102 #[Pq x] w fun e w'=>∃ v,e=.returned v/\w'.ownsRow w.heap.size 9 1 v (b7 s).length ((b7 s).map fun r=>Value.string (byt r))/\Bl w w':=by
 obtain⟨b1,c1,rfl,_,_,q1⟩:=rp;obtain⟨b2,c2,rfl,_,_,q2⟩:=rn;obtain⟨b3,c3,rfl,_,_,q3⟩:=rl;have i1:=hI.p;have i2:=hI.n;have i3:=hI.l;have h:=Cm x w b1 b2 b3 s.pools.length c1 s.nets.length c2 s.leases.length c3 (fun j=>s.pools.getD j hd0) (fun j=>s.nets.getD j hd0) (fun j=>s.leases.getD j ls0) (fun j=>byt ((b7 s).getD j [])) om om om hb.lt (hb.cell 0) (hb.cell 1) (hb.cell 2)
  (fun W hW j hj=>by
   obtain⟨g,hg,hlt,hc⟩:=q1 (by intro e;rw[e] at hj;simp at hj)
   have hc:=hc j hj;exact⟨g,hg,(hW.cell (p:=At g (j*3)) hlt).trans (hc 0 _ rfl),(hW.cell (p:=At g (j*3+1)) hlt).trans (hc 1 _ rfl),(hW.cell (p:=At g (j*3+2)) hlt).trans (hc 2 _ rfl)⟩)
  (fun j hj Wc hW=>by
   obtain⟨a1,a2,_,_,a3⟩:=hI.pa _ (aJ hd0 hj)
   have h:=qf 0 (.inl rfl) (s.pools.getD j hd0) Wc (E.mono hW) a1 a2 a3
   have e:(b7 s).getD (0+j) []=iz 0 xT (s.pools.getD j hd0).o.data.toList (cF (s.pools.getD j hd0).a (s.pools.getD j hd0).n):=by
    unfold b7;rw[Nat.zero_add,List.append_assoc,mX _ _ _ _ (by simpa using hj),gZ qX s.pools hd0 _ j hj];rfl
   show Calls _ _ _ _ fun e w'=>e=.returned (.string (byt ((b7 s).getD (0+j) [])))/\_
   rw[e];exact h)
  (fun W hW j hj=>by
   obtain⟨g,hg,hlt,hc⟩:=q2 (by intro e;rw[e] at hj;simp at hj)
   have hc:=hc j hj;exact⟨g,hg,(hW.cell (p:=At g (j*3)) hlt).trans (hc 0 _ rfl),(hW.cell (p:=At g (j*3+1)) hlt).trans (hc 1 _ rfl),(hW.cell (p:=At g (j*3+2)) hlt).trans (hc 2 _ rfl)⟩)
  (fun j hj Wc hW=>by
   obtain⟨a1,a2,_,a3⟩:=hI.na _ (aJ hd0 hj)
   have h:=qf 3 (.inr rfl) (s.nets.getD j hd0) Wc (E.mono hW) a1 a2 a3
   have e:(b7 s).getD (s.pools.length+j) []=iz 3 xT (s.nets.getD j hd0).o.data.toList (cF (s.nets.getD j hd0).a (s.nets.getD j hd0).n):=by
    unfold b7;rw[List.append_assoc,mY _ _ _ _ sM,show s.pools.length+j-(s.pools.map qX).length=j by simp,mX _ _ _ _ (by simpa using hj),gZ tI s.nets hd0 _ j hj];rfl
   show Calls _ _ _ _ fun e w'=>e=.returned (.string (byt ((b7 s).getD (s.pools.length+j) [])))/\_
   rw[e];exact h)
  (fun W hW j hj=>by
   obtain⟨g,hg,hlt,hc⟩:=q3 (by intro e;rw[e] at hj;simp at hj)
   have hc:=hc j hj;exact⟨g,hg,(hW.cell (p:=At g (j*2)) hlt).trans (hc 0 _ rfl),(hW.cell (p:=At g (j*2+1)) hlt).trans (hc 1 _ rfl)⟩)
  (fun j hj Wc hW=>by
   obtain⟨a1,a3⟩:=hI.la _ (aJ ls0 hj)
   have h:=zG (s.leases.getD j ls0) Wc (E.mono hW) a1 a3
   have e:(b7 s).getD (s.pools.length+s.nets.length+j) []=qW (s.leases.getD j ls0):=by
    unfold b7;rw[mY _ _ _ _ sM,show s.pools.length+s.nets.length+j-(s.pools.map qX++s.nets.map tI).length=j by simp,gZ qW s.leases ls0 _ j hj]
   show Calls _ _ _ _ fun e w'=>e=.returned (.string (byt ((b7 s).getD (s.pools.length+s.nets.length+j) [])))/\_
   rw[e];exact h)
 rw[Az] at h;have e:s.pools.length+s.nets.length+s.leases.length=(b7 s).length:=by unfold b7;simp;omega
 rw[e] at h;exact h
theorem FD(x c:Nat)(w:World)(n1 n2:Nat)(R L A:Nat->Bz)(Q1 Q2:Value->Nat->World->Prop)(F:Ending->World->Prop)(h1:n1<=1000)(h2:n2<=1000)
  (hR:∀ k,(R k).size<=1000) (hL:∀ k,(L k).size<=1000) (hA:∀ k,(A k).size<=1000)
  (V1:Hid (∀ v k W,Q1 v k W->∃ b cap,v=.slice b n1 cap/\(k<n1->∃ g,b=some (At g 0)/\W.cell? (At g k)=some (.string (R k)))))
  (C1:Hid (∀ v k W,Q1 v k W->W.cell? (At w.heap.size 0)=some (.chan (some c))))
  (V2:Hid (∀ v k W,Q2 v k W->∃ b cap,v=.slice b n2 cap/\(k<n2->∃ g u,b=some (At g 0)/\W.cell? (At g (k*3))=some (.string u)/\W.cell? (At g (k*3+1))=some (.string (L k))/\W.cell? (At g (k*3+2))=some (.string (A k)))))
  (A2:Hid (∀ v k W o,Q2 v k W->Q2 v k (W.alloc o)))
  (HC:Hid (Calls prog 102 #[Pq x] ((w.alloc (.cells #[.chan (some c)] 88)).alloc (.cells #[.pointer none,.slice none 0 0] 139)) fun e w'=>∃ v,e=.returned v/\Q1 v 0 w'))
  (HW1:Hid (∀ v k W,Q1 v k W->k<n1->Calls prog 62 #[Pq (w.heap.size+1),.string (R k++⟨#[10]⟩)] W fun e w'=>(∃ r,e=.returned r)/\Q1 v (k+1) w'))
  (HA:Hid (∀ v W,Q1 v n1 W->Calls prog 95 #[.agg #[.chan (some c)]] W fun e w'=>∃ v,e=.returned v/\Q2 v 0 w'))
  (HW2:Hid (∀ v k W,Q2 v k W->k<n2->Calls prog 62 #[Pq (w.heap.size+1),.string (L k++⟨#[61]⟩++A k++⟨#[10]⟩)] W fun e w'=>(∃ r,e=.returned r)/\Q2 v (k+1) w'))
  (HS:Hid (∀ v W,Q2 v n2 W->Calls prog 63 #[Pq (w.heap.size+1)] W fun e w'=>∃ t,e=.returned (.string t)/\F (.returned (.string t)) w')) :
  Calls prog 68 #[Pq x,.agg #[.chan (some c)]] w F:=by
 replace HC:Hid (Calls prog 102 #[Pq x] ((w.alloc (.cells #[.chan (some c)] 88)).alloc (.cells #[.pointer none,.slice none 0 0] 139)) fun e w'=>∃ b cap,e=.returned (.slice b n1 cap)/\Hid (Q1 (.slice b n1 cap) 0 w')):=by
  refine HC.o.mono ?_
  rintro e w' ⟨v,rfl,h⟩
  obtain⟨b,cap,rfl,_⟩:=V1.o _ _ _ h;exact⟨b,cap,rfl,h⟩
 replace HA:Hid (∀ v W,Q1 v n1 W->Calls prog 95 #[.agg #[.chan (some c)]] W fun e w'=>∃ b cap,e=.returned (.slice b n2 cap)/\Hid (Q2 (.slice b n2 cap) 0 w')):=fun v W hW=>by
  refine(HA.o v W hW).mono ?_
  rintro e w' ⟨v,rfl,h⟩
  obtain⟨b,cap,rfl,_⟩:=V2.o _ _ _ h;exact⟨b,cap,rfl,h⟩
 replace hR:Hid (∀ k,(R k).size<=1000):=hR;replace hL:Hid (∀ k,(L k).size<=1000):=hL;replace hA:Hid (∀ k,(A k).size<=1000):=hA;go_enter func68,ntmps68
 go_wp2_with (go_at_call 102;refine HC.o.mono ?_;rintro e w1 ⟨b1,cap1,rfl,q1⟩)
 go_loopw [7,13] (fun _ i wr=>∃ k:Nat,k<=n1/\i=I6 k/\Hid (Q1 (.slice b1 n1 cap1) k wr)) (fun _ i _=>n1-(intOf i).toNat)
 case atStart=>exact⟨0,Nat.zero_le _,rfl,q1⟩
 case round =>
  obtain⟨k,hk,rfl,H⟩:=hrel;by_cases hlt:k<n1
  ·obtain⟨b,cap,e0,hv⟩:=V1.o _ _ _ H.o
   cases e0;obtain⟨g,rfl,d0⟩:=hv hlt;have hw:=HW1.o _ _ _ H.o hlt;have hs:=hR.o k;generalize R k=t at d0 hw hs
   replace hw:Hid (Calls prog 62 #[Pq (w.heap.size+1),.string (t++⟨#[10]⟩)] wr fun e w'=>(∃ r,e=.returned r)/\Q1 (Sq g n1 cap1) (k+1) w'):=hw
   have hs1:¬9223372036854775807<t.size+1:=by omega
   have hltz:(k:Int)<(n1:Int):=by omega
   go_wp2_with (go_at_call 62;refine hw.o.mono ?_;rintro e w2 ⟨⟨r,rfl⟩,q2⟩;replace q2:Hid (Q1 (Sq g n1 cap1) (k+1) w2):=q2)
   go_roundw
   case rel=>exact⟨k+1,by omega,by go_num,q2⟩
   case measure=>simp[intOf];omega
  ·obtain rfl:n1=k:=by omega
   have hkm:¬(n1:Int)<(n1:Int):=by omega
   have d0:=C1.o _ _ _ H.o;have ha:=HA.o _ _ H.o;replace ha:Hid (Calls prog 95 #[.agg #[.chan (some c)]] wr fun e w'=>∃ b cap,e=.returned (.slice b n2 cap)/\Hid (Q2 (.slice b n2 cap) 0 w')):=ha
   clear hk hlt;go_wp2_with (go_at_call 95;refine ha.o.mono ?_;rintro e w3 ⟨b2,cap2,rfl,q3⟩)
   go_loopw [9,24] (fun _ i wr=>∃ k:Nat,k<=n2/\i=I6 k/\Hid (Q2 (.slice b2 n2 cap2) k wr)) (fun _ i _=>n2-(intOf i).toNat)
   case atStart=>exact⟨0,Nat.zero_le _,rfl,q3⟩
   case round =>
    obtain⟨k,hk,rfl,H⟩:=hrel;by_cases hlt:k<n2
    ·obtain⟨b,cap,e0,hv⟩:=V2.o _ _ _ H.o
     cases e0;obtain⟨g,u,rfl,d0,d1,d2⟩:=hv hlt;have hw:=fun o=>HW2.o _ _ _ (A2.o _ _ _ o H.o) hlt
     have hs:=hL.o k;have hs':=hA.o k;generalize L k=t at d1 hw hs
     generalize A k=t' at d2 hw hs'
     replace hw:Hid (∀ o,Calls prog 62 #[Pq (w.heap.size+1),.string (t++⟨#[61]⟩++t'++⟨#[10]⟩)] (wr.alloc o) fun e w'=>(∃ r,e=.returned r)/\Q2 (Sq g n2 cap2) (k+1) w'):=hw
     have hs1:¬9223372036854775807<t.size+1:=by omega
     have hs2:¬9223372036854775807<t.size+1+t'.size:=by omega
     have hs3:¬9223372036854775807<t.size+1+t'.size+1:=by omega
     have hltz:(k:Int)<(n2:Int):=by omega
     go_wp2_with (go_at_call 62;refine(hw.o _).mono ?_;rintro e w2 ⟨⟨r,rfl⟩,q2⟩;replace q2:Hid (Q2 (Sq g n2 cap2) (k+1) w2):=q2)
     go_roundw
     case rel=>exact⟨k+1,by omega,by go_num,q2⟩
     case measure=>simp[intOf];omega
    ·obtain rfl:n2=k:=by omega
     have hkm:¬(n2:Int)<(n2:Int):=by omega
     have hs:=HS.o _ _ H.o;replace hs:Hid (Calls prog 63 #[Pq (w.heap.size+1)] wr fun e w'=>∃ t,e=.returned (.string t)/\F (.returned (.string t)) w'):=hs
     go_wp2_with (go_at_call 63;refine hs.o.mono ?_;rintro e w5 ⟨t,rfl,hf⟩;replace hf:Hid (F (.returned (.string t)) w5):=hf)
     exact hf.o
end
section
open Go.RowKit Go.Shelf Go.Proofs.Tryz
abbrev oY(B b:Nat)(l:Lu)(w:World):Prop:=Lib.IsBuilderF 139 5 B b (Lib.byteCells l) w
theorem BR(B b:Nat)(l:Lu)(s:Bz)(w:World)(h:oY B b l w)(hl:l.length+s.size<=1000000)(hB:B<=w.heap.size):Calls prog 62 #[Pq b,.string s] w fun e w'=>(∃ r,e=.returned r)/\oY B b (l++s.data.toList) w'/\Below B w w'/\Lib.OthersKept 5 (some b) w w':=by
 refine(Any.Builder_WriteString_k { Tryz.lays156 with } Tryz.Builder_Extra_156 B b (Lib.byteCells l) s w h (by rw[Lib.byteCells_length];omega) hB).mono ?_
 rintro e w' ⟨rfl,h1,h2,h3⟩
 refine⟨⟨_,rfl⟩,?_,h2,h3⟩
 have e1:Lib.byteCells (l++s.data.toList)=Lib.byteCells l++Lib.strCells s:=by rw[Lib.strCells_eq];simp[Lib.byteCells]
 show Lib.IsBuilderF _ _ B b (Lib.byteCells (l++s.data.toList)) w'
 rw[e1];exact .inr h1
theorem El(B b:Nat)(l:Lu)(w:World)(h:oY B b l w)(h0:l≠[]):Calls prog 63 #[Pq b] w fun e w'=>e=.returned (.string ⟨l.toArray⟩)/\Below B w w'/\Lib.OthersKept 5 (some b) w w':=by
 refine(Any.Builder_String_k Tryz.lays169 Tryz.Builder_Extra_169 B b l w h h0).mono ?_
 rintro e w' ⟨rfl,_,h2,h3⟩
 exact⟨rfl,h2,h3⟩
theorem jN{B b:Nat}{l:Lu}{w w':World}(h:oY B b l w)(e:∀ k,B<=k->k<w.heap.size->w'.heap[k]?=w.heap[k]?):oY B b l w':=by
 have hx:∀ p,Lib.BuilderAtF 139 5 B b p (Lib.byteCells l) w->Lib.BuilderAtF 139 5 B b p (Lib.byteCells l) w':=by
  rintro p ⟨hB,v,hb,ho,hne⟩
  refine⟨hB,v,(e b hB (Array.getElem?_eq_some_iff.1 hb).1).trans hb,⟨ho.1,?_⟩,hne⟩
  rcases ho.2 with hn|⟨g,cap,cur,fz,rfl,h1,hg,rest⟩
  ·exact .inl hn
  ·exact .inr ⟨g,cap,cur,fz,rfl,h1,(e g h1 (Array.getElem?_eq_some_iff.1 hg).1).trans hg,rest⟩
 exact h.elim (fun q=>.inl (hx _ q)) (fun q=>.inr (hx _ q))
theorem nz{w w':World}{B b:Nat}{t:TypeId}{k:Nat}{v:Value}{n:Nat}{xs:List Value}(h:w.ownsRow B t k v n xs)(ht:t≠5)(hb:b<B)(hk:Lib.OthersKept 5 (some b) w w'):w'.ownsRow B t k v n xs:=by
 refine⟨h.1,?_⟩
 rcases h.2 with hn|⟨g,cap,cur,rfl,h1,hg,rest⟩
 ·exact .inl hn
 ·refine .inr ⟨g,cap,cur,rfl,h1,hk g _ hg (by intro e;cases e;omega) (by intro c fz e;injection e with e1 e2 e3;exact ht e2),rest⟩
theorem oh{α:Type}(f:α->Lu)(m:Nat):∀ l:List α,(∀ x,x∈l->(f x).length<=m)->(l.flatMap f).length<=m*l.length:=by
 intro l;induction l with
 | nil=>intro _;simp
 | cons x r ih =>
  intro h;have h1:=h x sM
  have h2:=ih fun y hy=>h y (by simp[hy])
  rw[List.flatMap_cons,List.length_append,List.length_cons,Nat.mul_succ];omega
theorem nZ{k:Nat}(hk:k=0\/k=3\/k=6)(o r:Lu)(ho:o.length<=8)(hr:r.length<=18):(iz k xT o r).length<=40:=by
 have hv:(fW k).length<=8:=by rcases hk with rfl|rfl|rfl<;>decide
 have hx:xT.length=1:=rfl
 unfold iz;simp only[List.length_append,List.length_cons]
 omega
theorem dP(b:Bz):b.data.toList.length=b.size:=Array.length_toList
theorem pt{a n:Int}(ha:ad a)(hr:rt a n=true):(cF a n).length<=18:=by
 obtain⟨r1,r2,_⟩:=aj.1 hr;have:=oW a.toNat n.toNat (by unfold ad at ha;omega) om
 unfold cF;omega
theorem lW{s:Bk}(hI:Inv s):∀ r,r∈b7 s->r.length<=40:=by
 intro r hr;unfold b7 at hr;rcases List.mem_append.1 hr with hr|hr
 ·rcases List.mem_append.1 hr with hr|hr
  ·obtain⟨h,hh,rfl⟩:=List.mem_map.1 hr;obtain⟨a1,a2,a3,a4,a5⟩:=hI.pa h hh;exact nZ (.inl rfl) _ _ (by rw[dP];exact a5) (pt a1 a2)
  ·obtain⟨h,hh,rfl⟩:=List.mem_map.1 hr;obtain⟨a1,a2,a3,a5⟩:=hI.na h hh;exact nZ (.inr (.inl rfl)) _ _ (by rw[dP];exact a5) (pt a1 a2)
 ·obtain⟨h,hh,rfl⟩:=List.mem_map.1 hr;obtain⟨a1,a5⟩:=hI.la h hh;exact nZ (.inr (.inr rfl)) _ _ (by rw[dP];exact a5) (by have:=(fI h.a.toNat (by have:=a1.1;have:=a1.2;omega)).2;omega)
def fB(L:List (Lu))(k:Nat):Lu:=(L.take k).flatMap fun r=>r++[10]
theorem mA(L:List (Lu))(k:Nat)(hk:k<L.length):fB L (k+1)=fB L k++(L.getD k []++[10]):=by
 unfold fB;rw[List.take_succ_eq_append_getElem hk,List.flatMap_append,List.getD_eq_getElem?_getD,List.getElem?_eq_getElem hk];simp
theorem iS(L:List (Lu))(m:Nat)(h:∀ r,r∈L->r.length<=m)(k:Nat):(fB L k).length<=(m+1)*L.length:=by
 have h1:=oh (fun r:Lu=>r++[10]) (m+1) (L.take k) (fun x hx=>by have:=h x (List.mem_of_mem_take hx);simp;omega)
 have h2:(L.take k).length<=L.length:=by simp;omega
 exact Nat.le_trans h1 (Nat.mul_le_mul_left _ h2)
theorem iR(L:List (Lu)):fB L L.length=L.flatMap fun r=>r++[10]:=by unfold fB;rw[List.take_length]
theorem lX{x:Tk}(h1:x.l.size<=100)(h2:x.r.size<=40):(fR x).length<=150:=by
 unfold fR;simp only[List.length_append,List.length_cons,dP];omega
theorem iP(s:Bk):cr s=fB (b7 s) (b7 s).length++fB (s.toks.map fR) (s.toks.map fR).length:=by
 rw[iR,iR];unfold cr ey;rw[List.flatMap_append]
theorem jX{s:Bk}(hI:Inv s):(b7 s).length<=70:=by
 have:=hI.p;have:=hI.n;have:=hI.l
 unfold b7;simp;omega
theorem qZ{s:Bk}(hI:Inv s)(hT:∀ x,x∈s.toks->x.l.size<=100/\x.r.size<=40):(cr s).length<=8000:=by
 rw[iP,List.length_append];have h1:=iS (b7 s) 40 (lW hI) (b7 s).length
 have h2:=iS (s.toks.map fR) 150 (fun r hr=>by obtain⟨x,hx,rfl⟩:=List.mem_map.1 hr;exact lX (hT x hx).1 (hT x hx).2) (s.toks.map fR).length
 have h3:=jX hI;have h4:=hI.t;rw[List.length_map] at h2;have h5:41*(b7 s).length<=41*70:=Nat.mul_le_mul_left _ h3
 have h6:151*s.toks.length<=151*8:=Nat.mul_le_mul_left _ h4
 rw[List.length_map];omega
def SQ1(w:World)(c:Nat)(L:List (Lu))(v:Value)(k:Nat)(W:World):Prop :=
 k<=L.length/\Below (w.heap.size+1) (w.alloc (.cells #[.chan (some c)] 88)) W/\oY (w.heap.size+1) (w.heap.size+1) (fB L k) W/\W.ownsRow (w.heap.size+2) 9 1 v L.length (L.map fun r=>Value.string (byt r))
def SQ2(w:World)(c:Nat)(p:Lu)(l:List Tk)(v:Value)(k:Nat)(W:World):Prop :=
 k<=l.length/\w.grownBy W (some c)/\w.heap.size+2<=W.heap.size/\Ch W c l/\oY (w.heap.size+1) (w.heap.size+1) (p++fB (l.map fR) k) W/\W.ownsRow (w.heap.size+2) 145 3 v l.length (l.flatMap gu)
theorem yS(L:List (Lu)):(L.map fun r=>Value.string (byt r))=(L.map byt).flatMap bV:=by
 induction L with
 | nil=>rfl
 | cons x r ih=>simp only[List.map_cons,List.flatMap_cons,ih];rfl
theorem qe{a b d:World}{c:Option Nat}(h:a.grownBy b c)(k:b.grownBy d c):a.grownBy d c :=
 ⟨k.os.trans h.os,k.tape.trans h.tape,k.output.trans h.output,Nat.le_trans h.size k.size,fun i hi hc=>(k.block i (Nat.lt_of_lt_of_le hi h.size) hc).trans (h.block i hi hc)⟩
theorem xp(x c:Nat)(w:World)(s:Bk)(vp vn vl:Value)(E:di w)(hI:Inv s)(hb:Blk w x #[vp,vn,vl] 160)(rp:Rd 3 ak hd0 w vp s.pools)(rn:Rd 3 ak hd0 w vn s.nets)(rl:Rd 2 br ls0 w vl s.leases)
  (hc:Ch w c s.toks) (ht:s.toks≠[]) (hT:∀ x,x∈s.toks->x.l.size<=100/\x.r.size<=40) :
  Calls prog 68 #[Pq x,.agg #[.chan (some c)]] w fun e w'=>e=.returned (.string (byt (cr s)))/\Ch w' c s.toks/\w.grownBy w' (some c):=by
 have hcl:=hc.lt;obtain⟨L,hL⟩:∃ L,L=b7 s:=⟨_,rfl⟩
 have hLl:∀ r,r∈L->r.length<=40:=by rw[hL];exact lW hI
 have hLn:L.length<=70:=by rw[hL];exact jX hI
 have h8:=hI.t;obtain⟨Wt,hWt⟩:∃ Wt,Wt=w.alloc (.cells #[.chan (some c)] 88):=⟨_,rfl⟩
 have zt:Wt.heap.size=w.heap.size+1:=by rw[hWt];simp
 have bt:Bl w Wt:=by rw[hWt];exact(Below.refl _ w).alloc (Nat.le_refl _) _
 have b0:Blk Wt w.heap.size #[.chan (some c)] 88:=by rw[hWt];exact Blk.new w _ _
 have pl:∀ k,(fB L k).length<=3000:=fun k=>by
  have h1:=iS L 40 hLl k;have h5:41*L.length<=41*70:=Nat.mul_le_mul_left _ hLn
  omega
 have ql:∀ k,(fB (s.toks.map fR) k).length<=3000:=fun k=>by
  have h2:=iS (s.toks.map fR) 150 (fun r hr=>by obtain⟨x,hx,rfl⟩:=List.mem_map.1 hr;exact lX (hT x hx).1 (hT x hx).2) k
  rw[List.length_map] at h2;have h6:151*s.toks.length<=151*8:=Nat.mul_le_mul_left _ h8
  omega
 have rl40:∀ k,(byt (L.getD k [])).size<=1000:=fun k=>by
  have e:(byt (L.getD k [])).size=(L.getD k []).length:=by rw[<- dP];rfl
  rw[e];by_cases hk:k<L.length
  ·have:=hLl _ (aJ [] hk);omega
  ·rw[List.getD_eq_getElem?_getD,List.getElem?_eq_none om];simp
 have tl:∀ k,(s.toks.getD k tk0).l.size<=1000/\(s.toks.getD k tk0).r.size<=1000:=fun k=>by
  by_cases hk:k<s.toks.length
  ·have:=hT _ (aJ tk0 hk);omega
  ·rw[List.getD_eq_getElem?_getD,List.getElem?_eq_none om];decide
 refine FD x c w L.length s.toks.length (fun k=>byt (L.getD k [])) (fun k=>(s.toks.getD k tk0).l) (fun k=>(s.toks.getD k tk0).r) (SQ1 w c L) (SQ2 w c (fB L L.length) s.toks) _ om om rl40 (fun k=>(tl k).1) (fun k=>(tl k).2) ?v1 ?c1 ?v2 ?a2 ?hc ?hw1 ?ha ?hw2 ?hs
 case v1 =>
  rintro v k W ⟨_,_,_,ho⟩
  have hr:=Rd.of_owns (enc:=bV) (fun _=>rfl) ⟨#[]⟩ (l:=L.map byt) (by rw[<- yS,List.length_map];exact ho)
  obtain⟨b,cap,rfl,_,_,q⟩:=hr;rw[List.length_map] at q ⊢;refine⟨b,cap,rfl,fun hk=>?_⟩
  obtain⟨g,hg,_,hq⟩:=q (by intro e;have:=congrArg List.length e;simp at this;rw[this] at hk;simp at hk)
  refine⟨g,hg,?_⟩
  have h:=hq k hk 0 (.string (byt (L.getD k []))) (by simp[bV,List.getD_eq_getElem?_getD,List.getElem?_eq_getElem hk])
  rw[Nat.mul_one,Nat.add_zero] at h;exact h
 case c1 =>
  rintro v k W ⟨_,hB,_,_⟩
  rw[<- hWt] at hB;exact(hB.cell (p:=At w.heap.size 0) (by show w.heap.size < _;omega)).trans (b0.cell 0)
 case v2 =>
  rintro v k W ⟨_,_,_,_,_,ho⟩
  obtain⟨b,cap,rfl,_,_,q⟩:=Rd.of_owns (enc:=gu) (fun _=>rfl) tk0 ho
  refine⟨b,cap,rfl,fun hk=>?_⟩
  obtain⟨g,hg,_,hq⟩:=q (by intro e;rw[e] at hk;simp at hk)
  have h:=hq k hk;exact⟨g,_,hg,h 0 _ rfl,h 1 _ rfl,h 2 _ rfl⟩
 case a2 =>
  rintro v k W o ⟨h0,h1,h2,h3,h4,h5⟩
  have hB:Bl W (W.alloc o):=(Below.refl _ W).alloc (Nat.le_refl _) _
  refine⟨h0,⟨h1.os,h1.tape,h1.output,Nat.le_trans h1.size hB.size,fun i hi hc=>(hB.block i (Nat.lt_of_lt_of_le hi h1.size)).trans (h1.block i hi hc)⟩,Nat.le_trans h2 hB.size,?_,jN h4 (fun k _ hk=>hB.block k hk),av h5 hB⟩
  obtain⟨s',r',hh⟩:=h3;exact⟨s',r',(hB.block c (Array.getElem?_eq_some_iff.1 hh).1).trans hh⟩
 case hc =>
  rw[<- hWt];obtain⟨W0,hW0⟩:∃ W0,W0=Wt.alloc (.cells #[.pointer none,.slice none 0 0] 139):=⟨_,rfl⟩
  rw[<- hW0];have z0:W0.heap.size=w.heap.size+2:=by rw[hW0];simp;omega
  have bw:Bl Wt W0:=by rw[hW0];exact(Below.refl _ Wt).alloc (Nat.le_refl _) _
  have b00:Bl w W0:=bt.trans (bw.mono om)
  have hf:oY (w.heap.size+1) (w.heap.size+1) [] W0:=by
   have h:=Lib.IsBuilderF.of (Lib.fresh_isBuilder 139 5 Wt)
   rw[zt] at h;rw[hW0];exact h
  refine(yF x W0 s vp vn vl (E.mono b00) hI ((b00.block x hb.lt).trans hb) (rp.below b00) (rn.below b00) (rl.below b00)).mono ?_
  rintro e w' ⟨v,rfl,h1,h2⟩
  refine⟨v,rfl,Nat.zero_le _,?_,?_,?_⟩
  ·rw[<- hWt];exact(bw.mono om).trans (h2.mono om)
  ·exact jN (l:=fB L 0) hf (fun k _ hk=>h2.block k hk)
  ·rw[z0] at h1;rw[hL];exact h1
 case hw1 =>
  rintro v k W ⟨h0,h1,h2,h3⟩ hk
  refine(BR (w.heap.size+1) (w.heap.size+1) (fB L k) _ W h2 (by have:=pl k;have:=rl40 k;rw[ByteArray.size_append,show (⟨#[10]⟩:Bz).size=1 from rfl];omega) (by rw[<- hWt] at h1;have:=h1.size;omega)).mono ?_
  rintro e w' ⟨hr,q1,q2,q3⟩
  refine⟨hr,by omega,h1.trans q2,?_,nz h3 dE om q3⟩
  rw[mA L k hk];have e1:(byt (L.getD k [])++(⟨#[10]⟩:Bz)).data.toList=L.getD k []++[10]:=by simp[ByteArray.data_append,byt]
  rw[e1] at q1;exact q1
 case ha =>
  rintro v W ⟨h0,h1,h2,h3⟩
  rw[<- hWt] at h1;have hW:Bl w W:=bt.trans (h1.mono om)
  have zW:w.heap.size+2<=W.heap.size:=by
   rcases h2 with⟨_,v',hb',_⟩|⟨_,v',hb',_⟩<;>(have:=(Array.getElem?_eq_some_iff.1 hb').1;omega)
  obtain⟨s',r',hh⟩:=hc;refine(ry W c s.toks ⟨s',r',(hW.block c hcl).trans hh⟩ h8).mono ?_
  rintro e w' ⟨v',rfl,q1,q2,q3⟩
  refine⟨v',rfl,Nat.zero_le _,qe ⟨hW.os,hW.tape,hW.output,hW.size,fun b hb _=>hW.block b hb⟩ q3,Nat.le_trans zW q3.size,q2,?_,nC q1 zW⟩
  have e1:fB L L.length++fB (s.toks.map fR) 0=fB L L.length:=by simp[fB]
  rw[e1];exact jN h2 (fun k hk1 hk2=>q3.block k hk2 (by intro e;cases e;omega))
 case hw2 =>
  rintro v k W ⟨h0,h1,h2,h3,h4,h5⟩ hk
  refine(BR (w.heap.size+1) (w.heap.size+1) _ _ W h4 (by
   have:=pl L.length;have:=ql k;have:=tl k
   simp only[ByteArray.size_append,List.length_append,show (⟨#[10]⟩:Bz).size=1 from rfl,show (⟨#[61]⟩:Bz).size=1 from rfl];omega) om).mono ?_
  rintro e w' ⟨hr,q1,q2,q3⟩
  refine⟨hr,by omega,?_,Nat.le_trans h2 q2.size,?_,?_,nz h5 dE om q3⟩
  ·exact⟨q2.os.trans h1.os,q2.tape.trans h1.tape,q2.output.trans h1.output,Nat.le_trans h1.size q2.size,fun b hb hc=>(q2.block b om).trans (h1.block b hb hc)⟩
  ·obtain⟨s',r',hh⟩:=h3;exact⟨s',r',(q2.block c om).trans hh⟩
  ·rw[mA _ k (by simpa using hk)]
   have e1:((s.toks.getD k tk0).l++(⟨#[61]⟩:Bz)++(s.toks.getD k tk0).r++(⟨#[10]⟩:Bz)).data.toList=(s.toks.map fR).getD k []++[10]:=by
    rw[gZ fR s.toks tk0 _ k hk];simp[ByteArray.data_append,fR]
   rw[e1,List.append_assoc] at q1;exact q1
 case hs =>
  rintro v W ⟨h0,h1,h2,h3,h4,h5⟩
  have hsn:fB L L.length++fB (s.toks.map fR) s.toks.length=cr s:=by rw[iP,hL,List.length_map]
  rw[hsn] at h4;refine(El (w.heap.size+1) (w.heap.size+1) _ W h4 (by
   intro e;obtain⟨x,r,er⟩:∃ x r,s.toks=x::r:=by cases q:s.toks with|nil=>exact absurd q ht|cons x r=>exact⟨x,r,rfl⟩
   have:=congrArg List.length e
   rw[iP,iR,iR,er] at this;simp[fR] at this)).mono ?_
  rintro e w' ⟨rfl,q2,q3⟩
  refine⟨_,rfl,rfl,?_,?_⟩
  ·obtain⟨s',r',hh⟩:=h3;exact⟨s',r',(q2.block c om).trans hh⟩
  ·exact⟨q2.os.trans h1.os,q2.tape.trans h1.tape,q2.output.trans h1.output,Nat.le_trans h1.size q2.size,fun b hb hc=>(q2.block b om).trans (h1.block b hb hc)⟩
end
end Go.Proofs.YtjnhhnbgjjkkjaaGreatDoor
