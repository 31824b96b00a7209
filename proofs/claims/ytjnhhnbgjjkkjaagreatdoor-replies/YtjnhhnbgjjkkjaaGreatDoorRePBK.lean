import Derived.Test.YtjnhhnbgjjkkjaaGreatDoorRePBJ
import Derived.Test.YtjnhhnbgjjkkjaaGreatDoorRePAJ
import Derived.Test.YtjnhhnbgjjkkjaaGreatDoorRePBG
set_option linter.all false
set_option maxRecDepth 100000
set_option maxHeartbeats 2000000
namespace Go.Proofs.YtjnhhnbgjjkkjaaGreatDoor
open Go.ChangeShapes Go.WideShapes Go.ChangeAt Go.RowKit Go.Proofs.Tryz
def ptL(l:Ln)(p:Nat)(s:Bz):Ln :=
 if p=1 then { l with t:=nmB s } else if p=2 then { l with o:=nmB s } else if p=3 then { l with a:=rdB s.data.toList,n:=rdN s.data.toList }
 else if p=4 then { l with d:=aB s.data.toList } else if p=5 then { l with g:=nB s.data.toList 32 } else l
def eF(p:Nat)(s:Bz):Bool :=
 if p=1 then ag s.data.toList else if p=2 then ag s.data.toList else if p=3 then rdE s.data.toList==0 else if p=4 then aOk s.data.toList else if p=5 then nOk s.data.toList 32 else false
theorem ia(l:Ln)(p:Nat)(s:Bz):aQ l p s.data.toList=if eF p s then some (ptL l p s) else none:=by
 unfold aQ eF ptL;split
 ·unfold nmB;split<;>rfl
 split
 ·unfold nmB;split<;>rfl
 split
 ·unfold rdE rdB rdN;rcases rd s.data.toList with _|b<;>rfl
 split
 ·unfold aB aOk;rcases dv s.data.toList with _|b<;>rfl
 split
 ·unfold nB nOk;rcases num s.data.toList 32 with _|b<;>rfl
 ·rfl
def eG(w:World)(x:Nat)(l:Ln)(p:Nat)(s:Bz)(e:Ending)(w':World):Prop:=e=.returned (.bool (eF p s))/\Blk w' x (lnC (ptL l p s)) 93/\Chg (fun b=>b=x) w w'
theorem Fj(x:Nat)(l:Ln)(s:Bz)(w:World)(B:Blk w x (lnC l) 93):Calls prog 93 #[Pq x,I6 0,.string s] w (eG w x l 0 s):=by
 have HB:Hid (Blk w x (lnC l) 93):=B
 clear B;go_enter func93,ntmps93
 go_wp2;go_returns
 exact⟨rfl,HB.o,Chg.refl _ _⟩
theorem Fk(x:Nat)(l:Ln)(s:Bz)(w:World)(E:Env w)(hs:s.size<=2097152)(B:Blk w x (lnC l) 93):Calls prog 93 #[Pq x,I6 1,.string s] w (eG w x l 1 s):=by
 have HN:Hid (∀ W,Bl w W->Cr prog 142 #[.string s] W (.tuple #[.string (nmB s),.bool (ag s.data.toList)])):=fun W hW=>ju s W
 have HB:Hid (Blk w x (lnC l) 93):=B
 have HP:Hid (eF 1 s=ag s.data.toList/\ptL l 1 s={ l with t:=nmB s }):=⟨rfl,rfl⟩
 unfold eG;revert HP
 generalize eF 1 s=ok
 generalize ptL l 1 s=l'
 intro HP;generalize nmB s=r at HN HP
 generalize ag s.data.toList=f at HN HP
 clear B;have hx:=HB.o.lt;go_enter func93,ntmps93
 go_wp2_with (go_at_call 142;refine Mo (HN.o _ upB) fun w1 hq1=>?_;have hb1:Hid (Bl w w1):=Below.trans (B:=w.heap.size) (a:=w) upB (hq1.mono byO);have B1:Hid (Blk w1 x #[I6 l.v,.string l.t,.string l.o,U3 l.a,I6 l.n,U3 l.d,I6 l.g] 93):=HB.o.below hb1.o;clear hq1;have k1:w1.cell? (At x 1)=some (.string l.t):=B1.o.cell 1;have g1:=B1.o.frozen 1;have hz:=B1.o.lt)
 go_returns
 exact⟨by rw[HP.o.1];rfl,by rw[HP.o.2];exact(B1.o.set 1 (.string r)),(Chg.below hb1.o).sets x 1 [.string r] (.inl rfl)⟩
theorem Fl(x:Nat)(l:Ln)(s:Bz)(w:World)(E:Env w)(hs:s.size<=2097152)(B:Blk w x (lnC l) 93):Calls prog 93 #[Pq x,I6 2,.string s] w (eG w x l 2 s):=by
 have HN:Hid (∀ W,Bl w W->Cr prog 142 #[.string s] W (.tuple #[.string (nmB s),.bool (ag s.data.toList)])):=fun W hW=>ju s W
 have HB:Hid (Blk w x (lnC l) 93):=B
 have HP:Hid (eF 2 s=ag s.data.toList/\ptL l 2 s={ l with o:=nmB s }):=⟨rfl,rfl⟩
 unfold eG;revert HP
 generalize eF 2 s=ok
 generalize ptL l 2 s=l'
 intro HP;generalize nmB s=r at HN HP
 generalize ag s.data.toList=f at HN HP
 clear B;have hx:=HB.o.lt;go_enter func93,ntmps93
 go_wp2_with (go_at_call 142;refine Mo (HN.o _ upB) fun w1 hq1=>?_;have hb1:Hid (Bl w w1):=Below.trans (B:=w.heap.size) (a:=w) upB (hq1.mono byO);have B1:Hid (Blk w1 x #[I6 l.v,.string l.t,.string l.o,U3 l.a,I6 l.n,U3 l.d,I6 l.g] 93):=HB.o.below hb1.o;clear hq1;have k2:w1.cell? (At x 2)=some (.string l.o):=B1.o.cell 2;have g2:=B1.o.frozen 2;have hz:=B1.o.lt)
 go_returns
 exact⟨by rw[HP.o.1];rfl,by rw[HP.o.2];exact(B1.o.set 2 (.string r)),(Chg.below hb1.o).sets x 2 [.string r] (.inl rfl)⟩
theorem Fm(x:Nat)(l:Ln)(s:Bz)(w:World)(E:Env w)(hs:s.size<=2097152)(B:Blk w x (lnC l) 93):Calls prog 93 #[Pq x,I6 3,.string s] w (eG w x l 3 s):=by
 have HN:Hid (∀ W,Bl w W->Cr prog 143 #[.string s] W (.tuple #[.agg #[U3 (rdB s.data.toList),I6 (rdN s.data.toList)],I6 (rdE s.data.toList)])):=fun W hW=>vm s W (E.mono hW) hs
 have HB:Hid (Blk w x (lnC l) 93):=B
 have HP:Hid (eF 3 s=(rdE s.data.toList==0)/\ptL l 3 s={ l with a:=rdB s.data.toList,n:=rdN s.data.toList }):=⟨rfl,rfl⟩
 unfold eG;revert HP
 generalize eF 3 s=ok
 generalize ptL l 3 s=l'
 intro HP;generalize rdB s.data.toList=ra at HN HP
 generalize rdN s.data.toList=rn at HN HP
 generalize rdE s.data.toList=re at HN HP
 clear B;have hx:=HB.o.lt;go_enter func93,ntmps93
 go_wp2_with (go_at_call 143;refine Mo (HN.o _ upB) fun w1 hq1=>?_;have hb1:Hid (Bl w w1):=Below.trans (B:=w.heap.size) (a:=w) upB (hq1.mono byO);have B1:Hid (Blk w1 x #[I6 l.v,.string l.t,.string l.o,U3 l.a,I6 l.n,U3 l.d,I6 l.g] 93):=HB.o.below hb1.o;clear hq1;have k3:w1.cell? (At x 3)=some (U3 l.a):=B1.o.cell 3;have g3:=B1.o.frozen 3;have k4:w1.cell? (At x 4)=some (I6 l.n):=B1.o.cell 4;have g4:=B1.o.frozen 4;have hz:=B1.o.lt)
 go_returns
 exact⟨by rw[HP.o.1];rfl,by rw[HP.o.2];exact((B1.o.set 3 (U3 ra)).set 4 (I6 rn)),(Chg.below hb1.o).sets x 3 [U3 ra,I6 rn] (.inl rfl)⟩
theorem Fn(x:Nat)(l:Ln)(s:Bz)(w:World)(E:Env w)(hs:s.size<=2097152)(B:Blk w x (lnC l) 93):Calls prog 93 #[Pq x,I6 4,.string s] w (eG w x l 4 s):=by
 have HN:Hid (∀ W,Bl w W->Cr prog 144 #[.string s] W (.tuple #[U3 (aB s.data.toList),.bool (aOk s.data.toList)])):=fun W hW=>AG s W (E.mono hW) hs
 have HB:Hid (Blk w x (lnC l) 93):=B
 have HP:Hid (eF 4 s=aOk s.data.toList/\ptL l 4 s={ l with d:=aB s.data.toList }):=⟨rfl,rfl⟩
 unfold eG;revert HP
 generalize eF 4 s=ok
 generalize ptL l 4 s=l'
 intro HP;generalize aB s.data.toList=ra at HN HP
 generalize aOk s.data.toList=f at HN HP
 clear B;have hx:=HB.o.lt;go_enter func93,ntmps93
 go_wp2_with (go_at_call 144;refine Mo (HN.o _ upB) fun w1 hq1=>?_;have hb1:Hid (Bl w w1):=Below.trans (B:=w.heap.size) (a:=w) upB (hq1.mono byO);have B1:Hid (Blk w1 x #[I6 l.v,.string l.t,.string l.o,U3 l.a,I6 l.n,U3 l.d,I6 l.g] 93):=HB.o.below hb1.o;clear hq1;have k5:w1.cell? (At x 5)=some (U3 l.d):=B1.o.cell 5;have g5:=B1.o.frozen 5;have hz:=B1.o.lt)
 go_returns
 exact⟨by rw[HP.o.1];rfl,by rw[HP.o.2];exact(B1.o.set 5 (U3 ra)),(Chg.below hb1.o).sets x 5 [U3 ra] (.inl rfl)⟩
theorem Fo(x:Nat)(l:Ln)(s:Bz)(w:World)(E:Env w)(hs:s.size<=2097152)(B:Blk w x (lnC l) 93):Calls prog 93 #[Pq x,I6 5,.string s] w (eG w x l 5 s):=by
 have HN:Hid (∀ W,Bl w W->Cr prog 145 #[.string s] W (.tuple #[I6 (nB s.data.toList 32),.bool (nOk s.data.toList 32)])):=fun W hW=>nF s W (E.mono hW) hs
 have HB:Hid (Blk w x (lnC l) 93):=B
 have HP:Hid (eF 5 s=nOk s.data.toList 32/\ptL l 5 s={ l with g:=nB s.data.toList 32 }):=⟨rfl,rfl⟩
 unfold eG;revert HP
 generalize eF 5 s=ok
 generalize ptL l 5 s=l'
 intro HP;generalize nB s.data.toList 32=ra at HN HP
 generalize nOk s.data.toList 32=f at HN HP
 clear B;have hx:=HB.o.lt;go_enter func93,ntmps93
 go_wp2_with (go_at_call 145;refine Mo (HN.o _ upB) fun w1 hq1=>?_;have hb1:Hid (Bl w w1):=Below.trans (B:=w.heap.size) (a:=w) upB (hq1.mono byO);have B1:Hid (Blk w1 x #[I6 l.v,.string l.t,.string l.o,U3 l.a,I6 l.n,U3 l.d,I6 l.g] 93):=HB.o.below hb1.o;clear hq1;have k6:w1.cell? (At x 6)=some (I6 l.g):=B1.o.cell 6;have g6:=B1.o.frozen 6;have hz:=B1.o.lt)
 go_returns
 exact⟨by rw[HP.o.1];rfl,by rw[HP.o.2];exact(B1.o.set 6 (I6 ra)),(Chg.below hb1.o).sets x 6 [I6 ra] (.inl rfl)⟩
theorem eP(x:Nat)(l:Ln)(p:Nat)(hp:p<=5)(s:Bz)(w:World)(E:Env w)(hs:s.size<=2097152)(B:Blk w x (lnC l) 93):Calls prog 93 #[Pq x,I6 p,.string s] w (eG w x l p s):=by
 have hc:p=0\/p=1\/p=2\/p=3\/p=4\/p=5:=by omega
 rcases hc with rfl|rfl|rfl|rfl|rfl|rfl
 ·exact Fj x l s w B
 ·exact Fk x l s w E hs B
 ·exact Fl x l s w E hs B
 ·exact Fm x l s w E hs B
 ·exact Fn x l s w E hs B
 ·exact Fo x l s w E hs B
def cps:Ln->List Nat->List (Lu)->Option Ln
 | l,[],_=>some l
 | l,p::ps,[]=>if p=0 then some l else none
 | l,p::ps,w::ws=>match aQ l p w with|some l'=>cps l' ps ws|none=>none
theorem kN(ws:List Bz)(k:Nat)(h:k<ws.length):(ws.map fun s=>s.data.toList).drop k=(ws.getD k ⟨#[]⟩).data.toList::(ws.map fun s=>s.data.toList).drop (k+1):=by
 rw[List.drop_eq_getElem_cons (by rw[List.length_map];exact h),List.getElem_map,List.getD_eq_getElem?_getD,List.getElem?_eq_getElem h];rfl
theorem Env.chg{w w':World}{S:Nat->Prop}(h:Env w)(hc:Chg S w w')(hG:∀ b,S b->10<=b):Env w':=by
 have hn:∀ b,b<10->¬S b:=fun b hb q=>by have:=hG b q;omega
 have hl:=h.lo;have hz:=hc.size;have hv:∀ (nm:String) (g:Nat),prog.globalNamed nm=some g->g<10->g<w.heap.size->w'.var? prog nm=w.var? prog nm:=fun nm g e h1 h2=>by
  unfold World.var?
  simp only[e,Option.bind_some]
  rw[hc.block g h2 (hn g h1)]
 refine⟨by omega,?_,?_,?_,?_⟩
 ·obtain⟨m,e⟩:=h.mx;exact⟨m,(World.cell?_of_block (a:=At 2 0) (hc.block _ hl.1 (hn _ dE))).trans e⟩
 ·obtain⟨tp,p,e⟩:=h.syn;exact⟨tp,p,(hv _ _ y8 dE hl.2.1).trans e⟩
 ·obtain⟨tp,p,e⟩:=h.rng;exact⟨tp,p,(hv _ _ y7 dE hl.2.2.1).trans e⟩
 ·exact(hv _ _ y9 dE hl.2.2.2).trans h.tab
theorem As(p0 p1 p2 p3:Nat)(w:World):(Instr.index 132 (.agg #[I6 p0,I6 p1,I6 p2,I6 p3]) (I6 0)).run prog w=.ok (I6 p0) w:=by kernel_rfl
theorem Au(p0 p1 p2 p3:Nat)(w:World):(Instr.index 132 (.agg #[I6 p0,I6 p1,I6 p2,I6 p3]) (I6 1)).run prog w=.ok (I6 p1) w:=by kernel_rfl
theorem Av(p0 p1 p2 p3:Nat)(w:World):(Instr.index 132 (.agg #[I6 p0,I6 p1,I6 p2,I6 p3]) (I6 2)).run prog w=.ok (I6 p2) w:=by kernel_rfl
theorem Aw(p0 p1 p2 p3:Nat)(w:World):(Instr.index 132 (.agg #[I6 p0,I6 p1,I6 p2,I6 p3]) (I6 3)).run prog w=.ok (I6 p3) w:=by kernel_rfl
theorem lS(x g c n:Nat)(hn:¬n<=4)(p0 p1 p2 p3:Nat)(o:Option Addr)(w:World):Cr prog 60 #[Pq x,.agg #[I6 p0,I6 p1,I6 p2,I6 p3],.slice o n c] w (.bool false):=by
 have hn2:(4:Int)<(n:Int):=by omega
 go_enter func60,ntmps60
 go_wp2;go_ret;exact⟨rfl,upB⟩
theorem oD(x g c n:Nat)(ba:Option Addr)(hbb:0<n->ba=some (At g 1))(ws:List Bz)(hws:ws.length=n)(hn:n<=4)(p0 p1 p2 p3:Nat)(HP:Hid (p0<=5/\p1<=5/\p2<=5/\p3<=5))(l:Ln)(w:World)(E:Hid (Env w))(hG:∀ b,b=x->10<=b)(B:Hid (Blk w x (lnC l) 93))(hg:g<w.heap.size)(hgx:g≠x)
  (HW:Hid (∀ k,k<n->w.cell? (At g (k+1))=some (.string (ws.getD k ⟨#[]⟩)))) (HL:Hid (∀ k,(ws.getD k ⟨#[]⟩).size<=2097152)) :
  Calls prog 60 #[Pq x,.agg #[I6 p0,I6 p1,I6 p2,I6 p3],.slice ba n c] w fun e w'=>e=.returned (.bool (cps l [p0,p1,p2,p3] (ws.map fun s=>s.data.toList)).isSome)/\(∀ l',cps l [p0,p1,p2,p3] (ws.map fun s=>s.data.toList)=some l'->Blk w' x (lnC l') 93)/\Chg (fun b=>b=x) w w':=by
 have hn2:¬(4:Int)<(n:Int):=by omega
 have hx:=B.o.lt;go_enter func60,ntmps60
 go_wp2;have hB0:Bl w (w.alloc (.cells #[I6 p0,I6 p1,I6 p2,I6 p3] 132)):=upB
 have HB0:Hid (Bl w (w.alloc (.cells #[I6 p0,I6 p1,I6 p2,I6 p3] 132))):=hB0
 clear hB0;go_loopw [13] (fun i wr=>∃ (k:Nat) (lk:Ln),k<=4/\k<=n/\i=I6 k/\Hid (cps l [p0,p1,p2,p3] (ws.map fun s=>s.data.toList)=cps lk ([p0,p1,p2,p3].drop k) ((ws.map fun s=>s.data.toList).drop k)/\Blk wr x (lnC lk) 93/\Chg (fun b=>b=x) w wr)) (fun i _=>(4-intOf i).toNat)
 case atStart=>exact⟨0,l,by omega,by omega,rfl,rfl,B.o.below HB0.o,Chg.below HB0.o⟩
 case round =>
  obtain⟨k,lk,hk4,hkn,rfl,H⟩:=hrel;have hc:k=0\/k=1\/k=2\/k=3\/k=4:=by omega
  rcases hc with rfl|rfl|rfl|rfl|rfl
  ·have hix:=As p0 p1 p2 p3;by_cases hlt:0<n
   ·obtain rfl:=hbb om
    have hnk:¬((n:Int)<=0):=by omega
    have hkn:(0:Int)<(n:Int):=by omega
    obtain⟨wk,hwk⟩:∃ wk:Bz,wk=ws.getD 0 ⟨#[]⟩:=⟨_,rfl⟩
    have hld:wr.cell? (At g 1)=some (.string wk):=by
     rw[hwk];exact(World.cell?_of_block (a:=At g 1) (H.o.2.2.block g hg (fun e=>hgx e))).trans (HW.o 0 hlt)
    have HS:Hid (cps l [p0,p1,p2,p3] (ws.map fun s=>s.data.toList)=if eF p0 wk then cps (ptL lk p0 wk) [p1,p2,p3] ((ws.map fun s=>s.data.toList).drop 1) else none):=by
     have hdrop:(ws.map fun s=>s.data.toList).drop 0=wk.data.toList::(ws.map fun s=>s.data.toList).drop 1:=by
      rw[hwk];exact kN ws 0 om
     refine H.o.1.trans ?_
     rw[hdrop];show (match aQ lk p0 wk.data.toList with|some l'=>cps l' [p1,p2,p3] _|none=>none)=_
     rw[ia];rcases eF p0 wk<;>rfl
    have HC:Hid (Calls prog 93 #[Pq x,I6 p0,.string wk] wr (eG wr x lk p0 wk)):=eP x lk p0 (HP.o.1) wk wr (E.o.chg H.o.2.2 hG) (by rw[hwk];exact HL.o _) H.o.2.1
    clear hwk;rcases hok:eF p0 wk with _|_
    ·go_wp2_with (go_at_call 93;refine HC.o.mono ?_;rintro e w1 ⟨rfl,hB1,hc1⟩;rw[hok];replace hB1:Hid _:=hB1;replace hc1:Hid _:=hc1)
     go_ret;have hs:=HS.o;rw[hok] at hs;rw[hs];exact⟨rfl,fun l' e=>(by simp at e),H.o.2.2.trans hc1.o (fun b e=>.inl e)⟩
    ·go_wp2_with (go_at_call 93;refine HC.o.mono ?_;rintro e w1 ⟨rfl,hB1,hc1⟩;rw[hok];replace hB1:Hid (Blk w1 x (lnC (ptL lk p0 wk)) 93):=hB1;replace hc1:Hid (Chg (fun b=>b=x) wr w1):=hc1)
     go_roundw
     case rel =>
      have hs:=HS.o;rw[hok] at hs;exact⟨1,ptL lk p0 wk,by omega,by omega,rfl,hs,hB1.o,H.o.2.2.trans hc1.o (fun b e=>.inl e)⟩
     case measure=>simp[intOf]
   ·have hnk:(n:Int)<=0:=by omega
    have HS:Hid (cps l [p0,p1,p2,p3] (ws.map fun s=>s.data.toList)=if p0=0 then some lk else none):=by
     have hd:(ws.map fun s=>s.data.toList).drop 0=[]:=List.drop_eq_nil_of_le (by rw[List.length_map];omega)
     refine H.o.1.trans ?_
     rw[hd];rfl
    by_cases hp:p0=0
    ·have hp2:((p0:Int)==0)=true:=by rw[hp];rfl
     have HQ:Hid (p0=0):=hp
     clear hp;go_wp2;go_ret;have hs:=HS.o;rw[if_pos HQ.o] at hs;rw[hs];exact⟨rfl,fun l' e=>(by cases e;exact H.o.2.1),H.o.2.2⟩
    ·have hp2:((p0:Int)==0)=false:=beq_eq_false_iff_ne.2 om
     have HQ:Hid (¬p0=0):=hp
     clear hp;go_wp2;go_ret;have hs:=HS.o;rw[if_neg HQ.o] at hs;rw[hs];exact⟨rfl,fun l' e=>(by simp at e),H.o.2.2⟩
  ·have hix:=Au p0 p1 p2 p3;by_cases hlt:1<n
   ·obtain rfl:=hbb om
    have hnk:¬((n:Int)<=1):=by omega
    have hkn:(1:Int)<(n:Int):=by omega
    obtain⟨wk,hwk⟩:∃ wk:Bz,wk=ws.getD 1 ⟨#[]⟩:=⟨_,rfl⟩
    have hld:wr.cell? (At g 2)=some (.string wk):=by
     rw[hwk];exact(World.cell?_of_block (a:=At g 2) (H.o.2.2.block g hg (fun e=>hgx e))).trans (HW.o 1 hlt)
    have HS:Hid (cps l [p0,p1,p2,p3] (ws.map fun s=>s.data.toList)=if eF p1 wk then cps (ptL lk p1 wk) [p2,p3] ((ws.map fun s=>s.data.toList).drop 2) else none):=by
     have hdrop:(ws.map fun s=>s.data.toList).drop 1=wk.data.toList::(ws.map fun s=>s.data.toList).drop 2:=by
      rw[hwk];exact kN ws 1 om
     refine H.o.1.trans ?_
     rw[hdrop];show (match aQ lk p1 wk.data.toList with|some l'=>cps l' [p2,p3] _|none=>none)=_
     rw[ia];rcases eF p1 wk<;>rfl
    have HC:Hid (Calls prog 93 #[Pq x,I6 p1,.string wk] wr (eG wr x lk p1 wk)):=eP x lk p1 (HP.o.2.1) wk wr (E.o.chg H.o.2.2 hG) (by rw[hwk];exact HL.o _) H.o.2.1
    clear hwk;rcases hok:eF p1 wk with _|_
    ·go_wp2_with (go_at_call 93;refine HC.o.mono ?_;rintro e w1 ⟨rfl,hB1,hc1⟩;rw[hok];replace hB1:Hid _:=hB1;replace hc1:Hid _:=hc1)
     go_ret;have hs:=HS.o;rw[hok] at hs;rw[hs];exact⟨rfl,fun l' e=>(by simp at e),H.o.2.2.trans hc1.o (fun b e=>.inl e)⟩
    ·go_wp2_with (go_at_call 93;refine HC.o.mono ?_;rintro e w1 ⟨rfl,hB1,hc1⟩;rw[hok];replace hB1:Hid (Blk w1 x (lnC (ptL lk p1 wk)) 93):=hB1;replace hc1:Hid (Chg (fun b=>b=x) wr w1):=hc1)
     go_roundw
     case rel =>
      have hs:=HS.o;rw[hok] at hs;exact⟨2,ptL lk p1 wk,by omega,by omega,rfl,hs,hB1.o,H.o.2.2.trans hc1.o (fun b e=>.inl e)⟩
     case measure=>simp[intOf]
   ·have hnk:(n:Int)<=1:=by omega
    have HS:Hid (cps l [p0,p1,p2,p3] (ws.map fun s=>s.data.toList)=if p1=0 then some lk else none):=by
     have hd:(ws.map fun s=>s.data.toList).drop 1=[]:=List.drop_eq_nil_of_le (by rw[List.length_map];omega)
     refine H.o.1.trans ?_
     rw[hd];rfl
    by_cases hp:p1=0
    ·have hp2:((p1:Int)==0)=true:=by rw[hp];rfl
     have HQ:Hid (p1=0):=hp
     clear hp;go_wp2;go_ret;have hs:=HS.o;rw[if_pos HQ.o] at hs;rw[hs];exact⟨rfl,fun l' e=>(by cases e;exact H.o.2.1),H.o.2.2⟩
    ·have hp2:((p1:Int)==0)=false:=beq_eq_false_iff_ne.2 om
     have HQ:Hid (¬p1=0):=hp
     clear hp;go_wp2;go_ret;have hs:=HS.o;rw[if_neg HQ.o] at hs;rw[hs];exact⟨rfl,fun l' e=>(by simp at e),H.o.2.2⟩
  ·have hix:=Av p0 p1 p2 p3;by_cases hlt:2<n
   ·obtain rfl:=hbb om
    have hnk:¬((n:Int)<=2):=by omega
    have hkn:(2:Int)<(n:Int):=by omega
    obtain⟨wk,hwk⟩:∃ wk:Bz,wk=ws.getD 2 ⟨#[]⟩:=⟨_,rfl⟩
    have hld:wr.cell? (At g 3)=some (.string wk):=by
     rw[hwk];exact(World.cell?_of_block (a:=At g 3) (H.o.2.2.block g hg (fun e=>hgx e))).trans (HW.o 2 hlt)
    have HS:Hid (cps l [p0,p1,p2,p3] (ws.map fun s=>s.data.toList)=if eF p2 wk then cps (ptL lk p2 wk) [p3] ((ws.map fun s=>s.data.toList).drop 3) else none):=by
     have hdrop:(ws.map fun s=>s.data.toList).drop 2=wk.data.toList::(ws.map fun s=>s.data.toList).drop 3:=by
      rw[hwk];exact kN ws 2 om
     refine H.o.1.trans ?_
     rw[hdrop];show (match aQ lk p2 wk.data.toList with|some l'=>cps l' [p3] _|none=>none)=_
     rw[ia];rcases eF p2 wk<;>rfl
    have HC:Hid (Calls prog 93 #[Pq x,I6 p2,.string wk] wr (eG wr x lk p2 wk)):=eP x lk p2 (HP.o.2.2.1) wk wr (E.o.chg H.o.2.2 hG) (by rw[hwk];exact HL.o _) H.o.2.1
    clear hwk;rcases hok:eF p2 wk with _|_
    ·go_wp2_with (go_at_call 93;refine HC.o.mono ?_;rintro e w1 ⟨rfl,hB1,hc1⟩;rw[hok];replace hB1:Hid _:=hB1;replace hc1:Hid _:=hc1)
     go_ret;have hs:=HS.o;rw[hok] at hs;rw[hs];exact⟨rfl,fun l' e=>(by simp at e),H.o.2.2.trans hc1.o (fun b e=>.inl e)⟩
    ·go_wp2_with (go_at_call 93;refine HC.o.mono ?_;rintro e w1 ⟨rfl,hB1,hc1⟩;rw[hok];replace hB1:Hid (Blk w1 x (lnC (ptL lk p2 wk)) 93):=hB1;replace hc1:Hid (Chg (fun b=>b=x) wr w1):=hc1)
     go_roundw
     case rel =>
      have hs:=HS.o;rw[hok] at hs;exact⟨3,ptL lk p2 wk,by omega,by omega,rfl,hs,hB1.o,H.o.2.2.trans hc1.o (fun b e=>.inl e)⟩
     case measure=>simp[intOf]
   ·have hnk:(n:Int)<=2:=by omega
    have HS:Hid (cps l [p0,p1,p2,p3] (ws.map fun s=>s.data.toList)=if p2=0 then some lk else none):=by
     have hd:(ws.map fun s=>s.data.toList).drop 2=[]:=List.drop_eq_nil_of_le (by rw[List.length_map];omega)
     refine H.o.1.trans ?_
     rw[hd];rfl
    by_cases hp:p2=0
    ·have hp2:((p2:Int)==0)=true:=by rw[hp];rfl
     have HQ:Hid (p2=0):=hp
     clear hp;go_wp2;go_ret;have hs:=HS.o;rw[if_pos HQ.o] at hs;rw[hs];exact⟨rfl,fun l' e=>(by cases e;exact H.o.2.1),H.o.2.2⟩
    ·have hp2:((p2:Int)==0)=false:=beq_eq_false_iff_ne.2 om
     have HQ:Hid (¬p2=0):=hp
     clear hp;go_wp2;go_ret;have hs:=HS.o;rw[if_neg HQ.o] at hs;rw[hs];exact⟨rfl,fun l' e=>(by simp at e),H.o.2.2⟩
  ·have hix:=Aw p0 p1 p2 p3;by_cases hlt:3<n
   ·obtain rfl:=hbb om
    have hnk:¬((n:Int)<=3):=by omega
    have hkn:(3:Int)<(n:Int):=by omega
    obtain⟨wk,hwk⟩:∃ wk:Bz,wk=ws.getD 3 ⟨#[]⟩:=⟨_,rfl⟩
    have hld:wr.cell? (At g 4)=some (.string wk):=by
     rw[hwk];exact(World.cell?_of_block (a:=At g 4) (H.o.2.2.block g hg (fun e=>hgx e))).trans (HW.o 3 hlt)
    have HS:Hid (cps l [p0,p1,p2,p3] (ws.map fun s=>s.data.toList)=if eF p3 wk then cps (ptL lk p3 wk) [] ((ws.map fun s=>s.data.toList).drop 4) else none):=by
     have hdrop:(ws.map fun s=>s.data.toList).drop 3=wk.data.toList::(ws.map fun s=>s.data.toList).drop 4:=by
      rw[hwk];exact kN ws 3 om
     refine H.o.1.trans ?_
     rw[hdrop];show (match aQ lk p3 wk.data.toList with|some l'=>cps l' [] _|none=>none)=_
     rw[ia];rcases eF p3 wk<;>rfl
    have HC:Hid (Calls prog 93 #[Pq x,I6 p3,.string wk] wr (eG wr x lk p3 wk)):=eP x lk p3 (HP.o.2.2.2) wk wr (E.o.chg H.o.2.2 hG) (by rw[hwk];exact HL.o _) H.o.2.1
    clear hwk;rcases hok:eF p3 wk with _|_
    ·go_wp2_with (go_at_call 93;refine HC.o.mono ?_;rintro e w1 ⟨rfl,hB1,hc1⟩;rw[hok];replace hB1:Hid _:=hB1;replace hc1:Hid _:=hc1)
     go_ret;have hs:=HS.o;rw[hok] at hs;rw[hs];exact⟨rfl,fun l' e=>(by simp at e),H.o.2.2.trans hc1.o (fun b e=>.inl e)⟩
    ·go_wp2_with (go_at_call 93;refine HC.o.mono ?_;rintro e w1 ⟨rfl,hB1,hc1⟩;rw[hok];replace hB1:Hid (Blk w1 x (lnC (ptL lk p3 wk)) 93):=hB1;replace hc1:Hid (Chg (fun b=>b=x) wr w1):=hc1)
     go_roundw
     case rel =>
      have hs:=HS.o;rw[hok] at hs;exact⟨4,ptL lk p3 wk,by omega,by omega,rfl,hs,hB1.o,H.o.2.2.trans hc1.o (fun b e=>.inl e)⟩
     case measure=>simp[intOf]
   ·have hnk:(n:Int)<=3:=by omega
    have HS:Hid (cps l [p0,p1,p2,p3] (ws.map fun s=>s.data.toList)=if p3=0 then some lk else none):=by
     have hd:(ws.map fun s=>s.data.toList).drop 3=[]:=List.drop_eq_nil_of_le (by rw[List.length_map];omega)
     refine H.o.1.trans ?_
     rw[hd];rfl
    by_cases hp:p3=0
    ·have hp2:((p3:Int)==0)=true:=by rw[hp];rfl
     have HQ:Hid (p3=0):=hp
     clear hp;go_wp2;go_ret;have hs:=HS.o;rw[if_pos HQ.o] at hs;rw[hs];exact⟨rfl,fun l' e=>(by cases e;exact H.o.2.1),H.o.2.2⟩
    ·have hp2:((p3:Int)==0)=false:=beq_eq_false_iff_ne.2 om
     have HQ:Hid (¬p3=0):=hp
     clear hp;go_wp2;go_ret;have hs:=HS.o;rw[if_neg HQ.o] at hs;rw[hs];exact⟨rfl,fun l' e=>(by simp at e),H.o.2.2⟩
  ·go_wp2;go_ret;have hs:cps l [p0,p1,p2,p3] (ws.map fun s=>s.data.toList)=some lk:=H.o.1.trans rfl
   rw[hs];exact⟨rfl,fun l' e=>(by cases e;exact H.o.2.1),H.o.2.2⟩
theorem fU{w:World}{g:Nat}{t:TypeId}{u0 u1 u2 u3 u4 u5 u6:Value}(h:Blk w g #[u0,u1,u2,u3,u4,u5,u6] t)(a0 a1 a2 a3 a4 a5 a6:Value):
  Blk (((((((w.setCell (At g 0) a0).setCell (At g 1) a1).setCell (At g 2) a2).setCell (At g 3) a3).setCell (At g 4) a4).setCell (At g 5) a5).setCell (At g 6) a6) g #[a0,a1,a2,a3,a4,a5,a6] t:=by
 have h0:Blk (w.setCell (At g 0) a0) g #[a0,u1,u2,u3,u4,u5,u6] t:=(by simpa using h.set 0 a0)
 have h1:Blk ((w.setCell (At g 0) a0).setCell (At g 1) a1) g #[a0,a1,u2,u3,u4,u5,u6] t:=(by simpa using h0.set 1 a1)
 have h2:Blk (((w.setCell (At g 0) a0).setCell (At g 1) a1).setCell (At g 2) a2) g #[a0,a1,a2,u3,u4,u5,u6] t:=(by simpa using h1.set 2 a2)
 have h3:Blk ((((w.setCell (At g 0) a0).setCell (At g 1) a1).setCell (At g 2) a2).setCell (At g 3) a3) g #[a0,a1,a2,a3,u4,u5,u6] t:=(by simpa using h2.set 3 a3)
 have h4:Blk (((((w.setCell (At g 0) a0).setCell (At g 1) a1).setCell (At g 2) a2).setCell (At g 3) a3).setCell (At g 4) a4) g #[a0,a1,a2,a3,a4,u5,u6] t:=(by simpa using h3.set 4 a4)
 have h5:Blk ((((((w.setCell (At g 0) a0).setCell (At g 1) a1).setCell (At g 2) a2).setCell (At g 3) a3).setCell (At g 4) a4).setCell (At g 5) a5) g #[a0,a1,a2,a3,a4,a5,u6] t:=(by simpa using h4.set 5 a5)
 have h6:Blk (((((((w.setCell (At g 0) a0).setCell (At g 1) a1).setCell (At g 2) a2).setCell (At g 3) a3).setCell (At g 4) a4).setCell (At g 5) a5).setCell (At g 6) a6) g #[a0,a1,a2,a3,a4,a5,a6] t:=(by simpa using h5.set 6 a6)
 exact h6
theorem w8(s:Bz)(w:World)(hs:100<s.size):Cr prog 38 #[.string s] w (.tuple #[.agg #[I6 0,.string ⟨#[]⟩,.string ⟨#[]⟩,U3 0,I6 0,U3 0,I6 0],.bool false]):=by
 have h1:(100:Int)<(s.size:Int):=by omega
 go_enter func38,ntmps38
 go_wp2;go_returns
 exact⟨rfl,upB⟩
theorem oF(s:Bz)(w:World)(n:Nat)(hn:1<=n)(s0:Bz)(hs:s.size<=100)(ROW:World->Prop)(hF:0<w.heap.size)(HS:Hid (Calls prog 58 #[.string s,.string ⟨#[32]⟩] (w.alloc (.cells #[I6 0,.string ⟨#[]⟩,.string ⟨#[]⟩,U3 0,I6 0,U3 0,I6 0] 93)) fun e w1=>e=.returned (Sq (w.heap.size+1) n n)/\w1.cell? (At (w.heap.size+1) 0)=some (.string s0)/\w.heap.size+1<w1.heap.size/\Blk w1 w.heap.size #[I6 0,.string ⟨#[]⟩,.string ⟨#[]⟩,U3 0,I6 0,U3 0,I6 0] 93/\Bl w w1/\ROW w1))
  (HV:Hid (∀ W,Bl w W->Cr prog 59 #[.string s0] W (.tuple #[I6 0,.bool false]))) :
  Cr prog 38 #[.string s] w (.tuple #[.agg #[I6 0,.string ⟨#[]⟩,.string ⟨#[]⟩,U3 0,I6 0,U3 0,I6 0],.bool false]):=by
 have h1:¬(100:Int)<(s.size:Int):=by omega
 have h2:(0:Int)<(n:Int):=by omega
 have h4:(1:Int)<=(n:Int):=by omega
 go_enter func38,ntmps38
 go_wp2_with (first|(go_at_call 58;refine HS.o.mono ?_;rintro e w1 ⟨rfl,k10,z1,rB,hb1,hrow⟩;replace rB:Hid (Blk w1 w.heap.size #[I6 0,.string ⟨#[]⟩,.string ⟨#[]⟩,U3 0,I6 0,U3 0,I6 0] 93):=rB;replace hb1:Hid (Bl w w1):=hb1;replace hrow:Hid (ROW w1):=hrow;have r0:w1.cell? (Nw w 0)=some (I6 0):=rB.o.cell 0;have rf0:=rB.o.frozen 0;have r1:w1.cell? (Nw w 1)=some (.string ⟨#[]⟩):=rB.o.cell 1;have rf1:=rB.o.frozen 1;have r2:w1.cell? (Nw w 2)=some (.string ⟨#[]⟩):=rB.o.cell 2;have rf2:=rB.o.frozen 2;have r3:w1.cell? (Nw w 3)=some (U3 0):=rB.o.cell 3;have rf3:=rB.o.frozen 3;have r4:w1.cell? (Nw w 4)=some (I6 0):=rB.o.cell 4;have rf4:=rB.o.frozen 4;have r5:w1.cell? (Nw w 5)=some (U3 0):=rB.o.cell 5;have rf5:=rB.o.frozen 5;have r6:w1.cell? (Nw w 6)=some (I6 0):=rB.o.cell 6;have rf6:=rB.o.frozen 6;have rz:=rB.o.lt)|(go_at_call 59;refine Mo (HV.o _ hb1.o) fun w2 hq2=>?_;have hb2:Hid (Bl w1 w2):=hq2;clear hq2;have qB:Hid (Blk w2 w.heap.size #[I6 0,.string ⟨#[]⟩,.string ⟨#[]⟩,U3 0,I6 0,U3 0,I6 0] 93):=rB.o.below hb2.o;have q0:w2.cell? (Nw w 0)=some (I6 0):=qB.o.cell 0;have qf0:=qB.o.frozen 0;have q1:w2.cell? (Nw w 1)=some (.string ⟨#[]⟩):=qB.o.cell 1;have qf1:=qB.o.frozen 1;have q2:w2.cell? (Nw w 2)=some (.string ⟨#[]⟩):=qB.o.cell 2;have qf2:=qB.o.frozen 2;have q3:w2.cell? (Nw w 3)=some (U3 0):=qB.o.cell 3;have qf3:=qB.o.frozen 3;have q4:w2.cell? (Nw w 4)=some (I6 0):=qB.o.cell 4;have qf4:=qB.o.frozen 4;have q5:w2.cell? (Nw w 5)=some (U3 0):=qB.o.cell 5;have qf5:=qB.o.frozen 5;have q6:w2.cell? (Nw w 6)=some (I6 0):=qB.o.cell 6;have qf6:=qB.o.frozen 6;have qz:=qB.o.lt;clear r0 rf0 r1 rf1 r2 rf2 r3 rf3 r4 rf4 r5 rf5 r6 rf6;have zg:0<w2.heap.size:=Nat.lt_of_lt_of_le hF (Nat.le_trans hb1.o.size hb2.o.size)))
 have kk:=fU qB.o (I6 0) (.string ⟨#[]⟩) (.string ⟨#[]⟩) (U3 0) (I6 0) (U3 0) (I6 0)
 have kk0:=kk.cell 0;have kk1:=kk.cell 1;have kk2:=kk.cell 2;have kk3:=kk.cell 3;have kk4:=kk.cell 4;have kk5:=kk.cell 5;have kk6:=kk.cell 6;clear kk;have hq:=hb1.o.trans (hb2.o.mono hb1.o.size)
 have hz:=hq.size;exact bodyPost_ret (v:=.tuple #[.agg #[I6 0,.string ⟨#[]⟩,.string ⟨#[]⟩,U3 0,I6 0,U3 0,I6 0],.bool false]) (by simp[results,results38,go_sem,kk0,kk1,kk2,kk3,kk4,kk5,kk6]) rfl ⟨rfl,upB⟩
theorem kQ{w2 w3:World}{g:Nat}{cs ds:Array Value}{t t2:TypeId}(h:Blk w2 g cs t)(hc:Chg (fun b=>b=w2.heap.size) (w2.alloc (.cells ds t2)) w3):Blk w3 g cs t:=by
 have hl:=h.lt;have h2:Blk (w2.alloc (.cells ds t2)) g cs t:=h.below upB
 exact(hc.block g h2.lt om).trans h2
theorem cL{w2 w3:World}{g o:Nat}{ds:Array Value}{t2:TypeId}{v:Value}(hg:g<w2.heap.size)(h:w2.cell? (At g o)=some v)(hc:Chg (fun b=>b=w2.heap.size) (w2.alloc (.cells ds t2)) w3):w3.cell? (At g o)=some v:=by
 have hb:Bl w2 (w2.alloc (.cells ds t2)):=upB
 exact(World.cell?_of_block (a:=At g o) (hc.block g (Nat.lt_of_lt_of_le hg hb.size) om)).trans ((hb.cell (p:=At g o) hg).trans h)
theorem js{w w1 w2 w3:World}{ds:Array Value}{t2:TypeId}(h1:Bl w w1)(h2:Bl w1 w2)(hc:Chg (fun b=>b=w2.heap.size) (w2.alloc (.cells ds t2)) w3):Bl w w3:=by
 have hq:=h1.trans (h2.mono h1.size)
 have hz:=hq.size;have hq2:Bl w (w2.alloc (.cells ds t2)):=upB
 refine⟨hc.os.trans hq2.os,hc.tape.trans hq2.tape,hc.output.trans hq2.output,Nat.le_trans hq2.size hc.size,fun b hb=>?_⟩
 exact(hc.block b (Nat.lt_of_lt_of_le hb (Nat.le_trans hq.size sM)) (by have:=hq.size;omega)).trans (hq2.block b hb)
theorem wY(s:Bz)(w:World)(s0:Bz)(hs:s.size<=100)(ROW:World->Prop)(v p0 p1 p2 p3:Nat)(hv:v<11)(hF:0<w.heap.size)(HF:Hid (w.cell? (At 0 (v*5+1))=some (I6 p0)/\w.cell? (At 0 (v*5+2))=some (I6 p1)/\w.cell? (At 0 (v*5+3))=some (I6 p2)/\w.cell? (At 0 (v*5+4))=some (I6 p3)))(HS:Hid (Calls prog 58 #[.string s,.string ⟨#[32]⟩] (w.alloc (.cells #[I6 0,.string ⟨#[]⟩,.string ⟨#[]⟩,U3 0,I6 0,U3 0,I6 0] 93)) fun e w1=>e=.returned (Sq (w.heap.size+1) 1 1)/\w1.cell? (At (w.heap.size+1) 0)=some (.string s0)/\w.heap.size+1<w1.heap.size/\Blk w1 w.heap.size #[I6 0,.string ⟨#[]⟩,.string ⟨#[]⟩,U3 0,I6 0,U3 0,I6 0] 93/\Bl w w1/\ROW w1))
  (HV:Hid (∀ W,Bl w W->Cr prog 59 #[.string s0] W (.tuple #[I6 v,.bool true])))
  (HP:Hid (∀ w1 w2,ROW w1->w.heap.size+1<w1.heap.size->Bl w w1->Bl w1 w2->Calls prog 60 #[.pointer (some (Nw w2 0)),.agg #[I6 p0,I6 p1,I6 p2,I6 p3],Sq (w.heap.size+1) 0 0] (w2.alloc (.cells #[I6 v,.string ⟨#[]⟩,.string ⟨#[]⟩,U3 0,I6 0,U3 0,I6 0] 93)).drew fun e w'=>e=.returned (.bool false)/\Chg (fun b=>b=w2.heap.size) (w2.alloc (.cells #[I6 v,.string ⟨#[]⟩,.string ⟨#[]⟩,U3 0,I6 0,U3 0,I6 0] 93)) w')) :
  Cr prog 38 #[.string s] w (.tuple #[.agg #[I6 0,.string ⟨#[]⟩,.string ⟨#[]⟩,U3 0,I6 0,U3 0,I6 0],.bool false]):=by
 have h1:¬(100:Int)<(s.size:Int):=by omega
 have h3:(v:Int)<11:=by omega
 have h5:(0:Int)<=(v:Int):=by omega
 go_enter func38,ntmps38
 go_wp2_with (first|(go_at_call 58;refine HS.o.mono ?_;rintro e w1 ⟨rfl,k10,z1,rB,hb1,hrow⟩;replace rB:Hid (Blk w1 w.heap.size #[I6 0,.string ⟨#[]⟩,.string ⟨#[]⟩,U3 0,I6 0,U3 0,I6 0] 93):=rB;replace hb1:Hid (Bl w w1):=hb1;replace hrow:Hid (ROW w1):=hrow;have r0:w1.cell? (Nw w 0)=some (I6 0):=rB.o.cell 0;have rf0:=rB.o.frozen 0;have r1:w1.cell? (Nw w 1)=some (.string ⟨#[]⟩):=rB.o.cell 1;have rf1:=rB.o.frozen 1;have r2:w1.cell? (Nw w 2)=some (.string ⟨#[]⟩):=rB.o.cell 2;have rf2:=rB.o.frozen 2;have r3:w1.cell? (Nw w 3)=some (U3 0):=rB.o.cell 3;have rf3:=rB.o.frozen 3;have r4:w1.cell? (Nw w 4)=some (I6 0):=rB.o.cell 4;have rf4:=rB.o.frozen 4;have r5:w1.cell? (Nw w 5)=some (U3 0):=rB.o.cell 5;have rf5:=rB.o.frozen 5;have r6:w1.cell? (Nw w 6)=some (I6 0):=rB.o.cell 6;have rf6:=rB.o.frozen 6;have rz:=rB.o.lt)|(go_at_call 59;refine Mo (HV.o _ hb1.o) fun w2 hq2=>?_;have hb2:Hid (Bl w1 w2):=hq2;clear hq2;have qB:Hid (Blk w2 w.heap.size #[I6 0,.string ⟨#[]⟩,.string ⟨#[]⟩,U3 0,I6 0,U3 0,I6 0] 93):=rB.o.below hb2.o;have q0:w2.cell? (Nw w 0)=some (I6 0):=qB.o.cell 0;have qf0:=qB.o.frozen 0;have q1:w2.cell? (Nw w 1)=some (.string ⟨#[]⟩):=qB.o.cell 1;have qf1:=qB.o.frozen 1;have q2:w2.cell? (Nw w 2)=some (.string ⟨#[]⟩):=qB.o.cell 2;have qf2:=qB.o.frozen 2;have q3:w2.cell? (Nw w 3)=some (U3 0):=qB.o.cell 3;have qf3:=qB.o.frozen 3;have q4:w2.cell? (Nw w 4)=some (I6 0):=qB.o.cell 4;have qf4:=qB.o.frozen 4;have q5:w2.cell? (Nw w 5)=some (U3 0):=qB.o.cell 5;have qf5:=qB.o.frozen 5;have q6:w2.cell? (Nw w 6)=some (I6 0):=qB.o.cell 6;have qf6:=qB.o.frozen 6;have qz:=qB.o.lt;clear r0 rf0 r1 rf1 r2 rf2 r3 rf3 r4 rf4 r5 rf5 r6 rf6;have zg:0<w2.heap.size:=Nat.lt_of_lt_of_le hF (Nat.le_trans hb1.o.size hb2.o.size);have fm0:w2.cell? (At 0 (v*5+1))=some (I6 p0):=((hb1.o.trans (hb2.o.mono hb1.o.size)).cell (p:=At 0 (v*5+1)) hF).trans (HF.o.1);have fm1:w2.cell? (At 0 (v*5+2))=some (I6 p1):=((hb1.o.trans (hb2.o.mono hb1.o.size)).cell (p:=At 0 (v*5+2)) hF).trans (HF.o.2.1);have fm2:w2.cell? (At 0 (v*5+3))=some (I6 p2):=((hb1.o.trans (hb2.o.mono hb1.o.size)).cell (p:=At 0 (v*5+3)) hF).trans (HF.o.2.2.1);have fm3:w2.cell? (At 0 (v*5+4))=some (I6 p3):=((hb1.o.trans (hb2.o.mono hb1.o.size)).cell (p:=At 0 (v*5+4)) hF).trans (HF.o.2.2.2)))
 go_region_held3 (fun w'=>w'.cell? (At 0 (v*5+1))=some (I6 p0)/\w'.cell? (At 0 (v*5+2))=some (I6 p1)/\w'.cell? (At 0 (v*5+3))=some (I6 p2)/\w'.cell? (At 0 (v*5+4))=some (I6 p3)) (go_keep) (first|(go_at_call 60;refine Mo (HP.o w1 w2 hrow.o z1 hb1.o hb2.o) fun w3 hc3=>?_;replace hc3:Hid (Chg (fun b=>b=w2.heap.size) (w2.alloc (.cells #[I6 v,.string ⟨#[]⟩,.string ⟨#[]⟩,U3 0,I6 0,U3 0,I6 0] 93)) w3):=hc3;have sB:Hid (Blk w3 w.heap.size #[I6 0,.string ⟨#[]⟩,.string ⟨#[]⟩,U3 0,I6 0,U3 0,I6 0] 93):=kQ qB.o hc3.o;have s0:w3.cell? (Nw w 0)=some (I6 0):=sB.o.cell 0;have sf0:=sB.o.frozen 0;have s1:w3.cell? (Nw w 1)=some (.string ⟨#[]⟩):=sB.o.cell 1;have sf1:=sB.o.frozen 1;have s2:w3.cell? (Nw w 2)=some (.string ⟨#[]⟩):=sB.o.cell 2;have sf2:=sB.o.frozen 2;have s3:w3.cell? (Nw w 3)=some (U3 0):=sB.o.cell 3;have sf3:=sB.o.frozen 3;have s4:w3.cell? (Nw w 4)=some (I6 0):=sB.o.cell 4;have sf4:=sB.o.frozen 4;have s5:w3.cell? (Nw w 5)=some (U3 0):=sB.o.cell 5;have sf5:=sB.o.frozen 5;have s6:w3.cell? (Nw w 6)=some (I6 0):=sB.o.cell 6;have sf6:=sB.o.frozen 6;have sz3:=sB.o.lt;have gm0:=cL zg fm0 hc3.o;have gm1:=cL zg fm1 hc3.o;have gm2:=cL zg fm2 hc3.o;have gm3:=cL zg fm3 hc3.o))
 all_goals (
  go_wp2;have kk:=fU sB.o (I6 0) (.string ⟨#[]⟩) (.string ⟨#[]⟩) (U3 0) (I6 0) (U3 0) (I6 0)
  have kk0:=kk.cell 0;have kk1:=kk.cell 1;have kk2:=kk.cell 2;have kk3:=kk.cell 3;have kk4:=kk.cell 4;have kk5:=kk.cell 5;have kk6:=kk.cell 6;clear kk;have hq:=js hb1.o hb2.o hc3.o;have hz:=hq.size;exact bodyPost_ret (v:=.tuple #[.agg #[I6 0,.string ⟨#[]⟩,.string ⟨#[]⟩,U3 0,I6 0,U3 0,I6 0],.bool false]) (by simp[results,results38,go_sem,kk0,kk1,kk2,kk3,kk4,kk5,kk6]) rfl ⟨rfl,upB⟩)
theorem tE(s:Bz)(w:World)(s0:Bz)(hs:s.size<=100)(ROW:World->Prop)(v p0 p1 p2 p3:Nat)(hv:v<11)(hF:0<w.heap.size)(HF:Hid (w.cell? (At 0 (v*5+1))=some (I6 p0)/\w.cell? (At 0 (v*5+2))=some (I6 p1)/\w.cell? (At 0 (v*5+3))=some (I6 p2)/\w.cell? (At 0 (v*5+4))=some (I6 p3)))(HS:Hid (Calls prog 58 #[.string s,.string ⟨#[32]⟩] (w.alloc (.cells #[I6 0,.string ⟨#[]⟩,.string ⟨#[]⟩,U3 0,I6 0,U3 0,I6 0] 93)) fun e w1=>e=.returned (Sq (w.heap.size+1) 1 1)/\w1.cell? (At (w.heap.size+1) 0)=some (.string s0)/\w.heap.size+1<w1.heap.size/\Blk w1 w.heap.size #[I6 0,.string ⟨#[]⟩,.string ⟨#[]⟩,U3 0,I6 0,U3 0,I6 0] 93/\Bl w w1/\ROW w1))
  (HV:Hid (∀ W,Bl w W->Cr prog 59 #[.string s0] W (.tuple #[I6 v,.bool true]))) (l':Ln)
  (HP:Hid (∀ w1 w2,ROW w1->w.heap.size+1<w1.heap.size->Bl w w1->Bl w1 w2->Calls prog 60 #[.pointer (some (Nw w2 0)),.agg #[I6 p0,I6 p1,I6 p2,I6 p3],Sq (w.heap.size+1) 0 0] (w2.alloc (.cells #[I6 v,.string ⟨#[]⟩,.string ⟨#[]⟩,U3 0,I6 0,U3 0,I6 0] 93)).drew fun e w'=>e=.returned (.bool true)/\Blk w' w2.heap.size (lnC l') 93/\Chg (fun b=>b=w2.heap.size) (w2.alloc (.cells #[I6 v,.string ⟨#[]⟩,.string ⟨#[]⟩,U3 0,I6 0,U3 0,I6 0] 93)) w')) :
  Cr prog 38 #[.string s] w (.tuple #[.agg (lnC l'),.bool true]):=by
 have h1:¬(100:Int)<(s.size:Int):=by omega
 have h3:(v:Int)<11:=by omega
 have h5:(0:Int)<=(v:Int):=by omega
 go_enter func38,ntmps38
 go_wp2_with (first|(go_at_call 58;refine HS.o.mono ?_;rintro e w1 ⟨rfl,k10,z1,rB,hb1,hrow⟩;replace rB:Hid (Blk w1 w.heap.size #[I6 0,.string ⟨#[]⟩,.string ⟨#[]⟩,U3 0,I6 0,U3 0,I6 0] 93):=rB;replace hb1:Hid (Bl w w1):=hb1;replace hrow:Hid (ROW w1):=hrow;have r0:w1.cell? (Nw w 0)=some (I6 0):=rB.o.cell 0;have rf0:=rB.o.frozen 0;have r1:w1.cell? (Nw w 1)=some (.string ⟨#[]⟩):=rB.o.cell 1;have rf1:=rB.o.frozen 1;have r2:w1.cell? (Nw w 2)=some (.string ⟨#[]⟩):=rB.o.cell 2;have rf2:=rB.o.frozen 2;have r3:w1.cell? (Nw w 3)=some (U3 0):=rB.o.cell 3;have rf3:=rB.o.frozen 3;have r4:w1.cell? (Nw w 4)=some (I6 0):=rB.o.cell 4;have rf4:=rB.o.frozen 4;have r5:w1.cell? (Nw w 5)=some (U3 0):=rB.o.cell 5;have rf5:=rB.o.frozen 5;have r6:w1.cell? (Nw w 6)=some (I6 0):=rB.o.cell 6;have rf6:=rB.o.frozen 6;have rz:=rB.o.lt)|(go_at_call 59;refine Mo (HV.o _ hb1.o) fun w2 hq2=>?_;have hb2:Hid (Bl w1 w2):=hq2;clear hq2;have qB:Hid (Blk w2 w.heap.size #[I6 0,.string ⟨#[]⟩,.string ⟨#[]⟩,U3 0,I6 0,U3 0,I6 0] 93):=rB.o.below hb2.o;have q0:w2.cell? (Nw w 0)=some (I6 0):=qB.o.cell 0;have qf0:=qB.o.frozen 0;have q1:w2.cell? (Nw w 1)=some (.string ⟨#[]⟩):=qB.o.cell 1;have qf1:=qB.o.frozen 1;have q2:w2.cell? (Nw w 2)=some (.string ⟨#[]⟩):=qB.o.cell 2;have qf2:=qB.o.frozen 2;have q3:w2.cell? (Nw w 3)=some (U3 0):=qB.o.cell 3;have qf3:=qB.o.frozen 3;have q4:w2.cell? (Nw w 4)=some (I6 0):=qB.o.cell 4;have qf4:=qB.o.frozen 4;have q5:w2.cell? (Nw w 5)=some (U3 0):=qB.o.cell 5;have qf5:=qB.o.frozen 5;have q6:w2.cell? (Nw w 6)=some (I6 0):=qB.o.cell 6;have qf6:=qB.o.frozen 6;have qz:=qB.o.lt;clear r0 rf0 r1 rf1 r2 rf2 r3 rf3 r4 rf4 r5 rf5 r6 rf6;have zg:0<w2.heap.size:=Nat.lt_of_lt_of_le hF (Nat.le_trans hb1.o.size hb2.o.size);have fm0:w2.cell? (At 0 (v*5+1))=some (I6 p0):=((hb1.o.trans (hb2.o.mono hb1.o.size)).cell (p:=At 0 (v*5+1)) hF).trans (HF.o.1);have fm1:w2.cell? (At 0 (v*5+2))=some (I6 p1):=((hb1.o.trans (hb2.o.mono hb1.o.size)).cell (p:=At 0 (v*5+2)) hF).trans (HF.o.2.1);have fm2:w2.cell? (At 0 (v*5+3))=some (I6 p2):=((hb1.o.trans (hb2.o.mono hb1.o.size)).cell (p:=At 0 (v*5+3)) hF).trans (HF.o.2.2.1);have fm3:w2.cell? (At 0 (v*5+4))=some (I6 p3):=((hb1.o.trans (hb2.o.mono hb1.o.size)).cell (p:=At 0 (v*5+4)) hF).trans (HF.o.2.2.2)))
 go_region_held3 (fun w'=>w'.cell? (At 0 (v*5+1))=some (I6 p0)/\w'.cell? (At 0 (v*5+2))=some (I6 p1)/\w'.cell? (At 0 (v*5+3))=some (I6 p2)/\w'.cell? (At 0 (v*5+4))=some (I6 p3)) (go_keep) (first|(go_at_call 60;refine(HP.o w1 w2 hrow.o z1 hb1.o hb2.o).mono ?_;rintro e w3 ⟨rfl,lB,hc3⟩;replace lB:Hid (Blk w3 w2.heap.size (lnC l') 93):=lB;replace hc3:Hid (Chg (fun b=>b=w2.heap.size) (w2.alloc (.cells #[I6 v,.string ⟨#[]⟩,.string ⟨#[]⟩,U3 0,I6 0,U3 0,I6 0] 93)) w3):=hc3;have sB:Hid (Blk w3 w.heap.size #[I6 0,.string ⟨#[]⟩,.string ⟨#[]⟩,U3 0,I6 0,U3 0,I6 0] 93):=kQ qB.o hc3.o;have s0:w3.cell? (Nw w 0)=some (I6 0):=sB.o.cell 0;have sf0:=sB.o.frozen 0;have s1:w3.cell? (Nw w 1)=some (.string ⟨#[]⟩):=sB.o.cell 1;have sf1:=sB.o.frozen 1;have s2:w3.cell? (Nw w 2)=some (.string ⟨#[]⟩):=sB.o.cell 2;have sf2:=sB.o.frozen 2;have s3:w3.cell? (Nw w 3)=some (U3 0):=sB.o.cell 3;have sf3:=sB.o.frozen 3;have s4:w3.cell? (Nw w 4)=some (I6 0):=sB.o.cell 4;have sf4:=sB.o.frozen 4;have s5:w3.cell? (Nw w 5)=some (U3 0):=sB.o.cell 5;have sf5:=sB.o.frozen 5;have s6:w3.cell? (Nw w 6)=some (I6 0):=sB.o.cell 6;have sf6:=sB.o.frozen 6;have t0:w3.cell? (Nw w2 0)=some (I6 l'.v):=lB.o.cell 0;have t1:w3.cell? (Nw w2 1)=some (.string l'.t):=lB.o.cell 1;have t2:w3.cell? (Nw w2 2)=some (.string l'.o):=lB.o.cell 2;have t3:w3.cell? (Nw w2 3)=some (U3 l'.a):=lB.o.cell 3;have t4:w3.cell? (Nw w2 4)=some (I6 l'.n):=lB.o.cell 4;have t5:w3.cell? (Nw w2 5)=some (U3 l'.d):=lB.o.cell 5;have t6:w3.cell? (Nw w2 6)=some (I6 l'.g):=lB.o.cell 6;have tz:=lB.o.lt;have sz3:=sB.o.lt;have gm0:=cL zg fm0 hc3.o;have gm1:=cL zg fm1 hc3.o;have gm2:=cL zg fm2 hc3.o;have gm3:=cL zg fm3 hc3.o))
 all_goals (
  go_wp2;have kk:=fU sB.o (I6 l'.v) (.string l'.t) (.string l'.o) (U3 l'.a) (I6 l'.n) (U3 l'.d) (I6 l'.g)
  have kk0:=kk.cell 0;have kk1:=kk.cell 1;have kk2:=kk.cell 2;have kk3:=kk.cell 3;have kk4:=kk.cell 4;have kk5:=kk.cell 5;have kk6:=kk.cell 6;clear kk;have hq:=js hb1.o hb2.o hc3.o;have hz:=hq.size;exact bodyPost_ret (v:=(.tuple #[.agg (lnC l'),.bool true])) (by simp[results,results38,go_sem,kk0,kk1,kk2,kk3,kk4,kk5,kk6,lnC]) rfl ⟨rfl,upB⟩)
theorem AN(s:Bz)(w:World)(n:Nat)(hn:1<=n)(hn1:¬n=1)(s0:Bz)(hs:s.size<=100)(ROW:World->Prop)(v p0 p1 p2 p3:Nat)(hv:v<11)(hF:0<w.heap.size)(HF:Hid (w.cell? (At 0 (v*5+1))=some (I6 p0)/\w.cell? (At 0 (v*5+2))=some (I6 p1)/\w.cell? (At 0 (v*5+3))=some (I6 p2)/\w.cell? (At 0 (v*5+4))=some (I6 p3)))(HS:Hid (Calls prog 58 #[.string s,.string ⟨#[32]⟩] (w.alloc (.cells #[I6 0,.string ⟨#[]⟩,.string ⟨#[]⟩,U3 0,I6 0,U3 0,I6 0] 93)) fun e w1=>e=.returned (Sq (w.heap.size+1) n n)/\w1.cell? (At (w.heap.size+1) 0)=some (.string s0)/\w.heap.size+1<w1.heap.size/\Blk w1 w.heap.size #[I6 0,.string ⟨#[]⟩,.string ⟨#[]⟩,U3 0,I6 0,U3 0,I6 0] 93/\Bl w w1/\ROW w1))
  (HV:Hid (∀ W,Bl w W->Cr prog 59 #[.string s0] W (.tuple #[I6 v,.bool true])))
  (HP:Hid (∀ w1 w2,ROW w1->w.heap.size+1<w1.heap.size->Bl w w1->Bl w1 w2->Calls prog 60 #[.pointer (some (Nw w2 0)),.agg #[I6 p0,I6 p1,I6 p2,I6 p3],.slice (some (At (w.heap.size+1) 1)) (n-1) (n-1)] (w2.alloc (.cells #[I6 v,.string ⟨#[]⟩,.string ⟨#[]⟩,U3 0,I6 0,U3 0,I6 0] 93)).drew fun e w'=>e=.returned (.bool false)/\Chg (fun b=>b=w2.heap.size) (w2.alloc (.cells #[I6 v,.string ⟨#[]⟩,.string ⟨#[]⟩,U3 0,I6 0,U3 0,I6 0] 93)) w')) :
  Cr prog 38 #[.string s] w (.tuple #[.agg #[I6 0,.string ⟨#[]⟩,.string ⟨#[]⟩,U3 0,I6 0,U3 0,I6 0],.bool false]):=by
 have h1:¬(100:Int)<(s.size:Int):=by omega
 have h2:(0:Int)<(n:Int):=by omega
 have h4:(1:Int)<=(n:Int):=by omega
 have h3:(v:Int)<11:=by omega
 have h5:(0:Int)<=(v:Int):=by omega
 go_enter func38,ntmps38
 go_wp2_with (first|(go_at_call 58;refine HS.o.mono ?_;rintro e w1 ⟨rfl,k10,z1,rB,hb1,hrow⟩;replace rB:Hid (Blk w1 w.heap.size #[I6 0,.string ⟨#[]⟩,.string ⟨#[]⟩,U3 0,I6 0,U3 0,I6 0] 93):=rB;replace hb1:Hid (Bl w w1):=hb1;replace hrow:Hid (ROW w1):=hrow;have r0:w1.cell? (Nw w 0)=some (I6 0):=rB.o.cell 0;have rf0:=rB.o.frozen 0;have r1:w1.cell? (Nw w 1)=some (.string ⟨#[]⟩):=rB.o.cell 1;have rf1:=rB.o.frozen 1;have r2:w1.cell? (Nw w 2)=some (.string ⟨#[]⟩):=rB.o.cell 2;have rf2:=rB.o.frozen 2;have r3:w1.cell? (Nw w 3)=some (U3 0):=rB.o.cell 3;have rf3:=rB.o.frozen 3;have r4:w1.cell? (Nw w 4)=some (I6 0):=rB.o.cell 4;have rf4:=rB.o.frozen 4;have r5:w1.cell? (Nw w 5)=some (U3 0):=rB.o.cell 5;have rf5:=rB.o.frozen 5;have r6:w1.cell? (Nw w 6)=some (I6 0):=rB.o.cell 6;have rf6:=rB.o.frozen 6;have rz:=rB.o.lt)|(go_at_call 59;refine Mo (HV.o _ hb1.o) fun w2 hq2=>?_;have hb2:Hid (Bl w1 w2):=hq2;clear hq2;have qB:Hid (Blk w2 w.heap.size #[I6 0,.string ⟨#[]⟩,.string ⟨#[]⟩,U3 0,I6 0,U3 0,I6 0] 93):=rB.o.below hb2.o;have q0:w2.cell? (Nw w 0)=some (I6 0):=qB.o.cell 0;have qf0:=qB.o.frozen 0;have q1:w2.cell? (Nw w 1)=some (.string ⟨#[]⟩):=qB.o.cell 1;have qf1:=qB.o.frozen 1;have q2:w2.cell? (Nw w 2)=some (.string ⟨#[]⟩):=qB.o.cell 2;have qf2:=qB.o.frozen 2;have q3:w2.cell? (Nw w 3)=some (U3 0):=qB.o.cell 3;have qf3:=qB.o.frozen 3;have q4:w2.cell? (Nw w 4)=some (I6 0):=qB.o.cell 4;have qf4:=qB.o.frozen 4;have q5:w2.cell? (Nw w 5)=some (U3 0):=qB.o.cell 5;have qf5:=qB.o.frozen 5;have q6:w2.cell? (Nw w 6)=some (I6 0):=qB.o.cell 6;have qf6:=qB.o.frozen 6;have qz:=qB.o.lt;clear r0 rf0 r1 rf1 r2 rf2 r3 rf3 r4 rf4 r5 rf5 r6 rf6;have zg:0<w2.heap.size:=Nat.lt_of_lt_of_le hF (Nat.le_trans hb1.o.size hb2.o.size);have fm0:w2.cell? (At 0 (v*5+1))=some (I6 p0):=((hb1.o.trans (hb2.o.mono hb1.o.size)).cell (p:=At 0 (v*5+1)) hF).trans (HF.o.1);have fm1:w2.cell? (At 0 (v*5+2))=some (I6 p1):=((hb1.o.trans (hb2.o.mono hb1.o.size)).cell (p:=At 0 (v*5+2)) hF).trans (HF.o.2.1);have fm2:w2.cell? (At 0 (v*5+3))=some (I6 p2):=((hb1.o.trans (hb2.o.mono hb1.o.size)).cell (p:=At 0 (v*5+3)) hF).trans (HF.o.2.2.1);have fm3:w2.cell? (At 0 (v*5+4))=some (I6 p3):=((hb1.o.trans (hb2.o.mono hb1.o.size)).cell (p:=At 0 (v*5+4)) hF).trans (HF.o.2.2.2)))
 go_region_held3 (fun w'=>w'.cell? (At 0 (v*5+1))=some (I6 p0)/\w'.cell? (At 0 (v*5+2))=some (I6 p1)/\w'.cell? (At 0 (v*5+3))=some (I6 p2)/\w'.cell? (At 0 (v*5+4))=some (I6 p3)) (go_keep) (first|(go_at_call 60;refine Mo (HP.o w1 w2 hrow.o z1 hb1.o hb2.o) fun w3 hc3=>?_;replace hc3:Hid (Chg (fun b=>b=w2.heap.size) (w2.alloc (.cells #[I6 v,.string ⟨#[]⟩,.string ⟨#[]⟩,U3 0,I6 0,U3 0,I6 0] 93)) w3):=hc3;have sB:Hid (Blk w3 w.heap.size #[I6 0,.string ⟨#[]⟩,.string ⟨#[]⟩,U3 0,I6 0,U3 0,I6 0] 93):=kQ qB.o hc3.o;have s0:w3.cell? (Nw w 0)=some (I6 0):=sB.o.cell 0;have sf0:=sB.o.frozen 0;have s1:w3.cell? (Nw w 1)=some (.string ⟨#[]⟩):=sB.o.cell 1;have sf1:=sB.o.frozen 1;have s2:w3.cell? (Nw w 2)=some (.string ⟨#[]⟩):=sB.o.cell 2;have sf2:=sB.o.frozen 2;have s3:w3.cell? (Nw w 3)=some (U3 0):=sB.o.cell 3;have sf3:=sB.o.frozen 3;have s4:w3.cell? (Nw w 4)=some (I6 0):=sB.o.cell 4;have sf4:=sB.o.frozen 4;have s5:w3.cell? (Nw w 5)=some (U3 0):=sB.o.cell 5;have sf5:=sB.o.frozen 5;have s6:w3.cell? (Nw w 6)=some (I6 0):=sB.o.cell 6;have sf6:=sB.o.frozen 6;have sz3:=sB.o.lt;have gm0:=cL zg fm0 hc3.o;have gm1:=cL zg fm1 hc3.o;have gm2:=cL zg fm2 hc3.o;have gm3:=cL zg fm3 hc3.o))
 all_goals (
  go_wp2;have kk:=fU sB.o (I6 0) (.string ⟨#[]⟩) (.string ⟨#[]⟩) (U3 0) (I6 0) (U3 0) (I6 0)
  have kk0:=kk.cell 0;have kk1:=kk.cell 1;have kk2:=kk.cell 2;have kk3:=kk.cell 3;have kk4:=kk.cell 4;have kk5:=kk.cell 5;have kk6:=kk.cell 6;clear kk;have hq:=js hb1.o hb2.o hc3.o;have hz:=hq.size;exact bodyPost_ret (v:=.tuple #[.agg #[I6 0,.string ⟨#[]⟩,.string ⟨#[]⟩,U3 0,I6 0,U3 0,I6 0],.bool false]) (by simp[results,results38,go_sem,kk0,kk1,kk2,kk3,kk4,kk5,kk6]) rfl ⟨rfl,upB⟩)
theorem wZ(s:Bz)(w:World)(n:Nat)(hn:1<=n)(hn1:¬n=1)(s0:Bz)(hs:s.size<=100)(ROW:World->Prop)(v p0 p1 p2 p3:Nat)(hv:v<11)(hF:0<w.heap.size)(HF:Hid (w.cell? (At 0 (v*5+1))=some (I6 p0)/\w.cell? (At 0 (v*5+2))=some (I6 p1)/\w.cell? (At 0 (v*5+3))=some (I6 p2)/\w.cell? (At 0 (v*5+4))=some (I6 p3)))(HS:Hid (Calls prog 58 #[.string s,.string ⟨#[32]⟩] (w.alloc (.cells #[I6 0,.string ⟨#[]⟩,.string ⟨#[]⟩,U3 0,I6 0,U3 0,I6 0] 93)) fun e w1=>e=.returned (Sq (w.heap.size+1) n n)/\w1.cell? (At (w.heap.size+1) 0)=some (.string s0)/\w.heap.size+1<w1.heap.size/\Blk w1 w.heap.size #[I6 0,.string ⟨#[]⟩,.string ⟨#[]⟩,U3 0,I6 0,U3 0,I6 0] 93/\Bl w w1/\ROW w1))
  (HV:Hid (∀ W,Bl w W->Cr prog 59 #[.string s0] W (.tuple #[I6 v,.bool true]))) (l':Ln)
  (HP:Hid (∀ w1 w2,ROW w1->w.heap.size+1<w1.heap.size->Bl w w1->Bl w1 w2->Calls prog 60 #[.pointer (some (Nw w2 0)),.agg #[I6 p0,I6 p1,I6 p2,I6 p3],.slice (some (At (w.heap.size+1) 1)) (n-1) (n-1)] (w2.alloc (.cells #[I6 v,.string ⟨#[]⟩,.string ⟨#[]⟩,U3 0,I6 0,U3 0,I6 0] 93)).drew fun e w'=>e=.returned (.bool true)/\Blk w' w2.heap.size (lnC l') 93/\Chg (fun b=>b=w2.heap.size) (w2.alloc (.cells #[I6 v,.string ⟨#[]⟩,.string ⟨#[]⟩,U3 0,I6 0,U3 0,I6 0] 93)) w')) :
  Cr prog 38 #[.string s] w (.tuple #[.agg (lnC l'),.bool true]):=by
 have h1:¬(100:Int)<(s.size:Int):=by omega
 have h2:(0:Int)<(n:Int):=by omega
 have h4:(1:Int)<=(n:Int):=by omega
 have h3:(v:Int)<11:=by omega
 have h5:(0:Int)<=(v:Int):=by omega
 go_enter func38,ntmps38
 go_wp2_with (first|(go_at_call 58;refine HS.o.mono ?_;rintro e w1 ⟨rfl,k10,z1,rB,hb1,hrow⟩;replace rB:Hid (Blk w1 w.heap.size #[I6 0,.string ⟨#[]⟩,.string ⟨#[]⟩,U3 0,I6 0,U3 0,I6 0] 93):=rB;replace hb1:Hid (Bl w w1):=hb1;replace hrow:Hid (ROW w1):=hrow;have r0:w1.cell? (Nw w 0)=some (I6 0):=rB.o.cell 0;have rf0:=rB.o.frozen 0;have r1:w1.cell? (Nw w 1)=some (.string ⟨#[]⟩):=rB.o.cell 1;have rf1:=rB.o.frozen 1;have r2:w1.cell? (Nw w 2)=some (.string ⟨#[]⟩):=rB.o.cell 2;have rf2:=rB.o.frozen 2;have r3:w1.cell? (Nw w 3)=some (U3 0):=rB.o.cell 3;have rf3:=rB.o.frozen 3;have r4:w1.cell? (Nw w 4)=some (I6 0):=rB.o.cell 4;have rf4:=rB.o.frozen 4;have r5:w1.cell? (Nw w 5)=some (U3 0):=rB.o.cell 5;have rf5:=rB.o.frozen 5;have r6:w1.cell? (Nw w 6)=some (I6 0):=rB.o.cell 6;have rf6:=rB.o.frozen 6;have rz:=rB.o.lt)|(go_at_call 59;refine Mo (HV.o _ hb1.o) fun w2 hq2=>?_;have hb2:Hid (Bl w1 w2):=hq2;clear hq2;have qB:Hid (Blk w2 w.heap.size #[I6 0,.string ⟨#[]⟩,.string ⟨#[]⟩,U3 0,I6 0,U3 0,I6 0] 93):=rB.o.below hb2.o;have q0:w2.cell? (Nw w 0)=some (I6 0):=qB.o.cell 0;have qf0:=qB.o.frozen 0;have q1:w2.cell? (Nw w 1)=some (.string ⟨#[]⟩):=qB.o.cell 1;have qf1:=qB.o.frozen 1;have q2:w2.cell? (Nw w 2)=some (.string ⟨#[]⟩):=qB.o.cell 2;have qf2:=qB.o.frozen 2;have q3:w2.cell? (Nw w 3)=some (U3 0):=qB.o.cell 3;have qf3:=qB.o.frozen 3;have q4:w2.cell? (Nw w 4)=some (I6 0):=qB.o.cell 4;have qf4:=qB.o.frozen 4;have q5:w2.cell? (Nw w 5)=some (U3 0):=qB.o.cell 5;have qf5:=qB.o.frozen 5;have q6:w2.cell? (Nw w 6)=some (I6 0):=qB.o.cell 6;have qf6:=qB.o.frozen 6;have qz:=qB.o.lt;clear r0 rf0 r1 rf1 r2 rf2 r3 rf3 r4 rf4 r5 rf5 r6 rf6;have zg:0<w2.heap.size:=Nat.lt_of_lt_of_le hF (Nat.le_trans hb1.o.size hb2.o.size);have fm0:w2.cell? (At 0 (v*5+1))=some (I6 p0):=((hb1.o.trans (hb2.o.mono hb1.o.size)).cell (p:=At 0 (v*5+1)) hF).trans (HF.o.1);have fm1:w2.cell? (At 0 (v*5+2))=some (I6 p1):=((hb1.o.trans (hb2.o.mono hb1.o.size)).cell (p:=At 0 (v*5+2)) hF).trans (HF.o.2.1);have fm2:w2.cell? (At 0 (v*5+3))=some (I6 p2):=((hb1.o.trans (hb2.o.mono hb1.o.size)).cell (p:=At 0 (v*5+3)) hF).trans (HF.o.2.2.1);have fm3:w2.cell? (At 0 (v*5+4))=some (I6 p3):=((hb1.o.trans (hb2.o.mono hb1.o.size)).cell (p:=At 0 (v*5+4)) hF).trans (HF.o.2.2.2)))
 go_region_held3 (fun w'=>w'.cell? (At 0 (v*5+1))=some (I6 p0)/\w'.cell? (At 0 (v*5+2))=some (I6 p1)/\w'.cell? (At 0 (v*5+3))=some (I6 p2)/\w'.cell? (At 0 (v*5+4))=some (I6 p3)) (go_keep) (first|(go_at_call 60;refine(HP.o w1 w2 hrow.o z1 hb1.o hb2.o).mono ?_;rintro e w3 ⟨rfl,lB,hc3⟩;replace lB:Hid (Blk w3 w2.heap.size (lnC l') 93):=lB;replace hc3:Hid (Chg (fun b=>b=w2.heap.size) (w2.alloc (.cells #[I6 v,.string ⟨#[]⟩,.string ⟨#[]⟩,U3 0,I6 0,U3 0,I6 0] 93)) w3):=hc3;have sB:Hid (Blk w3 w.heap.size #[I6 0,.string ⟨#[]⟩,.string ⟨#[]⟩,U3 0,I6 0,U3 0,I6 0] 93):=kQ qB.o hc3.o;have s0:w3.cell? (Nw w 0)=some (I6 0):=sB.o.cell 0;have sf0:=sB.o.frozen 0;have s1:w3.cell? (Nw w 1)=some (.string ⟨#[]⟩):=sB.o.cell 1;have sf1:=sB.o.frozen 1;have s2:w3.cell? (Nw w 2)=some (.string ⟨#[]⟩):=sB.o.cell 2;have sf2:=sB.o.frozen 2;have s3:w3.cell? (Nw w 3)=some (U3 0):=sB.o.cell 3;have sf3:=sB.o.frozen 3;have s4:w3.cell? (Nw w 4)=some (I6 0):=sB.o.cell 4;have sf4:=sB.o.frozen 4;have s5:w3.cell? (Nw w 5)=some (U3 0):=sB.o.cell 5;have sf5:=sB.o.frozen 5;have s6:w3.cell? (Nw w 6)=some (I6 0):=sB.o.cell 6;have sf6:=sB.o.frozen 6;have t0:w3.cell? (Nw w2 0)=some (I6 l'.v):=lB.o.cell 0;have t1:w3.cell? (Nw w2 1)=some (.string l'.t):=lB.o.cell 1;have t2:w3.cell? (Nw w2 2)=some (.string l'.o):=lB.o.cell 2;have t3:w3.cell? (Nw w2 3)=some (U3 l'.a):=lB.o.cell 3;have t4:w3.cell? (Nw w2 4)=some (I6 l'.n):=lB.o.cell 4;have t5:w3.cell? (Nw w2 5)=some (U3 l'.d):=lB.o.cell 5;have t6:w3.cell? (Nw w2 6)=some (I6 l'.g):=lB.o.cell 6;have tz:=lB.o.lt;have sz3:=sB.o.lt;have gm0:=cL zg fm0 hc3.o;have gm1:=cL zg fm1 hc3.o;have gm2:=cL zg fm2 hc3.o;have gm3:=cL zg fm3 hc3.o))
 all_goals (
  go_wp2;have kk:=fU sB.o (I6 l'.v) (.string l'.t) (.string l'.o) (U3 l'.a) (I6 l'.n) (U3 l'.d) (I6 l'.g)
  have kk0:=kk.cell 0;have kk1:=kk.cell 1;have kk2:=kk.cell 2;have kk3:=kk.cell 3;have kk4:=kk.cell 4;have kk5:=kk.cell 5;have kk6:=kk.cell 6;clear kk;have hq:=js hb1.o hb2.o hc3.o;have hz:=hq.size;exact bodyPost_ret (v:=(.tuple #[.agg (lnC l'),.bool true])) (by simp[results,results38,go_sem,kk0,kk1,kk2,kk3,kk4,kk5,kk6,lnC]) rfl ⟨rfl,upB⟩)
theorem Cn(l:Ln)(k:Nat):cps l (List.replicate k 0) []=some l:=by
 cases k<;>simp[cps,List.replicate_succ]
theorem yG(k:Nat):∀ (ps:List Nat) (ws:List (Lu)) (l:Ln),(∀ p,p∈ps->p≠0)->ws.length<=ps.length+k->cps l (ps++List.replicate k 0) ws=aq l ps ws
 | [],[],l,_,_=>by rw[List.nil_append,Cn];rfl
 | [],w::ws,l,_,h=>by
  obtain⟨k,rfl⟩:∃ q,k=q+1:=⟨k-1,by simp at h;omega⟩
  rw[List.nil_append,List.replicate_succ];rfl
 | p::ps,[],l,hp,_=>by
  have:=hp p sM
  simp[cps,aq,this]
 | p::ps,w::ws,l,hp,h=>by
  rw[List.cons_append];simp only[cps,aq]
  rcases aQ l p w with _|l'
  ·rfl
  ·exact yG k ps ws l' (fun q hq=>hp q (by simp[hq])) (by simp at h;omega)
theorem kC:∀ (ps:List Nat) (ws:List (Lu)) (l l':Ln),aq l ps ws=some l'->ws.length=ps.length
 | [],[],_,_,_=>rfl
 | [],_::_,l,l',h=>by simp[aq] at h
 | _::_,[],l,l',h=>by simp[aq] at h
 | p::ps,w::ws,l,l',h=>by
  rw[aq] at h;split at h
  ·have:=kC ps ws _ l' h
   simp[this]
  ·cases h
def fmP(v j:Nat):Nat:=(form v).getD j 0
theorem p9(v:Nat)(h:v<11):[fmP v 0,fmP v 1,fmP v 2,fmP v 3]=form v++List.replicate (4-(form v).length) 0/\(∀ p,p∈form v->p≠0)/\(form v).length<=4/\fmP v 0<=5/\fmP v 1<=5/\fmP v 2<=5/\fmP v 3<=5:=by
 have:∀ v:Fin 11,[fmP v 0,fmP v 1,fmP v 2,fmP v 3]=form v++List.replicate (4-(form v).length) 0/\(∀ p,p∈form v->p≠0)/\(form v).length<=4/\fmP v 0<=5/\fmP v 1<=5/\fmP v 2<=5/\fmP v 3<=5:=by decide +kernel
 exact this ⟨v,h⟩
theorem sr(v:Nat)(h:v<11):cB[v*5+1]?=some (.int .i64 (fmP v 0))/\cB[v*5+2]?=some (.int .i64 (fmP v 1))/\cB[v*5+3]?=some (.int .i64 (fmP v 2))/\cB[v*5+4]?=some (.int .i64 (fmP v 3)):=by
 have hc:v=0\/v=1\/v=2\/v=3\/v=4\/v=5\/v=6\/v=7\/v=8\/v=9\/v=10:=by omega
 rcases hc with rfl|rfl|rfl|rfl|rfl|rfl|rfl|rfl|rfl|rfl|rfl<;>exact⟨rfl,rfl,rfl,rfl⟩
theorem yH(v:Nat)(h:v<11)(ws:List (Lu))(hw:ws.length<=4)(l:Ln):cps l [fmP v 0,fmP v 1,fmP v 2,fmP v 3] ws=aq l (form v) ws:=by
 obtain⟨h1,h2,h3,_⟩:=p9 v h;rw[h1];exact yG _ _ _ _ h2 om
def rlC(s:Bz):Ln:=(aE s.data.toList).getD (ln0 0)
def fQ(s:Bz):Bool:=(aE s.data.toList).isSome
theorem wy(s:Bz)(w:World)(E:di w)(hZ:10<=w.heap.size):Cr prog 38 #[.string s] w (.tuple #[.agg (lnC (rlC s)),.bool (fQ s)]):=by
 have hl:=Lib.size_eq s;by_cases hs:s.size<=100
 ·obtain⟨LL,hLL⟩:∃ L:List Bz,L.map (fun x=>x.data.toList)=ax 32 s.data.toList/\∀ W,Env W->Calls prog 58 #[.string s,.string ⟨#[32]⟩] W fun e w'=>e=.returned (.slice (some (At W.heap.size 0)) L.length L.length)/\w'=W.alloc (.cells (L.map Value.string).toArray 9):=by
   refine⟨(ax 32 s.data.toList).map bs,by rw[List.map_map];exact(List.map_congr_left fun x _=>bN x).trans (List.map_id _),fun W EW=>?_⟩
   refine(xu s W EW om).mono ?_
   rintro e w' ⟨L,h1,rfl,rfl⟩
   have h2:L=(ax 32 s.data.toList).map bs:=by
    rw[<- h1,List.map_map];exact((List.map_congr_left fun x _=>(D6 x)).trans (List.map_id _)).symm
   rw[<- h2];exact⟨rfl,rfl⟩
  obtain⟨hmap,hsp⟩:=hLL;obtain⟨s0,Lr,rfl⟩:∃ s0 Lr,LL=s0::Lr:=by
   rcases LL with _|⟨a,b⟩
   ·have:=dJ 32 s.data.toList
    rw[<- hmap] at this;simp at this
   ·exact⟨a,b,rfl⟩
  have hpt:ax 32 s.data.toList=s0.data.toList::Lr.map (fun x=>x.data.toList):=by rw[<- hmap];rfl
  have hrl:aE s.data.toList=if fi (fun v=>v==s0.data.toList) aY<0 then none else aq (ln0 (fi (fun v=>v==s0.data.toList) aY).toNat) (form (fi (fun v=>v==s0.data.toList) aY).toNat) (Lr.map (fun x=>x.data.toList)):=by
   unfold aE;rw[if_pos om,hpt]
  have hsz:∀ k,(Lr.getD k ⟨#[]⟩).size<=2097152:=fun k=>by
   have h1:=jk 32 s.data.toList (k+1)
   rw[hpt] at h1;have h2:((s0.data.toList::Lr.map (fun x=>x.data.toList)).getD (k+1) [])=(Lr.getD k ⟨#[]⟩).data.toList:=by
    simp only[List.getD_cons_succ]
    rw[List.getD_eq_getElem?_getD,List.getD_eq_getElem?_getD,List.getElem?_map];rcases Lr[k]? with _|x<;>rfl
   rw[h2] at h1;have h3:=Lib.size_eq (Lr.getD k ⟨#[]⟩)
   omega
  have ROWd:∃ ROW:World->Prop,ROW=fun w1=>∀ k,k<Lr.length->w1.cell? (At (w.heap.size+1) (k+1))=some (.string (Lr.getD k ⟨#[]⟩)):=⟨_,rfl⟩
  obtain⟨ROW,hROW⟩:=ROWd;have hb0:Bl w (w.alloc (.cells #[.int .i64 0,.string ⟨#[]⟩,.string ⟨#[]⟩,.int .u32 0,.int .i64 0,.int .u32 0,.int .i64 0] 93)):=upB
  have HS:Hid (Calls prog 58 #[.string s,.string ⟨#[32]⟩] (w.alloc (.cells #[.int .i64 0,.string ⟨#[]⟩,.string ⟨#[]⟩,.int .u32 0,.int .i64 0,.int .u32 0,.int .i64 0] 93)) fun e w1=>e=.returned (.slice (some (At (w.heap.size+1) 0)) (Lr.length+1) (Lr.length+1))/\w1.cell? (At (w.heap.size+1) 0)=some (.string s0)/\w.heap.size+1<w1.heap.size/\Blk w1 w.heap.size #[.int .i64 0,.string ⟨#[]⟩,.string ⟨#[]⟩,.int .u32 0,.int .i64 0,.int .u32 0,.int .i64 0] 93/\Bl w w1/\ROW w1):=by
   refine(hsp _ (E.env.mono hb0)).mono ?_
   rintro e w1 ⟨rfl,rfl⟩
   have hz:(w.alloc (.cells #[.int .i64 0,.string ⟨#[]⟩,.string ⟨#[]⟩,.int .u32 0,.int .i64 0,.int .u32 0,.int .i64 0] 93)).heap.size=w.heap.size+1:=by simp
   have B:=Blk.new (w.alloc (.cells #[.int .i64 0,.string ⟨#[]⟩,.string ⟨#[]⟩,.int .u32 0,.int .i64 0,.int .u32 0,.int .i64 0] 93)) ((s0::Lr).map Value.string).toArray 9
   rw[hz] at B;refine⟨by rw[hz];rfl,B.cell 0,by simp,(Blk.new w _ _).below upB,upB,?_⟩
   rw[hROW];intro k hk;rw[B.cell (k+1)];simp[List.getD_eq_getElem?_getD,List.getElem?_eq_getElem hk]
  have hW0:∀ W,Bl w W->di W:=fun W hW=>E.mono hW
  have hvb:∀ W,Bl w W->_:=fun W hW=>oE s0 W (E.mono hW)
  by_cases hneg:fi (fun v=>v==s0.data.toList) aY<0
  ·rw[if_pos hneg] at hrl;have e1:rlC s=ln0 0:=by unfold rlC;rw[hrl];rfl
   have e2:fQ s=false:=by unfold fQ;rw[hrl];rfl
   rw[e1,e2];refine oF s w (Lr.length+1) om s0 hs ROW E.lf HS fun W hW=>?_
   have:=hvb W hW
   rw[if_pos hneg,decide_eq_true hneg] at this;exact this
  ·rw[if_neg hneg] at hrl;obtain⟨v,hv11,hv⟩:∃ v:Nat,v<11/\fi (fun v=>v==s0.data.toList) aY=(v:Int):=by
    rcases aV (fun v=>v==s0.data.toList) aY [] with⟨q,_⟩|⟨k,hk,q,_,_⟩
    ·rw[q] at hneg;omega
    ·exact⟨k,hk,q⟩
   rw[hv,Int.toNat_natCast] at hrl;have HV:Hid (∀ W,Bl w W->Cr prog 59 #[.string s0] W (.tuple #[.int .i64 v,.bool true])):=fun W hW=>by
    have:=hvb W hW
    rw[if_neg hneg,decide_eq_false hneg,hv] at this;exact this
   obtain⟨c0,c1,c2,c3⟩:=sr v hv11;have HF:Hid (w.cell? (At 0 (v*5+1))=some (.int .i64 (fmP v 0))/\w.cell? (At 0 (v*5+2))=some (.int .i64 (fmP v 1))/\w.cell? (At 0 (v*5+3))=some (.int .i64 (fmP v 2))/\w.cell? (At 0 (v*5+4))=some (.int .i64 (fmP v 3))) :=
    ⟨E.fm _ _ c0,E.fm _ _ c1,E.fm _ _ c2,E.fm _ _ c3⟩
   obtain⟨_,_,hf4,hpp⟩:=p9 v hv11;obtain⟨ln,hln⟩:∃ ln,ln=ln0 v:=⟨_,rfl⟩
   have hP:∀ (ba:Option Addr) (hbb:0<Lr.length->ba=some (At (w.heap.size+1) 1)) (w1 w2:World),ROW w1->w.heap.size+1<w1.heap.size->Bl w w1->Bl w1 w2 ->
     Calls prog 60 #[.pointer (some (At w2.heap.size 0)),.agg #[.int .i64 (fmP v 0),.int .i64 (fmP v 1),.int .i64 (fmP v 2),.int .i64 (fmP v 3)],.slice ba Lr.length Lr.length] (w2.alloc (.cells #[.int .i64 v,.string ⟨#[]⟩,.string ⟨#[]⟩,.int .u32 0,.int .i64 0,.int .u32 0,.int .i64 0] 93)).drew fun e w' =>
      e=.returned (.bool (fQ s))/\(∀ l',aE s.data.toList=some l'->Blk w' w2.heap.size (lnC l') 93)/\Chg (fun b=>b=w2.heap.size) (w2.alloc (.cells #[.int .i64 v,.string ⟨#[]⟩,.string ⟨#[]⟩,.int .u32 0,.int .i64 0,.int .u32 0,.int .i64 0] 93)) w':=by
    intro ba hbb w1 w2 hr hz1 hb1 hb2;have hq:=hb1.trans (hb2.mono hb1.size)
    have hzq:=hq.size;have hz2:=hb2.size;have hWb:Bl w2 (w2.alloc (.cells #[.int .i64 v,.string ⟨#[]⟩,.string ⟨#[]⟩,.int .u32 0,.int .i64 0,.int .u32 0,.int .i64 0] 93)).drew:=upB
    have hWd:Below (w2.alloc (.cells #[.int .i64 v,.string ⟨#[]⟩,.string ⟨#[]⟩,.int .u32 0,.int .i64 0,.int .u32 0,.int .i64 0] 93)).heap.size (w2.alloc (.cells #[.int .i64 v,.string ⟨#[]⟩,.string ⟨#[]⟩,.int .u32 0,.int .i64 0,.int .u32 0,.int .i64 0] 93)) (w2.alloc (.cells #[.int .i64 v,.string ⟨#[]⟩,.string ⟨#[]⟩,.int .u32 0,.int .i64 0,.int .u32 0,.int .i64 0] 93)).drew:=upB
    by_cases h4:Lr.length<=4
    ·refine(oD w2.heap.size (w.heap.size+1) Lr.length Lr.length ba hbb Lr rfl h4 (fmP v 0) (fmP v 1) (fmP v 2) (fmP v 3) hpp (ln0 v) _ ((E.env.mono hq).mono hWb) (fun b e=>by omega) ?_ (by have:=hWb.size;omega) om (fun k hk=>?_) hsz).mono ?_
     ·exact(Blk.new w2 _ _).below hWd
     ·rw[hROW] at hr;have hrk:=hr k hk;exact(hWb.cell (p:=At (w.heap.size+1) (k+1)) (by show w.heap.size+1 < _;omega)).trans ((hb2.cell (p:=At (w.heap.size+1) (k+1)) (by show w.heap.size+1 < _;omega)).trans hrk)
     ·rintro e w' ⟨rfl,h1,h2⟩
      rw[yH v hv11 _ (by rw[List.length_map];exact h4),<- hrl] at h1 ⊢
      exact⟨rfl,h1,(Chg.below hWd).trans h2 (fun b e=>.inl e)⟩
    ·refine(lS w2.heap.size 0 Lr.length Lr.length h4 (fmP v 0) (fmP v 1) (fmP v 2) (fmP v 3) ba _).mono ?_
     rintro e w' ⟨rfl,hb⟩
     have hno:aE s.data.toList=none:=by
      rcases e:aE s.data.toList with _|l'
      ·rfl
      ·rw[hrl] at e;have:=kC _ _ _ _ e
       rw[List.length_map] at this;omega
     refine⟨by unfold fQ;rw[hno];rfl,fun l' e=>(by rw[hno] at e;cases e),?_⟩
     exact(Chg.below hWd).trans (Chg.below (S:=fun b=>b=w2.heap.size) hb) (fun b e=>.inl e)
   rcases hres:aE s.data.toList with _|l'
   ·have e1:rlC s=ln0 0:=by unfold rlC;rw[hres];rfl
    have e2:fQ s=false:=by unfold fQ;rw[hres];rfl
    rw[e1,e2];rw[e2] at hP;by_cases h1:Lr=[]
    ·subst h1;exact wY s w s0 hs ROW v _ _ _ _ hv11 E.lf HF HS HV fun w1 w2 a b c d=>(hP _ (fun q=>absurd q sM) w1 w2 a b c d).mono fun e w' q=>⟨q.1,q.2.2⟩
    ·have hpos:0<Lr.length:=List.length_pos_iff.2 h1
     exact AN s w (Lr.length+1) om om s0 hs ROW v _ _ _ _ hv11 E.lf HF HS HV fun w1 w2 a b c d=>(hP _ (fun _=>rfl) w1 w2 a b c d).mono fun e w' q=>⟨q.1,q.2.2⟩
   ·have e1:rlC s=l':=by unfold rlC;rw[hres];rfl
    have e2:fQ s=true:=by unfold fQ;rw[hres];rfl
    rw[e1,e2];rw[e2] at hP;by_cases h1:Lr=[]
    ·subst h1;exact tE s w s0 hs ROW v _ _ _ _ hv11 E.lf HF HS HV l' fun w1 w2 a b c d=>(hP _ (fun q=>absurd q sM) w1 w2 a b c d).mono fun e w' q=>⟨q.1,q.2.1 l' hres,q.2.2⟩
    ·have hpos:0<Lr.length:=List.length_pos_iff.2 h1
     exact wZ s w (Lr.length+1) om om s0 hs ROW v _ _ _ _ hv11 E.lf HF HS HV l' fun w1 w2 a b c d=>(hP _ (fun _=>rfl) w1 w2 a b c d).mono fun e w' q=>⟨q.1,q.2.1 l' hres,q.2.2⟩
 ·have hno:aE s.data.toList=none:=by unfold aE;rw[if_neg om]
  have e1:rlC s=ln0 0:=by unfold rlC;rw[hno];rfl
  have e2:fQ s=false:=by unfold fQ;rw[hno];rfl
  rw[e1,e2];exact w8 s w om
end Go.Proofs.YtjnhhnbgjjkkjaaGreatDoor
