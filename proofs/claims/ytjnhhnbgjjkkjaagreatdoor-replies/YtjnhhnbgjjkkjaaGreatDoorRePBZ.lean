import Derived.Test.YtjnhhnbgjjkkjaaGreatDoorRePBW
import Derived.Test.YtjnhhnbgjjkkjaaGreatDoorRePBY
set_option linter.all false
set_option maxRecDepth 100000
set_option maxHeartbeats 2000000
namespace Go.Proofs.YtjnhhnbgjjkkjaaGreatDoor
open Go.ChangeShapes Go.WideShapes Go.ChangeAt Go.RowKit Go.Proofs.Tryz
theorem AA(W:World)(n c:Nat)(a:Option Addr)(f:Nat->OV)(hn:n<=1048576)(F:Nat->World->Prop)
  (HO:Hid (Calls prog 32 #[Pq W.heap.size,I6 (-1),.slice none 0 0] (W.alloc (.cells #[.slice none 0 0] 68)) fun e w'=>e=.returned (.bool true)/\Hid (F 0 w')))
  (BF:Hid (∀ i V V',F i V->Bl V V'->F i V')) (MF:Hid (∀ i V,F i V->F (i+1) V)) (LF:Hid (∀ i V,F i V->Bl W V))
  (SC:Hid (∀ i,i<n->∃ b o,a=some (At b o)/\b<W.heap.size/\BU W b (o+i*5) (f i)))
  (HS:Hid (∀ V i,F i V->i<n->(f i).kind<=2->Calls prog 33 #[Pq W.heap.size,.agg #[I6 (f i).kind,I6 (f i).on,I6 (-1),.string (f i).s,(f i).v]] V fun e w'=>e=.returned (.bool true)/\Hid (F (i+1) w'))) :
  Cr prog 10 #[.slice a n c,I6 2] W (.bool true):=by
 go_enter func10,ntmps10
 go_wp2_with ((go_at_call 32;refine HO.o.mono ?_;rintro e w1 ⟨rfl,h1⟩))
 go_loopw [6,7] (fun q i wr=>∃ j:Nat,j<=n/\q=.bool true/\i=I6 j/\Hid (F j wr)) (fun _ i _=>n-(intOf i).toNat)
 case atStart=>exact⟨0,by omega,rfl,by go_num,(show F 0 _ from BF.o _ _ _ h1.o upB)⟩
 case round =>
  obtain⟨j,hj,rfl,rfl,hF⟩:=hrel;clear h1 HO;by_cases hjn:j<n
  ·obtain⟨b,o,rfl,hb,hop⟩:=SC.o j hjn;have hlow:=LF.o j wr hF.o;have bz:b<wr.heap.size:=Nat.lt_of_lt_of_le hb hlow.size
   have c0:wr.cell? (At b (o+j*5))=some (I6 (f j).kind):=(hlow.cell (p:=At b (o+j*5)) hb).trans hop.c0
   have c1:wr.cell? (At b (o+j*5+1))=some (I6 (f j).on):=(hlow.cell (p:=At b (o+j*5+1)) hb).trans hop.c1
   have c2:wr.cell? (At b (o+j*5+2))=some (I6 (f j).a):=(hlow.cell (p:=At b (o+j*5+2)) hb).trans hop.c2
   have c3:wr.cell? (At b (o+j*5+3))=some (.string (f j).s):=(hlow.cell (p:=At b (o+j*5+3)) hb).trans hop.c3
   have c4:wr.cell? (At b (o+j*5+4))=some (f j).v:=(hlow.cell (p:=At b (o+j*5+4)) hb).trans hop.c4
   obtain⟨la,lc,hlv,_⟩:=hop.ints;rw[hlv] at c4;have hji:(j:Int)<(n:Int):=by omega
   have HSj:Hid ((f j).kind<=2->∀ V,Bl wr V->Calls prog 33 #[Pq W.heap.size,.agg #[I6 (f j).kind,I6 (f j).on,I6 (-1),.string (f j).s,.slice la (f j).L.length lc]] V fun e w'=>e=.returned (.bool true)/\Hid (F (j+1) w')):=fun hk V hV=>by rw[<- hlv];exact HS.o V j (BF.o _ _ _ hF.o hV) hjn hk
   have HM:Hid (F (j+1) wr):=MF.o _ _ hF.o
   clear hop hlow hlv HS;generalize (f j).kind=kd at c0 HSj
   generalize (f j).on=on at c1 HSj
   generalize (f j).a=aa at c2
   generalize (f j).s=ss at c3 HSj
   generalize (f j).L.length=ll at c4 HSj
   by_cases hk:2<kd
   ·clear HSj;go_wp2;go_roundw
    case rel=>exact⟨j+1,by omega,rfl,by go_num,(show F (j+1) _ from BF.o _ _ _ HM.o upB)⟩
    case measure=>simp[intOf];omega
   ·have HK:Hid (∀ V,Bl wr V->Calls prog 33 #[Pq W.heap.size,.agg #[I6 kd,I6 on,I6 (-1),.string ss,.slice la ll lc]] V fun e w'=>e=.returned (.bool true)/\Hid (F (j+1) w')):=HSj.o om
    clear HSj;go_wp2_with ((go_at_call 33;refine(HK.o _ upB).mono ?_;rintro e w2 ⟨rfl,h2⟩))
    go_roundw
    case rel=>exact⟨j+1,by omega,rfl,by go_num,(show F (j+1) _ from BF.o _ _ _ h2.o upB)⟩
    case measure=>simp[intOf];omega
  ·obtain rfl:j=n:=by omega
   have HL:Hid (Bl W wr):=LF.o _ _ hF.o
   clear SC HS;go_wp2;go_ret;exact⟨rfl,HL.o⟩
theorem Ws.below{w:World}{ρ:Nat->Nat}{W W':World}{wb:Nat}{L:List Pe}(h:Ws w ρ W wb L)(hb:Bl W W'):Ws w ρ W' wb L:=by
 obtain⟨v,v1,v2,v3⟩:=h.blk;have st:Stp (fun _=>False) ρ ρ W W':=Stp.below h.cl hb
 exact⟨⟨v,v1.below hb,av v2 hb,v3⟩,h.rw,fun j e hj=>(h.ps j e hj).step st (fun q=>q) (fun _ _ _ q=>q),st.clean,st.lowW h.low h.ro (fun q=>q),h.ro⟩
theorem FO(w:World):Ws w (ru (fun _=>0) w.heap.size 2) (w.alloc (.cells #[.slice none 0 0] 68)) w.heap.size []:=by
 refine⟨⟨.slice none 0 0,Blk.new _ _ _,⟨rfl,.inl ⟨rfl,rfl⟩⟩,fun g hg=>by simp[Value.ownBlock] at hg⟩,jw _ _ _,fun j e hj=>by simp at hj,fun q hq=>?_,(Below.refl _ _).alloc (Nat.le_refl _) _,fun q hq=>?_⟩
 ·rw[World.size_alloc] at hq;exact fS _ _ _ om
 ·by_cases e:q=w.heap.size
  ·omega
  ·rw[fS _ _ _ e] at hq;exact absurd rfl hq
def PW(w:World)(i:Nat)(V:World):Prop:=∃ ρ L,Ws w ρ V w.heap.size L/\1<=L.length/\L.length<=i+1
theorem Dl{w:World}(E:di w)(hZ:10<=w.heap.size){V:World}{i:Nat}(h:PW w i V)(hi:i<1048576)(k on:Int)(s:Bz)(vl:Value)(hk:k<=2)(hon:-9223372036854775808<=on/\on<=9223372036854775807):Calls prog 33 #[Pq w.heap.size,.agg #[I6 k,I6 on,I6 (-1),.string s,vl]] V fun e w'=>e=.returned (.bool true)/\Hid (PW w (i+1) w'):=by
 obtain⟨ρ,L,h1,h2,h3⟩:=h;by_cases k1:k=1
 ·subst k1;refine xy V w.heap.size on s vl (fun w'=>Hid (PW w (i+1) w')) (fun V' hV=>?_)
  refine(ky (h1.below hV) E hZ om vl).mono ?_
  rintro e w' ⟨rfl,ρ',L',a1,a2⟩
  exact⟨rfl,(show PW w (i+1) w' from ⟨ρ',L',a1,by omega,by omega⟩)⟩
 ·obtain⟨j,hj,HP⟩:=wL on L.length hon om om;obtain⟨v,v1,v2,v3⟩:=h1.blk;obtain⟨g,cap,rfl,_,hg⟩:=v2.form om;have he:L[j]?=some L[j]:=List.getElem?_eq_getElem hj
  have P:=h1.ps j L[j] he
  obtain⟨m,mc,hm⟩:=P.blk;have C:Hid (∀ V',Bl V V'->V'.cell? (At w.heap.size 0)=some (Sq g L.length cap)/\w.heap.size<V'.heap.size/\g<V'.heap.size/\V'.cell? (At g j)=some (.pointer (some ⟨L[j].p,0,none⟩))/\V'.cell? ⟨L[j].p,5,none⟩=some (.bool false)/\L[j].p<V'.heap.size):=fun V' hV=>by
   have b1:=v1.below hV;have b2:=av v2 hV;have b3:=hm.1.below hV;refine⟨b1.cell 0,b1.lt,Nat.lt_of_lt_of_le hg hV.size,?_,b3.cell 5,b3.lt⟩
   rw[b2.cellAt j om,List.getElem?_map,he];rfl
  by_cases k2:k=2
  ·subst k2;refine Bi V w.heap.size g L.length cap j L[j].p on (-1) s vl (fun w'=>Hid (PW w (i+1) w')) om om C HP (fun V' hV=>?_)
   refine(Cv (h1.below hV) he E hZ s).mono ?_
   rintro e w' ⟨rfl,ρ',L',a1,a2⟩
   exact⟨rfl,(show PW w (i+1) w' from ⟨ρ',L',a1,by omega,by omega⟩)⟩
  ·refine(xx V w.heap.size g L.length cap j L[j].p k on (-1) s vl om om om C HP).mono ?_
   rintro e w' ⟨rfl,hb⟩
   exact⟨rfl,(show PW w (i+1) w' from ⟨ρ,L,h1.below hb,h2,by omega⟩)⟩
theorem wN(v:Value)(n:Nat)(f:Nat->OV)(w:World)(E:di w)(hZ:10<=w.heap.size)(hS:xO w v n f)(hn:n<=1048576):Cr prog 10 #[v,I6 2] w (.bool true):=by
 obtain⟨a,c,rfl,_,_,h3⟩:=hS;refine AA w n c a f hn (PW w) ?_ ?_ ?_ ?_ ?_ ?_
 ·refine(ky (FO w) E hZ sM _).mono ?_
  rintro e w' ⟨rfl,ρ',L',a1,a2⟩
  exact⟨rfl,(show PW w 0 w' from ⟨ρ',L',a1,by rw[a2];simp,by rw[a2];simp⟩)⟩
 ·rintro i V V' ⟨ρ,L,h1,h2,h3⟩ hb
  exact⟨ρ,L,h1.below hb,h2,h3⟩
 ·rintro i V ⟨ρ,L,h1,h2,h3⟩
  exact⟨ρ,L,h1,h2,by omega⟩
 ·rintro i V ⟨ρ,L,h1,h2,h3⟩
  exact h1.low
 ·intro i hi;obtain⟨b,o,rfl,hb,ho⟩:=h3 om;exact⟨b,o,rfl,hb,ho i hi⟩
 ·intro V i hF hi hk;obtain⟨b,o,_,_,ho⟩:=h3 om;exact Dl E hZ hF om _ _ _ _ hk (ho i hi).on1
theorem oH(v:Value)(n:Nat)(f:Nat->OV)(w:World)(E:di w)(hZ:10<=w.heap.size)(hS:xO w v n f)(hn:n<=1048576):Cr prog 3 #[v] w (.bool true):=by
 have HP:Hid (Cr prog 10 #[v,I6 2] w (.bool true)):=wN v n f w E hZ hS hn
 clear hS;go_enter func3,ntmps3
 go_wp2_with ((go_at_call 10;refine HP.o.mono ?_;rintro e w1 ⟨rfl,hb⟩))
 go_ret;exact⟨rfl,hb⟩
end Go.Proofs.YtjnhhnbgjjkkjaaGreatDoor
