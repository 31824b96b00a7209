import Derived.Deep.CutRange
import Derived.Test.YtjnhhnbgjjkkjaaGreatDoorRePAN
set_option linter.all false
set_option maxRecDepth 100000
set_option maxHeartbeats 2000000
namespace Go.Proofs.YtjnhhnbgjjkkjaaGreatDoor
open Go.ChangeShapes Go.WideShapes Go.ChangeAt Go.RowKit Go.Proofs.Tryz
theorem CM:(prog.info? 80).map (fun i=>(i.zero,i.size,i.bytes))=some (some (.agg #[U3 0,I6 0]),2,16):=by kernel_rfl
def nW(n:Int)(p:Value)(W:World):Nat:=match p with
 | .pointer (some ad)=>(match W.cell? (At ad.block 1) with|some v=>(intOf v-n).toNat|none=>0)
 | _=>0
theorem mI{n m:Int}{bb:Nat}{W:World}(h:W.cell? (At bb 1)=some (I6 m)):nW n (Pq bb) W=(m-n).toNat:=by
 simp only[nW,h,intOf]
theorem FJ{w:World}{g:Nat}{t:TypeId}{u0 u1:Value}(h:Blk w g #[u0,u1] t)(a b:Value):((w.setCell (At g 0) a).setCell (At g 1) b).cell? (At g 0)=some a/\((w.setCell (At g 0) a).setCell (At g 1) b).cell? (At g 1)=some b :=
 ⟨((h.set 0 a).set 1 b).cell 0,((h.set 0 a).set 1 b).cell 1⟩
theorem AS(w:World)(x:Nat)(a n bits:Int)(nets:List Hd)(hnl:nets.length<=1000)(n0:0<=n)(n1:n<=32)(b0:0<=bits)(b1:bits<=32)(bn:Option Addr)(cn:Nat)
  (Q1:Nat->Value->Nat->World->Prop) (Q2 Q5:Nat->Nat->Int×Int->Value->Nat->World->Prop) (Q3:Nat->Bool->Int×Int->Value->Nat->World->Prop) (LC:Nat->Int×Int->Prop) (R:Bool->Int->World->Prop)
  (K1:Hid (∀ k v m W W',Q1 k v m W->Bl W W'->Q1 k v m W'))
  (K2:Hid (∀ k bb c v m W W',Q2 k bb c v m W->Bl W W'->Q2 k bb c v m W'))
  (K5:Hid (∀ k bb c v m W W',Q5 k bb c v m W->Bl W W'->Q5 k bb c v m W'))
  (K3:Hid (∀ j f d v m W W',Q3 j f d v m W->Bl W W'->Q3 j f d v m W'))
  (S0:Hid (∀ b c W,W.ownsRow (w.heap.size+3) 80 2 (.slice b 1 c) 1 [U3 a,I6 n]->Below (w.heap.size+3) (((w.alloc (.cells #[U3 a,I6 n] 80)).alloc (.cells #[U3 0,I6 0] 80)).alloc (.cells #[U3 0,I6 0] 80)) W->Q1 0 (.slice b 1 c) 1 W))
  (N1:Hid (∀ k v m W,Q1 k v m W->W.cell? (At x 1)=some (.slice bn nets.length cn)/\W.cell? (At w.heap.size 0)=some (U3 a)/\W.cell? (At w.heap.size 1)=some (I6 n)/\∀ j,j<nets.length->∃ g,bn=some (At g 0)/\W.cell? (At g (j*3))=some (U3 (nets.getD j hd0).a)/\W.cell? (At g (j*3+1))=some (I6 (nets.getD j hd0).n)))
  (HIn:Hid (∀ k,k<nets.length->∀ W,Cr prog 220 #[.agg #[U3 (nets.getD k hd0).a,I6 (nets.getD k hd0).n],.agg #[U3 a,I6 n]] W (.bool (ri (nets.getD k hd0).a (nets.getD k hd0).n a n))))
  (S1:Hid (∀ k v m W,Q1 k v m W->k<nets.length->ri (nets.getD k hd0).a (nets.getD k hd0).n a n=true->Q2 k W.heap.size ((nets.getD k hd0).a,(nets.getD k hd0).n) v m (W.alloc (.cells #[U3 (nets.getD k hd0).a,I6 (nets.getD k hd0).n] 80))))
  (S1n:Hid (∀ k v m W,Q1 k v m W->k<nets.length->ri (nets.getD k hd0).a (nets.getD k hd0).n a n=false->Q1 (k+1) v m W))
  (E2:Hid (∀ k bb c v m W,Q2 k bb c v m W->¬n<c.2->Q1 (k+1) v m W))
  (N2:Hid (∀ k bb c v m W,Q2 k bb c v m W->W.cell? (At bb 0)=some (U3 c.1)/\W.cell? (At bb 1)=some (I6 c.2)/\W.cell? (At w.heap.size 1)=some (I6 n)/\c.2<=32/\m<=40000/\w.heap.size+3<=W.heap.size))
  (HBu:Hid (∀ k bb c v m W,Q2 k bb c v m W->n<c.2->∀ V,Cr prog 246 #[.agg #[U3 c.1,I6 c.2]] V (.tuple #[.agg #[U3 (bud c.1 c.2),I6 c.2],I6 0])))
  (HPa:Hid (∀ k bb c v m W,Q5 k bb c v m W->∀ V,Cr prog 247 #[.agg #[U3 c.1,I6 c.2]] V (.tuple #[.agg #[U3 (par c.1 c.2),I6 (c.2-1)],I6 0])))
  (O2:Hid (∀ k bb c b m cap W,Q2 k bb c (.slice b m cap) m W->∃ l,∀ W',Bl W W'->W'.ownsRow (w.heap.size+3) 80 2 (.slice b m cap) m l))
  (A2:Hid (∀ k bb c b m cap W l g cap3 w3,Q2 k bb c (.slice b m cap) m W->n<c.2->W.ownsRow (w.heap.size+3) 80 2 (.slice b m cap) m l->w3.ownsRow (w.heap.size+3) 80 2 (Sq g (m+1) cap3) (m+1) (l++[U3 (bud c.1 c.2),I6 c.2])->W.grownBy w3 (Value.slice b m cap).ownBlock->((Value.slice b m cap).ownBlock=some g\/g=W.heap.size)->g<w3.heap.size->Q5 k bb c (Sq g (m+1) cap3) (m+1) w3))
  (N5:Hid (∀ k bb c v m W,Q5 k bb c v m W->W.cell? (At bb 0)=some (U3 c.1)/\W.cell? (At bb 1)=some (I6 c.2)/\W.frozen? (At bb 0)=false/\W.frozen? (At bb 1)=false/\bb<W.heap.size))
  (S5:Hid (∀ k bb c v m W,Q5 k bb c v m W->Q2 k (W.heap.size+1) (par c.1 c.2,c.2-1) v m ((((W.setCell (At bb 0) (U3 (par c.1 c.2))).setCell (At bb 1) (I6 (c.2-1))).alloc (.cells #[U3 (par c.1 c.2),I6 (c.2-1)] 80)).alloc (.cells #[U3 (par c.1 c.2),I6 (c.2-1)] 80))))
  (S3:Hid (∀ b m cap W,Q1 nets.length (.slice b m cap) m W->m<=40000/\Q3 0 false (0,0) (.slice b m cap) m W))
  (N3:Hid (∀ j f d b m cap W,Q3 j f d (.slice b m cap) m W->W.cell? (At x 1)=some (.slice bn nets.length cn)/\W.cell? (At (w.heap.size+2) 0)=some (U3 d.1)/\W.cell? (At (w.heap.size+2) 1)=some (I6 d.2)/\W.frozen? (At (w.heap.size+2) 0)=false/\W.frozen? (At (w.heap.size+2) 1)=false/\w.heap.size+2<W.heap.size/\0<=d.1/\d.1<4294967296/\(j<m->∃ g c,b=some (At g 0)/\LC j c/\W.cell? (At g (j*2))=some (U3 c.1)/\W.cell? (At g (j*2+1))=some (I6 c.2))))
  (HMe:Hid (∀ j f d v m W c,Q3 j f d v m W->LC j c->Cr prog 225 #[.slice bn nets.length cn,.agg #[U3 c.1,I6 c.2]] W (.bool (aU nets c.1 c.2))))
  (LCb:Hid (∀ j c,LC j c->0<=c.1/\c.1<4294967296))
  (S3n:Hid (∀ j f d v m W c,Q3 j f d v m W->LC j c->(aU nets c.1 c.2=true\/bits<c.2\/(f=true/\¬(d.2<c.2\/(c.2=d.2/\c.1<d.1))))->Q3 (j+1) f d v m W))
  (S3y:Hid (∀ j f d v m W c,Q3 j f d v m W->LC j c->aU nets c.1 c.2=false->¬bits<c.2->(f=false\/d.2<c.2\/(c.2=d.2/\c.1<d.1))->Q3 (j+1) true c v m ((W.setCell (At (w.heap.size+2) 0) (U3 c.1)).setCell (At (w.heap.size+2) 1) (I6 c.2))))
  (E3:Hid (∀ f d v m W,Q3 m f d v m W->R f d.1 ((W.setCell (At (w.heap.size+1) 0) (U3 d.1)).setCell (At (w.heap.size+1) 1) (I6 bits))/\Blk W (w.heap.size+1) #[U3 0,I6 0] 80)) :
  Calls prog 229 #[Pq x,.agg #[U3 a,I6 n],I6 bits] w fun e w'=>∃ f q,e=.returned (.tuple #[.agg #[U3 q,I6 bits],.bool f])/\R f q w':=by
 obtain⟨i0,hi0,hz0,hz1,hz2⟩:=info_parts CM;go_enter func229,ntmps229
 go_wp2_with (at_builtin;refine wpList_append_lies _ rfl _ _ 126 rfl (w.heap.size+3) 80 i0 _ 2 16 underlying126 hi0 hz0 hz1 hz2 rfl dE (.slice none 0 0) 0 [] rfl ⟨rfl,.inl ⟨rfl,rfl⟩⟩ (At (w.heap.size+3) 0) 1 1 [U3 a,I6 n] rfl rfl (fun j u hj=>by rw[Addr.add_lit,Nat.zero_add];match j,hj with|0,hj=>simp at hj;rw[<- hj];simp[go_sem]|1,hj=>simp at hj;rw[<- hj];simp[go_sem]|j+2,hj=>simp at hj) (by intro u hu;simp at hu;rcases hu with rfl|rfl<;>rfl) om (by unfold maxLen;omega) om sM _ rfl ?_;intro g3 cap3 w3 hown3 hgrow3 hat3 hlt3)
 have q3:Hid (Q1 0 (Sq g3 1 cap3) 1 w3):=S0.o _ _ _ hown3 (bu ((Below.refl _ _).alloc sM _) hgrow3 (fun b e=>by simp[Value.ownBlock] at e) sM)
 clear hown3 hgrow3 hat3 hlt3 S0;go_loopw [10,11] (fun l i wr=>∃ (k m:Nat) (b:Option Addr) (cap:Nat),k<=nets.length/\l=.slice b m cap/\i=I6 k/\Q1 k (.slice b m cap) m wr) (fun _ i _=>nets.length-(intOf i).toNat)
 case atStart=>exact⟨0,1,_,cap3,by omega,rfl,rfl,q3.o⟩
 case round =>
  obtain⟨k,m,b,cap,hk,rfl,rfl,hq⟩:=hrel;replace hq:Hid (Q1 k (.slice b m cap) m wr):=hq;clear q3;by_cases hlt:k<nets.length
  ·obtain⟨y1,p0,p1,hrow⟩:=N1.o _ _ _ _ hq.o;obtain⟨g,rfl,r0,r1⟩:=hrow k hlt;have HN1:Hid (∀ W,Bl wr W->W.cell? (At x 1)=some (Sq g nets.length cn)/\W.cell? (At w.heap.size 0)=some (U3 a)/\W.cell? (At w.heap.size 1)=some (I6 n)/\W.cell? (At g (k*3))=some (U3 (nets.getD k hd0).a)/\W.cell? (At g (k*3+1))=some (I6 (nets.getD k hd0).n)):=fun W hW=>by
    obtain⟨e1,e2,e3,e4⟩:=N1.o _ _ _ _ (K1.o _ _ _ _ _ hq.o hW)
    obtain⟨g',e5,e6,e7⟩:=e4 k hlt
    cases e5;exact⟨e1,e2,e3,e6,e7⟩
   have HI:=HIn.o k hlt;have HS1:Hid (∀ v m W,Q1 k v m W->ri (nets.getD k hd0).a (nets.getD k hd0).n a n=true->Q2 k W.heap.size ((nets.getD k hd0).a,(nets.getD k hd0).n) v m (W.alloc (.cells #[U3 (nets.getD k hd0).a,I6 (nets.getD k hd0).n] 80))):=fun v m W q r=>S1.o k v m W q hlt r
   have HS1n:Hid (∀ v m W,Q1 k v m W->ri (nets.getD k hd0).a (nets.getD k hd0).n a n=false->Q1 (k+1) v m W):=fun v m W q r=>S1n.o k v m W q hlt r
   clear hrow HIn S1 S1n;generalize nets.getD k hd0=y at r0 r1 HN1 HI HS1 HS1n
   rcases hin:ri y.a y.n a n with _|_
   ·have HI2:Hid (∀ W,Cr prog 220 #[.agg #[U3 y.a,I6 y.n],.agg #[U3 a,I6 n]] W (.bool false)):=fun W=>(HI W).mono (fun e w' q=>⟨by rw[q.1];exact aC hin,q.2⟩)
    have HQ:Hid (∀ W,Bl wr W->Q1 (k+1) (.slice b m cap) m W):=fun W hW=>HS1n.o _ _ _ (K1.o _ _ _ _ _ hq.o hW) hin
    clear HI HS1 HS1n hin;go_wp2;go_region_held3 (fun w'=>w'.cell? (At x 1)=some (Sq g nets.length cn)/\w'.cell? (At w.heap.size 0)=some (U3 a)/\w'.cell? (At w.heap.size 1)=some (I6 n)/\w'.cell? (At g (k*3))=some (U3 y.a)/\w'.cell? (At g (k*3+1))=some (I6 y.n)) (go_keep) ((go_at_call 220;refine Mo (HI2.o _) fun wq hbq=>?_;have HBq:Hid (Bl wr wq):=(by first|exact hbq|exact(Below.drew (Below.refl _ _)).trans hbq);obtain⟨y1,p0,p1,r0,r1⟩:=HN1.o wq HBq.o;clear hbq))
    all_goals (
     go_wp2_with fail
     go_loopw [10,13] (fun l bp wz=>l=.slice b m cap/\Hid (Bl wq wz)) (fun _ _ _=>0)
     case atStart=>exact⟨rfl,(show Below _ _ _ from upB)⟩
     case round =>
      obtain⟨rfl,HZ⟩:=hrel;go_wp2;go_roundw
      case rel=>exact⟨k+1,m,b,cap,by omega,rfl,by go_num,HQ.o _ (bup HBq.o HZ.o)⟩
      case measure=>simp[intOf];omega)
   ·have HI2:Hid (∀ W,Cr prog 220 #[.agg #[U3 y.a,I6 y.n],.agg #[U3 a,I6 n]] W (.bool true)):=fun W=>(HI W).mono (fun e w' q=>⟨by rw[q.1];exact aC hin,q.2⟩)
    have HQ:Hid (∀ W,Bl wr W->Q2 k W.heap.size (y.a,y.n) (.slice b m cap) m (W.alloc (.cells #[U3 y.a,I6 y.n] 80))):=fun W hW=>HS1.o _ _ _ (K1.o _ _ _ _ _ hq.o hW) hin
    clear HI HS1 HS1n hin;go_wp2;go_region_held3 (fun w'=>w'.cell? (At x 1)=some (Sq g nets.length cn)/\w'.cell? (At w.heap.size 0)=some (U3 a)/\w'.cell? (At w.heap.size 1)=some (I6 n)/\w'.cell? (At g (k*3))=some (U3 y.a)/\w'.cell? (At g (k*3+1))=some (I6 y.n)) (go_keep) ((go_at_call 220;refine Mo (HI2.o _) fun wq hbq=>?_;have HBq:Hid (Bl wr wq):=(by first|exact hbq|exact(Below.drew (Below.refl _ _)).trans hbq);obtain⟨y1,p0,p1,r0,r1⟩:=HN1.o wq HBq.o;clear hbq))
    all_goals (
     go_wp2_with fail
     have hq2:Hid (Q2 k wq.heap.size (y.a,y.n) (.slice b m cap) m (wq.alloc (.cells #[U3 y.a,I6 y.n] 80))):=HQ.o wq HBq.o
     clear HQ HN1 HI2 hq y1 p0 p1 r0 r1;go_loopw [10,13] (fun l bp wz=>∃ (bb:Nat) (c:Int×Int) (m2:Nat) (b2:Option Addr) (cap2:Nat),bp=Pq bb/\l=.slice b2 m2 cap2/\Q2 k bb c (.slice b2 m2 cap2) m2 wz) (fun _ bp wz=>nW n bp wz)
     case atStart=>exact⟨_,(y.a,y.n),m,b,cap,rfl,rfl,hq2.o⟩
     case round =>
      obtain⟨bb,c,m2,b2,cap2,rfl,rfl,hz⟩:=hrel;replace hz:Hid (Q2 k bb c (.slice b2 m2 cap2) m2 wr):=hz;clear hq2;obtain⟨d0,d1,d2,d3,d4,d5⟩:=N2.o _ _ _ _ _ _ hz.o;have HZS:Hid (w.heap.size+3<=wr.heap.size):=d5
      clear d5;by_cases hc:n<c.2
      ·have HM:Hid (nW n (Pq bb) wr=(c.2-n).toNat):=mI d1
       obtain⟨l5,ho5⟩:=O2.o _ _ _ _ _ _ _ hz.o;have HO5:Hid (∀ W',Bl wr W'->W'.ownsRow (w.heap.size+3) 80 2 (.slice b2 m2 cap2) m2 l5):=ho5
       have HBU:=HBu.o _ _ _ _ _ _ hz.o hc;have HBU2:Hid (∀ V,Cr prog 246 #[.agg #[U3 c.1,I6 c.2]] V (.tuple #[.agg #[U3 (bud c.1 c.2),I6 c.2],I6 0])):=HBU
       have HA2:Hid (∀ W g cap3 w3,Bl wr W->w3.ownsRow (w.heap.size+3) 80 2 (Sq g (m2+1) cap3) (m2+1) (l5++[U3 (bud c.1 c.2),I6 c.2])->W.grownBy w3 (Value.slice b2 m2 cap2).ownBlock->((Value.slice b2 m2 cap2).ownBlock=some g\/g=W.heap.size)->g<w3.heap.size->Q5 k bb c (Sq g (m2+1) cap3) (m2+1) w3):=fun W g cap3 w3 hb h1 h2 h3 h4=>A2.o _ _ _ _ _ _ _ l5 _ _ _ (K2.o _ _ _ _ _ _ _ hz.o hb) hc (HO5.o _ hb) h1 h2 h3 h4
       have HP5:=HPa.o k bb c;have HP6:Hid (∀ v m W,Q5 k bb c v m W->∀ V,Cr prog 247 #[.agg #[U3 c.1,I6 c.2]] V (.tuple #[.agg #[U3 (par c.1 c.2),I6 (c.2-1)],I6 0])):=HP5
       have HS5:Hid (∀ v m W,Q5 k bb c v m W->Q2 k (W.heap.size+1) (par c.1 c.2,c.2-1) v m ((((W.setCell (At bb 0) (U3 (par c.1 c.2))).setCell (At bb 1) (I6 (c.2-1))).alloc (.cells #[U3 (par c.1 c.2),I6 (c.2-1)] 80)).alloc (.cells #[U3 (par c.1 c.2),I6 (c.2-1)] 80))):=fun v m W q=>S5.o k bb c v m W q
       clear ho5 HBU HP5 HBu A2 HPa S5 O2;obtain⟨c1,c2⟩:=c;dsimp only at d0 d1 d3 hc HBU2 HA2 HP6 HS5 HM;generalize bud c1 c2=u at HBU2 HA2
       generalize par c1 c2=pp at HP6 HS5
       go_wp2_with (first
        | (go_at_call 247;refine Mo (HP6.o _ _ _ q5.o _) fun w6 hb6=>?_;have q6:Hid (Q5 k bb (c1,c2) (Sq g4 (m2+1) cap4) (m2+1) w6):=K5.o _ _ _ _ _ _ _ q5.o hb6;obtain⟨e0,e1,e2,e3,e4⟩:=N5.o _ _ _ _ _ _ q6.o;clear hb6)
        | (go_at_call 246;refine Mo (HBU2.o _) fun w3 hb3=>?_;have HB3:Hid (Bl wr w3):=hb3;clear hb3)
        | (at_builtin;refine wpList_append_lies _ rfl _ _ 126 rfl (w.heap.size+3) 80 i0 _ 2 16 underlying126 hi0 hz0 hz1 hz2 rfl dE (.slice b2 m2 cap2) m2 l5 rfl (HO5.o _ (upH HB3)) (At (w3.heap.size+1) 0) 1 1 [U3 u,I6 c2] rfl rfl (fun j u' hj=>by rw[Addr.add_lit,Nat.zero_add];match j,hj with|0,hj=>simp at hj;rw[<- hj];simp[go_sem]|1,hj=>simp at hj;rw[<- hj];simp[go_sem]|j+2,hj=>simp at hj) (by intro u' hu;simp at hu;rcases hu with rfl|rfl<;>rfl) om (by unfold maxLen;omega) om (by have h1:=HZS.o;have h2:=HB3.o.size;simp;omega) _ rfl ?_;intro g4 cap4 w4 hown4 hgrow4 hat4 hlt4;have q5:Hid (Q5 k bb (c1,c2) (Sq g4 (m2+1) cap4) (m2+1) w4):=HA2.o _ _ _ _ (upH HB3) hown4 hgrow4 hat4 hlt4;obtain⟨f0,f1,_,_,f4⟩:=N5.o _ _ _ _ _ _ q5.o;clear hown4 hgrow4 hat4 hlt4))
       have hfin:=HS5.o _ _ _ q6.o;refine⟨⟨_,(pp,c2-1),m2+1,_,cap4,rfl,rfl,hfin⟩,?_⟩
       have d9:=(N2.o _ _ _ _ _ _ hfin).2.1
       rw[HM.o,mI d9];dsimp only;omega
      ·have HE:Hid (Q1 (k+1) (.slice b2 m2 cap2) m2 wr):=E2.o _ _ _ _ _ _ hz.o om
       obtain⟨c1,c2⟩:=c;dsimp only at d0 d1 d3 hc;go_wp2;go_roundw
       case rel=>exact⟨k+1,m2,b2,cap2,by omega,rfl,by go_num,HE.o⟩
       case measure=>simp[intOf];omega)
  ·obtain rfl:k=nets.length:=by omega
   obtain⟨hm4,hq3⟩:=S3.o _ _ _ _ hq.o;replace hq3:Hid (Q3 0 false (0,0) (.slice b m cap) m wr):=hq3;have y1:=(N1.o _ _ _ _ hq.o).1
   clear HIn S1 S1n E2 N2 HBu HPa O2 A2 N5 S5 K2 K5 K1 N1 hq S3;go_wp2;go_loopw [9,18] (fun fv i wz=>∃ (j:Nat) (f:Bool) (d:Int×Int),j<=m/\fv=.bool f/\i=I6 j/\Q3 j f d (.slice b m cap) m wz) (fun _ i _=>m-(intOf i).toNat)
   case atStart=>exact⟨0,false,(0,0),by omega,rfl,rfl,hq3.o⟩
   case round =>
    obtain⟨j,f,d,hj,rfl,rfl,hz⟩:=hrel;replace hz:Hid (Q3 j f d (.slice b m cap) m wr):=hz;clear hq3 y1;obtain⟨y1,d0,d1,d2,d3,d4,d5,d6,hrow⟩:=N3.o _ _ _ _ _ _ _ hz.o;by_cases hjm:j<m
    ·obtain⟨g,c,rfl,hL,r0,r1⟩:=hrow hjm;have hcb:=LCb.o _ _ hL;have HL:Hid (LC j c):=hL
     have HM2:Hid (∀ W,Bl wr W->Cr prog 225 #[.slice bn nets.length cn,.agg #[U3 c.1,I6 c.2]] W (.bool (aU nets c.1 c.2))):=fun W hW=>HMe.o _ _ _ _ _ _ c (K3.o _ _ _ _ _ _ _ hz.o hW) hL
     have HNC:Hid (∀ W,Bl wr W->W.cell? (At x 1)=some (.slice bn nets.length cn)/\W.cell? (At (w.heap.size+2) 0)=some (U3 d.1)/\W.cell? (At (w.heap.size+2) 1)=some (I6 d.2)/\W.frozen? (At (w.heap.size+2) 0)=false/\W.frozen? (At (w.heap.size+2) 1)=false/\w.heap.size+2<W.heap.size/\W.cell? (At g (j*2))=some (U3 c.1)/\W.cell? (At g (j*2+1))=some (I6 c.2)):=fun W hW=>by
      obtain⟨e1,e2,e3,e4,e5,e6,_⟩:=N3.o _ _ _ _ _ _ _ (K3.o _ _ _ _ _ _ _ hz.o hW)
      exact⟨e1,e2,e3,e4,e5,e6,(hW.cell (p:=At g (j*2)) (block_lt_of_cell r0)).trans r0,(hW.cell (p:=At g (j*2+1)) (block_lt_of_cell r1)).trans r1⟩
     have HSn:Hid (∀ W,Bl wr W->(aU nets c.1 c.2=true\/bits<c.2\/(f=true/\¬(d.2<c.2\/(c.2=d.2/\c.1<d.1))))->Q3 (j+1) f d (Sq g m cap) m W):=fun W hW q=>S3n.o _ _ _ _ _ _ c (K3.o _ _ _ _ _ _ _ hz.o hW) hL q
     have HSy:Hid (∀ W,Bl wr W->aU nets c.1 c.2=false->¬bits<c.2->(f=false\/d.2<c.2\/(c.2=d.2/\c.1<d.1))->Q3 (j+1) true c (Sq g m cap) m ((W.setCell (At (w.heap.size+2) 0) (U3 c.1)).setCell (At (w.heap.size+2) 1) (I6 c.2))):=fun W hW q1 q2 q3=>S3y.o _ _ _ _ _ _ c (K3.o _ _ _ _ _ _ _ hz.o hW) hL q1 om q3
     clear hrow hL HMe LCb S3n S3y K3 N3 HL hz;obtain⟨c1,c2⟩:=c;obtain⟨e1,e2⟩:=d;dsimp only at *
     have i1:IntKind.i64.wrap c1=c1:=bf _ hcb.1 hcb.2
     have i2:IntKind.i64.wrap e1=e1:=bf _ d5 d6
     obtain⟨an,ha⟩:∃ an,aU nets c1 c2=an:=⟨_,rfl⟩
     have HA2:Hid (∀ W,Bl wr W->Cr prog 225 #[.slice bn nets.length cn,.agg #[U3 c1,I6 c2]] W (.bool an)):=fun W hW=>(HM2.o W hW).mono (fun e w' q=>⟨by rw[q.1];exact aC ha,q.2⟩)
     have HAN:Hid (aU nets c1 c2=an):=ha
     clear ha HM2;go_wp2;go_cut [19] from 76 to 138 (fun u19 wc=>u19=.bool an/\Hid (Bl wr wc))
     case first =>
      go_region_held3 (fun w'=>w'.cell? (At x 1)=some (.slice bn nets.length cn)/\w'.cell? (At g (j*2))=some (U3 c1)/\w'.cell? (At g (j*2+1))=some (I6 c2)) (go_keep) ((go_at_call 225;refine Mo (HA2.o _ upB) fun wq hbq=>?_;have HBq:Hid (Bl wr wq):=(by first|exact hbq|exact(Below.drew (Below.refl _ _)).trans hbq);obtain⟨y1,d0,d1,d2,d3,d4,r0,r1⟩:=HNC.o wq HBq.o;clear hbq))
      all_goals (go_wp2_with fail;go_meet;exact⟨rfl,HBq⟩)
     case rest =>
      obtain⟨rfl,HBc⟩:=hcut;clear HA2 y1 d0 d1 d2 d3 d4 r0 r1;obtain⟨y1,d0,d1,d2,d3,d4,r0,r1⟩:=HNC.o wc HBc.o;have ha:=HAN.o;clear HNC HAN
      cases an with
      | true =>
       have HQ:Hid (∀ W,Bl wr W->Q3 (j+1) f (e1,e2) (Sq g m cap) m W):=fun W hW=>HSn.o W hW (.inl ha)
       clear HSn HSy ha;go_wp2_with fail
       go_roundw
       case rel=>exact⟨j+1,f,_,by omega,rfl,by go_num,HQ.o _ (by first|exact HBc.o|exact HBc.o.drew|exact below_drewN HBc.o _)⟩
       case measure=>simp[intOf];omega
      | false =>
       by_cases hb:bits<c2
       ·have HQ:Hid (∀ W,Bl wr W->Q3 (j+1) f (e1,e2) (Sq g m cap) m W):=fun W hW=>HSn.o W hW (.inr (.inl hb))
        clear HSn HSy ha;go_wp2_with fail
        go_roundw
        case rel=>exact⟨j+1,f,_,by omega,rfl,by go_num,HQ.o _ (by first|exact HBc.o|exact HBc.o.drew|exact below_drewN HBc.o _)⟩
        case measure=>simp[intOf];omega
       ·cases f with
        | false =>
         have HQ:Hid (∀ W,Bl wr W->Q3 (j+1) true (c1,c2) (Sq g m cap) m ((W.setCell (At (w.heap.size+2) 0) (U3 c1)).setCell (At (w.heap.size+2) 1) (I6 c2))):=fun W hW=>HSy.o W hW ha om (.inl rfl)
         clear HSn HSy ha;go_wp2_with fail
         go_quiet (fail)
         go_wp2_with fail
         go_roundw
         case rel=>exact⟨j+1,true,_,by omega,rfl,by go_num,HQ.o _ (by first|exact HBc.o|exact HBc.o.drew|exact below_drewN HBc.o _)⟩
         case measure=>simp[intOf];omega
        | true =>
         by_cases hd:e2<c2
         ·have HQ:Hid (∀ W,Bl wr W->Q3 (j+1) true (c1,c2) (Sq g m cap) m ((W.setCell (At (w.heap.size+2) 0) (U3 c1)).setCell (At (w.heap.size+2) 1) (I6 c2))):=fun W hW=>HSy.o W hW ha om (.inr (.inl hd))
          clear HSn HSy ha;go_wp2_with fail
          go_quiet (fail)
          go_wp2_with fail
          go_roundw
          case rel=>exact⟨j+1,true,_,by omega,rfl,by go_num,HQ.o _ (by first|exact HBc.o|exact HBc.o.drew|exact below_drewN HBc.o _)⟩
          case measure=>simp[intOf];omega
         ·by_cases he:c2=e2
          ·have he':(c2==e2)=true:=by simpa using he
           by_cases hl:c1<e1
           ·have HQ:Hid (∀ W,Bl wr W->Q3 (j+1) true (c1,c2) (Sq g m cap) m ((W.setCell (At (w.heap.size+2) 0) (U3 c1)).setCell (At (w.heap.size+2) 1) (I6 c2))):=fun W hW=>HSy.o W hW ha om (.inr (.inr ⟨he,hl⟩))
            clear HSn HSy ha he;go_wp2_with fail
            have hd2:¬e2<c2:=by omega
            go_quiet (fail)
            go_wp2_with fail
            go_roundw
            case rel=>exact⟨j+1,true,_,by omega,rfl,by go_num,HQ.o _ (by first|exact HBc.o|exact HBc.o.drew|exact below_drewN HBc.o _)⟩
            case measure=>simp[intOf];omega
           ·have HQ:Hid (∀ W,Bl wr W->Q3 (j+1) true (e1,e2) (Sq g m cap) m W):=fun W hW=>HSn.o W hW (.inr (.inr ⟨rfl,by omega⟩))
            clear HSn HSy ha he;go_wp2_with fail
            have hd2:¬e2<c2:=by omega
            have hl2:¬c1<e1:=by omega
            go_quiet (fail)
            go_wp2_with fail
            go_roundw
            case rel=>exact⟨j+1,true,_,by omega,rfl,by go_num,HQ.o _ (by first|exact HBc.o|exact HBc.o.drew|exact below_drewN HBc.o _)⟩
            case measure=>simp[intOf];omega
          ·have he':(c2==e2)=false:=by simpa using he
           have HQ:Hid (∀ W,Bl wr W->Q3 (j+1) true (e1,e2) (Sq g m cap) m W):=fun W hW=>HSn.o W hW (.inr (.inr ⟨rfl,by omega⟩))
           clear HSn HSy ha he;go_wp2_with fail
           have hd2:¬e2<c2:=by omega
           go_quiet (fail)
           go_wp2_with fail
           go_roundw
           case rel=>exact⟨j+1,true,_,by omega,rfl,by go_num,HQ.o _ (by first|exact HBc.o|exact HBc.o.drew|exact below_drewN HBc.o _)⟩
           case measure=>simp[intOf];omega
    ·obtain rfl:j=m:=by omega
     obtain⟨hR,hB⟩:=E3.o _ _ _ _ _ hz.o;have s0:wr.cell? (At (w.heap.size+1) 0)=some (U3 0):=hB.cell 0
     have s1:wr.cell? (At (w.heap.size+1) 1)=some (I6 0):=hB.cell 1
     have s2:wr.frozen? (At (w.heap.size+1) 0)=false:=hB.frozen 0
     have s3:wr.frozen? (At (w.heap.size+1) 1)=false:=hB.frozen 1
     have s4:=hB.lt;obtain⟨kk0,kk1⟩:=FJ hB (U3 d.1) (I6 bits)
     replace hR:Hid _:=hR;obtain⟨e1,e2⟩:=d;dsimp only at *
     clear hrow;go_wp2;have hfin:∃ f' q,Ending.returned (Value.tuple #[.agg #[U3 e1,I6 bits],.bool f])=.returned (.tuple #[.agg #[U3 q,I6 bits],.bool f'])/\R f' q ((wr.setCell (At (w.heap.size+1) 0) (U3 e1)).setCell (At (w.heap.size+1) 1) (I6 bits)):=⟨f,e1,rfl,hR.o⟩
     exact bodyPost_ret (v:=.tuple #[.agg #[U3 e1,I6 bits],.bool f]) (by simp[results,results229,go_sem,kk0,kk1]) rfl hfin
def fq(c:Int×Int):List Value:=[U3 c.1,I6 c.2]
theorem sj(l:List (Int×Int))(c:Int×Int):(l++[c]).flatMap fq=l.flatMap fq++[U3 c.1,I6 c.2]:=by simp[fq]
theorem yR(l:List (Int×Int))(j:Nat)(hj:j<l.length):(l.flatMap fq)[j*2]?=some (U3 (l.getD j (0,0)).1)/\(l.flatMap fq)[j*2+1]?=some (I6 (l.getD j (0,0)).2):=by
 have h0:=og (k:=2) (enc:=fq) (fun _=>rfl) l (0,0) j hj 0 om
 have h1:=og (k:=2) (enc:=fq) (fun _=>rfl) l (0,0) j hj 1 om
 exact⟨h0,h1⟩
section
variable (nets:List Hd) (a n:Int)
def lh(h:Hd):List (Int×Int):=if ri h.a h.n a n=true then eD (h.n-n).toNat h.a h.n else []
def dX(k:Nat):List (Int×Int):=(a,n)::(nets.take k).flatMap (lh a n)
end
theorem iv{nets:List Hd}{a n:Int}{k:Nat}(hk:k<nets.length):dX nets a n (k+1)=dX nets a n k++lh a n (nets.getD k hd0):=by
 unfold dX;rw[eV nets k hk,List.flatMap_append];simp
theorem mK(nets:List Hd)(a n:Int):dX nets a n nets.length=dG nets a n:=by unfold dX dG lh;rw[List.take_length]
theorem mL:∀ (k:Nat) (b m:Int),(eD k b m).length=k
 | 0,_,_=>rfl
 | k+1,b,m=>by simp[eD,mL k]
theorem vu{nets:List Hd}{a n:Int}(hn:∀ h,h∈nets->h.n<=32)(n0:0<=n):∀ k,k<=nets.length->(dX nets a n k).length<=1+32*k:=by
 intro k;induction k with
 | zero=>intro _;simp[dX]
 | succ k ih =>
  intro hk;rw[iv om,List.length_append];have h1:=ih om;have h2:(lh a n (nets.getD k hd0)).length<=32:=by
   unfold lh;split
   ·rw[mL];have:=hn _ (aJ nets hd0 k om);omega
   ·simp
  omega
theorem Ci{nets:List Hd}{a n:Int}(hN:∀ h,h∈nets->rt h.a h.n=true)(hr:rt a n=true){c:Int×Int}(hc:c∈dG nets a n):rt c.1 c.2=true/\a<=c.1/\c.1+sz c.2<=a+sz n:=by
 unfold dG at hc;obtain⟨n0,n1,_⟩:=aj.1 hr;rcases List.mem_cons.1 hc with rfl|hc
 ·exact⟨hr,Int.le_refl _,Int.le_refl _⟩
 ·obtain⟨h,hh,hc⟩:=List.mem_flatMap.1 hc;by_cases hq:ri h.a h.n a n=true
  ·rw[if_pos hq] at hc;have hhr:=hN h hh;obtain⟨h0,h1,_⟩:=aj.1 hhr;have hi:inn h.a h.n a n=true:=by rw[<- fd hhr hr];exact hq
   obtain⟨i1,i2,i3⟩:=(ee hhr hr).1 hi
   obtain⟨i,j1,j2,rfl⟩:=(jD _ h.a h.n hhr om c).1 hc
   have ra:=rO (b:=h.a) (i:=i) om om
   obtain⟨a1,a2⟩:=rN (b:=h.a) (i:=i)
   obtain⟨b1,b2,b3,b4,b5,b6⟩:=rU ra om;obtain⟨p1,p2,p3,_⟩:=iJ ra om;have hs:=aD h.n;have hz:=aD (i-1)
   have hm:mm a n (par (anc h.a i) i) (i-1)=true:=(df hr p1).2 ⟨by omega,by omega⟩
   obtain⟨q1,q2⟩:=eL hr p1 hm om;exact⟨b1,by show a<=bud _ i;omega,by show bud _ i+sz i<=_;omega⟩
  ·rw[if_neg hq] at hc;simp at hc
structure FS(w:World)(a n:Int)(d:Int×Int)(v:Value)(m:Nat)(l:List Value)(W:World):Prop where
 low:Bl w W
 p:Blk W w.heap.size #[U3 a,I6 n] 80
 r:Blk W (w.heap.size+1) #[U3 0,I6 0] 80
 b:Blk W (w.heap.size+2) #[U3 d.1,I6 d.2] 80
 o:W.ownsRow (w.heap.size+3) 80 2 v m l
theorem FS.below{w:World}{a n:Int}{d:Int×Int}{v:Value}{m:Nat}{l:List Value}{W W':World}(h:FS w a n d v m l W)(hb:Bl W W'):FS w a n d v m l W' :=
 ⟨bup h.low hb,h.p.below hb,h.r.below hb,h.b.below hb,av h.o hb⟩
theorem FS.sz{w:World}{a n:Int}{d:Int×Int}{v:Value}{m:Nat}{l:List Value}{W:World}(h:FS w a n d v m l W):w.heap.size+3<=W.heap.size:=by have:=h.b.lt;omega
theorem FS.other{w:World}{a n:Int}{d:Int×Int}{v:Value}{m:Nat}{l:List Value}{W W':World}(h:FS w a n d v m l W)(q:Nat)(hq:w.heap.size+3<=q)(hv:v.ownBlock≠some q)(e:∀ g,g≠q->W'.heap[g]?=W.heap[g]?)(ho:W'.os=W.os/\W'.tape=W.tape/\W'.output=W.output/\W.heap.size<=W'.heap.size):FS w a n d v m l W':=by
 have hz:=h.sz;refine⟨⟨ho.1.trans h.low.os,ho.2.1.trans h.low.tape,ho.2.2.1.trans h.low.output,Nat.le_trans h.low.size ho.2.2.2,fun g hg=>(e g om).trans (h.low.block g hg)⟩,(e _ om).trans h.p,(e _ om).trans h.r,(e _ om).trans h.b,aL h.o fun g hg=>e g ?_⟩
 rintro rfl
 exact hv hg
theorem FS.grown{w:World}{a n:Int}{d:Int×Int}{v:Value}{m:Nat}{l:List Value}{W w3:World}(h:FS w a n d v m l W){v':Value}{m':Nat}{l':List Value}(hg:W.grownBy w3 v.ownBlock)(ho:w3.ownsRow (w.heap.size+3) 80 2 v' m' l'):FS w a n d v' m' l' w3:=by
 have hz:=h.sz;have hb:=bc h.o;have e:∀ g,g<w.heap.size+3->w3.heap[g]?=W.heap[g]?:=fun g hl=>hg.block g om (fun q=>by have:=hb g q.symm;omega)
 exact⟨⟨hg.os.trans h.low.os,hg.tape.trans h.low.tape,hg.output.trans h.low.output,Nat.le_trans h.low.size hg.size,fun g hl=>(e g om).trans (h.low.block g hl)⟩,(e _ om).trans h.p,(e _ om).trans h.r,(e _ om).trans h.b,ho⟩
theorem oU{W:World}{g:Nat}{t:TypeId}{u0 u1:Value}(h:Blk W g #[u0,u1] t)(a b:Value):Blk ((W.setCell (At g 0) a).setCell (At g 1) b) g #[a,b] t/\(∀ q,q≠g->((W.setCell (At g 0) a).setCell (At g 1) b).heap[q]?=W.heap[q]?)/\((W.setCell (At g 0) a).setCell (At g 1) b).heap.size=W.heap.size :=
 ⟨(h.set 0 a).set 1 b,fun q hq=>by
  have h1:=Below.heap_setCell W (At g 0) a q hq
  have h2:=Below.heap_setCell (W.setCell (At g 0) a) (At g 1) b q hq
  exact h2.trans h1,by simp[World.setCell]⟩
theorem xb(w:World)(x:Nat)(a n bits:Int)(nets:List Hd)(hnl:nets.length<=1000)(hN:∀ h,h∈nets->ad h.a/\rt h.a h.n=true)(ha:ad a)(hr:rt a n=true)(b0:0<=bits)(b1:bits<=32)(hin:∀ h,h∈nets->mm h.a h.n a n=true->inn h.a h.n a n=true)
  (vn:Value) (hx:w.cell? (At x 1)=some vn) (hv:Rd 3 ak hd0 w vn nets) :
  Calls prog 229 #[Pq x,.agg #[U3 a,I6 n],I6 bits] w fun e w'=>∃ f q,e=.returned (.tuple #[.agg #[U3 q,I6 bits],.bool f])/\Bl w w'/\(dN (aM 33 (af nets a n) a n) bits=if f then some (q,(dN (aM 33 (af nets a n) a n) bits).elim 0 Prod.snd) else none):=by
 obtain⟨n0,n1,_⟩:=aj.1 hr;have hrt:∀ h,h∈nets->rt h.a h.n=true:=fun h hh=>(hN h hh).2
 have hOk:∀ h,h∈nets->cP h:=fun h hh=>⟨(hN h hh).1,(aj.1 (hN h hh).2).1,(aj.1 (hN h hh).2).2.1⟩
 have hv0:=hv;obtain⟨bn,cn,rfl,hv1,hv2,hv3⟩:=hv;have hend:=gC a n n0 n1 ha.1 ha.2 (aj.1 hr).2.2
 have hxl:=block_lt_of_cell hx;have hlen:∀ k,k<=nets.length->(dX nets a n k).length<=40000:=fun k hk=>by have:=vu (a:=a) (fun h hh=>(hOk h hh).2.2) n0 k hk;omega
 have hcr:∀ {c},c∈dG nets a n->rt c.1 c.2=true/\ad c.1:=fun {c} hc=>by
  obtain⟨q1,q2,q3⟩:=Ci hrt hr hc;have:=aD c.2
  exact⟨q1,by have:=ha.1;omega,by omega⟩
 refine(AS w x a n bits nets hnl n0 n1 b0 b1 bn cn
  (fun k v m W=>FS w a n (0,0) v m ((dX nets a n k).flatMap fq) W/\m=(dX nets a n k).length/\k<=nets.length)
  (fun k bb c v m W=>∃ o,FS w a n (0,0) v m (o.flatMap fq) W/\m=o.length/\dX nets a n (k+1)=o++eD (c.2-n).toNat c.1 c.2/\Blk W bb #[U3 c.1,I6 c.2] 80/\w.heap.size+3<=bb/\v.ownBlock≠some bb/\k<nets.length/\rt c.1 c.2=true/\ad c.1/\n<=c.2)
  (fun k bb c v m W=>∃ o,FS w a n (0,0) v m (o.flatMap fq) W/\m=o.length/\dX nets a n (k+1)=o++eD (c.2-1-n).toNat (par c.1 c.2) (c.2-1)/\Blk W bb #[U3 c.1,I6 c.2] 80/\w.heap.size+3<=bb/\v.ownBlock≠some bb/\k<nets.length/\rt c.1 c.2=true/\ad c.1/\n<c.2/\(∀ q,v.ownBlock=some q->q<W.heap.size))
  (fun j f d v m W=>FS w a n d v m ((dG nets a n).flatMap fq) W/\m=(dG nets a n).length/\j<=m/\((dG nets a n).take j).foldl (cZ nets bits) none=(if f then some d else none)/\ad d.1)
  (fun j c=>j<(dG nets a n).length/\c=(dG nets a n).getD j (0,0)/\rt c.1 c.2=true/\ad c.1)
  (fun f q W=>Bl w W/\∃ d:Int×Int,q=d.1/\(dG nets a n).foldl (cZ nets bits) none=(if f then some d else none))
  ?K1 ?K2 ?K5 ?K3 ?S0 ?N1 ?HIn ?S1 ?S1n ?E2 ?N2 ?HBu ?HPa ?O2 ?A2 ?N5 ?S5 ?S3 ?N3 ?HMe ?LCb ?S3n ?S3y ?E3).mono ?fin
 case K1=>rintro k v m W W' ⟨h1,h2,h3⟩ hb;exact⟨h1.below hb,h2,h3⟩
 case K2=>rintro k bb c v m W W' ⟨o,h1,h2,h3,h4,h5⟩ hb;exact⟨o,h1.below hb,h2,h3,h4.below hb,h5⟩
 case K5=>rintro k bb c v m W W' ⟨o,h1,h2,h3,h4,h5,h6,h7,h8,h9,h10,h11⟩ hb;exact⟨o,h1.below hb,h2,h3,h4.below hb,h5,h6,h7,h8,h9,h10,fun q e=>Nat.lt_of_lt_of_le (h11 q e) hb.size⟩
 case K3=>rintro j f d v m W W' ⟨h1,h2⟩ hb;exact⟨h1.below hb,h2⟩
 case S0 =>
  intro b c W ho hb;have hz:(((w.alloc (.cells #[U3 a,I6 n] 80)).alloc (.cells #[U3 0,I6 0] 80)).alloc (.cells #[U3 0,I6 0] 80)).heap.size=w.heap.size+3:=by simp
  have g0:Blk (w.alloc (.cells #[U3 a,I6 n] 80)) w.heap.size #[U3 a,I6 n] 80:=Blk.new _ _ _
  have e0:∀ (V:World) (o:Obj),Bl V (V.alloc o):=fun V o=>(Below.refl _ _).alloc (Nat.le_refl _) _
  have k0:=(g0.below (e0 _ (.cells #[U3 0,I6 0] 80))).below (e0 _ (.cells #[U3 0,I6 0] 80))
  have g1:=Blk.new (w.alloc (.cells #[U3 a,I6 n] 80)) #[U3 0,I6 0] 80
  rw[show (w.alloc (.cells #[U3 a,I6 n] 80)).heap.size=w.heap.size+1 by simp] at g1
  have k1:=g1.below (e0 _ (.cells #[U3 0,I6 0] 80))
  have k2:=Blk.new ((w.alloc (.cells #[U3 a,I6 n] 80)).alloc (.cells #[U3 0,I6 0] 80)) #[U3 0,I6 0] 80
  rw[show ((w.alloc (.cells #[U3 a,I6 n] 80)).alloc (.cells #[U3 0,I6 0] 80)).heap.size=w.heap.size+2 by simp] at k2
  refine⟨⟨bup (W:=((w.alloc (.cells #[U3 a,I6 n] 80)).alloc (.cells #[U3 0,I6 0] 80)).alloc (.cells #[U3 0,I6 0] 80)) upB (by show Below _ _ _;rw[hz];exact hb),(hb.block _ om).trans k0,(hb.block _ om).trans k1,(hb.block _ om).trans k2,by simpa[dX,fq] using ho⟩,by simp[dX],by omega⟩
 case N1 =>
  rintro k v m W ⟨h1,h2,h3⟩
  refine⟨(h1.low.cell (p:=At x 1) hxl).trans hx,h1.p.cell 0,h1.p.cell 1,fun j hj=>?_⟩
  obtain⟨g,hg,hlt,hc⟩:=hv3 (by intro e;rw[e] at hj;simp at hj)
  have hc:=hc j hj;exact⟨g,hg,(h1.low.cell (p:=At g (j*3)) hlt).trans (hc 0 _ rfl),(h1.low.cell (p:=At g (j*3+1)) hlt).trans (hc 1 _ rfl)⟩
 case HIn =>
  intro k hk W;have q:=hOk _ (aJ nets hd0 k hk)
  exact kS _ _ a n W q.1 ha q.2.1 q.2.2 n0 n1
 case S1 =>
  rintro k v m W ⟨h1,h2,h3⟩ hk hi
  have q:=hN _ (aJ nets hd0 k hk)
  have hb:Bl W (W.alloc (.cells #[U3 (nets.getD k hd0).a,I6 (nets.getD k hd0).n] 80)):=(Below.refl _ _).alloc (Nat.le_refl _) _
  refine⟨dX nets a n k,h1.below hb,h2,?_,Blk.new _ _ _,h1.sz,fun e=>?_,hk,q.2,q.1,?_⟩
  ·rw[iv hk];unfold lh;rw[if_pos hi]
  ·have:=(h1.o.lt _ e).2;omega
  ·rw[fd q.2 hr] at hi;exact((ee q.2 hr).1 hi).1
 case S1n =>
  rintro k v m W ⟨h1,h2,h3⟩ hk hi
  have e:dX nets a n (k+1)=dX nets a n k:=by rw[iv hk];unfold lh;rw[if_neg (by rw[hi];simp)];simp
  exact⟨by rw[e];exact h1,by rw[e];exact h2,by omega⟩
 case E2 =>
  rintro k bb c v m W ⟨o,h1,h2,h3,h4,h5,h6,h7,h8,h9,h10⟩ hc
  have e:dX nets a n (k+1)=o:=by rw[h3,show (c.2-n).toNat=0 by omega];simp[eD]
  exact⟨by rw[e];exact h1,by rw[e];exact h2,by omega⟩
 case N2 =>
  rintro k bb c v m W ⟨o,h1,h2,h3,h4,h5,h6,h7,h8,h9,h10⟩
  have hl:=hlen (k+1) om
  rw[h3,List.length_append] at hl;exact⟨h4.cell 0,h4.cell 1,h1.p.cell 1,(aj.1 h8).2.1,by omega,h1.sz⟩
 case HBu =>
  rintro k bb c v m W ⟨o,h1,h2,h3,h4,h5,h6,h7,h8,h9,h10⟩ hc V
  exact tw c.1 c.2 V h9.1 h9.2 h8 om
 case HPa =>
  rintro k bb c v m W ⟨o,h1,h2,h3,h4,h5,h6,h7,h8,h9,h10,h11⟩ V
  exact gL c.1 c.2 V h9.1 h9.2 h8 om
 case O2 =>
  rintro k bb c b m cap W ⟨o,h1,_⟩
  exact⟨_,fun W' hb=>av h1.o hb⟩
 case A2 =>
  rintro k bb c b m cap W l g cap3 w3 ⟨o,h1,h2,h3,h4,h5,h6,h7,h8,h9,h10⟩ hc ho ho3 hg hat hlt
  have el:l=o.flatMap fq:=by
   have q1:=ho.2;have q2:=h1.o.2
   rcases q1 with⟨e1,e2⟩|⟨g1,c1,cur1,e1,_,k1,_,_,_,t1⟩
   ·have:=ho.1;have z1:=h1.o.1
    rw[e2] at this z1;have l0:l=[]:=List.length_eq_zero_iff.1 (by simpa using this)
    have o0:o.flatMap fq=[]:=List.length_eq_zero_iff.1 om
    rw[l0,o0]
   ·rcases q2 with⟨e3,_⟩|⟨g2,c2,cur2,e3,_,k2,_,_,_,t2⟩
    ·rw[e3] at e1;cases e1
    ·rw[e3] at e1;cases e1
     rw[k1] at k2;cases k2
     rw[<- t1,<- t2]
  refine⟨o++[(bud c.1 c.2,c.2)],h1.grown hg (by rw[sj,<- el];exact ho3),by simp[h2],?_,(hg.block bb h4.lt (fun e=>h6 e.symm)).trans h4,h5,fun e=>?_,h7,h8,h9,hc,fun q e=>?_⟩
  ·rw[h3,show (c.2-n).toNat=(c.2-1-n).toNat+1 by omega];simp[eD]
  ·obtain rfl:g=bb:=by simpa[Value.ownBlock] using e
   rcases hat with q|q
   ·exact h6 q
   ·have:=h4.lt;omega
  ·obtain rfl:g=q:=by simpa[Value.ownBlock] using e
   exact hlt
 case N5 =>
  rintro k bb c v m W ⟨o,h1,h2,h3,h4,h5⟩
  exact⟨h4.cell 0,h4.cell 1,h4.frozen 0,h4.frozen 1,h4.lt⟩
 case S5 =>
  rintro k bb c v m W ⟨o,h1,h2,h3,h4,h5,h6,h7,h8,h9,h10,h11⟩
  obtain⟨p1,p2,p3,_⟩:=iJ h8 om;have pb:=tj c.1 c.2 (aj.1 h8).2.1 h9.1 h9.2
  obtain⟨t1,t2,t3⟩:=oU h4 (U3 (par c.1 c.2)) (I6 (c.2-1))
  have f1:=h1.other (W':=(W.setCell (At bb 0) (U3 (par c.1 c.2))).setCell (At bb 1) (I6 (c.2-1))) bb h5 h6 t2 ⟨rfl,rfl,rfl,Nat.le_of_eq t3.symm⟩
  generalize (W.setCell (At bb 0) (U3 (par c.1 c.2))).setCell (At bb 1) (I6 (c.2-1))=V at t1 t2 t3 f1
  have e0:∀ (V:World) (o:Obj),Bl V (V.alloc o):=fun V o=>(Below.refl _ _).alloc (Nat.le_refl _) _
  have k2:=Blk.new (V.alloc (.cells #[U3 (par c.1 c.2),I6 (c.2-1)] 80)) #[U3 (par c.1 c.2),I6 (c.2-1)] 80
  rw[show (V.alloc (.cells #[U3 (par c.1 c.2),I6 (c.2-1)] 80)).heap.size=W.heap.size+1 by simp[t3]] at k2
  refine⟨o,(f1.below (e0 _ _)).below (e0 _ _),h2,h3,k2,by have:=h1.sz;omega,fun e=>?_,h7,p1,⟨pb.1,by have:=h9.2;omega⟩,by show n<=c.2-1;omega⟩
  have:=h11 _ e;omega
 case S3 =>
  rintro b m cap W ⟨h1,h2,h3⟩
  rw[mK] at h1 h2;have hl:=hlen nets.length (Nat.le_refl _)
  rw[mK] at hl;exact⟨by omega,h1,h2,by omega,by simp,⟨by decide,by decide⟩⟩
 case N3 =>
  rintro j f d b m cap W ⟨h1,h2,h3,h4,h5⟩
  refine⟨(h1.low.cell (p:=At x 1) hxl).trans hx,h1.b.cell 0,h1.b.cell 1,h1.b.frozen 0,h1.b.frozen 1,h1.b.lt,h5.1,h5.2,fun hj=>?_⟩
  obtain⟨g,cap',e⟩:∃ g cap',Value.slice b m cap=Sq g m cap':=by
   rcases h1.o.2 with⟨_,e⟩|⟨g,cap',_,e,_⟩
   ·omega
   ·exact⟨g,cap',e⟩
  cases e;obtain⟨q0,q1⟩:=yR (dG nets a n) j om
  have hc:=hcr (aJ (dG nets a n) (0,0) j om)
  exact⟨g,_,rfl,⟨by omega,rfl,hc⟩,(h1.o.cellAt (j*2) om).trans q0,(h1.o.cellAt (j*2+1) om).trans q1⟩
 case HMe =>
  rintro j f d v m W c ⟨h1,h2,h3,h4,h5⟩ ⟨l1,l2,l3,l4⟩
  obtain⟨c0,c1,_⟩:=aj.1 l3;exact iM nets c.1 c.2 _ W l4 c0 c1 hOk (by
   obtain⟨b',cap',e,k1,k2,k3⟩:=hv0;refine⟨b',cap',e,k1,k2,fun hl=>?_⟩
   obtain⟨g,e1,e2,e3⟩:=k3 hl;exact⟨g,e1,Nat.lt_of_lt_of_le e2 h1.low.size,fun j hj i u hu=>(h1.low.cell (p:=At g (j*3+i)) e2).trans (e3 j hj i u hu)⟩) om
 case LCb=>rintro j c ⟨l1,l2,l3,l4⟩;exact l4
 case S3n =>
  rintro j f d v m W c ⟨h1,h2,h3,h4,h5⟩ ⟨l1,l2,l3,l4⟩ hc
  refine⟨h1,h2,by omega,?_,h5⟩
  rw[List.take_succ_eq_append_getElem l1,List.foldl_append,h4];have ec:(dG nets a n)[j]=c:=by rw[l2,List.getD_eq_getElem?_getD,List.getElem?_eq_getElem l1];rfl
  rw[ec];simp only[List.foldl_cons,List.foldl_nil]
  unfold cZ;by_cases hq:aU nets c.1 c.2=true\/bits<c.2
  ·rw[if_pos hq]
  ·rw[if_neg hq];rcases hc with hc|hc|⟨rfl,hc⟩
   ·exact absurd (.inl hc) hq
   ·exact absurd (.inr hc) hq
   ·simp only[if_true]
    rw[if_neg hc]
 case S3y =>
  rintro j f d v m W c ⟨h1,h2,h3,h4,h5⟩ ⟨l1,l2,l3,l4⟩ hm hb hc
  obtain⟨t1,t2,t3⟩:=oU h1.b (U3 c.1) (I6 c.2)
  have hob:=bc h1.o;have hz:=h1.sz;have v0:((W.setCell (At (w.heap.size+2) 0) (U3 c.1)).setCell (At (w.heap.size+2) 1) (I6 c.2)).os=W.os/\((W.setCell (At (w.heap.size+2) 0) (U3 c.1)).setCell (At (w.heap.size+2) 1) (I6 c.2)).tape=W.tape/\((W.setCell (At (w.heap.size+2) 0) (U3 c.1)).setCell (At (w.heap.size+2) 1) (I6 c.2)).output=W.output:=⟨rfl,rfl,rfl⟩
  generalize (W.setCell (At (w.heap.size+2) 0) (U3 c.1)).setCell (At (w.heap.size+2) 1) (I6 c.2)=V at *
  refine⟨⟨⟨v0.1.trans h1.low.os,v0.2.1.trans h1.low.tape,v0.2.2.trans h1.low.output,by rw[t3];exact h1.low.size,fun g hg=>(t2 g om).trans (h1.low.block g hg)⟩,(t2 _ om).trans h1.p,(t2 _ om).trans h1.r,t1,aL h1.o fun g hg=>t2 g (by have:=hob g hg;omega)⟩,h2,by omega,?_,l4⟩
  rw[List.take_succ_eq_append_getElem l1,List.foldl_append,h4];have ec:(dG nets a n)[j]=c:=by rw[l2,List.getD_eq_getElem?_getD,List.getElem?_eq_getElem l1];rfl
  rw[ec];simp only[List.foldl_cons,List.foldl_nil,if_true]
  unfold cZ;rw[if_neg (by rintro (q|q);rw[hm] at q;cases q;omega)]
  cases f with
  | false=>rfl
  | true =>
   simp only[if_true]
   rw[if_pos (by rcases hc with hc|hc;cases hc;exact hc)]
 case E3 =>
  rintro f d v m W ⟨h1,h2,h3,h4,h5⟩
  obtain⟨t1,t2,t3⟩:=oU h1.r (U3 d.1) (I6 bits)
  refine⟨⟨⟨h1.low.os,h1.low.tape,h1.low.output,by rw[t3];exact h1.low.size,fun g hg=>(t2 g om).trans (h1.low.block g hg)⟩,d,rfl,?_⟩,h1.r⟩
  rw[h2,List.take_length] at h4;exact h4
 case fin =>
  rintro e w' ⟨f,q,rfl,hb,d,rfl,hd⟩
  rw[vP hrt hr hin] at hd;refine⟨f,d.1,rfl,hb,?_⟩
  rw[hd]
  cases f with
  | false=>rfl
  | true=>rfl
def jo(s:Bk)(o:Bz)(g:Int):Option (Int×Int)->Bk×Bz
 | none=>(s,⟨#[69,82,82,32,70,85,76,76]⟩)
 | some b=>if 24<=s.nets.length then (s,⟨#[69,82,82,32,76,73,77,73,84]⟩) else ({ s with nets:=aW s.nets ⟨b.1,g,o⟩ },⟨#[79,75,32]⟩++bs (wrT b.1.toNat g.toNat))
def mo(s:Bk)(o:Bz)(a n g:Int):Bk×Bz :=
 if ah s.pools a n<0 then (s,⟨#[69,82,82,32,80,79,79,76]⟩) else if g<22\/g<n then (s,⟨#[69,82,82,32,82,65,78,71,69]⟩)
 else jo s o g (dN (aM 33 (af s.nets a n) a n) g)
theorem AW(S:Nat->Prop)(B:Nat)(W:World)(HBz:Hid (B<=W.heap.size))(r:Nat)(s:Bk)(vt:Value)(o:Bz)(a n g:Int)(ha:ad a)(hr:rt a n=true)(g0:0<=g)(g1:g<=32)(hl:s.pools.length<=1000)(hm:s.nets.length<=1000)(hP:∀ h,h∈s.pools->cP h)(hN:∀ h,h∈s.nets->ad h.a/\rt h.a h.n=true)(hin:∀ h,h∈s.nets->ah s.pools a n ≥ 0->mm h.a h.n a n=true->inn h.a h.n a n=true)(h:RB S B r s vt W):Calls prog 188 #[Pq r,.string o,.agg #[U3 a,I6 n],I6 g] W (MR S B r vt W (mo s o a n g)):=by
 obtain⟨n0,n1,_⟩:=aj.1 hr;have HH:Hid (RB S B r s vt W):=h
 obtain⟨vp,vn,vl,h1,h2,h3,h4⟩:=h;have rl:=h1.lt;obtain⟨bp,cp,rfl,_,_⟩:=ae h2.1;obtain⟨bn,cn,rfl,_,_⟩:=ae h3.1;have hOk:∀ h,h∈s.nets->cP h:=fun h hh=>⟨(hN h hh).1,(aj.1 (hN h hh).2).1,(aj.1 (hN h hh).2).2.1⟩
 have hend:=gC a n n0 n1 ha.1 ha.2 (aj.1 hr).2.2
 have hbd:∀ b,dN (aM 33 (af s.nets a n) a n) g=some b->ad b.1:=fun b hb=>by
  rcases t8 _ none b hb with⟨q,_⟩|q
  ·obtain⟨_,_,q3,q4,_⟩:=i8 (af s.nets a n) (fun h hh=>(hN h (by unfold af at hh;exact(List.mem_filter.1 hh).1)).2) 33 a n hr b q
   have:=aD b.2
   exact⟨by have:=ha.1;omega,by omega⟩
  ·cases q
 have HA:Hid (∀ V,Bl W V->Cr prog 182 #[.slice bp s.pools.length cp,.agg #[U3 a,I6 n]] V (I6 (ah s.pools a n))):=fun V hV=>eO s.pools a n _ V ha n0 n1 hP (h2.below hV).rd om
 have HFr:Hid (∀ V,ah s.pools a n ≥ 0->Bl W V->Calls prog 229 #[Pq r,.agg #[U3 a,I6 n],I6 g] V fun e w'=>∃ f q,e=.returned (.tuple #[.agg #[U3 q,I6 g],.bool f])/\Bl V w'/\(dN (aM 33 (af s.nets a n) a n) g=if f then some (q,(dN (aM 33 (af s.nets a n) a n) g).elim 0 Prod.snd) else none)):=fun V hf hV=>xb V r a n g s.nets hm hN ha hr g0 g1 (fun h hh=>hin h hh hf) _ ((h1.below hV).cell 1) (h3.below hV).rd
 have HW:Hid (∀ q,ad q->∀ V,Bl W V->Calls prog 226 #[.slice bn s.nets.length cn,.agg #[U3 q,I6 g,.string o]] V fun e w'=>∃ v',e=.returned v'/\HL S B w' v' (aW s.nets ⟨q,g,o⟩)/\Bl V w'):=fun q hq V hV=>(fT s.nets ⟨q,g,o⟩ _ V hq hOk (h3.below hV).rd om).mono (fun e w' ⟨v',q1,q2,q3⟩=>⟨v',q1,gG (by have z1:=HBz.o;have z2:=hV.size;omega) q2,q3⟩)
 have HT:Hid (∀ q,ad q->∀ V,Cr prog 221 #[.agg #[U3 q,I6 g]] V (.string (bs (wrT q.toNat g.toNat)))):=fun q hq V=>nM q g V hq.1 hq.2 g0 g1
 have HC:Hid (∀ V,Bl W V->V.cell? (At r 0)=some (.slice bp s.pools.length cp)/\V.cell? (At r 1)=some (.slice bn s.nets.length cn)/\V.frozen? (At r 1)=false/\r<V.heap.size):=fun V hV=>⟨(h1.below hV).cell 0,(h1.below hV).cell 1,(h1.below hV).frozen 1,(h1.below hV).lt⟩
 have HF:Hid (∀ q t w3 v' w4,HL S B w3 v' (aW s.nets ⟨q,g,o⟩)->Bl W w3->Below (w3.setCell (At r 1) v').heap.size (w3.setCell (At r 1) v') w4->MR S B r vt W ({ s with nets:=aW s.nets ⟨q,g,o⟩ },t) (.returned (.string t)) w4):=fun q t w3 v' w4 q1 q2 q3=>by
  have b3:=h1.below q2;have hb:RB S B r { s with nets:=aW s.nets ⟨q,g,o⟩ } vt (w3.setCell (At r 1) v'):=⟨_,v',vl,b3.set 1 v',(h2.below q2).set b3,q1.set b3,(h4.below q2).set b3⟩
  refine⟨rfl,hb.below q3,?_⟩
  have hc:=dO (r:=r) (i:=1) (u:=v') q2
  exact⟨q3.os.trans hc.os,q3.tape.trans hc.tape,q3.output.trans hc.output,Nat.le_trans hc.size q3.size,fun x hx hn=>(q3.block x (Nat.lt_of_lt_of_le hx hc.size)).trans (hc.block x hx hn)⟩
 obtain⟨c0,cj,_,_⟩:=HC.o W (Below.refl _ _)
 have HBD:Hid (∀ b,dN (aM 33 (af s.nets a n) a n) g=some b->ad b.1):=hbd
 clear h1 h2 h3 h4 hP hN hin hOk hbd hr;rcases aV (isH a n) s.pools hd0 with⟨e,_⟩|⟨k,hk,e,hp,_⟩
 ·have e':ah s.pools a n=-1:=e
  rw[e'] at HA;unfold mo;rw[e',if_pos om];clear e e' HFr HW HF HT HBD;go_enter func188,ntmps188
  go_wp2;go_region_held3 (fun w'=>w'.cell? (At r 0)=some (.slice bp s.pools.length cp)/\w'.cell? (At W.heap.size 0)=some (U3 a)/\w'.cell? (At W.heap.size 1)=some (I6 n)) (go_keep) ((go_at_call 182;refine Mo (HA.o _ upB) fun w2 hb2=>?_;have HB2:Hid (Bl W w2):=bup upB hb2;have p0:w2.cell? (At W.heap.size 0)=some (U3 a):=cN hb2;have p1:w2.cell? (At W.heap.size 1)=some (I6 n):=cN hb2;obtain⟨y0,yj,y1,y2⟩:=HC.o w2 HB2.o;clear hb2))
  all_goals (
   go_wp2_with fail
   go_ret;exact bS HH.o HB2.o)
 ·have e':ah s.pools a n=(k:Int):=e
  rw[e'] at HA HFr;unfold mo;rw[e',if_neg om];have hkz:¬(k:Int)<0:=by omega
  clear e e' hp;by_cases k1:g<22\/g<n
  ·rw[if_pos k1];clear HFr HW HF HT HBD;rcases (show g<22\/(¬g<22/\g<n) by omega) with k2|⟨k2,k3⟩
   all_goals (
    clear k1;go_enter func188,ntmps188
    go_wp2;go_region_held3 (fun w'=>w'.cell? (At r 0)=some (.slice bp s.pools.length cp)/\w'.cell? (At W.heap.size 0)=some (U3 a)/\w'.cell? (At W.heap.size 1)=some (I6 n)) (go_keep) ((go_at_call 182;refine Mo (HA.o _ upB) fun w2 hb2=>?_;have HB2:Hid (Bl W w2):=bup upB hb2;have p0:w2.cell? (At W.heap.size 0)=some (U3 a):=cN hb2;have p1:w2.cell? (At W.heap.size 1)=some (I6 n):=cN hb2;obtain⟨y0,yj,y1,y2⟩:=HC.o w2 HB2.o;clear hb2))
    all_goals (
     go_wp2_with fail
     go_ret;exact bS HH.o HB2.o))
  ·rw[if_neg k1];have k2:¬g<22:=by omega
   have k3:¬g<n:=by omega
   have HFr2:Hid (∀ V,Bl W V->Calls prog 229 #[Pq r,.agg #[U3 a,I6 n],I6 g] V fun e w'=>∃ f q,e=.returned (.tuple #[.agg #[U3 q,I6 g],.bool f])/\Bl V w'/\(dN (aM 33 (af s.nets a n) a n) g=if f then some (q,(dN (aM 33 (af s.nets a n) a n) g).elim 0 Prod.snd) else none)):=fun V hV=>HFr.o V om hV
   generalize dN (aM 33 (af s.nets a n) a n) g=bo at HFr2 HBD
   obtain⟨res,hres⟩:∃ res:Bk×Bz,jo s o g bo=res:=⟨_,rfl⟩
   rw[hres];have HR1:Hid (bo=none->res=(s,⟨#[69,82,82,32,70,85,76,76]⟩)):=fun q=>by rw[<- hres,q];rfl
   have HR2:Hid (∀ b,bo=some b->24<=s.nets.length->res=(s,⟨#[69,82,82,32,76,73,77,73,84]⟩)):=fun b q q2=>by rw[<- hres,q];unfold jo;dsimp only;rw[if_pos q2]
   have HR3:Hid (∀ b,bo=some b->¬24<=s.nets.length->res=({ s with nets:=aW s.nets ⟨b.1,g,o⟩ },⟨#[79,75,32]⟩++bs (wrT b.1.toNat g.toNat))):=fun b q q2=>by rw[<- hres,q];unfold jo;dsimp only;rw[if_neg q2]
   clear hres k1 HFr;go_enter func188,ntmps188
   go_wp2;go_region_held3 (fun w'=>w'.cell? (At r 0)=some (.slice bp s.pools.length cp)/\w'.cell? (At W.heap.size 0)=some (U3 a)/\w'.cell? (At W.heap.size 1)=some (I6 n)) (go_keep) ((go_at_call 182;refine Mo (HA.o _ upB) fun w2 hb2=>?_;have HB2:Hid (Bl W w2):=bup upB hb2;have p0:w2.cell? (At W.heap.size 0)=some (U3 a):=cN hb2;have p1:w2.cell? (At W.heap.size 1)=some (I6 n):=cN hb2;obtain⟨y0,yj,y1,y2⟩:=HC.o w2 HB2.o;clear hb2))
   all_goals (
    go_upto_region 7 with (go_at_call 229;refine(HFr2.o _ (upH HB2)).mono ?_;rintro e w3 ⟨f3,q3,rfl,hb3,hf3⟩;have HB3:=bu2 HB2 hb3;have HF3:Hid (bo=if f3 then some (q3,bo.elim 0 Prod.snd) else none):=hf3;obtain⟨y0,yj,y1,y2⟩:=HC.o w3 HB3.o;clear hb3 hf3)
    cases f3 with
    | false =>
     have HE:Hid (bo=none):=(show bo=none by have h:=HF3.o;simpa using h)
     go_wp2_with fail
     go_ret;rw[HR1.o HE.o];exact bS HH.o (upH HB3)
    | true =>
     have HE:Hid (bo=some (q3,bo.elim 0 Prod.snd)):=(show bo=some (q3,bo.elim 0 Prod.snd) by have h:=HF3.o;simpa using h)
     have HQ:Hid (ad q3):=HBD.o _ HE.o
     by_cases k4:24<=s.nets.length
     ·have k5:(24:Int)<=(s.nets.length:Int):=by omega
      go_wp2_with fail
      go_ret;rw[HR2.o _ HE.o k4];exact bS HH.o (upH HB3)
     ·have k5:¬(24:Int)<=(s.nets.length:Int):=by omega
      have HWq:=HW.o q3 HQ.o;have HWq2:Hid (∀ V,Bl W V->Calls prog 226 #[.slice bn s.nets.length cn,.agg #[U3 q3,I6 g,.string o]] V fun e w'=>∃ v',e=.returned v'/\HL S B w' v' (aW s.nets ⟨q3,g,o⟩)/\Bl V w'):=HWq
      have HTq:=HT.o q3 HQ.o;have HTq2:Hid (∀ V,Cr prog 221 #[.agg #[U3 q3,I6 g]] V (.string (bs (wrT q3.toNat g.toNat)))):=HTq
      have zt:(bs (wrT q3.toNat g.toNat)).size<=30:=by rw[aN];exact nU _ _ HQ.o.1 HQ.o.2 g0 g1
      have HR3q:=HR3.o _ HE.o k4;have HR4:Hid (res=({ s with nets:=aW s.nets ⟨q3,g,o⟩ },⟨#[79,75,32]⟩++bs (wrT q3.toNat g.toNat))):=HR3q
      generalize bs (wrT q3.toNat g.toNat)=tx at HTq2 HR4 zt
      clear HWq HTq HR3q HR1 HR2 HR3 HBD HF3;go_wp2_with fail
      go_region_with ((go_at_call 226;refine(HWq2.o _ (upH HB3)).mono ?_;rintro e w4 ⟨v4,rfl,hv4,hb4⟩;obtain⟨b4,c4,rfl,_,_⟩:=ae hv4.1;have HB4:Hid (Bl W w4):=(by have hh:=HB3.o;exact bup (W:=w3) hh (by first|exact hb4|exact(Below.drew (Below.refl _ _)).trans hb4|exact bup upB hb4));have HV4:Hid (HL S B w4 (.slice b4 (aW s.nets ⟨q3,g,o⟩).length c4) (aW s.nets ⟨q3,g,o⟩)):=hv4;obtain⟨z0,zj,z1,z2⟩:=HC.o w4 HB4.o;have t0:w4.cell? (At w3.heap.size 0)=some (U3 q3):=cN hb4;have t1:w4.cell? (At w3.heap.size 1)=some (I6 g):=cN hb4;have t2:¬r=w3.heap.size:=(by have hg:=HC.o w3 HB3.o;omega);have t3:¬w3.heap.size=r:=om;clear hb4 hv4))
      all_goals (
       go_wp2_with (go_at_call 221;refine Mo (HTq2.o _) fun w5 hb5=>?_;have HB5:Hid (Below (w4.setCell (At r 1) (.slice b4 (aW s.nets ⟨q3,g,o⟩).length c4)).heap.size (w4.setCell (At r 1) (.slice b4 (aW s.nets ⟨q3,g,o⟩).length c4)) w5):=hb5;clear hb5)
       go_ret;rw[HR4.o];exact HF.o q3 _ w4 _ w5 HV4.o HB4.o HB5.o))
end Go.Proofs.YtjnhhnbgjjkkjaaGreatDoor
