import Derived.Test.YtjnhhnbgjjkkjaaGreatDoorRePAK
import Derived.Test.YtjnhhnbgjjkkjaaGreatDoorRePAM
set_option linter.all false
set_option maxRecDepth 100000
set_option maxHeartbeats 2000000
namespace Go.Proofs.YtjnhhnbgjjkkjaaGreatDoor
open Go.ChangeShapes Go.WideShapes Go.ChangeAt Go.RowKit Go.Proofs.Tryz
def wrT(a n:Nat):Lu:=wr a n
def nf(adr:Bool)(h:Hd):Lu:=32::(if adr then dot h.a.toNat else wrT h.a.toNat h.n.toNat)++61::h.o.data.toList
def cu(l:List Hd)(a n:Int)(adr:Bool):Lu:=[79,75]++(l.filter (fun h=>ri h.a h.n a n)).flatMap (nf adr)
theorem Bx(l:List Hd)(a n:Int)(adr:Bool)(k:Nat)(hk:k<l.length)(h:ri (l.getD k hd0).a (l.getD k hd0).n a n=true):cu (l.take (k+1)) a n adr=cu (l.take k) a n adr++nf adr (l.getD k hd0):=by
 unfold cu;rw[eV l k hk,List.filter_append,List.flatMap_append];simp only[List.filter_cons,h,if_true,List.filter_nil,List.flatMap_cons,List.flatMap_nil,List.append_nil,List.append_assoc]
theorem DO(l:List Hd)(a n:Int)(adr:Bool)(k:Nat)(hk:k<l.length)(h:ri (l.getD k hd0).a (l.getD k hd0).n a n=false):cu (l.take (k+1)) a n adr=cu (l.take k) a n adr:=by
 unfold cu;rw[eV l k hk,List.filter_append,List.flatMap_append];simp only[List.filter_cons,h,List.filter_nil,List.flatMap_nil,List.append_nil,Bool.false_eq_true,if_false]
theorem zB(st u:Lu)(o:Bz):bs st++⟨#[32]⟩++bs u++⟨#[61]⟩++o=bs (st++(32::u++61::o.data.toList)):=by
 apply ByteArray.ext
 apply Array.ext'
 simp[bs]
theorem iB(a:Int)(h0:0<=a)(h1:a<4294967296):(dot a.toNat).length<=20:=by
 rw[<- oS _ om];have:=oT a.toNat 3;omega
theorem nU(a n:Int)(h0:0<=a)(h1:a<4294967296)(n0:0<=n)(n1:n<=32):(wr a.toNat n.toNat).length<=30:=by
 have:=congrArg ByteArray.size (tW a.toNat n.toNat)
 simp only[ByteArray.size_append,aN] at this
 have h2:=iB a h0 h1;have h3:=fH n.toNat om;have h4:(⟨#[47]⟩:Bz).size=1:=rfl
 omega
theorem j5(l:List Hd)(a n:Int)(adr:Bool)(v:Value)(w:World)(ha:ad a)(n0:0<=n)(n1:n<=32)(hA:∀ h,h∈l->cP h/\h.o.size<=8)(hr:Rd 3 ak hd0 w v l)(hn:l.length<=1000):Cr prog 180 #[v,.agg #[U3 a,I6 n],.bool adr] w (.string (bs (cu l a n adr))):=by
 obtain⟨b,cap,rfl,h1,h2,h3⟩:=hr;have hrow:Hid (∀ W,Bl w W->∀ j,j<l.length->∃ g,b=some (At g 0)/\W.cell? (At g (j*3))=some (U3 (l.getD j hd0).a)/\W.cell? (At g (j*3+1))=some (I6 (l.getD j hd0).n)/\W.cell? (At g (j*3+2))=some (.string (l.getD j hd0).o)):=fun W hW j hj=>by
  obtain⟨g,hg,hlt,hc⟩:=h3 (by intro e;rw[e] at hj;simp at hj)
  have hc:=hc j hj;exact⟨g,hg,(hW.cell (p:=At g (j*3)) hlt).trans (hc 0 _ rfl),(hW.cell (p:=At g (j*3+1)) hlt).trans (hc 1 _ rfl),(hW.cell (p:=At g (j*3+2)) hlt).trans (hc 2 _ rfl)⟩
 have HA:Hid (∀ h,h∈l->cP h/\h.o.size<=8):=hA
 have HC:Hid (∀ y:Hd,cP y->∀ W,Cr prog 220 #[.agg #[U3 y.a,I6 y.n],.agg #[U3 a,I6 n]] W (.bool (ri y.a y.n a n))):=fun y hy W=>kS y.a y.n a n W hy.1 ha hy.2.1 hy.2.2 n0 n1
 clear h1 h2 h3 hA;go_enter func180,ntmps180
 go_wp2;go_loopw [7,8] (fun s i wr=>∃ (k:Nat) (st:Bz),k<=l.length/\st.size<=2+60*k/\s=.string st/\i=I6 k/\Hid (Bl w wr)/\Hid (wr.cell? (At w.heap.size 0)=some (U3 a)/\wr.cell? (At w.heap.size 1)=some (I6 n))/\Hid (st=bs (cu (l.take k) a n adr))) (fun _ i _=>l.length-(intOf i).toNat)
 case atStart=>exact⟨0,⟨#[79,75]⟩,by omega,by decide,rfl,rfl,(show Below _ _ _ from upB),⟨by simp[go_sem],by simp[go_sem]⟩,by show _=_;simp[cu,bs]⟩
 case round =>
  obtain⟨k,st,hk,hst,rfl,rfl,HB,HX,HI⟩:=hrel;by_cases hlt:k<l.length
  ·obtain⟨g,rfl,r0,r1,r2⟩:=hrow.o wr HB.o k hlt;have x0:=HX.o.1;have x1:=HX.o.2;have HK:Hid (cP (l.getD k hd0)/\(l.getD k hd0).o.size<=8):=HA.o _ (aJ l hd0 k hlt)
   have HY:=Bx l a n adr k hlt;have HN:=DO l a n adr k hlt;generalize l.getD k hd0=y at r0 r1 r2 HK HY HN
   have hos:=HK.o.2;rcases hq:ri y.a y.n a n with _|_
   ·have HC2:Hid (∀ W,Cr prog 220 #[.agg #[U3 y.a,I6 y.n],.agg #[U3 a,I6 n]] W (.bool false)):=fun W=>(HC.o y HK.o.1 W).mono (fun e w' q=>⟨by rw[q.1];exact aC hq,q.2⟩)
    have HE:Hid (cu (l.take (k+1)) a n adr=cu (l.take k) a n adr):=HN hq
    clear HY HN hq HC hrow HA HX;go_wp2;go_region_held3 (fun w'=>w'.cell? (At g (k*3))=some (U3 y.a)/\w'.cell? (At g (k*3+1))=some (I6 y.n)/\w'.cell? (At w.heap.size 0)=some (U3 a)/\w'.cell? (At w.heap.size 1)=some (I6 n)) (go_keep) ((go_at_call 220;refine Mo (HC2.o _) fun wq hbq=>?_;replace r0:=cK hbq r0;replace r1:=cK hbq r1;replace r2:=cK hbq r2;replace x0:=cK hbq x0;replace x1:=cK hbq x1;replace HB:Hid (Bl w wq):=(by first|exact HB.o.trans (hbq.mono HB.o.size)|exact HB.o.drew.trans (hbq.mono HB.o.size));clear hbq))
    all_goals (
     go_wp2_with fail
     go_roundw
     case rel=>exact⟨k+1,st,by omega,by omega,rfl,by go_num,HB.o,⟨x0,x1⟩,by show st=_;rw[HE.o];exact HI.o⟩
     case measure=>simp[intOf];omega)
   ·have HC2:Hid (∀ W,Cr prog 220 #[.agg #[U3 y.a,I6 y.n],.agg #[U3 a,I6 n]] W (.bool true)):=fun W=>(HC.o y HK.o.1 W).mono (fun e w' q=>⟨by rw[q.1];exact aC hq,q.2⟩)
    have HE:Hid (cu (l.take (k+1)) a n adr=cu (l.take k) a n adr++nf adr y):=HY hq
    have HT:Hid (∀ W,Cr prog 221 #[.agg #[U3 y.a,I6 y.n]] W (.string (bs (wrT y.a.toNat y.n.toNat)))):=fun W=>nM y.a y.n W HK.o.1.1.1 HK.o.1.1.2 HK.o.1.2.1 HK.o.1.2.2
    have HD:Hid (∀ W,Cr prog 222 #[U3 y.a] W (.string (bs (dot y.a.toNat)))):=fun W=>iK y.a W HK.o.1.1.1 HK.o.1.1.2
    have z1:(bs (wrT y.a.toNat y.n.toNat)).size<=30:=by rw[aN];exact nU _ _ HK.o.1.1.1 HK.o.1.1.2 HK.o.1.2.1 HK.o.1.2.2
    have z2:(bs (dot y.a.toNat)).size<=20:=by rw[aN];exact iB _ HK.o.1.1.1 HK.o.1.1.2
    have HU:Hid (∀ u,(if adr then dot y.a.toNat else wrT y.a.toNat y.n.toNat)=u->st++⟨#[32]⟩++bs u++⟨#[61]⟩++y.o=bs (cu (l.take (k+1)) a n adr)):=fun u hu=>by
     rw[HE.o,HI.o,zB];unfold nf;rw[hu]
    clear HY HN hq HC hrow HA HX
    cases adr with
    | true =>
     have HV:=HU.o _ rfl;replace HV:Hid (st++⟨#[32]⟩++bs (dot y.a.toNat)++⟨#[61]⟩++y.o=bs (cu (l.take (k+1)) a n true)):=HV;generalize bs (dot y.a.toNat)=u at z2 HD HV
     generalize bs (wrT y.a.toNat y.n.toNat)=u2 at z1 HT
     clear HU HE;go_wp2;go_region_held3 (fun w'=>w'.cell? (At g (k*3))=some (U3 y.a)/\w'.cell? (At g (k*3+1))=some (I6 y.n)/\w'.cell? (At w.heap.size 0)=some (U3 a)/\w'.cell? (At w.heap.size 1)=some (I6 n)) (go_keep) ((go_at_call 220;refine Mo (HC2.o _) fun wq hbq=>?_;replace r0:=cK hbq r0;replace r1:=cK hbq r1;replace r2:=cK hbq r2;replace x0:=cK hbq x0;replace x1:=cK hbq x1;replace HB:Hid (Bl w wq):=(by first|exact HB.o.trans (hbq.mono HB.o.size)|exact HB.o.drew.trans (hbq.mono HB.o.size));clear hbq))
     all_goals (
      go_wp2_with (first|(go_at_call 221;refine Mo (HT.o _) fun wq hbq=>?_;replace r0:=cK hbq r0;replace r1:=cK hbq r1;replace r2:=cK hbq r2;replace x0:=cK hbq x0;replace x1:=cK hbq x1;replace HB:Hid (Bl w wq):=(by first|exact HB.o.trans (hbq.mono HB.o.size)|exact HB.o.drew.trans (hbq.mono HB.o.size));clear hbq)|(go_at_call 222;refine Mo (HD.o _) fun wq hbq=>?_;replace r0:=cK hbq r0;replace r1:=cK hbq r1;replace r2:=cK hbq r2;replace x0:=cK hbq x0;replace x1:=cK hbq x1;replace HB:Hid (Bl w wq):=(by first|exact HB.o.trans (hbq.mono HB.o.size)|exact HB.o.drew.trans (hbq.mono HB.o.size));clear hbq))
      go_roundw
      case rel=>exact⟨k+1,st++⟨#[32]⟩++u++⟨#[61]⟩++y.o,by omega,by simp only[ByteArray.size_append,show (⟨#[32]⟩:Bz).size=1 from rfl,show (⟨#[61]⟩:Bz).size=1 from rfl];omega,rfl,by go_num,HB.o,⟨x0,x1⟩,HV⟩
      case measure=>simp[intOf];omega)
    | false =>
     have HV:=HU.o _ rfl;replace HV:Hid (st++⟨#[32]⟩++bs (wrT y.a.toNat y.n.toNat)++⟨#[61]⟩++y.o=bs (cu (l.take (k+1)) a n false)):=HV;generalize bs (wrT y.a.toNat y.n.toNat)=u at z1 HT HV
     clear HU HE HD z2;go_wp2;go_region_held3 (fun w'=>w'.cell? (At g (k*3))=some (U3 y.a)/\w'.cell? (At g (k*3+1))=some (I6 y.n)/\w'.cell? (At w.heap.size 0)=some (U3 a)/\w'.cell? (At w.heap.size 1)=some (I6 n)) (go_keep) ((go_at_call 220;refine Mo (HC2.o _) fun wq hbq=>?_;replace r0:=cK hbq r0;replace r1:=cK hbq r1;replace r2:=cK hbq r2;replace x0:=cK hbq x0;replace x1:=cK hbq x1;replace HB:Hid (Bl w wq):=(by first|exact HB.o.trans (hbq.mono HB.o.size)|exact HB.o.drew.trans (hbq.mono HB.o.size));clear hbq))
     all_goals (
      go_wp2_with (go_at_call 221;refine Mo (HT.o _) fun wq hbq=>?_;replace r0:=cK hbq r0;replace r1:=cK hbq r1;replace r2:=cK hbq r2;replace x0:=cK hbq x0;replace x1:=cK hbq x1;replace HB:Hid (Bl w wq):=(by first|exact HB.o.trans (hbq.mono HB.o.size)|exact HB.o.drew.trans (hbq.mono HB.o.size));clear hbq)
      go_roundw
      case rel=>exact⟨k+1,st++⟨#[32]⟩++u++⟨#[61]⟩++y.o,by omega,by simp only[ByteArray.size_append,show (⟨#[32]⟩:Bz).size=1 from rfl,show (⟨#[61]⟩:Bz).size=1 from rfl];omega,rfl,by go_num,HB.o,⟨x0,x1⟩,HV⟩
      case measure=>simp[intOf];omega)
  ·obtain rfl:k=l.length:=by omega
   clear hrow HA;have x0:=HX.o.1;have HV:Hid (st=bs (cu l a n adr)):=by have:=HI.o;rw[List.take_length] at this;exact this
   clear HI;go_wp2;go_ret;exact⟨gj HV.o,HB.o⟩
theorem wH{W:World}{B:Nat}{t:TypeId}{k:Nat}{v:Value}{n:Nat}{xs:List Value}(h:W.ownsRow B t k v n xs):W.ownsRow 0 t k v n xs:=⟨h.1,h.2.imp id fun ⟨g,cap,cur,h1,_,h3⟩=>⟨g,cap,cur,h1,Nat.zero_le _,h3⟩⟩
def lsH(l:Ls):Hd:=⟨l.a,32,l.o⟩
def HL(S:Nat->Prop)(B:Nat)(W:World)(v:Value)(l:List Hd):Prop:=W.ownsRow 0 282 3 v l.length (l.flatMap ak)/\∀ g,v.ownBlock=some g->S g\/B<=g
def RB(S:Nat->Prop)(B:Nat)(r:Nat)(s:Bk)(vt:Value)(W:World):Prop:=∃ vp vn vl,Blk W r #[vp,vn,vl,vt] 174/\HL S B W vp s.pools/\HL S B W vn s.nets/\HL S B W vl (s.leases.map lsH)
theorem gG{S:Nat->Prop}{B C:Nat}{W:World}{v:Value}{l:List Hd}(hB:B<=C)(h:W.ownsRow C 282 3 v l.length (l.flatMap ak)):HL S B W v l:=⟨wH h,fun g hg=>.inr (by
 rcases h.2 with⟨rfl,_⟩|⟨g',cap,cur,rfl,hb,_⟩
 ·simp[Value.ownBlock] at hg
 ·have:g'=g:=by simpa[Value.ownBlock] using hg
  omega)⟩
theorem HL.below{S:Nat->Prop}{B:Nat}{W W':World}{v:Value}{l:List Hd}(h:HL S B W v l)(hb:Bl W W'):HL S B W' v l:=⟨av h.1 hb,h.2⟩
theorem HL.rd{S:Nat->Prop}{B:Nat}{W:World}{v:Value}{l:List Hd}(h:HL S B W v l):Rd 3 ak hd0 W v l:=Rd.of_owns (k:=3) (enc:=ak) (fun _=>rfl) hd0 h.1
theorem HL.ne{S:Nat->Prop}{B:Nat}{W:World}{v:Value}{l:List Hd}{r:Nat}{cs:Array Value}(h:HL S B W v l)(hb:Blk W r cs 174):v.ownBlock≠some r:=fun e=>by
 rcases h.1.2 with⟨rfl,_⟩|⟨g,cap,cur,rfl,_,hg,_⟩
 ·simp[Value.ownBlock] at e
 ·obtain rfl:g=r:=by simpa[Value.ownBlock] using e
  unfold Blk at hb;rw[hb] at hg;simp at hg
theorem HL.set{S:Nat->Prop}{B:Nat}{W:World}{v:Value}{l:List Hd}{r i:Nat}{u:Value}{cs:Array Value}(h:HL S B W v l)(hb:Blk W r cs 174):HL S B (W.setCell (At r i) u) v l :=
 ⟨aL h.1 fun g hg=>Below.heap_setCell W (At r i) u g (fun e=>h.ne hb (by rw[hg];rw[show g=r from e])),h.2⟩
theorem RB.below{S:Nat->Prop}{B r:Nat}{s:Bk}{vt:Value}{W W':World}(h:RB S B r s vt W)(hb:Bl W W'):RB S B r s vt W':=by
 obtain⟨vp,vn,vl,h1,h2,h3,h4⟩:=h;exact⟨vp,vn,vl,h1.below hb,h2.below hb,h3.below hb,h4.below hb⟩
theorem dO{W w3:World}{r i:Nat}{u:Value}(hb:Bl W w3):Chg (fun q=>q=r) W (w3.setCell (At r i) u) :=
 ⟨hb.os,hb.tape,hb.output,by simpa[World.setCell,Bl] using hb.size,fun g hg hn=>(Below.heap_setCell w3 (At r i) u g hn).trans (hb.block g hg)⟩
def MR(S:Nat->Prop)(B r:Nat)(vt:Value)(W:World)(res:Bk×Bz)(e:Ending)(W':World):Prop:=e=.returned (.string res.2)/\RB S B r res.1 vt W'/\Chg (fun q=>q=r) W W'
theorem bS{S:Nat->Prop}{B r:Nat}{s:Bk}{vt:Value}{W W':World}{t:Bz}(h:RB S B r s vt W)(hb:Bl W W'):MR S B r vt W (s,t) (.returned (.string t)) W':=⟨rfl,h.below hb,Chg.below hb⟩
def jq(s:Bk)(o:Bz)(a n:Int):Bk×Bz :=
 if n<8\/30<n then (s,⟨#[69,82,82,32,82,65,78,71,69]⟩) else if aU s.pools a n then (s,⟨#[69,82,82,32,79,86,69,82,76,65,80]⟩) else if 6<=s.pools.length then (s,⟨#[69,82,82,32,76,73,77,73,84]⟩)
 else ({ s with pools:=aW s.pools ⟨a,n,o⟩ },⟨#[79,75]⟩)
theorem xj(S:Nat->Prop)(B:Nat)(W:World)(HBz:Hid (B<=W.heap.size))(r:Nat)(s:Bk)(vt:Value)(o:Bz)(a n:Int)(ha:ad a)(n0:0<=n)(n1:n<=32)(hl:s.pools.length<=1000)(hP:∀ h,h∈s.pools->cP h)(h:RB S B r s vt W):Calls prog 186 #[Pq r,.string o,.agg #[U3 a,I6 n]] W (MR S B r vt W (jq s o a n)):=by
 have H:=h;have HH:Hid (RB S B r s vt W):=h
 obtain⟨vp,vn,vl,h1,h2,h3,h4⟩:=h;have rl:=h1.lt;obtain⟨bp,cp,rfl,_,_⟩:=ae h2.1;have HM:Hid (∀ V,Bl W V->Cr prog 225 #[.slice bp s.pools.length cp,.agg #[U3 a,I6 n]] V (.bool (aU s.pools a n))):=fun V hV=>iM s.pools a n _ V ha n0 n1 hP (h2.below hV).rd om
 have HW:Hid (∀ V,Bl W V->Calls prog 226 #[.slice bp s.pools.length cp,.agg #[U3 a,I6 n,.string o]] V fun e w'=>∃ v',e=.returned v'/\HL S B w' v' (aW s.pools ⟨a,n,o⟩)/\Bl V w'):=fun V hV=>(fT s.pools ⟨a,n,o⟩ _ V ha hP (h2.below hV).rd om).mono (fun e w' ⟨v',q1,q2,q3⟩=>⟨v',q1,gG (by have z1:=HBz.o;have z2:=hV.size;omega) q2,q3⟩)
 have HC:Hid (∀ V,Bl W V->V.cell? (At r 0)=some (.slice bp s.pools.length cp)/\V.frozen? (At r 0)=false/\r<V.heap.size):=fun V hV=>⟨(h1.below hV).cell 0,(h1.below hV).frozen 0,(h1.below hV).lt⟩
 have HF:Hid (∀ w3 v',HL S B w3 v' (aW s.pools ⟨a,n,o⟩)->Bl W w3->MR S B r vt W ({ s with pools:=aW s.pools ⟨a,n,o⟩ },⟨#[79,75]⟩) (.returned (.string ⟨#[79,75]⟩)) (w3.setCell (At r 0) v')):=fun w3 v' q1 q2=>by
  have b3:=h1.below q2;exact⟨rfl,⟨v',vn,vl,b3.set 0 v',q1.set b3,(h3.below q2).set b3,(h4.below q2).set b3⟩,dO q2⟩
 have c0:=(HC.o W (Below.refl _ _)).1
 clear h1 h2 h3 h4 hP H;unfold jq;by_cases k1:n<8\/30<n
 ·rw[if_pos k1];rcases (show n<8\/(¬n<8/\30<n) by omega) with k2|⟨k2,k3⟩
  all_goals (
   clear HM HW HF k1;go_enter func186,ntmps186
   go_wp2;go_ret;exact bS HH.o upB)
 ·rw[if_neg k1];have k2:¬n<8:=by omega
  have k3:¬30<n:=by omega
  clear k1;obtain⟨an,hA⟩:∃ an,aU s.pools a n=an:=⟨_,rfl⟩
  rw[hA] at HM ⊢;clear hA;obtain⟨res,hres⟩:∃ res,(if an=true then (s,(⟨#[69,82,82,32,79,86,69,82,76,65,80]⟩:Bz)) else if 6<=s.pools.length then (s,⟨#[69,82,82,32,76,73,77,73,84]⟩) else ({ s with pools:=aW s.pools ⟨a,n,o⟩ },⟨#[79,75]⟩))=res:=⟨_,rfl⟩
  rw[hres];have HR1:Hid (an=true->res=(s,⟨#[69,82,82,32,79,86,69,82,76,65,80]⟩)):=fun q=>by rw[<- hres,if_pos q]
  have HR2:Hid (an=false->6<=s.pools.length->res=(s,⟨#[69,82,82,32,76,73,77,73,84]⟩)):=fun q q2=>by rw[<- hres,if_neg (by rw[q];simp),if_pos q2]
  have HR3:Hid (an=false->¬6<=s.pools.length->res=({ s with pools:=aW s.pools ⟨a,n,o⟩ },⟨#[79,75]⟩)):=fun q q2=>by rw[<- hres,if_neg (by rw[q];simp),if_neg q2]
  clear hres;go_enter func186,ntmps186
  go_wp2;go_region_held3 (fun w'=>w'.cell? (At r 0)=some (.slice bp s.pools.length cp)/\w'.cell? (At W.heap.size 0)=some (U3 a)/\w'.cell? (At W.heap.size 1)=some (I6 n)) (go_keep) ((go_at_call 225;refine Mo (HM.o _ upB) fun w2 hb2=>?_;have HB2:Hid (Bl W w2):=bup upB hb2;have p0:w2.cell? (At W.heap.size 0)=some (U3 a):=cN hb2;have p1:w2.cell? (At W.heap.size 1)=some (I6 n):=cN hb2;obtain⟨q0,q1,q2⟩:=HC.o w2 HB2.o;clear hb2))
  all_goals (
   cases an with
   | true =>
    go_wp2_with fail
    go_ret;rw[HR1.o sM]
    exact bS HH.o HB2.o
   | false =>
    by_cases k4:6<=s.pools.length
    ·have k5:(6:Int)<=(s.pools.length:Int):=by omega
     go_wp2_with fail
     go_ret;rw[HR2.o sM k4]
     exact bS HH.o HB2.o
    ·have k5:¬(6:Int)<=(s.pools.length:Int):=by omega
     go_wp2_with fail
     go_region_with ((go_at_call 226;refine(HW.o _ (upH HB2)).mono ?_;rintro e w3 ⟨v3,rfl,hv3,hb3⟩;obtain⟨b3,c3,rfl,_,_⟩:=ae hv3.1;have HB3:=bu2 HB2 hb3;have HV3:Hid (HL S B w3 (.slice b3 (aW s.pools ⟨a,n,o⟩).length c3) (aW s.pools ⟨a,n,o⟩)):=hv3;obtain⟨z0,z1,z2⟩:=HC.o w3 HB3.o;clear hb3 hv3))
     all_goals (
      go_wp2_with fail
      go_ret;rw[HR3.o sM om]
      exact HF.o w3 _ HV3.o HB3.o))
def iq(s:Bk)(o:Bz)(a n:Int):Bk×Bz :=
 if ah s.pools a n<0 then (s,⟨#[69,82,82,32,80,79,79,76]⟩) else if ((s.pools).getD (ah s.pools a n).toNat hd0).o≠o then (s,⟨#[69,82,82,32,79,87,78,69,82]⟩) else if 0<dq (s.nets) a n then (s,⟨#[69,82,82,32,66,85,83,89]⟩)
 else ({ s with pools:=aA s.pools (ah s.pools a n).toNat },⟨#[79,75]⟩)
theorem wV(S:Nat->Prop)(B:Nat)(W:World)(HBz:Hid (B<=W.heap.size))(r:Nat)(s:Bk)(vt:Value)(o:Bz)(a n:Int)(ha:ad a)(n0:0<=n)(n1:n<=32)(hl:(s.pools).length<=1000)(hj:(s.nets).length<=1000)(hP:∀ h,h∈s.pools->cP h)(hJ:∀ h,h∈s.nets->cP h)(h:RB S B r s vt W):Calls prog 187 #[Pq r,.string o,.agg #[U3 a,I6 n]] W (MR S B r vt W (iq s o a n)):=by
 have HH:Hid (RB S B r s vt W):=h
 obtain⟨vp,vn,vl,h1,h2,h3,h4⟩:=h;have rl:=h1.lt;obtain⟨bp,cp,rfl,_,_⟩:=ae h2.1;obtain⟨bj,cj,rfl,_,_⟩:=ae h3.1;have HT:Hid (∀ V,Bl W V->Cr prog 182 #[.slice bp (s.pools).length cp,.agg #[U3 a,I6 n]] V (I6 (ah s.pools a n))):=fun V hV=>eO s.pools a n _ V ha n0 n1 hP (h2.below hV).rd om
 have HI:Hid (∀ V,Bl W V->Cr prog 227 #[.slice bj (s.nets).length cj,.agg #[U3 a,I6 n]] V (I6 (dq (s.nets) a n))):=fun V hV=>kF (s.nets) a n _ V ha n0 n1 hJ (h3.below hV).rd om
 have HW:Hid (∀ (q:Nat) V,q<=1000000->Bl W V->Calls prog 228 #[.slice bp (s.pools).length cp,I6 q] V fun e w'=>∃ v',e=.returned v'/\HL S B w' v' (aA s.pools q)/\Bl V w'):=fun q V hq hV=>(gk s.pools q _ V (h2.below hV).rd om hq).mono (fun e w' ⟨v',q1,q2,q3⟩=>⟨v',q1,gG (by have z1:=HBz.o;have z2:=hV.size;omega) q2,q3⟩)
 have HC:Hid (∀ V,Bl W V->V.cell? (At r 0)=some (.slice bp (s.pools).length cp)/\V.cell? (At r 1)=some (.slice bj (s.nets).length cj)/\V.frozen? (At r 0)=false/\r<V.heap.size):=fun V hV=>⟨(h1.below hV).cell 0,(h1.below hV).cell 1,(h1.below hV).frozen 0,(h1.below hV).lt⟩
 have HO:Hid (∀ k,k<(s.pools).length->∃ g,bp=some (At g 0)/\∀ V,Bl W V->V.cell? (At g (k*3+2))=some (.string ((s.pools).getD k hd0).o)):=fun k hk=>by
  obtain⟨b',c',e,_,_,k3⟩:=h2.rd
  cases e;obtain⟨g,hg,hlt,hc⟩:=k3 (by intro e;rw[e] at hk;simp at hk)
  exact⟨g,hg,fun V hV=>(hV.cell (p:=At g (k*3+2)) hlt).trans (hc k hk 2 _ rfl)⟩
 have HF:Hid (∀ (q:Nat) w3 v',HL S B w3 v' (aA s.pools q)->Bl W w3->MR S B r vt W ({ s with pools:=aA s.pools q },⟨#[79,75]⟩) (.returned (.string ⟨#[79,75]⟩)) (w3.setCell (At r 0) v')):=fun q w3 v' q1 q2=>by
  have b3:=h1.below q2;exact⟨rfl,⟨v',_,_,b3.set 0 v',q1.set b3,(h3.below q2).set b3,(h4.below q2).set b3⟩,dO q2⟩
 clear h1 h2 h3 h4 hP hJ;obtain⟨jl,hjl⟩:∃ jl,(s.nets).length=jl:=⟨_,rfl⟩
 rw[hjl] at HI HC;clear hjl;obtain⟨c0,cJ,_,_⟩:=HC.o W (Below.refl _ _)
 have hin0:Hid (0<=(dq (s.nets) a n:Int)):=Int.natCast_nonneg _
 rcases aV (isH a n) s.pools hd0 with⟨e,_⟩|⟨k,hk,e,hp,_⟩
 ·have e':ah s.pools a n=-1:=e
  rw[e'] at HT;unfold iq;rw[e',if_pos om];clear e e' HI HW HF HO;go_enter func187,ntmps187
  go_wp2;go_region_held3 (fun w'=>w'.cell? (At r 0)=some (.slice bp (s.pools).length cp)/\w'.cell? (At W.heap.size 0)=some (U3 a)/\w'.cell? (At W.heap.size 1)=some (I6 n)) (go_keep) ((go_at_call 182;refine Mo (HT.o _ upB) fun w2 hb2=>?_;have HB2:Hid (Bl W w2):=bup upB hb2;have p0:w2.cell? (At W.heap.size 0)=some (U3 a):=cN hb2;have p1:w2.cell? (At W.heap.size 1)=some (I6 n):=cN hb2;obtain⟨y0,yj,y1,y2⟩:=HC.o w2 HB2.o;clear hb2))
  all_goals (
   go_wp2_with fail
   go_ret;exact bS HH.o HB2.o)
 ·have e':ah s.pools a n=(k:Int):=e
  rw[e'] at HT;unfold iq;rw[e',if_neg om,Int.toNat_natCast];obtain⟨g,rfl,ho⟩:=HO.o k hk;have HO2:Hid (∀ V,Bl W V->V.cell? (At g (k*3+2))=some (.string ((s.pools).getD k hd0).o)):=ho
  have HWk:Hid (∀ V,Bl W V->Calls prog 228 #[Sq g (s.pools).length cp,I6 k] V fun e w'=>∃ v',e=.returned v'/\HL S B w' v' (aA s.pools k)/\Bl V w'):=fun V hV=>HW.o k V om hV
  have HFk:Hid (∀ w3 v',HL S B w3 v' (aA s.pools k)->Bl W w3->MR S B r vt W ({ s with pools:=aA s.pools k },⟨#[79,75]⟩) (.returned (.string ⟨#[79,75]⟩)) (w3.setCell (At r 0) v')):=fun w3 v' q1 q2=>HF.o k w3 v' q1 q2
  obtain⟨ow,how⟩:∃ ow,((s.pools).getD k hd0).o=ow:=⟨_,rfl⟩
  rw[how] at HO2 ⊢;obtain⟨ni,hni⟩:∃ ni,dq (s.nets) a n=ni:=⟨_,rfl⟩
  rw[hni] at HI ⊢;have hkz:(k:Int)<((s.pools).length:Int):=by omega
  clear e e' HO HW HF ho hp how hni hin0;by_cases k1:ow=o
  ·have q2:(ow.toList==o.toList)=true:=(Lib.bytes_beq_iff ow o).2 k1
   rw[if_neg (by simpa using k1)]
   by_cases k2:0<ni
   ·rw[if_pos k2];have k3:(0:Int)<(ni:Int):=by omega
    have HK1:Hid (ow=o):=k1
    clear HWk HFk k1;go_enter func187,ntmps187
    go_wp2;go_region_held3 (fun w'=>w'.cell? (At r 0)=some (Sq g (s.pools).length cp)/\w'.cell? (At W.heap.size 0)=some (U3 a)/\w'.cell? (At W.heap.size 1)=some (I6 n)) (go_keep) ((go_at_call 182;refine Mo (HT.o _ upB) fun w2 hb2=>?_;have HB2:Hid (Bl W w2):=bup upB hb2;have p0:w2.cell? (At W.heap.size 0)=some (U3 a):=cN hb2;have p1:w2.cell? (At W.heap.size 1)=some (I6 n):=cN hb2;obtain⟨y0,yj,y1,y2⟩:=HC.o w2 HB2.o;have yo:=HO2.o w2 HB2.o;clear hb2))
    all_goals (
     go_wp2_with fail
     go_region_held3 (fun w'=>w'.cell? (At r 1)=some (.slice bj jl cj)/\w'.cell? (At W.heap.size 0)=some (U3 a)/\w'.cell? (At W.heap.size 1)=some (I6 n)) (go_keep) ((go_at_call 227;refine Mo (HI.o _ (upH HB2)) fun w3 hb3=>?_;have HB3:=bu2 HB2 hb3;have p2:=cK hb3 p0;have p3:=cK hb3 p1;obtain⟨y0,yj,y1,y2⟩:=HC.o w3 HB3.o;clear hb3))
     all_goals (
      go_wp2_with fail
      go_ret;exact bS HH.o HB3.o))
   ·rw[if_neg k2];have k3:¬(0:Int)<(ni:Int):=by omega
    have HK1:Hid (ow=o):=k1
    clear k1;go_enter func187,ntmps187
    go_wp2;go_region_held3 (fun w'=>w'.cell? (At r 0)=some (Sq g (s.pools).length cp)/\w'.cell? (At W.heap.size 0)=some (U3 a)/\w'.cell? (At W.heap.size 1)=some (I6 n)) (go_keep) ((go_at_call 182;refine Mo (HT.o _ upB) fun w2 hb2=>?_;have HB2:Hid (Bl W w2):=bup upB hb2;have p0:w2.cell? (At W.heap.size 0)=some (U3 a):=cN hb2;have p1:w2.cell? (At W.heap.size 1)=some (I6 n):=cN hb2;obtain⟨y0,yj,y1,y2⟩:=HC.o w2 HB2.o;have yo:=HO2.o w2 HB2.o;clear hb2))
    all_goals (
     go_wp2_with fail
     go_region_held3 (fun w'=>w'.cell? (At r 1)=some (.slice bj jl cj)/\w'.cell? (At W.heap.size 0)=some (U3 a)/\w'.cell? (At W.heap.size 1)=some (I6 n)) (go_keep) ((go_at_call 227;refine Mo (HI.o _ (upH HB2)) fun w3 hb3=>?_;have HB3:=bu2 HB2 hb3;have p2:=cK hb3 p0;have p3:=cK hb3 p1;obtain⟨y0,yj,y1,y2⟩:=HC.o w3 HB3.o;clear hb3))
     all_goals (
      go_wp2_with ((go_at_call 228;refine(HWk.o _ (upH HB3)).mono ?_;rintro e w4 ⟨v4,rfl,hv4,hb4⟩;obtain⟨b4,c4,rfl,_,_⟩:=ae hv4.1;have HB4:=bu2 HB3 hb4;have HV4:Hid (HL S B w4 (.slice b4 (aA s.pools k).length c4) (aA s.pools k)):=hv4;obtain⟨z0,zj,z1,z2⟩:=HC.o w4 HB4.o;clear hb4 hv4))
      go_ret;exact HFk.o w4 _ HV4.o HB4.o))
  ·have q2:(ow.toList==o.toList)=false:=(Lib.bytes_beq_false_iff ow o).2 k1
   rw[if_pos k1];clear HI HWk HFk k1;go_enter func187,ntmps187
   go_wp2;go_region_held3 (fun w'=>w'.cell? (At r 0)=some (Sq g (s.pools).length cp)/\w'.cell? (At W.heap.size 0)=some (U3 a)/\w'.cell? (At W.heap.size 1)=some (I6 n)) (go_keep) ((go_at_call 182;refine Mo (HT.o _ upB) fun w2 hb2=>?_;have HB2:Hid (Bl W w2):=bup upB hb2;have p0:w2.cell? (At W.heap.size 0)=some (U3 a):=cN hb2;have p1:w2.cell? (At W.heap.size 1)=some (I6 n):=cN hb2;obtain⟨y0,yj,y1,y2⟩:=HC.o w2 HB2.o;have yo:=HO2.o w2 HB2.o;clear hb2))
   all_goals (
    go_wp2_with fail
    go_ret;exact bS HH.o HB2.o)
def dy(s:Bk)(o:Bz)(a n:Int):Bk×Bz :=
 if ah s.nets a n<0 then (s,⟨#[69,82,82,32,78,69,84]⟩) else if ((s.nets).getD (ah s.nets a n).toNat hd0).o≠o then (s,⟨#[69,82,82,32,79,87,78,69,82]⟩) else if 0<dq (s.leases.map lsH) a n then (s,⟨#[69,82,82,32,66,85,83,89]⟩)
 else ({ s with nets:=aA s.nets (ah s.nets a n).toNat },⟨#[79,75]⟩)
theorem oK(S:Nat->Prop)(B:Nat)(W:World)(HBz:Hid (B<=W.heap.size))(r:Nat)(s:Bk)(vt:Value)(o:Bz)(a n:Int)(ha:ad a)(n0:0<=n)(n1:n<=32)(hl:(s.nets).length<=1000)(hj:(s.leases.map lsH).length<=1000)(hP:∀ h,h∈s.nets->cP h)(hJ:∀ h,h∈s.leases.map lsH->cP h)(h:RB S B r s vt W):Calls prog 190 #[Pq r,.string o,.agg #[U3 a,I6 n]] W (MR S B r vt W (dy s o a n)):=by
 have HH:Hid (RB S B r s vt W):=h
 obtain⟨vp,vn,vl,h1,h2,h3,h4⟩:=h;have rl:=h1.lt;obtain⟨bp,cp,rfl,_,_⟩:=ae h3.1;obtain⟨bj,cj,rfl,_,_⟩:=ae h4.1;have HT:Hid (∀ V,Bl W V->Cr prog 182 #[.slice bp (s.nets).length cp,.agg #[U3 a,I6 n]] V (I6 (ah s.nets a n))):=fun V hV=>eO s.nets a n _ V ha n0 n1 hP (h3.below hV).rd om
 have HI:Hid (∀ V,Bl W V->Cr prog 227 #[.slice bj (s.leases.map lsH).length cj,.agg #[U3 a,I6 n]] V (I6 (dq (s.leases.map lsH) a n))):=fun V hV=>kF (s.leases.map lsH) a n _ V ha n0 n1 hJ (h4.below hV).rd om
 have HW:Hid (∀ (q:Nat) V,q<=1000000->Bl W V->Calls prog 228 #[.slice bp (s.nets).length cp,I6 q] V fun e w'=>∃ v',e=.returned v'/\HL S B w' v' (aA s.nets q)/\Bl V w'):=fun q V hq hV=>(gk s.nets q _ V (h3.below hV).rd om hq).mono (fun e w' ⟨v',q1,q2,q3⟩=>⟨v',q1,gG (by have z1:=HBz.o;have z2:=hV.size;omega) q2,q3⟩)
 have HC:Hid (∀ V,Bl W V->V.cell? (At r 1)=some (.slice bp (s.nets).length cp)/\V.cell? (At r 2)=some (.slice bj (s.leases.map lsH).length cj)/\V.frozen? (At r 1)=false/\r<V.heap.size):=fun V hV=>⟨(h1.below hV).cell 1,(h1.below hV).cell 2,(h1.below hV).frozen 1,(h1.below hV).lt⟩
 have HO:Hid (∀ k,k<(s.nets).length->∃ g,bp=some (At g 0)/\∀ V,Bl W V->V.cell? (At g (k*3+2))=some (.string ((s.nets).getD k hd0).o)):=fun k hk=>by
  obtain⟨b',c',e,_,_,k3⟩:=h3.rd
  cases e;obtain⟨g,hg,hlt,hc⟩:=k3 (by intro e;rw[e] at hk;simp at hk)
  exact⟨g,hg,fun V hV=>(hV.cell (p:=At g (k*3+2)) hlt).trans (hc k hk 2 _ rfl)⟩
 have HF:Hid (∀ (q:Nat) w3 v',HL S B w3 v' (aA s.nets q)->Bl W w3->MR S B r vt W ({ s with nets:=aA s.nets q },⟨#[79,75]⟩) (.returned (.string ⟨#[79,75]⟩)) (w3.setCell (At r 1) v')):=fun q w3 v' q1 q2=>by
  have b3:=h1.below q2;exact⟨rfl,⟨vp,v',_,b3.set 1 v',(h2.below q2).set b3,q1.set b3,(h4.below q2).set b3⟩,dO q2⟩
 clear h1 h2 h3 h4 hP hJ;obtain⟨jl,hjl⟩:∃ jl,(s.leases.map lsH).length=jl:=⟨_,rfl⟩
 rw[hjl] at HI HC;clear hjl;obtain⟨c0,cJ,_,_⟩:=HC.o W (Below.refl _ _)
 have hin0:Hid (0<=(dq (s.leases.map lsH) a n:Int)):=Int.natCast_nonneg _
 rcases aV (isH a n) s.nets hd0 with⟨e,_⟩|⟨k,hk,e,hp,_⟩
 ·have e':ah s.nets a n=-1:=e
  rw[e'] at HT;unfold dy;rw[e',if_pos om];clear e e' HI HW HF HO;go_enter func190,ntmps190
  go_wp2;go_region_held3 (fun w'=>w'.cell? (At r 1)=some (.slice bp (s.nets).length cp)/\w'.cell? (At W.heap.size 0)=some (U3 a)/\w'.cell? (At W.heap.size 1)=some (I6 n)) (go_keep) ((go_at_call 182;refine Mo (HT.o _ upB) fun w2 hb2=>?_;have HB2:Hid (Bl W w2):=bup upB hb2;have p0:w2.cell? (At W.heap.size 0)=some (U3 a):=cN hb2;have p1:w2.cell? (At W.heap.size 1)=some (I6 n):=cN hb2;obtain⟨y0,yj,y1,y2⟩:=HC.o w2 HB2.o;clear hb2))
  all_goals (
   go_wp2_with fail
   go_ret;exact bS HH.o HB2.o)
 ·have e':ah s.nets a n=(k:Int):=e
  rw[e'] at HT;unfold dy;rw[e',if_neg om,Int.toNat_natCast];obtain⟨g,rfl,ho⟩:=HO.o k hk;have HO2:Hid (∀ V,Bl W V->V.cell? (At g (k*3+2))=some (.string ((s.nets).getD k hd0).o)):=ho
  have HWk:Hid (∀ V,Bl W V->Calls prog 228 #[Sq g (s.nets).length cp,I6 k] V fun e w'=>∃ v',e=.returned v'/\HL S B w' v' (aA s.nets k)/\Bl V w'):=fun V hV=>HW.o k V om hV
  have HFk:Hid (∀ w3 v',HL S B w3 v' (aA s.nets k)->Bl W w3->MR S B r vt W ({ s with nets:=aA s.nets k },⟨#[79,75]⟩) (.returned (.string ⟨#[79,75]⟩)) (w3.setCell (At r 1) v')):=fun w3 v' q1 q2=>HF.o k w3 v' q1 q2
  obtain⟨ow,how⟩:∃ ow,((s.nets).getD k hd0).o=ow:=⟨_,rfl⟩
  rw[how] at HO2 ⊢;obtain⟨ni,hni⟩:∃ ni,dq (s.leases.map lsH) a n=ni:=⟨_,rfl⟩
  rw[hni] at HI ⊢;have hkz:(k:Int)<((s.nets).length:Int):=by omega
  clear e e' HO HW HF ho hp how hni hin0;by_cases k1:ow=o
  ·have q2:(ow.toList==o.toList)=true:=(Lib.bytes_beq_iff ow o).2 k1
   rw[if_neg (by simpa using k1)]
   by_cases k2:0<ni
   ·rw[if_pos k2];have k3:(0:Int)<(ni:Int):=by omega
    have HK1:Hid (ow=o):=k1
    clear HWk HFk k1;go_enter func190,ntmps190
    go_wp2;go_region_held3 (fun w'=>w'.cell? (At r 1)=some (Sq g (s.nets).length cp)/\w'.cell? (At W.heap.size 0)=some (U3 a)/\w'.cell? (At W.heap.size 1)=some (I6 n)) (go_keep) ((go_at_call 182;refine Mo (HT.o _ upB) fun w2 hb2=>?_;have HB2:Hid (Bl W w2):=bup upB hb2;have p0:w2.cell? (At W.heap.size 0)=some (U3 a):=cN hb2;have p1:w2.cell? (At W.heap.size 1)=some (I6 n):=cN hb2;obtain⟨y0,yj,y1,y2⟩:=HC.o w2 HB2.o;have yo:=HO2.o w2 HB2.o;clear hb2))
    all_goals (
     go_wp2_with fail
     go_region_held3 (fun w'=>w'.cell? (At r 2)=some (.slice bj jl cj)/\w'.cell? (At W.heap.size 0)=some (U3 a)/\w'.cell? (At W.heap.size 1)=some (I6 n)) (go_keep) ((go_at_call 227;refine Mo (HI.o _ (upH HB2)) fun w3 hb3=>?_;have HB3:=bu2 HB2 hb3;have p2:=cK hb3 p0;have p3:=cK hb3 p1;obtain⟨y0,yj,y1,y2⟩:=HC.o w3 HB3.o;clear hb3))
     all_goals (
      go_wp2_with fail
      go_ret;exact bS HH.o HB3.o))
   ·rw[if_neg k2];have k3:¬(0:Int)<(ni:Int):=by omega
    have HK1:Hid (ow=o):=k1
    clear k1;go_enter func190,ntmps190
    go_wp2;go_region_held3 (fun w'=>w'.cell? (At r 1)=some (Sq g (s.nets).length cp)/\w'.cell? (At W.heap.size 0)=some (U3 a)/\w'.cell? (At W.heap.size 1)=some (I6 n)) (go_keep) ((go_at_call 182;refine Mo (HT.o _ upB) fun w2 hb2=>?_;have HB2:Hid (Bl W w2):=bup upB hb2;have p0:w2.cell? (At W.heap.size 0)=some (U3 a):=cN hb2;have p1:w2.cell? (At W.heap.size 1)=some (I6 n):=cN hb2;obtain⟨y0,yj,y1,y2⟩:=HC.o w2 HB2.o;have yo:=HO2.o w2 HB2.o;clear hb2))
    all_goals (
     go_wp2_with fail
     go_region_held3 (fun w'=>w'.cell? (At r 2)=some (.slice bj jl cj)/\w'.cell? (At W.heap.size 0)=some (U3 a)/\w'.cell? (At W.heap.size 1)=some (I6 n)) (go_keep) ((go_at_call 227;refine Mo (HI.o _ (upH HB2)) fun w3 hb3=>?_;have HB3:=bu2 HB2 hb3;have p2:=cK hb3 p0;have p3:=cK hb3 p1;obtain⟨y0,yj,y1,y2⟩:=HC.o w3 HB3.o;clear hb3))
     all_goals (
      go_wp2_with ((go_at_call 228;refine(HWk.o _ (upH HB3)).mono ?_;rintro e w4 ⟨v4,rfl,hv4,hb4⟩;obtain⟨b4,c4,rfl,_,_⟩:=ae hv4.1;have HB4:=bu2 HB3 hb4;have HV4:Hid (HL S B w4 (.slice b4 (aA s.nets k).length c4) (aA s.nets k)):=hv4;obtain⟨z0,zj,z1,z2⟩:=HC.o w4 HB4.o;clear hb4 hv4))
      go_ret;exact HFk.o w4 _ HV4.o HB4.o))
  ·have q2:(ow.toList==o.toList)=false:=(Lib.bytes_beq_false_iff ow o).2 k1
   rw[if_pos k1];clear HI HWk HFk k1;go_enter func190,ntmps190
   go_wp2;go_region_held3 (fun w'=>w'.cell? (At r 1)=some (Sq g (s.nets).length cp)/\w'.cell? (At W.heap.size 0)=some (U3 a)/\w'.cell? (At W.heap.size 1)=some (I6 n)) (go_keep) ((go_at_call 182;refine Mo (HT.o _ upB) fun w2 hb2=>?_;have HB2:Hid (Bl W w2):=bup upB hb2;have p0:w2.cell? (At W.heap.size 0)=some (U3 a):=cN hb2;have p1:w2.cell? (At W.heap.size 1)=some (I6 n):=cN hb2;obtain⟨y0,yj,y1,y2⟩:=HC.o w2 HB2.o;have yo:=HO2.o w2 HB2.o;clear hb2))
   all_goals (
    go_wp2_with fail
    go_ret;exact bS HH.o HB2.o)
def gc(s:Bk)(o:Bz)(a n:Int):Bk×Bz :=
 if n<22 then (s,⟨#[69,82,82,32,82,65,78,71,69]⟩) else if dA s.pools a n<0 then (s,⟨#[69,82,82,32,80,79,79,76]⟩) else if aU s.nets a n=true then (s,⟨#[69,82,82,32,79,86,69,82,76,65,80]⟩) else if 24<=s.nets.length then (s,⟨#[69,82,82,32,76,73,77,73,84]⟩)
 else ({ s with nets:=aW s.nets ⟨a,n,o⟩ },⟨#[79,75]⟩)
theorem tv(S:Nat->Prop)(B:Nat)(W:World)(HBz:Hid (B<=W.heap.size))(r:Nat)(s:Bk)(vt:Value)(o:Bz)(a n:Int)(ha:ad a)(n0:0<=n)(n1:n<=32)(hl:s.pools.length<=1000)(hm:s.nets.length<=1000)(hP:∀ h,h∈s.pools->cP h)(hN:∀ h,h∈s.nets->cP h)(h:RB S B r s vt W):Calls prog 189 #[Pq r,.string o,.agg #[U3 a,I6 n]] W (MR S B r vt W (gc s o a n)):=by
 have HH:Hid (RB S B r s vt W):=h
 obtain⟨vp,vn,vl,h1,h2,h3,h4⟩:=h;have rl:=h1.lt;obtain⟨bp,cp,rfl,_,_⟩:=ae h2.1;obtain⟨bn,cn,rfl,_,_⟩:=ae h3.1;have HA:Hid (∀ V,Bl W V->Cr prog 230 #[.slice bp s.pools.length cp,.agg #[U3 a,I6 n]] V (I6 (dA s.pools a n))):=fun V hV=>kB s.pools a n _ V ha n0 n1 hP (h2.below hV).rd om
 have HM:Hid (∀ V,Bl W V->Cr prog 225 #[.slice bn s.nets.length cn,.agg #[U3 a,I6 n]] V (.bool (aU s.nets a n))):=fun V hV=>iM s.nets a n _ V ha n0 n1 hN (h3.below hV).rd om
 have HW:Hid (∀ V,Bl W V->Calls prog 226 #[.slice bn s.nets.length cn,.agg #[U3 a,I6 n,.string o]] V fun e w'=>∃ v',e=.returned v'/\HL S B w' v' (aW s.nets ⟨a,n,o⟩)/\Bl V w'):=fun V hV=>(fT s.nets ⟨a,n,o⟩ _ V ha hN (h3.below hV).rd om).mono (fun e w' ⟨v',q1,q2,q3⟩=>⟨v',q1,gG (by have z1:=HBz.o;have z2:=hV.size;omega) q2,q3⟩)
 have HC:Hid (∀ V,Bl W V->V.cell? (At r 0)=some (.slice bp s.pools.length cp)/\V.cell? (At r 1)=some (.slice bn s.nets.length cn)/\V.frozen? (At r 1)=false/\r<V.heap.size):=fun V hV=>⟨(h1.below hV).cell 0,(h1.below hV).cell 1,(h1.below hV).frozen 1,(h1.below hV).lt⟩
 have HF:Hid (∀ w3 v',HL S B w3 v' (aW s.nets ⟨a,n,o⟩)->Bl W w3->MR S B r vt W ({ s with nets:=aW s.nets ⟨a,n,o⟩ },⟨#[79,75]⟩) (.returned (.string ⟨#[79,75]⟩)) (w3.setCell (At r 1) v')):=fun w3 v' q1 q2=>by
  have b3:=h1.below q2;exact⟨rfl,⟨_,v',vl,b3.set 1 v',(h2.below q2).set b3,q1.set b3,(h4.below q2).set b3⟩,dO q2⟩
 obtain⟨c0,cj,_,_⟩:=HC.o W (Below.refl _ _)
 clear h1 h2 h3 h4 hP hN;unfold gc;by_cases k1:n<22
 ·rw[if_pos k1];clear HM HW HF HA;go_enter func189,ntmps189
  go_wp2;go_ret;exact bS HH.o upB
 ·rw[if_neg k1];obtain⟨ar,hAr⟩:∃ ar,dA s.pools a n=ar:=⟨_,rfl⟩
  rw[hAr] at HA ⊢;clear hAr;by_cases k2:ar<0
  ·rw[if_pos k2];clear HM HW HF;go_enter func189,ntmps189
   go_wp2;go_region_held3 (fun w'=>w'.cell? (At r 0)=some (.slice bp s.pools.length cp)/\w'.cell? (At W.heap.size 0)=some (U3 a)/\w'.cell? (At W.heap.size 1)=some (I6 n)) (go_keep) ((go_at_call 230;refine Mo (HA.o _ upB) fun w2 hb2=>?_;have HB2:Hid (Bl W w2):=bup upB hb2;have p0:w2.cell? (At W.heap.size 0)=some (U3 a):=cN hb2;have p1:w2.cell? (At W.heap.size 1)=some (I6 n):=cN hb2;obtain⟨y0,yj,y1,y2⟩:=HC.o w2 HB2.o;clear hb2))
   all_goals (
    go_wp2_with fail
    go_ret;exact bS HH.o HB2.o)
  ·rw[if_neg k2];obtain⟨an,hAn⟩:∃ an,aU s.nets a n=an:=⟨_,rfl⟩
   rw[hAn] at HM ⊢;clear hAn;obtain⟨res,hres⟩:∃ res,(if an=true then (s,(⟨#[69,82,82,32,79,86,69,82,76,65,80]⟩:Bz)) else if 24<=s.nets.length then (s,⟨#[69,82,82,32,76,73,77,73,84]⟩) else ({ s with nets:=aW s.nets ⟨a,n,o⟩ },⟨#[79,75]⟩))=res:=⟨_,rfl⟩
   rw[hres];have HR1:Hid (an=true->res=(s,⟨#[69,82,82,32,79,86,69,82,76,65,80]⟩)):=fun q=>by rw[<- hres,if_pos q]
   have HR2:Hid (an=false->24<=s.nets.length->res=(s,⟨#[69,82,82,32,76,73,77,73,84]⟩)):=fun q q2=>by rw[<- hres,if_neg (by rw[q];simp),if_pos q2]
   have HR3:Hid (an=false->¬24<=s.nets.length->res=({ s with nets:=aW s.nets ⟨a,n,o⟩ },⟨#[79,75]⟩)):=fun q q2=>by rw[<- hres,if_neg (by rw[q];simp),if_neg q2]
   clear hres;go_enter func189,ntmps189
   go_wp2;go_region_held3 (fun w'=>w'.cell? (At r 0)=some (.slice bp s.pools.length cp)/\w'.cell? (At W.heap.size 0)=some (U3 a)/\w'.cell? (At W.heap.size 1)=some (I6 n)) (go_keep) ((go_at_call 230;refine Mo (HA.o _ upB) fun w2 hb2=>?_;have HB2:Hid (Bl W w2):=bup upB hb2;have p0:w2.cell? (At W.heap.size 0)=some (U3 a):=cN hb2;have p1:w2.cell? (At W.heap.size 1)=some (I6 n):=cN hb2;obtain⟨y0,yj,y1,y2⟩:=HC.o w2 HB2.o;clear hb2))
   all_goals (
    go_wp2_with fail
    go_region_held3 (fun w'=>w'.cell? (At r 1)=some (.slice bn s.nets.length cn)/\w'.cell? (At W.heap.size 0)=some (U3 a)/\w'.cell? (At W.heap.size 1)=some (I6 n)) (go_keep) ((go_at_call 225;refine Mo (HM.o _ (upH HB2)) fun w3 hb3=>?_;have HB3:=bu2 HB2 hb3;have p2:=cK hb3 p0;have p3:=cK hb3 p1;obtain⟨y0,yj,y1,y2⟩:=HC.o w3 HB3.o;clear hb3))
    all_goals (
     cases an with
     | true =>
      go_wp2_with fail
      go_ret;rw[HR1.o sM]
      exact bS HH.o HB3.o
     | false =>
      by_cases k4:24<=s.nets.length
      ·have k5:(24:Int)<=(s.nets.length:Int):=by omega
       go_wp2_with fail
       go_ret;rw[HR2.o sM k4]
       exact bS HH.o HB3.o
      ·have k5:¬(24:Int)<=(s.nets.length:Int):=by omega
       go_wp2_with fail
       go_region_with ((go_at_call 226;refine(HW.o _ (upH HB3)).mono ?_;rintro e w4 ⟨v4,rfl,hv4,hb4⟩;obtain⟨b4,c4,rfl,_,_⟩:=ae hv4.1;have HB4:=bu2 HB3 hb4;have HV4:Hid (HL S B w4 (.slice b4 (aW s.nets ⟨a,n,o⟩).length c4) (aW s.nets ⟨a,n,o⟩)):=hv4;obtain⟨z0,zj,z1,z2⟩:=HC.o w4 HB4.o;clear hb4 hv4))
       all_goals (
        go_wp2_with fail
        go_ret;rw[HR3.o sM om]
        exact HF.o w4 _ HV4.o HB4.o)))
def dY:List Ls->Ls->List Ls
 | [],h=>[h]
 | x::r,h=>if h.a<x.a then h::x::r else x::dY r h
theorem nT(l:List Ls)(h:Ls):(dY l h).map lsH=aW (l.map lsH) (lsH h):=by
 induction l with
 | nil=>rfl
 | cons x r ih =>
  simp only[dY,aW,List.map_cons]
  by_cases hx:h.a<x.a
  ·rw[if_pos hx,if_pos (show (lsH h).a<(lsH x).a from hx)];rfl
  ·rw[if_neg hx,if_neg (show ¬(lsH h).a<(lsH x).a from hx)];simp[ih]
theorem Cs{α β:Type}(f:α->β)(l:List α)(k:Nat):(aA l k).map f=aA (l.map f) k:=by simp[aA]
theorem uE{l:List Ls}(h:∀ x,x∈l->ad x.a):∀ y,y∈l.map lsH->cP y:=fun y hy=>by
 obtain⟨x,hx,rfl⟩:=List.mem_map.1 hy;exact⟨h x hx,by show (0:Int)<=32;decide,by show (32:Int)<=32;decide⟩
def dQ(l:List Ls)(a:Int):Int:=ah (l.map lsH) a 32
def jn(s:Bk)(o:Bz)(a:Int):Bk×Bz :=
 if dQ s.leases a<0 then (s,⟨#[69,82,82,32,65,68,68,82]⟩) else if ((s.leases.map lsH).getD (dQ s.leases a).toNat hd0).o≠o then (s,⟨#[69,82,82,32,79,87,78,69,82]⟩)
 else ({ s with leases:=aA s.leases (dQ s.leases a).toNat },⟨#[79,75]⟩)
theorem xd(S:Nat->Prop)(B:Nat)(W:World)(HBz:Hid (B<=W.heap.size))(r:Nat)(s:Bk)(vt:Value)(o:Bz)(a:Int)(ha:ad a)(hl:s.leases.length<=1000)(hP:∀ x,x∈s.leases->ad x.a)(h:RB S B r s vt W):Calls prog 193 #[Pq r,.string o,I6 a] W (MR S B r vt W (jn s o a)):=by
 have HH:Hid (RB S B r s vt W):=h
 obtain⟨vp,vn,vl,h1,h2,h3,h4⟩:=h;have rl:=h1.lt;have hz:(s.leases.map lsH).length<=1000:=by simpa using hl
 have hQ:=uE hP;obtain⟨bp,cp,rfl,_,_⟩:=ae h4.1;have HO1:Hid (∀ V,Cr prog 233 #[I6 a] V (.agg #[U3 a,I6 32])):=fun V=>lV a V ha
 have HT:Hid (∀ V,Bl W V->Cr prog 182 #[.slice bp (s.leases.map lsH).length cp,.agg #[U3 a,I6 32]] V (I6 (dQ s.leases a))):=fun V hV=>eO _ a 32 _ V ha dE dE hQ (h4.below hV).rd om
 have HW:Hid (∀ (q:Nat) V,q<=1000000->Bl W V->Calls prog 228 #[.slice bp (s.leases.map lsH).length cp,I6 q] V fun e w'=>∃ v',e=.returned v'/\HL S B w' v' (aA (s.leases.map lsH) q)/\Bl V w'):=fun q V hq hV=>(gk _ q _ V (h4.below hV).rd om hq).mono (fun e w' ⟨v',q1,q2,q3⟩=>⟨v',q1,gG (by have z1:=HBz.o;have z2:=hV.size;omega) q2,q3⟩)
 have HC:Hid (∀ V,Bl W V->V.cell? (At r 2)=some (.slice bp (s.leases.map lsH).length cp)/\V.frozen? (At r 2)=false/\r<V.heap.size):=fun V hV=>⟨(h1.below hV).cell 2,(h1.below hV).frozen 2,(h1.below hV).lt⟩
 have HO:Hid (∀ k,k<(s.leases.map lsH).length->∃ g,bp=some (At g 0)/\∀ V,Bl W V->V.cell? (At g (k*3+2))=some (.string ((s.leases.map lsH).getD k hd0).o)):=fun k hk=>by
  obtain⟨b',c',e,_,_,k3⟩:=h4.rd
  cases e;obtain⟨g,hg,hlt,hc⟩:=k3 (by intro e;rw[e] at hk;simp at hk)
  exact⟨g,hg,fun V hV=>(hV.cell (p:=At g (k*3+2)) hlt).trans (hc k hk 2 _ rfl)⟩
 have HF:Hid (∀ (q:Nat) w3 v',HL S B w3 v' (aA (s.leases.map lsH) q)->Bl W w3->MR S B r vt W ({ s with leases:=aA s.leases q },⟨#[79,75]⟩) (.returned (.string ⟨#[79,75]⟩)) (w3.setCell (At r 2) v')):=fun q w3 v' q1 q2=>by
  have b3:=h1.below q2;refine⟨rfl,⟨_,_,v',b3.set 2 v',(h2.below q2).set b3,(h3.below q2).set b3,?_⟩,dO q2⟩
  show HL S B _ v' ((aA s.leases q).map lsH)
  rw[Cs];exact q1.set b3
 clear h1 h2 h3 h4 hP hQ;unfold jn;have hfi:=aV (isH a 32) (s.leases.map lsH) hd0
 have e9:fi (isH a 32) (s.leases.map lsH)=dQ s.leases a:=rfl
 rw[e9] at hfi;clear e9;generalize dQ s.leases a=fl at HT hfi ⊢
 obtain⟨M,hM⟩:∃ M,s.leases.map lsH=M:=⟨_,rfl⟩
 rw[hM] at HT HW HC HO HF hfi hz ⊢;clear hM hl;obtain⟨c0,_,_⟩:=HC.o W (Below.refl _ _)
 rcases hfi with⟨rfl,_⟩|⟨k,hk,rfl,_,_⟩
 ·rw[if_pos om];clear HW HF HO;go_enter func193,ntmps193
  go_wp2;go_region_held3 (fun w'=>w'.cell? (At r 2)=some (.slice bp M.length cp)) (go_keep) ((first|(go_at_call 233;refine Mo (HO1.o _) fun w1 hb1=>?_;have HB1:Hid (Bl W w1):=bup (W:=W) (Below.refl _ _) (by first|exact hb1|exact(Below.drew (Below.refl _ _)).trans hb1);obtain⟨y0,y1,y2⟩:=HC.o w1 HB1.o;clear hb1)|(go_at_call 182;refine Mo (HT.o _ (upH HB1)) fun w2 hb2=>?_;have HB2:=bu2 HB1 hb2;obtain⟨y0,y1,y2⟩:=HC.o w2 HB2.o;clear hb2)))
  all_goals (
   go_wp2_with fail
   go_ret;exact bS HH.o HB2.o)
 ·rw[if_neg om,Int.toNat_natCast];obtain⟨g,rfl,ho⟩:=HO.o k hk;have HO2:Hid (∀ V,Bl W V->V.cell? (At g (k*3+2))=some (.string (M.getD k hd0).o)):=ho
  have HWk:Hid (∀ V,Bl W V->Calls prog 228 #[Sq g M.length cp,I6 k] V fun e w'=>∃ v',e=.returned v'/\HL S B w' v' (aA M k)/\Bl V w'):=fun V hV=>HW.o k V om hV
  have HFk:Hid (∀ w3 v',HL S B w3 v' (aA M k)->Bl W w3->MR S B r vt W ({ s with leases:=aA s.leases k },⟨#[79,75]⟩) (.returned (.string ⟨#[79,75]⟩)) (w3.setCell (At r 2) v')):=fun w3 v' q1 q2=>HF.o k w3 v' q1 q2
  generalize (M.getD k hd0).o=ow at HO2 ⊢
  have hkz:(k:Int)<(M.length:Int):=by omega
  clear HO HW HF ho;by_cases k1:ow=o
  ·have q2:(ow.toList==o.toList)=true:=(Lib.bytes_beq_iff ow o).2 k1
   rw[if_neg (by simpa using k1)]
   clear k1;go_enter func193,ntmps193
   go_wp2;go_region_held3 (fun w'=>w'.cell? (At r 2)=some (Sq g M.length cp)) (go_keep) ((first|(go_at_call 233;refine Mo (HO1.o _) fun w1 hb1=>?_;have HB1:Hid (Bl W w1):=bup (W:=W) (Below.refl _ _) (by first|exact hb1|exact(Below.drew (Below.refl _ _)).trans hb1);obtain⟨y0,y1,y2⟩:=HC.o w1 HB1.o;have yo:=HO2.o w1 HB1.o;clear hb1)|(go_at_call 182;refine Mo (HT.o _ (upH HB1)) fun w2 hb2=>?_;have HB2:=bu2 HB1 hb2;obtain⟨y0,y1,y2⟩:=HC.o w2 HB2.o;have yo:=HO2.o w2 HB2.o;clear hb2)))
   all_goals (
    go_wp2_with ((go_at_call 228;refine(HWk.o _ (upH HB2)).mono ?_;rintro e w4 ⟨v4,rfl,hv4,hb4⟩;obtain⟨b4,c4,rfl,_,_⟩:=ae hv4.1;have HB4:=bu2 HB2 hb4;have HV4:Hid (HL S B w4 (.slice b4 (aA M k).length c4) (aA M k)):=hv4;obtain⟨z0,z1,z2⟩:=HC.o w4 HB4.o;clear hb4 hv4))
    go_ret;exact HFk.o w4 _ HV4.o HB4.o)
  ·have q2:(ow.toList==o.toList)=false:=(Lib.bytes_beq_false_iff ow o).2 k1
   rw[if_pos k1];clear HWk HFk k1;go_enter func193,ntmps193
   go_wp2;go_region_held3 (fun w'=>w'.cell? (At r 2)=some (Sq g M.length cp)) (go_keep) ((first|(go_at_call 233;refine Mo (HO1.o _) fun w1 hb1=>?_;have HB1:Hid (Bl W w1):=bup (W:=W) (Below.refl _ _) (by first|exact hb1|exact(Below.drew (Below.refl _ _)).trans hb1);obtain⟨y0,y1,y2⟩:=HC.o w1 HB1.o;have yo:=HO2.o w1 HB1.o;clear hb1)|(go_at_call 182;refine Mo (HT.o _ (upH HB1)) fun w2 hb2=>?_;have HB2:=bu2 HB1 hb2;obtain⟨y0,y1,y2⟩:=HC.o w2 HB2.o;have yo:=HO2.o w2 HB2.o;clear hb2)))
   all_goals (
    go_wp2_with fail
    go_ret;exact bS HH.o HB2.o)
def jr(s:Bk)(o:Bz)(a:Int):Bk×Bz :=
 if dA s.nets a 32<0 then (s,⟨#[69,82,82,32,78,69,84]⟩) else if usR (s.nets.getD (dA s.nets a 32).toNat hd0).a (s.nets.getD (dA s.nets a 32).toNat hd0).n a=false then (s,⟨#[69,82,82,32,65,68,68,82]⟩)
 else if 0<=dQ s.leases a then (s,⟨#[69,82,82,32,84,65,75,69,78]⟩) else if 40<=s.leases.length then (s,⟨#[69,82,82,32,76,73,77,73,84]⟩) else ({ s with leases:=dY s.leases ⟨a,o⟩ },⟨#[79,75]⟩)
theorem Bt{s:Bk}{o:Bz}{a ar fl:Int}{u:Bool}(e1:dA s.nets a 32=ar)(e2:usR (s.nets.getD ar.toNat hd0).a (s.nets.getD ar.toNat hd0).n a=u)(e3:dQ s.leases a=fl):jr s o a=if ar<0 then (s,⟨#[69,82,82,32,78,69,84]⟩) else if u=false then (s,⟨#[69,82,82,32,65,68,68,82]⟩) else if 0<=fl then (s,⟨#[69,82,82,32,84,65,75,69,78]⟩) else if 40<=s.leases.length then (s,⟨#[69,82,82,32,76,73,77,73,84]⟩) else ({ s with leases:=dY s.leases ⟨a,o⟩ },⟨#[79,75]⟩):=by
 subst e1;subst e2;subst e3;rfl
theorem xo(S:Nat->Prop)(B:Nat)(W:World)(HBz:Hid (B<=W.heap.size))(r:Nat)(s:Bk)(vt:Value)(o:Bz)(a:Int)(ha:ad a)(hl:s.leases.length<=1000)(hm:s.nets.length<=1000)(hN:∀ h,h∈s.nets->cP h)(hP:∀ x,x∈s.leases->ad x.a)(h:RB S B r s vt W):Calls prog 192 #[Pq r,.string o,I6 a] W (MR S B r vt W (jr s o a)):=by
 have HH:Hid (RB S B r s vt W):=h
 obtain⟨vp,vn,vl,h1,h2,h3,h4⟩:=h;have rl:=h1.lt;have hz:(s.leases.map lsH).length<=1000:=by simpa using hl
 have hz2:s.leases.length=(s.leases.map lsH).length:=by simp
 have hQ:=uE hP;obtain⟨bp,cp,rfl,_,_⟩:=ae h4.1;obtain⟨bn,cn,rfl,_,_⟩:=ae h3.1;have HO1:Hid (∀ V,Cr prog 233 #[I6 a] V (.agg #[U3 a,I6 32])):=fun V=>lV a V ha
 have HA:Hid (∀ V,Bl W V->Cr prog 230 #[.slice bn s.nets.length cn,.agg #[U3 a,I6 32]] V (I6 (dA s.nets a 32))):=fun V hV=>kB s.nets a 32 _ V ha dE dE hN (h3.below hV).rd om
 have HT:Hid (∀ V,Bl W V->Cr prog 182 #[.slice bp (s.leases.map lsH).length cp,.agg #[U3 a,I6 32]] V (I6 (dQ s.leases a))):=fun V hV=>eO _ a 32 _ V ha dE dE hQ (h4.below hV).rd om
 have HW:Hid (∀ V,Bl W V->Calls prog 226 #[.slice bp (s.leases.map lsH).length cp,.agg #[U3 a,I6 32,.string o]] V fun e w'=>∃ v',e=.returned v'/\HL S B w' v' (aW (s.leases.map lsH) ⟨a,32,o⟩)/\Bl V w'):=fun V hV=>(fT _ ⟨a,32,o⟩ _ V ha hQ (h4.below hV).rd om).mono (fun e w' ⟨v',q1,q2,q3⟩=>⟨v',q1,gG (by have z1:=HBz.o;have z2:=hV.size;omega) q2,q3⟩)
 have HC:Hid (∀ V,Bl W V->V.cell? (At r 1)=some (.slice bn s.nets.length cn)/\V.cell? (At r 2)=some (.slice bp (s.leases.map lsH).length cp)/\V.frozen? (At r 2)=false/\r<V.heap.size):=fun V hV=>⟨(h1.below hV).cell 1,(h1.below hV).cell 2,(h1.below hV).frozen 2,(h1.below hV).lt⟩
 have HO:Hid (∀ k,k<s.nets.length->∃ g,bn=some (At g 0)/\∀ V,Bl W V->V.cell? (At g (k*3))=some (U3 (s.nets.getD k hd0).a)/\V.cell? (At g (k*3+1))=some (I6 (s.nets.getD k hd0).n)):=fun k hk=>by
  obtain⟨b',c',e,_,_,k3⟩:=h3.rd
  cases e;obtain⟨g,hg,hlt,hc⟩:=k3 (by intro e;rw[e] at hk;simp at hk)
  exact⟨g,hg,fun V hV=>⟨(hV.cell (p:=At g (k*3)) hlt).trans (hc k hk 0 _ rfl),(hV.cell (p:=At g (k*3+1)) hlt).trans (hc k hk 1 _ rfl)⟩⟩
 have HU:Hid (∀ k,k<s.nets.length->∀ V,Cr prog 232 #[.agg #[U3 (s.nets.getD k hd0).a,I6 (s.nets.getD k hd0).n],I6 a] V (.bool (usR (s.nets.getD k hd0).a (s.nets.getD k hd0).n a))):=fun k hk V=>by
  have q:=hN (s.nets.getD k hd0) (by rw[List.getD_eq_getElem?_getD,List.getElem?_eq_getElem hk];exact List.getElem_mem hk)
  exact kG _ _ a V q.1 q.2.1 q.2.2 ha.1 ha.2
 have HF:Hid (∀ w3 v',HL S B w3 v' (aW (s.leases.map lsH) ⟨a,32,o⟩)->Bl W w3->MR S B r vt W ({ s with leases:=dY s.leases ⟨a,o⟩ },⟨#[79,75]⟩) (.returned (.string ⟨#[79,75]⟩)) (w3.setCell (At r 2) v')):=fun w3 v' q1 q2=>by
  have b3:=h1.below q2;refine⟨rfl,⟨_,_,v',b3.set 2 v',(h2.below q2).set b3,(h3.below q2).set b3,?_⟩,dO q2⟩
  show HL S B _ v' ((dY s.leases ⟨a,o⟩).map lsH)
  rw[nT];exact q1.set b3
 clear h1 h2 h3 h4 hP hQ hN;have hfi:=aV (fun h=>ri a 32 h.a h.n) s.nets hd0
 have e9:fi (fun h=>ri a 32 h.a h.n) s.nets=dA s.nets a 32:=rfl
 rw[e9] at hfi;obtain⟨ar,e1⟩:∃ ar,dA s.nets a 32=ar:=⟨_,rfl⟩
 obtain⟨u,e2⟩:∃ u,usR (s.nets.getD ar.toNat hd0).a (s.nets.getD ar.toNat hd0).n a=u:=⟨_,rfl⟩
 obtain⟨fl,e3⟩:∃ fl,dQ s.leases a=fl:=⟨_,rfl⟩
 rw[Bt e1 e2 e3];rw[e1] at hfi HA;rw[e3] at HT;clear e1 e9 e3;obtain⟨M,hM⟩:∃ M,s.leases.map lsH=M:=⟨_,rfl⟩
 rw[hM] at HT HW HC HF hz hz2;rw[hz2];clear hM hl hz2;obtain⟨c0,cl,_,_⟩:=HC.o W (Below.refl _ _)
 rcases hfi with⟨rfl,_⟩|⟨k,hk,rfl,_,_⟩
 ·rw[if_pos om];clear HW HF HO HT HU e2;go_enter func192,ntmps192
  go_wp2;go_region_held3 (fun w'=>w'.cell? (At r 1)=some (.slice bn s.nets.length cn)) (go_keep) ((first|(go_at_call 233;refine Mo (HO1.o _) fun w1 hb1=>?_;have HB1:Hid (Bl W w1):=bup (W:=W) (Below.refl _ _) (by first|exact hb1|exact(Below.drew (Below.refl _ _)).trans hb1);obtain⟨y0,y1,y2,y3⟩:=HC.o w1 HB1.o;clear hb1)|(go_at_call 230;refine Mo (HA.o _ (upH HB1)) fun w2 hb2=>?_;have HB2:=bu2 HB1 hb2;obtain⟨y0,y1,y2,y3⟩:=HC.o w2 HB2.o;clear hb2)))
  all_goals (
   go_wp2_with fail
   go_ret;exact bS HH.o HB2.o)
 ·rw[if_neg om];rw[Int.toNat_natCast] at e2;obtain⟨g,rfl,ho⟩:=HO.o k hk;have HUk:=HU.o k hk;rw[e2] at HUk;have HU2:Hid (∀ V,Cr prog 232 #[.agg #[U3 (s.nets.getD k hd0).a,I6 (s.nets.getD k hd0).n],I6 a] V (.bool u)):=HUk
  have HO2:Hid (∀ V,Bl W V->V.cell? (At g (k*3))=some (U3 (s.nets.getD k hd0).a)/\V.cell? (At g (k*3+1))=some (I6 (s.nets.getD k hd0).n)):=ho
  clear HUk HU HO ho e2;generalize s.nets.getD k hd0=y at HU2 HO2
  have hkz:(k:Int)<(s.nets.length:Int):=by omega
  obtain⟨res,hres⟩:∃ res:Bk×Bz,(if u=false then (s,(⟨#[69,82,82,32,65,68,68,82]⟩:Bz)) else if 0<=fl then (s,⟨#[69,82,82,32,84,65,75,69,78]⟩) else if 40<=M.length then (s,⟨#[69,82,82,32,76,73,77,73,84]⟩) else ({ s with leases:=dY s.leases ⟨a,o⟩ },⟨#[79,75]⟩))=res:=⟨_,rfl⟩
  rw[hres];have HR1:Hid (u=false->res=(s,⟨#[69,82,82,32,65,68,68,82]⟩)):=fun q=>by rw[<- hres,if_pos q]
  have HR2:Hid (u=true->0<=fl->res=(s,⟨#[69,82,82,32,84,65,75,69,78]⟩)):=fun q q2=>by rw[<- hres,if_neg (by rw[q];simp),if_pos q2]
  have HR3:Hid (u=true->¬0<=fl->40<=M.length->res=(s,⟨#[69,82,82,32,76,73,77,73,84]⟩)):=fun q q2 q3=>by rw[<- hres,if_neg (by rw[q];simp),if_neg q2,if_pos q3]
  have HR4:Hid (u=true->¬0<=fl->¬40<=M.length->res=({ s with leases:=dY s.leases ⟨a,o⟩ },⟨#[79,75]⟩)):=fun q q2 q3=>by rw[<- hres,if_neg (by rw[q];simp),if_neg q2,if_neg q3]
  clear hres;go_enter func192,ntmps192
  go_wp2;go_region_held3 (fun w'=>w'.cell? (At r 1)=some (Sq g s.nets.length cn)) (go_keep) ((first|(go_at_call 233;refine Mo (HO1.o _) fun w1 hb1=>?_;have HB1:Hid (Bl W w1):=bup (W:=W) (Below.refl _ _) (by first|exact hb1|exact(Below.drew (Below.refl _ _)).trans hb1);obtain⟨y0,y1,y2,y3⟩:=HC.o w1 HB1.o;clear hb1)|(go_at_call 230;refine Mo (HA.o _ (upH HB1)) fun w2 hb2=>?_;have HB2:=bu2 HB1 hb2;obtain⟨y0,y1,y2,y3⟩:=HC.o w2 HB2.o;clear hb2)))
  all_goals (
   obtain⟨yo0,yo1⟩:=HO2.o w2 HB2.o;(
    cases u with
    | false =>
     go_wp2_with ((go_at_call 232;refine Mo (HU2.o _) fun w3 hb3=>?_;have HB3:=bu2 HB2 hb3;obtain⟨y0,y1,y2,y3⟩:=HC.o w3 HB3.o;clear hb3))
     go_ret;rw[HR1.o sM]
     exact bS HH.o HB3.o
    | true =>
     go_wp2_with ((go_at_call 232;refine Mo (HU2.o _) fun w3 hb3=>?_;have HB3:=bu2 HB2 hb3;obtain⟨y0,y1,y2,y3⟩:=HC.o w3 HB3.o;clear hb3))
     go_region_held3 (fun w'=>w'.cell? (At r 2)=some (.slice bp M.length cp)) (go_keep) ((first|(go_at_call 233;refine Mo (HO1.o _) fun wz hb1=>?_;have HB1:=bu2 HB3 hb1;obtain⟨y0,y1,y2,y3⟩:=HC.o wz HB1.o;clear hb1)|(go_at_call 182;refine Mo (HT.o _ (upH HB1)) fun w4 hb2=>?_;have HB4:=bu2 HB1 hb2;obtain⟨y0,y1,y2,y3⟩:=HC.o w4 HB4.o;clear hb2)))
     all_goals (
      by_cases k3:0<=fl
      ·go_wp2_with fail
       go_ret;rw[HR2.o sM om]
       exact bS HH.o HB4.o
      ·by_cases k4:40<=M.length
       ·have k5:(40:Int)<=(M.length:Int):=by omega
        go_wp2_with fail
        go_ret;rw[HR3.o sM om k4]
        exact bS HH.o HB4.o
       ·have k5:¬(40:Int)<=(M.length:Int):=by omega
        go_wp2_with fail
        go_region_with ((first|(go_at_call 233;refine Mo (HO1.o _) fun w5 hb5=>?_;have HB5:Hid (Bl W w5):=bup (W:=w4) HB4.o (by first|exact hb5|exact(Below.drew (Below.refl _ _)).trans hb5|exact bup upB hb5);obtain⟨z0,z1,z2,z3⟩:=HC.o w5 HB5.o;clear hb5)|(go_at_call 226;refine(HW.o _ (upH HB5)).mono ?_;rintro e w6 ⟨v6,rfl,hv6,hb6⟩;obtain⟨b6,c6,rfl,_,_⟩:=ae hv6.1;have HB6:Hid (Bl W w6):=bup (W:=w5) HB5.o (by first|exact hb6|exact(Below.drew (Below.refl _ _)).trans hb6|exact bup upB hb6);have HV6:Hid (HL S B w6 (.slice b6 (aW M ⟨a,32,o⟩).length c6) (aW M ⟨a,32,o⟩)):=hv6;obtain⟨z0,z1,z2,z3⟩:=HC.o w6 HB6.o;clear hb6 hv6)))
        all_goals (
         go_wp2_with fail
         go_ret;rw[HR4.o sM om om]
         exact HF.o w6 _ HV6.o HB6.o))))
def de(p:Int->Bool):Nat->Int->Option Int
 | 0,_=>none
 | k+1,x=>if p x then some x else de p k (x+1)
def eH(l:List Ls)(a n x:Int):Bool:=usR a n x&&decide (dQ l x<0)
def eN(s:Bk)(o:Bz):Option Int->Bk×Bz
 | none=>(s,⟨#[69,82,82,32,70,85,76,76]⟩)
 | some d=>if 40<=s.leases.length then (s,⟨#[69,82,82,32,76,73,77,73,84]⟩) else ({ s with leases:=dY s.leases ⟨d,o⟩ },⟨#[79,75,32]⟩++bs (dot d.toNat))
def gd(s:Bk)(o:Bz)(a n:Int):Bk×Bz :=
 if ah s.nets a n<0 then (s,⟨#[69,82,82,32,78,69,84]⟩) else eN s o (de (eH s.leases a n) (sz n).toNat a)
theorem tG(S:Nat->Prop)(B:Nat)(W:World)(HBz:Hid (B<=W.heap.size))(r:Nat)(s:Bk)(vt:Value)(o:Bz)(a n:Int)(ha:ad a)(hr:rt a n=true)(hl:s.leases.length<=1000)(hm:s.nets.length<=1000)(hN:∀ h,h∈s.nets->cP h)(hP:∀ x,x∈s.leases->ad x.a)(h:RB S B r s vt W):Calls prog 191 #[Pq r,.string o,.agg #[U3 a,I6 n]] W (MR S B r vt W (gd s o a n)):=by
 obtain⟨n0,n1,_⟩:=aj.1 hr;have hend:=gC a n n0 n1 ha.1 ha.2 (aj.1 hr).2.2
 have hsz:=aD n;have HH:Hid (RB S B r s vt W):=h
 obtain⟨vp,vn,vl,h1,h2,h3,h4⟩:=h;have rl:=h1.lt;have hz:(s.leases.map lsH).length<=1000:=by simpa using hl
 have hz2:s.leases.length=(s.leases.map lsH).length:=by simp
 have hQ:=uE hP;obtain⟨bp,cp,rfl,_,_⟩:=ae h4.1;obtain⟨bn,cn,rfl,_,_⟩:=ae h3.1;have HA:Hid (∀ V,Bl W V->Cr prog 182 #[.slice bn s.nets.length cn,.agg #[U3 a,I6 n]] V (I6 (ah s.nets a n))):=fun V hV=>eO s.nets a n _ V ha n0 n1 hN (h3.below hV).rd om
 have HLa:Hid (∀ V,Cr prog 231 #[.agg #[U3 a,I6 n]] V (I6 (lst a n))):=fun V=>eU a n V ha.1 ha.2 n0 n1
 have HO1:Hid (∀ x,ad x->∀ V,Cr prog 233 #[I6 x] V (.agg #[U3 x,I6 32])):=fun x hx V=>lV x V hx
 have HU:Hid (∀ x,ad x->∀ V,Cr prog 232 #[.agg #[U3 a,I6 n],I6 x] V (.bool (usR a n x))):=fun x hx V=>kG a n x V ha n0 n1 hx.1 hx.2
 have HT:Hid (∀ x,ad x->∀ V,Bl W V->Cr prog 182 #[.slice bp (s.leases.map lsH).length cp,.agg #[U3 x,I6 32]] V (I6 (dQ s.leases x))):=fun x hx V hV=>eO _ x 32 _ V hx dE dE hQ (h4.below hV).rd om
 have HW:Hid (∀ x,ad x->∀ V,Bl W V->Calls prog 226 #[.slice bp (s.leases.map lsH).length cp,.agg #[U3 x,I6 32,.string o]] V fun e w'=>∃ v',e=.returned v'/\HL S B w' v' (aW (s.leases.map lsH) ⟨x,32,o⟩)/\Bl V w'):=fun x hx V hV=>(fT _ ⟨x,32,o⟩ _ V hx hQ (h4.below hV).rd om).mono (fun e w' ⟨v',q1,q2,q3⟩=>⟨v',q1,gG (by have z1:=HBz.o;have z2:=hV.size;omega) q2,q3⟩)
 have HD:Hid (∀ x,ad x->∀ V,Cr prog 222 #[U3 x] V (.string (bs (dot x.toNat)))):=fun x hx V=>iK x V hx.1 hx.2
 have HC:Hid (∀ V,Bl W V->V.cell? (At r 1)=some (.slice bn s.nets.length cn)/\V.cell? (At r 2)=some (.slice bp (s.leases.map lsH).length cp)/\V.frozen? (At r 2)=false/\r<V.heap.size):=fun V hV=>⟨(h1.below hV).cell 1,(h1.below hV).cell 2,(h1.below hV).frozen 2,(h1.below hV).lt⟩
 have HF:Hid (∀ x t w3 v' w4,HL S B w3 v' (aW (s.leases.map lsH) ⟨x,32,o⟩)->Bl W w3->Below (w3.setCell (At r 2) v').heap.size (w3.setCell (At r 2) v') w4->MR S B r vt W ({ s with leases:=dY s.leases ⟨x,o⟩ },t) (.returned (.string t)) w4):=fun x t w3 v' w4 q1 q2 q3=>by
  have b3:=h1.below q2;have hb:RB S B r { s with leases:=dY s.leases ⟨x,o⟩ } vt (w3.setCell (At r 2) v'):=by
   refine⟨_,_,v',b3.set 2 v',(h2.below q2).set b3,(h3.below q2).set b3,?_⟩
   show HL S B _ v' ((dY s.leases ⟨x,o⟩).map lsH)
   rw[nT];exact q1.set b3
  refine⟨rfl,hb.below q3,?_⟩
  have hc:=dO (r:=r) (i:=2) (u:=v') q2
  exact⟨q3.os.trans hc.os,q3.tape.trans hc.tape,q3.output.trans hc.output,Nat.le_trans hc.size q3.size,fun x hx hn=>(q3.block x (Nat.lt_of_lt_of_le hx hc.size)).trans (hc.block x hx hn)⟩
 clear h1 h2 h3 h4 hP hQ hN;have hfi:=aV (isH a n) s.nets hd0
 have e9:fi (isH a n) s.nets=ah s.nets a n:=rfl
 rw[e9] at hfi;clear e9;unfold gd;generalize ah s.nets a n=fn at HA hfi ⊢
 have HRes:Hid (∀ x,eN s o (some x)=if 40<=(s.leases.map lsH).length then (s,⟨#[69,82,82,32,76,73,77,73,84]⟩) else ({ s with leases:=dY s.leases ⟨x,o⟩ },⟨#[79,75,32]⟩++bs (dot x.toNat))):=fun x=>by rw[<- hz2];rfl
 have HRn:Hid (eN s o none=(s,⟨#[69,82,82,32,70,85,76,76]⟩)):=rfl
 have i0:IntKind.i64.wrap a=a:=bf _ ha.1 ha.2
 obtain⟨M,hM⟩:∃ M,s.leases.map lsH=M:=⟨_,rfl⟩
 rw[hM] at HT HW HC HF hz HRes;clear hM hl hz2;obtain⟨c0,cl,_,_⟩:=HC.o W (Below.refl _ _)
 rcases hfi with⟨rfl,_⟩|⟨k,hk,rfl,_,_⟩
 ·rw[if_pos om];clear HW HF HT HU HRes HRn HD HO1 HLa;go_enter func191,ntmps191
  go_wp2;go_region_held3 (fun w'=>w'.cell? (At r 1)=some (.slice bn s.nets.length cn)/\w'.cell? (At W.heap.size 0)=some (U3 a)/\w'.cell? (At W.heap.size 1)=some (I6 n)) (go_keep) ((go_at_call 182;refine Mo (HA.o _ upB) fun w2 hb2=>?_;have HB2:Hid (Bl W w2):=bup upB hb2;have p0:w2.cell? (At W.heap.size 0)=some (U3 a):=cN hb2;have p1:w2.cell? (At W.heap.size 1)=some (I6 n):=cN hb2;obtain⟨y0,y1,y2,y3⟩:=HC.o w2 HB2.o;clear hb2))
  all_goals (
   go_wp2_with fail
   go_ret;exact bS HH.o HB2.o)
 ·rw[if_neg om];obtain⟨N,hN⟩:∃ N,(sz n).toNat=N:=⟨_,rfl⟩
  obtain⟨z,hlz⟩:∃ z,lst a n=z:=⟨_,rfl⟩
  have hzN:z=a+N-1:=by rw[<- hlz,<- hN];unfold lst;omega
  rw[hlz] at HLa;rw[hN];have hsN:sz n=N:=by omega
  obtain⟨fu,hfu⟩:∃ fu,de (eH s.leases a n) N a=fu:=⟨_,rfl⟩
  rw[hfu];rw[hsN] at hend hsz;clear hlz hN hsN;go_enter func191,ntmps191
  go_wp2;go_region_held3 (fun w'=>w'.cell? (At r 1)=some (.slice bn s.nets.length cn)/\w'.cell? (At W.heap.size 0)=some (U3 a)/\w'.cell? (At W.heap.size 1)=some (I6 n)) (go_keep) ((go_at_call 182;refine Mo (HA.o _ upB) fun w2 hb2=>?_;have HB2:Hid (Bl W w2):=bup upB hb2;have p0:w2.cell? (At W.heap.size 0)=some (U3 a):=cN hb2;have p1:w2.cell? (At W.heap.size 1)=some (I6 n):=cN hb2;obtain⟨y0,y1,y2,y3⟩:=HC.o w2 HB2.o;clear hb2))
  all_goals (
   go_wp2_with fail
   go_loopw [8] (fun i wr=>∃ j:Nat,j<=N/\i=I6 (a+j)/\Hid (Bl W wr)/\Hid (wr.cell? (At W.heap.size 0)=some (U3 a)/\wr.cell? (At W.heap.size 1)=some (I6 n))/\Hid (fu=de (eH s.leases a n) (N-j) (a+j))) (fun i _=>N-(intOf i-a).toNat)
   case atStart=>exact⟨0,by omega,by go_num,HB2,⟨p0,p1⟩,(show fu=de (eH s.leases a n) (N-0) (a+((0:Nat):Int)) by rw[<- hfu];simp)⟩
   case round =>
    obtain⟨j,hj,rfl,HB,HP,HS⟩:=hrel;clear p0 p1 y0 y1 y2 y3 HB2 HA;obtain⟨p0,p1⟩:=HP.o;obtain⟨y0,y1,y2,y3⟩:=HC.o wr HB.o;have HP0:Hid (∀ V,Bl wr V->V.cell? (At W.heap.size 0)=some (U3 a)/\V.cell? (At W.heap.size 1)=some (I6 n)):=fun V hV=>⟨(hV.cell (p:=At W.heap.size 0) (block_lt_of_cell HP.o.1)).trans HP.o.1,(hV.cell (p:=At W.heap.size 1) (block_lt_of_cell HP.o.2)).trans HP.o.2⟩
    have HPz:Hid (W.heap.size<wr.heap.size):=block_lt_of_cell HP.o.1
    by_cases hjn:j<N
    ·obtain⟨x,hx⟩:∃ x,a+(j:Int)=x:=⟨_,rfl⟩
     have hx1:a+(j:Int)+1=x+1:=by omega
     rw[hx] at HS ⊢;have hax:ad x:=⟨by have:=ha.1;omega,by omega⟩
     have HXJ:Hid (x+1=a+((j+1:Nat):Int)):=(show x+1=a+((j+1:Nat):Int) by omega)
     have HOx:=HO1.o x hax;have HO2:Hid (∀ V,Cr prog 233 #[I6 x] V (.agg #[U3 x,I6 32])):=HOx
     have HUx:=HU.o x hax;have HTx:=HT.o x hax;have HWx:=HW.o x hax;have HW2:Hid (∀ V,Bl W V->Calls prog 226 #[.slice bp M.length cp,.agg #[U3 x,I6 32,.string o]] V fun e w'=>∃ v',e=.returned v'/\HL S B w' v' (aW M ⟨x,32,o⟩)/\Bl V w'):=HWx
     have HDx:=HD.o x hax;have zt:(bs (dot x.toNat)).size<=30:=by rw[aN];have:=iB x hax.1 hax.2;omega
     have HF2:Hid (∀ t w3 v' w4,HL S B w3 v' (aW M ⟨x,32,o⟩)->Bl W w3->Below (w3.setCell (At r 2) v').heap.size (w3.setCell (At r 2) v') w4->MR S B r vt W ({ s with leases:=dY s.leases ⟨x,o⟩ },t) (.returned (.string t)) w4):=fun t w3 v' w4=>HF.o x t w3 v' w4
     have HRx:=HRes.o x;obtain⟨u,hu⟩:∃ u,usR a n x=u:=⟨_,rfl⟩
     obtain⟨fl,hfl⟩:∃ fl,dQ s.leases x=fl:=⟨_,rfl⟩
     have HSn:Hid ((u=false\/0<=fl)->fu=de (eH s.leases a n) (N-(j+1)) (x+1)):=fun q=>by
      have h:=HS.o;rw[show N-j=(N-(j+1))+1 by omega] at h
      simp only[de] at h
      rw[if_neg (by unfold eH;rw[hu,hfl];rcases q with q|q;simp[q];simp;intro _;omega)] at h
      exact h
     have HSy:Hid (u=true->fl<0->fu=some x):=fun q1 q2=>by
      have h:=HS.o;rw[show N-j=(N-(j+1))+1 by omega] at h
      simp only[de] at h
      rw[if_pos (by unfold eH;rw[hu,hfl,q1];simpa using q2)] at h
      exact h
     rw[hu] at HUx;rw[hfl] at HTx;have HU2:Hid (∀ V,Cr prog 232 #[.agg #[U3 a,I6 n],I6 x] V (.bool u)):=HUx
     have HT2:Hid (∀ V,Bl W V->Cr prog 182 #[.slice bp M.length cp,.agg #[U3 x,I6 32]] V (I6 fl)):=HTx
     have HX:Hid (IntKind.u32.wrap x=x):=jx _ hax.1 hax.2
     have hle:x<=z:=by omega
     have HRz:Hid (eN s o (some x)=if 40<=M.length then (s,⟨#[69,82,82,32,76,73,77,73,84]⟩) else ({ s with leases:=dY s.leases ⟨x,o⟩ },⟨#[79,75,32]⟩++bs (dot x.toNat))):=HRx
     generalize bs (dot x.toNat)=tx at HDx HRz zt
     have HD2:Hid (∀ V,Cr prog 222 #[U3 x] V (.string tx)):=HDx
     have hxx:0<=x/\x<4294967296:=hax
     clear HOx HUx HTx HWx HDx HRx hu hfl HO1 HU HT HW HD HF HRes HS hx hx1 hax HP HRn;go_wp2_with (first|(go_at_call 231;refine Mo (HLa.o _) fun wa hb2=>?_;replace p0:=cK hb2 p0;replace p1:=cK hb2 p1;replace HB:Hid (Bl W wa):=(by first|exact bup HB.o hb2|exact bup HB.o ((Below.drew (Below.refl _ _)).trans hb2)|exact bup (upH HB) hb2);obtain⟨y0,y1,y2,y3⟩:=HC.o wa HB.o;clear hb2)|(go_at_call 232;refine Mo (HU2.o _) fun wb hb2=>?_;replace p0:=cK hb2 p0;replace p1:=cK hb2 p1;replace HB:Hid (Bl W wb):=(by first|exact bup HB.o hb2|exact bup HB.o ((Below.drew (Below.refl _ _)).trans hb2)|exact bup (upH HB) hb2);obtain⟨y0,y1,y2,y3⟩:=HC.o wb HB.o;clear hb2)|(go_at_call 233;refine Mo (HO2.o _) fun wc hb2=>?_;replace p0:=cK hb2 p0;replace p1:=cK hb2 p1;replace HB:Hid (Bl W wc):=(by first|exact bup HB.o hb2|exact bup HB.o ((Below.drew (Below.refl _ _)).trans hb2)|exact bup (upH HB) hb2);obtain⟨y0,y1,y2,y3⟩:=HC.o wc HB.o;clear hb2)|(go_at_call 182;refine Mo (HT2.o _ (upH HB)) fun wd hb2=>?_;replace p0:=cK hb2 p0;replace p1:=cK hb2 p1;replace HB:Hid (Bl W wd):=(by first|exact bup HB.o hb2|exact bup HB.o ((Below.drew (Below.refl _ _)).trans hb2)|exact bup (upH HB) hb2);obtain⟨y0,y1,y2,y3⟩:=HC.o wd HB.o;clear hb2))
     go_region_held3 (fun w'=>w'.cell? (At r 2)=some (.slice bp M.length cp)) (go_keep) ((first|(go_at_call 233;refine Mo (HO2.o _) fun wc hb2=>?_;replace p0:=cK hb2 p0;replace p1:=cK hb2 p1;replace HB:Hid (Bl W wc):=(by first|exact bup HB.o hb2|exact bup HB.o ((Below.drew (Below.refl _ _)).trans hb2)|exact bup (upH HB) hb2);obtain⟨y0,y1,y2,y3⟩:=HC.o wc HB.o;clear hb2)|(go_at_call 182;refine Mo (HT2.o _ (upH HB)) fun wd hb2=>?_;replace p0:=cK hb2 p0;replace p1:=cK hb2 p1;replace HB:Hid (Bl W wd):=(by first|exact bup HB.o hb2|exact bup HB.o ((Below.drew (Below.refl _ _)).trans hb2)|exact bup (upH HB) hb2);obtain⟨y0,y1,y2,y3⟩:=HC.o wd HB.o;clear hb2)))
     all_goals (
      cases u with
      | false =>
       go_wp2_with fail
       refine⟨⟨j+1,by omega,by rw[<- HXJ.o],HB,⟨p0,p1⟩,(show fu=de (eH s.leases a n) (N-(j+1)) (a+((j+1:Nat):Int)) by rw[<- HXJ.o];exact HSn.o (.inl sM))⟩,?_⟩
       have h:=HXJ.o;simp[intOf];omega
      | true =>
       by_cases k3:0<=fl
       ·go_wp2_with fail
        refine⟨⟨j+1,by omega,by rw[<- HXJ.o],HB,⟨p0,p1⟩,(show fu=de (eH s.leases a n) (N-(j+1)) (a+((j+1:Nat):Int)) by rw[<- HXJ.o];exact HSn.o (.inr om))⟩,?_⟩
        have h:=HXJ.o;simp[intOf];omega
       ·have HE:Hid (fu=some x):=HSy.o rfl om
        by_cases k4:40<=M.length
        ·have k5:(40:Int)<=(M.length:Int):=by omega
         go_wp2_with fail
         go_ret;rw[HE.o,HRz.o,if_pos k4];exact bS HH.o HB.o
        ·have k5:¬(40:Int)<=(M.length:Int):=by omega
         have hX:=HX.o;go_wp2_with fail
         go_region_with (first|(go_at_call 233;refine Mo (HO2.o _) fun we hb2=>?_;replace p0:=cK hb2 p0;replace p1:=cK hb2 p1;replace HB:Hid (Bl W we):=(by first|exact bup HB.o hb2|exact bup HB.o ((Below.drew (Below.refl _ _)).trans hb2)|exact bup (upH HB) hb2);obtain⟨y0,y1,y2,y3⟩:=HC.o we HB.o;clear hb2)|(go_at_call 226;refine(HW2.o _ (upH HB)).mono ?_;rintro e w6 ⟨v6,rfl,hv6,hb6⟩;obtain⟨b6,c6,rfl,_,_⟩:=ae hv6.1;have HB6:Hid (Bl W w6):=(by first|exact bup HB.o hb6|exact bup HB.o ((Below.drew (Below.refl _ _)).trans hb6)|exact bup (upH HB) hb6);have HV6:Hid (HL S B w6 (.slice b6 (aW M ⟨x,32,o⟩).length c6) (aW M ⟨x,32,o⟩)):=hv6;obtain⟨z0,z1,z2,z3⟩:=HC.o w6 HB6.o;clear hb6 hv6))
         all_goals (
          go_wp2_with (go_at_call 222;refine Mo (HD2.o _) fun w7 hb7=>?_;have HB7:Hid (Below (w6.setCell (At r 2) (.slice b6 (aW M ⟨x,32,o⟩).length c6)).heap.size (w6.setCell (At r 2) (.slice b6 (aW M ⟨x,32,o⟩).length c6)) w7):=hb7;clear hb7)
          go_ret;rw[HE.o,HRz.o,if_neg k4];exact HF2.o _ w6 _ w7 HV6.o HB6.o HB7.o))
    ·obtain rfl:j=N:=by omega
     have HE:Hid (fu=none):=(show fu=none by rw[HS.o];simp[de])
     have hgt:¬a+(j:Int)<=z:=by omega
     clear HS HU HT HW HD HF HRes;go_wp2_with (go_at_call 231;refine Mo (HLa.o _) fun wa hb2=>?_;replace p0:=cK hb2 p0;replace p1:=cK hb2 p1;replace HB:Hid (Bl W wa):=(by first|exact bup HB.o hb2|exact bup HB.o ((Below.drew (Below.refl _ _)).trans hb2)|exact bup (upH HB) hb2);obtain⟨y0,y1,y2,y3⟩:=HC.o wa HB.o;clear hb2)
     go_ret;rw[HE.o,HRn.o];exact bS HH.o HB.o)
end Go.Proofs.YtjnhhnbgjjkkjaaGreatDoor
