/-
  RfE, RfH, RfI, RfJ, RfL, RfN
-/
import Derived.Test.YtjnhhnbgjjkkjaaGreatDoorRepliesPAK
import Derived.Test.YtjnhhnbgjjkkjaaGreatDoorRepliesPAN
set_option linter.unusedVariables false
set_option linter.unusedSimpArgs false
set_option maxRecDepth 100000
set_option maxHeartbeats 2000000
namespace Go.Proofs.YtjnhhnbgjjkkjaaGreatDoor
open Go.ChangeShapes Go.WideShapes Go.ChangeAt Go.RowKit Tryz
def wrT (a n:Nat):List UInt8:=wr a n
def l9 (adr:Bool) (h:Hd):List UInt8:=32::(if adr then dot h.a.toNat else wrT h.a.toNat h.n.toNat)++61::h.o.data.toList
def cd (l:List Hd) (a n:Int) (adr:Bool):List UInt8:=[79,75]++(l.filter (fun h=>ri h.a h.n a n)).flatMap (l9 adr)
theorem xV (l:List Hd) (a n:Int) (adr:Bool) (k:Nat) (hk:k<l.length) (h:ri (l.getD k hd0).a (l.getD k hd0).n a n=true):cd (l.take (k+1)) a n adr=cd (l.take k) a n adr++l9 adr (l.getD k hd0):=by
  unfold cd;rw[eJ l k hk,List.filter_append,List.flatMap_append];simp only[List.filter_cons,h,if_true,List.filter_nil,List.flatMap_cons,List.flatMap_nil,List.append_nil,List.append_assoc]
theorem Cd (l:List Hd) (a n:Int) (adr:Bool) (k:Nat) (hk:k<l.length) (h:ri (l.getD k hd0).a (l.getD k hd0).n a n=false):cd (l.take (k+1)) a n adr=cd (l.take k) a n adr:=by
  unfold cd;rw[eJ l k hk,List.filter_append,List.flatMap_append];simp only[List.filter_cons,h,List.filter_nil,List.flatMap_nil,List.append_nil,Bool.false_eq_true,if_false]
theorem xu (st u:List UInt8) (o:ByteArray):bs st++⟨#[32]⟩++bs u++⟨#[61]⟩++o=bs (st++(32::u++61::o.data.toList)):=by
  apply ByteArray.ext
  apply Array.ext'
  simp[bs]
theorem io (a:Int) (h0:0<=a) (h1:a<4294967296):(dot a.toNat).length<=20:=by
  rw[<- nK _ om];have:=nI a.toNat 3;omega
theorem mY (a n:Int) (h0:0<=a) (h1:a<4294967296) (n0:0<=n) (n1:n<=32):(wr a.toNat n.toNat).length<=30:=by
  have:=congrArg ByteArray.size (sd a.toNat n.toNat)
  simp only[ByteArray.size_append,aN] at this
  have h2:=io a h0 h1;have h3:=fK n.toNat om;have h4:(⟨#[47]⟩:ByteArray).size=1:=rfl
  omega
theorem jI (l:List Hd) (a n:Int) (adr:Bool) (v:Value) (w:World) (ha:ad a) (n0:0<=n) (n1:n<=32) (hA:∀ h,h∈l->cI h/\h.o.size<=8) (hr:Rd 3 ak hd0 w v l) (hn:l.length<=1000) :
    Calls prog 180 #[v,.agg #[.int .u32 a,.int .i64 n],.bool adr] w fun e w'=>e=.returned (.string (bs (cd l a n adr)))/\Bl w w':=by
  obtain⟨b,cap,rfl,h1,h2,h3⟩:=hr;have hrow:Hid (∀ W,Bl w W->∀ j,j<l.length->∃ g,b=some ⟨g,0,none⟩/\W.cell? ⟨g,j*3,none⟩=some (.int .u32 (l.getD j hd0).a)/\W.cell? ⟨g,j*3+1,none⟩=some (.int .i64 (l.getD j hd0).n)/\W.cell? ⟨g,j*3+2,none⟩=some (.string (l.getD j hd0).o)):=fun W hW j hj=>by
    obtain⟨g,hg,hlt,hc⟩:=h3 (by intro e;rw[e] at hj;simp at hj)
    have hc:=hc j hj;exact⟨g,hg,(hW.cell (p:=⟨g,j*3,none⟩) hlt).trans (hc 0 _ rfl),(hW.cell (p:=⟨g,j*3+1,none⟩) hlt).trans (hc 1 _ rfl),(hW.cell (p:=⟨g,j*3+2,none⟩) hlt).trans (hc 2 _ rfl)⟩
  have HA:Hid (∀ h,h∈l->cI h/\h.o.size<=8):=hA
  have HC:Hid (∀ y:Hd,cI y->∀ W,Cr prog 220 #[.agg #[.int .u32 y.a,.int .i64 y.n],.agg #[.int .u32 a,.int .i64 n]] W (.bool (ri y.a y.n a n))):=fun y hy W=>kE y.a y.n a n W hy.1 ha hy.2.1 hy.2.2 n0 n1
  clear h1 h2 h3 hA;go_enter func180,ntmps180
  go_wp2;go_loopw [7,8] (fun s i wr=>∃ (k:Nat) (st:ByteArray),k<=l.length/\st.size<=2+60*k/\s=.string st/\i=.int .i64 k/\Hid (Bl w wr)/\Hid (wr.cell? ⟨w.heap.size,0,none⟩=some (.int .u32 a)/\wr.cell? ⟨w.heap.size,1,none⟩=some (.int .i64 n))/\Hid (st=bs (cd (l.take k) a n adr))) (fun _ i _=>l.length-(intOf i).toNat)
  case atStart=>exact⟨0,⟨#[79,75]⟩,by omega,by decide,rfl,rfl,(show Below _ _ _ from upB),⟨by simp[go_sem],by simp[go_sem]⟩,by show _=_;simp[cd,bs]⟩
  case round =>
    obtain⟨k,st,hk,hst,rfl,rfl,HB,HX,HI⟩:=hrel;by_cases hlt:k<l.length
    . obtain⟨g,rfl,r0,r1,r2⟩:=hrow.out wr HB.out k hlt;have x0:=HX.out.1;have x1:=HX.out.2;have HK:Hid (cI (l.getD k hd0)/\(l.getD k hd0).o.size<=8):=HA.out _ (aI l hd0 k hlt)
      have HY:=xV l a n adr k hlt;have HN:=Cd l a n adr k hlt;generalize l.getD k hd0=y at r0 r1 r2 HK HY HN
      have hos:=HK.out.2;rcases hq:ri y.a y.n a n with _|_
      . have HC2:Hid (∀ W,Cr prog 220 #[.agg #[.int .u32 y.a,.int .i64 y.n],.agg #[.int .u32 a,.int .i64 n]] W (.bool false)):=fun W=>(HC.out y HK.out.1 W).mono (fun e w' q=>⟨by rw[q.1];exact aA hq,q.2⟩)
        have HE:Hid (cd (l.take (k+1)) a n adr=cd (l.take k) a n adr):=HN hq
        clear HY HN hq HC hrow HA HX;go_wp2;go_region_held3 (fun w'=>w'.cell? ⟨g,k*3,none⟩=some (.int .u32 y.a)/\w'.cell? ⟨g,k*3+1,none⟩=some (.int .i64 y.n)/\w'.cell? ⟨w.heap.size,0,none⟩=some (.int .u32 a)/\w'.cell? ⟨w.heap.size,1,none⟩=some (.int .i64 n)) (go_keep) ((go_at_call 220;refine(HC2.out _).mono ?_;rintro e wq ⟨rfl,hbq⟩;replace r0:wq.cell? ⟨g,k*3,none⟩=some (.int .u32 y.a):=(hbq.cell (p:=⟨g,k*3,none⟩) (block_lt_of_cell r0)).trans r0;replace r1:wq.cell? ⟨g,k*3+1,none⟩=some (.int .i64 y.n):=(hbq.cell (p:=⟨g,k*3+1,none⟩) (block_lt_of_cell r1)).trans r1;replace r2:wq.cell? ⟨g,k*3+2,none⟩=some (.string y.o):=(hbq.cell (p:=⟨g,k*3+2,none⟩) (block_lt_of_cell r2)).trans r2;replace x0:wq.cell? ⟨w.heap.size,0,none⟩=some (.int .u32 a):=(hbq.cell (p:=⟨w.heap.size,0,none⟩) (block_lt_of_cell x0)).trans x0;replace x1:wq.cell? ⟨w.heap.size,1,none⟩=some (.int .i64 n):=(hbq.cell (p:=⟨w.heap.size,1,none⟩) (block_lt_of_cell x1)).trans x1;replace HB:Hid (Bl w wq):=(by first|exact HB.out.trans (hbq.mono HB.out.size)|exact HB.out.drew.trans (hbq.mono HB.out.size));clear hbq))
        all_goals (
          go_wp2_with fail
          go_roundw
          case rel=>exact⟨k+1,st,by omega,by omega,rfl,by go_num,HB.out,⟨x0,x1⟩,by show st=_;rw[HE.out];exact HI.out⟩
          case measure=>simp[intOf];omega)
      . have HC2:Hid (∀ W,Cr prog 220 #[.agg #[.int .u32 y.a,.int .i64 y.n],.agg #[.int .u32 a,.int .i64 n]] W (.bool true)):=fun W=>(HC.out y HK.out.1 W).mono (fun e w' q=>⟨by rw[q.1];exact aA hq,q.2⟩)
        have HE:Hid (cd (l.take (k+1)) a n adr=cd (l.take k) a n adr++l9 adr y):=HY hq
        have HT:Hid (∀ W,Cr prog 221 #[.agg #[.int .u32 y.a,.int .i64 y.n]] W (.string (bs (wrT y.a.toNat y.n.toNat)))):=fun W=>mB y.a y.n W HK.out.1.1.1 HK.out.1.1.2 HK.out.1.2.1 HK.out.1.2.2
        have HD:Hid (∀ W,Cr prog 222 #[.int .u32 y.a] W (.string (bs (dot y.a.toNat)))):=fun W=>iy y.a W HK.out.1.1.1 HK.out.1.1.2
        have z1:(bs (wrT y.a.toNat y.n.toNat)).size<=30:=by rw[aN];exact mY _ _ HK.out.1.1.1 HK.out.1.1.2 HK.out.1.2.1 HK.out.1.2.2
        have z2:(bs (dot y.a.toNat)).size<=20:=by rw[aN];exact io _ HK.out.1.1.1 HK.out.1.1.2
        have HU:Hid (∀ u,(if adr then dot y.a.toNat else wrT y.a.toNat y.n.toNat)=u->st++⟨#[32]⟩++bs u++⟨#[61]⟩++y.o=bs (cd (l.take (k+1)) a n adr)):=fun u hu=>by
          rw[HE.out,HI.out,xu];unfold l9;rw[hu]
        clear HY HN hq HC hrow HA HX
        cases adr with
        | true =>
          have HV:=HU.out _ rfl;replace HV:Hid (st++⟨#[32]⟩++bs (dot y.a.toNat)++⟨#[61]⟩++y.o=bs (cd (l.take (k+1)) a n true)):=HV;generalize bs (dot y.a.toNat)=u at z2 HD HV
          generalize bs (wrT y.a.toNat y.n.toNat)=u2 at z1 HT
          clear HU HE;go_wp2;go_region_held3 (fun w'=>w'.cell? ⟨g,k*3,none⟩=some (.int .u32 y.a)/\w'.cell? ⟨g,k*3+1,none⟩=some (.int .i64 y.n)/\w'.cell? ⟨w.heap.size,0,none⟩=some (.int .u32 a)/\w'.cell? ⟨w.heap.size,1,none⟩=some (.int .i64 n)) (go_keep) ((go_at_call 220;refine(HC2.out _).mono ?_;rintro e wq ⟨rfl,hbq⟩;replace r0:wq.cell? ⟨g,k*3,none⟩=some (.int .u32 y.a):=(hbq.cell (p:=⟨g,k*3,none⟩) (block_lt_of_cell r0)).trans r0;replace r1:wq.cell? ⟨g,k*3+1,none⟩=some (.int .i64 y.n):=(hbq.cell (p:=⟨g,k*3+1,none⟩) (block_lt_of_cell r1)).trans r1;replace r2:wq.cell? ⟨g,k*3+2,none⟩=some (.string y.o):=(hbq.cell (p:=⟨g,k*3+2,none⟩) (block_lt_of_cell r2)).trans r2;replace x0:wq.cell? ⟨w.heap.size,0,none⟩=some (.int .u32 a):=(hbq.cell (p:=⟨w.heap.size,0,none⟩) (block_lt_of_cell x0)).trans x0;replace x1:wq.cell? ⟨w.heap.size,1,none⟩=some (.int .i64 n):=(hbq.cell (p:=⟨w.heap.size,1,none⟩) (block_lt_of_cell x1)).trans x1;replace HB:Hid (Bl w wq):=(by first|exact HB.out.trans (hbq.mono HB.out.size)|exact HB.out.drew.trans (hbq.mono HB.out.size));clear hbq))
          all_goals (
            go_wp2_with (first|(go_at_call 221;refine(HT.out _).mono ?_;rintro e wq ⟨rfl,hbq⟩;replace r0:wq.cell? ⟨g,k*3,none⟩=some (.int .u32 y.a):=(hbq.cell (p:=⟨g,k*3,none⟩) (block_lt_of_cell r0)).trans r0;replace r1:wq.cell? ⟨g,k*3+1,none⟩=some (.int .i64 y.n):=(hbq.cell (p:=⟨g,k*3+1,none⟩) (block_lt_of_cell r1)).trans r1;replace r2:wq.cell? ⟨g,k*3+2,none⟩=some (.string y.o):=(hbq.cell (p:=⟨g,k*3+2,none⟩) (block_lt_of_cell r2)).trans r2;replace x0:wq.cell? ⟨w.heap.size,0,none⟩=some (.int .u32 a):=(hbq.cell (p:=⟨w.heap.size,0,none⟩) (block_lt_of_cell x0)).trans x0;replace x1:wq.cell? ⟨w.heap.size,1,none⟩=some (.int .i64 n):=(hbq.cell (p:=⟨w.heap.size,1,none⟩) (block_lt_of_cell x1)).trans x1;replace HB:Hid (Bl w wq):=(by first|exact HB.out.trans (hbq.mono HB.out.size)|exact HB.out.drew.trans (hbq.mono HB.out.size));clear hbq)|(go_at_call 222;refine(HD.out _).mono ?_;rintro e wq ⟨rfl,hbq⟩;replace r0:wq.cell? ⟨g,k*3,none⟩=some (.int .u32 y.a):=(hbq.cell (p:=⟨g,k*3,none⟩) (block_lt_of_cell r0)).trans r0;replace r1:wq.cell? ⟨g,k*3+1,none⟩=some (.int .i64 y.n):=(hbq.cell (p:=⟨g,k*3+1,none⟩) (block_lt_of_cell r1)).trans r1;replace r2:wq.cell? ⟨g,k*3+2,none⟩=some (.string y.o):=(hbq.cell (p:=⟨g,k*3+2,none⟩) (block_lt_of_cell r2)).trans r2;replace x0:wq.cell? ⟨w.heap.size,0,none⟩=some (.int .u32 a):=(hbq.cell (p:=⟨w.heap.size,0,none⟩) (block_lt_of_cell x0)).trans x0;replace x1:wq.cell? ⟨w.heap.size,1,none⟩=some (.int .i64 n):=(hbq.cell (p:=⟨w.heap.size,1,none⟩) (block_lt_of_cell x1)).trans x1;replace HB:Hid (Bl w wq):=(by first|exact HB.out.trans (hbq.mono HB.out.size)|exact HB.out.drew.trans (hbq.mono HB.out.size));clear hbq))
            go_roundw
            case rel=>exact⟨k+1,st++⟨#[32]⟩++u++⟨#[61]⟩++y.o,by omega,by simp only[ByteArray.size_append,show (⟨#[32]⟩:ByteArray).size=1 from rfl,show (⟨#[61]⟩:ByteArray).size=1 from rfl];omega,rfl,by go_num,HB.out,⟨x0,x1⟩,HV⟩
            case measure=>simp[intOf];omega)
        | false =>
          have HV:=HU.out _ rfl;replace HV:Hid (st++⟨#[32]⟩++bs (wrT y.a.toNat y.n.toNat)++⟨#[61]⟩++y.o=bs (cd (l.take (k+1)) a n false)):=HV;generalize bs (wrT y.a.toNat y.n.toNat)=u at z1 HT HV
          clear HU HE HD z2;go_wp2;go_region_held3 (fun w'=>w'.cell? ⟨g,k*3,none⟩=some (.int .u32 y.a)/\w'.cell? ⟨g,k*3+1,none⟩=some (.int .i64 y.n)/\w'.cell? ⟨w.heap.size,0,none⟩=some (.int .u32 a)/\w'.cell? ⟨w.heap.size,1,none⟩=some (.int .i64 n)) (go_keep) ((go_at_call 220;refine(HC2.out _).mono ?_;rintro e wq ⟨rfl,hbq⟩;replace r0:wq.cell? ⟨g,k*3,none⟩=some (.int .u32 y.a):=(hbq.cell (p:=⟨g,k*3,none⟩) (block_lt_of_cell r0)).trans r0;replace r1:wq.cell? ⟨g,k*3+1,none⟩=some (.int .i64 y.n):=(hbq.cell (p:=⟨g,k*3+1,none⟩) (block_lt_of_cell r1)).trans r1;replace r2:wq.cell? ⟨g,k*3+2,none⟩=some (.string y.o):=(hbq.cell (p:=⟨g,k*3+2,none⟩) (block_lt_of_cell r2)).trans r2;replace x0:wq.cell? ⟨w.heap.size,0,none⟩=some (.int .u32 a):=(hbq.cell (p:=⟨w.heap.size,0,none⟩) (block_lt_of_cell x0)).trans x0;replace x1:wq.cell? ⟨w.heap.size,1,none⟩=some (.int .i64 n):=(hbq.cell (p:=⟨w.heap.size,1,none⟩) (block_lt_of_cell x1)).trans x1;replace HB:Hid (Bl w wq):=(by first|exact HB.out.trans (hbq.mono HB.out.size)|exact HB.out.drew.trans (hbq.mono HB.out.size));clear hbq))
          all_goals (
            go_wp2_with (go_at_call 221;refine(HT.out _).mono ?_;rintro e wq ⟨rfl,hbq⟩;replace r0:wq.cell? ⟨g,k*3,none⟩=some (.int .u32 y.a):=(hbq.cell (p:=⟨g,k*3,none⟩) (block_lt_of_cell r0)).trans r0;replace r1:wq.cell? ⟨g,k*3+1,none⟩=some (.int .i64 y.n):=(hbq.cell (p:=⟨g,k*3+1,none⟩) (block_lt_of_cell r1)).trans r1;replace r2:wq.cell? ⟨g,k*3+2,none⟩=some (.string y.o):=(hbq.cell (p:=⟨g,k*3+2,none⟩) (block_lt_of_cell r2)).trans r2;replace x0:wq.cell? ⟨w.heap.size,0,none⟩=some (.int .u32 a):=(hbq.cell (p:=⟨w.heap.size,0,none⟩) (block_lt_of_cell x0)).trans x0;replace x1:wq.cell? ⟨w.heap.size,1,none⟩=some (.int .i64 n):=(hbq.cell (p:=⟨w.heap.size,1,none⟩) (block_lt_of_cell x1)).trans x1;replace HB:Hid (Bl w wq):=(by first|exact HB.out.trans (hbq.mono HB.out.size)|exact HB.out.drew.trans (hbq.mono HB.out.size));clear hbq)
            go_roundw
            case rel=>exact⟨k+1,st++⟨#[32]⟩++u++⟨#[61]⟩++y.o,by omega,by simp only[ByteArray.size_append,show (⟨#[32]⟩:ByteArray).size=1 from rfl,show (⟨#[61]⟩:ByteArray).size=1 from rfl];omega,rfl,by go_num,HB.out,⟨x0,x1⟩,HV⟩
            case measure=>simp[intOf];omega)
    . obtain rfl:k=l.length:=by omega
      clear hrow HA;have x0:=HX.out.1;have HV:Hid (st=bs (cd l a n adr)):=by have:=HI.out;rw[List.take_length] at this;exact this
      clear HI;go_wp2;go_ret;exact⟨gb HV.out,HB.out⟩
theorem wY {W:World} {B:Nat} {t:TypeId} {k:Nat} {v:Value} {n:Nat} {xs:List Value} (h:W.ownsRow B t k v n xs):W.ownsRow 0 t k v n xs:=⟨h.1,h.2.imp id fun ⟨g,cap,cur,h1,_,h3⟩=>⟨g,cap,cur,h1,Nat.zero_le _,h3⟩⟩
def lsH (l:Ls):Hd:=⟨l.a,32,l.o⟩
def HL (S:Nat->Prop) (B:Nat) (W:World) (v:Value) (l:List Hd):Prop:=W.ownsRow 0 282 3 v l.length (l.flatMap ak)/\∀ g,v.ownBlock=some g->S g\/B<=g
def RB (S:Nat->Prop) (B:Nat) (r:Nat) (s:Bk) (vt:Value) (W:World):Prop:=∃ vp vn vl,Blk W r #[vp,vn,vl,vt] 174/\HL S B W vp s.pools/\HL S B W vn s.nets/\HL S B W vl (s.leases.map lsH)
theorem gm {S:Nat->Prop} {B C:Nat} {W:World} {v:Value} {l:List Hd} (hB:B<=C) (h:W.ownsRow C 282 3 v l.length (l.flatMap ak)):HL S B W v l:=⟨wY h,fun g hg=>.inr (by
  rcases h.2 with⟨rfl,_⟩|⟨g',cap,cur,rfl,hb,_⟩
  . simp[Value.ownBlock] at hg
  . have:g'=g:=by simpa[Value.ownBlock] using hg
    omega)⟩
theorem HL.below {S:Nat->Prop} {B:Nat} {W W':World} {v:Value} {l:List Hd} (h:HL S B W v l) (hb:Bl W W'):HL S B W' v l:=⟨au h.1 hb,h.2⟩
theorem HL.rd {S:Nat->Prop} {B:Nat} {W:World} {v:Value} {l:List Hd} (h:HL S B W v l):Rd 3 ak hd0 W v l:=Rd.of_owns (k:=3) (enc:=ak) (fun _=>rfl) hd0 h.1
theorem HL.ne {S:Nat->Prop} {B:Nat} {W:World} {v:Value} {l:List Hd} {r:Nat} {cs:Array Value} (h:HL S B W v l) (hb:Blk W r cs 174):v.ownBlock≠some r:=fun e=>by
  rcases h.1.2 with⟨rfl,_⟩|⟨g,cap,cur,rfl,_,hg,_⟩
  . simp[Value.ownBlock] at e
  . obtain rfl:g=r:=by simpa[Value.ownBlock] using e
    unfold Blk at hb;rw[hb] at hg;simp at hg
theorem HL.set {S:Nat->Prop} {B:Nat} {W:World} {v:Value} {l:List Hd} {r i:Nat} {u:Value} {cs:Array Value} (h:HL S B W v l) (hb:Blk W r cs 174):HL S B (W.setCell ⟨r,i,none⟩ u) v l :=
  ⟨aK h.1 fun g hg=>Below.heap_setCell W ⟨r,i,none⟩ u g (fun e=>h.ne hb (by rw[hg];rw[show g=r from e])),h.2⟩
theorem RB.below {S:Nat->Prop} {B r:Nat} {s:Bk} {vt:Value} {W W':World} (h:RB S B r s vt W) (hb:Bl W W'):RB S B r s vt W':=by
  obtain⟨vp,vn,vl,h1,h2,h3,h4⟩:=h;exact⟨vp,vn,vl,h1.below hb,h2.below hb,h3.below hb,h4.below hb⟩
theorem dJ {W w3:World} {r i:Nat} {u:Value} (hb:Bl W w3):Chg (fun q=>q=r) W (w3.setCell ⟨r,i,none⟩ u) :=
  ⟨hb.os,hb.tape,hb.output,by simpa[World.setCell] using hb.size,fun g hg hn=>(Below.heap_setCell w3 ⟨r,i,none⟩ u g hn).trans (hb.block g hg)⟩
def MR (S:Nat->Prop) (B r:Nat) (vt:Value) (W:World) (res:Bk×ByteArray) (e:Ending) (W':World):Prop:=e=.returned (.string res.2)/\RB S B r res.1 vt W'/\Chg (fun q=>q=r) W W'
theorem bP {S:Nat->Prop} {B r:Nat} {s:Bk} {vt:Value} {W W':World} {t:ByteArray} (h:RB S B r s vt W) (hb:Bl W W'):MR S B r vt W (s,t) (.returned (.string t)) W':=⟨rfl,h.below hb,Chg.below hb⟩
def jk (s:Bk) (o:ByteArray) (a n:Int):Bk×ByteArray :=
  if n<8\/30<n then (s,⟨#[69,82,82,32,82,65,78,71,69]⟩) else if aU s.pools a n then (s,⟨#[69,82,82,32,79,86,69,82,76,65,80]⟩) else if 6<=s.pools.length then (s,⟨#[69,82,82,32,76,73,77,73,84]⟩)
  else ({ s with pools:=aV s.pools ⟨a,n,o⟩ },⟨#[79,75]⟩)
theorem wi (S:Nat->Prop) (B:Nat) (W:World) (HBz:Hid (B<=W.heap.size)) (r:Nat) (s:Bk) (vt:Value) (o:ByteArray) (a n:Int) (ha:ad a) (n0:0<=n) (n1:n<=32) (hl:s.pools.length<=1000) (hP:∀ h,h∈s.pools->cI h) (h:RB S B r s vt W) :
    Calls prog 186 #[.pointer (some ⟨r,0,none⟩),.string o,.agg #[.int .u32 a,.int .i64 n]] W (MR S B r vt W (jk s o a n)):=by
  have H:=h;have HH:Hid (RB S B r s vt W):=h
  obtain⟨vp,vn,vl,h1,h2,h3,h4⟩:=h;have rl:=h1.lt;obtain⟨bp,cp,rfl,_,_⟩:=ae h2.1;have HM:Hid (∀ V,Bl W V->Cr prog 225 #[.slice bp s.pools.length cp,.agg #[.int .u32 a,.int .i64 n]] V (.bool (aU s.pools a n))):=fun V hV=>ik s.pools a n _ V ha n0 n1 hP (h2.below hV).rd om
  have HW:Hid (∀ V,Bl W V->Calls prog 226 #[.slice bp s.pools.length cp,.agg #[.int .u32 a,.int .i64 n,.string o]] V fun e w'=>∃ v',e=.returned v'/\HL S B w' v' (aV s.pools ⟨a,n,o⟩)/\Bl V w'):=fun V hV=>(fF s.pools ⟨a,n,o⟩ _ V ha hP (h2.below hV).rd om).mono (fun e w' ⟨v',q1,q2,q3⟩=>⟨v',q1,gm (by have z1:=HBz.out;have z2:=hV.size;omega) q2,q3⟩)
  have HC:Hid (∀ V,Bl W V->V.cell? ⟨r,0,none⟩=some (.slice bp s.pools.length cp)/\V.frozen? ⟨r,0,none⟩=false/\r<V.heap.size):=fun V hV=>⟨(h1.below hV).cell 0,(h1.below hV).frozen 0,(h1.below hV).lt⟩
  have HF:Hid (∀ w3 v',HL S B w3 v' (aV s.pools ⟨a,n,o⟩)->Bl W w3->MR S B r vt W ({ s with pools:=aV s.pools ⟨a,n,o⟩ },⟨#[79,75]⟩) (.returned (.string ⟨#[79,75]⟩)) (w3.setCell ⟨r,0,none⟩ v')):=fun w3 v' q1 q2=>by
    have b3:=h1.below q2;exact⟨rfl,⟨v',vn,vl,b3.set 0 v',q1.set b3,(h3.below q2).set b3,(h4.below q2).set b3⟩,dJ q2⟩
  have c0:=(HC.out W (Below.refl _ _)).1
  clear h1 h2 h3 h4 hP H;unfold jk;by_cases k1:n<8\/30<n
  . rw[if_pos k1];rcases (show n<8\/(¬n<8/\30<n) by omega) with k2|⟨k2,k3⟩
    all_goals (
      clear HM HW HF k1;go_enter func186,ntmps186
      go_wp2;go_ret;exact bP HH.out upB)
  . rw[if_neg k1];have k2:¬n<8:=by omega
    have k3:¬30<n:=by omega
    clear k1;obtain⟨an,hA⟩:∃ an,aU s.pools a n=an:=⟨_,rfl⟩
    rw[hA] at HM ⊢;clear hA;obtain⟨res,hres⟩:∃ res,(if an=true then (s,(⟨#[69,82,82,32,79,86,69,82,76,65,80]⟩:ByteArray)) else if 6<=s.pools.length then (s,⟨#[69,82,82,32,76,73,77,73,84]⟩) else ({ s with pools:=aV s.pools ⟨a,n,o⟩ },⟨#[79,75]⟩))=res:=⟨_,rfl⟩
    rw[hres];have HR1:Hid (an=true->res=(s,⟨#[69,82,82,32,79,86,69,82,76,65,80]⟩)):=fun q=>by rw[<- hres,if_pos q]
    have HR2:Hid (an=false->6<=s.pools.length->res=(s,⟨#[69,82,82,32,76,73,77,73,84]⟩)):=fun q q2=>by rw[<- hres,if_neg (by rw[q];simp),if_pos q2]
    have HR3:Hid (an=false->¬6<=s.pools.length->res=({ s with pools:=aV s.pools ⟨a,n,o⟩ },⟨#[79,75]⟩)):=fun q q2=>by rw[<- hres,if_neg (by rw[q];simp),if_neg q2]
    clear hres;go_enter func186,ntmps186
    go_wp2;go_region_held3 (fun w'=>w'.cell? ⟨r,0,none⟩=some (.slice bp s.pools.length cp)/\w'.cell? ⟨W.heap.size,0,none⟩=some (.int .u32 a)/\w'.cell? ⟨W.heap.size,1,none⟩=some (.int .i64 n)) (go_keep) ((go_at_call 225;refine(HM.out _ upB).mono ?_;rintro e w2 ⟨rfl,hb2⟩;have HB2:Hid (Bl W w2):=bup upB hb2;have p0:w2.cell? ⟨W.heap.size,0,none⟩=some (.int .u32 a):=(hb2.cell (p:=⟨W.heap.size,0,none⟩) (by simp)).trans (by simp[go_sem]);have p1:w2.cell? ⟨W.heap.size,1,none⟩=some (.int .i64 n):=(hb2.cell (p:=⟨W.heap.size,1,none⟩) (by simp)).trans (by simp[go_sem]);obtain⟨q0,q1,q2⟩:=HC.out w2 HB2.out;clear hb2))
    all_goals (
      cases an with
      | true =>
        go_wp2_with fail
        go_ret;rw[HR1.out (by simp)]
        exact bP HH.out HB2.out
      | false =>
        by_cases k4:6<=s.pools.length
        . have k5:(6:Int)<=(s.pools.length:Int):=by omega
          go_wp2_with fail
          go_ret;rw[HR2.out (by simp) k4]
          exact bP HH.out HB2.out
        . have k5:¬(6:Int)<=(s.pools.length:Int):=by omega
          go_wp2_with fail
          go_region_with ((go_at_call 226;refine(HW.out _ (by have hh:=HB2.out;exact upB)).mono ?_;rintro e w3 ⟨v3,rfl,hv3,hb3⟩;obtain⟨b3,c3,rfl,_,_⟩:=ae hv3.1;have HB3:Hid (Bl W w3):=bup (W:=w2) HB2.out (by first|exact hb3|exact(Below.drew (Below.refl _ _)).trans hb3);have HV3:Hid (HL S B w3 (.slice b3 (aV s.pools ⟨a,n,o⟩).length c3) (aV s.pools ⟨a,n,o⟩)):=hv3;obtain⟨z0,z1,z2⟩:=HC.out w3 HB3.out;clear hb3 hv3))
          all_goals (
            go_wp2_with fail
            go_ret;rw[HR3.out (by simp) om]
            exact HF.out w3 _ HV3.out HB3.out))
def ia (s:Bk) (o:ByteArray) (a n:Int):Bk×ByteArray :=
  if ah s.pools a n<0 then (s,⟨#[69,82,82,32,80,79,79,76]⟩) else if ((s.pools).getD (ah s.pools a n).toNat hd0).o≠o then (s,⟨#[69,82,82,32,79,87,78,69,82]⟩) else if 0<di (s.nets) a n then (s,⟨#[69,82,82,32,66,85,83,89]⟩)
  else ({ s with pools:=az s.pools (ah s.pools a n).toNat },⟨#[79,75]⟩)
theorem wm (S:Nat->Prop) (B:Nat) (W:World) (HBz:Hid (B<=W.heap.size)) (r:Nat) (s:Bk) (vt:Value) (o:ByteArray) (a n:Int) (ha:ad a) (n0:0<=n) (n1:n<=32) (hl:(s.pools).length<=1000) (hj:(s.nets).length<=1000) (hP:∀ h,h∈s.pools->cI h) (hJ:∀ h,h∈s.nets->cI h) (h:RB S B r s vt W) :
    Calls prog 187 #[.pointer (some ⟨r,0,none⟩),.string o,.agg #[.int .u32 a,.int .i64 n]] W (MR S B r vt W (ia s o a n)):=by
  have HH:Hid (RB S B r s vt W):=h
  obtain⟨vp,vn,vl,h1,h2,h3,h4⟩:=h;have rl:=h1.lt;obtain⟨bp,cp,rfl,_,_⟩:=ae h2.1;obtain⟨bj,cj,rfl,_,_⟩:=ae h3.1;have HT:Hid (∀ V,Bl W V->Cr prog 182 #[.slice bp (s.pools).length cp,.agg #[.int .u32 a,.int .i64 n]] V (.int .i64 (ah s.pools a n))):=fun V hV=>eF s.pools a n _ V ha n0 n1 hP (h2.below hV).rd om
  have HI:Hid (∀ V,Bl W V->Cr prog 227 #[.slice bj (s.nets).length cj,.agg #[.int .u32 a,.int .i64 n]] V (.int .i64 (di (s.nets) a n))):=fun V hV=>kh (s.nets) a n _ V ha n0 n1 hJ (h3.below hV).rd om
  have HW:Hid (∀ (q:Nat) V,q<=1000000->Bl W V->Calls prog 228 #[.slice bp (s.pools).length cp,.int .i64 q] V fun e w'=>∃ v',e=.returned v'/\HL S B w' v' (az s.pools q)/\Bl V w'):=fun q V hq hV=>(fZ s.pools q _ V (h2.below hV).rd om hq).mono (fun e w' ⟨v',q1,q2,q3⟩=>⟨v',q1,gm (by have z1:=HBz.out;have z2:=hV.size;omega) q2,q3⟩)
  have HC:Hid (∀ V,Bl W V->V.cell? ⟨r,0,none⟩=some (.slice bp (s.pools).length cp)/\V.cell? ⟨r,1,none⟩=some (.slice bj (s.nets).length cj)/\V.frozen? ⟨r,0,none⟩=false/\r<V.heap.size):=fun V hV=>⟨(h1.below hV).cell 0,(h1.below hV).cell 1,(h1.below hV).frozen 0,(h1.below hV).lt⟩
  have HO:Hid (∀ k,k<(s.pools).length->∃ g,bp=some ⟨g,0,none⟩/\∀ V,Bl W V->V.cell? ⟨g,k*3+2,none⟩=some (.string ((s.pools).getD k hd0).o)):=fun k hk=>by
    obtain⟨b',c',e,_,_,k3⟩:=h2.rd
    cases e;obtain⟨g,hg,hlt,hc⟩:=k3 (by intro e;rw[e] at hk;simp at hk)
    exact⟨g,hg,fun V hV=>(hV.cell (p:=⟨g,k*3+2,none⟩) hlt).trans (hc k hk 2 _ rfl)⟩
  have HF:Hid (∀ (q:Nat) w3 v',HL S B w3 v' (az s.pools q)->Bl W w3->MR S B r vt W ({ s with pools:=az s.pools q },⟨#[79,75]⟩) (.returned (.string ⟨#[79,75]⟩)) (w3.setCell ⟨r,0,none⟩ v')):=fun q w3 v' q1 q2=>by
    have b3:=h1.below q2;exact⟨rfl,⟨v',_,_,b3.set 0 v',q1.set b3,(h3.below q2).set b3,(h4.below q2).set b3⟩,dJ q2⟩
  clear h1 h2 h3 h4 hP hJ;obtain⟨jl,hjl⟩:∃ jl,(s.nets).length=jl:=⟨_,rfl⟩
  rw[hjl] at HI HC;clear hjl;obtain⟨c0,cJ,_,_⟩:=HC.out W (Below.refl _ _)
  have hin0:Hid (0<=(di (s.nets) a n:Int)):=Int.natCast_nonneg _
  rcases aT (isH a n) s.pools hd0 with⟨e,_⟩|⟨k,hk,e,hp,_⟩
  . have e':ah s.pools a n=-1:=e
    rw[e'] at HT;unfold ia;rw[e',if_pos om];clear e e' HI HW HF HO;go_enter func187,ntmps187
    go_wp2;go_region_held3 (fun w'=>w'.cell? ⟨r,0,none⟩=some (.slice bp (s.pools).length cp)/\w'.cell? ⟨W.heap.size,0,none⟩=some (.int .u32 a)/\w'.cell? ⟨W.heap.size,1,none⟩=some (.int .i64 n)) (go_keep) ((go_at_call 182;refine(HT.out _ upB).mono ?_;rintro e w2 ⟨rfl,hb2⟩;have HB2:Hid (Bl W w2):=bup upB hb2;have p0:w2.cell? ⟨W.heap.size,0,none⟩=some (.int .u32 a):=(hb2.cell (p:=⟨W.heap.size,0,none⟩) (by simp)).trans (by simp[go_sem]);have p1:w2.cell? ⟨W.heap.size,1,none⟩=some (.int .i64 n):=(hb2.cell (p:=⟨W.heap.size,1,none⟩) (by simp)).trans (by simp[go_sem]);obtain⟨y0,yj,y1,y2⟩:=HC.out w2 HB2.out;clear hb2))
    all_goals (
      go_wp2_with fail
      go_ret;exact bP HH.out HB2.out)
  . have e':ah s.pools a n=(k:Int):=e
    rw[e'] at HT;unfold ia;rw[e',if_neg om,Int.toNat_natCast];obtain⟨g,rfl,ho⟩:=HO.out k hk;have HO2:Hid (∀ V,Bl W V->V.cell? ⟨g,k*3+2,none⟩=some (.string ((s.pools).getD k hd0).o)):=ho
    have HWk:Hid (∀ V,Bl W V->Calls prog 228 #[.slice (some ⟨g,0,none⟩) (s.pools).length cp,.int .i64 k] V fun e w'=>∃ v',e=.returned v'/\HL S B w' v' (az s.pools k)/\Bl V w'):=fun V hV=>HW.out k V om hV
    have HFk:Hid (∀ w3 v',HL S B w3 v' (az s.pools k)->Bl W w3->MR S B r vt W ({ s with pools:=az s.pools k },⟨#[79,75]⟩) (.returned (.string ⟨#[79,75]⟩)) (w3.setCell ⟨r,0,none⟩ v')):=fun w3 v' q1 q2=>HF.out k w3 v' q1 q2
    obtain⟨ow,how⟩:∃ ow,((s.pools).getD k hd0).o=ow:=⟨_,rfl⟩
    rw[how] at HO2 ⊢;obtain⟨ni,hni⟩:∃ ni,di (s.nets) a n=ni:=⟨_,rfl⟩
    rw[hni] at HI ⊢;have hkz:(k:Int)<((s.pools).length:Int):=by omega
    clear e e' HO HW HF ho hp how hni hin0;by_cases k1:ow=o
    . have q2:(ow.toList==o.toList)=true:=(Lib.bytes_beq_iff ow o).2 k1
      rw[if_neg (by simpa using k1)]
      by_cases k2:0<ni
      . rw[if_pos k2];have k3:(0:Int)<(ni:Int):=by omega
        have HK1:Hid (ow=o):=k1
        clear HWk HFk k1;go_enter func187,ntmps187
        go_wp2;go_region_held3 (fun w'=>w'.cell? ⟨r,0,none⟩=some (.slice (some ⟨g,0,none⟩) (s.pools).length cp)/\w'.cell? ⟨W.heap.size,0,none⟩=some (.int .u32 a)/\w'.cell? ⟨W.heap.size,1,none⟩=some (.int .i64 n)) (go_keep) ((go_at_call 182;refine(HT.out _ upB).mono ?_;rintro e w2 ⟨rfl,hb2⟩;have HB2:Hid (Bl W w2):=bup upB hb2;have p0:w2.cell? ⟨W.heap.size,0,none⟩=some (.int .u32 a):=(hb2.cell (p:=⟨W.heap.size,0,none⟩) (by simp)).trans (by simp[go_sem]);have p1:w2.cell? ⟨W.heap.size,1,none⟩=some (.int .i64 n):=(hb2.cell (p:=⟨W.heap.size,1,none⟩) (by simp)).trans (by simp[go_sem]);obtain⟨y0,yj,y1,y2⟩:=HC.out w2 HB2.out;have yo:=HO2.out w2 HB2.out;clear hb2))
        all_goals (
          go_wp2_with fail
          go_region_held3 (fun w'=>w'.cell? ⟨r,1,none⟩=some (.slice bj jl cj)/\w'.cell? ⟨W.heap.size,0,none⟩=some (.int .u32 a)/\w'.cell? ⟨W.heap.size,1,none⟩=some (.int .i64 n)) (go_keep) ((go_at_call 227;refine(HI.out _ (by have hh:=HB2.out;exact upB)).mono ?_;rintro e w3 ⟨rfl,hb3⟩;have HB3:Hid (Bl W w3):=bup (W:=w2) HB2.out (by first|exact hb3|exact(Below.drew (Below.refl _ _)).trans hb3);have p2:w3.cell? ⟨W.heap.size,0,none⟩=some (.int .u32 a):=(hb3.cell (p:=⟨W.heap.size,0,none⟩) (block_lt_of_cell p0)).trans p0;have p3:w3.cell? ⟨W.heap.size,1,none⟩=some (.int .i64 n):=(hb3.cell (p:=⟨W.heap.size,1,none⟩) (block_lt_of_cell p1)).trans p1;obtain⟨y0,yj,y1,y2⟩:=HC.out w3 HB3.out;clear hb3))
          all_goals (
            go_wp2_with fail
            go_ret;exact bP HH.out HB3.out))
      . rw[if_neg k2];have k3:¬(0:Int)<(ni:Int):=by omega
        have HK1:Hid (ow=o):=k1
        clear k1;go_enter func187,ntmps187
        go_wp2;go_region_held3 (fun w'=>w'.cell? ⟨r,0,none⟩=some (.slice (some ⟨g,0,none⟩) (s.pools).length cp)/\w'.cell? ⟨W.heap.size,0,none⟩=some (.int .u32 a)/\w'.cell? ⟨W.heap.size,1,none⟩=some (.int .i64 n)) (go_keep) ((go_at_call 182;refine(HT.out _ upB).mono ?_;rintro e w2 ⟨rfl,hb2⟩;have HB2:Hid (Bl W w2):=bup upB hb2;have p0:w2.cell? ⟨W.heap.size,0,none⟩=some (.int .u32 a):=(hb2.cell (p:=⟨W.heap.size,0,none⟩) (by simp)).trans (by simp[go_sem]);have p1:w2.cell? ⟨W.heap.size,1,none⟩=some (.int .i64 n):=(hb2.cell (p:=⟨W.heap.size,1,none⟩) (by simp)).trans (by simp[go_sem]);obtain⟨y0,yj,y1,y2⟩:=HC.out w2 HB2.out;have yo:=HO2.out w2 HB2.out;clear hb2))
        all_goals (
          go_wp2_with fail
          go_region_held3 (fun w'=>w'.cell? ⟨r,1,none⟩=some (.slice bj jl cj)/\w'.cell? ⟨W.heap.size,0,none⟩=some (.int .u32 a)/\w'.cell? ⟨W.heap.size,1,none⟩=some (.int .i64 n)) (go_keep) ((go_at_call 227;refine(HI.out _ (by have hh:=HB2.out;exact upB)).mono ?_;rintro e w3 ⟨rfl,hb3⟩;have HB3:Hid (Bl W w3):=bup (W:=w2) HB2.out (by first|exact hb3|exact(Below.drew (Below.refl _ _)).trans hb3);have p2:w3.cell? ⟨W.heap.size,0,none⟩=some (.int .u32 a):=(hb3.cell (p:=⟨W.heap.size,0,none⟩) (block_lt_of_cell p0)).trans p0;have p3:w3.cell? ⟨W.heap.size,1,none⟩=some (.int .i64 n):=(hb3.cell (p:=⟨W.heap.size,1,none⟩) (block_lt_of_cell p1)).trans p1;obtain⟨y0,yj,y1,y2⟩:=HC.out w3 HB3.out;clear hb3))
          all_goals (
            go_wp2_with ((go_at_call 228;refine(HWk.out _ (by have hh:=HB3.out;exact upB)).mono ?_;rintro e w4 ⟨v4,rfl,hv4,hb4⟩;obtain⟨b4,c4,rfl,_,_⟩:=ae hv4.1;have HB4:Hid (Bl W w4):=bup (W:=w3) HB3.out (by first|exact hb4|exact(Below.drew (Below.refl _ _)).trans hb4);have HV4:Hid (HL S B w4 (.slice b4 (az s.pools k).length c4) (az s.pools k)):=hv4;obtain⟨z0,zj,z1,z2⟩:=HC.out w4 HB4.out;clear hb4 hv4))
            go_ret;exact HFk.out w4 _ HV4.out HB4.out))
    . have q2:(ow.toList==o.toList)=false:=(Lib.bytes_beq_false_iff ow o).2 k1
      rw[if_pos k1];clear HI HWk HFk k1;go_enter func187,ntmps187
      go_wp2;go_region_held3 (fun w'=>w'.cell? ⟨r,0,none⟩=some (.slice (some ⟨g,0,none⟩) (s.pools).length cp)/\w'.cell? ⟨W.heap.size,0,none⟩=some (.int .u32 a)/\w'.cell? ⟨W.heap.size,1,none⟩=some (.int .i64 n)) (go_keep) ((go_at_call 182;refine(HT.out _ upB).mono ?_;rintro e w2 ⟨rfl,hb2⟩;have HB2:Hid (Bl W w2):=bup upB hb2;have p0:w2.cell? ⟨W.heap.size,0,none⟩=some (.int .u32 a):=(hb2.cell (p:=⟨W.heap.size,0,none⟩) (by simp)).trans (by simp[go_sem]);have p1:w2.cell? ⟨W.heap.size,1,none⟩=some (.int .i64 n):=(hb2.cell (p:=⟨W.heap.size,1,none⟩) (by simp)).trans (by simp[go_sem]);obtain⟨y0,yj,y1,y2⟩:=HC.out w2 HB2.out;have yo:=HO2.out w2 HB2.out;clear hb2))
      all_goals (
        go_wp2_with fail
        go_ret;exact bP HH.out HB2.out)
def dq (s:Bk) (o:ByteArray) (a n:Int):Bk×ByteArray :=
  if ah s.nets a n<0 then (s,⟨#[69,82,82,32,78,69,84]⟩) else if ((s.nets).getD (ah s.nets a n).toNat hd0).o≠o then (s,⟨#[69,82,82,32,79,87,78,69,82]⟩) else if 0<di (s.leases.map lsH) a n then (s,⟨#[69,82,82,32,66,85,83,89]⟩)
  else ({ s with nets:=az s.nets (ah s.nets a n).toNat },⟨#[79,75]⟩)
theorem nV (S:Nat->Prop) (B:Nat) (W:World) (HBz:Hid (B<=W.heap.size)) (r:Nat) (s:Bk) (vt:Value) (o:ByteArray) (a n:Int) (ha:ad a) (n0:0<=n) (n1:n<=32) (hl:(s.nets).length<=1000) (hj:(s.leases.map lsH).length<=1000) (hP:∀ h,h∈s.nets->cI h) (hJ:∀ h,h∈s.leases.map lsH->cI h) (h:RB S B r s vt W) :
    Calls prog 190 #[.pointer (some ⟨r,0,none⟩),.string o,.agg #[.int .u32 a,.int .i64 n]] W (MR S B r vt W (dq s o a n)):=by
  have HH:Hid (RB S B r s vt W):=h
  obtain⟨vp,vn,vl,h1,h2,h3,h4⟩:=h;have rl:=h1.lt;obtain⟨bp,cp,rfl,_,_⟩:=ae h3.1;obtain⟨bj,cj,rfl,_,_⟩:=ae h4.1;have HT:Hid (∀ V,Bl W V->Cr prog 182 #[.slice bp (s.nets).length cp,.agg #[.int .u32 a,.int .i64 n]] V (.int .i64 (ah s.nets a n))):=fun V hV=>eF s.nets a n _ V ha n0 n1 hP (h3.below hV).rd om
  have HI:Hid (∀ V,Bl W V->Cr prog 227 #[.slice bj (s.leases.map lsH).length cj,.agg #[.int .u32 a,.int .i64 n]] V (.int .i64 (di (s.leases.map lsH) a n))):=fun V hV=>kh (s.leases.map lsH) a n _ V ha n0 n1 hJ (h4.below hV).rd om
  have HW:Hid (∀ (q:Nat) V,q<=1000000->Bl W V->Calls prog 228 #[.slice bp (s.nets).length cp,.int .i64 q] V fun e w'=>∃ v',e=.returned v'/\HL S B w' v' (az s.nets q)/\Bl V w'):=fun q V hq hV=>(fZ s.nets q _ V (h3.below hV).rd om hq).mono (fun e w' ⟨v',q1,q2,q3⟩=>⟨v',q1,gm (by have z1:=HBz.out;have z2:=hV.size;omega) q2,q3⟩)
  have HC:Hid (∀ V,Bl W V->V.cell? ⟨r,1,none⟩=some (.slice bp (s.nets).length cp)/\V.cell? ⟨r,2,none⟩=some (.slice bj (s.leases.map lsH).length cj)/\V.frozen? ⟨r,1,none⟩=false/\r<V.heap.size):=fun V hV=>⟨(h1.below hV).cell 1,(h1.below hV).cell 2,(h1.below hV).frozen 1,(h1.below hV).lt⟩
  have HO:Hid (∀ k,k<(s.nets).length->∃ g,bp=some ⟨g,0,none⟩/\∀ V,Bl W V->V.cell? ⟨g,k*3+2,none⟩=some (.string ((s.nets).getD k hd0).o)):=fun k hk=>by
    obtain⟨b',c',e,_,_,k3⟩:=h3.rd
    cases e;obtain⟨g,hg,hlt,hc⟩:=k3 (by intro e;rw[e] at hk;simp at hk)
    exact⟨g,hg,fun V hV=>(hV.cell (p:=⟨g,k*3+2,none⟩) hlt).trans (hc k hk 2 _ rfl)⟩
  have HF:Hid (∀ (q:Nat) w3 v',HL S B w3 v' (az s.nets q)->Bl W w3->MR S B r vt W ({ s with nets:=az s.nets q },⟨#[79,75]⟩) (.returned (.string ⟨#[79,75]⟩)) (w3.setCell ⟨r,1,none⟩ v')):=fun q w3 v' q1 q2=>by
    have b3:=h1.below q2;exact⟨rfl,⟨vp,v',_,b3.set 1 v',(h2.below q2).set b3,q1.set b3,(h4.below q2).set b3⟩,dJ q2⟩
  clear h1 h2 h3 h4 hP hJ;obtain⟨jl,hjl⟩:∃ jl,(s.leases.map lsH).length=jl:=⟨_,rfl⟩
  rw[hjl] at HI HC;clear hjl;obtain⟨c0,cJ,_,_⟩:=HC.out W (Below.refl _ _)
  have hin0:Hid (0<=(di (s.leases.map lsH) a n:Int)):=Int.natCast_nonneg _
  rcases aT (isH a n) s.nets hd0 with⟨e,_⟩|⟨k,hk,e,hp,_⟩
  . have e':ah s.nets a n=-1:=e
    rw[e'] at HT;unfold dq;rw[e',if_pos om];clear e e' HI HW HF HO;go_enter func190,ntmps190
    go_wp2;go_region_held3 (fun w'=>w'.cell? ⟨r,1,none⟩=some (.slice bp (s.nets).length cp)/\w'.cell? ⟨W.heap.size,0,none⟩=some (.int .u32 a)/\w'.cell? ⟨W.heap.size,1,none⟩=some (.int .i64 n)) (go_keep) ((go_at_call 182;refine(HT.out _ upB).mono ?_;rintro e w2 ⟨rfl,hb2⟩;have HB2:Hid (Bl W w2):=bup upB hb2;have p0:w2.cell? ⟨W.heap.size,0,none⟩=some (.int .u32 a):=(hb2.cell (p:=⟨W.heap.size,0,none⟩) (by simp)).trans (by simp[go_sem]);have p1:w2.cell? ⟨W.heap.size,1,none⟩=some (.int .i64 n):=(hb2.cell (p:=⟨W.heap.size,1,none⟩) (by simp)).trans (by simp[go_sem]);obtain⟨y0,yj,y1,y2⟩:=HC.out w2 HB2.out;clear hb2))
    all_goals (
      go_wp2_with fail
      go_ret;exact bP HH.out HB2.out)
  . have e':ah s.nets a n=(k:Int):=e
    rw[e'] at HT;unfold dq;rw[e',if_neg om,Int.toNat_natCast];obtain⟨g,rfl,ho⟩:=HO.out k hk;have HO2:Hid (∀ V,Bl W V->V.cell? ⟨g,k*3+2,none⟩=some (.string ((s.nets).getD k hd0).o)):=ho
    have HWk:Hid (∀ V,Bl W V->Calls prog 228 #[.slice (some ⟨g,0,none⟩) (s.nets).length cp,.int .i64 k] V fun e w'=>∃ v',e=.returned v'/\HL S B w' v' (az s.nets k)/\Bl V w'):=fun V hV=>HW.out k V om hV
    have HFk:Hid (∀ w3 v',HL S B w3 v' (az s.nets k)->Bl W w3->MR S B r vt W ({ s with nets:=az s.nets k },⟨#[79,75]⟩) (.returned (.string ⟨#[79,75]⟩)) (w3.setCell ⟨r,1,none⟩ v')):=fun w3 v' q1 q2=>HF.out k w3 v' q1 q2
    obtain⟨ow,how⟩:∃ ow,((s.nets).getD k hd0).o=ow:=⟨_,rfl⟩
    rw[how] at HO2 ⊢;obtain⟨ni,hni⟩:∃ ni,di (s.leases.map lsH) a n=ni:=⟨_,rfl⟩
    rw[hni] at HI ⊢;have hkz:(k:Int)<((s.nets).length:Int):=by omega
    clear e e' HO HW HF ho hp how hni hin0;by_cases k1:ow=o
    . have q2:(ow.toList==o.toList)=true:=(Lib.bytes_beq_iff ow o).2 k1
      rw[if_neg (by simpa using k1)]
      by_cases k2:0<ni
      . rw[if_pos k2];have k3:(0:Int)<(ni:Int):=by omega
        have HK1:Hid (ow=o):=k1
        clear HWk HFk k1;go_enter func190,ntmps190
        go_wp2;go_region_held3 (fun w'=>w'.cell? ⟨r,1,none⟩=some (.slice (some ⟨g,0,none⟩) (s.nets).length cp)/\w'.cell? ⟨W.heap.size,0,none⟩=some (.int .u32 a)/\w'.cell? ⟨W.heap.size,1,none⟩=some (.int .i64 n)) (go_keep) ((go_at_call 182;refine(HT.out _ upB).mono ?_;rintro e w2 ⟨rfl,hb2⟩;have HB2:Hid (Bl W w2):=bup upB hb2;have p0:w2.cell? ⟨W.heap.size,0,none⟩=some (.int .u32 a):=(hb2.cell (p:=⟨W.heap.size,0,none⟩) (by simp)).trans (by simp[go_sem]);have p1:w2.cell? ⟨W.heap.size,1,none⟩=some (.int .i64 n):=(hb2.cell (p:=⟨W.heap.size,1,none⟩) (by simp)).trans (by simp[go_sem]);obtain⟨y0,yj,y1,y2⟩:=HC.out w2 HB2.out;have yo:=HO2.out w2 HB2.out;clear hb2))
        all_goals (
          go_wp2_with fail
          go_region_held3 (fun w'=>w'.cell? ⟨r,2,none⟩=some (.slice bj jl cj)/\w'.cell? ⟨W.heap.size,0,none⟩=some (.int .u32 a)/\w'.cell? ⟨W.heap.size,1,none⟩=some (.int .i64 n)) (go_keep) ((go_at_call 227;refine(HI.out _ (by have hh:=HB2.out;exact upB)).mono ?_;rintro e w3 ⟨rfl,hb3⟩;have HB3:Hid (Bl W w3):=bup (W:=w2) HB2.out (by first|exact hb3|exact(Below.drew (Below.refl _ _)).trans hb3);have p2:w3.cell? ⟨W.heap.size,0,none⟩=some (.int .u32 a):=(hb3.cell (p:=⟨W.heap.size,0,none⟩) (block_lt_of_cell p0)).trans p0;have p3:w3.cell? ⟨W.heap.size,1,none⟩=some (.int .i64 n):=(hb3.cell (p:=⟨W.heap.size,1,none⟩) (block_lt_of_cell p1)).trans p1;obtain⟨y0,yj,y1,y2⟩:=HC.out w3 HB3.out;clear hb3))
          all_goals (
            go_wp2_with fail
            go_ret;exact bP HH.out HB3.out))
      . rw[if_neg k2];have k3:¬(0:Int)<(ni:Int):=by omega
        have HK1:Hid (ow=o):=k1
        clear k1;go_enter func190,ntmps190
        go_wp2;go_region_held3 (fun w'=>w'.cell? ⟨r,1,none⟩=some (.slice (some ⟨g,0,none⟩) (s.nets).length cp)/\w'.cell? ⟨W.heap.size,0,none⟩=some (.int .u32 a)/\w'.cell? ⟨W.heap.size,1,none⟩=some (.int .i64 n)) (go_keep) ((go_at_call 182;refine(HT.out _ upB).mono ?_;rintro e w2 ⟨rfl,hb2⟩;have HB2:Hid (Bl W w2):=bup upB hb2;have p0:w2.cell? ⟨W.heap.size,0,none⟩=some (.int .u32 a):=(hb2.cell (p:=⟨W.heap.size,0,none⟩) (by simp)).trans (by simp[go_sem]);have p1:w2.cell? ⟨W.heap.size,1,none⟩=some (.int .i64 n):=(hb2.cell (p:=⟨W.heap.size,1,none⟩) (by simp)).trans (by simp[go_sem]);obtain⟨y0,yj,y1,y2⟩:=HC.out w2 HB2.out;have yo:=HO2.out w2 HB2.out;clear hb2))
        all_goals (
          go_wp2_with fail
          go_region_held3 (fun w'=>w'.cell? ⟨r,2,none⟩=some (.slice bj jl cj)/\w'.cell? ⟨W.heap.size,0,none⟩=some (.int .u32 a)/\w'.cell? ⟨W.heap.size,1,none⟩=some (.int .i64 n)) (go_keep) ((go_at_call 227;refine(HI.out _ (by have hh:=HB2.out;exact upB)).mono ?_;rintro e w3 ⟨rfl,hb3⟩;have HB3:Hid (Bl W w3):=bup (W:=w2) HB2.out (by first|exact hb3|exact(Below.drew (Below.refl _ _)).trans hb3);have p2:w3.cell? ⟨W.heap.size,0,none⟩=some (.int .u32 a):=(hb3.cell (p:=⟨W.heap.size,0,none⟩) (block_lt_of_cell p0)).trans p0;have p3:w3.cell? ⟨W.heap.size,1,none⟩=some (.int .i64 n):=(hb3.cell (p:=⟨W.heap.size,1,none⟩) (block_lt_of_cell p1)).trans p1;obtain⟨y0,yj,y1,y2⟩:=HC.out w3 HB3.out;clear hb3))
          all_goals (
            go_wp2_with ((go_at_call 228;refine(HWk.out _ (by have hh:=HB3.out;exact upB)).mono ?_;rintro e w4 ⟨v4,rfl,hv4,hb4⟩;obtain⟨b4,c4,rfl,_,_⟩:=ae hv4.1;have HB4:Hid (Bl W w4):=bup (W:=w3) HB3.out (by first|exact hb4|exact(Below.drew (Below.refl _ _)).trans hb4);have HV4:Hid (HL S B w4 (.slice b4 (az s.nets k).length c4) (az s.nets k)):=hv4;obtain⟨z0,zj,z1,z2⟩:=HC.out w4 HB4.out;clear hb4 hv4))
            go_ret;exact HFk.out w4 _ HV4.out HB4.out))
    . have q2:(ow.toList==o.toList)=false:=(Lib.bytes_beq_false_iff ow o).2 k1
      rw[if_pos k1];clear HI HWk HFk k1;go_enter func190,ntmps190
      go_wp2;go_region_held3 (fun w'=>w'.cell? ⟨r,1,none⟩=some (.slice (some ⟨g,0,none⟩) (s.nets).length cp)/\w'.cell? ⟨W.heap.size,0,none⟩=some (.int .u32 a)/\w'.cell? ⟨W.heap.size,1,none⟩=some (.int .i64 n)) (go_keep) ((go_at_call 182;refine(HT.out _ upB).mono ?_;rintro e w2 ⟨rfl,hb2⟩;have HB2:Hid (Bl W w2):=bup upB hb2;have p0:w2.cell? ⟨W.heap.size,0,none⟩=some (.int .u32 a):=(hb2.cell (p:=⟨W.heap.size,0,none⟩) (by simp)).trans (by simp[go_sem]);have p1:w2.cell? ⟨W.heap.size,1,none⟩=some (.int .i64 n):=(hb2.cell (p:=⟨W.heap.size,1,none⟩) (by simp)).trans (by simp[go_sem]);obtain⟨y0,yj,y1,y2⟩:=HC.out w2 HB2.out;have yo:=HO2.out w2 HB2.out;clear hb2))
      all_goals (
        go_wp2_with fail
        go_ret;exact bP HH.out HB2.out)
def fU (s:Bk) (o:ByteArray) (a n:Int):Bk×ByteArray :=
  if n<22 then (s,⟨#[69,82,82,32,82,65,78,71,69]⟩) else if dt s.pools a n<0 then (s,⟨#[69,82,82,32,80,79,79,76]⟩) else if aU s.nets a n=true then (s,⟨#[69,82,82,32,79,86,69,82,76,65,80]⟩) else if 24<=s.nets.length then (s,⟨#[69,82,82,32,76,73,77,73,84]⟩)
  else ({ s with nets:=aV s.nets ⟨a,n,o⟩ },⟨#[79,75]⟩)
theorem rS (S:Nat->Prop) (B:Nat) (W:World) (HBz:Hid (B<=W.heap.size)) (r:Nat) (s:Bk) (vt:Value) (o:ByteArray) (a n:Int) (ha:ad a) (n0:0<=n) (n1:n<=32) (hl:s.pools.length<=1000) (hm:s.nets.length<=1000) (hP:∀ h,h∈s.pools->cI h) (hN:∀ h,h∈s.nets->cI h) (h:RB S B r s vt W) :
    Calls prog 189 #[.pointer (some ⟨r,0,none⟩),.string o,.agg #[.int .u32 a,.int .i64 n]] W (MR S B r vt W (fU s o a n)):=by
  have HH:Hid (RB S B r s vt W):=h
  obtain⟨vp,vn,vl,h1,h2,h3,h4⟩:=h;have rl:=h1.lt;obtain⟨bp,cp,rfl,_,_⟩:=ae h2.1;obtain⟨bn,cn,rfl,_,_⟩:=ae h3.1;have HA:Hid (∀ V,Bl W V->Cr prog 230 #[.slice bp s.pools.length cp,.agg #[.int .u32 a,.int .i64 n]] V (.int .i64 (dt s.pools a n))):=fun V hV=>kc s.pools a n _ V ha n0 n1 hP (h2.below hV).rd om
  have HM:Hid (∀ V,Bl W V->Cr prog 225 #[.slice bn s.nets.length cn,.agg #[.int .u32 a,.int .i64 n]] V (.bool (aU s.nets a n))):=fun V hV=>ik s.nets a n _ V ha n0 n1 hN (h3.below hV).rd om
  have HW:Hid (∀ V,Bl W V->Calls prog 226 #[.slice bn s.nets.length cn,.agg #[.int .u32 a,.int .i64 n,.string o]] V fun e w'=>∃ v',e=.returned v'/\HL S B w' v' (aV s.nets ⟨a,n,o⟩)/\Bl V w'):=fun V hV=>(fF s.nets ⟨a,n,o⟩ _ V ha hN (h3.below hV).rd om).mono (fun e w' ⟨v',q1,q2,q3⟩=>⟨v',q1,gm (by have z1:=HBz.out;have z2:=hV.size;omega) q2,q3⟩)
  have HC:Hid (∀ V,Bl W V->V.cell? ⟨r,0,none⟩=some (.slice bp s.pools.length cp)/\V.cell? ⟨r,1,none⟩=some (.slice bn s.nets.length cn)/\V.frozen? ⟨r,1,none⟩=false/\r<V.heap.size):=fun V hV=>⟨(h1.below hV).cell 0,(h1.below hV).cell 1,(h1.below hV).frozen 1,(h1.below hV).lt⟩
  have HF:Hid (∀ w3 v',HL S B w3 v' (aV s.nets ⟨a,n,o⟩)->Bl W w3->MR S B r vt W ({ s with nets:=aV s.nets ⟨a,n,o⟩ },⟨#[79,75]⟩) (.returned (.string ⟨#[79,75]⟩)) (w3.setCell ⟨r,1,none⟩ v')):=fun w3 v' q1 q2=>by
    have b3:=h1.below q2;exact⟨rfl,⟨_,v',vl,b3.set 1 v',(h2.below q2).set b3,q1.set b3,(h4.below q2).set b3⟩,dJ q2⟩
  obtain⟨c0,cj,_,_⟩:=HC.out W (Below.refl _ _)
  clear h1 h2 h3 h4 hP hN;unfold fU;by_cases k1:n<22
  . rw[if_pos k1];clear HM HW HF HA;go_enter func189,ntmps189
    go_wp2;go_ret;exact bP HH.out upB
  . rw[if_neg k1];obtain⟨ar,hAr⟩:∃ ar,dt s.pools a n=ar:=⟨_,rfl⟩
    rw[hAr] at HA ⊢;clear hAr;by_cases k2:ar<0
    . rw[if_pos k2];clear HM HW HF;go_enter func189,ntmps189
      go_wp2;go_region_held3 (fun w'=>w'.cell? ⟨r,0,none⟩=some (.slice bp s.pools.length cp)/\w'.cell? ⟨W.heap.size,0,none⟩=some (.int .u32 a)/\w'.cell? ⟨W.heap.size,1,none⟩=some (.int .i64 n)) (go_keep) ((go_at_call 230;refine(HA.out _ upB).mono ?_;rintro e w2 ⟨rfl,hb2⟩;have HB2:Hid (Bl W w2):=bup upB hb2;have p0:w2.cell? ⟨W.heap.size,0,none⟩=some (.int .u32 a):=(hb2.cell (p:=⟨W.heap.size,0,none⟩) (by simp)).trans (by simp[go_sem]);have p1:w2.cell? ⟨W.heap.size,1,none⟩=some (.int .i64 n):=(hb2.cell (p:=⟨W.heap.size,1,none⟩) (by simp)).trans (by simp[go_sem]);obtain⟨y0,yj,y1,y2⟩:=HC.out w2 HB2.out;clear hb2))
      all_goals (
        go_wp2_with fail
        go_ret;exact bP HH.out HB2.out)
    . rw[if_neg k2];obtain⟨an,hAn⟩:∃ an,aU s.nets a n=an:=⟨_,rfl⟩
      rw[hAn] at HM ⊢;clear hAn;obtain⟨res,hres⟩:∃ res,(if an=true then (s,(⟨#[69,82,82,32,79,86,69,82,76,65,80]⟩:ByteArray)) else if 24<=s.nets.length then (s,⟨#[69,82,82,32,76,73,77,73,84]⟩) else ({ s with nets:=aV s.nets ⟨a,n,o⟩ },⟨#[79,75]⟩))=res:=⟨_,rfl⟩
      rw[hres];have HR1:Hid (an=true->res=(s,⟨#[69,82,82,32,79,86,69,82,76,65,80]⟩)):=fun q=>by rw[<- hres,if_pos q]
      have HR2:Hid (an=false->24<=s.nets.length->res=(s,⟨#[69,82,82,32,76,73,77,73,84]⟩)):=fun q q2=>by rw[<- hres,if_neg (by rw[q];simp),if_pos q2]
      have HR3:Hid (an=false->¬24<=s.nets.length->res=({ s with nets:=aV s.nets ⟨a,n,o⟩ },⟨#[79,75]⟩)):=fun q q2=>by rw[<- hres,if_neg (by rw[q];simp),if_neg q2]
      clear hres;go_enter func189,ntmps189
      go_wp2;go_region_held3 (fun w'=>w'.cell? ⟨r,0,none⟩=some (.slice bp s.pools.length cp)/\w'.cell? ⟨W.heap.size,0,none⟩=some (.int .u32 a)/\w'.cell? ⟨W.heap.size,1,none⟩=some (.int .i64 n)) (go_keep) ((go_at_call 230;refine(HA.out _ upB).mono ?_;rintro e w2 ⟨rfl,hb2⟩;have HB2:Hid (Bl W w2):=bup upB hb2;have p0:w2.cell? ⟨W.heap.size,0,none⟩=some (.int .u32 a):=(hb2.cell (p:=⟨W.heap.size,0,none⟩) (by simp)).trans (by simp[go_sem]);have p1:w2.cell? ⟨W.heap.size,1,none⟩=some (.int .i64 n):=(hb2.cell (p:=⟨W.heap.size,1,none⟩) (by simp)).trans (by simp[go_sem]);obtain⟨y0,yj,y1,y2⟩:=HC.out w2 HB2.out;clear hb2))
      all_goals (
        go_wp2_with fail
        go_region_held3 (fun w'=>w'.cell? ⟨r,1,none⟩=some (.slice bn s.nets.length cn)/\w'.cell? ⟨W.heap.size,0,none⟩=some (.int .u32 a)/\w'.cell? ⟨W.heap.size,1,none⟩=some (.int .i64 n)) (go_keep) ((go_at_call 225;refine(HM.out _ (by have hh:=HB2.out;exact upB)).mono ?_;rintro e w3 ⟨rfl,hb3⟩;have HB3:Hid (Bl W w3):=bup (W:=w2) HB2.out (by first|exact hb3|exact(Below.drew (Below.refl _ _)).trans hb3);have p2:w3.cell? ⟨W.heap.size,0,none⟩=some (.int .u32 a):=(hb3.cell (p:=⟨W.heap.size,0,none⟩) (block_lt_of_cell p0)).trans p0;have p3:w3.cell? ⟨W.heap.size,1,none⟩=some (.int .i64 n):=(hb3.cell (p:=⟨W.heap.size,1,none⟩) (block_lt_of_cell p1)).trans p1;obtain⟨y0,yj,y1,y2⟩:=HC.out w3 HB3.out;clear hb3))
        all_goals (
          cases an with
          | true =>
            go_wp2_with fail
            go_ret;rw[HR1.out (by simp)]
            exact bP HH.out HB3.out
          | false =>
            by_cases k4:24<=s.nets.length
            . have k5:(24:Int)<=(s.nets.length:Int):=by omega
              go_wp2_with fail
              go_ret;rw[HR2.out (by simp) k4]
              exact bP HH.out HB3.out
            . have k5:¬(24:Int)<=(s.nets.length:Int):=by omega
              go_wp2_with fail
              go_region_with ((go_at_call 226;refine(HW.out _ (by have hh:=HB3.out;exact upB)).mono ?_;rintro e w4 ⟨v4,rfl,hv4,hb4⟩;obtain⟨b4,c4,rfl,_,_⟩:=ae hv4.1;have HB4:Hid (Bl W w4):=bup (W:=w3) HB3.out (by first|exact hb4|exact(Below.drew (Below.refl _ _)).trans hb4);have HV4:Hid (HL S B w4 (.slice b4 (aV s.nets ⟨a,n,o⟩).length c4) (aV s.nets ⟨a,n,o⟩)):=hv4;obtain⟨z0,zj,z1,z2⟩:=HC.out w4 HB4.out;clear hb4 hv4))
              all_goals (
                go_wp2_with fail
                go_ret;rw[HR3.out (by simp) om]
                exact HF.out w4 _ HV4.out HB4.out)))
def dP:List Ls->Ls->List Ls
  | [],h=>[h]
  | x::r,h=>if h.a<x.a then h::x::r else x::dP r h
theorem mp (l:List Ls) (h:Ls):(dP l h).map lsH=aV (l.map lsH) (lsH h):=by
  induction l with
  | nil=>rfl
  | cons x r ih =>
    simp only[dP,aV,List.map_cons]
    by_cases hx:h.a<x.a
    . rw[if_pos hx,if_pos (show (lsH h).a<(lsH x).a from hx)];rfl
    . rw[if_neg hx,if_neg (show ¬(lsH h).a<(lsH x).a from hx)];simp[ih]
theorem BO {α β:Type} (f:α->β) (l:List α) (k:Nat):(az l k).map f=az (l.map f) k:=by simp[az]
theorem tM {l:List Ls} (h:∀ x,x∈l->ad x.a):∀ y,y∈l.map lsH->cI y:=fun y hy=>by
  obtain⟨x,hx,rfl⟩:=List.mem_map.1 hy;exact⟨h x hx,by show (0:Int)<=32;decide,by show (32:Int)<=32;decide⟩
def dH (l:List Ls) (a:Int):Int:=ah (l.map lsH) a 32
def jb (s:Bk) (o:ByteArray) (a:Int):Bk×ByteArray :=
  if dH s.leases a<0 then (s,⟨#[69,82,82,32,65,68,68,82]⟩) else if ((s.leases.map lsH).getD (dH s.leases a).toNat hd0).o≠o then (s,⟨#[69,82,82,32,79,87,78,69,82]⟩)
  else ({ s with leases:=az s.leases (dH s.leases a).toNat },⟨#[79,75]⟩)
theorem vO (S:Nat->Prop) (B:Nat) (W:World) (HBz:Hid (B<=W.heap.size)) (r:Nat) (s:Bk) (vt:Value) (o:ByteArray) (a:Int) (ha:ad a) (hl:s.leases.length<=1000) (hP:∀ x,x∈s.leases->ad x.a) (h:RB S B r s vt W) :
    Calls prog 193 #[.pointer (some ⟨r,0,none⟩),.string o,.int .i64 a] W (MR S B r vt W (jb s o a)):=by
  have HH:Hid (RB S B r s vt W):=h
  obtain⟨vp,vn,vl,h1,h2,h3,h4⟩:=h;have rl:=h1.lt;have hz:(s.leases.map lsH).length<=1000:=by simpa using hl
  have hQ:=tM hP;obtain⟨bp,cp,rfl,_,_⟩:=ae h4.1;have HO1:Hid (∀ V,Cr prog 233 #[.int .i64 a] V (.agg #[.int .u32 a,.int .i64 32])):=fun V=>kO a V ha
  have HT:Hid (∀ V,Bl W V->Cr prog 182 #[.slice bp (s.leases.map lsH).length cp,.agg #[.int .u32 a,.int .i64 32]] V (.int .i64 (dH s.leases a))):=fun V hV=>eF _ a 32 _ V ha (by decide) (by decide) hQ (h4.below hV).rd om
  have HW:Hid (∀ (q:Nat) V,q<=1000000->Bl W V->Calls prog 228 #[.slice bp (s.leases.map lsH).length cp,.int .i64 q] V fun e w'=>∃ v',e=.returned v'/\HL S B w' v' (az (s.leases.map lsH) q)/\Bl V w'):=fun q V hq hV=>(fZ _ q _ V (h4.below hV).rd om hq).mono (fun e w' ⟨v',q1,q2,q3⟩=>⟨v',q1,gm (by have z1:=HBz.out;have z2:=hV.size;omega) q2,q3⟩)
  have HC:Hid (∀ V,Bl W V->V.cell? ⟨r,2,none⟩=some (.slice bp (s.leases.map lsH).length cp)/\V.frozen? ⟨r,2,none⟩=false/\r<V.heap.size):=fun V hV=>⟨(h1.below hV).cell 2,(h1.below hV).frozen 2,(h1.below hV).lt⟩
  have HO:Hid (∀ k,k<(s.leases.map lsH).length->∃ g,bp=some ⟨g,0,none⟩/\∀ V,Bl W V->V.cell? ⟨g,k*3+2,none⟩=some (.string ((s.leases.map lsH).getD k hd0).o)):=fun k hk=>by
    obtain⟨b',c',e,_,_,k3⟩:=h4.rd
    cases e;obtain⟨g,hg,hlt,hc⟩:=k3 (by intro e;rw[e] at hk;simp at hk)
    exact⟨g,hg,fun V hV=>(hV.cell (p:=⟨g,k*3+2,none⟩) hlt).trans (hc k hk 2 _ rfl)⟩
  have HF:Hid (∀ (q:Nat) w3 v',HL S B w3 v' (az (s.leases.map lsH) q)->Bl W w3->MR S B r vt W ({ s with leases:=az s.leases q },⟨#[79,75]⟩) (.returned (.string ⟨#[79,75]⟩)) (w3.setCell ⟨r,2,none⟩ v')):=fun q w3 v' q1 q2=>by
    have b3:=h1.below q2;refine⟨rfl,⟨_,_,v',b3.set 2 v',(h2.below q2).set b3,(h3.below q2).set b3,?_⟩,dJ q2⟩
    show HL S B _ v' ((az s.leases q).map lsH)
    rw[BO];exact q1.set b3
  clear h1 h2 h3 h4 hP hQ;unfold jb;have hfi:=aT (isH a 32) (s.leases.map lsH) hd0
  have e9:fi (isH a 32) (s.leases.map lsH)=dH s.leases a:=rfl
  rw[e9] at hfi;clear e9;generalize dH s.leases a=fl at HT hfi ⊢
  obtain⟨M,hM⟩:∃ M,s.leases.map lsH=M:=⟨_,rfl⟩
  rw[hM] at HT HW HC HO HF hfi hz ⊢;clear hM hl;obtain⟨c0,_,_⟩:=HC.out W (Below.refl _ _)
  rcases hfi with⟨rfl,_⟩|⟨k,hk,rfl,_,_⟩
  . rw[if_pos om];clear HW HF HO;go_enter func193,ntmps193
    go_wp2;go_region_held3 (fun w'=>w'.cell? ⟨r,2,none⟩=some (.slice bp M.length cp)) (go_keep) ((first|(go_at_call 233;refine(HO1.out _).mono ?_;rintro e w1 ⟨rfl,hb1⟩;have HB1:Hid (Bl W w1):=bup (W:=W) (Below.refl _ _) (by first|exact hb1|exact(Below.drew (Below.refl _ _)).trans hb1);obtain⟨y0,y1,y2⟩:=HC.out w1 HB1.out;clear hb1)|(go_at_call 182;refine(HT.out _ (by have hh:=HB1.out;have hg:=HB1.out.size;exact upB)).mono ?_;rintro e w2 ⟨rfl,hb2⟩;have HB2:Hid (Bl W w2):=bup (W:=w1) HB1.out (by first|exact hb2|exact(Below.drew (Below.refl _ _)).trans hb2);obtain⟨y0,y1,y2⟩:=HC.out w2 HB2.out;clear hb2)))
    all_goals (
      go_wp2_with fail
      go_ret;exact bP HH.out HB2.out)
  . rw[if_neg om,Int.toNat_natCast];obtain⟨g,rfl,ho⟩:=HO.out k hk;have HO2:Hid (∀ V,Bl W V->V.cell? ⟨g,k*3+2,none⟩=some (.string (M.getD k hd0).o)):=ho
    have HWk:Hid (∀ V,Bl W V->Calls prog 228 #[.slice (some ⟨g,0,none⟩) M.length cp,.int .i64 k] V fun e w'=>∃ v',e=.returned v'/\HL S B w' v' (az M k)/\Bl V w'):=fun V hV=>HW.out k V om hV
    have HFk:Hid (∀ w3 v',HL S B w3 v' (az M k)->Bl W w3->MR S B r vt W ({ s with leases:=az s.leases k },⟨#[79,75]⟩) (.returned (.string ⟨#[79,75]⟩)) (w3.setCell ⟨r,2,none⟩ v')):=fun w3 v' q1 q2=>HF.out k w3 v' q1 q2
    generalize (M.getD k hd0).o=ow at HO2 ⊢
    have hkz:(k:Int)<(M.length:Int):=by omega
    clear HO HW HF ho;by_cases k1:ow=o
    . have q2:(ow.toList==o.toList)=true:=(Lib.bytes_beq_iff ow o).2 k1
      rw[if_neg (by simpa using k1)]
      clear k1;go_enter func193,ntmps193
      go_wp2;go_region_held3 (fun w'=>w'.cell? ⟨r,2,none⟩=some (.slice (some ⟨g,0,none⟩) M.length cp)) (go_keep) ((first|(go_at_call 233;refine(HO1.out _).mono ?_;rintro e w1 ⟨rfl,hb1⟩;have HB1:Hid (Bl W w1):=bup (W:=W) (Below.refl _ _) (by first|exact hb1|exact(Below.drew (Below.refl _ _)).trans hb1);obtain⟨y0,y1,y2⟩:=HC.out w1 HB1.out;have yo:=HO2.out w1 HB1.out;clear hb1)|(go_at_call 182;refine(HT.out _ (by have hh:=HB1.out;have hg:=HB1.out.size;exact upB)).mono ?_;rintro e w2 ⟨rfl,hb2⟩;have HB2:Hid (Bl W w2):=bup (W:=w1) HB1.out (by first|exact hb2|exact(Below.drew (Below.refl _ _)).trans hb2);obtain⟨y0,y1,y2⟩:=HC.out w2 HB2.out;have yo:=HO2.out w2 HB2.out;clear hb2)))
      all_goals (
        go_wp2_with ((go_at_call 228;refine(HWk.out _ (by have hh:=HB2.out;have hg:=HB2.out.size;exact upB)).mono ?_;rintro e w4 ⟨v4,rfl,hv4,hb4⟩;obtain⟨b4,c4,rfl,_,_⟩:=ae hv4.1;have HB4:Hid (Bl W w4):=bup (W:=w2) HB2.out (by first|exact hb4|exact(Below.drew (Below.refl _ _)).trans hb4);have HV4:Hid (HL S B w4 (.slice b4 (az M k).length c4) (az M k)):=hv4;obtain⟨z0,z1,z2⟩:=HC.out w4 HB4.out;clear hb4 hv4))
        go_ret;exact HFk.out w4 _ HV4.out HB4.out)
    . have q2:(ow.toList==o.toList)=false:=(Lib.bytes_beq_false_iff ow o).2 k1
      rw[if_pos k1];clear HWk HFk k1;go_enter func193,ntmps193
      go_wp2;go_region_held3 (fun w'=>w'.cell? ⟨r,2,none⟩=some (.slice (some ⟨g,0,none⟩) M.length cp)) (go_keep) ((first|(go_at_call 233;refine(HO1.out _).mono ?_;rintro e w1 ⟨rfl,hb1⟩;have HB1:Hid (Bl W w1):=bup (W:=W) (Below.refl _ _) (by first|exact hb1|exact(Below.drew (Below.refl _ _)).trans hb1);obtain⟨y0,y1,y2⟩:=HC.out w1 HB1.out;have yo:=HO2.out w1 HB1.out;clear hb1)|(go_at_call 182;refine(HT.out _ (by have hh:=HB1.out;have hg:=HB1.out.size;exact upB)).mono ?_;rintro e w2 ⟨rfl,hb2⟩;have HB2:Hid (Bl W w2):=bup (W:=w1) HB1.out (by first|exact hb2|exact(Below.drew (Below.refl _ _)).trans hb2);obtain⟨y0,y1,y2⟩:=HC.out w2 HB2.out;have yo:=HO2.out w2 HB2.out;clear hb2)))
      all_goals (
        go_wp2_with fail
        go_ret;exact bP HH.out HB2.out)
def ji (s:Bk) (o:ByteArray) (a:Int):Bk×ByteArray :=
  if dt s.nets a 32<0 then (s,⟨#[69,82,82,32,78,69,84]⟩) else if usR (s.nets.getD (dt s.nets a 32).toNat hd0).a (s.nets.getD (dt s.nets a 32).toNat hd0).n a=false then (s,⟨#[69,82,82,32,65,68,68,82]⟩)
  else if 0<=dH s.leases a then (s,⟨#[69,82,82,32,84,65,75,69,78]⟩) else if 40<=s.leases.length then (s,⟨#[69,82,82,32,76,73,77,73,84]⟩) else ({ s with leases:=dP s.leases ⟨a,o⟩ },⟨#[79,75]⟩)
theorem xR {s:Bk} {o:ByteArray} {a ar fl:Int} {u:Bool} (e1:dt s.nets a 32=ar) (e2:usR (s.nets.getD ar.toNat hd0).a (s.nets.getD ar.toNat hd0).n a=u) (e3:dH s.leases a=fl):ji s o a=if ar<0 then (s,⟨#[69,82,82,32,78,69,84]⟩) else if u=false then (s,⟨#[69,82,82,32,65,68,68,82]⟩) else if 0<=fl then (s,⟨#[69,82,82,32,84,65,75,69,78]⟩) else if 40<=s.leases.length then (s,⟨#[69,82,82,32,76,73,77,73,84]⟩) else ({ s with leases:=dP s.leases ⟨a,o⟩ },⟨#[79,75]⟩):=by
  subst e1;subst e2;subst e3;rfl
theorem ww (S:Nat->Prop) (B:Nat) (W:World) (HBz:Hid (B<=W.heap.size)) (r:Nat) (s:Bk) (vt:Value) (o:ByteArray) (a:Int) (ha:ad a) (hl:s.leases.length<=1000) (hm:s.nets.length<=1000) (hN:∀ h,h∈s.nets->cI h) (hP:∀ x,x∈s.leases->ad x.a) (h:RB S B r s vt W) :
    Calls prog 192 #[.pointer (some ⟨r,0,none⟩),.string o,.int .i64 a] W (MR S B r vt W (ji s o a)):=by
  have HH:Hid (RB S B r s vt W):=h
  obtain⟨vp,vn,vl,h1,h2,h3,h4⟩:=h;have rl:=h1.lt;have hz:(s.leases.map lsH).length<=1000:=by simpa using hl
  have hz2:s.leases.length=(s.leases.map lsH).length:=by simp
  have hQ:=tM hP;obtain⟨bp,cp,rfl,_,_⟩:=ae h4.1;obtain⟨bn,cn,rfl,_,_⟩:=ae h3.1;have HO1:Hid (∀ V,Cr prog 233 #[.int .i64 a] V (.agg #[.int .u32 a,.int .i64 32])):=fun V=>kO a V ha
  have HA:Hid (∀ V,Bl W V->Cr prog 230 #[.slice bn s.nets.length cn,.agg #[.int .u32 a,.int .i64 32]] V (.int .i64 (dt s.nets a 32))):=fun V hV=>kc s.nets a 32 _ V ha (by decide) (by decide) hN (h3.below hV).rd om
  have HT:Hid (∀ V,Bl W V->Cr prog 182 #[.slice bp (s.leases.map lsH).length cp,.agg #[.int .u32 a,.int .i64 32]] V (.int .i64 (dH s.leases a))):=fun V hV=>eF _ a 32 _ V ha (by decide) (by decide) hQ (h4.below hV).rd om
  have HW:Hid (∀ V,Bl W V->Calls prog 226 #[.slice bp (s.leases.map lsH).length cp,.agg #[.int .u32 a,.int .i64 32,.string o]] V fun e w'=>∃ v',e=.returned v'/\HL S B w' v' (aV (s.leases.map lsH) ⟨a,32,o⟩)/\Bl V w'):=fun V hV=>(fF _ ⟨a,32,o⟩ _ V ha hQ (h4.below hV).rd om).mono (fun e w' ⟨v',q1,q2,q3⟩=>⟨v',q1,gm (by have z1:=HBz.out;have z2:=hV.size;omega) q2,q3⟩)
  have HC:Hid (∀ V,Bl W V->V.cell? ⟨r,1,none⟩=some (.slice bn s.nets.length cn)/\V.cell? ⟨r,2,none⟩=some (.slice bp (s.leases.map lsH).length cp)/\V.frozen? ⟨r,2,none⟩=false/\r<V.heap.size):=fun V hV=>⟨(h1.below hV).cell 1,(h1.below hV).cell 2,(h1.below hV).frozen 2,(h1.below hV).lt⟩
  have HO:Hid (∀ k,k<s.nets.length->∃ g,bn=some ⟨g,0,none⟩/\∀ V,Bl W V->V.cell? ⟨g,k*3,none⟩=some (.int .u32 (s.nets.getD k hd0).a)/\V.cell? ⟨g,k*3+1,none⟩=some (.int .i64 (s.nets.getD k hd0).n)):=fun k hk=>by
    obtain⟨b',c',e,_,_,k3⟩:=h3.rd
    cases e;obtain⟨g,hg,hlt,hc⟩:=k3 (by intro e;rw[e] at hk;simp at hk)
    exact⟨g,hg,fun V hV=>⟨(hV.cell (p:=⟨g,k*3,none⟩) hlt).trans (hc k hk 0 _ rfl),(hV.cell (p:=⟨g,k*3+1,none⟩) hlt).trans (hc k hk 1 _ rfl)⟩⟩
  have HU:Hid (∀ k,k<s.nets.length->∀ V,Cr prog 232 #[.agg #[.int .u32 (s.nets.getD k hd0).a,.int .i64 (s.nets.getD k hd0).n],.int .i64 a] V (.bool (usR (s.nets.getD k hd0).a (s.nets.getD k hd0).n a))):=fun k hk V=>by
    have q:=hN (s.nets.getD k hd0) (by rw[List.getD_eq_getElem?_getD,List.getElem?_eq_getElem hk];exact List.getElem_mem hk)
    exact jX _ _ a V q.1 q.2.1 q.2.2 ha.1 ha.2
  have HF:Hid (∀ w3 v',HL S B w3 v' (aV (s.leases.map lsH) ⟨a,32,o⟩)->Bl W w3->MR S B r vt W ({ s with leases:=dP s.leases ⟨a,o⟩ },⟨#[79,75]⟩) (.returned (.string ⟨#[79,75]⟩)) (w3.setCell ⟨r,2,none⟩ v')):=fun w3 v' q1 q2=>by
    have b3:=h1.below q2;refine⟨rfl,⟨_,_,v',b3.set 2 v',(h2.below q2).set b3,(h3.below q2).set b3,?_⟩,dJ q2⟩
    show HL S B _ v' ((dP s.leases ⟨a,o⟩).map lsH)
    rw[mp];exact q1.set b3
  clear h1 h2 h3 h4 hP hQ hN;have hfi:=aT (fun h=>ri a 32 h.a h.n) s.nets hd0
  have e9:fi (fun h=>ri a 32 h.a h.n) s.nets=dt s.nets a 32:=rfl
  rw[e9] at hfi;obtain⟨ar,e1⟩:∃ ar,dt s.nets a 32=ar:=⟨_,rfl⟩
  obtain⟨u,e2⟩:∃ u,usR (s.nets.getD ar.toNat hd0).a (s.nets.getD ar.toNat hd0).n a=u:=⟨_,rfl⟩
  obtain⟨fl,e3⟩:∃ fl,dH s.leases a=fl:=⟨_,rfl⟩
  rw[xR e1 e2 e3];rw[e1] at hfi HA;rw[e3] at HT;clear e1 e9 e3;obtain⟨M,hM⟩:∃ M,s.leases.map lsH=M:=⟨_,rfl⟩
  rw[hM] at HT HW HC HF hz hz2;rw[hz2];clear hM hl hz2;obtain⟨c0,cl,_,_⟩:=HC.out W (Below.refl _ _)
  rcases hfi with⟨rfl,_⟩|⟨k,hk,rfl,_,_⟩
  . rw[if_pos om];clear HW HF HO HT HU e2;go_enter func192,ntmps192
    go_wp2;go_region_held3 (fun w'=>w'.cell? ⟨r,1,none⟩=some (.slice bn s.nets.length cn)) (go_keep) ((first|(go_at_call 233;refine(HO1.out _).mono ?_;rintro e w1 ⟨rfl,hb1⟩;have HB1:Hid (Bl W w1):=bup (W:=W) (Below.refl _ _) (by first|exact hb1|exact(Below.drew (Below.refl _ _)).trans hb1);obtain⟨y0,y1,y2,y3⟩:=HC.out w1 HB1.out;clear hb1)|(go_at_call 230;refine(HA.out _ (by have hh:=HB1.out;have hg:=HB1.out.size;exact upB)).mono ?_;rintro e w2 ⟨rfl,hb2⟩;have HB2:Hid (Bl W w2):=bup (W:=w1) HB1.out (by first|exact hb2|exact(Below.drew (Below.refl _ _)).trans hb2);obtain⟨y0,y1,y2,y3⟩:=HC.out w2 HB2.out;clear hb2)))
    all_goals (
      go_wp2_with fail
      go_ret;exact bP HH.out HB2.out)
  . rw[if_neg om];rw[Int.toNat_natCast] at e2;obtain⟨g,rfl,ho⟩:=HO.out k hk;have HUk:=HU.out k hk;rw[e2] at HUk;have HU2:Hid (∀ V,Cr prog 232 #[.agg #[.int .u32 (s.nets.getD k hd0).a,.int .i64 (s.nets.getD k hd0).n],.int .i64 a] V (.bool u)):=HUk
    have HO2:Hid (∀ V,Bl W V->V.cell? ⟨g,k*3,none⟩=some (.int .u32 (s.nets.getD k hd0).a)/\V.cell? ⟨g,k*3+1,none⟩=some (.int .i64 (s.nets.getD k hd0).n)):=ho
    clear HUk HU HO ho e2;generalize s.nets.getD k hd0=y at HU2 HO2
    have hkz:(k:Int)<(s.nets.length:Int):=by omega
    obtain⟨res,hres⟩:∃ res:Bk×ByteArray,(if u=false then (s,(⟨#[69,82,82,32,65,68,68,82]⟩:ByteArray)) else if 0<=fl then (s,⟨#[69,82,82,32,84,65,75,69,78]⟩) else if 40<=M.length then (s,⟨#[69,82,82,32,76,73,77,73,84]⟩) else ({ s with leases:=dP s.leases ⟨a,o⟩ },⟨#[79,75]⟩))=res:=⟨_,rfl⟩
    rw[hres];have HR1:Hid (u=false->res=(s,⟨#[69,82,82,32,65,68,68,82]⟩)):=fun q=>by rw[<- hres,if_pos q]
    have HR2:Hid (u=true->0<=fl->res=(s,⟨#[69,82,82,32,84,65,75,69,78]⟩)):=fun q q2=>by rw[<- hres,if_neg (by rw[q];simp),if_pos q2]
    have HR3:Hid (u=true->¬0<=fl->40<=M.length->res=(s,⟨#[69,82,82,32,76,73,77,73,84]⟩)):=fun q q2 q3=>by rw[<- hres,if_neg (by rw[q];simp),if_neg q2,if_pos q3]
    have HR4:Hid (u=true->¬0<=fl->¬40<=M.length->res=({ s with leases:=dP s.leases ⟨a,o⟩ },⟨#[79,75]⟩)):=fun q q2 q3=>by rw[<- hres,if_neg (by rw[q];simp),if_neg q2,if_neg q3]
    clear hres;go_enter func192,ntmps192
    go_wp2;go_region_held3 (fun w'=>w'.cell? ⟨r,1,none⟩=some (.slice (some ⟨g,0,none⟩) s.nets.length cn)) (go_keep) ((first|(go_at_call 233;refine(HO1.out _).mono ?_;rintro e w1 ⟨rfl,hb1⟩;have HB1:Hid (Bl W w1):=bup (W:=W) (Below.refl _ _) (by first|exact hb1|exact(Below.drew (Below.refl _ _)).trans hb1);obtain⟨y0,y1,y2,y3⟩:=HC.out w1 HB1.out;clear hb1)|(go_at_call 230;refine(HA.out _ (by have hh:=HB1.out;have hg:=HB1.out.size;exact upB)).mono ?_;rintro e w2 ⟨rfl,hb2⟩;have HB2:Hid (Bl W w2):=bup (W:=w1) HB1.out (by first|exact hb2|exact(Below.drew (Below.refl _ _)).trans hb2);obtain⟨y0,y1,y2,y3⟩:=HC.out w2 HB2.out;clear hb2)))
    all_goals (
      obtain⟨yo0,yo1⟩:=HO2.out w2 HB2.out;(
        cases u with
        | false =>
          go_wp2_with ((go_at_call 232;refine(HU2.out _).mono ?_;rintro e w3 ⟨rfl,hb3⟩;have HB3:Hid (Bl W w3):=bup (W:=w2) HB2.out (by first|exact hb3|exact(Below.drew (Below.refl _ _)).trans hb3);obtain⟨y0,y1,y2,y3⟩:=HC.out w3 HB3.out;clear hb3))
          go_ret;rw[HR1.out (by simp)]
          exact bP HH.out HB3.out
        | true =>
          go_wp2_with ((go_at_call 232;refine(HU2.out _).mono ?_;rintro e w3 ⟨rfl,hb3⟩;have HB3:Hid (Bl W w3):=bup (W:=w2) HB2.out (by first|exact hb3|exact(Below.drew (Below.refl _ _)).trans hb3);obtain⟨y0,y1,y2,y3⟩:=HC.out w3 HB3.out;clear hb3))
          go_region_held3 (fun w'=>w'.cell? ⟨r,2,none⟩=some (.slice bp M.length cp)) (go_keep) ((first|(go_at_call 233;refine(HO1.out _).mono ?_;rintro e wz ⟨rfl,hb1⟩;have HB1:Hid (Bl W wz):=bup (W:=w3) HB3.out (by first|exact hb1|exact(Below.drew (Below.refl _ _)).trans hb1);obtain⟨y0,y1,y2,y3⟩:=HC.out wz HB1.out;clear hb1)|(go_at_call 182;refine(HT.out _ (by have hh:=HB1.out;have hg:=HB1.out.size;exact upB)).mono ?_;rintro e w4 ⟨rfl,hb2⟩;have HB4:Hid (Bl W w4):=bup (W:=wz) HB1.out (by first|exact hb2|exact(Below.drew (Below.refl _ _)).trans hb2);obtain⟨y0,y1,y2,y3⟩:=HC.out w4 HB4.out;clear hb2)))
          all_goals (
            by_cases k3:0<=fl
            . go_wp2_with fail
              go_ret;rw[HR2.out (by simp) om]
              exact bP HH.out HB4.out
            . by_cases k4:40<=M.length
              . have k5:(40:Int)<=(M.length:Int):=by omega
                go_wp2_with fail
                go_ret;rw[HR3.out (by simp) om k4]
                exact bP HH.out HB4.out
              . have k5:¬(40:Int)<=(M.length:Int):=by omega
                go_wp2_with fail
                go_region_with ((first|(go_at_call 233;refine(HO1.out _).mono ?_;rintro e w5 ⟨rfl,hb5⟩;have HB5:Hid (Bl W w5):=bup (W:=w4) HB4.out (by first|exact hb5|exact(Below.drew (Below.refl _ _)).trans hb5|exact bup upB hb5);obtain⟨z0,z1,z2,z3⟩:=HC.out w5 HB5.out;clear hb5)|(go_at_call 226;refine(HW.out _ (by have hh:=HB5.out;have hg:=HB5.out.size;exact upB)).mono ?_;rintro e w6 ⟨v6,rfl,hv6,hb6⟩;obtain⟨b6,c6,rfl,_,_⟩:=ae hv6.1;have HB6:Hid (Bl W w6):=bup (W:=w5) HB5.out (by first|exact hb6|exact(Below.drew (Below.refl _ _)).trans hb6|exact bup upB hb6);have HV6:Hid (HL S B w6 (.slice b6 (aV M ⟨a,32,o⟩).length c6) (aV M ⟨a,32,o⟩)):=hv6;obtain⟨z0,z1,z2,z3⟩:=HC.out w6 HB6.out;clear hb6 hv6)))
                all_goals (
                  go_wp2_with fail
                  go_ret;rw[HR4.out (by simp) om om]
                  exact HF.out w6 _ HV6.out HB6.out))))
end Go.Proofs.YtjnhhnbgjjkkjaaGreatDoor
