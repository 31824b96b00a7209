import Derived.Test.YtjnhhnbgjjkkjaaGreatDoorRePAM
set_option linter.all false
set_option maxRecDepth 100000
set_option maxHeartbeats 2000000
namespace Go.Proofs.YtjnhhnbgjjkkjaaGreatDoor
section
open Go.ChangeShapes Go.WideShapes Go.ChangeAt Go.RowKit Go.Proofs.Tryz
theorem f9:(prog.info? 9).map (fun i=>(i.zero,i.size,i.bytes))=some (some (.string ByteArray.empty),1,16):=by kernel_rfl
def ik(ls:List (Lu)):List Value:=ls.map fun l=>Value.string (bs l)
theorem nQ(ls:List (Lu))(l:Lu):ik ls++[.string (bs l)]=ik (ls++[l]):=by simp[ik]
theorem j8(s:Bz)(k:Nat)(h:k<s.size):s.data.toList.take (k+1)=s.data.toList.take k++[s[k]]:=by
 rw[List.take_succ_eq_append_getElem (by simpa using h)];rfl
theorem pI(c:UInt8)(l:Lu)(x:UInt8):bh c ([],[]) (l++[x])=dm c (bh c ([],[]) l) x:=by simp[bh]
theorem ud(c:UInt8)(l:Lu):∀ s,(bh c s l).1.length<=s.1.length+l.length:=by
 induction l with
 | nil=>intro s;simp[bh]
 | cons x r ih =>
  intro s;have:=ih (dm c s x)
  have h2:(dm c s x).1.length<=s.1.length+1:=by unfold dm;split<;>simp
  simp only[bh,List.foldl_cons,List.length_cons] at this ⊢
  omega
theorem yU(s:Bz)(a b:Nat):s.extract a b=bs ((s.data.toList.take b).drop a):=by
 apply ByteArray.ext
 apply Array.ext'
 rw[bN,Lib.extract_data,List.drop_take]
theorem wJ(s:Bz)(c:Int)(cb:UInt8)(k g:Nat)(F:List (Lu))(hlt:k<s.size)(hg:g<=k)(hc:c=cb.toNat)(hx:(((s[k].toNat:Nat):Int)==c)=true)
  (h:bh cb ([],[]) (s.data.toList.take k)=(F,(s.data.toList.take k).drop g)):bh cb ([],[]) (s.data.toList.take (k+1))=(F++[(s.data.toList.take k).drop g],(s.data.toList.take (k+1)).drop (k+1)):=by
 have e:s[k]=cb:=by
  rw[beq_iff_eq,hc] at hx;exact UInt8.toNat_inj.1 om
 rw[j8 s k hlt,pI,h,dm,if_pos e,<- j8 s k hlt];congr 1
 rw[List.drop_of_length_le (by simp;omega)]
theorem tq(s:Bz)(c:Int)(cb:UInt8)(k g:Nat)(F:List (Lu))(hlt:k<s.size)(hg:g<=k)(hc:c=cb.toNat)(hx:(((s[k].toNat:Nat):Int)==c)=false)
  (h:bh cb ([],[]) (s.data.toList.take k)=(F,(s.data.toList.take k).drop g)):bh cb ([],[]) (s.data.toList.take (k+1))=(F,(s.data.toList.take (k+1)).drop g):=by
 have e:¬s[k]=cb:=by
  rw[beq_eq_false_iff_ne,hc] at hx;intro e;rw[e] at hx;exact hx rfl
 have hl:g<=(s.data.toList.take k).length:=by
  have:=Lib.size_eq s
  simp;omega
 rw[j8 s k hlt,pI,h,dm,if_neg e,List.drop_append_of_le_length hl]
theorem wI(s:Bz)(cb:UInt8)(k g:Nat)(F:List (Lu))(hk:k=s.size)
  (h:bh cb ([],[]) (s.data.toList.take k)=(F,(s.data.toList.take k).drop g)):ax cb s.data.toList=F++[(s.data.toList.take k).drop g]:=by
 have e:s.data.toList.take k=s.data.toList:=List.take_of_length_le (by have:=Lib.size_eq s;omega)
 rw[e] at h ⊢;unfold ax;rw[h]
theorem iN(s:Bz)(c:Int)(cb:UInt8)(w:World)(hc:c=cb.toNat)(hs:s.size<=2097152):Calls prog 133 #[.string s,.int .u8 c] w fun e w'=>∃ v,e=.returned v/\w'.ownsRow w.heap.size 9 1 v (ax cb s.data.toList).length (ik (ax cb s.data.toList))/\Bl w w':=by
 obtain⟨i0,hi,hz0,hz1,hz2⟩:=info_parts f9;have HC:Hid (c=cb.toNat):=hc
 clear hc;go_enter func133,ntmps133
 go_wp2;go_loopw [5,6,7] (fun v f i wr=>∃ (k g:Nat) (F:List (Lu)),k<=s.size/\g<=k/\i=I6 k/\f=I6 g/\wr.ownsRow w.heap.size 9 1 v F.length (ik F)/\Bl w wr/\Hid (bh cb ([],[]) (s.data.toList.take k)=(F,(s.data.toList.take k).drop g)))
  (fun _ _ i _=>s.size-(intOf i).toNat)
 case atStart=>exact⟨0,0,[],Nat.zero_le _,Nat.le_refl _,rfl,rfl,World.ownsRow_nil _ _ _ _,Below.refl _ _,rfl⟩
 case round =>
  obtain⟨k,g,F,hk,hg,rfl,rfl,hown,hb,hcut⟩:=hrel;have hF:F.length<=k:=by
   have:=ud cb (s.data.toList.take k) ([],[])
   rw[hcut.o] at this;simp at this;omega
  by_cases hlt:k<s.size
  ·go_wp2_with (first
    | (at_builtin;refine wpList_append_own _ rfl _ _ 31 rfl w.heap.size 9 i0 (.string ByteArray.empty) 1 16 underlying31 hi hz0 hz1 hz2 rfl dE _ _ _ rfl (hown.alloc _) (Nw wr 0) 1 1 [.string (s.extract g k)] rfl rfl ?c1 ?c2 ?c3 ?c4 ?c5 ?_)
    | go_in)
   case c1 =>
    intro j u hj;match j,hj with
    | 0,hj=>simp at hj;subst hj;simp[Addr.add]
   case c2=>intro u hu;simp at hu;subst hu;rfl
   case c3=>unfold maxLen;omega
   case c4=>omega
   case c5=>have:=hb.size;simp;omega
   ·intro v' w1 hown' hgrow _;have hx:=‹(↑s[k].toNat==c)=true›
    have R:=wJ s c cb k g F hlt hg HC.o hx hcut.o;rw[yU] at hown';have hown2:w1.ownsRow w.heap.size 9 1 v' (F++[(s.data.toList.take k).drop g]).length (ik (F++[(s.data.toList.take k).drop g])):=by
     rw[nQ] at hown';simpa using hown'
    have hb2:Bl w w1:=(hb.alloc hb.size _).grown hgrow (by have:=hb.size;simp;omega) (fun r hr=>(hown.lt r hr).1)
    clear hown' hgrow hown hx;go_wp2;go_roundw
    case rel=>exact⟨k+1,k+1,_,by omega,by omega,by go_num,by go_num,hown2,hb2,R⟩
    case measure=>simp[intOf];omega
   ·have hx:=‹(↑s[k].toNat==c)=false›
    have R:=tq s c cb k g F hlt hg HC.o hx hcut.o;clear hx;go_roundw
    case rel=>exact⟨k+1,g,F,by omega,by omega,by go_num,rfl,hown,hb,R⟩
    case measure=>simp[intOf];omega
  ·have hk':k=s.size:=by omega
   have R:=wI s cb k g F hk' hcut.o;have HK:Hid (k=s.size):=hk'
   clear hk';go_wp2_with (first
    | (at_builtin;refine wpList_append_own _ rfl _ _ 31 rfl w.heap.size 9 i0 (.string ByteArray.empty) 1 16 underlying31 hi hz0 hz1 hz2 rfl dE _ _ _ rfl (hown.alloc _) (Nw wr 0) 1 1 [.string (s.extract g s.size)] rfl rfl ?c1 ?c2 ?c3 ?c4 ?c5 ?_)
    | go_in)
   case c1 =>
    intro j u hj;match j,hj with
    | 0,hj=>simp at hj;subst hj;simp[Addr.add]
   case c2=>intro u hu;simp at hu;subst hu;rfl
   case c3=>unfold maxLen;omega
   case c4=>omega
   case c5=>have:=hb.size;simp;omega
   intro v' w1 hown' hgrow _;rw[yU,nQ] at hown';have hown2:w1.ownsRow w.heap.size 9 1 v' (ax cb s.data.toList).length (ik (ax cb s.data.toList)):=by
    rw[R];rw[HK.o];simpa using hown'
   have hb2:Bl w w1:=(hb.alloc hb.size _).grown hgrow (by have:=hb.size;simp;omega) (fun r hr=>(hown.lt r hr).1)
   clear hown' hgrow hown R;go_wp2;go_ret;exact⟨_,rfl,hown2,hb2⟩
def bY(l:Lu):Int:=match dv l with|some a=>(a:Int)|none=>-1
def acc(X:Nat->Int):Nat->Int
 | 0=>0
 | k+1=>256*acc X k+X k
theorem xS(X:Nat->Int)(k:Nat)(hk:k<=4)(h:∀ j,j<k->0<=X j/\X j<=255):0<=acc X k/\acc X k<=256^k-1:=by
 induction k with
 | zero=>simp[acc]
 | succ k ih =>
  have:=ih om (fun j hj=>h j om)
  have hx:=h k om;rw[acc,Int.pow_succ];omega
theorem ei(l:Lu)(m:Nat):(cY l m=-1/\num l m=none)\/(∃ n:Nat,cY l m=n/\n<=m/\num l m=some n):=by
 unfold cY;rcases h:num l m with _|n
 ·exact .inl ⟨rfl,rfl⟩
 ·exact .inr ⟨n,rfl,(bA.1 h).1,rfl⟩
theorem dI{w:World}{base:Nat}{v:Value}{ls:List (Lu)}(h:w.ownsRow base 9 1 v ls.length (ik ls))(hl:1<=ls.length):
  ∃ g cap,v=Sq g ls.length cap/\base<=g/\g<w.heap.size/\ls.length<=cap/\cap<=maxLen/\∀ j,j<ls.length->w.cell? (At g j)=some (.string (bs (ls.getD j []))):=by
 have h0:=h;obtain⟨_,⟨_,hn⟩|⟨g,cap,cur,rfl,hg,hblk,hc,hm,hsz,htk⟩⟩:=h
 ·omega
 ·have hlt:g<w.heap.size:=by
   rcases Nat.lt_or_ge g w.heap.size with h|h
   ·exact h
   ·rw[Array.getElem?_eq_none h] at hblk;cases hblk
  refine⟨g,cap,rfl,hg,hlt,hc,hm,fun j hj=>?_⟩
  rw[h0.cellAt j om];unfold ik;rw[List.getElem?_map,List.getElem?_eq_getElem hj];simp[List.getD,List.getElem?_eq_getElem hj]
theorem qu{ls:List (Lu)}(h:ls.length=4):ls=[ls.getD 0 [],ls.getD 1 [],ls.getD 2 [],ls.getD 3 []]:=by
 match ls,h with
 | [a,b,c,d],_=>rfl
theorem pg{l:Lu}(h:(ax 46 l).length≠4):bY l=-1:=by
 unfold bY dv;split
 ·rename_i a ha;split at ha
  ·rename_i p0 p1 p2 p3 e;rw[e] at h;simp at h
  ·cases ha
 ·rfl
theorem o9{l:Lu}{k:Nat}(h:(ax 46 l).length=4)(hk:k<4)(hb:num ((ax 46 l).getD k []) 255=none):bY l=-1:=by
 unfold bY dv;rw[qu h];simp only[]
 unfold four;have:k=0\/k=1\/k=2\/k=3:=by omega
 rcases this with rfl|rfl|rfl|rfl<;>rw[hb]<;>(split<;>first|rfl|(rename_i e;split at e<;>simp_all))
theorem mD{l:Lu}(h:(ax 46 l).length=4)(hg:∀ j,j<4->num ((ax 46 l).getD j []) 255≠none):
  acc (fun j=>cY ((ax 46 l).getD j []) 255) 4=bY l:=by
 unfold bY dv;rw[qu h];simp only[]
 have n0:=hg 0 om;have n1:=hg 1 om;have n2:=hg 2 om;have n3:=hg 3 om;rcases e0:num ((ax 46 l).getD 0 []) 255 with _|a0
 ·exact absurd e0 n0
 rcases e1:num ((ax 46 l).getD 1 []) 255 with _|a1
 ·exact absurd e1 n1
 rcases e2:num ((ax 46 l).getD 2 []) 255 with _|a2
 ·exact absurd e2 n2
 rcases e3:num ((ax 46 l).getD 3 []) 255 with _|a3
 ·exact absurd e3 n3
 simp only[List.getD_cons_zero,List.getD_cons_succ,acc,cY,four,e0,e1,e2,e3]
 omega
theorem gw{B:Nat}{W w1:World}(hb:Below B W w1){g j:Nat}{v:Value}(hg:g<B)(h:W.cell? (At g j)=some v):w1.cell? (At g j)=some v :=
 (hb.cell (p:=At g j) hg).trans h
theorem gh(s:Bz)(w:World)(hs:s.size<=2097152):Cr prog 184 #[.string s] w (I6 (bY s.data.toList)):=by
 have hp:=dJ 46 s.data.toList;obtain⟨ls,HL⟩:∃ ls,ls=ax 46 s.data.toList:=⟨_,rfl⟩
 rw[<- HL] at hp;have HP:Hid (ls=ax 46 s.data.toList):=HL
 have hc:Hid (∀ w,Calls prog 133 #[.string s,.int .u8 46] w fun e w'=>∃ v,e=.returned v/\w'.ownsRow w.heap.size 9 1 v ls.length (ik ls)/\Bl w w'):=by
  subst HL;exact fun w=>iN s 46 46 w rfl hs
 clear HL;by_cases h4:ls.length=4
 ·have hl4:((ls.length:Int)==4)=true:=by simp;omega
  go_enter func184,ntmps184
  go_wp2_with (go_at_call 133;refine(hc.o _).mono ?_;rintro e w1 ⟨v,rfl,hown,hb1⟩;obtain⟨g,cap,hv,hg1,hg2,hg3,hg4,hcell⟩:=dI hown hp;rw[hv];clear hv hown)
  have HX:Hid (∀ j,j<4->w1.cell? (At g j)=some (.string (bs (ls.getD j [])))):=fun j hj=>hcell j om
  clear hcell;go_loopw [4,5] (fun a i wr=>∃ k:Nat,k<=4/\i=I6 k/\a=I6 (acc (fun j=>cY (ls.getD j []) 255) k)/\Bl w1 wr/\Hid (∀ j,j<k->num (ls.getD j []) 255≠none)) (fun _ i _=>4-(intOf i).toNat)
  case atStart=>exact⟨0,by omega,rfl,rfl,Below.refl _ _,fun j hj=>by omega⟩
  case round =>
   obtain⟨k,hk,rfl,rfl,hb,hgood⟩:=hrel;have hbd:=xS (fun j=>cY (ls.getD j []) 255) k hk (fun j hj=>by
    rcases ei (ls.getD j []) 255 with⟨_,e⟩|⟨n,e,h,_⟩
    ·exact absurd e (hgood.o j hj)
    ·simp only[e];omega)
   have hpw:(256:Int)^k<=4294967296:=by
    have:k=0\/k=1\/k=2\/k=3\/k=4:=by omega
    rcases this with rfl|rfl|rfl|rfl|rfl<;>decide
   obtain⟨a,ha⟩:∃ a,a=acc (fun j=>cY (ls.getD j []) 255) k:=⟨_,rfl⟩
   rw[<- ha] at hbd;have b0:0<=a:=hbd.1
   have b1:a<=4294967295:=by omega
   have HA:Hid (a=acc (fun j=>cY (ls.getD j []) 255) k):=ha
   rw[<- ha];clear ha hbd hpw;by_cases hlt:k<4
   ·have hce:wr.cell? (At g k)=some (.string (bs (ls.getD k []))):=gw hb hg2 (HX.o k hlt)
    obtain⟨x,hx⟩:∃ x,x=cY (ls.getD k []) 255:=⟨_,rfl⟩
    have hn:Hid (∀ w,Cr prog 185 #[.string (bs (ls.getD k [])),I6 255] w (I6 x)):=by
     rw[hx];intro w;have:=fy (bs (ls.getD k [])) 255 w om om;rw[bN] at this;exact this
    have HN:Hid (x=cY (ls.getD k []) 255):=hx
    clear hx;generalize hst:bs (ls.getD k [])=st at hce hn
    clear hst;by_cases hneg:x<0
    ·go_wp2_with (go_at_call 185;refine(hn.o _).mono ?_;rintro e w2 ⟨rfl,hb2⟩)
     go_ret;refine⟨cM ?_,?_⟩
     ·have:=o9 (l:=s.data.toList) (k:=k) (by rw[<- HP.o];exact h4) hlt (by
       rw[<- HP.o];rcases ei (ls.getD k []) 255 with⟨_,e⟩|⟨n,e,h,_⟩
       ·exact e
       ·have:=HN.o;omega)
      exact this.symm
     ·exact(hb1.trans (hb.mono hb1.size)).trans (hb2.mono (Nat.le_trans hb1.size hb.size))
    ·have hxb:x<=255:=by
      rcases ei (ls.getD k []) 255 with⟨e,_⟩|⟨n,e,h,_⟩
      ·have:=HN.o;omega
      ·have:=HN.o;omega
     have hgood2:Hid (∀ j,j<k+1->num (ls.getD j []) 255≠none):=fun j hj=>by
      by_cases e:j<k
      ·exact hgood.o j e
      ·obtain rfl:j=k:=by omega
       rcases ei (ls.getD j []) 255 with⟨e,_⟩|⟨n,_,_,e⟩
       ·have:=HN.o;omega
       ·rw[e];simp
     clear hgood;go_wp2_with (go_at_call 185;refine(hn.o _).mono ?_;rintro e w2 ⟨rfl,hb2⟩)
     go_roundw
     case rel=>exact⟨k+1,by omega,by go_num,by rw[acc,<- HA.o,<- HN.o],hb.trans (hb2.mono hb.size),hgood2⟩
     case measure=>simp[intOf];omega
   ·obtain rfl:k=4:=by omega
    go_wp2;go_ret;refine⟨cM ?_,hb1.trans (hb.mono hb1.size)⟩
    have h:=mD (l:=s.data.toList) (by rw[<- HP.o];exact h4) (by rw[<- HP.o];exact hgood.o)
    rw[<- HP.o] at h;rw[HA.o];exact h
 ·have hl4:((ls.length:Int)==4)=false:=by simp;omega
  go_enter func184,ntmps184
  go_wp2_with (go_at_call 133;refine(hc.o _).mono ?_;rintro e w1 ⟨v,rfl,hown,hb1⟩;obtain⟨g,cap,hv,hg1,hg2,hg3,hg4,hcell⟩:=dI hown hp;rw[hv];clear hv hown hcell)
  go_ret;exact⟨cM (pg (by rw[<- HP.o];exact h4)).symm,hb1⟩
def rdB(l:Lu):Int:=match rd l with|some p=>p.1|none=>0
def rdN(l:Lu):Int:=match rd l with|some p=>p.2|none=>0
def rdE(l:Lu):Int:=match rd l with|some _=>0|none=>1
theorem cW{l:Lu}(h:rd l=none):rdB l=0/\rdN l=0/\rdE l=1:=by simp[rdB,rdN,rdE,h]
theorem gi{l:Lu}{a n:Int}(h:rd l=some (a,n)):rdB l=a/\rdN l=n/\rdE l=0:=by simp[rdB,rdN,rdE,h]
theorem C6{ls:List (Lu)}(h:ls.length=2):ls=[ls.getD 0 [],ls.getD 1 []]:=by
 match ls,h with
 | [a,b],_=>rfl
theorem tB{l:Lu}(h:(ax 47 l).length≠2):rd l=none:=by
 unfold rd;split
 ·rename_i x y e;rw[e] at h;simp at h
 ·rfl
theorem fo(l:Lu):(bY l=-1/\dv l=none)\/(∃ a:Nat,bY l=a/\dv l=some a):=by
 unfold bY;rcases h:dv l with _|a
 ·exact .inl ⟨rfl,rfl⟩
 ·exact .inr ⟨a,rfl,rfl⟩
theorem CD{p0 p1 p2 p3:Lu}{a:Nat}(h:four p0 p1 p2 p3=some a):a<4294967296:=by
 unfold four at h;split at h
 ·rename_i a0 a1 a2 a3 e0 e1 e2 e3;have h0:=(bA.1 e0).1
  have h1:=(bA.1 e1).1
  have h2:=(bA.1 e2).1
  have h3:=(bA.1 e3).1
  simp at h;omega
 ·cases h
theorem gS{l:Lu}{a:Nat}(h:dv l=some a):a<4294967296:=by
 unfold dv at h;split at h
 ·exact CD h
 ·cases h
theorem Fu{l:Lu}(h:(ax 47 l).length=2):rd l=(match dv ((ax 47 l).getD 0 []),num ((ax 47 l).getD 1 []) 32 with
  | some a,some n=>if rt a n then some ((a:Int),(n:Int)) else none
  | _,_=>none):=by
 conv=>lhs;unfold rd
 rw[C6 h];rfl
theorem yI(c:UInt8)(l:Lu):∀ s:List (Lu)×Lu,∀ B,(∀ p∈s.1,p.length<=B)->s.2.length+l.length<=B->(∀ p∈(bh c s l).1,p.length<=B)/\(bh c s l).2.length<=B:=by
 induction l with
 | nil=>intro s B h1 h2;simp[bh];exact⟨h1,by simpa using h2⟩
 | cons x r ih =>
  intro s B h1 h2;simp only[List.length_cons] at h2
  have:=ih (dm c s x) B (by
   unfold dm;split
   ·intro p hp;simp at hp;rcases hp with hp|rfl
    ·exact h1 p hp
    ·omega
   ·exact h1) (by unfold dm;split<;>simp<;>omega)
  simpa[bh] using this
theorem jk(c:UInt8)(l:Lu)(j:Nat):((ax c l).getD j []).length<=l.length:=by
 obtain⟨h1,h2⟩:=yI c l ([],[]) l.length sM sM
 by_cases h:j<(ax c l).length
 ·have hm:(ax c l).getD j []∈ax c l:=by
   simp[List.getD,List.getElem?_eq_getElem h]
  unfold ax at hm ⊢
  rw[List.mem_append,List.mem_singleton] at hm;rcases hm with hm|hm
  ·exact h1 _ hm
  ·rw[hm];exact h2
 ·simp[List.getD,List.getElem?_eq_none (Nat.le_of_not_lt h)]
theorem xk(s:Bz)(w:World)(ls:List (Lu))(x y:Int)(p0 p1:Bz)(hp:1<=ls.length)
  (hc:Hid (∀ w,Calls prog 133 #[.string s,.int .u8 47] w fun e w'=>∃ v,e=.returned v/\w'.ownsRow w.heap.size 9 1 v ls.length (ik ls)/\Bl w w'))
  (hp0:Hid (bs (ls.getD 0 [])=p0)) (hp1:Hid (bs (ls.getD 1 [])=p1))
  (ca:Hid (∀ w,Cr prog 184 #[.string p0] w (I6 x)))
  (cn:Hid (∀ w,Cr prog 185 #[.string p1,I6 32] w (I6 y))) (h:((ls.length:Int)==2)=false) :
  Cr prog 181 #[.string s] w (.tuple #[.agg #[U3 (0),I6 (0)],I6 (1)]):=by
 go_enter func181,ntmps181
 go_wp2_with (first|(go_at_call 133;refine(hc.o _).mono ?_;rintro e w1 ⟨v,rfl,hown,hb1⟩;obtain⟨g,cap,hv,hg1,hg2,hg3,hg4,hcell⟩:=dI hown hp;rw[hv];clear hv hown;have hg5:w.heap.size<g:=(by simp at hg1;omega);obtain⟨hc,hf⟩:=aS hb1;have c1_0_0:w1.cell? (Nw w 0)=some (U3 0):=((hc _ _ byO).trans byC);have f1_0_0:w1.frozen? (Nw w 0)=false:=((hf _ _ byO).trans byF);have c1_0_1:w1.cell? (Nw w 1)=some (I6 0):=((hc _ _ byO).trans byC);have f1_0_1:w1.frozen? (Nw w 1)=false:=((hf _ _ byO).trans byF);have z1_0:w.heap.size<w1.heap.size:=(by have:=hb1.size;(try simp at this);omega);clear hc hf;clear hcell hg1))
 exact bodyPost_ret (v:=.tuple #[.agg #[U3 (0),I6 (0)],I6 (1)]) (by simp[results,results181,go_sem,c1_0_0,c1_0_1,f1_0_0,f1_0_1,World.cell?_alloc_lt,z1_0,Nat.lt_succ_of_lt z1_0]) rfl ⟨rfl,(by have hq:=hb1.mono (B':=w.heap.size) byO;have hq2:=Below.trans (B:=w.heap.size) (a:=w) upB hq;clear hq;have s1:=hq2.size;exact upB)⟩
theorem tJ(s:Bz)(w:World)(ls:List (Lu))(x y:Int)(p0 p1:Bz)(hp:1<=ls.length)
  (hc:Hid (∀ w,Calls prog 133 #[.string s,.int .u8 47] w fun e w'=>∃ v,e=.returned v/\w'.ownsRow w.heap.size 9 1 v ls.length (ik ls)/\Bl w w'))
  (hp0:Hid (bs (ls.getD 0 [])=p0)) (hp1:Hid (bs (ls.getD 1 [])=p1))
  (ca:Hid (∀ w,Cr prog 184 #[.string p0] w (I6 x)))
  (cn:Hid (∀ w,Cr prog 185 #[.string p1,I6 32] w (I6 y))) (h2:ls.length=2) (hx:x<0) :
  Cr prog 181 #[.string s] w (.tuple #[.agg #[U3 (0),I6 (0)],I6 (1)]):=by
 have h:((ls.length:Int)==2)=true:=by simp;omega
 go_enter func181,ntmps181
 go_wp2_with (first|(go_at_call 133;refine(hc.o _).mono ?_;rintro e w1 ⟨v,rfl,hown,hb1⟩;obtain⟨g,cap,hv,hg1,hg2,hg3,hg4,hcell⟩:=dI hown hp;rw[hv];clear hv hown;have hg5:w.heap.size<g:=(by simp at hg1;omega);have c1_1_0:w1.cell? (At g 0)=some (.string p0):=(by rw[hcell 0 om,hp0.o]);have c1_1_1:w1.cell? (At g 1)=some (.string p1):=(by rw[hcell 1 om,hp1.o]);obtain⟨hc,hf⟩:=aS hb1;have c1_0_0:w1.cell? (Nw w 0)=some (U3 0):=((hc _ _ byO).trans byC);have f1_0_0:w1.frozen? (Nw w 0)=false:=((hf _ _ byO).trans byF);have c1_0_1:w1.cell? (Nw w 1)=some (I6 0):=((hc _ _ byO).trans byC);have f1_0_1:w1.frozen? (Nw w 1)=false:=((hf _ _ byO).trans byF);have z1_0:w.heap.size<w1.heap.size:=(by have:=hb1.size;(try simp at this);omega);clear hc hf;clear hcell hg1)|(go_at_call 184;refine Mo (ca.o _) fun w2 hb2=>?_;obtain⟨hc,hf⟩:=aS hb2;have c2_0_0:w2.cell? (Nw w 0)=some (U3 0):=((hc _ _ byO).trans byC);have f2_0_0:w2.frozen? (Nw w 0)=false:=((hf _ _ byO).trans byF);have c2_0_1:w2.cell? (Nw w 1)=some (I6 0):=((hc _ _ byO).trans byC);have f2_0_1:w2.frozen? (Nw w 1)=false:=((hf _ _ byO).trans byF);have c2_1_0:w2.cell? (At g 0)=some (.string p0):=((hc _ _ byO).trans byC);have c2_1_1:w2.cell? (At g 1)=some (.string p1):=((hc _ _ byO).trans byC);have z2_0:w.heap.size<w2.heap.size:=(by have:=hb2.size;(try simp at this);omega);have z2_1:g<w2.heap.size:=(by have:=hb2.size;(try simp at this);omega);clear hc hf;clear c1_0_0 c1_0_1 f1_0_0 f1_0_1 z1_0 c1_1_0 c1_1_1)|(go_at_call 185;refine Mo (cn.o _) fun w3 hb3=>?_;obtain⟨hc,hf⟩:=aS hb3;have c3_0_0:w3.cell? (Nw w 0)=some (U3 0):=((hc _ _ byO).trans byC);have f3_0_0:w3.frozen? (Nw w 0)=false:=((hf _ _ byO).trans byF);have c3_0_1:w3.cell? (Nw w 1)=some (I6 0):=((hc _ _ byO).trans byC);have f3_0_1:w3.frozen? (Nw w 1)=false:=((hf _ _ byO).trans byF);have z3_0:w.heap.size<w3.heap.size:=(by have:=hb3.size;(try simp at this);omega);clear hc hf;clear c2_0_0 c2_0_1 f2_0_0 f2_0_1 z2_0 c2_1_0 c2_1_1 z2_1))
 exact bodyPost_ret (v:=.tuple #[.agg #[U3 (0),I6 (0)],I6 (1)]) (by simp[results,results181,go_sem,c3_0_0,c3_0_1,f3_0_0,f3_0_1,World.cell?_alloc_lt,z3_0,Nat.lt_succ_of_lt z3_0]) rfl ⟨rfl,(by have hq:=hb1.mono (B':=w.heap.size) byO;have hq2:=Below.trans (B:=w.heap.size) (a:=w) upB hq;clear hq;have s1:=hq2.size;have hq3:=Below.trans (B:=w.heap.size) (a:=w) upB (hb2.mono (B':=w.heap.size) byO);have s2:=hq3.size;clear hq2;have hq4:=Below.trans (B:=w.heap.size) (a:=w) upB (hb3.mono (B':=w.heap.size) byO);have s3:=hq4.size;clear hq3;exact upB)⟩
theorem xn(s:Bz)(w:World)(ls:List (Lu))(x y:Int)(p0 p1:Bz)(hp:1<=ls.length)
  (hc:Hid (∀ w,Calls prog 133 #[.string s,.int .u8 47] w fun e w'=>∃ v,e=.returned v/\w'.ownsRow w.heap.size 9 1 v ls.length (ik ls)/\Bl w w'))
  (hp0:Hid (bs (ls.getD 0 [])=p0)) (hp1:Hid (bs (ls.getD 1 [])=p1))
  (ca:Hid (∀ w,Cr prog 184 #[.string p0] w (I6 x)))
  (cn:Hid (∀ w,Cr prog 185 #[.string p1,I6 32] w (I6 y))) (h2:ls.length=2) (hx:¬x<0) (hy:y<0) :
  Cr prog 181 #[.string s] w (.tuple #[.agg #[U3 (0),I6 (0)],I6 (1)]):=by
 have h:((ls.length:Int)==2)=true:=by simp;omega
 go_enter func181,ntmps181
 go_wp2_with (first|(go_at_call 133;refine(hc.o _).mono ?_;rintro e w1 ⟨v,rfl,hown,hb1⟩;obtain⟨g,cap,hv,hg1,hg2,hg3,hg4,hcell⟩:=dI hown hp;rw[hv];clear hv hown;have hg5:w.heap.size<g:=(by simp at hg1;omega);have c1_1_0:w1.cell? (At g 0)=some (.string p0):=(by rw[hcell 0 om,hp0.o]);have c1_1_1:w1.cell? (At g 1)=some (.string p1):=(by rw[hcell 1 om,hp1.o]);obtain⟨hc,hf⟩:=aS hb1;have c1_0_0:w1.cell? (Nw w 0)=some (U3 0):=((hc _ _ byO).trans byC);have f1_0_0:w1.frozen? (Nw w 0)=false:=((hf _ _ byO).trans byF);have c1_0_1:w1.cell? (Nw w 1)=some (I6 0):=((hc _ _ byO).trans byC);have f1_0_1:w1.frozen? (Nw w 1)=false:=((hf _ _ byO).trans byF);have z1_0:w.heap.size<w1.heap.size:=(by have:=hb1.size;(try simp at this);omega);clear hc hf;clear hcell hg1)|(go_at_call 184;refine Mo (ca.o _) fun w2 hb2=>?_;obtain⟨hc,hf⟩:=aS hb2;have c2_0_0:w2.cell? (Nw w 0)=some (U3 0):=((hc _ _ byO).trans byC);have f2_0_0:w2.frozen? (Nw w 0)=false:=((hf _ _ byO).trans byF);have c2_0_1:w2.cell? (Nw w 1)=some (I6 0):=((hc _ _ byO).trans byC);have f2_0_1:w2.frozen? (Nw w 1)=false:=((hf _ _ byO).trans byF);have c2_1_0:w2.cell? (At g 0)=some (.string p0):=((hc _ _ byO).trans byC);have c2_1_1:w2.cell? (At g 1)=some (.string p1):=((hc _ _ byO).trans byC);have z2_0:w.heap.size<w2.heap.size:=(by have:=hb2.size;(try simp at this);omega);have z2_1:g<w2.heap.size:=(by have:=hb2.size;(try simp at this);omega);clear hc hf;clear c1_0_0 c1_0_1 f1_0_0 f1_0_1 z1_0 c1_1_0 c1_1_1)|(go_at_call 185;refine Mo (cn.o _) fun w3 hb3=>?_;obtain⟨hc,hf⟩:=aS hb3;have c3_0_0:w3.cell? (Nw w 0)=some (U3 0):=((hc _ _ byO).trans byC);have f3_0_0:w3.frozen? (Nw w 0)=false:=((hf _ _ byO).trans byF);have c3_0_1:w3.cell? (Nw w 1)=some (I6 0):=((hc _ _ byO).trans byC);have f3_0_1:w3.frozen? (Nw w 1)=false:=((hf _ _ byO).trans byF);have z3_0:w.heap.size<w3.heap.size:=(by have:=hb3.size;(try simp at this);omega);clear hc hf;clear c2_0_0 c2_0_1 f2_0_0 f2_0_1 z2_0 c2_1_0 c2_1_1 z2_1))
 exact bodyPost_ret (v:=.tuple #[.agg #[U3 (0),I6 (0)],I6 (1)]) (by simp[results,results181,go_sem,c3_0_0,c3_0_1,f3_0_0,f3_0_1,World.cell?_alloc_lt,z3_0,Nat.lt_succ_of_lt z3_0]) rfl ⟨rfl,(by have hq:=hb1.mono (B':=w.heap.size) byO;have hq2:=Below.trans (B:=w.heap.size) (a:=w) upB hq;clear hq;have s1:=hq2.size;have hq3:=Below.trans (B:=w.heap.size) (a:=w) upB (hb2.mono (B':=w.heap.size) byO);have s2:=hq3.size;clear hq2;have hq4:=Below.trans (B:=w.heap.size) (a:=w) upB (hb3.mono (B':=w.heap.size) byO);have s3:=hq4.size;clear hq3;exact upB)⟩
theorem xm(s:Bz)(w:World)(ls:List (Lu))(x y:Int)(p0 p1:Bz)(hp:1<=ls.length)
  (hc:Hid (∀ w,Calls prog 133 #[.string s,.int .u8 47] w fun e w'=>∃ v,e=.returned v/\w'.ownsRow w.heap.size 9 1 v ls.length (ik ls)/\Bl w w'))
  (hp0:Hid (bs (ls.getD 0 [])=p0)) (hp1:Hid (bs (ls.getD 1 [])=p1))
  (ca:Hid (∀ w,Cr prog 184 #[.string p0] w (I6 x)))
  (cn:Hid (∀ w,Cr prog 185 #[.string p1,I6 32] w (I6 y))) (h2:ls.length=2) (hx:¬x<0) (hy:¬y<0) (x0:0<=x) (x1:x<4294967296) (hr:rt x y=false) :
  Cr prog 181 #[.string s] w (.tuple #[.agg #[U3 (0),I6 (0)],I6 (1)]):=by
 have h:((ls.length:Int)==2)=true:=by simp;omega
 go_enter func181,ntmps181
 go_wp2_with (first|(go_at_call 133;refine(hc.o _).mono ?_;rintro e w1 ⟨v,rfl,hown,hb1⟩;obtain⟨g,cap,hv,hg1,hg2,hg3,hg4,hcell⟩:=dI hown hp;rw[hv];clear hv hown;have hg5:w.heap.size<g:=(by simp at hg1;omega);have c1_1_0:w1.cell? (At g 0)=some (.string p0):=(by rw[hcell 0 om,hp0.o]);have c1_1_1:w1.cell? (At g 1)=some (.string p1):=(by rw[hcell 1 om,hp1.o]);obtain⟨hc,hf⟩:=aS hb1;have c1_0_0:w1.cell? (Nw w 0)=some (U3 0):=((hc _ _ byO).trans byC);have f1_0_0:w1.frozen? (Nw w 0)=false:=((hf _ _ byO).trans byF);have c1_0_1:w1.cell? (Nw w 1)=some (I6 0):=((hc _ _ byO).trans byC);have f1_0_1:w1.frozen? (Nw w 1)=false:=((hf _ _ byO).trans byF);have z1_0:w.heap.size<w1.heap.size:=(by have:=hb1.size;(try simp at this);omega);clear hc hf;clear hcell hg1)|(go_at_call 184;refine Mo (ca.o _) fun w2 hb2=>?_;obtain⟨hc,hf⟩:=aS hb2;have c2_0_0:w2.cell? (Nw w 0)=some (U3 0):=((hc _ _ byO).trans byC);have f2_0_0:w2.frozen? (Nw w 0)=false:=((hf _ _ byO).trans byF);have c2_0_1:w2.cell? (Nw w 1)=some (I6 0):=((hc _ _ byO).trans byC);have f2_0_1:w2.frozen? (Nw w 1)=false:=((hf _ _ byO).trans byF);have c2_1_0:w2.cell? (At g 0)=some (.string p0):=((hc _ _ byO).trans byC);have c2_1_1:w2.cell? (At g 1)=some (.string p1):=((hc _ _ byO).trans byC);have z2_0:w.heap.size<w2.heap.size:=(by have:=hb2.size;(try simp at this);omega);have z2_1:g<w2.heap.size:=(by have:=hb2.size;(try simp at this);omega);clear hc hf;clear c1_0_0 c1_0_1 f1_0_0 f1_0_1 z1_0 c1_1_0 c1_1_1)|(go_at_call 185;refine Mo (cn.o _) fun w3 hb3=>?_;obtain⟨hc,hf⟩:=aS hb3;have c3_0_0:w3.cell? (Nw w 0)=some (U3 0):=((hc _ _ byO).trans byC);have f3_0_0:w3.frozen? (Nw w 0)=false:=((hf _ _ byO).trans byF);have c3_0_1:w3.cell? (Nw w 1)=some (I6 0):=((hc _ _ byO).trans byC);have f3_0_1:w3.frozen? (Nw w 1)=false:=((hf _ _ byO).trans byF);have z3_0:w.heap.size<w3.heap.size:=(by have:=hb3.size;(try simp at this);omega);clear hc hf;clear c2_0_0 c2_0_1 f2_0_0 f2_0_1 z2_0 c2_1_0 c2_1_1 z2_1)|(go_at_call 223;refine Mo (bW _ _ _ x0 x1) fun w4 hb4=>?_;obtain⟨hc,hf⟩:=aS hb4;have c4_0_0:w4.cell? (Nw w 0)=some (U3 0):=((hc _ _ byO).trans byC);have f4_0_0:w4.frozen? (Nw w 0)=false:=((hf _ _ byO).trans byF);have c4_0_1:w4.cell? (Nw w 1)=some (I6 0):=((hc _ _ byO).trans byC);have f4_0_1:w4.frozen? (Nw w 1)=false:=((hf _ _ byO).trans byF);have c4_1_0:w4.cell? (Nw w3 0)=some (U3 x):=((hc _ _ byO).trans byC);have c4_1_1:w4.cell? (Nw w3 1)=some (I6 y):=((hc _ _ byO).trans byC);have z4_0:w.heap.size<w4.heap.size:=(by have:=hb4.size;(try simp at this);omega);have z4_1:w3.heap.size<w4.heap.size:=(by have:=hb4.size;(try simp at this);omega);clear hc hf;clear c3_0_0 c3_0_1 f3_0_0 f3_0_1 z3_0))
 exact bodyPost_ret (v:=.tuple #[.agg #[U3 (0),I6 (0)],I6 (1)]) (by simp[results,results181,go_sem,c4_0_0,c4_0_1,f4_0_0,f4_0_1,World.cell?_alloc_lt,z4_0,Nat.lt_succ_of_lt z4_0]) rfl ⟨rfl,(by have hq:=hb1.mono (B':=w.heap.size) byO;have hq2:=Below.trans (B:=w.heap.size) (a:=w) upB hq;clear hq;have s1:=hq2.size;have hq3:=Below.trans (B:=w.heap.size) (a:=w) upB (hb2.mono (B':=w.heap.size) byO);have s2:=hq3.size;clear hq2;have hq4:=Below.trans (B:=w.heap.size) (a:=w) upB (hb3.mono (B':=w.heap.size) byO);have s3:=hq4.size;clear hq3;have hq5:=Below.trans (B:=w.heap.size) (a:=w) upB (hb4.mono (B':=w.heap.size) byO);have s4:=hq5.size;clear hq4;exact upB)⟩
theorem A7(s:Bz)(w:World)(ls:List (Lu))(x y:Int)(p0 p1:Bz)(hp:1<=ls.length)
  (hc:Hid (∀ w,Calls prog 133 #[.string s,.int .u8 47] w fun e w'=>∃ v,e=.returned v/\w'.ownsRow w.heap.size 9 1 v ls.length (ik ls)/\Bl w w'))
  (hp0:Hid (bs (ls.getD 0 [])=p0)) (hp1:Hid (bs (ls.getD 1 [])=p1))
  (ca:Hid (∀ w,Cr prog 184 #[.string p0] w (I6 x)))
  (cn:Hid (∀ w,Cr prog 185 #[.string p1,I6 32] w (I6 y))) (h2:ls.length=2) (hx:¬x<0) (hy:¬y<0) (x0:0<=x) (x1:x<4294967296) (hr:rt x y=true) :
  Cr prog 181 #[.string s] w (.tuple #[.agg #[U3 (x),I6 (y)],I6 (0)]):=by
 have h:((ls.length:Int)==2)=true:=by simp;omega
 go_enter func181,ntmps181
 go_wp2_with (first|(go_at_call 133;refine(hc.o _).mono ?_;rintro e w1 ⟨v,rfl,hown,hb1⟩;obtain⟨g,cap,hv,hg1,hg2,hg3,hg4,hcell⟩:=dI hown hp;rw[hv];clear hv hown;have hg5:w.heap.size<g:=(by simp at hg1;omega);have c1_1_0:w1.cell? (At g 0)=some (.string p0):=(by rw[hcell 0 om,hp0.o]);have c1_1_1:w1.cell? (At g 1)=some (.string p1):=(by rw[hcell 1 om,hp1.o]);obtain⟨hc,hf⟩:=aS hb1;have c1_0_0:w1.cell? (Nw w 0)=some (U3 0):=((hc _ _ byO).trans byC);have f1_0_0:w1.frozen? (Nw w 0)=false:=((hf _ _ byO).trans byF);have c1_0_1:w1.cell? (Nw w 1)=some (I6 0):=((hc _ _ byO).trans byC);have f1_0_1:w1.frozen? (Nw w 1)=false:=((hf _ _ byO).trans byF);have z1_0:w.heap.size<w1.heap.size:=(by have:=hb1.size;(try simp at this);omega);clear hc hf;clear hcell hg1)|(go_at_call 184;refine Mo (ca.o _) fun w2 hb2=>?_;obtain⟨hc,hf⟩:=aS hb2;have c2_0_0:w2.cell? (Nw w 0)=some (U3 0):=((hc _ _ byO).trans byC);have f2_0_0:w2.frozen? (Nw w 0)=false:=((hf _ _ byO).trans byF);have c2_0_1:w2.cell? (Nw w 1)=some (I6 0):=((hc _ _ byO).trans byC);have f2_0_1:w2.frozen? (Nw w 1)=false:=((hf _ _ byO).trans byF);have c2_1_0:w2.cell? (At g 0)=some (.string p0):=((hc _ _ byO).trans byC);have c2_1_1:w2.cell? (At g 1)=some (.string p1):=((hc _ _ byO).trans byC);have z2_0:w.heap.size<w2.heap.size:=(by have:=hb2.size;(try simp at this);omega);have z2_1:g<w2.heap.size:=(by have:=hb2.size;(try simp at this);omega);clear hc hf;clear c1_0_0 c1_0_1 f1_0_0 f1_0_1 z1_0 c1_1_0 c1_1_1)|(go_at_call 185;refine Mo (cn.o _) fun w3 hb3=>?_;obtain⟨hc,hf⟩:=aS hb3;have c3_0_0:w3.cell? (Nw w 0)=some (U3 0):=((hc _ _ byO).trans byC);have f3_0_0:w3.frozen? (Nw w 0)=false:=((hf _ _ byO).trans byF);have c3_0_1:w3.cell? (Nw w 1)=some (I6 0):=((hc _ _ byO).trans byC);have f3_0_1:w3.frozen? (Nw w 1)=false:=((hf _ _ byO).trans byF);have z3_0:w.heap.size<w3.heap.size:=(by have:=hb3.size;(try simp at this);omega);clear hc hf;clear c2_0_0 c2_0_1 f2_0_0 f2_0_1 z2_0 c2_1_0 c2_1_1 z2_1)|(go_at_call 223;refine Mo (bW _ _ _ x0 x1) fun w4 hb4=>?_;obtain⟨hc,hf⟩:=aS hb4;have c4_0_0:w4.cell? (Nw w 0)=some (U3 0):=((hc _ _ byO).trans byC);have f4_0_0:w4.frozen? (Nw w 0)=false:=((hf _ _ byO).trans byF);have c4_0_1:w4.cell? (Nw w 1)=some (I6 0):=((hc _ _ byO).trans byC);have f4_0_1:w4.frozen? (Nw w 1)=false:=((hf _ _ byO).trans byF);have c4_1_0:w4.cell? (Nw w3 0)=some (U3 x):=((hc _ _ byO).trans byC);have c4_1_1:w4.cell? (Nw w3 1)=some (I6 y):=((hc _ _ byO).trans byC);have z4_0:w.heap.size<w4.heap.size:=(by have:=hb4.size;(try simp at this);omega);have z4_1:w3.heap.size<w4.heap.size:=(by have:=hb4.size;(try simp at this);omega);clear hc hf;clear c3_0_0 c3_0_1 f3_0_0 f3_0_1 z3_0))
 exact bodyPost_ret (v:=.tuple #[.agg #[U3 (x),I6 (y)],I6 (0)]) (by simp[results,results181,go_sem,c4_0_0,c4_0_1,f4_0_0,f4_0_1,World.cell?_alloc_lt,z4_0,Nat.lt_succ_of_lt z4_0]) rfl ⟨rfl,(by have hq:=hb1.mono (B':=w.heap.size) byO;have hq2:=Below.trans (B:=w.heap.size) (a:=w) upB hq;clear hq;have s1:=hq2.size;have hq3:=Below.trans (B:=w.heap.size) (a:=w) upB (hb2.mono (B':=w.heap.size) byO);have s2:=hq3.size;clear hq2;have hq4:=Below.trans (B:=w.heap.size) (a:=w) upB (hb3.mono (B':=w.heap.size) byO);have s3:=hq4.size;clear hq3;have hq5:=Below.trans (B:=w.heap.size) (a:=w) upB (hb4.mono (B':=w.heap.size) byO);have s4:=hq5.size;clear hq4;exact upB)⟩
theorem jY(s:Bz)(w:World)(hs:s.size<=2097152):Cr prog 181 #[.string s] w (.tuple #[.agg #[U3 (rdB s.data.toList),I6 (rdN s.data.toList)],I6 (rdE s.data.toList)]):=by
 have hp:=dJ 47 s.data.toList;have hc:∀ w,Calls prog 133 #[.string s,.int .u8 47] w fun e w'=>∃ v,e=.returned v/\w'.ownsRow w.heap.size 9 1 v (ax 47 s.data.toList).length (ik (ax 47 s.data.toList))/\Bl w w':=fun w=>iN s 47 47 w rfl hs
 have hsz:∀ j,(bs ((ax 47 s.data.toList).getD j [])).size<=2097152:=fun j=>by
  rw[aN];have h1:=jk 47 s.data.toList j;have h2:=Lib.size_eq s;omega
 have ca:∀ w,Cr prog 184 #[.string (bs ((ax 47 s.data.toList).getD 0 []))] w (I6 (bY ((ax 47 s.data.toList).getD 0 []))):=fun w=>by
  have h:=gh (bs ((ax 47 s.data.toList).getD 0 [])) w (hsz 0)
  rw[bN] at h;exact h
 have cn:∀ w,Cr prog 185 #[.string (bs ((ax 47 s.data.toList).getD 1 [])),I6 32] w (I6 (cY ((ax 47 s.data.toList).getD 1 []) 32)):=fun w=>by
  have h:=fy (bs ((ax 47 s.data.toList).getD 1 [])) 32 w om om
  rw[bN] at h;exact h
 by_cases h2:(ax 47 s.data.toList).length=2
 ·have hrd:=Fu h2;rcases fo ((ax 47 s.data.toList).getD 0 []) with⟨e0,e1⟩|⟨a,e0,e1⟩
  ·rw[e1] at hrd;obtain⟨q1,q2,q3⟩:=cW hrd;rw[q1,q2,q3];exact tJ s w _ _ _ _ _ hp hc rfl rfl ca cn h2 om
  ·have hlt:=gS e1;rcases ei ((ax 47 s.data.toList).getD 1 []) 32 with⟨m0,m1⟩|⟨n,m0,m2,m1⟩
   ·rw[e1,m1] at hrd;obtain⟨q1,q2,q3⟩:=cW hrd;rw[q1,q2,q3];exact xn s w _ _ _ _ _ hp hc rfl rfl ca cn h2 om om
   ·rw[e1,m1] at hrd;rw[e0] at ca;rw[m0] at cn;rcases hr:rt (a:Int) (n:Int) with _|_
    ·simp only[hr] at hrd
     obtain⟨q1,q2,q3⟩:=cW hrd;rw[q1,q2,q3];exact xm s w _ _ _ _ _ hp hc rfl rfl ca cn h2 om om om om hr
    ·simp only[hr] at hrd
     obtain⟨q1,q2,q3⟩:=gi hrd;rw[q1,q2,q3];exact A7 s w _ _ _ _ _ hp hc rfl rfl ca cn h2 om om om om hr
 ·obtain⟨q1,q2,q3⟩:=cW (tB h2)
  rw[q1,q2,q3];exact xk s w _ _ _ _ _ hp hc rfl rfl ca cn (by simp;omega)
end
section
open Go.RowKit
theorem jc(c:UInt8)(l:Lu)(h:c∉l):Lib.index l [c]=-1:=by
 rw[Lib.index_one];induction l with
 | nil=>rfl
 | cons x r ih =>
  have hx:(x==c)=false:=by simpa using fun e:x=c=>h (by simp[e])
  have hr:c∉r:=fun e=>h (by simp[e])
  unfold Lib.indexByte;rw[hx,ih hr];rfl
theorem jb(c:UInt8)(a b:Lu)(h:c∉a):Lib.index (a++c::b) [c]=a.length:=by
 rw[Lib.index_one];induction a with
 | nil=>simp[Lib.indexByte]
 | cons x r ih =>
  have hx:(x==c)=false:=by simpa using fun e:x=c=>h (by simp[e])
  have hr:c∉r:=fun e=>h (by simp[e])
  rw[List.cons_append];unfold Lib.indexByte;rw[hx,ih hr];have:¬(((r.length:Nat):Int)==-1)=true:=by simp
  rw[if_neg sM,if_neg this]
  simp
theorem r9(c:UInt8)(l:Lu)(h:c∉l):Lib.cut l [c]=(l,[],false):=by
 unfold Lib.cut;rw[jc c l h];rfl
theorem r8(c:UInt8)(a b:Lu)(h:c∉a):Lib.cut (a++c::b) [c]=(a,b,true):=by
 unfold Lib.cut;rw[jb c a b h,if_pos om];simp
theorem q8(c:UInt8)(k:Nat)(a b:Lu)(h:c∉a):Lib.splitK [c] 0 (k+1) (a++c::b)=a::Lib.splitK [c] 0 k b:=by
 have e:Lib.splitK [c] 0 (k+1) (a++c::b)=if Lib.index (a++c::b) [c]==-1 then [a++c::b] else (a++c::b).take ((Lib.index (a++c::b) [c]).toNat+0)::Lib.splitK [c] 0 k ((a++c::b).drop ((Lib.index (a++c::b) [c]).toNat+[c].length)):=rfl
 have:¬(((a.length:Nat):Int)==-1)=true:=by simp
 rw[e,jb c a b h,if_neg this];simp
theorem Bc(c:UInt8)(k:Nat)(l:Lu)(h:c∉l):Lib.splitK [c] 0 k l=[l]:=by
 cases k with
 | zero=>rfl
 | succ k=>unfold Lib.splitK;rw[jc c l h];rfl
theorem q9(c:UInt8)(k:Nat):∀ l:Lu,((ax c l).length<=k+1->Lib.splitK [c] 0 k l=ax c l)/\(k+1<(ax c l).length->(Lib.splitK [c] 0 k l).length=k+1):=by
 induction k with
 | zero =>
  intro l;rcases eR c l with h|⟨a,b,rfl,h⟩
  ·rw[cE c l h];exact⟨fun _=>rfl,fun e=>by simp at e⟩
  ·rw[bC c a b h];have:=dJ c b
   exact⟨fun e=>by rw[List.length_cons] at e;omega,fun _=>rfl⟩
 | succ k ih =>
  intro l;rcases eR c l with h|⟨a,b,rfl,h⟩
  ·rw[cE c l h,Bc c _ l h];exact⟨fun _=>rfl,fun e=>by simp at e⟩
  ·rw[bC c a b h,q8 c k a b h];obtain⟨h1,h2⟩:=ih b;exact⟨fun e=>by rw[h1 (by rw[List.length_cons] at e;omega)],fun e=>by rw[List.length_cons] at e ⊢;rw[h2 om]⟩
theorem Ay(c:UInt8)(l:Lu):(ax c l).length<=l.length+1:=by
 have:=ud c l ([],[])
 unfold ax;simp at this ⊢;exact this
theorem tK(l:Lu):((Lib.splitK [46] 0 (min 5 (l.length+1)-1) l).length=4 ↔ (ax 46 l).length=4)/\((ax 46 l).length=4->Lib.splitK [46] 0 (min 5 (l.length+1)-1) l=ax 46 l):=by
 obtain⟨h1,h2⟩:=q9 46 (min 5 (l.length+1)-1) l
 have h3:=Ay 46 l;by_cases h:(ax 46 l).length<=min 5 (l.length+1)-1+1
 ·rw[h1 h];exact⟨Iff.rfl,fun _=>rfl⟩
 ·have:=h2 om
  exact⟨⟨fun e=>by omega,fun e=>by omega⟩,fun e=>by omega⟩
end
end Go.Proofs.YtjnhhnbgjjkkjaaGreatDoor
