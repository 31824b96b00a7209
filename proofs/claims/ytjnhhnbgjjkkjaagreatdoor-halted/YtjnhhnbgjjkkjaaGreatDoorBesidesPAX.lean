/-
  TextRefB, TextRefC, TextRefD, TextCut, BkWd
-/
import Derived.OwnWalk
import Derived.Laws.OwnMore
import Derived.Test.YtjnhhnbgjjkkjaaGreatDoorBesidesPAA
import Derived.Test.YtjnhhnbgjjkkjaaGreatDoorBesidesPAD
import Derived.Lib.IndexBytes
namespace Go.Proofs.YtjnhhnbgjjkkjaaGreatDoor
open Go.ChangeShapes Go.WideShapes Go.ChangeAt Go.RowKit
set_option linter.unusedVariables false
set_option linter.unusedSimpArgs false
theorem infoStr:(Tryz.prog.info? 9).map (fun i=>(i.zero,i.size,i.bytes))=some (some (.string ByteArray.empty),1,16):=by kernel_rfl
def strs (ls:List (List UInt8)):List Value:=ls.map fun l=>Value.string (bs l)
theorem strs_snoc (ls:List (List UInt8)) (l:List UInt8):strs ls++[.string (bs l)]=strs (ls++[l]):=by simp[strs]
theorem take_snoc (s:ByteArray) (k:Nat) (h:k<s.size):s.data.toList.take (k+1)=s.data.toList.take k++[s[k]]:=by
  rw[List.take_succ_eq_append_getElem (by simpa using h)];rfl
theorem cut_snoc (c:UInt8) (l:List UInt8) (x:UInt8):cutAll c ([],[]) (l++[x])=cutStep c (cutAll c ([],[]) l) x:=by simp[cutAll]
theorem cut_len (c:UInt8) (l:List UInt8):∀ s,(cutAll c s l).1.length<=s.1.length+l.length:=by
  induction l with
  | nil=>intro s;simp[cutAll]
  | cons x r ih =>
    intro s;have:=ih (cutStep c s x)
    have h2:(cutStep c s x).1.length<=s.1.length+1:=by unfold cutStep;split<;>simp
    simp only[cutAll,List.foldl_cons,List.length_cons] at this ⊢
    omega
theorem ext_bs (s:ByteArray) (a b:Nat):s.extract a b=bs ((s.data.toList.take b).drop a):=by
  apply ByteArray.ext
  apply Array.ext'
  rw[bs_data,Lib.extract_data,List.drop_take]
theorem parts_hit (s:ByteArray) (c:Int) (cb:UInt8) (k g:Nat) (F:List (List UInt8)) (hlt:k<s.size) (hg:g<=k) (hc:c=cb.toNat) (hx:(((s[k].toNat:Nat):Int)==c)=true)
    (h:cutAll cb ([],[]) (s.data.toList.take k)=(F,(s.data.toList.take k).drop g)):cutAll cb ([],[]) (s.data.toList.take (k+1))=(F++[(s.data.toList.take k).drop g],(s.data.toList.take (k+1)).drop (k+1)):=by
  have e:s[k]=cb:=by
    rw[beq_iff_eq,hc] at hx;exact UInt8.toNat_inj.1 om
  rw[take_snoc s k hlt,cut_snoc,h,cutStep,if_pos e,<- take_snoc s k hlt];congr 1
  rw[List.drop_of_length_le (by simp;omega)]
theorem parts_miss (s:ByteArray) (c:Int) (cb:UInt8) (k g:Nat) (F:List (List UInt8)) (hlt:k<s.size) (hg:g<=k) (hc:c=cb.toNat) (hx:(((s[k].toNat:Nat):Int)==c)=false)
    (h:cutAll cb ([],[]) (s.data.toList.take k)=(F,(s.data.toList.take k).drop g)):cutAll cb ([],[]) (s.data.toList.take (k+1))=(F,(s.data.toList.take (k+1)).drop g):=by
  have e:¬s[k]=cb:=by
    rw[beq_eq_false_iff_ne,hc] at hx;intro e;rw[e] at hx;exact hx rfl
  have hl:g<=(s.data.toList.take k).length:=by
    have:=Lib.size_eq s
    simp;omega
  rw[take_snoc s k hlt,cut_snoc,h,cutStep,if_neg e,List.drop_append_of_le_length hl]
theorem parts_end (s:ByteArray) (cb:UInt8) (k g:Nat) (F:List (List UInt8)) (hk:k=s.size)
    (h:cutAll cb ([],[]) (s.data.toList.take k)=(F,(s.data.toList.take k).drop g)):parts cb s.data.toList=F++[(s.data.toList.take k).drop g]:=by
  have e:s.data.toList.take k=s.data.toList:=List.take_of_length_le (by have:=Lib.size_eq s;omega)
  rw[e] at h ⊢;unfold parts;rw[h]
def addrI (l:List UInt8):Int:=match addr l with|some a=>(a:Int)|none=>-1
def acc (X:Nat->Int):Nat->Int
  | 0=>0
  | k+1=>256*acc X k+X k
theorem acc_bd (X:Nat->Int) (k:Nat) (hk:k<=4) (h:∀ j,j<k->0<=X j/\X j<=255):0<=acc X k/\acc X k<=256^k-1:=by
  induction k with
  | zero=>simp[acc]
  | succ k ih =>
    have:=ih om (fun j hj=>h j om)
    have hx:=h k om;rw[acc,Int.pow_succ];omega
theorem numI_cases (l:List UInt8) (m:Nat):(numI l m=-1/\num l m=none)\/(∃ n:Nat,numI l m=n/\n<=m/\num l m=some n):=by
  unfold numI;rcases h:num l m with _|n
  . exact .inl ⟨rfl,rfl⟩
  . exact .inr ⟨n,rfl,(num_some.1 h).1,rfl⟩
theorem owns_form {w:World} {base:Nat} {v:Value} {ls:List (List UInt8)} (h:w.ownsRow base 9 1 v ls.length (strs ls)) (hl:1<=ls.length) :
    ∃ g cap,v=.slice (some ⟨g,0,none⟩) ls.length cap/\base<=g/\g<w.heap.size/\ls.length<=cap/\cap<=maxLen/\∀ j,j<ls.length->w.cell? ⟨g,j,none⟩=some (.string (bs (ls.getD j []))):=by
  have h0:=h;obtain⟨_,⟨_,hn⟩|⟨g,cap,cur,rfl,hg,hblk,hc,hm,hsz,htk⟩⟩:=h
  . omega
  . have hlt:g<w.heap.size:=by
      rcases Nat.lt_or_ge g w.heap.size with h|h
      . exact h
      . rw[Array.getElem?_eq_none h] at hblk;cases hblk
    refine⟨g,cap,rfl,hg,hlt,hc,hm,fun j hj=>?_⟩
    rw[h0.cellAt j om];unfold strs;rw[List.getElem?_map,List.getElem?_eq_getElem hj];simp[List.getD,List.getElem?_eq_getElem hj]
theorem len_four {ls:List (List UInt8)} (h:ls.length=4):ls=[ls.getD 0 [],ls.getD 1 [],ls.getD 2 [],ls.getD 3 []]:=by
  match ls,h with
  | [a,b,c,d],_=>rfl
theorem addr_off {l:List UInt8} (h:(parts 46 l).length≠4):addrI l=-1:=by
  unfold addrI addr;split
  . rename_i a ha;split at ha
    . rename_i p0 p1 p2 p3 e;rw[e] at h;simp at h
    . cases ha
  . rfl
theorem addr_bad {l:List UInt8} {k:Nat} (h:(parts 46 l).length=4) (hk:k<4) (hb:num ((parts 46 l).getD k []) 255=none):addrI l=-1:=by
  unfold addrI addr;rw[len_four h];simp only[]
  unfold four;have:k=0\/k=1\/k=2\/k=3:=by omega
  rcases this with rfl|rfl|rfl|rfl<;>rw[hb]<;>(split<;>first|rfl|(rename_i e;split at e<;>simp_all))
theorem addr_good {l:List UInt8} (h:(parts 46 l).length=4) (hg:∀ j,j<4->num ((parts 46 l).getD j []) 255≠none) :
    acc (fun j=>numI ((parts 46 l).getD j []) 255) 4=addrI l:=by
  unfold addrI addr;rw[len_four h];simp only[]
  have n0:=hg 0 om;have n1:=hg 1 om;have n2:=hg 2 om;have n3:=hg 3 om;rcases e0:num ((parts 46 l).getD 0 []) 255 with _|a0
  . exact absurd e0 n0
  rcases e1:num ((parts 46 l).getD 1 []) 255 with _|a1
  . exact absurd e1 n1
  rcases e2:num ((parts 46 l).getD 2 []) 255 with _|a2
  . exact absurd e2 n2
  rcases e3:num ((parts 46 l).getD 3 []) 255 with _|a3
  . exact absurd e3 n3
  simp only[List.getD_cons_zero,List.getD_cons_succ,acc,numI,four,e0,e1,e2,e3]
  omega
theorem bcell' {B:Nat} {W w1:World} (hb:Below B W w1) {g j:Nat} {v:Value} (hg:g<B) (h:W.cell? ⟨g,j,none⟩=some v):w1.cell? ⟨g,j,none⟩=some v :=
  (hb.cell (p:=⟨g,j,none⟩) hg).trans h
def rdB (l:List UInt8):Int:=match rd l with|some p=>p.1|none=>0
def rdN (l:List UInt8):Int:=match rd l with|some p=>p.2|none=>0
def rdE (l:List UInt8):Int:=match rd l with|some _=>0|none=>1
theorem rd_none {l:List UInt8} (h:rd l=none):rdB l=0/\rdN l=0/\rdE l=1:=by simp[rdB,rdN,rdE,h]
theorem rd_some {l:List UInt8} {a n:Int} (h:rd l=some (a,n)):rdB l=a/\rdN l=n/\rdE l=0:=by simp[rdB,rdN,rdE,h]
theorem rd_off {l:List UInt8} (h:(parts 47 l).length≠2):rd l=none:=by
  unfold rd;split
  . rename_i x y e;rw[e] at h;simp at h
  . rfl
theorem addrI_cases (l:List UInt8):(addrI l=-1/\addr l=none)\/(∃ a:Nat,addrI l=a/\addr l=some a):=by
  unfold addrI;rcases h:addr l with _|a
  . exact .inl ⟨rfl,rfl⟩
  . exact .inr ⟨a,rfl,rfl⟩
theorem four_lt {p0 p1 p2 p3:List UInt8} {a:Nat} (h:four p0 p1 p2 p3=some a):a<4294967296:=by
  unfold four at h;split at h
  . rename_i a0 a1 a2 a3 e0 e1 e2 e3;have h0:=(num_some.1 e0).1
    have h1:=(num_some.1 e1).1
    have h2:=(num_some.1 e2).1
    have h3:=(num_some.1 e3).1
    simp at h;omega
  . cases h
theorem addr_lt {l:List UInt8} {a:Nat} (h:addr l=some a):a<4294967296:=by
  unfold addr at h;split at h
  . exact four_lt h
  . cases h
theorem cut_part (c:UInt8) (l:List UInt8):∀ s:List (List UInt8)×List UInt8,∀ B,(∀ p∈s.1,p.length<=B)->s.2.length+l.length<=B->(∀ p∈(cutAll c s l).1,p.length<=B)/\(cutAll c s l).2.length<=B:=by
  induction l with
  | nil=>intro s B h1 h2;simp[cutAll];exact⟨h1,by simpa using h2⟩
  | cons x r ih =>
    intro s B h1 h2;simp only[List.length_cons] at h2
    have:=ih (cutStep c s x) B (by
      unfold cutStep;split
      . intro p hp;simp at hp;rcases hp with hp|rfl
        . exact h1 p hp
        . omega
      . exact h1) (by unfold cutStep;split<;>simp<;>omega)
    simpa[cutAll] using this
theorem part_len (c:UInt8) (l:List UInt8) (j:Nat):((parts c l).getD j []).length<=l.length:=by
  obtain⟨h1,h2⟩:=cut_part c l ([],[]) l.length (by simp) (by simp)
  by_cases h:j<(parts c l).length
  . have hm:(parts c l).getD j []∈parts c l:=by
      simp[List.getD,List.getElem?_eq_getElem h]
    unfold parts at hm ⊢
    rw[List.mem_append,List.mem_singleton] at hm;rcases hm with hm|hm
    . exact h1 _ hm
    . rw[hm];exact h2
  . simp[List.getD,List.getElem?_eq_none (Nat.le_of_not_lt h)]
end Go.Proofs.YtjnhhnbgjjkkjaaGreatDoor
namespace Go.Proofs.YtjnhhnbgjjkkjaaGreatDoor
open Go.RowKit
set_option linter.unusedVariables false
set_option linter.unusedSimpArgs false
theorem index_no (c:UInt8) (l:List UInt8) (h:c∉l):Lib.index l [c]=-1:=by
  rw[Lib.index_one];induction l with
  | nil=>rfl
  | cons x r ih =>
    have hx:(x==c)=false:=by simpa using fun e:x=c=>h (by simp[e])
    have hr:c∉r:=fun e=>h (by simp[e])
    unfold Lib.indexByte;rw[hx,ih hr];rfl
theorem index_at (c:UInt8) (a b:List UInt8) (h:c∉a):Lib.index (a++c::b) [c]=a.length:=by
  rw[Lib.index_one];induction a with
  | nil=>simp[Lib.indexByte]
  | cons x r ih =>
    have hx:(x==c)=false:=by simpa using fun e:x=c=>h (by simp[e])
    have hr:c∉r:=fun e=>h (by simp[e])
    rw[List.cons_append];unfold Lib.indexByte;rw[hx,ih hr];have:¬(((r.length:Nat):Int)==-1)=true:=by simp
    rw[if_neg (by simp),if_neg this]
    simp
theorem cut_no (c:UInt8) (l:List UInt8) (h:c∉l):Lib.cut l [c]=(l,[],false):=by
  unfold Lib.cut;rw[index_no c l h];rfl
theorem cut_at (c:UInt8) (a b:List UInt8) (h:c∉a):Lib.cut (a++c::b) [c]=(a,b,true):=by
  unfold Lib.cut;rw[index_at c a b h,if_pos om];simp
theorem split_at (c:UInt8) (k:Nat) (a b:List UInt8) (h:c∉a):Lib.splitK [c] 0 (k+1) (a++c::b)=a::Lib.splitK [c] 0 k b:=by
  have e:Lib.splitK [c] 0 (k+1) (a++c::b)=if Lib.index (a++c::b) [c]==-1 then [a++c::b] else (a++c::b).take ((Lib.index (a++c::b) [c]).toNat+0)::Lib.splitK [c] 0 k ((a++c::b).drop ((Lib.index (a++c::b) [c]).toNat+[c].length)):=rfl
  have:¬(((a.length:Nat):Int)==-1)=true:=by simp
  rw[e,index_at c a b h,if_neg this];simp
theorem split_no (c:UInt8) (k:Nat) (l:List UInt8) (h:c∉l):Lib.splitK [c] 0 k l=[l]:=by
  cases k with
  | zero=>rfl
  | succ k=>unfold Lib.splitK;rw[index_no c l h];rfl
theorem split_parts (c:UInt8) (k:Nat):∀ l:List UInt8,((parts c l).length<=k+1->Lib.splitK [c] 0 k l=parts c l)/\(k+1<(parts c l).length->(Lib.splitK [c] 0 k l).length=k+1):=by
  induction k with
  | zero =>
    intro l;rcases first_cut c l with h|⟨a,b,rfl,h⟩
    . rw[parts_none c l h];exact⟨fun _=>rfl,fun e=>by simp at e⟩
    . rw[parts_cons c a b h];have:=parts_pos c b
      exact⟨fun e=>by rw[List.length_cons] at e;omega,fun _=>rfl⟩
  | succ k ih =>
    intro l;rcases first_cut c l with h|⟨a,b,rfl,h⟩
    . rw[parts_none c l h,split_no c _ l h];exact⟨fun _=>rfl,fun e=>by simp at e⟩
    . rw[parts_cons c a b h,split_at c k a b h];obtain⟨h1,h2⟩:=ih b;exact⟨fun e=>by rw[h1 (by rw[List.length_cons] at e;omega)],fun e=>by rw[List.length_cons] at e ⊢;rw[h2 om]⟩
theorem parts_le (c:UInt8) (l:List UInt8):(parts c l).length<=l.length+1:=by
  have:=cut_len c l ([],[])
  unfold parts;simp at this ⊢;exact this
theorem split_five (l:List UInt8):((Lib.splitK [46] 0 (min 5 (l.length+1)-1) l).length=4 ↔ (parts 46 l).length=4)/\((parts 46 l).length=4->Lib.splitK [46] 0 (min 5 (l.length+1)-1) l=parts 46 l):=by
  obtain⟨h1,h2⟩:=split_parts 46 (min 5 (l.length+1)-1) l
  have h3:=parts_le 46 l;by_cases h:(parts 46 l).length<=min 5 (l.length+1)-1+1
  . rw[h1 h];exact⟨Iff.rfl,fun _=>rfl⟩
  . have:=h2 om
    exact⟨⟨fun e=>by omega,fun e=>by omega⟩,fun e=>by omega⟩
end Go.Proofs.YtjnhhnbgjjkkjaaGreatDoor
namespace Go.Proofs.YtjnhhnbgjjkkjaaGreatDoor
open Go.ChangeShapes Go.WideShapes Go.ChangeAt Go.RowKit
set_option linter.unusedVariables false
set_option linter.unusedSimpArgs false
set_option maxRecDepth 1000000 in
set_option maxHeartbeats 1000000 in
theorem kwords_any (s:ByteArray) (w:World) (hs:s.size<=2097152) :
    Calls Tryz.prog 57 #[.string s] w fun e w'=>∃ v,e=.returned v/\w'.ownsRow w.heap.size 9 1 v (parts 32 s.data.toList).length (strs (parts 32 s.data.toList))/\Below w.heap.size w w':=by
  obtain⟨i0,hi,hz0,hz1,hz2⟩:=info_parts infoStr;have HC:Hid ((32:Int)=((32:UInt8).toNat:Int)):=rfl
  go_enter Tryz.func57,Tryz.ntmps57
  go_wp2;go_loopw [3,4,5] (fun v f i wr=>∃ (k g:Nat) (F:List (List UInt8)),k<=s.size/\g<=k/\i=.int .i64 k/\f=.int .i64 g/\wr.ownsRow w.heap.size 9 1 v F.length (strs F)/\Below w.heap.size w wr/\Hid (cutAll 32 ([],[]) (s.data.toList.take k)=(F,(s.data.toList.take k).drop g)))
    (fun _ _ i _=>s.size-(intOf i).toNat)
  case atStart=>exact⟨0,0,[],Nat.zero_le _,Nat.le_refl _,rfl,rfl,World.ownsRow_nil _ _ _ _,Below.refl _ _,rfl⟩
  case round =>
    obtain⟨k,g,F,hk,hg,rfl,rfl,hown,hb,hcut⟩:=hrel;have hF:F.length<=k:=by
      have:=cut_len 32 (s.data.toList.take k) ([],[])
      rw[hcut.out] at this;simp at this;omega
    by_cases hlt:k<s.size
    . go_wp2_with (first
        | (at_builtin;refine wpList_append_own _ rfl _ _ 31 rfl w.heap.size 9 i0 (.string ByteArray.empty) 1 16 Tryz.underlying31 hi hz0 hz1 hz2 rfl (by decide) _ _ _ rfl (hown.alloc _) ⟨wr.heap.size,0,none⟩ 1 1 [.string (s.extract g k)] rfl rfl ?c1 ?c2 ?c3 ?c4 ?c5 ?_)
        | go_in)
      case c1 =>
        intro j u hj;match j,hj with
        | 0,hj=>simp at hj;subst hj;simp[Addr.add]
      case c2=>intro u hu;simp at hu;subst hu;rfl
      case c3=>unfold maxLen;omega
      case c4=>omega
      case c5=>have:=hb.size;simp;omega
      . intro v' w1 hown' hgrow _;have hx:=‹((s[k].toNat:Int)==32)=true›
        have R:=parts_hit s 32 32 k g F hlt hg HC.out hx hcut.out;rw[ext_bs] at hown';have hown2:w1.ownsRow w.heap.size 9 1 v' (F++[(s.data.toList.take k).drop g]).length (strs (F++[(s.data.toList.take k).drop g])):=by
          rw[strs_snoc] at hown';simpa using hown'
        have hb2:Below w.heap.size w w1:=(hb.alloc hb.size _).grown hgrow (by have:=hb.size;simp;omega) (fun r hr=>(hown.lt r hr).1)
        clear hown' hgrow hown hx;go_wp2;go_roundw
        case rel=>exact⟨k+1,k+1,_,by omega,by omega,by go_num,by go_num,hown2,hb2,R⟩
        case measure=>simp[intOf];omega
      . have hx:=‹((s[k].toNat:Int)==32)=false›
        have R:=parts_miss s 32 32 k g F hlt hg HC.out hx hcut.out;clear hx;go_roundw
        case rel=>exact⟨k+1,g,F,by omega,by omega,by go_num,rfl,hown,hb,R⟩
        case measure=>simp[intOf];omega
    . have hk':k=s.size:=by omega
      have R:=parts_end s 32 k g F hk' hcut.out;have HK:Hid (k=s.size):=hk'
      clear hk';go_wp2_with (first
        | (at_builtin;refine wpList_append_own _ rfl _ _ 31 rfl w.heap.size 9 i0 (.string ByteArray.empty) 1 16 Tryz.underlying31 hi hz0 hz1 hz2 rfl (by decide) _ _ _ rfl (hown.alloc _) ⟨wr.heap.size,0,none⟩ 1 1 [.string (s.extract g s.size)] rfl rfl ?c1 ?c2 ?c3 ?c4 ?c5 ?_)
        | go_in)
      case c1 =>
        intro j u hj;match j,hj with
        | 0,hj=>simp at hj;subst hj;simp[Addr.add]
      case c2=>intro u hu;simp at hu;subst hu;rfl
      case c3=>unfold maxLen;omega
      case c4=>omega
      case c5=>have:=hb.size;simp;omega
      intro v' w1 hown' hgrow _;rw[ext_bs,strs_snoc] at hown';have hown2:w1.ownsRow w.heap.size 9 1 v' (parts 32 s.data.toList).length (strs (parts 32 s.data.toList)):=by
        rw[R];rw[HK.out];simpa using hown'
      have hb2:Below w.heap.size w w1:=(hb.alloc hb.size _).grown hgrow (by have:=hb.size;simp;omega) (fun r hr=>(hown.lt r hr).1)
      clear hown' hgrow hown R;go_wp2;go_ret;exact⟨_,rfl,hown2,hb2⟩
end Go.Proofs.YtjnhhnbgjjkkjaaGreatDoor
