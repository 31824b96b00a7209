/-
  SnF
-/
import Derived.Shelf.Strings.BuilderK
import Derived.Test.YtjnhhnbgjjkkjaaGreatDoorBasePAA
import Derived.Test.YtjnhhnbgjjkkjaaGreatDoorBasePBC
namespace Go.Proofs.YtjnhhnbgjjkkjaaGreatDoor
open Go.RowKit Go.Shelf
set_option linter.unusedVariables false
set_option linter.unusedSimpArgs false
abbrev IsBF (B b:Nat) (l:List UInt8) (w:World):Prop:=Lib.IsBuilderF 139 5 B b (Lib.byteCells l) w
theorem wstr_k (B b:Nat) (l:List UInt8) (s:ByteArray) (w:World) (h:IsBF B b l w) (hl:l.length+s.size<=1000000) (hB:B<=w.heap.size) :
    Calls Tryz.prog 62 #[.pointer (some ⟨b,0,none⟩),.string s] w fun e w'=>(∃ r,e=.returned r)/\IsBF B b (l++s.data.toList) w'/\Below B w w'/\Lib.OthersKept 5 (some b) w w':=by
  refine(Any.Builder_WriteString_k { Tryz.lays156 with } Tryz.Builder_Extra_156 B b (Lib.byteCells l) s w h (by rw[Lib.byteCells_length];omega) hB).mono ?_
  rintro e w' ⟨rfl,h1,h2,h3⟩
  refine⟨⟨_,rfl⟩,?_,h2,h3⟩
  have e1:Lib.byteCells (l++s.data.toList)=Lib.byteCells l++Lib.strCells s:=by rw[Lib.strCells_eq];simp[Lib.byteCells]
  show Lib.IsBuilderF _ _ B b (Lib.byteCells (l++s.data.toList)) w'
  rw[e1];exact .inr h1
theorem bstr_k (B b:Nat) (l:List UInt8) (w:World) (h:IsBF B b l w) (h0:l≠[]) :
    Calls Tryz.prog 63 #[.pointer (some ⟨b,0,none⟩)] w fun e w'=>e=.returned (.string ⟨l.toArray⟩)/\Below B w w'/\Lib.OthersKept 5 (some b) w w':=by
  refine(Any.Builder_String_k Tryz.lays169 Tryz.Builder_Extra_169 B b l w h h0).mono ?_
  rintro e w' ⟨rfl,_,h2,h3⟩
  exact⟨rfl,h2,h3⟩
theorem isBF_heap {B b:Nat} {l:List UInt8} {w w':World} (h:IsBF B b l w) (e:∀ k,B<=k->k<w.heap.size->w'.heap[k]?=w.heap[k]?):IsBF B b l w':=by
  have hx:∀ p,Lib.BuilderAtF 139 5 B b p (Lib.byteCells l) w->Lib.BuilderAtF 139 5 B b p (Lib.byteCells l) w':=by
    rintro p ⟨hB,v,hb,ho,hne⟩
    refine⟨hB,v,(e b hB (Array.getElem?_eq_some_iff.1 hb).1).trans hb,⟨ho.1,?_⟩,hne⟩
    rcases ho.2 with hn|⟨g,cap,cur,fz,rfl,h1,hg,rest⟩
    . exact .inl hn
    . exact .inr ⟨g,cap,cur,fz,rfl,h1,(e g h1 (Array.getElem?_eq_some_iff.1 hg).1).trans hg,rest⟩
  exact h.elim (fun q=>.inl (hx _ q)) (fun q=>.inr (hx _ q))
theorem owns_kept {w w':World} {B b:Nat} {t:TypeId} {k:Nat} {v:Value} {n:Nat} {xs:List Value} (h:w.ownsRow B t k v n xs) (ht:t≠5) (hb:b<B) (hk:Lib.OthersKept 5 (some b) w w'):w'.ownsRow B t k v n xs:=by
  refine⟨h.1,?_⟩
  rcases h.2 with hn|⟨g,cap,cur,rfl,h1,hg,rest⟩
  . exact .inl hn
  . refine .inr ⟨g,cap,cur,rfl,h1,hk g _ hg (by intro e;cases e;omega) (by intro c fz e;injection e with e1 e2 e3;exact ht e2),rest⟩
theorem flat_le {α:Type} (f:α->List UInt8) (m:Nat):∀ l:List α,(∀ x,x∈l->(f x).length<=m)->(l.flatMap f).length<=m*l.length:=by
  intro l;induction l with
  | nil=>intro _;simp
  | cons x r ih =>
    intro h;have h1:=h x (by simp)
    have h2:=ih fun y hy=>h y (by simp[hy])
    rw[List.flatMap_cons,List.length_append,List.length_cons,Nat.mul_succ];omega
theorem cmd_len {k:Nat} (hk:k=0\/k=3\/k=6) (o r:List UInt8) (ho:o.length<=8) (hr:r.length<=18):(cmdL k xT o r).length<=40:=by
  have hv:(verb k).length<=8:=by rcases hk with rfl|rfl|rfl<;>decide
  have hx:xT.length=1:=rfl
  unfold cmdL;simp only[List.length_append,List.length_cons]
  omega
theorem data_len (b:ByteArray):b.data.toList.length=b.size:=Array.length_toList
theorem bText_le {a n:Int} (ha:ad a) (hr:rt a n=true):(bText a n).length<=18:=by
  obtain⟨r1,r2,_⟩:=rt_iff.1 hr;have:=wr_len a.toNat n.toNat (by unfold ad at ha;omega) (om)
  unfold bText;omega
theorem rowC_len {s:Bk} (hI:Inv s):∀ r,r∈rowsC s->r.length<=40:=by
  intro r hr;unfold rowsC at hr;rcases List.mem_append.1 hr with hr|hr
  . rcases List.mem_append.1 hr with hr|hr
    . obtain⟨h,hh,rfl⟩:=List.mem_map.1 hr;obtain⟨a1,a2,a3,a4,a5⟩:=hI.pa h hh;exact cmd_len (.inl rfl) _ _ (by rw[data_len];exact a5) (bText_le a1 a2)
    . obtain⟨h,hh,rfl⟩:=List.mem_map.1 hr;obtain⟨a1,a2,a3,a5⟩:=hI.na h hh;exact cmd_len (.inr (.inl rfl)) _ _ (by rw[data_len];exact a5) (bText_le a1 a2)
  . obtain⟨h,hh,rfl⟩:=List.mem_map.1 hr;obtain⟨a1,a5⟩:=hI.la h hh;exact cmd_len (.inr (.inr rfl)) _ _ (by rw[data_len];exact a5) (by have:=(dot_lenB h.a.toNat (by have:=a1.1;have:=a1.2;omega)).2;omega)
def accR (L:List (List UInt8)) (k:Nat):List UInt8:=(L.take k).flatMap fun r=>r++[10]
theorem accR_next (L:List (List UInt8)) (k:Nat) (hk:k<L.length):accR L (k+1)=accR L k++(L.getD k []++[10]):=by
  unfold accR;rw[List.take_succ_eq_append_getElem hk,List.flatMap_append,List.getD_eq_getElem?_getD,List.getElem?_eq_getElem hk];simp
theorem accR_len (L:List (List UInt8)) (m:Nat) (h:∀ r,r∈L->r.length<=m) (k:Nat):(accR L k).length<=(m+1)*L.length:=by
  have h1:=flat_le (fun r:List UInt8=>r++[10]) (m+1) (L.take k) (fun x hx=>by have:=h x (List.mem_of_mem_take hx);simp;omega)
  have h2:(L.take k).length<=L.length:=by simp;omega
  exact Nat.le_trans h1 (Nat.mul_le_mul_left _ h2)
theorem accR_all (L:List (List UInt8)):accR L L.length=L.flatMap fun r=>r++[10]:=by unfold accR;rw[List.take_length]
theorem rowT_len {x:Tk} (h1:x.l.size<=100) (h2:x.r.size<=40):(rowT x).length<=150:=by
  unfold rowT;simp only[List.length_append,List.length_cons,data_len];omega
theorem snap_parts (s:Bk):snapT s=accR (rowsC s) (rowsC s).length++accR (s.toks.map rowT) (s.toks.map rowT).length:=by
  rw[accR_all,accR_all];unfold snapT rowsS;rw[List.flatMap_append]
theorem rowsC_num {s:Bk} (hI:Inv s):(rowsC s).length<=70:=by
  have:=hI.p;have:=hI.n;have:=hI.l
  unfold rowsC;simp;omega
theorem snap_len {s:Bk} (hI:Inv s) (hT:∀ x,x∈s.toks->x.l.size<=100/\x.r.size<=40):(snapT s).length<=8000:=by
  rw[snap_parts,List.length_append];have h1:=accR_len (rowsC s) 40 (rowC_len hI) (rowsC s).length
  have h2:=accR_len (s.toks.map rowT) 150 (fun r hr=>by obtain⟨x,hx,rfl⟩:=List.mem_map.1 hr;exact rowT_len (hT x hx).1 (hT x hx).2) (s.toks.map rowT).length
  have h3:=rowsC_num hI;have h4:=hI.t;rw[List.length_map] at h2;have h5:41*(rowsC s).length<=41*70:=Nat.mul_le_mul_left _ h3
  have h6:151*s.toks.length<=151*8:=Nat.mul_le_mul_left _ h4
  rw[List.length_map];omega
def SQ1 (w:World) (c:Nat) (L:List (List UInt8)) (v:Value) (k:Nat) (W:World):Prop :=
  k<=L.length/\Below (w.heap.size+1) (w.alloc (.cells #[.chan (some c)] 88)) W/\IsBF (w.heap.size+1) (w.heap.size+1) (accR L k) W/\W.ownsRow (w.heap.size+2) 9 1 v L.length (L.map fun r=>Value.string (byt r))
def SQ2 (w:World) (c:Nat) (p:List UInt8) (l:List Tk) (v:Value) (k:Nat) (W:World):Prop :=
  k<=l.length/\w.grownBy W (some c)/\w.heap.size+2<=W.heap.size/\Ch W c l/\IsBF (w.heap.size+1) (w.heap.size+1) (p++accR (l.map rowT) k) W/\W.ownsRow (w.heap.size+2) 145 3 v l.length (l.flatMap encT)
theorem encS_map (L:List (List UInt8)):(L.map fun r=>Value.string (byt r))=(L.map byt).flatMap encS:=by
  induction L with
  | nil=>rfl
  | cons x r ih=>simp only[List.map_cons,List.flatMap_cons,ih];rfl
theorem grown_trans {a b d:World} {c:Option Nat} (h:a.grownBy b c) (k:b.grownBy d c):a.grownBy d c :=
  ⟨k.os.trans h.os,k.tape.trans h.tape,k.output.trans h.output,Nat.le_trans h.size k.size,fun i hi hc=>(k.block i (Nat.lt_of_lt_of_le hi h.size) hc).trans (h.block i hi hc)⟩
set_option maxHeartbeats 400000 in
theorem snapw_any (x c:Nat) (w:World) (s:Bk) (vp vn vl:Value) (E:EnvT w) (hI:Inv s) (hb:Blk w x #[vp,vn,vl] 160) (rp:Rd 3 encH hd0 w vp s.pools) (rn:Rd 3 encH hd0 w vn s.nets) (rl:Rd 2 encL ls0 w vl s.leases)
    (hc:Ch w c s.toks) (ht:s.toks≠[]) (hT:∀ x,x∈s.toks->x.l.size<=100/\x.r.size<=40) :
    Calls Tryz.prog 68 #[.pointer (some ⟨x,0,none⟩),.agg #[.chan (some c)]] w fun e w'=>e=.returned (.string (byt (snapT s)))/\Ch w' c s.toks/\w.grownBy w' (some c):=by
  have hcl:=hc.lt;obtain⟨L,hL⟩:∃ L,L=rowsC s:=⟨_,rfl⟩
  have hLl:∀ r,r∈L->r.length<=40:=by rw[hL];exact rowC_len hI
  have hLn:L.length<=70:=by rw[hL];exact rowsC_num hI
  have h8:=hI.t;obtain⟨Wt,hWt⟩:∃ Wt,Wt=w.alloc (.cells #[.chan (some c)] 88):=⟨_,rfl⟩
  have zt:Wt.heap.size=w.heap.size+1:=by rw[hWt];simp
  have bt:Below w.heap.size w Wt:=by rw[hWt];exact(Below.refl _ w).alloc (Nat.le_refl _) _
  have b0:Blk Wt w.heap.size #[.chan (some c)] 88:=by rw[hWt];exact Blk.new w _ _
  have pl:∀ k,(accR L k).length<=3000:=fun k=>by
    have h1:=accR_len L 40 hLl k;have h5:41*L.length<=41*70:=Nat.mul_le_mul_left _ hLn
    omega
  have ql:∀ k,(accR (s.toks.map rowT) k).length<=3000:=fun k=>by
    have h2:=accR_len (s.toks.map rowT) 150 (fun r hr=>by obtain⟨x,hx,rfl⟩:=List.mem_map.1 hr;exact rowT_len (hT x hx).1 (hT x hx).2) k
    rw[List.length_map] at h2;have h6:151*s.toks.length<=151*8:=Nat.mul_le_mul_left _ h8
    omega
  have rl40:∀ k,(byt (L.getD k [])).size<=1000:=fun k=>by
    have e:(byt (L.getD k [])).size=(L.getD k []).length:=by rw[<- data_len];rfl
    rw[e];by_cases hk:k<L.length
    . have:=hLl _ (getD_mem [] hk);omega
    . rw[List.getD_eq_getElem?_getD,List.getElem?_eq_none (om)];simp
  have tl:∀ k,(s.toks.getD k tk0).l.size<=1000/\(s.toks.getD k tk0).r.size<=1000:=fun k=>by
    by_cases hk:k<s.toks.length
    . have:=hT _ (getD_mem tk0 hk);omega
    . rw[List.getD_eq_getElem?_getD,List.getElem?_eq_none (om)];decide
  refine swr_go x c w L.length s.toks.length (fun k=>byt (L.getD k [])) (fun k=>(s.toks.getD k tk0).l) (fun k=>(s.toks.getD k tk0).r) (SQ1 w c L) (SQ2 w c (accR L L.length) s.toks) _ (om) (om) rl40 (fun k=>(tl k).1) (fun k=>(tl k).2) ?v1 ?c1 ?v2 ?a2 ?hc ?hw1 ?ha ?hw2 ?hs
  case v1 =>
    rintro v k W ⟨_,_,_,ho⟩
    have hr:=Rd.of_owns (enc:=encS) (fun _=>rfl) ⟨#[]⟩ (l:=L.map byt) (by rw[<- encS_map,List.length_map];exact ho)
    obtain⟨b,cap,rfl,_,_,q⟩:=hr;rw[List.length_map] at q ⊢;refine⟨b,cap,rfl,fun hk=>?_⟩
    obtain⟨g,hg,_,hq⟩:=q (by intro e;have:=congrArg List.length e;simp at this;rw[this] at hk;simp at hk)
    refine⟨g,hg,?_⟩
    have h:=hq k hk 0 (.string (byt (L.getD k []))) (by simp[encS,List.getD_eq_getElem?_getD,List.getElem?_eq_getElem hk])
    rw[Nat.mul_one,Nat.add_zero] at h;exact h
  case c1 =>
    rintro v k W ⟨_,hB,_,_⟩
    rw[<- hWt] at hB;exact(hB.cell (p:=⟨w.heap.size,0,none⟩) (by show w.heap.size < _;omega)).trans (b0.cell 0)
  case v2 =>
    rintro v k W ⟨_,_,_,_,_,ho⟩
    obtain⟨b,cap,rfl,_,_,q⟩:=Rd.of_owns (enc:=encT) (fun _=>rfl) tk0 ho
    refine⟨b,cap,rfl,fun hk=>?_⟩
    obtain⟨g,hg,_,hq⟩:=q (by intro e;rw[e] at hk;simp at hk)
    have h:=hq k hk;exact⟨g,_,hg,h 0 _ rfl,h 1 _ rfl,h 2 _ rfl⟩
  case a2 =>
    rintro v k W o ⟨h0,h1,h2,h3,h4,h5⟩
    have hB:Below W.heap.size W (W.alloc o):=(Below.refl _ W).alloc (Nat.le_refl _) _
    refine⟨h0,⟨h1.os,h1.tape,h1.output,Nat.le_trans h1.size hB.size,fun i hi hc=>(hB.block i (Nat.lt_of_lt_of_le hi h1.size)).trans (h1.block i hi hc)⟩,Nat.le_trans h2 hB.size,?_,isBF_heap h4 (fun k _ hk=>hB.block k hk),owns_below h5 hB⟩
    obtain⟨s',r',hh⟩:=h3;exact⟨s',r',(hB.block c (Array.getElem?_eq_some_iff.1 hh).1).trans hh⟩
  case hc =>
    rw[<- hWt];obtain⟨W0,hW0⟩:∃ W0,W0=Wt.alloc (.cells #[.pointer none,.slice none 0 0] 139):=⟨_,rfl⟩
    rw[<- hW0];have z0:W0.heap.size=w.heap.size+2:=by rw[hW0];simp;omega
    have bw:Below Wt.heap.size Wt W0:=by rw[hW0];exact(Below.refl _ Wt).alloc (Nat.le_refl _) _
    have b00:Below w.heap.size w W0:=bt.trans (bw.mono (om))
    have hf:IsBF (w.heap.size+1) (w.heap.size+1) [] W0:=by
      have h:=Lib.IsBuilderF.of (Lib.fresh_isBuilder 139 5 Wt)
      rw[zt] at h;rw[hW0];exact h
    refine(comm_any x W0 s vp vn vl (E.mono b00) hI ((b00.block x hb.lt).trans hb) (rp.below b00) (rn.below b00) (rl.below b00)).mono ?_
    rintro e w' ⟨v,rfl,h1,h2⟩
    refine⟨v,rfl,Nat.zero_le _,?_,?_,?_⟩
    . rw[<- hWt];exact(bw.mono (om)).trans (h2.mono (om))
    . exact isBF_heap (l:=accR L 0) hf (fun k _ hk=>h2.block k hk)
    . rw[z0] at h1;rw[hL];exact h1
  case hw1 =>
    rintro v k W ⟨h0,h1,h2,h3⟩ hk
    refine(wstr_k (w.heap.size+1) (w.heap.size+1) (accR L k) _ W h2 (by have:=pl k;have:=rl40 k;rw[ByteArray.size_append,show (⟨#[10]⟩:ByteArray).size=1 from rfl];omega) (by rw[<- hWt] at h1;have:=h1.size;omega)).mono ?_
    rintro e w' ⟨hr,q1,q2,q3⟩
    refine⟨hr,by omega,h1.trans q2,?_,owns_kept h3 (by decide) (om) q3⟩
    rw[accR_next L k hk];have e1:(byt (L.getD k [])++(⟨#[10]⟩:ByteArray)).data.toList=L.getD k []++[10]:=by simp[ByteArray.data_append,byt]
    rw[e1] at q1;exact q1
  case ha =>
    rintro v W ⟨h0,h1,h2,h3⟩
    rw[<- hWt] at h1;have hW:Below w.heap.size w W:=bt.trans (h1.mono (om))
    have zW:w.heap.size+2<=W.heap.size:=by
      rcases h2 with⟨_,v',hb',_⟩|⟨_,v',hb',_⟩<;>(have:=(Array.getElem?_eq_some_iff.1 hb').1;omega)
    obtain⟨s',r',hh⟩:=hc;refine(tall_any W c s.toks ⟨s',r',(hW.block c hcl).trans hh⟩ h8).mono ?_
    rintro e w' ⟨v',rfl,q1,q2,q3⟩
    refine⟨v',rfl,Nat.zero_le _,grown_trans ⟨hW.os,hW.tape,hW.output,hW.size,fun b hb _=>hW.block b hb⟩ q3,Nat.le_trans zW q3.size,q2,?_,owns_mono q1 zW⟩
    have e1:accR L L.length++accR (s.toks.map rowT) 0=accR L L.length:=by simp[accR]
    rw[e1];exact isBF_heap h2 (fun k hk1 hk2=>q3.block k hk2 (by intro e;cases e;omega))
  case hw2 =>
    rintro v k W ⟨h0,h1,h2,h3,h4,h5⟩ hk
    refine(wstr_k (w.heap.size+1) (w.heap.size+1) _ _ W h4 (by
      have:=pl L.length;have:=ql k;have:=tl k
      simp only[ByteArray.size_append,List.length_append,show (⟨#[10]⟩:ByteArray).size=1 from rfl,show (⟨#[61]⟩:ByteArray).size=1 from rfl];omega) (om)).mono ?_
    rintro e w' ⟨hr,q1,q2,q3⟩
    refine⟨hr,by omega,?_,Nat.le_trans h2 q2.size,?_,?_,owns_kept h5 (by decide) (om) q3⟩
    . exact⟨q2.os.trans h1.os,q2.tape.trans h1.tape,q2.output.trans h1.output,Nat.le_trans h1.size q2.size,fun b hb hc=>(q2.block b (om)).trans (h1.block b hb hc)⟩
    . obtain⟨s',r',hh⟩:=h3;exact⟨s',r',(q2.block c (om)).trans hh⟩
    . rw[accR_next _ k (by simpa using hk)]
      have e1:((s.toks.getD k tk0).l++(⟨#[61]⟩:ByteArray)++(s.toks.getD k tk0).r++(⟨#[10]⟩:ByteArray)).data.toList=(s.toks.map rowT).getD k []++[10]:=by
        rw[getD_mapC rowT s.toks tk0 _ k hk];simp[ByteArray.data_append,rowT]
      rw[e1,List.append_assoc] at q1;exact q1
  case hs =>
    rintro v W ⟨h0,h1,h2,h3,h4,h5⟩
    have hsn:accR L L.length++accR (s.toks.map rowT) s.toks.length=snapT s:=by rw[snap_parts,hL,List.length_map]
    rw[hsn] at h4;refine(bstr_k (w.heap.size+1) (w.heap.size+1) _ W h4 (by
      intro e;obtain⟨x,r,er⟩:∃ x r,s.toks=x::r:=by cases q:s.toks with|nil=>exact absurd q ht|cons x r=>exact⟨x,r,rfl⟩
      have:=congrArg List.length e
      rw[snap_parts,accR_all,accR_all,er] at this;simp[rowT] at this)).mono ?_
    rintro e w' ⟨rfl,q2,q3⟩
    refine⟨_,rfl,rfl,?_,?_⟩
    . obtain⟨s',r',hh⟩:=h3;exact⟨s',r',(q2.block c (om)).trans hh⟩
    . exact⟨q2.os.trans h1.os,q2.tape.trans h1.tape,q2.output.trans h1.output,Nat.le_trans h1.size q2.size,fun b hb hc=>(q2.block b (om)).trans (h1.block b hb hc)⟩
end Go.Proofs.YtjnhhnbgjjkkjaaGreatDoor
