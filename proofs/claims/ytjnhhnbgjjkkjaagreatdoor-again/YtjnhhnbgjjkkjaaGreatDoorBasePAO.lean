/-
  BkU, BkV, BkW, BkX, BkAns, BkY, BkZ
-/
import Derived.Test.YtjnhhnbgjjkkjaaGreatDoorBasePAA
import Derived.Test.YtjnhhnbgjjkkjaaGreatDoorBasePAK
import Derived.Test.YtjnhhnbgjjkkjaaGreatDoorBasePAN
import Derived.Test.YtjnhhnbgjjkkjaaGreatDoorBasePAL
namespace Go.Proofs.YtjnhhnbgjjkkjaaGreatDoor
open Go.ChangeShapes Go.WideShapes Go.ChangeAt Go.RowKit
set_option linter.unusedVariables false
set_option linter.unusedSimpArgs false
theorem owns_below {w w':World} {B:Nat} {t:TypeId} {k:Nat} {v:Value} {n:Nat} {xs:List Value} (h:w.ownsRow B t k v n xs) (hb:Below w.heap.size w w'):w'.ownsRow B t k v n xs:=by
  refine⟨h.1,?_⟩
  rcases h.2 with hn|⟨g,cap,cur,rfl,h1,hg,rest⟩
  . exact .inl hn
  . exact .inr ⟨g,cap,cur,rfl,h1,(hb.block g (Array.getElem?_eq_some_iff.1 hg).1).trans hg,rest⟩
theorem grown_below {w W w':World} {row:Option Nat} (hb:Below w.heap.size w W) (h:W.grownBy w' row):w.grownBy w' row :=
  ⟨h.os.trans hb.os,h.tape.trans hb.tape,h.output.trans hb.output,Nat.le_trans hb.size h.size,fun k hk hr=>(h.block k (Nat.lt_of_lt_of_le hk hb.size) hr).trans (hb.block k hk)⟩
theorem take_flat {α:Type} {k:Nat} {enc:α->List Value} (hk:∀ x,(enc x).length=k) (l:List α) (i:Nat):(l.flatMap enc).take (i*k)=(l.take i).flatMap enc:=by
  induction l generalizing i with
  | nil=>simp
  | cons x r ih =>
    cases i with
    | zero=>simp
    | succ i=>rw[List.flatMap_cons,List.take_succ_cons,List.flatMap_cons,<- ih i,Nat.succ_mul,List.take_append,hk];congr 1;exact List.take_of_length_le (by rw[hk];omega);congr 1;omega
theorem drop_flat {α:Type} {k:Nat} {enc:α->List Value} (hk:∀ x,(enc x).length=k) (l:List α) (i:Nat):(l.flatMap enc).drop (i*k)=(l.drop i).flatMap enc:=by
  induction l generalizing i with
  | nil=>simp
  | cons x r ih =>
    cases i with
    | zero=>simp
    | succ i=>rw[List.flatMap_cons,List.drop_succ_cons,<- ih i,Nat.succ_mul,List.drop_append,hk,List.drop_eq_nil_of_le (by rw[hk];omega),List.nil_append];congr 1;omega
theorem oneH (l:List Hd):∀ u∈l.flatMap encH,u.oneCell'=true:=by
  intro u hu;obtain⟨h,_,hh⟩:=List.mem_flatMap.1 hu;simp[encH] at hh
  rcases hh with rfl|rfl|rfl<;>rfl
theorem oneL (l:List Ls):∀ u∈l.flatMap encL,u.oneCell'=true:=by
  intro u hu;obtain⟨h,_,hh⟩:=List.mem_flatMap.1 hu;simp[encL] at hh
  rcases hh with rfl|rfl<;>rfl
structure Chg (S:Nat->Prop) (w w':World):Prop where
  os:w'.os=w.os
  tape:w'.tape=w.tape
  output:w'.output=w.output
  size:w.heap.size<=w'.heap.size
  block:∀ b,b<w.heap.size->¬S b->w'.heap[b]?=w.heap[b]?
theorem Chg.refl (S:Nat->Prop) (w:World):Chg S w w:=⟨rfl,rfl,rfl,Nat.le_refl _,fun _ _ _=>rfl⟩
theorem Chg.below {S:Nat->Prop} {w w':World} (h:Below w.heap.size w w'):Chg S w w':=⟨h.os,h.tape,h.output,h.size,fun b hb _=>h.block b hb⟩
theorem Chg.trans {S S':Nat->Prop} {w w' w'':World} (h:Chg S w w') (k:Chg S' w' w'') (hs:∀ b,S' b->S b\/w.heap.size<=b):Chg S w w'' :=
  ⟨k.os.trans h.os,k.tape.trans h.tape,k.output.trans h.output,Nat.le_trans h.size k.size,fun b hb hS=>(k.block b (Nat.lt_of_lt_of_le hb h.size) (fun hk=>by rcases hs b hk with e|e;exact hS e;omega)).trans (h.block b hb hS)⟩
theorem Chg.grown {w w':World} {row:Option Nat} {S:Nat->Prop} (h:w.grownBy w' row) (hs:∀ b,row=some b->S b):Chg S w w':=⟨h.os,h.tape,h.output,h.size,fun b hb hS=>h.block b hb fun e=>hS (hs b e.symm)⟩
theorem Chg.sets {S:Nat->Prop} {w w':World} (h:Chg S w w') (g o:Nat) (cs:List Value) (hg:S g\/w.heap.size<=g):Chg S w (w'.setCells g o cs):=by
  obtain⟨h1,h2,h3,h4,h5⟩:=sets_other g cs o w';refine⟨h1.trans h.os,h2.trans h.tape,h3.trans h.output,by rw[h4];exact h.size,fun k hk hS=>?_⟩
  have:k≠g:=by rintro rfl;rcases hg with e|e;exact hS e;omega
  exact(h5 k this).trans (h.block k hk hS)
set_option maxRecDepth 100000 in
set_option maxHeartbeats 1000000 in
theorem insertP (l:List Hd) (h:Hd) (v:Value) (w:World) (hown:w.ownsRow 0 155 3 v l.length (l.flatMap encH)) (hs:Up Hd.a hd0 l) (hn:l.length<=1000) :
    Calls Tryz.prog 104 #[v,vH h] w fun e w'=>∃ g cap,e=.returned (.slice (some ⟨g,0,none⟩) (l.length+1) cap)/\w'.ownsRow 0 155 3 (.slice (some ⟨g,0,none⟩) (l.length+1) cap) (l.length+1) ((insH l h).flatMap encH)/\w.grownBy w' v.ownBlock/\(v.ownBlock=some g\/w.heap.size<=g)/\g<w'.heap.size:=by
  have hk:∀ x:Hd,(encH x).length=3:=fun _=>rfl
  have hq:Hid (∀ w,Calls Tryz.prog 173 #[vH h] w fun e w'=>e=.returned (.int .u32 h.a)/\Below w.heap.size w w'):=fun w=>hbase_any h w
  have hbs:Hid (∀ W,Below w.heap.size w W->∃ fb,Calls Tryz.prog 154 #[v,.int .u32 h.a,.func (.func 155) #[] #[]] W fun e w'=>e=.returned (.tuple #[.int .i64 (cntH l h.a:Nat),.bool fb])/\Below W.heap.size W w'):=fun W hW=>⟨_,bsP l h.a v W (Rd.of_owns hk hd0 (owns_below hown hW)) hs hn⟩
  have hle:cntH l h.a<=l.length:=List.countP_le_length
  have hob:∀ b,v.ownBlock=some b->b<w.heap.size:=fun b e=>by
    rcases hown.2 with⟨rfl,_⟩|⟨g,cap,cur,rfl,_,hg,_⟩
    . cases e
    . obtain rfl:g=b:=by simpa[Value.ownBlock] using e
      exact(Array.getElem?_eq_some_iff.1 hg).1
  have hin:Hid (∀ W vb,Below w.heap.size w W->w.heap.size<=vb->Blk W vb (encH h).toArray 155->Calls Tryz.prog 157 #[v,.int .i64 (cntH l h.a:Nat),.slice (some ⟨vb,0,none⟩) 1 1] W fun e w'=>∃ g cap,e=.returned (.slice (some ⟨g,0,none⟩) (l.length+1) cap)/\w'.ownsRow 0 155 3 (.slice (some ⟨g,0,none⟩) (l.length+1) cap) (l.length+1) ((insH l h).flatMap encH)/\w.grownBy w' v.ownBlock/\(v.ownBlock=some g\/w.heap.size<=g)/\g<w'.heap.size):=fun W vb hW hvb hb=>by
    refine(insrP (l.flatMap encH) (encH h) l.length (cntH l h.a) v vb W (owns_below hown hW) hle hn rfl hb (fun e=>by have:=hob vb e;omega) (by intro u hu;simp[encH] at hu;rcases hu with rfl|rfl|rfl<;>rfl) (oneH l)).mono ?_
    rintro e w' ⟨g,cap,rfl,o1,o2,o3,o4⟩
    refine⟨g,cap,rfl,?_,grown_below hW o2,?_,o4⟩
    . rw[take_flat hk,drop_flat hk] at o1;unfold insH;rw[List.flatMap_append,List.flatMap_cons,<- List.append_assoc];exact o1
    . rcases o3 with o3|o3
      . exact .inl o3
      . exact .inr (Nat.le_trans hW.size o3)
  obtain⟨b0,cap0,hv⟩:∃ b c,v=.slice b l.length c:=by
    rcases hown.2 with⟨rfl,e⟩|⟨g,cap,cur,rfl,_⟩
    . exact⟨none,0,by rw[e]⟩
    . exact⟨_,cap,rfl⟩
  subst hv;clear hown hs;generalize cntH l h.a=cn at hbs hin hle
  generalize l.length+1=nn at hin ⊢
  generalize (insH l h).flatMap encH=ll at hin ⊢
  obtain⟨a,n,o⟩:=h;unfold vH at hq;unfold vH;dsimp only at *
  go_enter Tryz.func104,Tryz.ntmps104
  go_wp2_with (first|(go_at_call 173;refine(hq.out _).mono ?_;rintro e w1 ⟨rfl,hb1⟩;have HB1:Hid (Below w.heap.size w w1):=bup (upB) hb1;have k0:w1.cell? ⟨w.heap.size,0,none⟩=some (.int .u32 a):=(by rw[hb1.cell (p:=⟨w.heap.size,0,none⟩) (by simp)];simp[go_sem]);have k1:w1.cell? ⟨w.heap.size,1,none⟩=some (.int .i64 n):=(by rw[hb1.cell (p:=⟨w.heap.size,1,none⟩) (by simp)];simp[go_sem]);have k2:w1.cell? ⟨w.heap.size,2,none⟩=some (.string o):=(by rw[hb1.cell (p:=⟨w.heap.size,2,none⟩) (by simp)];simp[go_sem]);have z1:w.heap.size<w1.heap.size:=(by have:=hb1.size;simp at this;omega);clear hb1)|(go_at_call 154;obtain⟨fb,hfb⟩:=hbs.out _ HB1.out;refine hfb.mono ?_;clear hfb;rintro e w2 ⟨rfl,hb2⟩;have HB2:Hid (Below w.heap.size w w2):=bup HB1.out hb2;have j0:w2.cell? ⟨w.heap.size,0,none⟩=some (.int .u32 a):=(by rw[hb2.cell (p:=⟨w.heap.size,0,none⟩) z1];exact k0);have j1:w2.cell? ⟨w.heap.size,1,none⟩=some (.int .i64 n):=(by rw[hb2.cell (p:=⟨w.heap.size,1,none⟩) z1];exact k1);have j2:w2.cell? ⟨w.heap.size,2,none⟩=some (.string o):=(by rw[hb2.cell (p:=⟨w.heap.size,2,none⟩) z1];exact k2);have z2:w.heap.size<w2.heap.size:=(by have:=hb2.size;omega);clear hb2 k0 k1 k2 z1)|(go_at_call 157;refine(hin.out _ _ (Below.alloc HB2.out HB2.out.size _) HB2.out.size (Blk.new w2 _ _)).mono ?_;rintro e w3 ⟨g3,cap3,rfl,o1,o2,o3,o4⟩))
  go_ret;exact⟨g3,cap3,rfl,o1,o2,o3,o4⟩
set_option maxRecDepth 100000 in
set_option maxHeartbeats 1000000 in
theorem insertS (l:List Hd) (h:Hd) (v:Value) (w:World) (hown:w.ownsRow 0 195 3 v l.length (l.flatMap encH)) (hs:Up Hd.a hd0 l) (hn:l.length<=1000) :
    Calls Tryz.prog 162 #[v,vH h] w fun e w'=>∃ g cap,e=.returned (.slice (some ⟨g,0,none⟩) (l.length+1) cap)/\w'.ownsRow 0 195 3 (.slice (some ⟨g,0,none⟩) (l.length+1) cap) (l.length+1) ((insH l h).flatMap encH)/\w.grownBy w' v.ownBlock/\(v.ownBlock=some g\/w.heap.size<=g)/\g<w'.heap.size:=by
  have hk:∀ x:Hd,(encH x).length=3:=fun _=>rfl
  have hq:Hid (∀ w,Calls Tryz.prog 173 #[vH h] w fun e w'=>e=.returned (.int .u32 h.a)/\Below w.heap.size w w'):=fun w=>hbase_any h w
  have hbs:Hid (∀ W,Below w.heap.size w W->∃ fb,Calls Tryz.prog 208 #[v,.int .u32 h.a,.func (.func 209) #[] #[]] W fun e w'=>e=.returned (.tuple #[.int .i64 (cntH l h.a:Nat),.bool fb])/\Below W.heap.size W w'):=fun W hW=>⟨_,bsS l h.a v W (Rd.of_owns hk hd0 (owns_below hown hW)) hs hn⟩
  have hle:cntH l h.a<=l.length:=List.countP_le_length
  have hob:∀ b,v.ownBlock=some b->b<w.heap.size:=fun b e=>by
    rcases hown.2 with⟨rfl,_⟩|⟨g,cap,cur,rfl,_,hg,_⟩
    . cases e
    . obtain rfl:g=b:=by simpa[Value.ownBlock] using e
      exact(Array.getElem?_eq_some_iff.1 hg).1
  have hin:Hid (∀ W vb,Below w.heap.size w W->w.heap.size<=vb->Blk W vb (encH h).toArray 195->Calls Tryz.prog 210 #[v,.int .i64 (cntH l h.a:Nat),.slice (some ⟨vb,0,none⟩) 1 1] W fun e w'=>∃ g cap,e=.returned (.slice (some ⟨g,0,none⟩) (l.length+1) cap)/\w'.ownsRow 0 195 3 (.slice (some ⟨g,0,none⟩) (l.length+1) cap) (l.length+1) ((insH l h).flatMap encH)/\w.grownBy w' v.ownBlock/\(v.ownBlock=some g\/w.heap.size<=g)/\g<w'.heap.size):=fun W vb hW hvb hb=>by
    refine(insrS (l.flatMap encH) (encH h) l.length (cntH l h.a) v vb W (owns_below hown hW) hle hn rfl hb (fun e=>by have:=hob vb e;omega) (by intro u hu;simp[encH] at hu;rcases hu with rfl|rfl|rfl<;>rfl) (oneH l)).mono ?_
    rintro e w' ⟨g,cap,rfl,o1,o2,o3,o4⟩
    refine⟨g,cap,rfl,?_,grown_below hW o2,?_,o4⟩
    . rw[take_flat hk,drop_flat hk] at o1;unfold insH;rw[List.flatMap_append,List.flatMap_cons,<- List.append_assoc];exact o1
    . rcases o3 with o3|o3
      . exact .inl o3
      . exact .inr (Nat.le_trans hW.size o3)
  obtain⟨b0,cap0,hv⟩:∃ b c,v=.slice b l.length c:=by
    rcases hown.2 with⟨rfl,e⟩|⟨g,cap,cur,rfl,_⟩
    . exact⟨none,0,by rw[e]⟩
    . exact⟨_,cap,rfl⟩
  subst hv;clear hown hs;generalize cntH l h.a=cn at hbs hin hle
  generalize l.length+1=nn at hin ⊢
  generalize (insH l h).flatMap encH=ll at hin ⊢
  obtain⟨a,n,o⟩:=h;unfold vH at hq;unfold vH;dsimp only at *
  go_enter Tryz.func162,Tryz.ntmps162
  go_wp2_with (first|(go_at_call 173;refine(hq.out _).mono ?_;rintro e w1 ⟨rfl,hb1⟩;have HB1:Hid (Below w.heap.size w w1):=bup (upB) hb1;have k0:w1.cell? ⟨w.heap.size,0,none⟩=some (.int .u32 a):=(by rw[hb1.cell (p:=⟨w.heap.size,0,none⟩) (by simp)];simp[go_sem]);have k1:w1.cell? ⟨w.heap.size,1,none⟩=some (.int .i64 n):=(by rw[hb1.cell (p:=⟨w.heap.size,1,none⟩) (by simp)];simp[go_sem]);have k2:w1.cell? ⟨w.heap.size,2,none⟩=some (.string o):=(by rw[hb1.cell (p:=⟨w.heap.size,2,none⟩) (by simp)];simp[go_sem]);have z1:w.heap.size<w1.heap.size:=(by have:=hb1.size;simp at this;omega);clear hb1)|(go_at_call 208;obtain⟨fb,hfb⟩:=hbs.out _ HB1.out;refine hfb.mono ?_;clear hfb;rintro e w2 ⟨rfl,hb2⟩;have HB2:Hid (Below w.heap.size w w2):=bup HB1.out hb2;have j0:w2.cell? ⟨w.heap.size,0,none⟩=some (.int .u32 a):=(by rw[hb2.cell (p:=⟨w.heap.size,0,none⟩) z1];exact k0);have j1:w2.cell? ⟨w.heap.size,1,none⟩=some (.int .i64 n):=(by rw[hb2.cell (p:=⟨w.heap.size,1,none⟩) z1];exact k1);have j2:w2.cell? ⟨w.heap.size,2,none⟩=some (.string o):=(by rw[hb2.cell (p:=⟨w.heap.size,2,none⟩) z1];exact k2);have z2:w.heap.size<w2.heap.size:=(by have:=hb2.size;omega);clear hb2 k0 k1 k2 z1)|(go_at_call 210;refine(hin.out _ _ (Below.alloc HB2.out HB2.out.size _) HB2.out.size (Blk.new w2 _ _)).mono ?_;rintro e w3 ⟨g3,cap3,rfl,o1,o2,o3,o4⟩))
  go_ret;exact⟨g3,cap3,rfl,o1,o2,o3,o4⟩
theorem below_grown {B:Nat} {a W w3:World} {row:Option Nat} (h:Below B a W) (g:W.grownBy w3 row) (hr:∀ b,row=some b->B<=b) (hB:B<=W.heap.size):Below B a w3 :=
  h.trans ⟨g.os,g.tape,g.output,g.size,fun k hk=>g.block k (Nat.lt_of_lt_of_le hk hB) (fun e=>by have:=hr k e.symm;omega)⟩
theorem owns_base {w:World} {B:Nat} {t:TypeId} {k:Nat} {v:Value} {n:Nat} {xs:List Value} (h:w.ownsRow B t k v n xs):∀ b,v.ownBlock=some b->B<=b:=fun b e=>by
  rcases h.2 with⟨rfl,_⟩|⟨g,cap,cur,rfl,h1,_⟩
  . cases e
  . obtain rfl:g=b:=by simpa[Value.ownBlock] using e
    exact h1
theorem owns_slice {w:World} {B:Nat} {t:TypeId} {k:Nat} {v:Value} {n:Nat} {xs:List Value} (h:w.ownsRow B t k v n xs):∃ b c,v=.slice b n c/\n<=c/\c<=maxLen:=by
  rcases h.2 with⟨rfl,e⟩|⟨g,cap,cur,rfl,_,_,h1,h2,_⟩
  . exact⟨none,0,by rw[e],by omega,by unfold maxLen;omega⟩
  . exact⟨_,cap,rfl,h1,h2⟩
theorem filter_next {α:Type} (p:α->Bool) (l:List α) (d:α) (k:Nat) (hk:k<l.length):(l.take (k+1)).filter p=(l.take k).filter p++if p (l.getD k d) then [l.getD k d] else []:=by
  rw[List.take_succ_eq_append_getElem hk,List.filter_append,List.getD_eq_getElem?_getD,List.getElem?_eq_getElem hk];simp only[Option.getD_some,List.filter_cons,List.filter_nil]
theorem cellsH3 {W:World} {M:Nat} {h:Hd} (c0:W.cell? ⟨M,0,none⟩=some (.int .u32 h.a)) (c1:W.cell? ⟨M,1,none⟩=some (.int .i64 h.n)) (c2:W.cell? ⟨M,2,none⟩=some (.string h.o)):∀ j u,(encH h)[j]?=some u->W.cell? (Addr.add ⟨M,0,none⟩ j)=some u:=fun j u hj=>by
  rw[Addr.add_lit,Nat.zero_add];match j,hj with
  | 0,hj=>simp[encH] at hj;rw[<- hj];exact c0
  | 1,hj=>simp[encH] at hj;rw[<- hj];exact c1
  | 2,hj=>simp[encH] at hj;rw[<- hj];exact c2
  | j+3,hj=>simp[encH] at hj
theorem cellsL2 {W:World} {M:Nat} {h:Ls} (c0:W.cell? ⟨M,0,none⟩=some (.int .u32 h.a)) (c1:W.cell? ⟨M,1,none⟩=some (.string h.o)):∀ j u,(encL h)[j]?=some u->W.cell? (Addr.add ⟨M,0,none⟩ j)=some u:=fun j u hj=>by
  rw[Addr.add_lit,Nat.zero_add];match j,hj with
  | 0,hj=>simp[encL] at hj;rw[<- hj];exact c0
  | 1,hj=>simp[encL] at hj;rw[<- hj];exact c1
  | j+2,hj=>simp[encL] at hj
theorem oneE (h:Hd):∀ u∈encH h,u.oneCell'=true:=by intro u hu;simp[encH] at hu;rcases hu with rfl|rfl|rfl<;>rfl
theorem oneF (h:Ls):∀ u∈encL h,u.oneCell'=true:=by intro u hu;simp[encL] at hu;rcases hu with rfl|rfl<;>rfl
set_option maxRecDepth 100000 in
set_option maxHeartbeats 2000000 in
theorem netsOf_any (x:Nat) (nets:List Hd) (p:Hd) (vn:Value) (w:World) (hx:x<w.heap.size) (cx:w.cell? ⟨x,1,none⟩=some vn) (hr:Rd 3 encH hd0 w vn nets) (hn:nets.length<=1000) (ha:∀ h,h∈nets->ad h.a) (hp:ad p.a) :
    Calls Tryz.prog 108 #[.pointer (some ⟨x,0,none⟩),vH p] w fun e w'=>∃ v,e=.returned v/\w'.ownsRow w.heap.size 195 3 v (netsOf nets p.a p.n).length ((netsOf nets p.a p.n).flatMap encH)/\Below w.heap.size w w':=by
  obtain⟨b,cap,rfl,h1,h2,h3⟩:=hr;have hB0:Below w.heap.size w (w.alloc (.cells #[.int .u32 p.a,.int .i64 p.n,.string p.o] 155)):=(upB)
  have hrow:Hid (∀ W,Below w.heap.size w W->∀ j,j<nets.length->∃ g,b=some ⟨g,0,none⟩/\W.cell? ⟨g,j*3,none⟩=some (.int .u32 (nets.getD j hd0).a)/\W.cell? ⟨g,j*3+1,none⟩=some (.int .i64 (nets.getD j hd0).n)/\W.cell? ⟨g,j*3+2,none⟩=some (.string (nets.getD j hd0).o)):=fun W hW j hj=>by
    obtain⟨g,hg,hlt,hc⟩:=h3 (by intro e;rw[e] at hj;simp at hj)
    have hc:=hc j hj;exact⟨g,hg,(hW.cell (p:=⟨g,j*3,none⟩) hlt).trans (hc 0 _ rfl),(hW.cell (p:=⟨g,j*3+1,none⟩) hlt).trans (hc 1 _ rfl),(hW.cell (p:=⟨g,j*3+2,none⟩) hlt).trans (hc 2 _ rfl)⟩
  have hsp:Hid (∀ (y:Hd) (W:World),ad y.a->Calls Tryz.prog 160 #[vH p,vB y.a y.n] W fun e w'=>e=.returned (.bool (inn y.a y.n p.a p.n))/\Below W.heap.size W w'):=fun y W hy=>hspans_any p y.a y.n W hp hy
  have HA:Hid (∀ j,j<nets.length->ad (nets.getD j hd0).a):=fun j hj=>ha _ (getD_mem nets hd0 j hj)
  have HF:Hid (∀ j,j<nets.length->(nets.take (j+1)).filter (fun h=>inn h.a h.n p.a p.n)=(nets.take j).filter (fun h=>inn h.a h.n p.a p.n)++if inn (nets.getD j hd0).a (nets.getD j hd0).n p.a p.n then [nets.getD j hd0] else []):=fun j hj=>filter_next _ nets hd0 j hj
  have HL:Hid (∀ j,((nets.take j).filter (fun h=>inn h.a h.n p.a p.n)).length<=1000):=fun j=>Nat.le_trans (List.length_filter_le _ _) (by rw[List.length_take];omega)
  obtain⟨i0,hi0,hz0,hz1,hz2⟩:=info_parts infoS;unfold netsOf;generalize hfp:(fun h:Hd=>inn h.a h.n p.a p.n)=fp at HF HL ⊢
  have HE:Hid (∀ y:Hd,inn y.a y.n p.a p.n=fp y):=fun y=>by rw[<- hfp]
  clear hfp h1 h2 h3 hp ha;obtain⟨pa,pn,po⟩:=p;unfold vH vB at hsp;unfold vH;dsimp only at *
  go_enter Tryz.func108,Tryz.ntmps108
  go_wp2;go_loopg [5,7,13] nets.length (fun gg s5 _ s13 wr=>∃ k:Nat,k<=nets.length/\nets.length-k<=gg/\s13=.int .i64 k/\wr.cell? ⟨w.heap.size,0,none⟩=some (.int .u32 pa)/\wr.cell? ⟨w.heap.size,1,none⟩=some (.int .i64 pn)/\wr.cell? ⟨w.heap.size,2,none⟩=some (.string po)/\Hid (Below (w.heap.size+1) (w.alloc (.cells #[.int .u32 pa,.int .i64 pn,.string po] 155)) wr)/\Hid (wr.ownsRow (w.heap.size+1) 195 3 s5 ((nets.take k).filter fp).length (((nets.take k).filter fp).flatMap encH)))
  case atStart=>exact⟨0,Nat.zero_le _,by omega,rfl,by simp[go_sem],by simp[go_sem],by simp[go_sem],Below.refl _ _,World.ownsRow_nil _ _ _ _⟩
  case round =>
    obtain⟨k,hk,hg,rfl,p0,p1,p2,BW,O⟩:=hrel;have BW2:Hid (Below w.heap.size w wr):=hB0.trans (BW.out.mono (om))
    have zw:w.heap.size+1<=wr.heap.size:=by have:=BW.out.size;simp at this;omega
    have zv:w.heap.size<wr.heap.size:=zw
    by_cases hlt:k<nets.length
    . obtain⟨g,rfl,k0,k1,k2⟩:=hrow.out wr BW2.out k hlt;have hy0:=HA.out k hlt;have hf0:=HF.out k hlt;generalize hy:nets.getD k hd0=y at k0 k1 k2 hy0 hf0
      clear hy;have hc:=hsp.out y;rw[HE.out] at hc;rw[HE.out] at hf0;have HC:Hid (∀ W,Calls Tryz.prog 160 #[.agg #[.int .u32 pa,.int .i64 pn,.string po],.agg #[.int .u32 y.a,.int .i64 y.n]] W fun e w'=>e=.returned (.bool (fp y))/\Below W.heap.size W w'):=fun W=>hc W hy0
      clear hc hrow hsp HA;have hll:=HL.out k;obtain⟨b5,c5,rfl,hn5,hm5⟩:=owns_slice O.out;rcases hfy:fp y with _|_
      . rw[hfy] at HC;rw[hfy,if_neg (by decide),List.append_nil] at hf0
        have F0:Hid ((nets.take (k+1)).filter fp=(nets.take k).filter fp):=hf0
        clear hf0 hfy;generalize hm5:((nets.take k).filter fp).length=m5 at O hll hn5
        have HM:Hid (((nets.take k).filter fp).length=m5):=hm5
        clear hm5;go_wp2_with (go_at_call 160;refine(HC.out _).mono ?_;rintro e w2 ⟨rfl,hb2⟩;have HB2:Hid (Below wr.heap.size wr w2):=bup (upB) hb2;clear hb2)
        go_roundg (nets.length-(k+1))
        case measure=>omega
        case rel =>
          have e1:Hid (Below (w.heap.size+1) (w.alloc (.cells #[.int .u32 pa,.int .i64 pn,.string po] 155)) w2):=BW.out.trans (HB2.out.mono zw)
          exact⟨k+1,by omega,by omega,by go_num,(HB2.out.cell (p:=⟨w.heap.size,0,none⟩) (om)).trans p0,(HB2.out.cell (p:=⟨w.heap.size,1,none⟩) (om)).trans p1,(HB2.out.cell (p:=⟨w.heap.size,2,none⟩) (om)).trans p2,e1,(by rw[F0.out,HM.out];exact owns_below O.out HB2.out:World.ownsRow _ _ _ _ _ _ _)⟩
      . rw[hfy] at HC;rw[hfy,if_pos rfl] at hf0;have F0:Hid ((nets.take (k+1)).filter fp=(nets.take k).filter fp++[y]):=hf0
        clear hf0 hfy;have HO:Hid (∀ wz,Below wr.heap.size wr wz->wz.ownsRow (w.heap.size+1) 195 3 (.slice b5 ((nets.take k).filter fp).length c5) ((nets.take k).filter fp).length (((nets.take k).filter fp).flatMap encH)):=fun wz hz=>owns_below O.out hz
        have HOB:Hid (∀ b,(Value.slice b5 ((nets.take k).filter fp).length c5).ownBlock=some b->w.heap.size+1<=b):=owns_base O.out
        generalize hm5:((nets.take k).filter fp).length=m5 at HO HOB hll hn5
        have HM:Hid (((nets.take k).filter fp).length=m5):=hm5
        clear hm5 O;generalize hl5:(((nets.take k).filter fp).flatMap encH)=l5 at HO
        have HL5:Hid ((((nets.take k).filter fp).flatMap encH)=l5):=hl5
        clear hl5;go_wp2_with (first|(go_at_call 160;refine(HC.out _).mono ?_;rintro e w2 ⟨rfl,hb2⟩;have HB2:Hid (Below wr.heap.size wr w2):=bup (upB) hb2;have j0:w2.cell? ⟨wr.heap.size,0,none⟩=some (.int .u32 y.a):=(by rw[hb2.cell (p:=⟨wr.heap.size,0,none⟩) (by simp)];simp[go_sem]);have j1:w2.cell? ⟨wr.heap.size,1,none⟩=some (.int .i64 y.n):=(by rw[hb2.cell (p:=⟨wr.heap.size,1,none⟩) (by simp)];simp[go_sem]);have j2:w2.cell? ⟨wr.heap.size,2,none⟩=some (.string y.o):=(by rw[hb2.cell (p:=⟨wr.heap.size,2,none⟩) (by simp)];simp[go_sem]);have z2:wr.heap.size<w2.heap.size:=(by have:=hb2.size;simp at this;omega);clear hb2)|(at_builtin;refine wpList_append_lies _ rfl _ _ 157 rfl (w.heap.size+1) 195 i0 _ 3 32 Tryz.underlying157 hi0 hz0 hz1 hz2 rfl (by decide) (.slice b5 m5 c5) m5 l5 rfl (HO.out _ (Below.alloc HB2.out HB2.out.size _)) ⟨w2.heap.size,0,none⟩ 1 1 (encH y) rfl rfl (cellsH3 (by simp[go_sem]) (by simp[go_sem]) (by simp[go_sem])) (oneE y) (om) (by unfold maxLen;omega) (om) (by simp;omega) _ rfl ?_;intro g3 cap3 w3 hown3 hgrow3 hat3 hlt3))
        go_roundg (nets.length-(k+1))
        case measure=>omega
        case rel =>
          have hq:Below (w.heap.size+1) (w.alloc (.cells #[.int .u32 pa,.int .i64 pn,.string po] 155)) w3:=below_grown ((BW.out.trans (HB2.out.mono zw)).alloc (om) _) hgrow3 HOB.out (by simp;omega)
          have e1:Hid (Below (w.heap.size+1) (w.alloc (.cells #[.int .u32 pa,.int .i64 pn,.string po] 155)) w3):=hq
          have e3:w3.ownsRow (w.heap.size+1) 195 3 (.slice (some ⟨g3,0,none⟩) (m5+1) cap3) ((nets.take (k+1)).filter fp).length (((nets.take (k+1)).filter fp).flatMap encH):=by
            rw[F0.out,List.length_append,HM.out,List.flatMap_append,HL5.out];simpa using hown3
          have e2:Hid (w3.ownsRow (w.heap.size+1) 195 3 (.slice (some ⟨g3,0,none⟩) (m5+1) cap3) ((nets.take (k+1)).filter fp).length (((nets.take (k+1)).filter fp).flatMap encH)):=e3
          exact⟨k+1,by omega,by omega,by go_num,(hq.cell (p:=⟨w.heap.size,0,none⟩) (by simp)).trans (by simp[go_sem]),(hq.cell (p:=⟨w.heap.size,1,none⟩) (by simp)).trans (by simp[go_sem]),(hq.cell (p:=⟨w.heap.size,2,none⟩) (by simp)).trans (by simp[go_sem]),e1,e2⟩
    . have hkl:k=nets.length:=by omega
      subst hkl;rw[List.take_length] at O;clear hrow hsp HA HF HL;obtain⟨b5,c5,rfl,hn5,hm5⟩:=owns_slice O.out;go_wp2;go_ret;exact⟨_,rfl,⟨O.out.1,by rcases O.out.2 with h|⟨g,cap,cur,h0,h1,h2⟩;exact .inl h;exact .inr ⟨g,cap,cur,h0,by omega,h2⟩⟩,BW2.out⟩
set_option maxHeartbeats 400000 in
theorem single_any (a:Int) (w:World):Calls Tryz.prog 123 #[.int .u32 a] w fun e w'=>e=.returned (.agg #[.int .u32 a,.int .i64 32])/\Below w.heap.size w w':=by
  go_enter Tryz.func123,Tryz.ntmps123
  go_wp2;go_returns
  exact⟨rfl,(upB)⟩
set_option maxRecDepth 100000 in
set_option maxHeartbeats 2000000 in
theorem leasesOf_any (x:Nat) (nets:List Ls) (p:Hd) (vn:Value) (w:World) (hx:x<w.heap.size) (cx:w.cell? ⟨x,2,none⟩=some vn) (hr:Rd 2 encL ls0 w vn nets) (hn:nets.length<=1000) (ha:∀ h,h∈nets->ad h.a) (hp:ad p.a) :
    Calls Tryz.prog 117 #[.pointer (some ⟨x,0,none⟩),vH p] w fun e w'=>∃ v,e=.returned v/\w'.ownsRow w.heap.size 208 2 v (leasesOf nets p.a p.n).length ((leasesOf nets p.a p.n).flatMap encL)/\Below w.heap.size w w':=by
  obtain⟨b,cap,rfl,h1,h2,h3⟩:=hr;have hB0:Below w.heap.size w (w.alloc (.cells #[.int .u32 p.a,.int .i64 p.n,.string p.o] 195)):=(upB)
  have hrow:Hid (∀ W,Below w.heap.size w W->∀ j,j<nets.length->∃ g,b=some ⟨g,0,none⟩/\W.cell? ⟨g,j*2,none⟩=some (.int .u32 (nets.getD j ls0).a)/\W.cell? ⟨g,j*2+1,none⟩=some (.string (nets.getD j ls0).o)):=fun W hW j hj=>by
    obtain⟨g,hg,hlt,hc⟩:=h3 (by intro e;rw[e] at hj;simp at hj)
    have hc:=hc j hj;exact⟨g,hg,(hW.cell (p:=⟨g,j*2,none⟩) hlt).trans (hc 0 _ rfl),(hW.cell (p:=⟨g,j*2+1,none⟩) hlt).trans (hc 1 _ rfl)⟩
  have hsp:Hid (∀ (y:Ls) (W:World),ad y.a->Calls Tryz.prog 160 #[vH p,vB y.a 32] W fun e w'=>e=.returned (.bool (inn y.a 32 p.a p.n))/\Below W.heap.size W w'):=fun y W hy=>hspans_any p y.a 32 W hp hy
  have HA:Hid (∀ j,j<nets.length->ad (nets.getD j ls0).a):=fun j hj=>ha _ (getD_mem nets ls0 j hj)
  have HF:Hid (∀ j,j<nets.length->(nets.take (j+1)).filter (fun h=>inn h.a 32 p.a p.n)=(nets.take j).filter (fun h=>inn h.a 32 p.a p.n)++if inn (nets.getD j ls0).a 32 p.a p.n then [nets.getD j ls0] else []):=fun j hj=>filter_next _ nets ls0 j hj
  have HL:Hid (∀ j,((nets.take j).filter (fun h=>inn h.a 32 p.a p.n)).length<=1000):=fun j=>Nat.le_trans (List.length_filter_le _ _) (by rw[List.length_take];omega)
  obtain⟨i0,hi0,hz0,hz1,hz2⟩:=info_parts infoL;unfold leasesOf;generalize hfp:(fun h:Ls=>inn h.a 32 p.a p.n)=fp at HF HL ⊢
  have HE:Hid (∀ y:Ls,inn y.a 32 p.a p.n=fp y):=fun y=>by rw[<- hfp]
  clear hfp h1 h2 h3 hp ha;obtain⟨pa,pn,po⟩:=p;unfold vH vB at hsp;unfold vH;dsimp only at *
  go_enter Tryz.func117,Tryz.ntmps117
  go_wp2;go_loopg [5,7,13] nets.length (fun gg s5 _ s13 wr=>∃ k:Nat,k<=nets.length/\nets.length-k<=gg/\s13=.int .i64 k/\wr.cell? ⟨w.heap.size,0,none⟩=some (.int .u32 pa)/\wr.cell? ⟨w.heap.size,1,none⟩=some (.int .i64 pn)/\wr.cell? ⟨w.heap.size,2,none⟩=some (.string po)/\Hid (Below (w.heap.size+1) (w.alloc (.cells #[.int .u32 pa,.int .i64 pn,.string po] 195)) wr)/\Hid (wr.ownsRow (w.heap.size+1) 208 2 s5 ((nets.take k).filter fp).length (((nets.take k).filter fp).flatMap encL)))
  case atStart=>exact⟨0,Nat.zero_le _,by omega,rfl,by simp[go_sem],by simp[go_sem],by simp[go_sem],Below.refl _ _,World.ownsRow_nil _ _ _ _⟩
  case round =>
    obtain⟨k,hk,hg,rfl,p0,p1,p2,BW,O⟩:=hrel;have BW2:Hid (Below w.heap.size w wr):=hB0.trans (BW.out.mono (om))
    have zw:w.heap.size+1<=wr.heap.size:=by have:=BW.out.size;simp at this;omega
    have zv:w.heap.size<wr.heap.size:=zw
    by_cases hlt:k<nets.length
    . obtain⟨g,rfl,k0,k1⟩:=hrow.out wr BW2.out k hlt;have hy0:=HA.out k hlt;have hf0:=HF.out k hlt;generalize hy:nets.getD k ls0=y at k0 k1 hy0 hf0
      clear hy;have hc:=hsp.out y;rw[HE.out] at hc;rw[HE.out] at hf0;have HC:Hid (∀ W,Calls Tryz.prog 160 #[.agg #[.int .u32 pa,.int .i64 pn,.string po],.agg #[.int .u32 y.a,.int .i64 32]] W fun e w'=>e=.returned (.bool (fp y))/\Below W.heap.size W w'):=fun W=>hc W hy0
      clear hc hrow hsp HA;have hll:=HL.out k;obtain⟨b5,c5,rfl,hn5,hm5⟩:=owns_slice O.out;rcases hfy:fp y with _|_
      . rw[hfy] at HC;rw[hfy,if_neg (by decide),List.append_nil] at hf0
        have F0:Hid ((nets.take (k+1)).filter fp=(nets.take k).filter fp):=hf0
        clear hf0 hfy;generalize hm5:((nets.take k).filter fp).length=m5 at O hll hn5
        have HM:Hid (((nets.take k).filter fp).length=m5):=hm5
        clear hm5;go_wp2;go_region_with (first|(go_at_call 123;refine(single_any _ _).mono ?_;rintro e w1 ⟨rfl,hb1⟩;have HB1:Hid (Below wr.heap.size wr w1):=bup (upB) hb1;have q0:w1.cell? ⟨w.heap.size,0,none⟩=some (.int .u32 pa):=(HB1.out.cell (p:=⟨w.heap.size,0,none⟩) zv).trans p0;have q1:w1.cell? ⟨w.heap.size,1,none⟩=some (.int .i64 pn):=(HB1.out.cell (p:=⟨w.heap.size,1,none⟩) zv).trans p1;have q2:w1.cell? ⟨w.heap.size,2,none⟩=some (.string po):=(HB1.out.cell (p:=⟨w.heap.size,2,none⟩) zv).trans p2;have r0:w1.cell? ⟨wr.heap.size,0,none⟩=some (.int .u32 y.a):=(by rw[hb1.cell (p:=⟨wr.heap.size,0,none⟩) (by simp)];simp[go_sem]);have r1:w1.cell? ⟨wr.heap.size,1,none⟩=some (.string y.o):=(by rw[hb1.cell (p:=⟨wr.heap.size,1,none⟩) (by simp)];simp[go_sem]);have y1:wr.heap.size<w1.heap.size:=(by have:=hb1.size;simp at this;omega);clear hb1)|(go_at_call 160;refine(HC.out _).mono ?_;rintro e w2 ⟨rfl,hb2⟩;have HB2:Hid (Below wr.heap.size wr w2):=bup HB1.out hb2;have j0:w2.cell? ⟨wr.heap.size,0,none⟩=some (.int .u32 y.a):=(hb2.cell (p:=⟨wr.heap.size,0,none⟩) y1).trans r0;have j1:w2.cell? ⟨wr.heap.size,1,none⟩=some (.string y.o):=(hb2.cell (p:=⟨wr.heap.size,1,none⟩) y1).trans r1;have z2:wr.heap.size<w2.heap.size:=(by have:=hb2.size;omega);clear hb2))
        all_goals (
          go_wp2;go_roundg (nets.length-(k+1))
          case measure=>omega
          case rel =>
            have e1:Hid (Below (w.heap.size+1) (w.alloc (.cells #[.int .u32 pa,.int .i64 pn,.string po] 195)) w2):=BW.out.trans (HB2.out.mono zw)
            exact⟨k+1,by omega,by omega,by go_num,(HB2.out.cell (p:=⟨w.heap.size,0,none⟩) (om)).trans p0,(HB2.out.cell (p:=⟨w.heap.size,1,none⟩) (om)).trans p1,(HB2.out.cell (p:=⟨w.heap.size,2,none⟩) (om)).trans p2,e1,(by rw[F0.out,HM.out];exact owns_below O.out HB2.out:World.ownsRow _ _ _ _ _ _ _)⟩)
      . rw[hfy] at HC;rw[hfy,if_pos rfl] at hf0;have F0:Hid ((nets.take (k+1)).filter fp=(nets.take k).filter fp++[y]):=hf0
        clear hf0 hfy;have HO:Hid (∀ wz,Below wr.heap.size wr wz->wz.ownsRow (w.heap.size+1) 208 2 (.slice b5 ((nets.take k).filter fp).length c5) ((nets.take k).filter fp).length (((nets.take k).filter fp).flatMap encL)):=fun wz hz=>owns_below O.out hz
        have HOB:Hid (∀ b,(Value.slice b5 ((nets.take k).filter fp).length c5).ownBlock=some b->w.heap.size+1<=b):=owns_base O.out
        generalize hm5:((nets.take k).filter fp).length=m5 at HO HOB hll hn5
        have HM:Hid (((nets.take k).filter fp).length=m5):=hm5
        clear hm5 O;generalize hl5:(((nets.take k).filter fp).flatMap encL)=l5 at HO
        have HL5:Hid ((((nets.take k).filter fp).flatMap encL)=l5):=hl5
        clear hl5;go_wp2;go_region_with (first|(go_at_call 123;refine(single_any _ _).mono ?_;rintro e w1 ⟨rfl,hb1⟩;have HB1:Hid (Below wr.heap.size wr w1):=bup (upB) hb1;have q0:w1.cell? ⟨w.heap.size,0,none⟩=some (.int .u32 pa):=(HB1.out.cell (p:=⟨w.heap.size,0,none⟩) zv).trans p0;have q1:w1.cell? ⟨w.heap.size,1,none⟩=some (.int .i64 pn):=(HB1.out.cell (p:=⟨w.heap.size,1,none⟩) zv).trans p1;have q2:w1.cell? ⟨w.heap.size,2,none⟩=some (.string po):=(HB1.out.cell (p:=⟨w.heap.size,2,none⟩) zv).trans p2;have r0:w1.cell? ⟨wr.heap.size,0,none⟩=some (.int .u32 y.a):=(by rw[hb1.cell (p:=⟨wr.heap.size,0,none⟩) (by simp)];simp[go_sem]);have r1:w1.cell? ⟨wr.heap.size,1,none⟩=some (.string y.o):=(by rw[hb1.cell (p:=⟨wr.heap.size,1,none⟩) (by simp)];simp[go_sem]);have y1:wr.heap.size<w1.heap.size:=(by have:=hb1.size;simp at this;omega);clear hb1)|(go_at_call 160;refine(HC.out _).mono ?_;rintro e w2 ⟨rfl,hb2⟩;have HB2:Hid (Below wr.heap.size wr w2):=bup HB1.out hb2;have j0:w2.cell? ⟨wr.heap.size,0,none⟩=some (.int .u32 y.a):=(hb2.cell (p:=⟨wr.heap.size,0,none⟩) y1).trans r0;have j1:w2.cell? ⟨wr.heap.size,1,none⟩=some (.string y.o):=(hb2.cell (p:=⟨wr.heap.size,1,none⟩) y1).trans r1;have z2:wr.heap.size<w2.heap.size:=(by have:=hb2.size;omega);clear hb2))
        all_goals (
          go_wp2_with (at_builtin;refine wpList_append_lies _ rfl _ _ 158 rfl (w.heap.size+1) 208 i0 _ 2 24 Tryz.underlying158 hi0 hz0 hz1 hz2 rfl (by decide) (.slice b5 m5 c5) m5 l5 rfl (HO.out _ (Below.alloc HB2.out HB2.out.size _)) ⟨w2.heap.size,0,none⟩ 1 1 (encL y) rfl rfl (cellsL2 (by simp[go_sem]) (by simp[go_sem])) (oneF y) (om) (by unfold maxLen;omega) (om) (by simp;omega) _ rfl ?_;intro g3 cap3 w3 hown3 hgrow3 hat3 hlt3)
          go_roundg (nets.length-(k+1))
          case measure=>omega
          case rel =>
            have hq:Below (w.heap.size+1) (w.alloc (.cells #[.int .u32 pa,.int .i64 pn,.string po] 195)) w3:=below_grown ((BW.out.trans (HB2.out.mono zw)).alloc (om) _) hgrow3 HOB.out (by simp;omega)
            have e1:Hid (Below (w.heap.size+1) (w.alloc (.cells #[.int .u32 pa,.int .i64 pn,.string po] 195)) w3):=hq
            have e3:w3.ownsRow (w.heap.size+1) 208 2 (.slice (some ⟨g3,0,none⟩) (m5+1) cap3) ((nets.take (k+1)).filter fp).length (((nets.take (k+1)).filter fp).flatMap encL):=by
              rw[F0.out,List.length_append,HM.out,List.flatMap_append,HL5.out];simpa using hown3
            have e2:Hid (w3.ownsRow (w.heap.size+1) 208 2 (.slice (some ⟨g3,0,none⟩) (m5+1) cap3) ((nets.take (k+1)).filter fp).length (((nets.take (k+1)).filter fp).flatMap encL)):=e3
            exact⟨k+1,by omega,by omega,by go_num,(hq.cell (p:=⟨w.heap.size,0,none⟩) (by simp)).trans (by simp[go_sem]),(hq.cell (p:=⟨w.heap.size,1,none⟩) (by simp)).trans (by simp[go_sem]),(hq.cell (p:=⟨w.heap.size,2,none⟩) (by simp)).trans (by simp[go_sem]),e1,e2⟩)
    . have hkl:k=nets.length:=by omega
      subst hkl;rw[List.take_length] at O;clear hrow hsp HA HF HL;obtain⟨b5,c5,rfl,hn5,hm5⟩:=owns_slice O.out;go_wp2;go_ret;exact⟨_,rfl,⟨O.out.1,by rcases O.out.2 with h|⟨g,cap,cur,h0,h1,h2⟩;exact .inl h;exact .inr ⟨g,cap,cur,h0,by omega,h2⟩⟩,BW2.out⟩
theorem or_low (a n:Int) (h0:0<=n) (h1:n<=32) (ha:0<=a) (hb:a<4294967296) (hr:a%sz n=0):bits .or .u32 a (sz n-1)=a+sz n-1:=by
  have hp:=sz_pos n;have hl:=sz_le n h0;rw[u32_or a _ ha hb (om) (om)];have e:a.toNat ||| (sz n-1).toNat=a.toNat+(sz n-1).toNat:=by
    refine nat_join (32-n).toNat _ _ ?_ ?_
    . have:(a.toNat:Int)%((2^(32-n).toNat:Nat):Int)=0:=by rw[<- sz_nat,Int.toNat_of_nonneg ha];exact hr
      omega
    . have:=toNat_sz n;omega
  rw[e];omega
theorem xm_fin:∀ k:Fin 33,(4294967295:Nat) ^^^ (4294967296-2^(k:Nat))=2^(k:Nat)-1:=by decide +kernel
theorem xor_mask (n:Int) (h0:0<=n) (h1:n<=32):bits .xor .u32 IntKind.u32.max (4294967296-sz n)=sz n-1:=by
  have hp:=sz_pos n;have hl:=sz_le n h0;rw[show IntKind.u32.max=4294967295 by decide,u32_xor _ _ (om) (om) (om) (om)]
  have e:=xm_fin ⟨(32-n).toNat,by omega⟩
  have ht:=toNat_sz n;have e2:(4294967296-sz n).toNat=4294967296-2^(32-n).toNat:=by omega
  simp only at e
  rw[e2,show (4294967295:Int).toNat=4294967295 from rfl,e];omega
set_option maxHeartbeats 400000 in
theorem last_any (a n:Int) (w:World) (ha:ad a) (hr:rt a n=true) :
    Calls Tryz.prog 174 #[.agg #[.int .u32 a,.int .i64 n]] w fun e w'=>e=.returned (.int .u32 (lst a n))/\Below w.heap.size w w':=by
  obtain⟨h0,h1,h2⟩:=rt_iff.1 hr;have e:=or_low a n h0 h1 ha.1 ha.2 h2;have hp:=sz_pos n;have hl:=sz_le n h0;have hE:Hid (lst a n=a+sz n-1):=rfl
  go_enter Tryz.func174,Tryz.ntmps174
  go_wp2;go_quiet ((go_at_call 215;exact Calls.quiet_of_same (mask_any _ _ h0 h1)))
  go_wp2;go_ret;refine⟨ret_int ?_,(upB)⟩
  rw[xor_mask n h0 h1,e];rfl
set_option maxRecDepth 100000 in
set_option maxHeartbeats 1000000 in
theorem usable_any (h:Hd) (w:World) (ha:ad h.a) (hr:rt h.a h.n=true) :
    Calls Tryz.prog 124 #[vH h] w fun e w'=>e=.returned (.tuple #[.int .u32 (useA h.a h.n),.int .u32 (useZ h.a h.n)])/\Below w.heap.size w w':=by
  have hb:Hid (∀ w,Calls Tryz.prog 173 #[vH h] w fun e w'=>e=.returned (.int .u32 h.a)/\Below w.heap.size w w'):=fun w=>hbase_any h w
  have hl:Hid (∀ w,Calls Tryz.prog 174 #[.agg #[.int .u32 h.a,.int .i64 h.n]] w fun e w'=>e=.returned (.int .u32 (lst h.a h.n))/\Below w.heap.size w w'):=fun w=>last_any h.a h.n w ha hr
  obtain⟨h0,h1,h2⟩:=rt_iff.1 hr;have hp:=sz_pos h.n;have he:=end_le h.a h.n h0 h1 ha.1 ha.2 h2;have h30:h.n<=30->4<=sz h.n:=fun hn=>by
    have a1:=sz_succ h.n (om)
    have a2:=sz_succ (h.n+1) (om)
    have a3:=sz_pos (h.n+1+1)
    omega
  have hq1:h.a<=lst h.a h.n/\lst h.a h.n<4294967296:=by unfold lst;omega
  have hq2:h.n<=30->h.a+3<=lst h.a h.n:=fun hn=>by have:=h30 hn;unfold lst;omega
  have ha1:=ha.1;clear hp he h30;unfold useA useZ;generalize lst h.a h.n=q at hl hq1 hq2 ⊢
  obtain⟨q0,q1⟩:=hq1;obtain⟨a,n,o⟩:=h;unfold vH at hb;unfold vH;dsimp only at *
  clear ha hr h2;by_cases hn:n<=30
  . have h4:=hq2 hn;have u1:IntKind.u32.wrap (a+1)=a+1:=by rw[IntKind.wrap_u32'];omega
    have u2:IntKind.u32.wrap (q-1)=q-1:=by rw[IntKind.wrap_u32'];omega
    rw[if_pos hn,if_pos hn];go_enter Tryz.func124,Tryz.ntmps124
    go_wp2;go_region_with (first|(go_at_call 173;refine(hb.out _).mono ?_;rintro e w1 ⟨rfl,hb1⟩;have HB1:Hid (Below w.heap.size w w1):=bup (upB) hb1;have k0:w1.cell? ⟨w.heap.size,0,none⟩=some (.int .u32 a):=(by rw[hb1.cell (p:=⟨w.heap.size,0,none⟩) (by simp)];simp[go_sem]);have k1:w1.cell? ⟨w.heap.size,1,none⟩=some (.int .i64 n):=(by rw[hb1.cell (p:=⟨w.heap.size,1,none⟩) (by simp)];simp[go_sem]);have z1:w.heap.size<w1.heap.size:=(by have:=hb1.size;simp at this;omega);clear hb1)|(go_at_call 174;refine(hl.out _).mono ?_;rintro e w2 ⟨rfl,hb2⟩;have HB2:Hid (Below w.heap.size w w2):=bup HB1.out hb2;have j1:w2.cell? ⟨w.heap.size,1,none⟩=some (.int .i64 n):=(hb2.cell (p:=⟨w.heap.size,1,none⟩) z1).trans k1;clear hb2))
    all_goals (
      go_wp2;go_ret2
      exact⟨by first|rfl|(simp[u1,u2];done),HB2.out⟩)
  . rw[if_neg hn,if_neg hn];go_enter Tryz.func124,Tryz.ntmps124
    go_wp2;go_region_with (first|(go_at_call 173;refine(hb.out _).mono ?_;rintro e w1 ⟨rfl,hb1⟩;have HB1:Hid (Below w.heap.size w w1):=bup (upB) hb1;have k0:w1.cell? ⟨w.heap.size,0,none⟩=some (.int .u32 a):=(by rw[hb1.cell (p:=⟨w.heap.size,0,none⟩) (by simp)];simp[go_sem]);have k1:w1.cell? ⟨w.heap.size,1,none⟩=some (.int .i64 n):=(by rw[hb1.cell (p:=⟨w.heap.size,1,none⟩) (by simp)];simp[go_sem]);have z1:w.heap.size<w1.heap.size:=(by have:=hb1.size;simp at this;omega);clear hb1)|(go_at_call 174;refine(hl.out _).mono ?_;rintro e w2 ⟨rfl,hb2⟩;have HB2:Hid (Below w.heap.size w w2):=bup HB1.out hb2;have j1:w2.cell? ⟨w.heap.size,1,none⟩=some (.int .i64 n):=(hb2.cell (p:=⟨w.heap.size,1,none⟩) z1).trans k1;clear hb2))
    all_goals (
      go_wp2;go_ret2
      exact⟨rfl,HB2.out⟩)
theorem findL_any (x:Nat) (ls:List Ls) (a:Int) (vl:Value) (w:World) (cx:w.cell? ⟨x,2,none⟩=some vl) (hr:Rd 2 encL ls0 w vl ls) (hn:ls.length<=1000) (hs:Up Ls.a ls0 ls) :
    Calls Tryz.prog 125 #[.pointer (some ⟨x,0,none⟩),.int .u32 a] w fun e w'=>e=.returned (.tuple #[.int .i64 (cntL ls a:Nat),.bool (hasL ls a)])/\Below w.heap.size w w':=by
  have hb:Hid (Calls Tryz.prog 175 #[vl,.int .u32 a,.func (.func 176) #[] #[]] w fun e w'=>e=.returned (.tuple #[.int .i64 (cntL ls a:Nat),.bool (hasL ls a)])/\Below w.heap.size w w'):=bsL ls a vl w hr hs hn
  obtain⟨b,cap,rfl,_⟩:=hr;generalize cntL ls a=cn at hb ⊢
  generalize hasL ls a=fb at hb ⊢
  clear hs hn;go_enter Tryz.func125,Tryz.ntmps125
  go_wp2_with (go_at_call 175;refine hb.out.mono ?_;rintro e w1 ⟨rfl,hb1⟩)
  go_ret2
  exact⟨rfl,hb1⟩
def lnC (l:Ln):Array Value:=#[.int .i64 l.v,.string l.t,.string l.o,.int .u32 l.a,.int .i64 l.n,.int .u32 l.d,.int .i64 l.g]
def encS (s:ByteArray):List Value:=[.string s]
structure Inv (s:Bk):Prop where
  p:s.pools.length<=6
  n:s.nets.length<=24
  l:s.leases.length<=40
  t:s.toks.length<=8
  pa:∀ h,h∈s.pools->ad h.a/\rt h.a h.n=true/\8<=h.n/\h.n<=30/\h.o.size<=8
  na:∀ h,h∈s.nets->ad h.a/\rt h.a h.n=true/\22<=h.n/\h.o.size<=8
  la:∀ h,h∈s.leases->ad h.a/\h.o.size<=8
  pu:Up Hd.a hd0 s.pools
  nu:Up Hd.a hd0 s.nets
  lu:Up Ls.a ls0 s.leases
structure LnOk (l:Ln):Prop where
  a:ad l.a
  d:ad l.d
  r:rt l.a l.n=true
  g0:0<=l.g
  g1:l.g<=32
  o:l.o.size<=8
structure BA (w:World) (x:Nat) (S:Nat->Prop) (vp vn vl:Value) (c:Nat) (s:Bk):Prop where
  blk:Blk w x #[vp,vn,vl] 160
  ch:True
  op:w.ownsRow 0 155 3 vp s.pools.length (s.pools.flatMap encH)
  on:w.ownsRow 0 195 3 vn s.nets.length (s.nets.flatMap encH)
  ol:w.ownsRow 0 208 2 vl s.leases.length (s.leases.flatMap encL)
  sx:S x
  sc:True
  sp:∀ b,vp.ownBlock=some b->S b
  sn:∀ b,vn.ownBlock=some b->S b
  sl:∀ b,vl.ownBlock=some b->S b
  sz:∀ b,S b->b<w.heap.size
def BkAt (w:World) (x:Nat) (S:Nat->Prop) (s:Bk):Prop:=∃ vp vn vl c,BA w x S vp vn vl c s
theorem Ch.same {w w':World} {c:Nat} {l:List Tk} (h:Ch w c l) (e:w'.heap[c]?=w.heap[c]?):Ch w' c l:=by obtain⟨s,r,h⟩:=h;exact⟨s,r,e.trans h⟩
theorem owns_same {w w':World} {B:Nat} {t:TypeId} {k:Nat} {v:Value} {n:Nat} {xs:List Value} (h:w.ownsRow B t k v n xs) (e:∀ b,v.ownBlock=some b->w'.heap[b]?=w.heap[b]?):w'.ownsRow B t k v n xs:=by
  refine⟨h.1,?_⟩
  rcases h.2 with hn|⟨g,cap,cur,rfl,h1,hg,rest⟩
  . exact .inl hn
  . exact .inr ⟨g,cap,cur,rfl,h1,(e g rfl).trans hg,rest⟩
theorem owns_lt {w:World} {B:Nat} {t:TypeId} {k:Nat} {v:Value} {n:Nat} {xs:List Value} (h:w.ownsRow B t k v n xs):∀ b,v.ownBlock=some b->b<w.heap.size/\∃ cur,w.heap[b]?=some (.cells cur t (0,0)):=fun b e=>by
  rcases h.2 with⟨rfl,_⟩|⟨g,cap,cur,rfl,h1,hg,_⟩
  . cases e
  . obtain rfl:g=b:=by simpa[Value.ownBlock] using e
    exact⟨(Array.getElem?_eq_some_iff.1 hg).1,cur,hg⟩
theorem BA.same {w w':World} {x:Nat} {S:Nat->Prop} {vp vn vl:Value} {c:Nat} {s:Bk} (h:BA w x S vp vn vl c s) (e:∀ b,S b->w'.heap[b]?=w.heap[b]?) (hz:w.heap.size<=w'.heap.size):BA w' x S vp vn vl c s :=
  ⟨(e x h.sx).trans h.blk,trivial,owns_same h.op fun b k=>e b (h.sp b k),owns_same h.on fun b k=>e b (h.sn b k),owns_same h.ol fun b k=>e b (h.sl b k),h.sx,h.sc,h.sp,h.sn,h.sl,fun b k=>Nat.lt_of_lt_of_le (h.sz b k) hz⟩
theorem BA.below {w w':World} {x:Nat} {S:Nat->Prop} {vp vn vl:Value} {c:Nat} {s:Bk} (h:BA w x S vp vn vl c s) (hb:Below w.heap.size w w'):BA w' x S vp vn vl c s:=h.same (fun b k=>hb.block b (h.sz b k)) hb.size
theorem BkAt.below {w w':World} {x:Nat} {S:Nat->Prop} {s:Bk} (h:BkAt w x S s) (hb:Below w.heap.size w w'):BkAt w' x S s:=by obtain⟨vp,vn,vl,c,h⟩:=h;exact⟨vp,vn,vl,c,h.below hb⟩
def Res (w:World) (x:Nat) (S:Nat->Prop) (r:Bk×An) (e:Ending) (w':World):Prop:=∃ v S',e=.returned (.agg #[.int .i64 r.2.e,v])/\Rd 1 encS ⟨#[]⟩ w' v r.2.s/\BkAt w' x S' r.1/\(∀ b,S' b->S b\/w.heap.size<=b)/\Chg S w w'
theorem rd_nil {α:Type} (k:Nat) (enc:α->List Value) (d:α) (w:World):Rd k enc d w (.slice none 0 0) []:=⟨none,0,rfl,Nat.le_refl _,by unfold maxLen;omega,fun h=>absurd rfl h⟩
theorem res_same {w w':World} {x:Nat} {S:Nat->Prop} {s:Bk} (k:Nat) (h:BkAt w x S s) (hb:Below w.heap.size w w'):Res w x S (s,ref k) (.returned (.agg #[.int .i64 k,.slice none 0 0])) w' :=
  ⟨.slice none 0 0,S,rfl,rd_nil _ _ _ _,h.below hb,fun b k=>.inl k,Chg.below hb⟩
theorem BA.apart {w:World} {x:Nat} {S:Nat->Prop} {vp vn vl:Value} {c:Nat} {s:Bk} (h:BA w x S vp vn vl c s) :
    (∀ b,vp.ownBlock=some b->b≠x/\True/\vn.ownBlock≠some b/\vl.ownBlock≠some b)/\(∀ b,vn.ownBlock=some b->b≠x/\True/\vp.ownBlock≠some b/\vl.ownBlock≠some b)/\(∀ b,vl.ownBlock=some b->b≠x/\True/\vp.ownBlock≠some b/\vn.ownBlock≠some b):=by
  have hx:=h.blk;have hp:=owns_lt h.op;have hn:=owns_lt h.on;have hl:=owns_lt h.ol;unfold Blk at hx;refine⟨fun b e=>?_,fun b e=>?_,fun b e=>?_⟩
  . obtain⟨_,cur,q⟩:=hp b e;refine⟨?_,trivial,fun k=>?_,fun k=>?_⟩
    . rintro rfl;rw[hx] at q;simp at q
    . obtain⟨_,cur2,q2⟩:=hn b k;rw[q] at q2;simp at q2
    . obtain⟨_,cur2,q2⟩:=hl b k;rw[q] at q2;simp at q2
  . obtain⟨_,cur,q⟩:=hn b e;refine⟨?_,trivial,fun k=>?_,fun k=>?_⟩
    . rintro rfl;rw[hx] at q;simp at q
    . obtain⟨_,cur2,q2⟩:=hp b k;rw[q] at q2;simp at q2
    . obtain⟨_,cur2,q2⟩:=hl b k;rw[q] at q2;simp at q2
  . obtain⟨_,cur,q⟩:=hl b e;refine⟨?_,trivial,fun k=>?_,fun k=>?_⟩
    . rintro rfl;rw[hx] at q;simp at q
    . obtain⟨_,cur2,q2⟩:=hp b k;rw[q] at q2;simp at q2
    . obtain⟨_,cur2,q2⟩:=hn b k;rw[q] at q2;simp at q2
set_option maxHeartbeats 400000 in
theorem refuse_any (k:Nat) (w:World):Calls Tryz.prog 39 #[.int .i64 k] w fun e w'=>e=.returned (.agg #[.int .i64 k,.slice none 0 0])/\Below w.heap.size w w':=by
  go_enter Tryz.func39,Tryz.ntmps39
  go_wp2;go_returns
  exact⟨rfl,(upB)⟩
set_option maxHeartbeats 400000 in
theorem ok_any (b:Option Addr) (n c:Nat) (w:World):Calls Tryz.prog 105 #[.slice b n c] w fun e w'=>e=.returned (.agg #[.int .i64 0,.slice b n c])/\Below w.heap.size w w':=by
  go_enter Tryz.func105,Tryz.ntmps105
  go_wp2;go_returns
  exact⟨rfl,(upB)⟩
theorem isOK_any (k:Nat) (b:Option Addr) (n c:Nat) (w:World):Calls Tryz.prog 61 #[.agg #[.int .i64 k,.slice b n c]] w fun e w'=>e=.returned (.bool (decide (k=0)))/\Below w.heap.size w w':=by
  go_enter Tryz.func61,Tryz.ntmps61
  go_wp2;by_cases hk:k=0
  . subst hk;go_returns
    exact⟨rfl,(upB)⟩
  . have h2:¬((k:Int)=0):=by omega
    go_returns
    exact⟨by simp[hk],(upB)⟩
abbrev BW (w:World) (l:Ln):World->Prop:=Below (w.heap.size+2) ((w.alloc (.cells #[.int .i64 l.v,.string l.t,.string l.o,.int .u32 l.a,.int .i64 l.n,.int .u32 l.d,.int .i64 l.g] 93)).alloc (.cells #[.int .i64 0,.slice none 0 0] 98))
theorem BA.c3 {w:World} {x:Nat} {S:Nat->Prop} {vp vn vl:Value} {c:Nat} {s:Bk} (B:BA w x S vp vn vl c s):w.cell? ⟨x,0,none⟩=some vp/\w.cell? ⟨x,1,none⟩=some vn/\w.cell? ⟨x,2,none⟩=some vl:=⟨B.blk.cell 0,B.blk.cell 1,B.blk.cell 2⟩
structure Live (w wk:World) (x:Nat) (vp vn vl:Value) (l:Ln):Prop where
  x0:wk.cell? ⟨x,0,none⟩=some vp
  x1:wk.cell? ⟨x,1,none⟩=some vn
  x2:wk.cell? ⟨x,2,none⟩=some vl
  f0:wk.frozen? ⟨x,0,none⟩=false
  f1:wk.frozen? ⟨x,1,none⟩=false
  f2:wk.frozen? ⟨x,2,none⟩=false
  o:wk.cell? ⟨w.heap.size,2,none⟩=some (.string l.o)
  a:wk.cell? ⟨w.heap.size,3,none⟩=some (.int .u32 l.a)
  n:wk.cell? ⟨w.heap.size,4,none⟩=some (.int .i64 l.n)
  d:wk.cell? ⟨w.heap.size,5,none⟩=some (.int .u32 l.d)
  g:wk.cell? ⟨w.heap.size,6,none⟩=some (.int .i64 l.g)
  r0:wk.cell? ⟨w.heap.size+1,0,none⟩=some (.int .i64 0)
  r1:wk.cell? ⟨w.heap.size+1,1,none⟩=some (.slice none 0 0)
  g0:wk.frozen? ⟨w.heap.size+1,0,none⟩=false
  g1:wk.frozen? ⟨w.heap.size+1,1,none⟩=false
  zx:x<wk.heap.size
  z0:w.heap.size<wk.heap.size
  z1:w.heap.size+1<wk.heap.size
  rb:Blk wk (w.heap.size+1) #[.int .i64 0,.slice none 0 0] 98
theorem live_of {w:World} {x:Nat} {S:Nat->Prop} {vp vn vl:Value} {c:Nat} {s:Bk} (l:Ln) (h:BA w x S vp vn vl c s) (wk:World) (hb:BW w l wk):Live w wk x vp vn vl l:=by
  have hx:=h.blk.lt;have q0:Blk ((w.alloc (.cells #[.int .i64 l.v,.string l.t,.string l.o,.int .u32 l.a,.int .i64 l.n,.int .u32 l.d,.int .i64 l.g] 93)).alloc (.cells #[.int .i64 0,.slice none 0 0] 98)) x #[vp,vn,vl] 160:=h.blk.below (upB)
  have q1:Blk ((w.alloc (.cells #[.int .i64 l.v,.string l.t,.string l.o,.int .u32 l.a,.int .i64 l.n,.int .u32 l.d,.int .i64 l.g] 93)).alloc (.cells #[.int .i64 0,.slice none 0 0] 98)) w.heap.size #[.int .i64 l.v,.string l.t,.string l.o,.int .u32 l.a,.int .i64 l.n,.int .u32 l.d,.int .i64 l.g] 93:=(Below.heap_alloc _ _ _ (by simp)).trans (Blk.new w _ _)
  have q2:=Blk.new (w.alloc (.cells #[.int .i64 l.v,.string l.t,.string l.o,.int .u32 l.a,.int .i64 l.n,.int .u32 l.d,.int .i64 l.g] 93)) #[.int .i64 0,.slice none 0 0] 98
  rw[show (w.alloc (.cells #[.int .i64 l.v,.string l.t,.string l.o,.int .u32 l.a,.int .i64 l.n,.int .u32 l.d,.int .i64 l.g] 93)).heap.size=w.heap.size+1 by simp] at q2
  have hz:=hb.size;simp at hz;have p0:Blk wk x #[vp,vn,vl] 160:=(hb.block x (om)).trans q0
  have p1:Blk wk w.heap.size #[.int .i64 l.v,.string l.t,.string l.o,.int .u32 l.a,.int .i64 l.n,.int .u32 l.d,.int .i64 l.g] 93:=(hb.block _ (om)).trans q1
  have p2:Blk wk (w.heap.size+1) #[.int .i64 0,.slice none 0 0] 98:=(hb.block _ (om)).trans q2
  exact⟨p0.cell 0,p0.cell 1,p0.cell 2,p0.frozen 0,p0.frozen 1,p0.frozen 2,p1.cell 2,p1.cell 3,p1.cell 4,p1.cell 5,p1.cell 6,p2.cell 0,p2.cell 1,p2.frozen 0,p2.frozen 1,by omega,by omega,by omega,p2⟩
theorem two_set {w:World} {g:Nat} {t:TypeId} {u0 u1:Value} (h:Blk w g #[u0,u1] t) (a b:Value):((w.setCell ⟨g,0,none⟩ a).setCell ⟨g,1,none⟩ b).cell? ⟨g,0,none⟩=some a/\((w.setCell ⟨g,0,none⟩ a).setCell ⟨g,1,none⟩ b).cell? ⟨g,1,none⟩=some b :=
  ⟨((h.set 0 a).set 1 b).cell 0,((h.set 0 a).set 1 b).cell 1⟩
theorem bstep {n:Nat} {A Wc wk:World} (h1:Below n A Wc) (hz:n<=A.heap.size) (hq:Below Wc.heap.size Wc wk):Below n A wk:=h1.trans (hq.mono (Nat.le_trans hz h1.size))
theorem w0_below (w:World) (l:Ln):Below w.heap.size w ((w.alloc (.cells #[.int .i64 l.v,.string l.t,.string l.o,.int .u32 l.a,.int .i64 l.n,.int .u32 l.d,.int .i64 l.g] 93)).alloc (.cells #[.int .i64 0,.slice none 0 0] 98)):=(upB)
theorem res_ref {w w9:World} {x:Nat} {S:Nat->Prop} {s:Bk} {l:Ln} (k:Nat) (h:BkAt w x S s) (hb:BW w l w9):Res w x S (s,ref k) (.returned (.agg #[.int .i64 k,.slice none 0 0])) ((w9.setCell ⟨w.heap.size+1,0,none⟩ (.int .i64 k)).setCell ⟨w.heap.size+1,1,none⟩ (.slice none 0 0)):=by
  have h0:=(w0_below w l).trans (hb.mono (om))
  have hz:=hb.size;simp at hz;exact res_same k h (upB)
theorem Live.same {w W w2:World} {x:Nat} {vp vn vl:Value} {l:Ln} (L:Live w W x vp vn vl l) (hz:W.heap.size<=w2.heap.size) (hx:w2.heap[x]?=W.heap[x]?) (h0:w2.heap[w.heap.size]?=W.heap[w.heap.size]?) (h1:w2.heap[w.heap.size+1]?=W.heap[w.heap.size+1]?):Live w w2 x vp vn vl l :=
  ⟨(World.cell?_of_block (a:=⟨x,0,none⟩) hx).trans L.x0,(World.cell?_of_block (a:=⟨x,1,none⟩) hx).trans L.x1,(World.cell?_of_block (a:=⟨x,2,none⟩) hx).trans L.x2,(World.frozen?_of_block (a:=⟨x,0,none⟩) hx).trans L.f0,(World.frozen?_of_block (a:=⟨x,1,none⟩) hx).trans L.f1,(World.frozen?_of_block (a:=⟨x,2,none⟩) hx).trans L.f2,
    (World.cell?_of_block (a:=⟨w.heap.size,2,none⟩) h0).trans L.o,(World.cell?_of_block (a:=⟨w.heap.size,3,none⟩) h0).trans L.a,(World.cell?_of_block (a:=⟨w.heap.size,4,none⟩) h0).trans L.n,(World.cell?_of_block (a:=⟨w.heap.size,5,none⟩) h0).trans L.d,(World.cell?_of_block (a:=⟨w.heap.size,6,none⟩) h0).trans L.g,
    (World.cell?_of_block (a:=⟨w.heap.size+1,0,none⟩) h1).trans L.r0,(World.cell?_of_block (a:=⟨w.heap.size+1,1,none⟩) h1).trans L.r1,(World.frozen?_of_block (a:=⟨w.heap.size+1,0,none⟩) h1).trans L.g0,(World.frozen?_of_block (a:=⟨w.heap.size+1,1,none⟩) h1).trans L.g1,by have:=L.zx;omega,by have:=L.z0;omega,by have:=L.z1;omega,h1.trans L.rb⟩
theorem Live.far {w W w2:World} {x:Nat} {vp vn vl:Value} {l:Ln} {row:Option Nat} (L:Live w W x vp vn vl l) (g:W.grownBy w2 row) (hx:row≠some x) (hr:∀ b,row=some b->b<w.heap.size):Live w w2 x vp vn vl l :=
  L.same g.size (g.block x L.zx fun e=>hx e.symm) (g.block _ L.z0 fun e=>by have:=hr _ e.symm;omega) (g.block _ L.z1 fun e=>by have:=hr _ e.symm;omega)
theorem res_put0 {w W w2 w4:World} {x:Nat} {S:Nat->Prop} {vp vn vl:Value} {c:Nat} {s:Bk} (B:BA w x S vp vn vl c s) (hW:Below w.heap.size w W) (hz:w.heap.size+2<=W.heap.size) (g2:W.grownBy w2 vp.ownBlock) {v':Value} {new:List Hd}
    (o:w2.ownsRow 0 155 3 v' new.length (new.flatMap encH)) (ho:∀ b,v'.ownBlock=some b->vp.ownBlock=some b\/W.heap.size<=b) (h4:Below w2.heap.size (w2.setCell ⟨x,0,none⟩ v') w4) :
    Res w x S ({ s with pools:=new },okA) (.returned (.agg #[.int .i64 0,.slice none 0 0])) ((w4.setCell ⟨w.heap.size+1,0,none⟩ (.int .i64 0)).setCell ⟨w.heap.size+1,1,none⟩ (.slice none 0 0)):=by
  obtain⟨AP0,AP1,AP2⟩:=B.apart;have hx:=B.blk.lt;have hzs:w2.heap.size<=w4.heap.size:=by have:=h4.size;simpa[World.setCell] using this
  have s1:=sets_other (w.heap.size+1) [.int .i64 0,.slice none 0 0] 0 w4
  have hx2:(w2.setCell ⟨x,0,none⟩ v').heap.size=w2.heap.size:=by simp[World.setCell]
  -- what is neither the book's own block nor the answer's
  have hfin:∀ b,b<w2.heap.size->b≠x->b≠w.heap.size+1->(((w4.setCell ⟨w.heap.size+1,0,none⟩ (.int .i64 0)).setCell ⟨w.heap.size+1,1,none⟩ (.slice none 0 0))).heap[b]?=w2.heap[b]?:=fun b hb hbx hb1 =>
    (s1.2.2.2.2 b hb1).trans ((h4.block b hb).trans (Below.heap_setCell _ _ _ _ hbx))
  have hold:∀ b,S b->b≠x->vp.ownBlock≠some b->(((w4.setCell ⟨w.heap.size+1,0,none⟩ (.int .i64 0)).setCell ⟨w.heap.size+1,1,none⟩ (.slice none 0 0))).heap[b]?=w.heap[b]?:=fun b hS hbx hv=>by
    have hb:=B.sz b hS;exact(hfin b (by have:=g2.size;omega) hbx (om)).trans ((g2.block b (om) (fun e=>hv e.symm)).trans (hW.block b hb))
  have hbk:Blk ((w4.setCell ⟨w.heap.size+1,0,none⟩ (.int .i64 0)).setCell ⟨w.heap.size+1,1,none⟩ (.slice none 0 0)) x #[v',vn,vl] 160:=by
    have b1:Blk w2 x #[vp,vn,vl] 160:=(g2.block x (om) (fun e=>(AP0 x e.symm).1 rfl)).trans (B.blk.below hW)
    have b2:=b1.set 0 v';have b3:Blk w4 x #[v',vn,vl] 160:=(h4.block x b1.lt).trans b2
    exact(s1.2.2.2.2 x (om)).trans b3
  refine⟨_,fun b=>S b\/v'.ownBlock=some b,rfl,rd_nil _ _ _ _,⟨v',vn,vl,c,hbk,?_,?_,?_,?_,.inl B.sx,trivial,?_,?_,?_,?_⟩,?_,?_⟩
  . trivial
  . refine owns_same o fun b e=>hfin b (owns_lt o b e).1 ?_ ?_
    . rintro rfl
      rcases ho _ e with q|q
      . exact(AP0 _ q).1 rfl
      . omega
    . rintro rfl
      rcases ho _ e with q|q
      . have:=B.sz _ (B.sp _ q);omega
      . omega
  . exact owns_same B.on fun b e=>hold b (B.sn b e) (AP1 b e).1 (AP1 b e).2.2.1
  . exact owns_same B.ol fun b e=>hold b (B.sl b e) (AP2 b e).1 (AP2 b e).2.2.1
  . exact fun b e=>.inr e
  . exact fun b e=>.inl (B.sn b e)
  . exact fun b e=>.inl (B.sl b e)
  . rintro b (hb|hb)
    . have:=B.sz b hb
      have:=hW.size
      have:=g2.size
      have h5:=s1.2.2.2.1;rw[show ((w4.setCell ⟨w.heap.size+1,0,none⟩ (.int .i64 0)).setCell ⟨w.heap.size+1,1,none⟩ (.slice none 0 0)).heap.size=w4.heap.size from h5];omega
    . have:=(owns_lt o b hb).1
      have h5:=s1.2.2.2.1;rw[show ((w4.setCell ⟨w.heap.size+1,0,none⟩ (.int .i64 0)).setCell ⟨w.heap.size+1,1,none⟩ (.slice none 0 0)).heap.size=w4.heap.size from h5];omega
  . rintro b (hb|hb)
    . exact .inl hb
    . rcases ho b hb with q|q
      . exact .inl (B.sp b q)
      . exact .inr (om)
  . have c1:Chg S w W:=Chg.below hW
    have c2:Chg S W w2:=Chg.grown g2 fun b e=>B.sp b e
    have c3:=(c1.trans c2 fun b e=>.inl e).sets x 0 [v'] (.inl B.sx)
    have c4:Chg S (w2.setCell ⟨x,0,none⟩ v') w4:=⟨h4.os,h4.tape,h4.output,h4.size,fun b hb hS=>h4.block b (by rw[hx2] at hb;exact hb)⟩
    exact(c3.trans c4 fun b e=>.inl e).sets (w.heap.size+1) 0 [.int .i64 0,.slice none 0 0] (.inr (om))
theorem res_put1 {w W w2 w4:World} {x:Nat} {S:Nat->Prop} {vp vn vl:Value} {c:Nat} {s:Bk} (B:BA w x S vp vn vl c s) (hW:Below w.heap.size w W) (hz:w.heap.size+2<=W.heap.size) (g2:W.grownBy w2 vn.ownBlock) {v':Value} {new:List Hd}
    (o:w2.ownsRow 0 195 3 v' new.length (new.flatMap encH)) (ho:∀ b,v'.ownBlock=some b->vn.ownBlock=some b\/W.heap.size<=b) (h4:Below w2.heap.size (w2.setCell ⟨x,1,none⟩ v') w4) :
    Res w x S ({ s with nets:=new },okA) (.returned (.agg #[.int .i64 0,.slice none 0 0])) ((w4.setCell ⟨w.heap.size+1,0,none⟩ (.int .i64 0)).setCell ⟨w.heap.size+1,1,none⟩ (.slice none 0 0)):=by
  obtain⟨AP0,AP1,AP2⟩:=B.apart;have hx:=B.blk.lt;have hzs:w2.heap.size<=w4.heap.size:=by have:=h4.size;simpa[World.setCell] using this
  have s1:=sets_other (w.heap.size+1) [.int .i64 0,.slice none 0 0] 0 w4
  have hx2:(w2.setCell ⟨x,1,none⟩ v').heap.size=w2.heap.size:=by simp[World.setCell]
  -- what is neither the book's own block nor the answer's
  have hfin:∀ b,b<w2.heap.size->b≠x->b≠w.heap.size+1->(((w4.setCell ⟨w.heap.size+1,0,none⟩ (.int .i64 0)).setCell ⟨w.heap.size+1,1,none⟩ (.slice none 0 0))).heap[b]?=w2.heap[b]?:=fun b hb hbx hb1 =>
    (s1.2.2.2.2 b hb1).trans ((h4.block b hb).trans (Below.heap_setCell _ _ _ _ hbx))
  have hold:∀ b,S b->b≠x->vn.ownBlock≠some b->(((w4.setCell ⟨w.heap.size+1,0,none⟩ (.int .i64 0)).setCell ⟨w.heap.size+1,1,none⟩ (.slice none 0 0))).heap[b]?=w.heap[b]?:=fun b hS hbx hv=>by
    have hb:=B.sz b hS;exact(hfin b (by have:=g2.size;omega) hbx (om)).trans ((g2.block b (om) (fun e=>hv e.symm)).trans (hW.block b hb))
  have hbk:Blk ((w4.setCell ⟨w.heap.size+1,0,none⟩ (.int .i64 0)).setCell ⟨w.heap.size+1,1,none⟩ (.slice none 0 0)) x #[vp,v',vl] 160:=by
    have b1:Blk w2 x #[vp,vn,vl] 160:=(g2.block x (om) (fun e=>(AP1 x e.symm).1 rfl)).trans (B.blk.below hW)
    have b2:=b1.set 1 v';have b3:Blk w4 x #[vp,v',vl] 160:=(h4.block x b1.lt).trans b2
    exact(s1.2.2.2.2 x (om)).trans b3
  refine⟨_,fun b=>S b\/v'.ownBlock=some b,rfl,rd_nil _ _ _ _,⟨vp,v',vl,c,hbk,?_,?_,?_,?_,.inl B.sx,trivial,?_,?_,?_,?_⟩,?_,?_⟩
  . trivial
  . exact owns_same B.op fun b e=>hold b (B.sp b e) (AP0 b e).1 (AP0 b e).2.2.1
  . refine owns_same o fun b e=>hfin b (owns_lt o b e).1 ?_ ?_
    . rintro rfl
      rcases ho _ e with q|q
      . exact(AP1 _ q).1 rfl
      . omega
    . rintro rfl
      rcases ho _ e with q|q
      . have:=B.sz _ (B.sn _ q);omega
      . omega
  . exact owns_same B.ol fun b e=>hold b (B.sl b e) (AP2 b e).1 (AP2 b e).2.2.2
  . exact fun b e=>.inl (B.sp b e)
  . exact fun b e=>.inr e
  . exact fun b e=>.inl (B.sl b e)
  . rintro b (hb|hb)
    . have:=B.sz b hb
      have:=hW.size
      have:=g2.size
      have h5:=s1.2.2.2.1;rw[show ((w4.setCell ⟨w.heap.size+1,0,none⟩ (.int .i64 0)).setCell ⟨w.heap.size+1,1,none⟩ (.slice none 0 0)).heap.size=w4.heap.size from h5];omega
    . have:=(owns_lt o b hb).1
      have h5:=s1.2.2.2.1;rw[show ((w4.setCell ⟨w.heap.size+1,0,none⟩ (.int .i64 0)).setCell ⟨w.heap.size+1,1,none⟩ (.slice none 0 0)).heap.size=w4.heap.size from h5];omega
  . rintro b (hb|hb)
    . exact .inl hb
    . rcases ho b hb with q|q
      . exact .inl (B.sn b q)
      . exact .inr (om)
  . have c1:Chg S w W:=Chg.below hW
    have c2:Chg S W w2:=Chg.grown g2 fun b e=>B.sn b e
    have c3:=(c1.trans c2 fun b e=>.inl e).sets x 1 [v'] (.inl B.sx)
    have c4:Chg S (w2.setCell ⟨x,1,none⟩ v') w4:=⟨h4.os,h4.tape,h4.output,h4.size,fun b hb hS=>h4.block b (by rw[hx2] at hb;exact hb)⟩
    exact(c3.trans c4 fun b e=>.inl e).sets (w.heap.size+1) 0 [.int .i64 0,.slice none 0 0] (.inr (om))
theorem res_put2 {w W w2 w4:World} {x:Nat} {S:Nat->Prop} {vp vn vl:Value} {c:Nat} {s:Bk} (B:BA w x S vp vn vl c s) (hW:Below w.heap.size w W) (hz:w.heap.size+2<=W.heap.size) (g2:W.grownBy w2 vl.ownBlock) {v':Value} {new:List Ls}
    (o:w2.ownsRow 0 208 2 v' new.length (new.flatMap encL)) (ho:∀ b,v'.ownBlock=some b->vl.ownBlock=some b\/W.heap.size<=b) (h4:Below w2.heap.size (w2.setCell ⟨x,2,none⟩ v') w4) :
    Res w x S ({ s with leases:=new },okA) (.returned (.agg #[.int .i64 0,.slice none 0 0])) ((w4.setCell ⟨w.heap.size+1,0,none⟩ (.int .i64 0)).setCell ⟨w.heap.size+1,1,none⟩ (.slice none 0 0)):=by
  obtain⟨AP0,AP1,AP2⟩:=B.apart;have hx:=B.blk.lt;have hzs:w2.heap.size<=w4.heap.size:=by have:=h4.size;simpa[World.setCell] using this
  have s1:=sets_other (w.heap.size+1) [.int .i64 0,.slice none 0 0] 0 w4
  have hx2:(w2.setCell ⟨x,2,none⟩ v').heap.size=w2.heap.size:=by simp[World.setCell]
  -- what is neither the book's own block nor the answer's
  have hfin:∀ b,b<w2.heap.size->b≠x->b≠w.heap.size+1->(((w4.setCell ⟨w.heap.size+1,0,none⟩ (.int .i64 0)).setCell ⟨w.heap.size+1,1,none⟩ (.slice none 0 0))).heap[b]?=w2.heap[b]?:=fun b hb hbx hb1 =>
    (s1.2.2.2.2 b hb1).trans ((h4.block b hb).trans (Below.heap_setCell _ _ _ _ hbx))
  have hold:∀ b,S b->b≠x->vl.ownBlock≠some b->(((w4.setCell ⟨w.heap.size+1,0,none⟩ (.int .i64 0)).setCell ⟨w.heap.size+1,1,none⟩ (.slice none 0 0))).heap[b]?=w.heap[b]?:=fun b hS hbx hv=>by
    have hb:=B.sz b hS;exact(hfin b (by have:=g2.size;omega) hbx (om)).trans ((g2.block b (om) (fun e=>hv e.symm)).trans (hW.block b hb))
  have hbk:Blk ((w4.setCell ⟨w.heap.size+1,0,none⟩ (.int .i64 0)).setCell ⟨w.heap.size+1,1,none⟩ (.slice none 0 0)) x #[vp,vn,v'] 160:=by
    have b1:Blk w2 x #[vp,vn,vl] 160:=(g2.block x (om) (fun e=>(AP2 x e.symm).1 rfl)).trans (B.blk.below hW)
    have b2:=b1.set 2 v';have b3:Blk w4 x #[vp,vn,v'] 160:=(h4.block x b1.lt).trans b2
    exact(s1.2.2.2.2 x (om)).trans b3
  refine⟨_,fun b=>S b\/v'.ownBlock=some b,rfl,rd_nil _ _ _ _,⟨vp,vn,v',c,hbk,?_,?_,?_,?_,.inl B.sx,trivial,?_,?_,?_,?_⟩,?_,?_⟩
  . trivial
  . exact owns_same B.op fun b e=>hold b (B.sp b e) (AP0 b e).1 (AP0 b e).2.2.2
  . exact owns_same B.on fun b e=>hold b (B.sn b e) (AP1 b e).1 (AP1 b e).2.2.2
  . refine owns_same o fun b e=>hfin b (owns_lt o b e).1 ?_ ?_
    . rintro rfl
      rcases ho _ e with q|q
      . exact(AP2 _ q).1 rfl
      . omega
    . rintro rfl
      rcases ho _ e with q|q
      . have:=B.sz _ (B.sl _ q);omega
      . omega
  . exact fun b e=>.inl (B.sp b e)
  . exact fun b e=>.inl (B.sn b e)
  . exact fun b e=>.inr e
  . rintro b (hb|hb)
    . have:=B.sz b hb
      have:=hW.size
      have:=g2.size
      have h5:=s1.2.2.2.1;rw[show ((w4.setCell ⟨w.heap.size+1,0,none⟩ (.int .i64 0)).setCell ⟨w.heap.size+1,1,none⟩ (.slice none 0 0)).heap.size=w4.heap.size from h5];omega
    . have:=(owns_lt o b hb).1
      have h5:=s1.2.2.2.1;rw[show ((w4.setCell ⟨w.heap.size+1,0,none⟩ (.int .i64 0)).setCell ⟨w.heap.size+1,1,none⟩ (.slice none 0 0)).heap.size=w4.heap.size from h5];omega
  . rintro b (hb|hb)
    . exact .inl hb
    . rcases ho b hb with q|q
      . exact .inl (B.sl b q)
      . exact .inr (om)
  . have c1:Chg S w W:=Chg.below hW
    have c2:Chg S W w2:=Chg.grown g2 fun b e=>B.sl b e
    have c3:=(c1.trans c2 fun b e=>.inl e).sets x 2 [v'] (.inl B.sx)
    have c4:Chg S (w2.setCell ⟨x,2,none⟩ v') w4:=⟨h4.os,h4.tape,h4.output,h4.size,fun b hb hS=>h4.block b (by rw[hx2] at hb;exact hb)⟩
    exact(c3.trans c4 fun b e=>.inl e).sets (w.heap.size+1) 0 [.int .i64 0,.slice none 0 0] (.inr (om))
end Go.Proofs.YtjnhhnbgjjkkjaaGreatDoor
