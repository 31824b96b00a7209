import Derived.Test.YtjnhhnbgjjkkjaaGreatDoorRePAF
import Derived.Test.YtjnhhnbgjjkkjaaGreatDoorRePAI
set_option linter.all false
set_option maxRecDepth 100000
set_option maxHeartbeats 2000000
namespace Go.Proofs.YtjnhhnbgjjkkjaaGreatDoor
open Go.ChangeShapes Go.WideShapes Go.ChangeAt Go.RowKit Go.Proofs.Tryz
theorem av{w w':World}{B:Nat}{t:TypeId}{k:Nat}{v:Value}{n:Nat}{xs:List Value}(h:w.ownsRow B t k v n xs)(hb:Bl w w'):w'.ownsRow B t k v n xs:=by
 refine⟨h.1,?_⟩
 rcases h.2 with hn|⟨g,cap,cur,rfl,h1,hg,rest⟩
 ·exact .inl hn
 ·exact .inr ⟨g,cap,cur,rfl,h1,(hb.block g (Array.getElem?_eq_some_iff.1 hg).1).trans hg,rest⟩
theorem kq{w W w':World}{row:Option Nat}(hb:Bl w W)(h:W.grownBy w' row):w.grownBy w' row :=
 ⟨h.os.trans hb.os,h.tape.trans hb.tape,h.output.trans hb.output,Nat.le_trans hb.size h.size,fun k hk hr=>(h.block k (Nat.lt_of_lt_of_le hk hb.size) hr).trans (hb.block k hk)⟩
theorem ic{α:Type}{k:Nat}{enc:α->List Value}(hk:∀ x,(enc x).length=k)(l:List α)(i:Nat):(l.flatMap enc).take (i*k)=(l.take i).flatMap enc:=by
 induction l generalizing i with
 | nil=>simp
 | cons x r ih =>
  cases i with
  | zero=>simp
  | succ i=>rw[List.flatMap_cons,List.take_succ_cons,List.flatMap_cons,<- ih i,Nat.succ_mul,List.take_append,hk];congr 1;exact List.take_of_length_le (by rw[hk];omega);congr 1;omega
theorem gX{α:Type}{k:Nat}{enc:α->List Value}(hk:∀ x,(enc x).length=k)(l:List α)(i:Nat):(l.flatMap enc).drop (i*k)=(l.drop i).flatMap enc:=by
 induction l generalizing i with
 | nil=>simp
 | cons x r ih =>
  cases i with
  | zero=>simp
  | succ i=>rw[List.flatMap_cons,List.drop_succ_cons,<- ih i,Nat.succ_mul,List.drop_append,hk,List.drop_eq_nil_of_le (by rw[hk];omega),List.nil_append];congr 1;omega
theorem Dc(l:List Hd):∀ u∈l.flatMap ak,u.oneCell'=true:=by
 intro u hu;obtain⟨h,_,hh⟩:=List.mem_flatMap.1 hu;simp[ak] at hh
 rcases hh with rfl|rfl|rfl<;>rfl
theorem Gn(l:List Ls):∀ u∈l.flatMap br,u.oneCell'=true:=by
 intro u hu;obtain⟨h,_,hh⟩:=List.mem_flatMap.1 hu;simp[br] at hh
 rcases hh with rfl|rfl<;>rfl
structure Chg(S:Nat->Prop)(w w':World):Prop where
 os:w'.os=w.os
 tape:w'.tape=w.tape
 output:w'.output=w.output
 size:w.heap.size<=w'.heap.size
 block:∀ b,b<w.heap.size->¬S b->w'.heap[b]?=w.heap[b]?
theorem Chg.refl(S:Nat->Prop)(w:World):Chg S w w:=⟨rfl,rfl,rfl,Nat.le_refl _,fun _ _ _=>rfl⟩
theorem Chg.below{S:Nat->Prop}{w w':World}(h:Bl w w'):Chg S w w':=⟨h.os,h.tape,h.output,h.size,fun b hb _=>h.block b hb⟩
theorem Chg.trans{S S':Nat->Prop}{w w' w'':World}(h:Chg S w w')(k:Chg S' w' w'')(hs:∀ b,S' b->S b\/w.heap.size<=b):Chg S w w'' :=
 ⟨k.os.trans h.os,k.tape.trans h.tape,k.output.trans h.output,Nat.le_trans h.size k.size,fun b hb hS=>(k.block b (Nat.lt_of_lt_of_le hb h.size) (fun hk=>by rcases hs b hk with e|e;exact hS e;omega)).trans (h.block b hb hS)⟩
theorem Chg.mono{S S':Nat->Prop}{w w':World}(h:Chg S w w')(hs:∀ b,S b->b<w.heap.size->S' b):Chg S' w w':=⟨h.os,h.tape,h.output,h.size,fun b hb hS=>h.block b hb fun k=>hS (hs b k hb)⟩
theorem Chg.grown{w w':World}{row:Option Nat}{S:Nat->Prop}(h:w.grownBy w' row)(hs:∀ b,row=some b->S b):Chg S w w':=⟨h.os,h.tape,h.output,h.size,fun b hb hS=>h.block b hb fun e=>hS (hs b e.symm)⟩
theorem Chg.sets{S:Nat->Prop}{w w':World}(h:Chg S w w')(g o:Nat)(cs:List Value)(hg:S g\/w.heap.size<=g):Chg S w (w'.setCells g o cs):=by
 obtain⟨h1,h2,h3,h4,h5⟩:=aK g cs o w';refine⟨h1.trans h.os,h2.trans h.tape,h3.trans h.output,by rw[h4];exact h.size,fun k hk hS=>?_⟩
 have:k≠g:=by rintro rfl;rcases hg with e|e;exact hS e;omega
 exact(h5 k this).trans (h.block k hk hS)
theorem CT(l:List Hd)(h:Hd)(v:Value)(w:World)(hown:w.ownsRow 0 155 3 v l.length (l.flatMap ak))(hs:Up Hd.a hd0 l)(hn:l.length<=1000):Calls prog 104 #[v,vH h] w fun e w'=>∃ g cap,e=.returned (Sq g (l.length+1) cap)/\w'.ownsRow 0 155 3 (Sq g (l.length+1) cap) (l.length+1) ((cm l h).flatMap ak)/\w.grownBy w' v.ownBlock/\(v.ownBlock=some g\/w.heap.size<=g)/\g<w'.heap.size:=by
 have hk:∀ x:Hd,(ak x).length=3:=fun _=>rfl
 have hq:Hid (∀ w,Cr prog 173 #[vH h] w (U3 h.a)):=fun w=>fL h w
 have hbs:Hid (∀ W,Bl w W->∃ fb,Cr prog 154 #[v,U3 h.a,.func (.func 155) #[] #[]] W (.tuple #[I6 (fk l h.a:Nat),.bool fb])):=fun W hW=>⟨_,bsP l h.a v W (Rd.of_owns hk hd0 (av hown hW)) hs hn⟩
 have hle:fk l h.a<=l.length:=List.countP_le_length
 have hob:∀ b,v.ownBlock=some b->b<w.heap.size:=fun b e=>by
  rcases hown.2 with⟨rfl,_⟩|⟨g,cap,cur,rfl,_,hg,_⟩
  ·cases e
  ·obtain rfl:g=b:=by simpa[Value.ownBlock] using e
   exact(Array.getElem?_eq_some_iff.1 hg).1
 have hin:Hid (∀ W vb,Bl w W->w.heap.size<=vb->Blk W vb (ak h).toArray 155->Calls prog 157 #[v,I6 (fk l h.a:Nat),Sq vb 1 1] W fun e w'=>∃ g cap,e=.returned (Sq g (l.length+1) cap)/\w'.ownsRow 0 155 3 (Sq g (l.length+1) cap) (l.length+1) ((cm l h).flatMap ak)/\w.grownBy w' v.ownBlock/\(v.ownBlock=some g\/w.heap.size<=g)/\g<w'.heap.size):=fun W vb hW hvb hb=>by
  refine(Gh (l.flatMap ak) (ak h) l.length (fk l h.a) v vb W (av hown hW) hle hn rfl hb (fun e=>by have:=hob vb e;omega) (by intro u hu;simp[ak] at hu;rcases hu with rfl|rfl|rfl<;>rfl) (Dc l)).mono ?_
  rintro e w' ⟨g,cap,rfl,o1,o2,o3,o4⟩
  refine⟨g,cap,rfl,?_,kq hW o2,?_,o4⟩
  ·rw[ic hk,gX hk] at o1;unfold cm;rw[List.flatMap_append,List.flatMap_cons,<- List.append_assoc];exact o1
  ·rcases o3 with o3|o3
   ·exact .inl o3
   ·exact .inr (Nat.le_trans hW.size o3)
 obtain⟨b0,cap0,hv⟩:∃ b c,v=.slice b l.length c:=by
  rcases hown.2 with⟨rfl,e⟩|⟨g,cap,cur,rfl,_⟩
  ·exact⟨none,0,by rw[e]⟩
  ·exact⟨_,cap,rfl⟩
 subst hv;clear hown hs;generalize fk l h.a=cn at hbs hin hle
 generalize l.length+1=nn at hin ⊢
 generalize (cm l h).flatMap ak=ll at hin ⊢
 obtain⟨a,n,o⟩:=h;unfold vH at hq;unfold vH;dsimp only at *
 go_enter func104,ntmps104
 go_wp2_with (first|(go_at_call 173;refine Mo (hq.o _) fun w1 hb1=>?_;have HB1:Hid (Bl w w1):=bup upB hb1;have k0:w1.cell? (Nw w 0)=some (U3 a):=(by rw[hb1.cell (p:=Nw w 0) sM];simp[go_sem]);have k1:w1.cell? (Nw w 1)=some (I6 n):=(by rw[hb1.cell (p:=Nw w 1) sM];simp[go_sem]);have k2:w1.cell? (Nw w 2)=some (.string o):=(by rw[hb1.cell (p:=Nw w 2) sM];simp[go_sem]);have z1:w.heap.size<w1.heap.size:=(by have:=hb1.size;simp at this;omega);clear hb1)|(go_at_call 154;obtain⟨fb,hfb⟩:=hbs.o _ HB1.o;refine hfb.mono ?_;clear hfb;rintro e w2 ⟨rfl,hb2⟩;have HB2:Hid (Bl w w2):=bup HB1.o hb2;have j0:w2.cell? (Nw w 0)=some (U3 a):=(by rw[hb2.cell (p:=Nw w 0) z1];exact k0);have j1:w2.cell? (Nw w 1)=some (I6 n):=(by rw[hb2.cell (p:=Nw w 1) z1];exact k1);have j2:w2.cell? (Nw w 2)=some (.string o):=(by rw[hb2.cell (p:=Nw w 2) z1];exact k2);have z2:w.heap.size<w2.heap.size:=(by have:=hb2.size;omega);clear hb2 k0 k1 k2 z1)|(go_at_call 157;refine(hin.o _ _ (Below.alloc HB2.o HB2.o.size _) HB2.o.size (Blk.new w2 _ _)).mono ?_;rintro e w3 ⟨g3,cap3,rfl,o1,o2,o3,o4⟩))
 go_ret;exact⟨g3,cap3,rfl,o1,o2,o3,o4⟩
theorem CU(l:List Hd)(h:Hd)(v:Value)(w:World)(hown:w.ownsRow 0 195 3 v l.length (l.flatMap ak))(hs:Up Hd.a hd0 l)(hn:l.length<=1000):Calls prog 162 #[v,vH h] w fun e w'=>∃ g cap,e=.returned (Sq g (l.length+1) cap)/\w'.ownsRow 0 195 3 (Sq g (l.length+1) cap) (l.length+1) ((cm l h).flatMap ak)/\w.grownBy w' v.ownBlock/\(v.ownBlock=some g\/w.heap.size<=g)/\g<w'.heap.size:=by
 have hk:∀ x:Hd,(ak x).length=3:=fun _=>rfl
 have hq:Hid (∀ w,Cr prog 173 #[vH h] w (U3 h.a)):=fun w=>fL h w
 have hbs:Hid (∀ W,Bl w W->∃ fb,Cr prog 208 #[v,U3 h.a,.func (.func 209) #[] #[]] W (.tuple #[I6 (fk l h.a:Nat),.bool fb])):=fun W hW=>⟨_,bsS l h.a v W (Rd.of_owns hk hd0 (av hown hW)) hs hn⟩
 have hle:fk l h.a<=l.length:=List.countP_le_length
 have hob:∀ b,v.ownBlock=some b->b<w.heap.size:=fun b e=>by
  rcases hown.2 with⟨rfl,_⟩|⟨g,cap,cur,rfl,_,hg,_⟩
  ·cases e
  ·obtain rfl:g=b:=by simpa[Value.ownBlock] using e
   exact(Array.getElem?_eq_some_iff.1 hg).1
 have hin:Hid (∀ W vb,Bl w W->w.heap.size<=vb->Blk W vb (ak h).toArray 195->Calls prog 210 #[v,I6 (fk l h.a:Nat),Sq vb 1 1] W fun e w'=>∃ g cap,e=.returned (Sq g (l.length+1) cap)/\w'.ownsRow 0 195 3 (Sq g (l.length+1) cap) (l.length+1) ((cm l h).flatMap ak)/\w.grownBy w' v.ownBlock/\(v.ownBlock=some g\/w.heap.size<=g)/\g<w'.heap.size):=fun W vb hW hvb hb=>by
  refine(Gi (l.flatMap ak) (ak h) l.length (fk l h.a) v vb W (av hown hW) hle hn rfl hb (fun e=>by have:=hob vb e;omega) (by intro u hu;simp[ak] at hu;rcases hu with rfl|rfl|rfl<;>rfl) (Dc l)).mono ?_
  rintro e w' ⟨g,cap,rfl,o1,o2,o3,o4⟩
  refine⟨g,cap,rfl,?_,kq hW o2,?_,o4⟩
  ·rw[ic hk,gX hk] at o1;unfold cm;rw[List.flatMap_append,List.flatMap_cons,<- List.append_assoc];exact o1
  ·rcases o3 with o3|o3
   ·exact .inl o3
   ·exact .inr (Nat.le_trans hW.size o3)
 obtain⟨b0,cap0,hv⟩:∃ b c,v=.slice b l.length c:=by
  rcases hown.2 with⟨rfl,e⟩|⟨g,cap,cur,rfl,_⟩
  ·exact⟨none,0,by rw[e]⟩
  ·exact⟨_,cap,rfl⟩
 subst hv;clear hown hs;generalize fk l h.a=cn at hbs hin hle
 generalize l.length+1=nn at hin ⊢
 generalize (cm l h).flatMap ak=ll at hin ⊢
 obtain⟨a,n,o⟩:=h;unfold vH at hq;unfold vH;dsimp only at *
 go_enter func162,ntmps162
 go_wp2_with (first|(go_at_call 173;refine Mo (hq.o _) fun w1 hb1=>?_;have HB1:Hid (Bl w w1):=bup upB hb1;have k0:w1.cell? (Nw w 0)=some (U3 a):=(by rw[hb1.cell (p:=Nw w 0) sM];simp[go_sem]);have k1:w1.cell? (Nw w 1)=some (I6 n):=(by rw[hb1.cell (p:=Nw w 1) sM];simp[go_sem]);have k2:w1.cell? (Nw w 2)=some (.string o):=(by rw[hb1.cell (p:=Nw w 2) sM];simp[go_sem]);have z1:w.heap.size<w1.heap.size:=(by have:=hb1.size;simp at this;omega);clear hb1)|(go_at_call 208;obtain⟨fb,hfb⟩:=hbs.o _ HB1.o;refine hfb.mono ?_;clear hfb;rintro e w2 ⟨rfl,hb2⟩;have HB2:Hid (Bl w w2):=bup HB1.o hb2;have j0:w2.cell? (Nw w 0)=some (U3 a):=(by rw[hb2.cell (p:=Nw w 0) z1];exact k0);have j1:w2.cell? (Nw w 1)=some (I6 n):=(by rw[hb2.cell (p:=Nw w 1) z1];exact k1);have j2:w2.cell? (Nw w 2)=some (.string o):=(by rw[hb2.cell (p:=Nw w 2) z1];exact k2);have z2:w.heap.size<w2.heap.size:=(by have:=hb2.size;omega);clear hb2 k0 k1 k2 z1)|(go_at_call 210;refine(hin.o _ _ (Below.alloc HB2.o HB2.o.size _) HB2.o.size (Blk.new w2 _ _)).mono ?_;rintro e w3 ⟨g3,cap3,rfl,o1,o2,o3,o4⟩))
 go_ret;exact⟨g3,cap3,rfl,o1,o2,o3,o4⟩
theorem bu{B:Nat}{a W w3:World}{row:Option Nat}(h:Below B a W)(g:W.grownBy w3 row)(hr:∀ b,row=some b->B<=b)(hB:B<=W.heap.size):Below B a w3 :=
 h.trans ⟨g.os,g.tape,g.output,g.size,fun k hk=>g.block k (Nat.lt_of_lt_of_le hk hB) (fun e=>by have:=hr k e.symm;omega)⟩
theorem bc{w:World}{B:Nat}{t:TypeId}{k:Nat}{v:Value}{n:Nat}{xs:List Value}(h:w.ownsRow B t k v n xs):∀ b,v.ownBlock=some b->B<=b:=fun b e=>by
 rcases h.2 with⟨rfl,_⟩|⟨g,cap,cur,rfl,h1,_⟩
 ·cases e
 ·obtain rfl:g=b:=by simpa[Value.ownBlock] using e
  exact h1
theorem ae{w:World}{B:Nat}{t:TypeId}{k:Nat}{v:Value}{n:Nat}{xs:List Value}(h:w.ownsRow B t k v n xs):∃ b c,v=.slice b n c/\n<=c/\c<=maxLen:=by
 rcases h.2 with⟨rfl,e⟩|⟨g,cap,cur,rfl,_,_,h1,h2,_⟩
 ·exact⟨none,0,by rw[e],by omega,by unfold maxLen;omega⟩
 ·exact⟨_,cap,rfl,h1,h2⟩
theorem kj{α:Type}(p:α->Bool)(l:List α)(d:α)(k:Nat)(hk:k<l.length):(l.take (k+1)).filter p=(l.take k).filter p++if p (l.getD k d) then [l.getD k d] else []:=by
 rw[List.take_succ_eq_append_getElem hk,List.filter_append,List.getD_eq_getElem?_getD,List.getElem?_eq_getElem hk];simp only[Option.getD_some,List.filter_cons,List.filter_nil]
theorem Cj{W:World}{M:Nat}{h:Hd}(c0:W.cell? ⟨M,0,none⟩=some (.int .u32 h.a))(c1:W.cell? ⟨M,1,none⟩=some (.int .i64 h.n))(c2:W.cell? ⟨M,2,none⟩=some (.string h.o)):∀ j u,(ak h)[j]?=some u->W.cell? (Addr.add ⟨M,0,none⟩ j)=some u:=fun j u hj=>by
 rw[Addr.add_lit,Nat.zero_add];match j,hj with
 | 0,hj=>simp[ak] at hj;rw[<- hj];exact c0
 | 1,hj=>simp[ak] at hj;rw[<- hj];exact c1
 | 2,hj=>simp[ak] at hj;rw[<- hj];exact c2
 | j+3,hj=>simp[ak] at hj
theorem Ck{W:World}{M:Nat}{h:Ls}(c0:W.cell? ⟨M,0,none⟩=some (.int .u32 h.a))(c1:W.cell? ⟨M,1,none⟩=some (.string h.o)):∀ j u,(br h)[j]?=some u->W.cell? (Addr.add ⟨M,0,none⟩ j)=some u:=fun j u hj=>by
 rw[Addr.add_lit,Nat.zero_add];match j,hj with
 | 0,hj=>simp[br] at hj;rw[<- hj];exact c0
 | 1,hj=>simp[br] at hj;rw[<- hj];exact c1
 | j+2,hj=>simp[br] at hj
theorem G9(h:Hd):∀ u∈ak h,u.oneCell'=true:=by intro u hu;simp[ak] at hu;rcases hu with rfl|rfl|rfl<;>rfl
theorem Gm(h:Ls):∀ u∈br h,u.oneCell'=true:=by intro u hu;simp[br] at hu;rcases hu with rfl|rfl<;>rfl
theorem eh(x:Nat)(nets:List Hd)(p:Hd)(vn:Value)(w:World)(hx:x<w.heap.size)(cx:w.cell? ⟨x,1,none⟩=some vn)(hr:Rd 3 ak hd0 w vn nets)(hn:nets.length<=1000)(ha:∀ h,h∈nets->ad h.a)(hp:ad p.a):Calls prog 108 #[.pointer (some ⟨x,0,none⟩),vH p] w fun e w'=>∃ v,e=.returned v/\w'.ownsRow w.heap.size 195 3 v (af nets p.a p.n).length ((af nets p.a p.n).flatMap ak)/\Bl w w':=by
 obtain⟨b,cap,rfl,h1,h2,h3⟩:=hr;have hB0:Bl w (w.alloc (.cells #[.int .u32 p.a,.int .i64 p.n,.string p.o] 155)):=upB
 have hrow:Hid (∀ W,Bl w W->∀ j,j<nets.length->∃ g,b=some ⟨g,0,none⟩/\W.cell? ⟨g,j*3,none⟩=some (.int .u32 (nets.getD j hd0).a)/\W.cell? ⟨g,j*3+1,none⟩=some (.int .i64 (nets.getD j hd0).n)/\W.cell? ⟨g,j*3+2,none⟩=some (.string (nets.getD j hd0).o)):=fun W hW j hj=>by
  obtain⟨g,hg,hlt,hc⟩:=h3 (by intro e;rw[e] at hj;simp at hj)
  have hc:=hc j hj;exact⟨g,hg,(hW.cell (p:=⟨g,j*3,none⟩) hlt).trans (hc 0 _ rfl),(hW.cell (p:=⟨g,j*3+1,none⟩) hlt).trans (hc 1 _ rfl),(hW.cell (p:=⟨g,j*3+2,none⟩) hlt).trans (hc 2 _ rfl)⟩
 have hsp:Hid (∀ (y:Hd) (W:World),ad y.a->Cr prog 160 #[vH p,vB y.a y.n] W (.bool (inn y.a y.n p.a p.n))):=fun y W hy=>f8 p y.a y.n W hp hy
 have HA:Hid (∀ j,j<nets.length->ad (nets.getD j hd0).a):=fun j hj=>ha _ (aJ nets hd0 j hj)
 have HF:Hid (∀ j,j<nets.length->(nets.take (j+1)).filter (fun h=>inn h.a h.n p.a p.n)=(nets.take j).filter (fun h=>inn h.a h.n p.a p.n)++if inn (nets.getD j hd0).a (nets.getD j hd0).n p.a p.n then [nets.getD j hd0] else []):=fun j hj=>kj _ nets hd0 j hj
 have HL:Hid (∀ j,((nets.take j).filter (fun h=>inn h.a h.n p.a p.n)).length<=1000):=fun j=>Nat.le_trans (List.length_filter_le _ _) (by rw[List.length_take];omega)
 obtain⟨i0,hi0,hz0,hz1,hz2⟩:=info_parts uB;unfold af;generalize hfp:(fun h:Hd=>inn h.a h.n p.a p.n)=fp at HF HL ⊢
 have HE:Hid (∀ y:Hd,inn y.a y.n p.a p.n=fp y):=fun y=>by rw[<- hfp]
 clear hfp h1 h2 h3 hp ha;obtain⟨pa,pn,po⟩:=p;unfold vH vB at hsp;unfold vH;dsimp only at *
 go_enter func108,ntmps108
 go_wp2;go_loopg [5,7,13] nets.length (fun gg s5 _ s13 wr=>∃ k:Nat,k<=nets.length/\nets.length-k<=gg/\s13=.int .i64 k/\wr.cell? ⟨w.heap.size,0,none⟩=some (.int .u32 pa)/\wr.cell? ⟨w.heap.size,1,none⟩=some (.int .i64 pn)/\wr.cell? ⟨w.heap.size,2,none⟩=some (.string po)/\Hid (Below (w.heap.size+1) (w.alloc (.cells #[.int .u32 pa,.int .i64 pn,.string po] 155)) wr)/\Hid (wr.ownsRow (w.heap.size+1) 195 3 s5 ((nets.take k).filter fp).length (((nets.take k).filter fp).flatMap ak)))
 case atStart=>exact⟨0,Nat.zero_le _,by omega,rfl,by simp[go_sem],by simp[go_sem],by simp[go_sem],Below.refl _ _,World.ownsRow_nil _ _ _ _⟩
 case round =>
  obtain⟨k,hk,hg,rfl,p0,p1,p2,BW,O⟩:=hrel;have BW2:Hid (Bl w wr):=hB0.trans (BW.o.mono om)
  have zw:w.heap.size+1<=wr.heap.size:=by have:=BW.o.size;simp at this;omega
  have zv:w.heap.size<wr.heap.size:=zw
  by_cases hlt:k<nets.length
  ·obtain⟨g,rfl,k0,k1,k2⟩:=hrow.o wr BW2.o k hlt;have hy0:=HA.o k hlt;have hf0:=HF.o k hlt;generalize hy:nets.getD k hd0=y at k0 k1 k2 hy0 hf0
   clear hy;have hc:=hsp.o y;rw[HE.o] at hc;rw[HE.o] at hf0;have HC:Hid (∀ W,Cr prog 160 #[.agg #[.int .u32 pa,.int .i64 pn,.string po],.agg #[.int .u32 y.a,.int .i64 y.n]] W (.bool (fp y))):=fun W=>hc W hy0
   clear hc hrow hsp HA;have hll:=HL.o k;obtain⟨b5,c5,rfl,hn5,hm5⟩:=ae O.o;rcases hfy:fp y with _|_
   ·rw[hfy] at HC;rw[hfy,if_neg dE,List.append_nil] at hf0
    have F0:Hid ((nets.take (k+1)).filter fp=(nets.take k).filter fp):=hf0
    clear hf0 hfy;generalize hm5:((nets.take k).filter fp).length=m5 at O hll hn5
    have HM:Hid (((nets.take k).filter fp).length=m5):=hm5
    clear hm5;go_wp2_with (go_at_call 160;refine Mo (HC.o _) fun w2 hb2=>?_;have HB2:Hid (Bl wr w2):=bup upB hb2;clear hb2)
    go_roundg (nets.length-(k+1))
    case measure=>omega
    case rel =>
     have e1:Hid (Below (w.heap.size+1) (w.alloc (.cells #[.int .u32 pa,.int .i64 pn,.string po] 155)) w2):=BW.o.trans (HB2.o.mono zw)
     exact⟨k+1,by omega,by omega,by go_num,(HB2.o.cell (p:=⟨w.heap.size,0,none⟩) om).trans p0,(HB2.o.cell (p:=⟨w.heap.size,1,none⟩) om).trans p1,(HB2.o.cell (p:=⟨w.heap.size,2,none⟩) om).trans p2,e1,(by rw[F0.o,HM.o];exact av O.o HB2.o:World.ownsRow _ _ _ _ _ _ _)⟩
   ·rw[hfy] at HC;rw[hfy,if_pos rfl] at hf0;have F0:Hid ((nets.take (k+1)).filter fp=(nets.take k).filter fp++[y]):=hf0
    clear hf0 hfy;have HO:Hid (∀ wz,Bl wr wz->wz.ownsRow (w.heap.size+1) 195 3 (.slice b5 ((nets.take k).filter fp).length c5) ((nets.take k).filter fp).length (((nets.take k).filter fp).flatMap ak)):=fun wz hz=>av O.o hz
    have HOB:Hid (∀ b,(Value.slice b5 ((nets.take k).filter fp).length c5).ownBlock=some b->w.heap.size+1<=b):=bc O.o
    generalize hm5:((nets.take k).filter fp).length=m5 at HO HOB hll hn5
    have HM:Hid (((nets.take k).filter fp).length=m5):=hm5
    clear hm5 O;generalize hl5:(((nets.take k).filter fp).flatMap ak)=l5 at HO
    have HL5:Hid ((((nets.take k).filter fp).flatMap ak)=l5):=hl5
    clear hl5;go_wp2_with (first|(go_at_call 160;refine Mo (HC.o _) fun w2 hb2=>?_;have HB2:Hid (Bl wr w2):=bup upB hb2;have j0:w2.cell? ⟨wr.heap.size,0,none⟩=some (.int .u32 y.a):=(by rw[hb2.cell (p:=⟨wr.heap.size,0,none⟩) sM];simp[go_sem]);have j1:w2.cell? ⟨wr.heap.size,1,none⟩=some (.int .i64 y.n):=(by rw[hb2.cell (p:=⟨wr.heap.size,1,none⟩) sM];simp[go_sem]);have j2:w2.cell? ⟨wr.heap.size,2,none⟩=some (.string y.o):=(by rw[hb2.cell (p:=⟨wr.heap.size,2,none⟩) sM];simp[go_sem]);have z2:wr.heap.size<w2.heap.size:=(by have:=hb2.size;simp at this;omega);clear hb2)|(at_builtin;refine wpList_append_lies _ rfl _ _ 157 rfl (w.heap.size+1) 195 i0 _ 3 32 underlying157 hi0 hz0 hz1 hz2 rfl dE (.slice b5 m5 c5) m5 l5 rfl (HO.o _ (Below.alloc HB2.o HB2.o.size _)) ⟨w2.heap.size,0,none⟩ 1 1 (ak y) rfl rfl (Cj (by simp[go_sem]) (by simp[go_sem]) (by simp[go_sem])) (G9 y) om (by unfold maxLen;omega) om (by simp;omega) _ rfl ?_;intro g3 cap3 w3 hown3 hgrow3 hat3 hlt3))
    go_roundg (nets.length-(k+1))
    case measure=>omega
    case rel =>
     have hq:Below (w.heap.size+1) (w.alloc (.cells #[.int .u32 pa,.int .i64 pn,.string po] 155)) w3:=bu ((BW.o.trans (HB2.o.mono zw)).alloc om _) hgrow3 HOB.o (by simp;omega)
     have e1:Hid (Below (w.heap.size+1) (w.alloc (.cells #[.int .u32 pa,.int .i64 pn,.string po] 155)) w3):=hq
     have e3:w3.ownsRow (w.heap.size+1) 195 3 (.slice (some ⟨g3,0,none⟩) (m5+1) cap3) ((nets.take (k+1)).filter fp).length (((nets.take (k+1)).filter fp).flatMap ak):=by
      rw[F0.o,List.length_append,HM.o,List.flatMap_append,HL5.o];simpa using hown3
     have e2:Hid (w3.ownsRow (w.heap.size+1) 195 3 (.slice (some ⟨g3,0,none⟩) (m5+1) cap3) ((nets.take (k+1)).filter fp).length (((nets.take (k+1)).filter fp).flatMap ak)):=e3
     exact⟨k+1,by omega,by omega,by go_num,(hq.cell (p:=⟨w.heap.size,0,none⟩) sM).trans (by simp[go_sem]),(hq.cell (p:=⟨w.heap.size,1,none⟩) sM).trans (by simp[go_sem]),(hq.cell (p:=⟨w.heap.size,2,none⟩) sM).trans (by simp[go_sem]),e1,e2⟩
  ·have hkl:k=nets.length:=by omega
   subst hkl;rw[List.take_length] at O;clear hrow hsp HA HF HL;obtain⟨b5,c5,rfl,hn5,hm5⟩:=ae O.o;go_wp2;go_ret;exact⟨_,rfl,⟨O.o.1,by rcases O.o.2 with h|⟨g,cap,cur,h0,h1,h2⟩;exact .inl h;exact .inr ⟨g,cap,cur,h0,by omega,h2⟩⟩,BW2.o⟩
theorem dF(a:Int)(w:World):Cr prog 123 #[.int .u32 a] w (.agg #[.int .u32 a,.int .i64 32]):=by
 go_enter func123,ntmps123
 go_wp2;go_returns
 exact⟨rfl,upB⟩
theorem eK(x:Nat)(nets:List Ls)(p:Hd)(vn:Value)(w:World)(hx:x<w.heap.size)(cx:w.cell? ⟨x,2,none⟩=some vn)(hr:Rd 2 br ls0 w vn nets)(hn:nets.length<=1000)(ha:∀ h,h∈nets->ad h.a)(hp:ad p.a):Calls prog 117 #[.pointer (some ⟨x,0,none⟩),vH p] w fun e w'=>∃ v,e=.returned v/\w'.ownsRow w.heap.size 208 2 v (aw nets p.a p.n).length ((aw nets p.a p.n).flatMap br)/\Bl w w':=by
 obtain⟨b,cap,rfl,h1,h2,h3⟩:=hr;have hB0:Bl w (w.alloc (.cells #[.int .u32 p.a,.int .i64 p.n,.string p.o] 195)):=upB
 have hrow:Hid (∀ W,Bl w W->∀ j,j<nets.length->∃ g,b=some ⟨g,0,none⟩/\W.cell? ⟨g,j*2,none⟩=some (.int .u32 (nets.getD j ls0).a)/\W.cell? ⟨g,j*2+1,none⟩=some (.string (nets.getD j ls0).o)):=fun W hW j hj=>by
  obtain⟨g,hg,hlt,hc⟩:=h3 (by intro e;rw[e] at hj;simp at hj)
  have hc:=hc j hj;exact⟨g,hg,(hW.cell (p:=⟨g,j*2,none⟩) hlt).trans (hc 0 _ rfl),(hW.cell (p:=⟨g,j*2+1,none⟩) hlt).trans (hc 1 _ rfl)⟩
 have hsp:Hid (∀ (y:Ls) (W:World),ad y.a->Cr prog 160 #[vH p,vB y.a 32] W (.bool (inn y.a 32 p.a p.n))):=fun y W hy=>f8 p y.a 32 W hp hy
 have HA:Hid (∀ j,j<nets.length->ad (nets.getD j ls0).a):=fun j hj=>ha _ (aJ nets ls0 j hj)
 have HF:Hid (∀ j,j<nets.length->(nets.take (j+1)).filter (fun h=>inn h.a 32 p.a p.n)=(nets.take j).filter (fun h=>inn h.a 32 p.a p.n)++if inn (nets.getD j ls0).a 32 p.a p.n then [nets.getD j ls0] else []):=fun j hj=>kj _ nets ls0 j hj
 have HL:Hid (∀ j,((nets.take j).filter (fun h=>inn h.a 32 p.a p.n)).length<=1000):=fun j=>Nat.le_trans (List.length_filter_le _ _) (by rw[List.length_take];omega)
 obtain⟨i0,hi0,hz0,hz1,hz2⟩:=info_parts uA;unfold aw;generalize hfp:(fun h:Ls=>inn h.a 32 p.a p.n)=fp at HF HL ⊢
 have HE:Hid (∀ y:Ls,inn y.a 32 p.a p.n=fp y):=fun y=>by rw[<- hfp]
 clear hfp h1 h2 h3 hp ha;obtain⟨pa,pn,po⟩:=p;unfold vH vB at hsp;unfold vH;dsimp only at *
 go_enter func117,ntmps117
 go_wp2;go_loopg [5,7,13] nets.length (fun gg s5 _ s13 wr=>∃ k:Nat,k<=nets.length/\nets.length-k<=gg/\s13=.int .i64 k/\wr.cell? ⟨w.heap.size,0,none⟩=some (.int .u32 pa)/\wr.cell? ⟨w.heap.size,1,none⟩=some (.int .i64 pn)/\wr.cell? ⟨w.heap.size,2,none⟩=some (.string po)/\Hid (Below (w.heap.size+1) (w.alloc (.cells #[.int .u32 pa,.int .i64 pn,.string po] 195)) wr)/\Hid (wr.ownsRow (w.heap.size+1) 208 2 s5 ((nets.take k).filter fp).length (((nets.take k).filter fp).flatMap br)))
 case atStart=>exact⟨0,Nat.zero_le _,by omega,rfl,by simp[go_sem],by simp[go_sem],by simp[go_sem],Below.refl _ _,World.ownsRow_nil _ _ _ _⟩
 case round =>
  obtain⟨k,hk,hg,rfl,p0,p1,p2,BW,O⟩:=hrel;have BW2:Hid (Bl w wr):=hB0.trans (BW.o.mono om)
  have zw:w.heap.size+1<=wr.heap.size:=by have:=BW.o.size;simp at this;omega
  have zv:w.heap.size<wr.heap.size:=zw
  by_cases hlt:k<nets.length
  ·obtain⟨g,rfl,k0,k1⟩:=hrow.o wr BW2.o k hlt;have hy0:=HA.o k hlt;have hf0:=HF.o k hlt;generalize hy:nets.getD k ls0=y at k0 k1 hy0 hf0
   clear hy;have hc:=hsp.o y;rw[HE.o] at hc;rw[HE.o] at hf0;have HC:Hid (∀ W,Cr prog 160 #[.agg #[.int .u32 pa,.int .i64 pn,.string po],.agg #[.int .u32 y.a,.int .i64 32]] W (.bool (fp y))):=fun W=>hc W hy0
   clear hc hrow hsp HA;have hll:=HL.o k;obtain⟨b5,c5,rfl,hn5,hm5⟩:=ae O.o;rcases hfy:fp y with _|_
   ·rw[hfy] at HC;rw[hfy,if_neg dE,List.append_nil] at hf0
    have F0:Hid ((nets.take (k+1)).filter fp=(nets.take k).filter fp):=hf0
    clear hf0 hfy;generalize hm5:((nets.take k).filter fp).length=m5 at O hll hn5
    have HM:Hid (((nets.take k).filter fp).length=m5):=hm5
    clear hm5;go_wp2;go_region_with (first|(go_at_call 123;refine Mo (dF _ _) fun w1 hb1=>?_;have HB1:Hid (Bl wr w1):=bup upB hb1;have q0:w1.cell? ⟨w.heap.size,0,none⟩=some (.int .u32 pa):=(HB1.o.cell (p:=⟨w.heap.size,0,none⟩) zv).trans p0;have q1:w1.cell? ⟨w.heap.size,1,none⟩=some (.int .i64 pn):=(HB1.o.cell (p:=⟨w.heap.size,1,none⟩) zv).trans p1;have q2:w1.cell? ⟨w.heap.size,2,none⟩=some (.string po):=(HB1.o.cell (p:=⟨w.heap.size,2,none⟩) zv).trans p2;have r0:w1.cell? ⟨wr.heap.size,0,none⟩=some (.int .u32 y.a):=(by rw[hb1.cell (p:=⟨wr.heap.size,0,none⟩) sM];simp[go_sem]);have r1:w1.cell? ⟨wr.heap.size,1,none⟩=some (.string y.o):=(by rw[hb1.cell (p:=⟨wr.heap.size,1,none⟩) sM];simp[go_sem]);have y1:wr.heap.size<w1.heap.size:=(by have:=hb1.size;simp at this;omega);clear hb1)|(go_at_call 160;refine Mo (HC.o _) fun w2 hb2=>?_;have HB2:Hid (Bl wr w2):=bup HB1.o hb2;have j0:w2.cell? ⟨wr.heap.size,0,none⟩=some (.int .u32 y.a):=(hb2.cell (p:=⟨wr.heap.size,0,none⟩) y1).trans r0;have j1:w2.cell? ⟨wr.heap.size,1,none⟩=some (.string y.o):=(hb2.cell (p:=⟨wr.heap.size,1,none⟩) y1).trans r1;have z2:wr.heap.size<w2.heap.size:=(by have:=hb2.size;omega);clear hb2))
    all_goals (
     go_wp2;go_roundg (nets.length-(k+1))
     case measure=>omega
     case rel =>
      have e1:Hid (Below (w.heap.size+1) (w.alloc (.cells #[.int .u32 pa,.int .i64 pn,.string po] 195)) w2):=BW.o.trans (HB2.o.mono zw)
      exact⟨k+1,by omega,by omega,by go_num,(HB2.o.cell (p:=⟨w.heap.size,0,none⟩) om).trans p0,(HB2.o.cell (p:=⟨w.heap.size,1,none⟩) om).trans p1,(HB2.o.cell (p:=⟨w.heap.size,2,none⟩) om).trans p2,e1,(by rw[F0.o,HM.o];exact av O.o HB2.o:World.ownsRow _ _ _ _ _ _ _)⟩)
   ·rw[hfy] at HC;rw[hfy,if_pos rfl] at hf0;have F0:Hid ((nets.take (k+1)).filter fp=(nets.take k).filter fp++[y]):=hf0
    clear hf0 hfy;have HO:Hid (∀ wz,Bl wr wz->wz.ownsRow (w.heap.size+1) 208 2 (.slice b5 ((nets.take k).filter fp).length c5) ((nets.take k).filter fp).length (((nets.take k).filter fp).flatMap br)):=fun wz hz=>av O.o hz
    have HOB:Hid (∀ b,(Value.slice b5 ((nets.take k).filter fp).length c5).ownBlock=some b->w.heap.size+1<=b):=bc O.o
    generalize hm5:((nets.take k).filter fp).length=m5 at HO HOB hll hn5
    have HM:Hid (((nets.take k).filter fp).length=m5):=hm5
    clear hm5 O;generalize hl5:(((nets.take k).filter fp).flatMap br)=l5 at HO
    have HL5:Hid ((((nets.take k).filter fp).flatMap br)=l5):=hl5
    clear hl5;go_wp2;go_region_with (first|(go_at_call 123;refine Mo (dF _ _) fun w1 hb1=>?_;have HB1:Hid (Bl wr w1):=bup upB hb1;have q0:w1.cell? ⟨w.heap.size,0,none⟩=some (.int .u32 pa):=(HB1.o.cell (p:=⟨w.heap.size,0,none⟩) zv).trans p0;have q1:w1.cell? ⟨w.heap.size,1,none⟩=some (.int .i64 pn):=(HB1.o.cell (p:=⟨w.heap.size,1,none⟩) zv).trans p1;have q2:w1.cell? ⟨w.heap.size,2,none⟩=some (.string po):=(HB1.o.cell (p:=⟨w.heap.size,2,none⟩) zv).trans p2;have r0:w1.cell? ⟨wr.heap.size,0,none⟩=some (.int .u32 y.a):=(by rw[hb1.cell (p:=⟨wr.heap.size,0,none⟩) sM];simp[go_sem]);have r1:w1.cell? ⟨wr.heap.size,1,none⟩=some (.string y.o):=(by rw[hb1.cell (p:=⟨wr.heap.size,1,none⟩) sM];simp[go_sem]);have y1:wr.heap.size<w1.heap.size:=(by have:=hb1.size;simp at this;omega);clear hb1)|(go_at_call 160;refine Mo (HC.o _) fun w2 hb2=>?_;have HB2:Hid (Bl wr w2):=bup HB1.o hb2;have j0:w2.cell? ⟨wr.heap.size,0,none⟩=some (.int .u32 y.a):=(hb2.cell (p:=⟨wr.heap.size,0,none⟩) y1).trans r0;have j1:w2.cell? ⟨wr.heap.size,1,none⟩=some (.string y.o):=(hb2.cell (p:=⟨wr.heap.size,1,none⟩) y1).trans r1;have z2:wr.heap.size<w2.heap.size:=(by have:=hb2.size;omega);clear hb2))
    all_goals (
     go_wp2_with (at_builtin;refine wpList_append_lies _ rfl _ _ 158 rfl (w.heap.size+1) 208 i0 _ 2 24 underlying158 hi0 hz0 hz1 hz2 rfl dE (.slice b5 m5 c5) m5 l5 rfl (HO.o _ (Below.alloc HB2.o HB2.o.size _)) ⟨w2.heap.size,0,none⟩ 1 1 (br y) rfl rfl (Ck (by simp[go_sem]) (by simp[go_sem])) (Gm y) om (by unfold maxLen;omega) om (by simp;omega) _ rfl ?_;intro g3 cap3 w3 hown3 hgrow3 hat3 hlt3)
     go_roundg (nets.length-(k+1))
     case measure=>omega
     case rel =>
      have hq:Below (w.heap.size+1) (w.alloc (.cells #[.int .u32 pa,.int .i64 pn,.string po] 195)) w3:=bu ((BW.o.trans (HB2.o.mono zw)).alloc om _) hgrow3 HOB.o (by simp;omega)
      have e1:Hid (Below (w.heap.size+1) (w.alloc (.cells #[.int .u32 pa,.int .i64 pn,.string po] 195)) w3):=hq
      have e3:w3.ownsRow (w.heap.size+1) 208 2 (.slice (some ⟨g3,0,none⟩) (m5+1) cap3) ((nets.take (k+1)).filter fp).length (((nets.take (k+1)).filter fp).flatMap br):=by
       rw[F0.o,List.length_append,HM.o,List.flatMap_append,HL5.o];simpa using hown3
      have e2:Hid (w3.ownsRow (w.heap.size+1) 208 2 (.slice (some ⟨g3,0,none⟩) (m5+1) cap3) ((nets.take (k+1)).filter fp).length (((nets.take (k+1)).filter fp).flatMap br)):=e3
      exact⟨k+1,by omega,by omega,by go_num,(hq.cell (p:=⟨w.heap.size,0,none⟩) sM).trans (by simp[go_sem]),(hq.cell (p:=⟨w.heap.size,1,none⟩) sM).trans (by simp[go_sem]),(hq.cell (p:=⟨w.heap.size,2,none⟩) sM).trans (by simp[go_sem]),e1,e2⟩)
  ·have hkl:k=nets.length:=by omega
   subst hkl;rw[List.take_length] at O;clear hrow hsp HA HF HL;obtain⟨b5,c5,rfl,hn5,hm5⟩:=ae O.o;go_wp2;go_ret;exact⟨_,rfl,⟨O.o.1,by rcases O.o.2 with h|⟨g,cap,cur,h0,h1,h2⟩;exact .inl h;exact .inr ⟨g,cap,cur,h0,by omega,h2⟩⟩,BW2.o⟩
theorem Fi(a n:Int)(h0:0<=n)(h1:n<=32)(ha:0<=a)(hb:a<4294967296)(hr:a%sz n=0):bits .or .u32 a (sz n-1)=a+sz n-1:=by
 have hp:=aD n;have hl:=gO n h0;rw[u32_or a _ ha hb om om];have e:a.toNat ||| (sz n-1).toNat=a.toNat+(sz n-1).toNat:=by
  refine nat_join (32-n).toNat _ _ ?_ ?_
  ·have:(a.toNat:Int)%((2^(32-n).toNat:Nat):Int)=0:=by rw[<- iQ,Int.toNat_of_nonneg ha];exact hr
   omega
  ·have:=gP n;omega
 rw[e];omega
theorem FQ:∀ k:Fin 33,(4294967295:Nat) ^^^ (4294967296-2^(k:Nat))=2^(k:Nat)-1:=by decide +kernel
theorem BS(n:Int)(h0:0<=n)(h1:n<=32):bits .xor .u32 IntKind.u32.max (4294967296-sz n)=sz n-1:=by
 have hp:=aD n;have hl:=gO n h0;rw[show IntKind.u32.max=4294967295 by decide,u32_xor _ _ om om om om]
 have e:=FQ ⟨(32-n).toNat,by omega⟩
 have ht:=gP n;have e2:(4294967296-sz n).toNat=4294967296-2^(32-n).toNat:=by omega
 simp only at e
 rw[e2,show (4294967295:Int).toNat=4294967295 from rfl,e];omega
theorem zF(a n:Int)(w:World)(ha:ad a)(hr:rt a n=true):Cr prog 174 #[.agg #[U3 a,I6 n]] w (U3 (lst a n)):=by
 obtain⟨h0,h1,h2⟩:=aj.1 hr;have e:=Fi a n h0 h1 ha.1 ha.2 h2;have hp:=aD n;have hl:=gO n h0;have hE:Hid (lst a n=a+sz n-1):=rfl
 go_enter func174,ntmps174
 go_wp2;go_quiet ((go_at_call 215;exact Calls.quiet_of_same (jg _ _ h0 h1)))
 go_wp2;go_ret;refine⟨cM ?_,upB⟩
 rw[BS n h0 h1,e];rfl
theorem fe(h:Hd)(w:World)(ha:ad h.a)(hr:rt h.a h.n=true):Cr prog 124 #[vH h] w (.tuple #[U3 (dh h.a h.n),U3 (dr h.a h.n)]):=by
 have hb:Hid (∀ w,Cr prog 173 #[vH h] w (U3 h.a)):=fun w=>fL h w
 have hl:Hid (∀ w,Cr prog 174 #[.agg #[U3 h.a,I6 h.n]] w (U3 (lst h.a h.n))):=fun w=>zF h.a h.n w ha hr
 obtain⟨h0,h1,h2⟩:=aj.1 hr;have hp:=aD h.n;have he:=gC h.a h.n h0 h1 ha.1 ha.2 h2;have h30:h.n<=30->4<=sz h.n:=fun hn=>by
  have a1:=db h.n om;have a2:=db (h.n+1) om
  have a3:=aD (h.n+1+1)
  omega
 have hq1:h.a<=lst h.a h.n/\lst h.a h.n<4294967296:=by unfold lst;omega
 have hq2:h.n<=30->h.a+3<=lst h.a h.n:=fun hn=>by have:=h30 hn;unfold lst;omega
 have ha1:=ha.1;clear hp he h30;unfold dh dr;generalize lst h.a h.n=q at hl hq1 hq2 ⊢
 obtain⟨q0,q1⟩:=hq1;obtain⟨a,n,o⟩:=h;unfold vH at hb;unfold vH;dsimp only at *
 clear ha hr h2;by_cases hn:n<=30
 ·have h4:=hq2 hn;have u1:IntKind.u32.wrap (a+1)=a+1:=by rw[IntKind.wrap_u32'];omega
  have u2:IntKind.u32.wrap (q-1)=q-1:=by rw[IntKind.wrap_u32'];omega
  rw[if_pos hn,if_pos hn];go_enter func124,ntmps124
  go_wp2;go_region_with (first|(go_at_call 173;refine Mo (hb.o _) fun w1 hb1=>?_;have HB1:Hid (Bl w w1):=bup upB hb1;have k0:w1.cell? (Nw w 0)=some (U3 a):=(by rw[hb1.cell (p:=Nw w 0) sM];simp[go_sem]);have k1:w1.cell? (Nw w 1)=some (I6 n):=(by rw[hb1.cell (p:=Nw w 1) sM];simp[go_sem]);have z1:w.heap.size<w1.heap.size:=(by have:=hb1.size;simp at this;omega);clear hb1)|(go_at_call 174;refine Mo (hl.o _) fun w2 hb2=>?_;have HB2:Hid (Bl w w2):=bup HB1.o hb2;have j1:w2.cell? (Nw w 1)=some (I6 n):=(hb2.cell (p:=Nw w 1) z1).trans k1;clear hb2))
  all_goals (
   go_wp2;go_ret2
   exact⟨by first|rfl|(simp[u1,u2];done),HB2.o⟩)
 ·rw[if_neg hn,if_neg hn];go_enter func124,ntmps124
  go_wp2;go_region_with (first|(go_at_call 173;refine Mo (hb.o _) fun w1 hb1=>?_;have HB1:Hid (Bl w w1):=bup upB hb1;have k0:w1.cell? (Nw w 0)=some (U3 a):=(by rw[hb1.cell (p:=Nw w 0) sM];simp[go_sem]);have k1:w1.cell? (Nw w 1)=some (I6 n):=(by rw[hb1.cell (p:=Nw w 1) sM];simp[go_sem]);have z1:w.heap.size<w1.heap.size:=(by have:=hb1.size;simp at this;omega);clear hb1)|(go_at_call 174;refine Mo (hl.o _) fun w2 hb2=>?_;have HB2:Hid (Bl w w2):=bup HB1.o hb2;have j1:w2.cell? (Nw w 1)=some (I6 n):=(hb2.cell (p:=Nw w 1) z1).trans k1;clear hb2))
  all_goals (
   go_wp2;go_ret2
   exact⟨rfl,HB2.o⟩)
theorem d8(x:Nat)(ls:List Ls)(a:Int)(vl:Value)(w:World)(cx:w.cell? (At x 2)=some vl)(hr:Rd 2 br ls0 w vl ls)(hn:ls.length<=1000)(hs:Up Ls.a ls0 ls):Cr prog 125 #[Pq x,U3 a] w (.tuple #[I6 (bO ls a:Nat),.bool (dp ls a)]):=by
 have hb:Hid (Cr prog 175 #[vl,U3 a,.func (.func 176) #[] #[]] w (.tuple #[I6 (bO ls a:Nat),.bool (dp ls a)])):=bsL ls a vl w hr hs hn
 obtain⟨b,cap,rfl,_⟩:=hr;generalize bO ls a=cn at hb ⊢
 generalize dp ls a=fb at hb ⊢
 clear hs hn;go_enter func125,ntmps125
 go_wp2_with (go_at_call 175;refine hb.o.mono ?_;rintro e w1 ⟨rfl,hb1⟩)
 go_ret2
 exact⟨rfl,hb1⟩
def lnC(l:Ln):Array Value:=#[I6 l.v,.string l.t,.string l.o,U3 l.a,I6 l.n,U3 l.d,I6 l.g]
def bV(s:Bz):List Value:=[.string s]
structure Inv(s:Bk):Prop where
 p:s.pools.length<=6
 n:s.nets.length<=24
 l:s.leases.length<=40
 t:s.toks.length<=8
 pa:∀ h,h∈s.pools->ad h.a/\rt h.a h.n=true/\8<=h.n/\h.n<=30/\h.o.size<=8
 na:∀ h,h∈s.nets->ad h.a/\rt h.a h.n=true/\22<=h.n/\h.o.size<=8
 la:∀ h,h∈s.leases->ad h.a/\h.o.size<=8
 pu:Up Hd.a hd0 s.pools
 nu:Up Hd.a hd0 s.nets
 lu:Up Ls.a ls0 s.leases
structure aZ(l:Ln):Prop where
 a:ad l.a
 d:ad l.d
 r:rt l.a l.n=true
 g0:0<=l.g
 g1:l.g<=32
 o:l.o.size<=8
structure BA(w:World)(x:Nat)(S:Nat->Prop)(vp vn vl:Value)(c:Nat)(s:Bk):Prop where
 blk:Blk w x #[vp,vn,vl] 160
 ch:True
 op:w.ownsRow 0 155 3 vp s.pools.length (s.pools.flatMap ak)
 on:w.ownsRow 0 195 3 vn s.nets.length (s.nets.flatMap ak)
 ol:w.ownsRow 0 208 2 vl s.leases.length (s.leases.flatMap br)
 sx:S x
 sc:True
 sp:∀ b,vp.ownBlock=some b->S b
 sn:∀ b,vn.ownBlock=some b->S b
 sl:∀ b,vl.ownBlock=some b->S b
 sz:∀ b,S b->b<w.heap.size
def au(w:World)(x:Nat)(S:Nat->Prop)(s:Bk):Prop:=∃ vp vn vl c,BA w x S vp vn vl c s
theorem Ch.same{w w':World}{c:Nat}{l:List Tk}(h:Ch w c l)(e:w'.heap[c]?=w.heap[c]?):Ch w' c l:=by obtain⟨s,r,h⟩:=h;exact⟨s,r,e.trans h⟩
theorem aL{w w':World}{B:Nat}{t:TypeId}{k:Nat}{v:Value}{n:Nat}{xs:List Value}(h:w.ownsRow B t k v n xs)(e:∀ b,v.ownBlock=some b->w'.heap[b]?=w.heap[b]?):w'.ownsRow B t k v n xs:=by
 refine⟨h.1,?_⟩
 rcases h.2 with hn|⟨g,cap,cur,rfl,h1,hg,rest⟩
 ·exact .inl hn
 ·exact .inr ⟨g,cap,cur,rfl,h1,(e g rfl).trans hg,rest⟩
theorem cI{w:World}{B:Nat}{t:TypeId}{k:Nat}{v:Value}{n:Nat}{xs:List Value}(h:w.ownsRow B t k v n xs):∀ b,v.ownBlock=some b->b<w.heap.size/\∃ cur,w.heap[b]?=some (.cells cur t (0,0)):=fun b e=>by
 rcases h.2 with⟨rfl,_⟩|⟨g,cap,cur,rfl,h1,hg,_⟩
 ·cases e
 ·obtain rfl:g=b:=by simpa[Value.ownBlock] using e
  exact⟨(Array.getElem?_eq_some_iff.1 hg).1,cur,hg⟩
theorem BA.same{w w':World}{x:Nat}{S:Nat->Prop}{vp vn vl:Value}{c:Nat}{s:Bk}(h:BA w x S vp vn vl c s)(e:∀ b,S b->w'.heap[b]?=w.heap[b]?)(hz:w.heap.size<=w'.heap.size):BA w' x S vp vn vl c s :=
 ⟨(e x h.sx).trans h.blk,trivial,aL h.op fun b k=>e b (h.sp b k),aL h.on fun b k=>e b (h.sn b k),aL h.ol fun b k=>e b (h.sl b k),h.sx,h.sc,h.sp,h.sn,h.sl,fun b k=>Nat.lt_of_lt_of_le (h.sz b k) hz⟩
theorem BA.below{w w':World}{x:Nat}{S:Nat->Prop}{vp vn vl:Value}{c:Nat}{s:Bk}(h:BA w x S vp vn vl c s)(hb:Bl w w'):BA w' x S vp vn vl c s:=h.same (fun b k=>hb.block b (h.sz b k)) hb.size
theorem au.below{w w':World}{x:Nat}{S:Nat->Prop}{s:Bk}(h:au w x S s)(hb:Bl w w'):au w' x S s:=by obtain⟨vp,vn,vl,c,h⟩:=h;exact⟨vp,vn,vl,c,h.below hb⟩
def Res(w:World)(x:Nat)(S:Nat->Prop)(r:Bk×An)(e:Ending)(w':World):Prop:=∃ v S',e=.returned (.agg #[I6 r.2.e,v])/\Rd 1 bV ⟨#[]⟩ w' v r.2.s/\au w' x S' r.1/\(∀ b,S' b->S b\/w.heap.size<=b)/\Chg S w w'
theorem iL{α:Type}(k:Nat)(enc:α->List Value)(d:α)(w:World):Rd k enc d w (.slice none 0 0) []:=⟨none,0,rfl,Nat.le_refl _,by unfold maxLen;omega,fun h=>absurd rfl h⟩
theorem qT{w w':World}{x:Nat}{S:Nat->Prop}{s:Bk}(k:Nat)(h:au w x S s)(hb:Bl w w'):Res w x S (s,ref k) (.returned (.agg #[I6 k,.slice none 0 0])) w' :=
 ⟨.slice none 0 0,S,rfl,iL _ _ _ _,h.below hb,fun b k=>.inl k,Chg.below hb⟩
theorem BA.apart{w:World}{x:Nat}{S:Nat->Prop}{vp vn vl:Value}{c:Nat}{s:Bk}(h:BA w x S vp vn vl c s):
  (∀ b,vp.ownBlock=some b->b≠x/\True/\vn.ownBlock≠some b/\vl.ownBlock≠some b)/\(∀ b,vn.ownBlock=some b->b≠x/\True/\vp.ownBlock≠some b/\vl.ownBlock≠some b)/\(∀ b,vl.ownBlock=some b->b≠x/\True/\vp.ownBlock≠some b/\vn.ownBlock≠some b):=by
 have hx:=h.blk;have hp:=cI h.op;have hn:=cI h.on;have hl:=cI h.ol;unfold Blk at hx;refine⟨fun b e=>?_,fun b e=>?_,fun b e=>?_⟩
 ·obtain⟨_,cur,q⟩:=hp b e;refine⟨?_,trivial,fun k=>?_,fun k=>?_⟩
  ·rintro rfl;rw[hx] at q;simp at q
  ·obtain⟨_,cur2,q2⟩:=hn b k;rw[q] at q2;simp at q2
  ·obtain⟨_,cur2,q2⟩:=hl b k;rw[q] at q2;simp at q2
 ·obtain⟨_,cur,q⟩:=hn b e;refine⟨?_,trivial,fun k=>?_,fun k=>?_⟩
  ·rintro rfl;rw[hx] at q;simp at q
  ·obtain⟨_,cur2,q2⟩:=hp b k;rw[q] at q2;simp at q2
  ·obtain⟨_,cur2,q2⟩:=hl b k;rw[q] at q2;simp at q2
 ·obtain⟨_,cur,q⟩:=hl b e;refine⟨?_,trivial,fun k=>?_,fun k=>?_⟩
  ·rintro rfl;rw[hx] at q;simp at q
  ·obtain⟨_,cur2,q2⟩:=hp b k;rw[q] at q2;simp at q2
  ·obtain⟨_,cur2,q2⟩:=hn b k;rw[q] at q2;simp at q2
theorem az(k:Nat)(w:World):Cr prog 39 #[I6 k] w (.agg #[I6 k,.slice none 0 0]):=by
 go_enter func39,ntmps39
 go_wp2;go_returns
 exact⟨rfl,upB⟩
theorem fc(b:Option Addr)(n c:Nat)(w:World):Cr prog 105 #[.slice b n c] w (.agg #[I6 0,.slice b n c]):=by
 go_enter func105,ntmps105
 go_wp2;go_returns
 exact⟨rfl,upB⟩
theorem kS(a n b m:Int)(w:World)(ha:ad a)(hb:ad b)(n0:0<=n)(n1:n<=32)(m0:0<=m)(m1:m<=32):Cr prog 220 #[.agg #[U3 a,I6 n],.agg #[U3 b,I6 m]] w (.bool (ri a n b m)):=by
 obtain⟨a0,a1⟩:=ha;obtain⟨b0,b1⟩:=hb;have e1:IntKind.i64.wrap a=a:=bf _ a0 a1
 have e2:IntKind.i64.wrap b=b:=bf _ b0 b1
 by_cases h:b<=a
 ·have HR:Hid (ri a n b m=decide (lst a n<=lst b m)):=by show ri a n b m=_;unfold ri;rw[decide_eq_true h];rfl
  go_enter func220,ntmps220
  go_wp2;have k0:((w.alloc (.cells #[U3 a,I6 n] 80)).alloc (.cells #[U3 b,I6 m] 80)).cell? (Nw w 0)=some (U3 a):=by simp[go_sem]
  have k1:((w.alloc (.cells #[U3 a,I6 n] 80)).alloc (.cells #[U3 b,I6 m] 80)).cell? (Nw w 1)=some (I6 n):=by simp[go_sem]
  have k2:((w.alloc (.cells #[U3 a,I6 n] 80)).alloc (.cells #[U3 b,I6 m] 80)).cell? (At (w.heap.size+1) 0)=some (U3 b):=by simp[go_sem]
  have k3:((w.alloc (.cells #[U3 a,I6 n] 80)).alloc (.cells #[U3 b,I6 m] 80)).cell? (At (w.heap.size+1) 1)=some (I6 m):=by simp[go_sem]
  have HB:Hid (Bl w ((w.alloc (.cells #[U3 a,I6 n] 80)).alloc (.cells #[U3 b,I6 m] 80))):=(show Below _ _ _ from upB)
  generalize (w.alloc (.cells #[U3 a,I6 n] 80)).alloc (.cells #[U3 b,I6 m] 80)=w1 at *
  go_region_held3 (fun w'=>w'.cell? (Nw w 0)=some (U3 a)/\w'.cell? (Nw w 1)=some (I6 n)/\w'.cell? (At (w.heap.size+1) 0)=some (U3 b)/\w'.cell? (At (w.heap.size+1) 1)=some (I6 m)) (go_keep) ((go_at_call 231;refine Mo (eU _ _ _ om om om om) fun wq hbq=>?_;replace k0:=cK hbq k0;replace k1:=cK hbq k1;replace k2:=cK hbq k2;replace k3:=cK hbq k3;replace HB:Hid (Bl w wq):=(by first|exact HB.o.trans (hbq.mono HB.o.size)|exact HB.o.drew.trans (hbq.mono HB.o.size));clear hbq))
  all_goals (
   go_wp2_with fail
   go_ret;exact⟨aC HR.o.symm,HB.o⟩)
 ·have HR:Hid (ri a n b m=false):=by show ri a n b m=_;unfold ri;rw[decide_eq_false h];rfl
  go_enter func220,ntmps220
  go_wp2;first|go_region_with (fail)|fail
  all_goals (
   go_wp2_with fail
   go_ret;exact⟨aC HR.o.symm,upB⟩)
def cP(h:Hd):Prop:=ad h.a/\0<=h.n/\h.n<=32
theorem EK{a n:Int}{y:Hd}(h:isH a n y=false):(y.a==a)=false\/((y.a==a)=true/\(y.n==n)=false):=by
 unfold isH at h;by_cases e:y.a=a
 ·right
  refine⟨by simpa using e,?_⟩
  rw[decide_eq_true e] at h;simpa using h
 ·left;simpa using e
theorem oe{p:Hd->Bool}{l:List Hd}{k:Nat}(h:∀ j,j<k->p (l.getD j hd0)=false)(e:p (l.getD k hd0)=false):∀ j,j<k+1->p (l.getD j hd0)=false:=fun j hj=>by
 by_cases q:j=k
 ·rw[q];exact e
 ·exact h j om
theorem rM{p:Hd->Bool}{l:List Hd}(h:∀ j,j<l.length->p (l.getD j hd0)=false):∀ x,x∈l->p x=false:=fun x hx=>by
 obtain⟨j,hj,rfl⟩:=List.getElem_of_mem hx;have:=h j hj
 rwa [List.getD_eq_getElem?_getD,List.getElem?_eq_getElem hj] at this
theorem Ej{p:Hd->Bool}{l:List Hd}(h:∀ j,j<l.length->p (l.getD j hd0)=false):l.any p=false:=by
 rw[List.any_eq_false];intro x hx;rw[rM h x hx];simp
theorem B6{p:Hd->Bool}{l:List Hd}{k:Nat}(hk:k<l.length)(e:p (l.getD k hd0)=true):l.any p=true:=by
 rw[List.any_eq_true];exact⟨_,aJ l hd0 k hk,e⟩
def rY(p:Hd->Bool)(l:List Hd)(k:Nat):Nat:=(l.take k).countP p
theorem mP(p:Hd->Bool)(l:List Hd)(k:Nat)(hk:k<l.length):rY p l (k+1)=rY p l k+if p (l.getD k hd0) then 1 else 0:=by
 unfold rY;rw[List.take_succ_eq_append_getElem hk,List.countP_append,List.getD_eq_getElem?_getD,List.getElem?_eq_getElem hk];simp[List.countP_cons]
theorem iM(l:List Hd)(a n:Int)(v:Value)(w:World)(ha:ad a)(n0:0<=n)(n1:n<=32)(hA:∀ h,h∈l->cP h)(hr:Rd 3 ak hd0 w v l)(hn:l.length<=1000000):Cr prog 225 #[v,.agg #[U3 a,I6 n]] w (.bool (aU l a n)):=by
 obtain⟨b,cap,rfl,h1,h2,h3⟩:=hr;have hrow:Hid (∀ W,Bl w W->∀ j,j<l.length->∃ g,b=some (At g 0)/\W.cell? (At g (j*3))=some (U3 (l.getD j hd0).a)/\W.cell? (At g (j*3+1))=some (I6 (l.getD j hd0).n)):=fun W hW j hj=>by
  obtain⟨g,hg,hlt,hc⟩:=h3 (by intro e;rw[e] at hj;simp at hj)
  have hc:=hc j hj;exact⟨g,hg,(hW.cell (p:=At g (j*3)) hlt).trans (hc 0 _ rfl),(hW.cell (p:=At g (j*3+1)) hlt).trans (hc 1 _ rfl)⟩
 have HA:Hid (∀ h,h∈l->cP h):=hA
 have HC:Hid (∀ y:Hd,cP y->∀ W,Cr prog 245 #[.agg #[U3 y.a,I6 y.n],.agg #[U3 a,I6 n]] W (.bool ((bR a n) y))):=fun y hy W=>xe y.a y.n a n W hy.1.1 hy.1.2 ha.1 ha.2
 clear h1 h2 h3 hA;go_enter func225,ntmps225
 go_wp2;go_loopw [5] (fun i wr=>∃ k:Nat,k<=l.length/\i=I6 k/\Hid (Bl w wr)/\Hid (wr.cell? (Nw w 0)=some (U3 a)/\wr.cell? (Nw w 1)=some (I6 n))/\Hid (∀ j,j<k->(bR a n) (l.getD j hd0)=false)) (fun i _=>l.length-(intOf i).toNat)
 case atStart=>exact⟨0,by omega,rfl,(show Below _ _ _ from upB),⟨by simp[go_sem],by simp[go_sem]⟩,fun j hj=>absurd hj (Nat.not_lt_zero _)⟩
 case round =>
  obtain⟨k,hk,rfl,HB,HX,HI⟩:=hrel;by_cases hlt:k<l.length
  ·obtain⟨g,rfl,r0,r1⟩:=hrow.o wr HB.o k hlt;have x0:=HX.o.1;have x1:=HX.o.2;have HK:Hid (cP (l.getD k hd0)):=HA.o _ (aJ l hd0 k hlt)
   obtain⟨y,hy⟩:∃ y,l.getD k hd0=y:=⟨_,rfl⟩
   rw[hy] at r0 r1 HK;have HY:Hid (l.getD k hd0=y):=hy
   clear hy hrow HA HX;rcases hq:(bR a n) y with _|_
   ·have HQ:Hid ((bR a n) y=false):=hq
    have HC2:Hid (∀ W,Cr prog 245 #[.agg #[U3 y.a,I6 y.n],.agg #[U3 a,I6 n]] W (.bool false)):=fun W=>(HC.o y HK.o W).mono (fun e w' q=>⟨by rw[q.1];exact aC hq,q.2⟩)
    clear hq HC;go_wp2;go_region_held3 (fun w'=>w'.cell? (At g (k*3))=some (U3 y.a)/\w'.cell? (At g (k*3+1))=some (I6 y.n)/\w'.cell? (Nw w 0)=some (U3 a)/\w'.cell? (Nw w 1)=some (I6 n)) (go_keep) ((go_at_call 245;refine Mo (HC2.o _) fun wq hbq=>?_;replace r0:=cK hbq r0;replace r1:=cK hbq r1;replace x0:=cK hbq x0;replace x1:=cK hbq x1;replace HB:Hid (Bl w wq):=(by first|exact HB.o.trans (hbq.mono HB.o.size)|exact HB.o.drew.trans (hbq.mono HB.o.size));clear hbq))
    all_goals (
     go_wp2_with fail
     go_roundw
     case rel=>exact⟨k+1,by omega,by go_num,HB.o,⟨x0,x1⟩,oe (p:=bR a n) HI.o (by rw[HY.o];exact HQ.o)⟩
     case measure=>simp[intOf];omega)
   ·have HQ:Hid ((bR a n) y=true):=hq
    have HC2:Hid (∀ W,Cr prog 245 #[.agg #[U3 y.a,I6 y.n],.agg #[U3 a,I6 n]] W (.bool true)):=fun W=>(HC.o y HK.o W).mono (fun e w' q=>⟨by rw[q.1];exact aC hq,q.2⟩)
    clear hq HC;go_wp2;go_region_held3 (fun w'=>w'.cell? (At g (k*3))=some (U3 y.a)/\w'.cell? (At g (k*3+1))=some (I6 y.n)/\w'.cell? (Nw w 0)=some (U3 a)/\w'.cell? (Nw w 1)=some (I6 n)) (go_keep) ((go_at_call 245;refine Mo (HC2.o _) fun wq hbq=>?_;replace r0:=cK hbq r0;replace r1:=cK hbq r1;replace x0:=cK hbq x0;replace x1:=cK hbq x1;replace HB:Hid (Bl w wq):=(by first|exact HB.o.trans (hbq.mono HB.o.size)|exact HB.o.drew.trans (hbq.mono HB.o.size));clear hbq))
    all_goals (
     go_wp2_with fail
     go_ret;exact⟨aC (B6 hlt (by rw[HY.o];exact HQ.o)).symm,HB.o⟩)
  ·obtain rfl:k=l.length:=by omega
   clear hrow HA;have x0:=HX.o.1;go_wp2;go_ret;exact⟨aC (Ej HI.o).symm,HB.o⟩
def dA(l:List Hd)(a n:Int):Int:=fi (fun h=>ri a n h.a h.n) l
theorem kB(l:List Hd)(a n:Int)(v:Value)(w:World)(ha:ad a)(n0:0<=n)(n1:n<=32)(hA:∀ h,h∈l->cP h)(hr:Rd 3 ak hd0 w v l)(hn:l.length<=1000000):Cr prog 230 #[v,.agg #[U3 a,I6 n]] w (I6 (dA l a n)):=by
 obtain⟨b,cap,rfl,h1,h2,h3⟩:=hr;have hrow:Hid (∀ W,Bl w W->∀ j,j<l.length->∃ g,b=some (At g 0)/\W.cell? (At g (j*3))=some (U3 (l.getD j hd0).a)/\W.cell? (At g (j*3+1))=some (I6 (l.getD j hd0).n)):=fun W hW j hj=>by
  obtain⟨g,hg,hlt,hc⟩:=h3 (by intro e;rw[e] at hj;simp at hj)
  have hc:=hc j hj;exact⟨g,hg,(hW.cell (p:=At g (j*3)) hlt).trans (hc 0 _ rfl),(hW.cell (p:=At g (j*3+1)) hlt).trans (hc 1 _ rfl)⟩
 have HA:Hid (∀ h,h∈l->cP h):=hA
 have HC:Hid (∀ y:Hd,cP y->∀ W,Cr prog 220 #[.agg #[U3 a,I6 n],.agg #[U3 y.a,I6 y.n]] W (.bool ((fun h=>ri a n h.a h.n) y))):=fun y hy W=>kS a n y.a y.n W ha hy.1 n0 n1 hy.2.1 hy.2.2
 clear h1 h2 h3 hA;go_enter func230,ntmps230
 go_wp2;go_loopw [5] (fun i wr=>∃ k:Nat,k<=l.length/\i=I6 k/\Hid (Bl w wr)/\Hid (wr.cell? (Nw w 0)=some (U3 a)/\wr.cell? (Nw w 1)=some (I6 n))/\Hid (∀ j,j<k->(fun h=>ri a n h.a h.n) (l.getD j hd0)=false)) (fun i _=>l.length-(intOf i).toNat)
 case atStart=>exact⟨0,by omega,rfl,(show Below _ _ _ from upB),⟨by simp[go_sem],by simp[go_sem]⟩,fun j hj=>absurd hj (Nat.not_lt_zero _)⟩
 case round =>
  obtain⟨k,hk,rfl,HB,HX,HI⟩:=hrel;by_cases hlt:k<l.length
  ·obtain⟨g,rfl,r0,r1⟩:=hrow.o wr HB.o k hlt;have x0:=HX.o.1;have x1:=HX.o.2;have HK:Hid (cP (l.getD k hd0)):=HA.o _ (aJ l hd0 k hlt)
   obtain⟨y,hy⟩:∃ y,l.getD k hd0=y:=⟨_,rfl⟩
   rw[hy] at r0 r1 HK;have HY:Hid (l.getD k hd0=y):=hy
   clear hy hrow HA HX;rcases hq:(fun h=>ri a n h.a h.n) y with _|_
   ·have HQ:Hid ((fun h=>ri a n h.a h.n) y=false):=hq
    have HC2:Hid (∀ W,Cr prog 220 #[.agg #[U3 a,I6 n],.agg #[U3 y.a,I6 y.n]] W (.bool false)):=fun W=>(HC.o y HK.o W).mono (fun e w' q=>⟨by rw[q.1];exact aC hq,q.2⟩)
    clear hq HC;go_wp2;go_region_held3 (fun w'=>w'.cell? (At g (k*3))=some (U3 y.a)/\w'.cell? (At g (k*3+1))=some (I6 y.n)/\w'.cell? (Nw w 0)=some (U3 a)/\w'.cell? (Nw w 1)=some (I6 n)) (go_keep) ((go_at_call 220;refine Mo (HC2.o _) fun wq hbq=>?_;replace r0:=cK hbq r0;replace r1:=cK hbq r1;replace x0:=cK hbq x0;replace x1:=cK hbq x1;replace HB:Hid (Bl w wq):=(by first|exact HB.o.trans (hbq.mono HB.o.size)|exact HB.o.drew.trans (hbq.mono HB.o.size));clear hbq))
    all_goals (
     go_wp2_with fail
     go_roundw
     case rel=>exact⟨k+1,by omega,by go_num,HB.o,⟨x0,x1⟩,oe (p:=fun h=>ri a n h.a h.n) HI.o (by rw[HY.o];exact HQ.o)⟩
     case measure=>simp[intOf];omega)
   ·have HQ:Hid ((fun h=>ri a n h.a h.n) y=true):=hq
    have HC2:Hid (∀ W,Cr prog 220 #[.agg #[U3 a,I6 n],.agg #[U3 y.a,I6 y.n]] W (.bool true)):=fun W=>(HC.o y HK.o W).mono (fun e w' q=>⟨by rw[q.1];exact aC hq,q.2⟩)
    clear hq HC;go_wp2;go_region_held3 (fun w'=>w'.cell? (At g (k*3))=some (U3 y.a)/\w'.cell? (At g (k*3+1))=some (I6 y.n)/\w'.cell? (Nw w 0)=some (U3 a)/\w'.cell? (Nw w 1)=some (I6 n)) (go_keep) ((go_at_call 220;refine Mo (HC2.o _) fun wq hbq=>?_;replace r0:=cK hbq r0;replace r1:=cK hbq r1;replace x0:=cK hbq x0;replace x1:=cK hbq x1;replace HB:Hid (Bl w wq):=(by first|exact HB.o.trans (hbq.mono HB.o.size)|exact HB.o.drew.trans (hbq.mono HB.o.size));clear hbq))
    all_goals (
     go_wp2_with fail
     go_ret;exact⟨cM (iD _ l hd0 k hlt HI.o (by rw[HY.o];exact HQ.o)).symm,HB.o⟩)
  ·obtain rfl:k=l.length:=by omega
   clear hrow HA;have x0:=HX.o.1;go_wp2;go_ret;exact⟨cM (gY _ l (rM HI.o)).symm,HB.o⟩
def dq(l:List Hd)(a n:Int):Nat:=rY (fun h=>ri h.a h.n a n) l l.length
theorem kF(l:List Hd)(a n:Int)(v:Value)(w:World)(ha:ad a)(n0:0<=n)(n1:n<=32)(hA:∀ h,h∈l->cP h)(hr:Rd 3 ak hd0 w v l)(hn:l.length<=1000000):Cr prog 227 #[v,.agg #[U3 a,I6 n]] w (I6 (dq l a n)):=by
 obtain⟨b,cap,rfl,h1,h2,h3⟩:=hr;have hrow:Hid (∀ W,Bl w W->∀ j,j<l.length->∃ g,b=some (At g 0)/\W.cell? (At g (j*3))=some (U3 (l.getD j hd0).a)/\W.cell? (At g (j*3+1))=some (I6 (l.getD j hd0).n)):=fun W hW j hj=>by
  obtain⟨g,hg,hlt,hc⟩:=h3 (by intro e;rw[e] at hj;simp at hj)
  have hc:=hc j hj;exact⟨g,hg,(hW.cell (p:=At g (j*3)) hlt).trans (hc 0 _ rfl),(hW.cell (p:=At g (j*3+1)) hlt).trans (hc 1 _ rfl)⟩
 have HA:Hid (∀ h,h∈l->cP h):=hA
 have HC:Hid (∀ y:Hd,cP y->∀ W,Cr prog 220 #[.agg #[U3 y.a,I6 y.n],.agg #[U3 a,I6 n]] W (.bool ((fun h=>ri h.a h.n a n) y))):=fun y hy W=>kS y.a y.n a n W hy.1 ha hy.2.1 hy.2.2 n0 n1
 clear h1 h2 h3 hA;go_enter func227,ntmps227
 go_wp2;go_loopw [5,6] (fun cv i wr=>∃ k:Nat,k<=l.length/\i=I6 k/\(∃ c:Nat,cv=I6 (c:Nat)/\c<=k/\Hid (c=rY (fun h=>ri h.a h.n a n) l k))/\Hid (Bl w wr)/\Hid (wr.cell? (Nw w 0)=some (U3 a)/\wr.cell? (Nw w 1)=some (I6 n))/\Hid (True)) (fun _ i _=>l.length-(intOf i).toNat)
 case atStart=>exact⟨0,by omega,rfl,⟨0,rfl,Nat.le_refl _,rfl⟩,(show Below _ _ _ from upB),⟨by simp[go_sem],by simp[go_sem]⟩,trivial⟩
 case round =>
  obtain⟨k,hk,rfl,⟨c,rfl,hc,HCt⟩,HB,HX,HI⟩:=hrel;by_cases hlt:k<l.length
  ·obtain⟨g,rfl,r0,r1⟩:=hrow.o wr HB.o k hlt;have x0:=HX.o.1;have x1:=HX.o.2;have HK:Hid (cP (l.getD k hd0)):=HA.o _ (aJ l hd0 k hlt)
   obtain⟨y,hy⟩:∃ y,l.getD k hd0=y:=⟨_,rfl⟩
   rw[hy] at r0 r1 HK;have HY:Hid (l.getD k hd0=y):=hy
   clear hy hrow HA HX;rcases hq:(fun h=>ri h.a h.n a n) y with _|_
   ·have HQ:Hid ((fun h=>ri h.a h.n a n) y=false):=hq
    have HC2:Hid (∀ W,Cr prog 220 #[.agg #[U3 y.a,I6 y.n],.agg #[U3 a,I6 n]] W (.bool false)):=fun W=>(HC.o y HK.o W).mono (fun e w' q=>⟨by rw[q.1];exact aC hq,q.2⟩)
    clear hq HC;go_wp2;go_region_held3 (fun w'=>w'.cell? (At g (k*3))=some (U3 y.a)/\w'.cell? (At g (k*3+1))=some (I6 y.n)/\w'.cell? (Nw w 0)=some (U3 a)/\w'.cell? (Nw w 1)=some (I6 n)) (go_keep) ((go_at_call 220;refine Mo (HC2.o _) fun wq hbq=>?_;replace r0:=cK hbq r0;replace r1:=cK hbq r1;replace x0:=cK hbq x0;replace x1:=cK hbq x1;replace HB:Hid (Bl w wq):=(by first|exact HB.o.trans (hbq.mono HB.o.size)|exact HB.o.drew.trans (hbq.mono HB.o.size));clear hbq))
    all_goals (
     go_wp2_with fail
     go_roundw
     case rel=>exact⟨k+1,by omega,by go_num,⟨c,rfl,by omega,by show c=_;rw[mP _ l k hlt,HY.o,HQ.o,HCt.o];rfl⟩,HB.o,⟨x0,x1⟩,trivial⟩
     case measure=>simp[intOf];omega)
   ·have HQ:Hid ((fun h=>ri h.a h.n a n) y=true):=hq
    have HC2:Hid (∀ W,Cr prog 220 #[.agg #[U3 y.a,I6 y.n],.agg #[U3 a,I6 n]] W (.bool true)):=fun W=>(HC.o y HK.o W).mono (fun e w' q=>⟨by rw[q.1];exact aC hq,q.2⟩)
    clear hq HC;go_wp2;go_region_held3 (fun w'=>w'.cell? (At g (k*3))=some (U3 y.a)/\w'.cell? (At g (k*3+1))=some (I6 y.n)/\w'.cell? (Nw w 0)=some (U3 a)/\w'.cell? (Nw w 1)=some (I6 n)) (go_keep) ((go_at_call 220;refine Mo (HC2.o _) fun wq hbq=>?_;replace r0:=cK hbq r0;replace r1:=cK hbq r1;replace x0:=cK hbq x0;replace x1:=cK hbq x1;replace HB:Hid (Bl w wq):=(by first|exact HB.o.trans (hbq.mono HB.o.size)|exact HB.o.drew.trans (hbq.mono HB.o.size));clear hbq))
    all_goals (
     go_wp2_with fail
     go_roundw
     case rel=>exact⟨k+1,by omega,by go_num,⟨c+1,by go_num,by omega,by show c+1=_;rw[mP _ l k hlt,HY.o,HQ.o,HCt.o];rfl⟩,HB.o,⟨x0,x1⟩,trivial⟩
     case measure=>simp[intOf];omega)
  ·obtain rfl:k=l.length:=by omega
   clear hrow HA;have x0:=HX.o.1;go_wp2;go_ret;exact⟨by rw[HCt.o];rfl,HB.o⟩
theorem eO(l:List Hd)(a n:Int)(v:Value)(w:World)(ha:ad a)(n0:0<=n)(n1:n<=32)(hA:∀ h,h∈l->cP h)(hr:Rd 3 ak hd0 w v l)(hn:l.length<=1000000):Cr prog 182 #[v,.agg #[U3 a,I6 n]] w (I6 (ah l a n)):=by
 obtain⟨b,cap,rfl,h1,h2,h3⟩:=hr;have hrow:Hid (∀ W,Bl w W->∀ j,j<l.length->∃ g,b=some (At g 0)/\W.cell? (At g (j*3))=some (U3 (l.getD j hd0).a)/\W.cell? (At g (j*3+1))=some (I6 (l.getD j hd0).n)):=fun W hW j hj=>by
  obtain⟨g,hg,hlt,hc⟩:=h3 (by intro e;rw[e] at hj;simp at hj)
  have hc:=hc j hj;exact⟨g,hg,(hW.cell (p:=At g (j*3)) hlt).trans (hc 0 _ rfl),(hW.cell (p:=At g (j*3+1)) hlt).trans (hc 1 _ rfl)⟩
 have HA:Hid (∀ h,h∈l->cP h):=hA
 have HC:Hid (∀ y:Hd,cP y->True):=fun _ _=>trivial
 clear h1 h2 h3 hA;go_enter func182,ntmps182
 go_wp2;go_loopw [5] (fun i wr=>∃ k:Nat,k<=l.length/\i=I6 k/\Hid (Bl w wr)/\Hid (wr.cell? (Nw w 0)=some (U3 a)/\wr.cell? (Nw w 1)=some (I6 n))/\Hid (∀ j,j<k->(isH a n) (l.getD j hd0)=false)) (fun i _=>l.length-(intOf i).toNat)
 case atStart=>exact⟨0,by omega,rfl,(show Below _ _ _ from upB),⟨by simp[go_sem],by simp[go_sem]⟩,fun j hj=>absurd hj (Nat.not_lt_zero _)⟩
 case round =>
  obtain⟨k,hk,rfl,HB,HX,HI⟩:=hrel;by_cases hlt:k<l.length
  ·obtain⟨g,rfl,r0,r1⟩:=hrow.o wr HB.o k hlt;have x0:=HX.o.1;have x1:=HX.o.2;have HK:Hid (cP (l.getD k hd0)):=HA.o _ (aJ l hd0 k hlt)
   obtain⟨y,hy⟩:∃ y,l.getD k hd0=y:=⟨_,rfl⟩
   rw[hy] at r0 r1 HK;have HY:Hid (l.getD k hd0=y):=hy
   clear hy hrow HA HX;rcases hq:(isH a n) y with _|_
   ·have HQ:Hid ((isH a n) y=false):=hq
    rcases EK hq with q1|⟨q1,q2⟩
    all_goals (
    clear hq HC;go_wp2;go_region_held3 (fun w'=>w'.cell? (At g (k*3))=some (U3 y.a)/\w'.cell? (At g (k*3+1))=some (I6 y.n)/\w'.cell? (Nw w 0)=some (U3 a)/\w'.cell? (Nw w 1)=some (I6 n)) (go_keep) (fail))
    all_goals (
     go_wp2_with fail
     go_roundw
     case rel=>exact⟨k+1,by omega,by go_num,HB.o.drew,⟨x0,x1⟩,oe (p:=isH a n) HI.o (by rw[HY.o];exact HQ.o)⟩
     case measure=>simp[intOf];omega)
   ·have HQ:Hid ((isH a n) y=true):=hq
    have q1:(y.a==a)=true:=by unfold isH at hq;simp at hq;simpa using hq.1
    have q2:(y.n==n)=true:=by unfold isH at hq;simp at hq;simpa using hq.2
    all_goals (
    clear hq HC;go_wp2;go_region_held3 (fun w'=>w'.cell? (At g (k*3))=some (U3 y.a)/\w'.cell? (At g (k*3+1))=some (I6 y.n)/\w'.cell? (Nw w 0)=some (U3 a)/\w'.cell? (Nw w 1)=some (I6 n)) (go_keep) (fail))
    all_goals (
     go_wp2_with fail
     go_ret;exact⟨cM (iD _ l hd0 k hlt HI.o (by rw[HY.o];exact HQ.o)).symm,HB.o.drew⟩)
  ·obtain rfl:k=l.length:=by omega
   clear hrow HA;have x0:=HX.o.1;go_wp2;go_ret;exact⟨cM (gY _ l (rM HI.o)).symm,HB.o⟩
def aW:List Hd->Hd->List Hd
 | [],h=>[h]
 | x::r,h=>if h.a<x.a then h::x::r else x::aW r h
theorem qg:(prog.info? 282).map (fun i=>(i.zero,i.size,i.bytes))=some (some (.agg #[U3 0,I6 0,.string ByteArray.empty]),3,32):=by kernel_rfl
theorem fJ(l:List Hd)(y:Hd):(l++[y]).flatMap ak=l.flatMap ak++[U3 y.a,I6 y.n,.string y.o]:=by simp[ak]
theorem eV(l:List Hd)(k:Nat)(hk:k<l.length):l.take (k+1)=l.take k++[l.getD k hd0]:=by
 rw[List.take_succ_eq_append_getElem hk,List.getD_eq_getElem?_getD,List.getElem?_eq_getElem hk];rfl
theorem Ev(l:List Hd)(k:Nat)(hk:k<l.length):aA (l.take (k+1)) k=aA (l.take k) k:=by
 unfold aA;rw[List.take_take,List.take_take,List.drop_of_length_le (by simp;omega),List.drop_of_length_le (by simp;omega)]
 simp
theorem Ct(l:List Hd)(i k:Nat)(hi:i<l.length)(h:i≠k):aA (l.take (i+1)) k=aA (l.take i) k++[l.getD i hd0]:=by
 unfold aA;rw[eV l i hi];rcases Nat.lt_or_ge i k with q|q
 ·have e1:(l.take i++[l.getD i hd0]).take k=l.take i++[l.getD i hd0]:=List.take_of_length_le (by simp;omega)
  have e2:(l.take i++[l.getD i hd0]).drop (k+1)=[]:=List.drop_of_length_le (by simp;omega)
  have e3:(l.take i).take k=l.take i:=List.take_of_length_le (by simp;omega)
  have e4:(l.take i).drop (k+1)=[]:=List.drop_of_length_le (by simp;omega)
  rw[e1,e2,e3,e4];simp
 ·rw[List.take_append_of_le_length (by simp;omega),List.drop_append_of_le_length (by simp;omega),List.append_assoc]
theorem gk(l:List Hd)(q:Nat)(v:Value)(w:World)(hr:Rd 3 ak hd0 w v l)(hn:l.length<=1000000)(hq:q<=1000000):Calls prog 228 #[v,I6 q] w fun e w'=>∃ v',e=.returned v'/\w'.ownsRow w.heap.size 282 3 v' (aA l q).length ((aA l q).flatMap ak)/\Bl w w':=by
 obtain⟨b,cap,rfl,h1,h2,h3⟩:=hr;have hrow:Hid (∀ W,Bl w W->∀ j,j<l.length->∃ g,b=some (At g 0)/\W.cell? (At g (j*3))=some (U3 (l.getD j hd0).a)/\W.cell? (At g (j*3+1))=some (I6 (l.getD j hd0).n)/\W.cell? (At g (j*3+2))=some (.string (l.getD j hd0).o)):=fun W hW j hj=>by
  obtain⟨g,hg,hlt,hc⟩:=h3 (by intro e;rw[e] at hj;simp at hj)
  have hc:=hc j hj;exact⟨g,hg,(hW.cell (p:=At g (j*3)) hlt).trans (hc 0 _ rfl),(hW.cell (p:=At g (j*3+1)) hlt).trans (hc 1 _ rfl),(hW.cell (p:=At g (j*3+2)) hlt).trans (hc 2 _ rfl)⟩
 obtain⟨i0,hi0,hz0,hz1,hz2⟩:=info_parts qg;clear h1 h2 h3;go_enter func228,ntmps228
 go_wp2;go_loopw [5,6] (fun o i wr=>∃ (k m:Nat) (b3:Option Addr) (c3:Nat) (l5:List Value),k<=l.length/\m<=k/\o=.slice b3 m c3/\i=I6 k/\Hid (Bl w wr)/\Hid (wr.ownsRow w.heap.size 282 3 (.slice b3 m c3) m l5)/\Hid (m=(aA (l.take k) q).length/\l5=(aA (l.take k) q).flatMap ak)) (fun _ i _=>l.length-(intOf i).toNat)
 case atStart=>exact⟨0,0,none,0,[],by omega,by omega,rfl,rfl,(show Below _ _ _ from upB),⟨rfl,.inl ⟨rfl,rfl⟩⟩,by constructor<;>simp[aA]⟩
 case round =>
  obtain⟨k,m,b3,c3,l5,hk,hm,rfl,rfl,HB,HO,HE⟩:=hrel;have zw:=HB.o.size;by_cases hlt:k<l.length
  ·obtain⟨g,rfl,r0,r1,r2⟩:=hrow.o wr HB.o k hlt;by_cases hkq:k=q
   ·have e1:((k:Int)==(q:Int))=true:=by simp[hkq]
    have HD:=Ev l k hlt;clear hrow;go_wp2;go_roundw
    case rel=>exact⟨k+1,m,b3,c3,l5,by omega,by omega,rfl,by go_num,HB.o,HO.o,by subst hkq;rw[HD];exact HE.o⟩
    case measure=>simp[intOf];omega
   ·have e1:((k:Int)==(q:Int))=false:=beq_eq_false_iff_ne.2 om
    have HD:Hid (aA (l.take (k+1)) q=aA (l.take k) q++[l.getD k hd0]):=Ct l k q hlt hkq
    have HO2:Hid (∀ wz,Bl wr wz->wz.ownsRow w.heap.size 282 3 (.slice b3 m c3) m l5):=fun wz hz=>av HO.o hz
    have HOB:Hid (∀ x,(Value.slice b3 m c3).ownBlock=some x->w.heap.size<=x):=bc HO.o
    generalize l.getD k hd0=y at r0 r1 r2 HD
    have hltz:(k:Int)<(l.length:Int):=by omega
    clear hrow HO;go_wp2_with (at_builtin;refine wpList_append_lies _ rfl _ _ 171 rfl w.heap.size 282 i0 _ 3 32 underlying171 hi0 hz0 hz1 hz2 rfl dE (.slice b3 m c3) m l5 rfl (HO2.o _ upB) (Nw wr 0) 1 1 [U3 y.a,I6 y.n,.string y.o] rfl rfl (fun j u hj=>by rw[Addr.add_lit,Nat.zero_add];match j,hj with|0,hj=>simp at hj;rw[<- hj];simp[go_sem]|1,hj=>simp at hj;rw[<- hj];simp[go_sem]|2,hj=>simp at hj;rw[<- hj];simp[go_sem]|j+3,hj=>simp at hj) (by intro u hu;simp at hu;rcases hu with rfl|rfl|rfl<;>rfl) om (by unfold maxLen;omega) om (by simp;omega) _ rfl ?_;intro g3 cap3 w3 hown3 hgrow3 hat3 hlt3)
    go_roundw
    case rel =>
     have hb3:Bl w w3:=bu (HB.o.alloc zw _) hgrow3 HOB.o (by simp;omega)
     have hO3:Hid (w3.ownsRow w.heap.size 282 3 (Sq g3 (m+1) cap3) (m+1) (l5++[U3 y.a,I6 y.n,.string y.o])):=hown3
     refine⟨k+1,m+1,_,cap3,l5++[U3 y.a,I6 y.n,.string y.o],by omega,by omega,rfl,by go_num,hb3,hO3,?_⟩
     show m+1=_/\_
     rw[HD.o,fJ,<- HE.o.2,List.length_append,<- HE.o.1];exact⟨rfl,rfl⟩
    case measure=>simp[intOf];omega
  ·obtain rfl:k=l.length:=by omega
   clear hrow;go_wp2;go_ret;have e:=HE.o;rw[List.take_length] at e;exact⟨_,rfl,by rw[<- e.1,<- e.2];exact HO.o,HB.o⟩
theorem lz(l:List Hd)(k:Nat)(hk:k<l.length):l.drop k=l.getD k hd0::l.drop (k+1):=by
 rw[List.drop_eq_getElem_cons hk,List.getD_eq_getElem?_getD,List.getElem?_eq_getElem hk];rfl
def eC(l:List Hd)(h:Hd)(k:Nat)(t:Bool)(m:Nat)(l5:List Value):Prop:=∃ o:List Hd,m=o.length/\l5=o.flatMap ak/\(t=true->aW l h=o++l.drop k)/\(t=false->o=l.take k/\aW l h=l.take k++aW (l.drop k) h)
theorem DT{l:List Hd}{h:Hd}{k m:Nat}{l5:List Value}(hk:k<l.length)(w:eC l h k true m l5):eC l h (k+1) true (m+1) (l5++[U3 (l.getD k hd0).a,I6 (l.getD k hd0).n,.string (l.getD k hd0).o]):=by
 obtain⟨o,h1,h2,h3,_⟩:=w;refine⟨o++[l.getD k hd0],by simp[h1],by rw[fJ,h2],fun _=>?_,fun q=>(by cases q)⟩
 rw[h3 rfl,lz l k hk];simp
theorem BM{l:List Hd}{h:Hd}{k m:Nat}{l5:List Value}(hk:k<l.length)(hn:¬h.a<(l.getD k hd0).a)(w:eC l h k false m l5):eC l h (k+1) false (m+1) (l5++[U3 (l.getD k hd0).a,I6 (l.getD k hd0).n,.string (l.getD k hd0).o]):=by
 obtain⟨o,h1,h2,_,h3⟩:=w;obtain⟨e1,e2⟩:=h3 rfl;refine⟨o++[l.getD k hd0],by simp[h1],by rw[fJ,h2],fun q=>(by cases q),fun _=>⟨by rw[eV l k hk,e1],?_⟩⟩
 rw[e2,lz l k hk,eV l k hk];simp only[aW]
 rw[if_neg hn];simp
theorem BO{l:List Hd}{h:Hd}{k m:Nat}{l5:List Value}(hk:k<l.length)(hn:h.a<(l.getD k hd0).a)(w:eC l h k false m l5):eC l h (k+1) true (m+1+1) (l5++[U3 h.a,I6 h.n,.string h.o]++[U3 (l.getD k hd0).a,I6 (l.getD k hd0).n,.string (l.getD k hd0).o]):=by
 obtain⟨o,h1,h2,_,h3⟩:=w;obtain⟨e1,e2⟩:=h3 rfl;refine⟨o++[h]++[l.getD k hd0],by simp[h1],by rw[fJ,fJ,h2],fun _=>?_,fun q=>(by cases q)⟩
 rw[e2,lz l k hk,e1];simp only[aW]
 rw[if_pos hn];simp
theorem BL{l:List Hd}{h:Hd}{m:Nat}{l5:List Value}(w:eC l h l.length true m l5):m=(aW l h).length/\l5=(aW l h).flatMap ak:=by
 obtain⟨o,h1,h2,h3,_⟩:=w;have:=h3 rfl
 simp at this;rw[this];exact⟨h1,h2⟩
theorem xN{l:List Hd}{h:Hd}{m:Nat}{l5:List Value}(w:eC l h l.length false m l5):m+1=(aW l h).length/\l5++[U3 h.a,I6 h.n,.string h.o]=(aW l h).flatMap ak:=by
 obtain⟨o,h1,h2,_,h3⟩:=w;obtain⟨e1,e2⟩:=h3 rfl;simp[aW] at e1 e2
 rw[e2,fJ,h1,h2,e1];simp
theorem fT(l:List Hd)(h:Hd)(v:Value)(w:World)(ha:ad h.a)(hA:∀ x,x∈l->cP x)(hr:Rd 3 ak hd0 w v l)(hn:l.length<=1000000):Calls prog 226 #[v,.agg #[U3 h.a,I6 h.n,.string h.o]] w fun e w'=>∃ v',e=.returned v'/\w'.ownsRow (w.heap.size+1) 282 3 v' (aW l h).length ((aW l h).flatMap ak)/\Bl w w':=by
 obtain⟨b,cap,rfl,h1,h2,h3⟩:=hr;have hrow:Hid (∀ W,Bl w W->∀ j,j<l.length->∃ g,b=some (At g 0)/\W.cell? (At g (j*3))=some (U3 (l.getD j hd0).a)/\W.cell? (At g (j*3+1))=some (I6 (l.getD j hd0).n)/\W.cell? (At g (j*3+2))=some (.string (l.getD j hd0).o)):=fun W hW j hj=>by
  obtain⟨g,hg,hlt,hc⟩:=h3 (by intro e;rw[e] at hj;simp at hj)
  have hc:=hc j hj;exact⟨g,hg,(hW.cell (p:=At g (j*3)) hlt).trans (hc 0 _ rfl),(hW.cell (p:=At g (j*3+1)) hlt).trans (hc 1 _ rfl),(hW.cell (p:=At g (j*3+2)) hlt).trans (hc 2 _ rfl)⟩
 obtain⟨i0,hi0,hz0,hz1,hz2⟩:=info_parts qg;have hgl:Hid (∀ j,j<l.length->∀ g,b=some (At g 0)->g<w.heap.size):=fun j hj g' e=>by obtain⟨g,hg,hlt,_⟩:=h3 (by intro e;rw[e] at hj;simp at hj);rw[hg] at e;cases e;exact hlt
 have HA:Hid (∀ x,x∈l->cP x):=hA
 obtain⟨a0,a1⟩:=ha;have e1:IntKind.i64.wrap h.a=h.a:=bf _ a0 a1
 clear h1 h2 h3 hA;go_enter func226,ntmps226
 go_wp2;have BX:Hid (Blk (w.alloc (.cells #[U3 h.a,I6 h.n,.string h.o] 282)) w.heap.size #[U3 h.a,I6 h.n,.string h.o] 282):=Blk.new _ _ _
 go_loopw [5,6,7] (fun o t i wr=>∃ (k m:Nat) (tb:Bool) (b3:Option Addr) (c3:Nat) (l5:List Value),k<=l.length/\m<=k+1/\(tb=false->m<=k)/\o=.slice b3 m c3/\t=.bool tb/\i=I6 k/\Hid (Below (w.heap.size+1) (w.alloc (.cells #[U3 h.a,I6 h.n,.string h.o] 282)) wr)/\Hid (wr.ownsRow (w.heap.size+1) 282 3 (.slice b3 m c3) m l5)/\Hid (eC l h k tb m l5)) (fun _ _ i _=>l.length-(intOf i).toNat)
 case atStart=>exact⟨0,0,false,none,0,[],by omega,by omega,fun _=>by omega,rfl,rfl,rfl,(show Below _ _ _ from Below.refl _ _),⟨rfl,.inl ⟨rfl,rfl⟩⟩,⟨[],rfl,rfl,fun q=>(by cases q),fun _=>⟨by simp,by simp⟩⟩⟩
 case round =>
  obtain⟨k,m,tb,b3,c3,l5,hk,hm,hmk,rfl,rfl,rfl,HB,HO,HW⟩:=hrel;have zw:w.heap.size+1<=wr.heap.size:=by have:=HB.o.size;simp at this;omega
  have HB2:Hid (Bl w wr):=bup (W:=(w.alloc (.cells #[U3 h.a,I6 h.n,.string h.o] 282))) upB (HB.o.mono sM)
  have bx:Blk wr w.heap.size #[U3 h.a,I6 h.n,.string h.o] 282:=(HB.o.block _ om).trans BX.o
  have x0:wr.cell? (Nw w 0)=some (U3 h.a):=bx.cell 0
  have x1:wr.cell? (Nw w 1)=some (I6 h.n):=bx.cell 1
  have x2:wr.cell? (Nw w 2)=some (.string h.o):=bx.cell 2
  have HO2:Hid (∀ wz,Bl wr wz->wz.ownsRow (w.heap.size+1) 282 3 (.slice b3 m c3) m l5):=fun wz hz=>av HO.o hz
  have HOB:Hid (∀ x,(Value.slice b3 m c3).ownBlock=some x->w.heap.size+1<=x):=bc HO.o
  clear bx BX;by_cases hlt:k<l.length
  ·obtain⟨g,rfl,r0,r1,r2⟩:=hrow.o wr HB2.o k hlt;have HGN:Hid ((Value.slice b3 m c3).ownBlock≠some g):=fun e=>by have h5:=HOB.o g e;have h6:=hgl.o k hlt g rfl;omega
   have HK:Hid (cP (l.getD k hd0)):=HA.o _ (aJ l hd0 k hlt)
   have hltz:(k:Int)<(l.length:Int):=by omega
   cases tb with
   | true =>
    have HN:Hid (eC l h (k+1) true (m+1) (l5++[U3 (l.getD k hd0).a,I6 (l.getD k hd0).n,.string (l.getD k hd0).o])):=DT hlt HW.o
    generalize l.getD k hd0=y at r0 r1 r2 HN HK
    clear hrow HO HA HW;go_wp2;go_quiet (fail)
    all_goals (
     go_wp2_with (at_builtin;refine wpList_append_lies _ rfl _ _ 171 rfl (w.heap.size+1) 282 i0 _ 3 32 underlying171 hi0 hz0 hz1 hz2 rfl dE (.slice b3 m c3) m l5 rfl (HO2.o _ upB) (Nw wr 0) 1 1 [U3 y.a,I6 y.n,.string y.o] rfl rfl (fun j u hj=>by rw[Addr.add_lit,Nat.zero_add];match j,hj with|0,hj=>simp at hj;rw[<- hj];(first|(simp[go_sem];done)|exact(Blk.new _ _ _).cell 0)|1,hj=>simp at hj;rw[<- hj];(first|(simp[go_sem];done)|exact(Blk.new _ _ _).cell 1)|2,hj=>simp at hj;rw[<- hj];(first|(simp[go_sem];done)|exact(Blk.new _ _ _).cell 2)|j+3,hj=>simp at hj) (by intro u hu;simp at hu;rcases hu with rfl|rfl|rfl<;>rfl) om (by unfold maxLen;omega) om (by simp;omega) _ rfl ?_;intro g3 cap3 w3 hownw3 hgroww3 hatw3 hltw3)
     go_roundw
     case rel =>
      have hb3:Below (w.heap.size+1) (w.alloc (.cells #[U3 h.a,I6 h.n,.string h.o] 282)) w3:=bu (by have hh:=HB.o;exact upB) hgroww3 HOB.o (by simp;omega)
      have hO3:Hid (w3.ownsRow (w.heap.size+1) 282 3 (Sq g3 (m+1) cap3) (m+1) (l5++[U3 y.a,I6 y.n,.string y.o])):=hownw3
      exact⟨k+1,m+1,true,_,cap3,_,by omega,by omega,fun q=>(by cases q),rfl,rfl,by go_num,hb3,hO3,HN.o⟩
     case measure=>simp[intOf];omega)
   | false =>
    replace hmk:=hmk rfl
    by_cases hc:h.a<(l.getD k hd0).a
    ·have HN:Hid (eC l h (k+1) true (m+1+1) (l5++[U3 h.a,I6 h.n,.string h.o]++[U3 (l.getD k hd0).a,I6 (l.getD k hd0).n,.string (l.getD k hd0).o])):=BO hlt hc HW.o
     generalize l.getD k hd0=y at r0 r1 r2 HN HK hc
     have e2:IntKind.i64.wrap y.a=y.a:=bf _ HK.o.1.1 HK.o.1.2
     have HS:Hid (∀ w3,(wr.drew.alloc (.cells #[U3 h.a,I6 h.n,.string h.o] 282)).grownBy w3 (Value.slice b3 m c3).ownBlock->wr.heap.size+1<=w3.heap.size/\w3.cell? (At g (k*3))=some (U3 y.a)/\w3.cell? (At g (k*3+1))=some (I6 y.n)/\w3.cell? (At g (k*3+2))=some (.string y.o)):=fun w3 hg=>by
      have hgw:g<wr.heap.size:=block_lt_of_cell r0
      have hne:some g≠(Value.slice b3 m c3).ownBlock:=fun e=>HGN.o (e.symm)
      have hz:=hg.size;refine⟨by simpa using hz,?_,?_,?_⟩
      ·rw[hg.cell_far (At g (k*3)) (by simp;omega) hne];simp[go_sem,r0,hgw]
      ·rw[hg.cell_far (At g (k*3+1)) (by simp;omega) hne];simp[go_sem,r1,hgw]
      ·rw[hg.cell_far (At g (k*3+2)) (by simp;omega) hne];simp[go_sem,r2,hgw]
     clear hrow HO HA HW;go_wp2;go_region_held3 (fun w'=>w'.cell? (At g (k*3))=some (U3 y.a)/\w'.cell? (Nw w 0)=some (U3 h.a)) (go_keep) (fail)
     all_goals (
      go_wp2_with (first
       | (at_builtin;refine wpList_append_lies _ rfl _ _ 171 rfl (w.heap.size+1) 282 i0 _ 3 32 underlying171 hi0 hz0 hz1 hz2 rfl dE (Sq g3 (m+1) cap3) (m+1) (l5++[U3 h.a,I6 h.n,.string h.o]) rfl (HO3.o _ upB) (Nw w3 0) 1 1 [U3 y.a,I6 y.n,.string y.o] rfl rfl (fun j u hj=>by rw[Addr.add_lit,Nat.zero_add];match j,hj with|0,hj=>simp at hj;rw[<- hj];(first|(simp[go_sem];done)|exact(Blk.new _ _ _).cell 0)|1,hj=>simp at hj;rw[<- hj];(first|(simp[go_sem];done)|exact(Blk.new _ _ _).cell 1)|2,hj=>simp at hj;rw[<- hj];(first|(simp[go_sem];done)|exact(Blk.new _ _ _).cell 2)|j+3,hj=>simp at hj) (by intro u hu;simp at hu;rcases hu with rfl|rfl|rfl<;>rfl) om (by unfold maxLen;omega) om (by simp;omega) _ rfl ?_;intro g4 cap4 w4 hownw4 hgroww4 hatw4 hltw4)
       | (at_builtin;refine wpList_append_lies _ rfl _ _ 171 rfl (w.heap.size+1) 282 i0 _ 3 32 underlying171 hi0 hz0 hz1 hz2 rfl dE (.slice b3 m c3) m l5 rfl (HO2.o _ upB) (Nw wr 0) 1 1 [U3 h.a,I6 h.n,.string h.o] rfl rfl (fun j u hj=>by rw[Addr.add_lit,Nat.zero_add];match j,hj with|0,hj=>simp at hj;rw[<- hj];(first|(simp[go_sem];done)|exact(Blk.new _ _ _).cell 0)|1,hj=>simp at hj;rw[<- hj];(first|(simp[go_sem];done)|exact(Blk.new _ _ _).cell 1)|2,hj=>simp at hj;rw[<- hj];(first|(simp[go_sem];done)|exact(Blk.new _ _ _).cell 2)|j+3,hj=>simp at hj) (by intro u hu;simp at hu;rcases hu with rfl|rfl|rfl<;>rfl) om (by unfold maxLen;omega) om (by simp;omega) _ rfl ?_;intro g3 cap3 w3 hownw3 hgroww3 hatw3 hltw3;have HG:Hid (Below (w.heap.size+1) (w.alloc (.cells #[U3 h.a,I6 h.n,.string h.o] 282)) w3):=bu (by have hh:=HB.o;exact upB) hgroww3 HOB.o (by simp;omega);have HO3:Hid (∀ wz,Bl w3 wz->wz.ownsRow (w.heap.size+1) 282 3 (Sq g3 (m+1) cap3) (m+1) (l5++[U3 h.a,I6 h.n,.string h.o])):=fun wz hz=>av hownw3 hz;have HOC:Hid (∀ x,(Value.slice (some (At g3 0)) (m+1) cap3).ownBlock=some x->w.heap.size+1<=x):=bc hownw3;obtain⟨z3,s0,s1,s2⟩:=HS.o w3 hgroww3;clear hownw3 hgroww3 hatw3 hltw3))
      go_roundw
      case rel =>
       have hb4:Below (w.heap.size+1) (w.alloc (.cells #[U3 h.a,I6 h.n,.string h.o] 282)) w4:=bu (by have hh:=HG.o;exact upB) hgroww4 HOC.o (by simp;omega)
       have hO4:Hid (w4.ownsRow (w.heap.size+1) 282 3 (Sq g4 (m+1+1) cap4) (m+1+1) (l5++[U3 h.a,I6 h.n,.string h.o]++[U3 y.a,I6 y.n,.string y.o])):=hownw4
       exact⟨k+1,m+1+1,true,_,cap4,_,by omega,by have:=hmk;omega,fun q=>(by cases q),rfl,rfl,by go_num,hb4,hO4,HN.o⟩
      case measure=>simp[intOf];omega)
    ·have HN:Hid (eC l h (k+1) false (m+1) (l5++[U3 (l.getD k hd0).a,I6 (l.getD k hd0).n,.string (l.getD k hd0).o])):=BM hlt hc HW.o
     generalize l.getD k hd0=y at r0 r1 r2 HN HK hc
     have e2:IntKind.i64.wrap y.a=y.a:=bf _ HK.o.1.1 HK.o.1.2
     clear hrow HO HA HW;go_wp2;go_region_held3 (fun w'=>w'.cell? (At g (k*3))=some (U3 y.a)/\w'.cell? (Nw w 0)=some (U3 h.a)) (go_keep) (fail)
     all_goals (
      go_wp2_with (at_builtin;refine wpList_append_lies _ rfl _ _ 171 rfl (w.heap.size+1) 282 i0 _ 3 32 underlying171 hi0 hz0 hz1 hz2 rfl dE (.slice b3 m c3) m l5 rfl (HO2.o _ upB) (Nw wr 0) 1 1 [U3 y.a,I6 y.n,.string y.o] rfl rfl (fun j u hj=>by rw[Addr.add_lit,Nat.zero_add];match j,hj with|0,hj=>simp at hj;rw[<- hj];(first|(simp[go_sem];done)|exact(Blk.new _ _ _).cell 0)|1,hj=>simp at hj;rw[<- hj];(first|(simp[go_sem];done)|exact(Blk.new _ _ _).cell 1)|2,hj=>simp at hj;rw[<- hj];(first|(simp[go_sem];done)|exact(Blk.new _ _ _).cell 2)|j+3,hj=>simp at hj) (by intro u hu;simp at hu;rcases hu with rfl|rfl|rfl<;>rfl) om (by unfold maxLen;omega) om (by simp;omega) _ rfl ?_;intro g3 cap3 w3 hownw3 hgroww3 hatw3 hltw3)
      go_roundw
      case rel =>
       have hb3:Below (w.heap.size+1) (w.alloc (.cells #[U3 h.a,I6 h.n,.string h.o] 282)) w3:=bu (by have hh:=HB.o;exact upB) hgroww3 HOB.o (by simp;omega)
       have hO3:Hid (w3.ownsRow (w.heap.size+1) 282 3 (Sq g3 (m+1) cap3) (m+1) (l5++[U3 y.a,I6 y.n,.string y.o])):=hownw3
       exact⟨k+1,m+1,false,_,cap3,_,by omega,by omega,fun _=>by omega,rfl,rfl,by go_num,hb3,hO3,HN.o⟩
      case measure=>simp[intOf];omega)
  ·obtain rfl:k=l.length:=by omega
   cases tb with
   | true =>
    have HN:=BL HW.o;clear hrow HA;go_wp2;go_ret;exact⟨_,rfl,by rw[<- HN.1,<- HN.2];exact HO.o,HB2.o⟩
   | false =>
    have HN:Hid (_/\_):=xN HW.o
    clear hrow HA HO HW;go_wp2_with (at_builtin;refine wpList_append_lies _ rfl _ _ 171 rfl (w.heap.size+1) 282 i0 _ 3 32 underlying171 hi0 hz0 hz1 hz2 rfl dE (.slice b3 m c3) m l5 rfl (HO2.o _ upB) (Nw wr 0) 1 1 [U3 h.a,I6 h.n,.string h.o] rfl rfl (fun j u hj=>by rw[Addr.add_lit,Nat.zero_add];match j,hj with|0,hj=>simp at hj;rw[<- hj];(first|(simp[go_sem];done)|exact(Blk.new _ _ _).cell 0)|1,hj=>simp at hj;rw[<- hj];(first|(simp[go_sem];done)|exact(Blk.new _ _ _).cell 1)|2,hj=>simp at hj;rw[<- hj];(first|(simp[go_sem];done)|exact(Blk.new _ _ _).cell 2)|j+3,hj=>simp at hj) (by intro u hu;simp at hu;rcases hu with rfl|rfl|rfl<;>rfl) om (by unfold maxLen;omega) om (by simp;omega) _ rfl ?_;intro g3 cap3 w3 hownw3 hgroww3 hatw3 hltw3)
    go_ret;have hb3:Below (w.heap.size+1) (w.alloc (.cells #[U3 h.a,I6 h.n,.string h.o] 282)) w3:=bu (by have hh:=HB.o;exact upB) hgroww3 HOB.o (by simp;omega)
    exact⟨_,rfl,by rw[<- HN.o.1,<- HN.o.2];exact hownw3,bup (W:=(w.alloc (.cells #[U3 h.a,I6 h.n,.string h.o] 282))) upB (hb3.mono sM)⟩
end Go.Proofs.YtjnhhnbgjjkkjaaGreatDoor
