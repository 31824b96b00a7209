/-
  RfC, RfD, BkY, BkAns, BkZ, BkMa, BkMe
-/
import Derived.Test.YtjnhhnbgjjkkjaaGreatDoorRepliesPAJ
set_option linter.unusedVariables false
set_option linter.unusedSimpArgs false
set_option maxRecDepth 100000
set_option maxHeartbeats 2000000
namespace Go.Proofs.YtjnhhnbgjjkkjaaGreatDoor
section
open Go.ChangeShapes Go.WideShapes Go.ChangeAt Go.RowKit Go.Proofs.Tryz
def aT:List Hd->Hd->List Hd
 | [],h=>[h]
 | x::r,h=>if h.a<x.a then h::x::r else x::aT r h
theorem qu:(prog.info? 282).map (fun i=>(i.zero,i.size,i.bytes))=some (some (.agg #[.int .u32 0,.int .i64 0,.string ByteArray.empty]),3,32):=by kernel_rfl
theorem fG(l:List Hd)(y:Hd):(l++[y]).flatMap ak=l.flatMap ak++[.int .u32 y.a,.int .i64 y.n,.string y.o]:=by simp[ak]
theorem eN(l:List Hd)(k:Nat)(hk:k<l.length):l.take (k+1)=l.take k++[l.getD k hd0]:=by
 rw[List.take_succ_eq_append_getElem hk,List.getD_eq_getElem?_getD,List.getElem?_eq_getElem hk];rfl
theorem DX(l:List Hd)(k:Nat)(hk:k<l.length):az (l.take (k+1)) k=az (l.take k) k:=by
 unfold az;rw[List.take_take,List.take_take,List.drop_of_length_le (by simp;omega),List.drop_of_length_le (by simp;omega)]
 simp
theorem Dm(l:List Hd)(i k:Nat)(hi:i<l.length)(h:i≠k):az (l.take (i+1)) k=az (l.take i) k++[l.getD i hd0]:=by
 unfold az;rw[eN l i hi];rcases Nat.lt_or_ge i k with q|q
 ·have e1:(l.take i++[l.getD i hd0]).take k=l.take i++[l.getD i hd0]:=List.take_of_length_le (by simp;omega)
  have e2:(l.take i++[l.getD i hd0]).drop (k+1)=[]:=List.drop_of_length_le (by simp;omega)
  have e3:(l.take i).take k=l.take i:=List.take_of_length_le (by simp;omega)
  have e4:(l.take i).drop (k+1)=[]:=List.drop_of_length_le (by simp;omega)
  rw[e1,e2,e3,e4];simp
 ·rw[List.take_append_of_le_length (by simp;omega),List.drop_append_of_le_length (by simp;omega),List.append_assoc]
theorem f7(l:List Hd)(q:Nat)(v:Value)(w:World)(hr:Rd 3 ak hd0 w v l)(hn:l.length<=1000000)(hq:q<=1000000):Calls prog 228 #[v,.int .i64 q] w fun e w'=>∃ v',e=.returned v'/\w'.ownsRow w.heap.size 282 3 v' (az l q).length ((az l q).flatMap ak)/\Bl w w':=by
 obtain⟨b,cap,rfl,h1,h2,h3⟩:=hr;have hrow:Hid (∀ W,Bl w W->∀ j,j<l.length->∃ g,b=some (At g 0)/\W.cell? (At g (j*3))=some (.int .u32 (l.getD j hd0).a)/\W.cell? (At g (j*3+1))=some (.int .i64 (l.getD j hd0).n)/\W.cell? (At g (j*3+2))=some (.string (l.getD j hd0).o)):=fun W hW j hj=>by
  obtain⟨g,hg,hlt,hc⟩:=h3 (by intro e;rw[e] at hj;simp at hj)
  have hc:=hc j hj;exact⟨g,hg,(hW.cell (p:=At g (j*3)) hlt).trans (hc 0 _ rfl),(hW.cell (p:=At g (j*3+1)) hlt).trans (hc 1 _ rfl),(hW.cell (p:=At g (j*3+2)) hlt).trans (hc 2 _ rfl)⟩
 obtain⟨i0,hi0,hz0,hz1,hz2⟩:=info_parts qu;clear h1 h2 h3;go_enter func228,ntmps228
 go_wp2;go_loopw [5,6] (fun o i wr=>∃ (k m:Nat) (b3:Option Addr) (c3:Nat) (l5:List Value),k<=l.length/\m<=k/\o=.slice b3 m c3/\i=.int .i64 k/\Hid (Bl w wr)/\Hid (wr.ownsRow w.heap.size 282 3 (.slice b3 m c3) m l5)/\Hid (m=(az (l.take k) q).length/\l5=(az (l.take k) q).flatMap ak)) (fun _ i _=>l.length-(intOf i).toNat)
 case atStart=>exact⟨0,0,none,0,[],by omega,by omega,rfl,rfl,(show Below _ _ _ from upB),⟨rfl,.inl ⟨rfl,rfl⟩⟩,by constructor<;>simp[az]⟩
 case round =>
  obtain⟨k,m,b3,c3,l5,hk,hm,rfl,rfl,HB,HO,HE⟩:=hrel;have zw:=HB.o.size;by_cases hlt:k<l.length
  ·obtain⟨g,rfl,r0,r1,r2⟩:=hrow.o wr HB.o k hlt;by_cases hkq:k=q
   ·have e1:((k:Int)==(q:Int))=true:=by simp[hkq]
    have HD:=DX l k hlt;clear hrow;go_wp2;go_roundw
    case rel=>exact⟨k+1,m,b3,c3,l5,by omega,by omega,rfl,by go_num,HB.o,HO.o,by subst hkq;rw[HD];exact HE.o⟩
    case measure=>simp[intOf];omega
   ·have e1:((k:Int)==(q:Int))=false:=beq_eq_false_iff_ne.2 om
    have HD:Hid (az (l.take (k+1)) q=az (l.take k) q++[l.getD k hd0]):=Dm l k q hlt hkq
    have HO2:Hid (∀ wz,Bl wr wz->wz.ownsRow w.heap.size 282 3 (.slice b3 m c3) m l5):=fun wz hz=>au HO.o hz
    have HOB:Hid (∀ x,(Value.slice b3 m c3).ownBlock=some x->w.heap.size<=x):=bc HO.o
    generalize l.getD k hd0=y at r0 r1 r2 HD
    have hltz:(k:Int)<(l.length:Int):=by omega
    clear hrow HO;go_wp2_with (at_builtin;refine wpList_append_lies _ rfl _ _ 171 rfl w.heap.size 282 i0 _ 3 32 underlying171 hi0 hz0 hz1 hz2 rfl (by decide) (.slice b3 m c3) m l5 rfl (HO2.o _ upB) (At wr.heap.size 0) 1 1 [.int .u32 y.a,.int .i64 y.n,.string y.o] rfl rfl (fun j u hj=>by rw[Addr.add_lit,Nat.zero_add];match j,hj with|0,hj=>simp at hj;rw[<- hj];simp[go_sem]|1,hj=>simp at hj;rw[<- hj];simp[go_sem]|2,hj=>simp at hj;rw[<- hj];simp[go_sem]|j+3,hj=>simp at hj) (by intro u hu;simp at hu;rcases hu with rfl|rfl|rfl<;>rfl) om (by unfold maxLen;omega) om (by simp;omega) _ rfl ?_;intro g3 cap3 w3 hown3 hgrow3 hat3 hlt3)
    go_roundw
    case rel =>
     have hb3:Bl w w3:=bi (HB.o.alloc zw _) hgrow3 HOB.o (by simp;omega)
     have hO3:Hid (w3.ownsRow w.heap.size 282 3 (.slice (some (At g3 0)) (m+1) cap3) (m+1) (l5++[.int .u32 y.a,.int .i64 y.n,.string y.o])):=hown3
     refine⟨k+1,m+1,_,cap3,l5++[.int .u32 y.a,.int .i64 y.n,.string y.o],by omega,by omega,rfl,by go_num,hb3,hO3,?_⟩
     show m+1=_/\_
     rw[HD.o,fG,<- HE.o.2,List.length_append,<- HE.o.1];exact⟨rfl,rfl⟩
    case measure=>simp[intOf];omega
  ·obtain rfl:k=l.length:=by omega
   clear hrow;go_wp2;go_ret;have e:=HE.o;rw[List.take_length] at e;exact⟨_,rfl,by rw[<- e.1,<- e.2];exact HO.o,HB.o⟩
theorem kU(l:List Hd)(k:Nat)(hk:k<l.length):l.drop k=l.getD k hd0::l.drop (k+1):=by
 rw[List.drop_eq_getElem_cons hk,List.getD_eq_getElem?_getD,List.getElem?_eq_getElem hk];rfl
def em(l:List Hd)(h:Hd)(k:Nat)(t:Bool)(m:Nat)(l5:List Value):Prop:=∃ o:List Hd,m=o.length/\l5=o.flatMap ak/\(t=true->aT l h=o++l.drop k)/\(t=false->o=l.take k/\aT l h=l.take k++aT (l.drop k) h)
theorem Dc{l:List Hd}{h:Hd}{k m:Nat}{l5:List Value}(hk:k<l.length)(w:em l h k true m l5):em l h (k+1) true (m+1) (l5++[.int .u32 (l.getD k hd0).a,.int .i64 (l.getD k hd0).n,.string (l.getD k hd0).o]):=by
 obtain⟨o,h1,h2,h3,_⟩:=w;refine⟨o++[l.getD k hd0],by simp[h1],by rw[fG,h2],fun _=>?_,fun q=>(by cases q)⟩
 rw[h3 rfl,kU l k hk];simp
theorem Ad{l:List Hd}{h:Hd}{k m:Nat}{l5:List Value}(hk:k<l.length)(hn:¬h.a<(l.getD k hd0).a)(w:em l h k false m l5):em l h (k+1) false (m+1) (l5++[.int .u32 (l.getD k hd0).a,.int .i64 (l.getD k hd0).n,.string (l.getD k hd0).o]):=by
 obtain⟨o,h1,h2,_,h3⟩:=w;obtain⟨e1,e2⟩:=h3 rfl;refine⟨o++[l.getD k hd0],by simp[h1],by rw[fG,h2],fun q=>(by cases q),fun _=>⟨by rw[eN l k hk,e1],?_⟩⟩
 rw[e2,kU l k hk,eN l k hk];simp only[aT]
 rw[if_neg hn];simp
theorem yk{l:List Hd}{h:Hd}{k m:Nat}{l5:List Value}(hk:k<l.length)(hn:h.a<(l.getD k hd0).a)(w:em l h k false m l5):em l h (k+1) true (m+1+1) (l5++[.int .u32 h.a,.int .i64 h.n,.string h.o]++[.int .u32 (l.getD k hd0).a,.int .i64 (l.getD k hd0).n,.string (l.getD k hd0).o]):=by
 obtain⟨o,h1,h2,_,h3⟩:=w;obtain⟨e1,e2⟩:=h3 rfl;refine⟨o++[h]++[l.getD k hd0],by simp[h1],by rw[fG,fG,h2],fun _=>?_,fun q=>(by cases q)⟩
 rw[e2,kU l k hk,e1];simp only[aT]
 rw[if_pos hn];simp
theorem Az{l:List Hd}{h:Hd}{m:Nat}{l5:List Value}(w:em l h l.length true m l5):m=(aT l h).length/\l5=(aT l h).flatMap ak:=by
 obtain⟨o,h1,h2,h3,_⟩:=w;have:=h3 rfl
 simp at this;rw[this];exact⟨h1,h2⟩
theorem wE{l:List Hd}{h:Hd}{m:Nat}{l5:List Value}(w:em l h l.length false m l5):m+1=(aT l h).length/\l5++[.int .u32 h.a,.int .i64 h.n,.string h.o]=(aT l h).flatMap ak:=by
 obtain⟨o,h1,h2,_,h3⟩:=w;obtain⟨e1,e2⟩:=h3 rfl;simp[aT] at e1 e2
 rw[e2,fG,h1,h2,e1];simp
theorem fN(l:List Hd)(h:Hd)(v:Value)(w:World)(ha:ad h.a)(hA:∀ x,x∈l->cM x)(hr:Rd 3 ak hd0 w v l)(hn:l.length<=1000000):Calls prog 226 #[v,.agg #[.int .u32 h.a,.int .i64 h.n,.string h.o]] w fun e w'=>∃ v',e=.returned v'/\w'.ownsRow (w.heap.size+1) 282 3 v' (aT l h).length ((aT l h).flatMap ak)/\Bl w w':=by
 obtain⟨b,cap,rfl,h1,h2,h3⟩:=hr;have hrow:Hid (∀ W,Bl w W->∀ j,j<l.length->∃ g,b=some (At g 0)/\W.cell? (At g (j*3))=some (.int .u32 (l.getD j hd0).a)/\W.cell? (At g (j*3+1))=some (.int .i64 (l.getD j hd0).n)/\W.cell? (At g (j*3+2))=some (.string (l.getD j hd0).o)):=fun W hW j hj=>by
  obtain⟨g,hg,hlt,hc⟩:=h3 (by intro e;rw[e] at hj;simp at hj)
  have hc:=hc j hj;exact⟨g,hg,(hW.cell (p:=At g (j*3)) hlt).trans (hc 0 _ rfl),(hW.cell (p:=At g (j*3+1)) hlt).trans (hc 1 _ rfl),(hW.cell (p:=At g (j*3+2)) hlt).trans (hc 2 _ rfl)⟩
 obtain⟨i0,hi0,hz0,hz1,hz2⟩:=info_parts qu;have hgl:Hid (∀ j,j<l.length->∀ g,b=some (At g 0)->g<w.heap.size):=fun j hj g' e=>by obtain⟨g,hg,hlt,_⟩:=h3 (by intro e;rw[e] at hj;simp at hj);rw[hg] at e;cases e;exact hlt
 have HA:Hid (∀ x,x∈l->cM x):=hA
 obtain⟨a0,a1⟩:=ha;have e1:IntKind.i64.wrap h.a=h.a:=bd _ a0 a1
 clear h1 h2 h3 hA;go_enter func226,ntmps226
 go_wp2;have BX:Hid (Blk (w.alloc (.cells #[.int .u32 h.a,.int .i64 h.n,.string h.o] 282)) w.heap.size #[.int .u32 h.a,.int .i64 h.n,.string h.o] 282):=Blk.new _ _ _
 go_loopw [5,6,7] (fun o t i wr=>∃ (k m:Nat) (tb:Bool) (b3:Option Addr) (c3:Nat) (l5:List Value),k<=l.length/\m<=k+1/\(tb=false->m<=k)/\o=.slice b3 m c3/\t=.bool tb/\i=.int .i64 k/\Hid (Below (w.heap.size+1) (w.alloc (.cells #[.int .u32 h.a,.int .i64 h.n,.string h.o] 282)) wr)/\Hid (wr.ownsRow (w.heap.size+1) 282 3 (.slice b3 m c3) m l5)/\Hid (em l h k tb m l5)) (fun _ _ i _=>l.length-(intOf i).toNat)
 case atStart=>exact⟨0,0,false,none,0,[],by omega,by omega,fun _=>by omega,rfl,rfl,rfl,(show Below _ _ _ from Below.refl _ _),⟨rfl,.inl ⟨rfl,rfl⟩⟩,⟨[],rfl,rfl,fun q=>(by cases q),fun _=>⟨by simp,by simp⟩⟩⟩
 case round =>
  obtain⟨k,m,tb,b3,c3,l5,hk,hm,hmk,rfl,rfl,rfl,HB,HO,HW⟩:=hrel;have zw:w.heap.size+1<=wr.heap.size:=by have:=HB.o.size;simp at this;omega
  have HB2:Hid (Bl w wr):=bup (W:=(w.alloc (.cells #[.int .u32 h.a,.int .i64 h.n,.string h.o] 282))) upB (HB.o.mono (by simp))
  have bx:Blk wr w.heap.size #[.int .u32 h.a,.int .i64 h.n,.string h.o] 282:=(HB.o.block _ om).trans BX.o
  have x0:wr.cell? (At w.heap.size 0)=some (.int .u32 h.a):=bx.cell 0
  have x1:wr.cell? (At w.heap.size 1)=some (.int .i64 h.n):=bx.cell 1
  have x2:wr.cell? (At w.heap.size 2)=some (.string h.o):=bx.cell 2
  have HO2:Hid (∀ wz,Bl wr wz->wz.ownsRow (w.heap.size+1) 282 3 (.slice b3 m c3) m l5):=fun wz hz=>au HO.o hz
  have HOB:Hid (∀ x,(Value.slice b3 m c3).ownBlock=some x->w.heap.size+1<=x):=bc HO.o
  clear bx BX;by_cases hlt:k<l.length
  ·obtain⟨g,rfl,r0,r1,r2⟩:=hrow.o wr HB2.o k hlt;have HGN:Hid ((Value.slice b3 m c3).ownBlock≠some g):=fun e=>by have h5:=HOB.o g e;have h6:=hgl.o k hlt g rfl;omega
   have HK:Hid (cM (l.getD k hd0)):=HA.o _ (aI l hd0 k hlt)
   have hltz:(k:Int)<(l.length:Int):=by omega
   cases tb with
   | true =>
    have HN:Hid (em l h (k+1) true (m+1) (l5++[.int .u32 (l.getD k hd0).a,.int .i64 (l.getD k hd0).n,.string (l.getD k hd0).o])):=Dc hlt HW.o
    generalize l.getD k hd0=y at r0 r1 r2 HN HK
    clear hrow HO HA HW;go_wp2;go_quiet (fail)
    all_goals (
     go_wp2_with (at_builtin;refine wpList_append_lies _ rfl _ _ 171 rfl (w.heap.size+1) 282 i0 _ 3 32 underlying171 hi0 hz0 hz1 hz2 rfl (by decide) (.slice b3 m c3) m l5 rfl (HO2.o _ upB) (At wr.heap.size 0) 1 1 [.int .u32 y.a,.int .i64 y.n,.string y.o] rfl rfl (fun j u hj=>by rw[Addr.add_lit,Nat.zero_add];match j,hj with|0,hj=>simp at hj;rw[<- hj];(first|(simp[go_sem];done)|exact(Blk.new _ _ _).cell 0)|1,hj=>simp at hj;rw[<- hj];(first|(simp[go_sem];done)|exact(Blk.new _ _ _).cell 1)|2,hj=>simp at hj;rw[<- hj];(first|(simp[go_sem];done)|exact(Blk.new _ _ _).cell 2)|j+3,hj=>simp at hj) (by intro u hu;simp at hu;rcases hu with rfl|rfl|rfl<;>rfl) om (by unfold maxLen;omega) om (by simp;omega) _ rfl ?_;intro g3 cap3 w3 hownw3 hgroww3 hatw3 hltw3)
     go_roundw
     case rel =>
      have hb3:Below (w.heap.size+1) (w.alloc (.cells #[.int .u32 h.a,.int .i64 h.n,.string h.o] 282)) w3:=bi (upH HB) hgroww3 HOB.o (by simp;omega)
      have hO3:Hid (w3.ownsRow (w.heap.size+1) 282 3 (.slice (some (At g3 0)) (m+1) cap3) (m+1) (l5++[.int .u32 y.a,.int .i64 y.n,.string y.o])):=hownw3
      exact⟨k+1,m+1,true,_,cap3,_,by omega,by omega,fun q=>(by cases q),rfl,rfl,by go_num,hb3,hO3,HN.o⟩
     case measure=>simp[intOf];omega)
   | false =>
    replace hmk:=hmk rfl
    by_cases hc:h.a<(l.getD k hd0).a
    ·have HN:Hid (em l h (k+1) true (m+1+1) (l5++[.int .u32 h.a,.int .i64 h.n,.string h.o]++[.int .u32 (l.getD k hd0).a,.int .i64 (l.getD k hd0).n,.string (l.getD k hd0).o])):=yk hlt hc HW.o
     generalize l.getD k hd0=y at r0 r1 r2 HN HK hc
     have e2:IntKind.i64.wrap y.a=y.a:=bd _ HK.o.1.1 HK.o.1.2
     have HS:Hid (∀ w3,(wr.drew.alloc (.cells #[.int .u32 h.a,.int .i64 h.n,.string h.o] 282)).grownBy w3 (Value.slice b3 m c3).ownBlock->wr.heap.size+1<=w3.heap.size/\w3.cell? (At g (k*3))=some (.int .u32 y.a)/\w3.cell? (At g (k*3+1))=some (.int .i64 y.n)/\w3.cell? (At g (k*3+2))=some (.string y.o)):=fun w3 hg=>by
      have hgw:g<wr.heap.size:=block_lt_of_cell r0
      have hne:some g≠(Value.slice b3 m c3).ownBlock:=fun e=>HGN.o (e.symm)
      have hz:=hg.size;refine⟨by simpa using hz,?_,?_,?_⟩
      ·rw[hg.cell_far (At g (k*3)) (by simp;omega) hne];simp[go_sem,r0,hgw]
      ·rw[hg.cell_far (At g (k*3+1)) (by simp;omega) hne];simp[go_sem,r1,hgw]
      ·rw[hg.cell_far (At g (k*3+2)) (by simp;omega) hne];simp[go_sem,r2,hgw]
     clear hrow HO HA HW;go_wp2;go_region_held3 (fun w'=>w'.cell? (At g (k*3))=some (.int .u32 y.a)/\w'.cell? (At w.heap.size 0)=some (.int .u32 h.a)) (go_keep) (fail)
     all_goals (
      go_wp2_with (first
       | (at_builtin;refine wpList_append_lies _ rfl _ _ 171 rfl (w.heap.size+1) 282 i0 _ 3 32 underlying171 hi0 hz0 hz1 hz2 rfl (by decide) (.slice (some (At g3 0)) (m+1) cap3) (m+1) (l5++[.int .u32 h.a,.int .i64 h.n,.string h.o]) rfl (HO3.o _ upB) (At w3.heap.size 0) 1 1 [.int .u32 y.a,.int .i64 y.n,.string y.o] rfl rfl (fun j u hj=>by rw[Addr.add_lit,Nat.zero_add];match j,hj with|0,hj=>simp at hj;rw[<- hj];(first|(simp[go_sem];done)|exact(Blk.new _ _ _).cell 0)|1,hj=>simp at hj;rw[<- hj];(first|(simp[go_sem];done)|exact(Blk.new _ _ _).cell 1)|2,hj=>simp at hj;rw[<- hj];(first|(simp[go_sem];done)|exact(Blk.new _ _ _).cell 2)|j+3,hj=>simp at hj) (by intro u hu;simp at hu;rcases hu with rfl|rfl|rfl<;>rfl) om (by unfold maxLen;omega) om (by simp;omega) _ rfl ?_;intro g4 cap4 w4 hownw4 hgroww4 hatw4 hltw4)
       | (at_builtin;refine wpList_append_lies _ rfl _ _ 171 rfl (w.heap.size+1) 282 i0 _ 3 32 underlying171 hi0 hz0 hz1 hz2 rfl (by decide) (.slice b3 m c3) m l5 rfl (HO2.o _ upB) (At wr.heap.size 0) 1 1 [.int .u32 h.a,.int .i64 h.n,.string h.o] rfl rfl (fun j u hj=>by rw[Addr.add_lit,Nat.zero_add];match j,hj with|0,hj=>simp at hj;rw[<- hj];(first|(simp[go_sem];done)|exact(Blk.new _ _ _).cell 0)|1,hj=>simp at hj;rw[<- hj];(first|(simp[go_sem];done)|exact(Blk.new _ _ _).cell 1)|2,hj=>simp at hj;rw[<- hj];(first|(simp[go_sem];done)|exact(Blk.new _ _ _).cell 2)|j+3,hj=>simp at hj) (by intro u hu;simp at hu;rcases hu with rfl|rfl|rfl<;>rfl) om (by unfold maxLen;omega) om (by simp;omega) _ rfl ?_;intro g3 cap3 w3 hownw3 hgroww3 hatw3 hltw3;have HG:Hid (Below (w.heap.size+1) (w.alloc (.cells #[.int .u32 h.a,.int .i64 h.n,.string h.o] 282)) w3):=bi (upH HB) hgroww3 HOB.o (by simp;omega);have HO3:Hid (∀ wz,Bl w3 wz->wz.ownsRow (w.heap.size+1) 282 3 (.slice (some (At g3 0)) (m+1) cap3) (m+1) (l5++[.int .u32 h.a,.int .i64 h.n,.string h.o])):=fun wz hz=>au hownw3 hz;have HOC:Hid (∀ x,(Value.slice (some (At g3 0)) (m+1) cap3).ownBlock=some x->w.heap.size+1<=x):=bc hownw3;obtain⟨z3,s0,s1,s2⟩:=HS.o w3 hgroww3;clear hownw3 hgroww3 hatw3 hltw3))
      go_roundw
      case rel =>
       have hb4:Below (w.heap.size+1) (w.alloc (.cells #[.int .u32 h.a,.int .i64 h.n,.string h.o] 282)) w4:=bi (by have hh:=HG.o;exact upB) hgroww4 HOC.o (by simp;omega)
       have hO4:Hid (w4.ownsRow (w.heap.size+1) 282 3 (.slice (some (At g4 0)) (m+1+1) cap4) (m+1+1) (l5++[.int .u32 h.a,.int .i64 h.n,.string h.o]++[.int .u32 y.a,.int .i64 y.n,.string y.o])):=hownw4
       exact⟨k+1,m+1+1,true,_,cap4,_,by omega,by have:=hmk;omega,fun q=>(by cases q),rfl,rfl,by go_num,hb4,hO4,HN.o⟩
      case measure=>simp[intOf];omega)
    ·have HN:Hid (em l h (k+1) false (m+1) (l5++[.int .u32 (l.getD k hd0).a,.int .i64 (l.getD k hd0).n,.string (l.getD k hd0).o])):=Ad hlt hc HW.o
     generalize l.getD k hd0=y at r0 r1 r2 HN HK hc
     have e2:IntKind.i64.wrap y.a=y.a:=bd _ HK.o.1.1 HK.o.1.2
     clear hrow HO HA HW;go_wp2;go_region_held3 (fun w'=>w'.cell? (At g (k*3))=some (.int .u32 y.a)/\w'.cell? (At w.heap.size 0)=some (.int .u32 h.a)) (go_keep) (fail)
     all_goals (
      go_wp2_with (at_builtin;refine wpList_append_lies _ rfl _ _ 171 rfl (w.heap.size+1) 282 i0 _ 3 32 underlying171 hi0 hz0 hz1 hz2 rfl (by decide) (.slice b3 m c3) m l5 rfl (HO2.o _ upB) (At wr.heap.size 0) 1 1 [.int .u32 y.a,.int .i64 y.n,.string y.o] rfl rfl (fun j u hj=>by rw[Addr.add_lit,Nat.zero_add];match j,hj with|0,hj=>simp at hj;rw[<- hj];(first|(simp[go_sem];done)|exact(Blk.new _ _ _).cell 0)|1,hj=>simp at hj;rw[<- hj];(first|(simp[go_sem];done)|exact(Blk.new _ _ _).cell 1)|2,hj=>simp at hj;rw[<- hj];(first|(simp[go_sem];done)|exact(Blk.new _ _ _).cell 2)|j+3,hj=>simp at hj) (by intro u hu;simp at hu;rcases hu with rfl|rfl|rfl<;>rfl) om (by unfold maxLen;omega) om (by simp;omega) _ rfl ?_;intro g3 cap3 w3 hownw3 hgroww3 hatw3 hltw3)
      go_roundw
      case rel =>
       have hb3:Below (w.heap.size+1) (w.alloc (.cells #[.int .u32 h.a,.int .i64 h.n,.string h.o] 282)) w3:=bi (upH HB) hgroww3 HOB.o (by simp;omega)
       have hO3:Hid (w3.ownsRow (w.heap.size+1) 282 3 (.slice (some (At g3 0)) (m+1) cap3) (m+1) (l5++[.int .u32 y.a,.int .i64 y.n,.string y.o])):=hownw3
       exact⟨k+1,m+1,false,_,cap3,_,by omega,by omega,fun _=>by omega,rfl,rfl,by go_num,hb3,hO3,HN.o⟩
      case measure=>simp[intOf];omega)
  ·obtain rfl:k=l.length:=by omega
   cases tb with
   | true =>
    have HN:=Az HW.o;clear hrow HA;go_wp2;go_ret;exact⟨_,rfl,by rw[<- HN.1,<- HN.2];exact HO.o,HB2.o⟩
   | false =>
    have HN:Hid (_/\_):=wE HW.o
    clear hrow HA HO HW;go_wp2_with (at_builtin;refine wpList_append_lies _ rfl _ _ 171 rfl (w.heap.size+1) 282 i0 _ 3 32 underlying171 hi0 hz0 hz1 hz2 rfl (by decide) (.slice b3 m c3) m l5 rfl (HO2.o _ upB) (At wr.heap.size 0) 1 1 [.int .u32 h.a,.int .i64 h.n,.string h.o] rfl rfl (fun j u hj=>by rw[Addr.add_lit,Nat.zero_add];match j,hj with|0,hj=>simp at hj;rw[<- hj];(first|(simp[go_sem];done)|exact(Blk.new _ _ _).cell 0)|1,hj=>simp at hj;rw[<- hj];(first|(simp[go_sem];done)|exact(Blk.new _ _ _).cell 1)|2,hj=>simp at hj;rw[<- hj];(first|(simp[go_sem];done)|exact(Blk.new _ _ _).cell 2)|j+3,hj=>simp at hj) (by intro u hu;simp at hu;rcases hu with rfl|rfl|rfl<;>rfl) om (by unfold maxLen;omega) om (by simp;omega) _ rfl ?_;intro g3 cap3 w3 hownw3 hgroww3 hatw3 hltw3)
    go_ret;have hb3:Below (w.heap.size+1) (w.alloc (.cells #[.int .u32 h.a,.int .i64 h.n,.string h.o] 282)) w3:=bi (upH HB) hgroww3 HOB.o (by simp;omega)
    exact⟨_,rfl,by rw[<- HN.o.1,<- HN.o.2];exact hownw3,bup (W:=(w.alloc (.cells #[.int .u32 h.a,.int .i64 h.n,.string h.o] 282))) upB (hb3.mono (by simp))⟩
theorem k8(a:Int)(w:World)(ha:ad a):Cr prog 233 #[.int .i64 a] w (.agg #[.int .u32 a,.int .i64 32]):=by
 have e1:IntKind.u32.wrap a=a:=iQ _ ha.1 ha.2
 go_enter func233,ntmps233
 go_wp2;have hfin:Ending.returned (Value.agg #[.int .u32 a,.int .i64 32])=.returned (.agg #[.int .u32 a,.int .i64 32])/\Bl w (w.alloc (.cells #[.int .u32 a,.int .i64 32] 80)):=⟨rfl,upB⟩
 exact bodyPost_ret (v:=.agg #[.int .u32 a,.int .i64 32]) (by simp[results,results233,go_sem]) rfl hfin
def usR(b n x:Int):Bool:=if n<=30/\(x=b\/x=lst b n) then false else decide (b<=x)&&decide (x<=lst b n)
theorem kr(b n x:Int)(w:World)(hb:ad b)(n0:0<=n)(n1:n<=32)(x0:0<=x)(x1:x<4294967296):Cr prog 232 #[.agg #[.int .u32 b,.int .i64 n],.int .i64 x] w (.bool (usR b n x)):=by
 obtain⟨b0,b1⟩:=hb;have e1:IntKind.i64.wrap b=b:=bd _ b0 b1
 have HL:Hid (∀ W,Cr prog 231 #[.agg #[.int .u32 b,.int .i64 n]] W (.int .i64 (lst b n))):=fun W=>eM b n W b0 b1 n0 n1
 obtain⟨z,hz⟩:∃ z,lst b n=z:=⟨_,rfl⟩
 obtain⟨r,hr⟩:∃ r,usR b n x=r:=⟨_,rfl⟩
 have HR:Hid (usR b n x=r):=hr
 unfold usR at hr;rw[hz] at HL hr;rw[HR.o];have W2:∀ {w1 w2:World},Bl w w1->Bl w1 w2->Bl w w2:=fun h k=>bup h k
 have HW:Hid (∀ {w1 w2:World},Bl w w1->Bl w1 w2->Bl w w2):=W2
 clear W2 hz HR;have arm2:True:=trivial
 by_cases c1:n<=30
 ·by_cases c2:x=b
  ·obtain rfl:r=false:=by rw[<- hr,if_pos ⟨c1,.inl c2⟩]
   have q2:(x==b)=true:=by simpa using c2
   clear hr c2;go_enter func232,ntmps232
   go_wp2;go_ret;exact⟨rfl,upB⟩
  ·have q2:(x==b)=false:=by simpa using c2
   by_cases c3:x=z
   ·obtain rfl:r=false:=by rw[<- hr,if_pos ⟨c1,.inr c3⟩]
    have q3:(x==z)=true:=by simpa using c3
    clear hr c2 c3;go_enter func232,ntmps232
    go_wp2_with (go_at_call 231;refine(HL.o _).mono ?_;rintro e w1 ⟨rfl,hb1⟩)
    go_ret;exact⟨rfl,HW.o upB hb1⟩
   ·have q3:(x==z)=false:=by simpa using c3
    have hr2:(decide (b<=x)&&decide (x<=z))=r:=by rw[<- hr,if_neg (by simp[c2,c3])]
    clear hr c3;by_cases c4:b<=x
    ·have HQ:Hid (decide (x<=z)=r):=by show decide (x<=z)=r;rw[<- hr2,decide_eq_true c4];rfl
     clear hr2 c2;go_enter func232,ntmps232
     go_wp2_with (first
      | (go_at_call 231;refine(HL.o _).mono ?_;rintro e w2 ⟨rfl,hb2⟩;have HB2:Hid (Bl w w2):=HW.o (HB1.o) hb2;clear hb2)
      | (go_at_call 231;refine(HL.o _).mono ?_;rintro e w1 ⟨rfl,hb1⟩;have HB1:Hid (Bl w w1):=HW.o upB hb1;have k0:w1.cell? (At w.heap.size 0)=some (.int .u32 b):=cN hb1;have k1:w1.cell? (At w.heap.size 1)=some (.int .i64 n):=cN hb1;clear hb1))
     go_ret;exact⟨aA HQ.o,HB2.o⟩
    ·obtain rfl:r=false:=by rw[<- hr2,decide_eq_false c4];rfl
     clear hr2 c2;go_enter func232,ntmps232
     go_wp2_with (go_at_call 231;refine(HL.o _).mono ?_;rintro e w1 ⟨rfl,hb1⟩;have HB1:Hid (Bl w w1):=HW.o upB hb1;have k0:w1.cell? (At w.heap.size 0)=some (.int .u32 b):=cN hb1;clear hb1)
     go_ret;exact⟨rfl,HB1.o⟩
 ·have hr2:(decide (b<=x)&&decide (x<=z))=r:=by rw[<- hr,if_neg (by simp[c1])]
  clear hr;by_cases c4:b<=x
  ·have HQ:Hid (decide (x<=z)=r):=by show decide (x<=z)=r;rw[<- hr2,decide_eq_true c4];rfl
   clear hr2;go_enter func232,ntmps232
   go_wp2_with (go_at_call 231;refine(HL.o _).mono ?_;rintro e w1 ⟨rfl,hb1⟩;have HB1:Hid (Bl w w1):=HW.o upB hb1;clear hb1)
   go_ret;exact⟨aA HQ.o,HB1.o⟩
  ·obtain rfl:r=false:=by rw[<- hr2,decide_eq_false c4];rfl
   clear hr2;go_enter func232,ntmps232
   go_wp2;go_ret;exact⟨rfl,upB⟩
def oA(c:UInt8):Bool:=(decide (97<=c.toNat)&&decide (c.toNat<=122))||(decide (48<=c.toNat)&&decide (c.toNat<=57))
theorem mU(l:Lu):ag l=(decide (0<l.length)&&decide (l.length<=8)&&l.all oA):=rfl
theorem nA(s:Ba)(w:World)(hs:s.size<=2097152):Cr prog 183 #[.string s] w (.bool (ag s.data.toList)):=by
 have HE:Hid (∀ k (h:k<s.size),s[k]'h=s.data.toList.getD k 0):=fun k h=>by
  rw[List.getD_eq_getElem?_getD,List.getElem?_eq_getElem (by simpa using h)];rfl
 have HS:Hid (s.data.toList.length=s.size):=by show s.data.toList.length=s.size;simp
 go_enter func183,ntmps183
 go_wp2;go_loopw [3] (fun i wr=>∃ k:Nat,k<=s.size/\i=.int .i64 k/\Hid (∀ j,j<k->oA (s.data.toList.getD j 0)=true)/\Hid (Bl w wr)) (fun i _=>s.size-(intOf i).toNat)
 case atStart=>exact⟨0,Nat.zero_le _,rfl,fun j hj=>absurd hj (Nat.not_lt_zero _),(show Below _ _ _ from upB)⟩
 case round =>
  obtain⟨k,hk,rfl,HI,HB⟩:=hrel;by_cases hlt:k<s.size
  ·have hc:=HE.o k hlt;have NX:Hid (oA (s.data.toList.getD k 0)=true->∀ j,j<k+1->oA (s.data.toList.getD j 0)=true):=fun q j hj=>by
    by_cases e:j=k
    ·rw[e];exact q
    ·exact HI.o j om
   have NO:Hid (oA (s.data.toList.getD k 0)=false->ag s.data.toList=false):=fun q=>by
    rw[mU];have:s.data.toList.all oA=false:=by
     rw[List.all_eq_false];refine⟨s.data.toList.getD k 0,?_,by rw[q];simp⟩
     rw[List.getD_eq_getElem?_getD,List.getElem?_eq_getElem (by rw[HS.o];exact hlt)];exact List.getElem_mem _
    rw[this];simp
   rw[<- hc] at NX NO;clear hc HI HE HS;obtain⟨x,hx⟩:∃ x:Nat,(s[k]'hlt).toNat=x:=⟨_,rfl⟩
   have hd:oA (s[k]'hlt)=((decide (97<=x)&&decide (x<=122))||(decide (48<=x)&&decide (x<=57))):=by unfold oA;rw[hx]
   have hxi:(((s[k]'hlt).toNat:Nat):Int)=(x:Int):=by rw[hx]
   rw[hd] at NX NO;clear hd hx;rcases (show (x<48)\/(48<=x/\x<=57)\/(57<x/\x<97)\/(97<=x/\x<=122)\/122<x by omega) with c|⟨c1,c2⟩|⟨c1,c2⟩|⟨c1,c2⟩|c
   ·have HF:Hid (ag s.data.toList=false):=NO.o (by simp;omega)
    have q1:(x:Int)<97:=by omega
    have q2:(x:Int)<48:=by omega
    clear NX NO;go_wp2;go_ret;exact⟨aA HF.o.symm,HB.o⟩
   ·have HT:=NX.o (by simp;omega)
    have q1:(x:Int)<97:=by omega
    have q2:¬(x:Int)<48:=by omega
    have q3:¬(57:Int)<(x:Int):=by omega
    clear NX NO;replace HT:Hid _:=HT;go_wp2;go_roundw
    case rel=>exact⟨k+1,by omega,by go_num,HT.o,HB.o⟩
    case measure=>simp[intOf];omega
   ·have HF:Hid (ag s.data.toList=false):=NO.o (by simp;omega)
    have q1:(x:Int)<97:=by omega
    have q2:¬(x:Int)<48:=by omega
    have q3:(57:Int)<(x:Int):=by omega
    clear NX NO;go_wp2;go_ret;exact⟨aA HF.o.symm,HB.o⟩
   ·have HT:=NX.o (by simp;omega)
    have q1:¬(x:Int)<97:=by omega
    have q2:¬(122:Int)<(x:Int):=by omega
    clear NX NO;replace HT:Hid _:=HT;go_wp2;go_roundw
    case rel=>exact⟨k+1,by omega,by go_num,HT.o,HB.o⟩
    case measure=>simp[intOf];omega
   ·have HF:Hid (ag s.data.toList=false):=NO.o (by simp;omega)
    have q1:¬(x:Int)<97:=by omega
    have q2:(122:Int)<(x:Int):=by omega
    have q3:¬(x:Int)<48:=by omega
    have q4:(57:Int)<(x:Int):=by omega
    clear NX NO;go_wp2;go_ret;exact⟨aA HF.o.symm,HB.o⟩
  ·obtain rfl:k=s.size:=by omega
   have HF:Hid (ag s.data.toList=(decide (1<=s.size)&&decide (s.size<=8))):=by
    show ag s.data.toList=_
    rw[mU,HS.o];have:s.data.toList.all oA=true:=by
     rw[List.all_eq_true];intro c hc;obtain⟨j,hj,rfl⟩:=List.getElem_of_mem hc;have:=HI.o j (by rw[<- HS.o];exact hj)
     rwa [List.getD_eq_getElem?_getD,List.getElem?_eq_getElem hj] at this
    rw[this];simp[Nat.lt_iff_add_one_le]
   clear HE HS HI;by_cases c1:1<=s.size
   ·by_cases c2:s.size<=8
    ·have HG:Hid (ag s.data.toList=true):=by show ag s.data.toList=true;rw[HF.o,decide_eq_true c1,decide_eq_true c2];rfl
     have q1:(1:Int)<=(s.size:Int):=by omega
     have q2:(s.size:Int)<=8:=by omega
     clear HF;go_wp2;go_ret;exact⟨aA HG.o.symm,HB.o⟩
    ·have HG:Hid (ag s.data.toList=false):=by show ag s.data.toList=false;rw[HF.o,decide_eq_true c1,decide_eq_false c2];rfl
     have q1:(1:Int)<=(s.size:Int):=by omega
     have q2:¬(s.size:Int)<=8:=by omega
     clear HF;go_wp2;go_ret;exact⟨aA HG.o.symm,HB.o⟩
   ·have HG:Hid (ag s.data.toList=false):=by show ag s.data.toList=false;rw[HF.o,decide_eq_false c1];rfl
    have q1:¬(1:Int)<=(s.size:Int):=by omega
    clear HF;go_wp2;go_ret;exact⟨aA HG.o.symm,HB.o⟩
end
section
open Go.ChangeShapes Go.WideShapes Go.ChangeAt Go.RowKit
abbrev BW(w:World)(l:Ln):World->Prop:=Below (w.heap.size+2) ((w.alloc (.cells #[.int .i64 l.v,.string l.t,.string l.o,.int .u32 l.a,.int .i64 l.n,.int .u32 l.d,.int .i64 l.g] 93)).alloc (.cells #[.int .i64 0,.slice none 0 0] 98))
theorem BA.c3{w:World}{x:Nat}{S:Nat->Prop}{vp vn vl:Value}{c:Nat}{s:Bk}(B:BA w x S vp vn vl c s):w.cell? (At x 0)=some vp/\w.cell? (At x 1)=some vn/\w.cell? (At x 2)=some vl:=⟨B.blk.cell 0,B.blk.cell 1,B.blk.cell 2⟩
structure cm(w wk:World)(x:Nat)(vp vn vl:Value)(l:Ln):Prop where
 x0:wk.cell? (At x 0)=some vp
 x1:wk.cell? (At x 1)=some vn
 x2:wk.cell? (At x 2)=some vl
 f0:wk.frozen? (At x 0)=false
 f1:wk.frozen? (At x 1)=false
 f2:wk.frozen? (At x 2)=false
 o:wk.cell? (At w.heap.size 2)=some (.string l.o)
 a:wk.cell? (At w.heap.size 3)=some (.int .u32 l.a)
 n:wk.cell? (At w.heap.size 4)=some (.int .i64 l.n)
 d:wk.cell? (At w.heap.size 5)=some (.int .u32 l.d)
 g:wk.cell? (At w.heap.size 6)=some (.int .i64 l.g)
 r0:wk.cell? (At (w.heap.size+1) 0)=some (.int .i64 0)
 r1:wk.cell? (At (w.heap.size+1) 1)=some (.slice none 0 0)
 g0:wk.frozen? (At (w.heap.size+1) 0)=false
 g1:wk.frozen? (At (w.heap.size+1) 1)=false
 zx:x<wk.heap.size
 z0:w.heap.size<wk.heap.size
 z1:w.heap.size+1<wk.heap.size
 rb:Blk wk (w.heap.size+1) #[.int .i64 0,.slice none 0 0] 98
theorem aN{w:World}{x:Nat}{S:Nat->Prop}{vp vn vl:Value}{c:Nat}{s:Bk}(l:Ln)(h:BA w x S vp vn vl c s)(wk:World)(hb:BW w l wk):cm w wk x vp vn vl l:=by
 have hx:=h.blk.lt;have q0:Blk ((w.alloc (.cells #[.int .i64 l.v,.string l.t,.string l.o,.int .u32 l.a,.int .i64 l.n,.int .u32 l.d,.int .i64 l.g] 93)).alloc (.cells #[.int .i64 0,.slice none 0 0] 98)) x #[vp,vn,vl] 160:=h.blk.below upB
 have q1:Blk ((w.alloc (.cells #[.int .i64 l.v,.string l.t,.string l.o,.int .u32 l.a,.int .i64 l.n,.int .u32 l.d,.int .i64 l.g] 93)).alloc (.cells #[.int .i64 0,.slice none 0 0] 98)) w.heap.size #[.int .i64 l.v,.string l.t,.string l.o,.int .u32 l.a,.int .i64 l.n,.int .u32 l.d,.int .i64 l.g] 93:=(Below.heap_alloc _ _ _ (by simp)).trans (Blk.new w _ _)
 have q2:=Blk.new (w.alloc (.cells #[.int .i64 l.v,.string l.t,.string l.o,.int .u32 l.a,.int .i64 l.n,.int .u32 l.d,.int .i64 l.g] 93)) #[.int .i64 0,.slice none 0 0] 98
 rw[show (w.alloc (.cells #[.int .i64 l.v,.string l.t,.string l.o,.int .u32 l.a,.int .i64 l.n,.int .u32 l.d,.int .i64 l.g] 93)).heap.size=w.heap.size+1 by simp] at q2
 have hz:=hb.size;simp at hz;have p0:Blk wk x #[vp,vn,vl] 160:=(hb.block x om).trans q0
 have p1:Blk wk w.heap.size #[.int .i64 l.v,.string l.t,.string l.o,.int .u32 l.a,.int .i64 l.n,.int .u32 l.d,.int .i64 l.g] 93:=(hb.block _ om).trans q1
 have p2:Blk wk (w.heap.size+1) #[.int .i64 0,.slice none 0 0] 98:=(hb.block _ om).trans q2
 exact⟨p0.cell 0,p0.cell 1,p0.cell 2,p0.frozen 0,p0.frozen 1,p0.frozen 2,p1.cell 2,p1.cell 3,p1.cell 4,p1.cell 5,p1.cell 6,p2.cell 0,p2.cell 1,p2.frozen 0,p2.frozen 1,by omega,by omega,by omega,p2⟩
theorem ax{w:World}{g:Nat}{t:TypeId}{u0 u1:Value}(h:Blk w g #[u0,u1] t)(a b:Value):((w.setCell (At g 0) a).setCell (At g 1) b).cell? (At g 0)=some a/\((w.setCell (At g 0) a).setCell (At g 1) b).cell? (At g 1)=some b :=
 ⟨((h.set 0 a).set 1 b).cell 0,((h.set 0 a).set 1 b).cell 1⟩
theorem al{n:Nat}{A Wc wk:World}(h1:Below n A Wc)(hz:n<=A.heap.size)(hq:Bl Wc wk):Below n A wk:=h1.trans (hq.mono (Nat.le_trans hz h1.size))
theorem ab(w:World)(l:Ln):Bl w ((w.alloc (.cells #[.int .i64 l.v,.string l.t,.string l.o,.int .u32 l.a,.int .i64 l.n,.int .u32 l.d,.int .i64 l.g] 93)).alloc (.cells #[.int .i64 0,.slice none 0 0] 98)):=upB
theorem aZ{w w9:World}{x:Nat}{S:Nat->Prop}{s:Bk}{l:Ln}(k:Nat)(h:aq w x S s)(hb:BW w l w9):Res w x S (s,ref k) (.returned (.agg #[.int .i64 k,.slice none 0 0])) ((w9.setCell (At (w.heap.size+1) 0) (.int .i64 k)).setCell (At (w.heap.size+1) 1) (.slice none 0 0)):=by
 have h0:=(ab w l).trans (hb.mono om)
 have hz:=hb.size;simp at hz;exact pW k h upB
end
section
open Go.ChangeShapes Go.WideShapes Go.ChangeAt Go.RowKit Go.Proofs.Tryz
theorem gG(k:Nat)(b:Option Addr)(n c:Nat)(w:World):Cr prog 61 #[.agg #[.int .i64 k,.slice b n c]] w (.bool (decide (k=0))):=by
 go_enter func61,ntmps61
 go_wp2;by_cases hk:k=0
 ·subst hk;go_returns
  exact⟨rfl,upB⟩
 ·have h2:¬((k:Int)=0):=by omega
  go_returns
  exact⟨by simp[hk],upB⟩
end
section
open Go.ChangeShapes Go.WideShapes Go.ChangeAt Go.RowKit
theorem cm.same{w W w2:World}{x:Nat}{vp vn vl:Value}{l:Ln}(L:cm w W x vp vn vl l)(hz:W.heap.size<=w2.heap.size)(hx:w2.heap[x]?=W.heap[x]?)(h0:w2.heap[w.heap.size]?=W.heap[w.heap.size]?)(h1:w2.heap[w.heap.size+1]?=W.heap[w.heap.size+1]?):cm w w2 x vp vn vl l :=
 ⟨(World.cell?_of_block (a:=At x 0) hx).trans L.x0,(World.cell?_of_block (a:=At x 1) hx).trans L.x1,(World.cell?_of_block (a:=At x 2) hx).trans L.x2,(World.frozen?_of_block (a:=At x 0) hx).trans L.f0,(World.frozen?_of_block (a:=At x 1) hx).trans L.f1,(World.frozen?_of_block (a:=At x 2) hx).trans L.f2,
  (World.cell?_of_block (a:=At w.heap.size 2) h0).trans L.o,(World.cell?_of_block (a:=At w.heap.size 3) h0).trans L.a,(World.cell?_of_block (a:=At w.heap.size 4) h0).trans L.n,(World.cell?_of_block (a:=At w.heap.size 5) h0).trans L.d,(World.cell?_of_block (a:=At w.heap.size 6) h0).trans L.g,
  (World.cell?_of_block (a:=At (w.heap.size+1) 0) h1).trans L.r0,(World.cell?_of_block (a:=At (w.heap.size+1) 1) h1).trans L.r1,(World.frozen?_of_block (a:=At (w.heap.size+1) 0) h1).trans L.g0,(World.frozen?_of_block (a:=At (w.heap.size+1) 1) h1).trans L.g1,by have:=L.zx;omega,by have:=L.z0;omega,by have:=L.z1;omega,h1.trans L.rb⟩
theorem cm.far{w W w2:World}{x:Nat}{vp vn vl:Value}{l:Ln}{row:Option Nat}(L:cm w W x vp vn vl l)(g:W.grownBy w2 row)(hx:row≠some x)(hr:∀ b,row=some b->b<w.heap.size):cm w w2 x vp vn vl l :=
 L.same g.size (g.block x L.zx fun e=>hx e.symm) (g.block _ L.z0 fun e=>by have:=hr _ e.symm;omega) (g.block _ L.z1 fun e=>by have:=hr _ e.symm;omega)
theorem qf{w W w2 w4:World}{x:Nat}{S:Nat->Prop}{vp vn vl:Value}{c:Nat}{s:Bk}(B:BA w x S vp vn vl c s)(hW:Bl w W)(hz:w.heap.size+2<=W.heap.size)(g2:W.grownBy w2 vp.ownBlock){v':Value}{new:List Hd}
  (o:w2.ownsRow 0 155 3 v' new.length (new.flatMap ak)) (ho:∀ b,v'.ownBlock=some b->vp.ownBlock=some b\/W.heap.size<=b) (h4:Below w2.heap.size (w2.setCell (At x 0) v') w4) :
  Res w x S ({ s with pools:=new },okA) (.returned (.agg #[.int .i64 0,.slice none 0 0])) ((w4.setCell (At (w.heap.size+1) 0) (.int .i64 0)).setCell (At (w.heap.size+1) 1) (.slice none 0 0)):=by
 obtain⟨AP0,AP1,AP2⟩:=B.apart;have hx:=B.blk.lt;have hzs:w2.heap.size<=w4.heap.size:=by have:=h4.size;simpa[World.setCell] using this
 have s1:=aJ (w.heap.size+1) [.int .i64 0,.slice none 0 0] 0 w4
 have hx2:(w2.setCell (At x 0) v').heap.size=w2.heap.size:=by simp[World.setCell]
 -- what is neither the book's own block nor the answer's
 have hfin:∀ b,b<w2.heap.size->b≠x->b≠w.heap.size+1->(((w4.setCell (At (w.heap.size+1) 0) (.int .i64 0)).setCell (At (w.heap.size+1) 1) (.slice none 0 0))).heap[b]?=w2.heap[b]?:=fun b hb hbx hb1 =>
  (s1.2.2.2.2 b hb1).trans ((h4.block b hb).trans (Below.heap_setCell _ _ _ _ hbx))
 have hold:∀ b,S b->b≠x->vp.ownBlock≠some b->(((w4.setCell (At (w.heap.size+1) 0) (.int .i64 0)).setCell (At (w.heap.size+1) 1) (.slice none 0 0))).heap[b]?=w.heap[b]?:=fun b hS hbx hv=>by
  have hb:=B.sz b hS;exact(hfin b (by have:=g2.size;omega) hbx om).trans ((g2.block b om (fun e=>hv e.symm)).trans (hW.block b hb))
 have hbk:Blk ((w4.setCell (At (w.heap.size+1) 0) (.int .i64 0)).setCell (At (w.heap.size+1) 1) (.slice none 0 0)) x #[v',vn,vl] 160:=by
  have b1:Blk w2 x #[vp,vn,vl] 160:=(g2.block x om (fun e=>(AP0 x e.symm).1 rfl)).trans (B.blk.below hW)
  have b2:=b1.set 0 v';have b3:Blk w4 x #[v',vn,vl] 160:=(h4.block x b1.lt).trans b2
  exact(s1.2.2.2.2 x om).trans b3
 refine⟨_,fun b=>S b\/v'.ownBlock=some b,rfl,ik _ _ _ _,⟨v',vn,vl,c,hbk,?_,?_,?_,?_,.inl B.sx,trivial,?_,?_,?_,?_⟩,?_,?_⟩
 ·trivial
 ·refine aK o fun b e=>hfin b (cH o b e).1 ?_ ?_
  ·rintro rfl
   rcases ho _ e with q|q
   ·exact(AP0 _ q).1 rfl
   ·omega
  ·rintro rfl
   rcases ho _ e with q|q
   ·have:=B.sz _ (B.sp _ q);omega
   ·omega
 ·exact aK B.on fun b e=>hold b (B.sn b e) (AP1 b e).1 (AP1 b e).2.2.1
 ·exact aK B.ol fun b e=>hold b (B.sl b e) (AP2 b e).1 (AP2 b e).2.2.1
 ·exact fun b e=>.inr e
 ·exact fun b e=>.inl (B.sn b e)
 ·exact fun b e=>.inl (B.sl b e)
 ·rintro b (hb|hb)
  ·have:=B.sz b hb
   have:=hW.size
   have:=g2.size
   have h5:=s1.2.2.2.1;rw[show ((w4.setCell (At (w.heap.size+1) 0) (.int .i64 0)).setCell (At (w.heap.size+1) 1) (.slice none 0 0)).heap.size=w4.heap.size from h5];omega
  ·have:=(cH o b hb).1
   have h5:=s1.2.2.2.1;rw[show ((w4.setCell (At (w.heap.size+1) 0) (.int .i64 0)).setCell (At (w.heap.size+1) 1) (.slice none 0 0)).heap.size=w4.heap.size from h5];omega
 ·rintro b (hb|hb)
  ·exact .inl hb
  ·rcases ho b hb with q|q
   ·exact .inl (B.sp b q)
   ·exact .inr om
 ·have c1:Chg S w W:=Chg.below hW
  have c2:Chg S W w2:=Chg.grown g2 fun b e=>B.sp b e
  have c3:=(c1.trans c2 fun b e=>.inl e).sets x 0 [v'] (.inl B.sx)
  have c4:Chg S (w2.setCell (At x 0) v') w4:=⟨h4.os,h4.tape,h4.output,h4.size,fun b hb hS=>h4.block b (by rw[hx2] at hb;exact hb)⟩
  exact(c3.trans c4 fun b e=>.inl e).sets (w.heap.size+1) 0 [.int .i64 0,.slice none 0 0] (.inr om)
theorem Bi{w W w2 w4:World}{x:Nat}{S:Nat->Prop}{vp vn vl:Value}{c:Nat}{s:Bk}(B:BA w x S vp vn vl c s)(hW:Bl w W)(hz:w.heap.size+2<=W.heap.size)(g2:W.grownBy w2 vn.ownBlock){v':Value}{new:List Hd}
  (o:w2.ownsRow 0 195 3 v' new.length (new.flatMap ak)) (ho:∀ b,v'.ownBlock=some b->vn.ownBlock=some b\/W.heap.size<=b) (h4:Below w2.heap.size (w2.setCell (At x 1) v') w4) :
  Res w x S ({ s with nets:=new },okA) (.returned (.agg #[.int .i64 0,.slice none 0 0])) ((w4.setCell (At (w.heap.size+1) 0) (.int .i64 0)).setCell (At (w.heap.size+1) 1) (.slice none 0 0)):=by
 obtain⟨AP0,AP1,AP2⟩:=B.apart;have hx:=B.blk.lt;have hzs:w2.heap.size<=w4.heap.size:=by have:=h4.size;simpa[World.setCell] using this
 have s1:=aJ (w.heap.size+1) [.int .i64 0,.slice none 0 0] 0 w4
 have hx2:(w2.setCell (At x 1) v').heap.size=w2.heap.size:=by simp[World.setCell]
 -- what is neither the book's own block nor the answer's
 have hfin:∀ b,b<w2.heap.size->b≠x->b≠w.heap.size+1->(((w4.setCell (At (w.heap.size+1) 0) (.int .i64 0)).setCell (At (w.heap.size+1) 1) (.slice none 0 0))).heap[b]?=w2.heap[b]?:=fun b hb hbx hb1 =>
  (s1.2.2.2.2 b hb1).trans ((h4.block b hb).trans (Below.heap_setCell _ _ _ _ hbx))
 have hold:∀ b,S b->b≠x->vn.ownBlock≠some b->(((w4.setCell (At (w.heap.size+1) 0) (.int .i64 0)).setCell (At (w.heap.size+1) 1) (.slice none 0 0))).heap[b]?=w.heap[b]?:=fun b hS hbx hv=>by
  have hb:=B.sz b hS;exact(hfin b (by have:=g2.size;omega) hbx om).trans ((g2.block b om (fun e=>hv e.symm)).trans (hW.block b hb))
 have hbk:Blk ((w4.setCell (At (w.heap.size+1) 0) (.int .i64 0)).setCell (At (w.heap.size+1) 1) (.slice none 0 0)) x #[vp,v',vl] 160:=by
  have b1:Blk w2 x #[vp,vn,vl] 160:=(g2.block x om (fun e=>(AP1 x e.symm).1 rfl)).trans (B.blk.below hW)
  have b2:=b1.set 1 v';have b3:Blk w4 x #[vp,v',vl] 160:=(h4.block x b1.lt).trans b2
  exact(s1.2.2.2.2 x om).trans b3
 refine⟨_,fun b=>S b\/v'.ownBlock=some b,rfl,ik _ _ _ _,⟨vp,v',vl,c,hbk,?_,?_,?_,?_,.inl B.sx,trivial,?_,?_,?_,?_⟩,?_,?_⟩
 ·trivial
 ·exact aK B.op fun b e=>hold b (B.sp b e) (AP0 b e).1 (AP0 b e).2.2.1
 ·refine aK o fun b e=>hfin b (cH o b e).1 ?_ ?_
  ·rintro rfl
   rcases ho _ e with q|q
   ·exact(AP1 _ q).1 rfl
   ·omega
  ·rintro rfl
   rcases ho _ e with q|q
   ·have:=B.sz _ (B.sn _ q);omega
   ·omega
 ·exact aK B.ol fun b e=>hold b (B.sl b e) (AP2 b e).1 (AP2 b e).2.2.2
 ·exact fun b e=>.inl (B.sp b e)
 ·exact fun b e=>.inr e
 ·exact fun b e=>.inl (B.sl b e)
 ·rintro b (hb|hb)
  ·have:=B.sz b hb
   have:=hW.size
   have:=g2.size
   have h5:=s1.2.2.2.1;rw[show ((w4.setCell (At (w.heap.size+1) 0) (.int .i64 0)).setCell (At (w.heap.size+1) 1) (.slice none 0 0)).heap.size=w4.heap.size from h5];omega
  ·have:=(cH o b hb).1
   have h5:=s1.2.2.2.1;rw[show ((w4.setCell (At (w.heap.size+1) 0) (.int .i64 0)).setCell (At (w.heap.size+1) 1) (.slice none 0 0)).heap.size=w4.heap.size from h5];omega
 ·rintro b (hb|hb)
  ·exact .inl hb
  ·rcases ho b hb with q|q
   ·exact .inl (B.sn b q)
   ·exact .inr om
 ·have c1:Chg S w W:=Chg.below hW
  have c2:Chg S W w2:=Chg.grown g2 fun b e=>B.sn b e
  have c3:=(c1.trans c2 fun b e=>.inl e).sets x 1 [v'] (.inl B.sx)
  have c4:Chg S (w2.setCell (At x 1) v') w4:=⟨h4.os,h4.tape,h4.output,h4.size,fun b hb hS=>h4.block b (by rw[hx2] at hb;exact hb)⟩
  exact(c3.trans c4 fun b e=>.inl e).sets (w.heap.size+1) 0 [.int .i64 0,.slice none 0 0] (.inr om)
theorem Al{w W w2 w4:World}{x:Nat}{S:Nat->Prop}{vp vn vl:Value}{c:Nat}{s:Bk}(B:BA w x S vp vn vl c s)(hW:Bl w W)(hz:w.heap.size+2<=W.heap.size)(g2:W.grownBy w2 vl.ownBlock){v':Value}{new:List Ls}
  (o:w2.ownsRow 0 208 2 v' new.length (new.flatMap bh)) (ho:∀ b,v'.ownBlock=some b->vl.ownBlock=some b\/W.heap.size<=b) (h4:Below w2.heap.size (w2.setCell (At x 2) v') w4) :
  Res w x S ({ s with leases:=new },okA) (.returned (.agg #[.int .i64 0,.slice none 0 0])) ((w4.setCell (At (w.heap.size+1) 0) (.int .i64 0)).setCell (At (w.heap.size+1) 1) (.slice none 0 0)):=by
 obtain⟨AP0,AP1,AP2⟩:=B.apart;have hx:=B.blk.lt;have hzs:w2.heap.size<=w4.heap.size:=by have:=h4.size;simpa[World.setCell] using this
 have s1:=aJ (w.heap.size+1) [.int .i64 0,.slice none 0 0] 0 w4
 have hx2:(w2.setCell (At x 2) v').heap.size=w2.heap.size:=by simp[World.setCell]
 -- what is neither the book's own block nor the answer's
 have hfin:∀ b,b<w2.heap.size->b≠x->b≠w.heap.size+1->(((w4.setCell (At (w.heap.size+1) 0) (.int .i64 0)).setCell (At (w.heap.size+1) 1) (.slice none 0 0))).heap[b]?=w2.heap[b]?:=fun b hb hbx hb1 =>
  (s1.2.2.2.2 b hb1).trans ((h4.block b hb).trans (Below.heap_setCell _ _ _ _ hbx))
 have hold:∀ b,S b->b≠x->vl.ownBlock≠some b->(((w4.setCell (At (w.heap.size+1) 0) (.int .i64 0)).setCell (At (w.heap.size+1) 1) (.slice none 0 0))).heap[b]?=w.heap[b]?:=fun b hS hbx hv=>by
  have hb:=B.sz b hS;exact(hfin b (by have:=g2.size;omega) hbx om).trans ((g2.block b om (fun e=>hv e.symm)).trans (hW.block b hb))
 have hbk:Blk ((w4.setCell (At (w.heap.size+1) 0) (.int .i64 0)).setCell (At (w.heap.size+1) 1) (.slice none 0 0)) x #[vp,vn,v'] 160:=by
  have b1:Blk w2 x #[vp,vn,vl] 160:=(g2.block x om (fun e=>(AP2 x e.symm).1 rfl)).trans (B.blk.below hW)
  have b2:=b1.set 2 v';have b3:Blk w4 x #[vp,vn,v'] 160:=(h4.block x b1.lt).trans b2
  exact(s1.2.2.2.2 x om).trans b3
 refine⟨_,fun b=>S b\/v'.ownBlock=some b,rfl,ik _ _ _ _,⟨vp,vn,v',c,hbk,?_,?_,?_,?_,.inl B.sx,trivial,?_,?_,?_,?_⟩,?_,?_⟩
 ·trivial
 ·exact aK B.op fun b e=>hold b (B.sp b e) (AP0 b e).1 (AP0 b e).2.2.2
 ·exact aK B.on fun b e=>hold b (B.sn b e) (AP1 b e).1 (AP1 b e).2.2.2
 ·refine aK o fun b e=>hfin b (cH o b e).1 ?_ ?_
  ·rintro rfl
   rcases ho _ e with q|q
   ·exact(AP2 _ q).1 rfl
   ·omega
  ·rintro rfl
   rcases ho _ e with q|q
   ·have:=B.sz _ (B.sl _ q);omega
   ·omega
 ·exact fun b e=>.inl (B.sp b e)
 ·exact fun b e=>.inl (B.sn b e)
 ·exact fun b e=>.inr e
 ·rintro b (hb|hb)
  ·have:=B.sz b hb
   have:=hW.size
   have:=g2.size
   have h5:=s1.2.2.2.1;rw[show ((w4.setCell (At (w.heap.size+1) 0) (.int .i64 0)).setCell (At (w.heap.size+1) 1) (.slice none 0 0)).heap.size=w4.heap.size from h5];omega
  ·have:=(cH o b hb).1
   have h5:=s1.2.2.2.1;rw[show ((w4.setCell (At (w.heap.size+1) 0) (.int .i64 0)).setCell (At (w.heap.size+1) 1) (.slice none 0 0)).heap.size=w4.heap.size from h5];omega
 ·rintro b (hb|hb)
  ·exact .inl hb
  ·rcases ho b hb with q|q
   ·exact .inl (B.sl b q)
   ·exact .inr om
 ·have c1:Chg S w W:=Chg.below hW
  have c2:Chg S W w2:=Chg.grown g2 fun b e=>B.sl b e
  have c3:=(c1.trans c2 fun b e=>.inl e).sets x 2 [v'] (.inl B.sx)
  have c4:Chg S (w2.setCell (At x 2) v') w4:=⟨h4.os,h4.tape,h4.output,h4.size,fun b hb hS=>h4.block b (by rw[hx2] at hb;exact hb)⟩
  exact(c3.trans c4 fun b e=>.inl e).sets (w.heap.size+1) 0 [.int .i64 0,.slice none 0 0] (.inr om)
end
section
open Go.ChangeShapes Go.WideShapes Go.ChangeAt Go.RowKit Go.Proofs.Tryz
theorem pB(l:List Hd)(h:Hd):(b9 l h).length=l.length+1:=by
 have hle:fa l h.a<=l.length:=List.countP_le_length
 unfold b9;simp;omega
theorem rD(w:World)(x:Nat)(S:Nat->Prop)(s:Bk)(l:Ln)(hI:Inv s)(hL:aY l)(h:aq w x S s)(hn:l.n<8\/30<l.n):Calls prog 69 #[.pointer (some (At x 0)),.agg (lnC l)] w (Res w x S (s,ref 4)):=by
 obtain⟨vp,vn,vl,c,B⟩:=h;have hx:=B.blk.lt;have H:Hid (aq w x S s):=⟨vp,vn,vl,c,B⟩
 obtain⟨x0,x1,x2⟩:=B.c3;have LIVE:Hid (∀ wk,BW w l wk->cm w wk x vp vn vl l):=aN l B
 have HBA:Hid (BA w x S vp vn vl c s):=B
 have hxa:¬(x=w.heap.size):=by omega
 have hxb:¬(w.heap.size=x):=by omega
 clear B;unfold lnC;go_enter func69,ntmps69
 by_cases h8:l.n<8
 ·go_wp2_with (go_at_call 39;refine(ay 4 _).mono ?_;rintro e w9 ⟨rfl,HQ⟩;have HB9:Hid (BW w l w9):=al upB (by simp) HQ;clear HQ;have HW9:Hid (Bl w w9):=(ab w l).trans (HB9.o.mono om);have LV9:=LIVE.o w9 HB9.o;have r0_9:=LV9.r0;have r1_9:=LV9.r1;have g0_9:=LV9.g0;have g1_9:=LV9.g1;have z1_9:=LV9.z1;clear LV9)
  have hR:=(LIVE.o w9 HB9.o).rb
  obtain⟨kk0,kk1⟩:=ax hR (.int .i64 4) (.slice none 0 0)
  have hfin:=aZ (l:=l) 4 H.o HB9.o
  exact bodyPost_ret (v:=.agg #[.int .i64 4,.slice none 0 0]) (by simp[results,results69,go_sem,kk0,kk1]) rfl hfin
 ·have h30:30<l.n:=by omega
  go_wp2_with (go_at_call 39;refine(ay 4 _).mono ?_;rintro e w9 ⟨rfl,HQ⟩;have HB9:Hid (BW w l w9):=al upB (by simp) HQ;clear HQ;have HW9:Hid (Bl w w9):=(ab w l).trans (HB9.o.mono om);have LV9:=LIVE.o w9 HB9.o;have r0_9:=LV9.r0;have r1_9:=LV9.r1;have g0_9:=LV9.g0;have g1_9:=LV9.g1;have z1_9:=LV9.z1;clear LV9)
  have hR:=(LIVE.o w9 HB9.o).rb
  obtain⟨kk0,kk1⟩:=ax hR (.int .i64 4) (.slice none 0 0)
  have hfin:=aZ (l:=l) 4 H.o HB9.o
  exact bodyPost_ret (v:=.agg #[.int .i64 4,.slice none 0 0]) (by simp[results,results69,go_sem,kk0,kk1]) rfl hfin
theorem vY(w:World)(x:Nat)(S:Nat->Prop)(s:Bk)(l:Ln)(hI:Inv s)(hL:aY l)(h:aq w x S s)(h1:¬l.n<8)(h2:¬30<l.n)(h3:aU s.pools l.a l.n=true):Calls prog 69 #[.pointer (some (At x 0)),.agg (lnC l)] w (Res w x S (s,ref 5)):=by
 obtain⟨vp,vn,vl,c,B⟩:=h;have hx:=B.blk.lt;have H:Hid (aq w x S s):=⟨vp,vn,vl,c,B⟩
 obtain⟨x0,x1,x2⟩:=B.c3;have LIVE:Hid (∀ wk,BW w l wk->cm w wk x vp vn vl l):=aN l B
 have HBA:Hid (BA w x S vp vn vl c s):=B
 have hxa:¬(x=w.heap.size):=by omega
 have hxb:¬(w.heap.size=x):=by omega
 have HP:Hid (∀ Wc,Bl w Wc->Cr prog 103 #[vp,.agg #[.int .u32 l.a,.int .i64 l.n]] Wc (.bool (aU s.pools l.a l.n))):=fun Wc hW=>xv s.pools l.a l.n vp Wc (fun q hq=>(hI.pa q hq).1) hL.a ((Rd.of_owns (k:=3) (enc:=ak) (fun _=>rfl) hd0 B.op).below hW)
 rw[h3] at HP;obtain⟨b_vp,c_vp,e_vp,_,_⟩:=ae B.op;subst e_vp;clear B;unfold lnC;go_enter func69,ntmps69
 go_wp2;go_region_held3 (fun w'=>w'.cell? (At x 0)=some (.slice b_vp s.pools.length c_vp)/\w'.cell? (At w.heap.size 3)=some (.int .u32 l.a)/\w'.cell? (At w.heap.size 4)=some (.int .i64 l.n)) (go_keep) (first|(go_at_call 103;refine(HP.o _ upB).mono ?_;rintro e w1 ⟨rfl,HQ⟩;have HB1:Hid (BW w l w1):=al upB (by simp) HQ;clear HQ;have HW1:Hid (Bl w w1):=(ab w l).trans (HB1.o.mono om);have LV1:=LIVE.o w1 HB1.o;have x0_1:=LV1.x0;have f0_1:=LV1.f0;have o_1:=LV1.o;have a_1:=LV1.a;have n_1:=LV1.n;have zx_1:=LV1.zx;have z0_1:=LV1.z0;have z1_1:=LV1.z1;have r0_1:=LV1.r0;have r1_1:=LV1.r1;have g0_1:=LV1.g0;have g1_1:=LV1.g1;clear LV1))
 all_goals (
  go_wp2_with (go_at_call 39;refine(ay 5 _).mono ?_;rintro e w9 ⟨rfl,HQ⟩;have HB9:Hid (BW w l w9):=al (by have hp:=HB1.o;exact upB) (by simp) HQ;clear HQ;have HW9:Hid (Bl w w9):=(ab w l).trans (HB9.o.mono om);have LV9:=LIVE.o w9 HB9.o;have r0_9:=LV9.r0;have r1_9:=LV9.r1;have g0_9:=LV9.g0;have g1_9:=LV9.g1;have z1_9:=LV9.z1;clear LV9)
  have hR:=(LIVE.o w9 HB9.o).rb
  obtain⟨kk0,kk1⟩:=ax hR (.int .i64 5) (.slice none 0 0)
  have hfin:=aZ (l:=l) 5 H.o HB9.o
  exact bodyPost_ret (v:=.agg #[.int .i64 5,.slice none 0 0]) (by simp[results,results69,go_sem,kk0,kk1]) rfl hfin)
theorem td(w:World)(x:Nat)(S:Nat->Prop)(s:Bk)(l:Ln)(hI:Inv s)(hL:aY l)(h:aq w x S s)(h1:¬l.n<8)(h2:¬30<l.n)(h3:aU s.pools l.a l.n=false)(h4:6<=s.pools.length):Calls prog 69 #[.pointer (some (At x 0)),.agg (lnC l)] w (Res w x S (s,ref 6)):=by
 obtain⟨vp,vn,vl,c,B⟩:=h;have hx:=B.blk.lt;have H:Hid (aq w x S s):=⟨vp,vn,vl,c,B⟩
 obtain⟨x0,x1,x2⟩:=B.c3;have LIVE:Hid (∀ wk,BW w l wk->cm w wk x vp vn vl l):=aN l B
 have HBA:Hid (BA w x S vp vn vl c s):=B
 have hxa:¬(x=w.heap.size):=by omega
 have hxb:¬(w.heap.size=x):=by omega
 have HP:Hid (∀ Wc,Bl w Wc->Cr prog 103 #[vp,.agg #[.int .u32 l.a,.int .i64 l.n]] Wc (.bool (aU s.pools l.a l.n))):=fun Wc hW=>xv s.pools l.a l.n vp Wc (fun q hq=>(hI.pa q hq).1) hL.a ((Rd.of_owns (k:=3) (enc:=ak) (fun _=>rfl) hd0 B.op).below hW)
 rw[h3] at HP;obtain⟨b_vp,c_vp,e_vp,_,_⟩:=ae B.op;subst e_vp;have h5:(6:Int)<=(s.pools.length:Int):=by omega
 clear B;unfold lnC;go_enter func69,ntmps69
 go_wp2;go_region_held3 (fun w'=>w'.cell? (At x 0)=some (.slice b_vp s.pools.length c_vp)/\w'.cell? (At w.heap.size 3)=some (.int .u32 l.a)/\w'.cell? (At w.heap.size 4)=some (.int .i64 l.n)) (go_keep) (first|(go_at_call 103;refine(HP.o _ upB).mono ?_;rintro e w1 ⟨rfl,HQ⟩;have HB1:Hid (BW w l w1):=al upB (by simp) HQ;clear HQ;have HW1:Hid (Bl w w1):=(ab w l).trans (HB1.o.mono om);have LV1:=LIVE.o w1 HB1.o;have x0_1:=LV1.x0;have f0_1:=LV1.f0;have o_1:=LV1.o;have a_1:=LV1.a;have n_1:=LV1.n;have zx_1:=LV1.zx;have z0_1:=LV1.z0;have z1_1:=LV1.z1;have r0_1:=LV1.r0;have r1_1:=LV1.r1;have g0_1:=LV1.g0;have g1_1:=LV1.g1;clear LV1))
 all_goals (
  go_wp2_with (go_at_call 39;refine(ay 6 _).mono ?_;rintro e w9 ⟨rfl,HQ⟩;have HB9:Hid (BW w l w9):=al (by have hp:=HB1.o;exact upB) (by simp) HQ;clear HQ;have HW9:Hid (Bl w w9):=(ab w l).trans (HB9.o.mono om);have LV9:=LIVE.o w9 HB9.o;have r0_9:=LV9.r0;have r1_9:=LV9.r1;have g0_9:=LV9.g0;have g1_9:=LV9.g1;have z1_9:=LV9.z1;clear LV9)
  have hR:=(LIVE.o w9 HB9.o).rb
  obtain⟨kk0,kk1⟩:=ax hR (.int .i64 6) (.slice none 0 0)
  have hfin:=aZ (l:=l) 6 H.o HB9.o
  exact bodyPost_ret (v:=.agg #[.int .i64 6,.slice none 0 0]) (by simp[results,results69,go_sem,kk0,kk1]) rfl hfin)
theorem BI(w:World)(x:Nat)(S:Nat->Prop)(s:Bk)(l:Ln)(hI:Inv s)(hL:aY l)(h:aq w x S s)(h1:¬l.n<8)(h2:¬30<l.n)(h3:aU s.pools l.a l.n=false)(h4:¬6<=s.pools.length):Calls prog 69 #[.pointer (some (At x 0)),.agg (lnC l)] w (Res w x S ({ s with pools:=b9 s.pools ⟨l.a,l.n,l.o⟩ },okA)):=by
 obtain⟨vp,vn,vl,c,B⟩:=h;have hx:=B.blk.lt;have H:Hid (aq w x S s):=⟨vp,vn,vl,c,B⟩
 obtain⟨x0,x1,x2⟩:=B.c3;have LIVE:Hid (∀ wk,BW w l wk->cm w wk x vp vn vl l):=aN l B
 have HBA:Hid (BA w x S vp vn vl c s):=B
 have hxa:¬(x=w.heap.size):=by omega
 have hxb:¬(w.heap.size=x):=by omega
 have HP:Hid (∀ Wc,Bl w Wc->Cr prog 103 #[vp,.agg #[.int .u32 l.a,.int .i64 l.n]] Wc (.bool (aU s.pools l.a l.n))):=fun Wc hW=>xv s.pools l.a l.n vp Wc (fun q hq=>(hI.pa q hq).1) hL.a ((Rd.of_owns (k:=3) (enc:=ak) (fun _=>rfl) hd0 B.op).below hW)
 rw[h3] at HP;have HIN:Hid (∀ Wc,Bl w Wc->Calls prog 104 #[vp,.agg #[.int .u32 l.a,.int .i64 l.n,.string l.o]] Wc fun e w'=>∃ g cap,e=.returned (.slice (some (At g 0)) (s.pools.length+1) cap)/\w'.ownsRow 0 155 3 (.slice (some (At g 0)) (s.pools.length+1) cap) (s.pools.length+1) ((b9 s.pools ⟨l.a,l.n,l.o⟩).flatMap ak)/\Wc.grownBy w' vp.ownBlock/\∀ b,(Value.slice (some (At g 0)) (s.pools.length+1) cap).ownBlock=some b->vp.ownBlock=some b\/Wc.heap.size<=b):=fun Wc hW=>by
  refine(BE s.pools ⟨l.a,l.n,l.o⟩ vp Wc (au B.op hW) hI.pu (by have:=hI.p;omega)).mono ?_
  rintro e w' ⟨g,cap,rfl,o1,o2,o3,o4⟩
  exact⟨g,cap,rfl,o1,o2,fun b e=>by obtain rfl:g=b:=(by simpa[Value.ownBlock] using e);exact o3⟩
 have FIX:Hid (∀ (W:World) v,W.ownsRow 0 155 3 v (s.pools.length+1) ((b9 s.pools ⟨l.a,l.n,l.o⟩).flatMap ak)->W.ownsRow 0 155 3 v (b9 s.pools ⟨l.a,l.n,l.o⟩).length ((b9 s.pools ⟨l.a,l.n,l.o⟩).flatMap ak)):=fun W v q=>by rw[pB];exact q
 have NX:Hid (vp.ownBlock≠some x):=fun e=>((B.apart.1) x e).1 rfl
 have NR:Hid (∀ b,vp.ownBlock=some b->b<w.heap.size):=fun b e=>(cH B.op b e).1
 generalize hob:vp.ownBlock=ob at HIN NX NR
 have HOB:Hid (vp.ownBlock=ob):=hob
 clear hob;obtain⟨b_vp,c_vp,e_vp,_,_⟩:=ae B.op;subst e_vp;have h5:¬(6:Int)<=(s.pools.length:Int):=by omega
 clear B;unfold lnC;go_enter func69,ntmps69
 go_wp2;go_region_held3 (fun w'=>w'.cell? (At x 0)=some (.slice b_vp s.pools.length c_vp)/\w'.cell? (At w.heap.size 3)=some (.int .u32 l.a)/\w'.cell? (At w.heap.size 4)=some (.int .i64 l.n)) (go_keep) (first|(go_at_call 103;refine(HP.o _ upB).mono ?_;rintro e w1 ⟨rfl,HQ⟩;have HB1:Hid (BW w l w1):=al upB (by simp) HQ;clear HQ;have HW1:Hid (Bl w w1):=(ab w l).trans (HB1.o.mono om);have LV1:=LIVE.o w1 HB1.o;have x0_1:=LV1.x0;have f0_1:=LV1.f0;have o_1:=LV1.o;have a_1:=LV1.a;have n_1:=LV1.n;have zx_1:=LV1.zx;have z0_1:=LV1.z0;have z1_1:=LV1.z1;have r0_1:=LV1.r0;have r1_1:=LV1.r1;have g0_1:=LV1.g0;have g1_1:=LV1.g1;clear LV1))
 all_goals (
  go_wp2;go_region_with (go_at_call 104;refine(HIN.o _ (by have hp:=HW1.o;exact upB)).mono ?_;rintro e w2 ⟨g2,cap2,rfl,o1,o2,o3⟩;have LV2:=(LIVE.o _ (by have hp:=HB1.o;exact upB)).far o2 NX.o NR.o;have HG:Hid (∃ Wc,Bl w Wc/\w.heap.size+2<=Wc.heap.size/\Wc.grownBy w2 ob/\∀ b,(Value.slice (some (At g2 0)) (s.pools.length+1) cap2).ownBlock=some b->ob=some b\/Wc.heap.size<=b):=⟨_,by have hp:=HW1.o;exact upB,by have hz:=HB1.o.size;simp at hz ⊢;omega,o2,o3⟩;have HO:Hid (w2.ownsRow 0 155 3 (.slice (some (At g2 0)) (s.pools.length+1) cap2) (s.pools.length+1) ((b9 s.pools ⟨l.a,l.n,l.o⟩).flatMap ak)):=o1;have RB2:Hid (Blk w2 (w.heap.size+1) #[.int .i64 0,.slice none 0 0] 98):=LV2.rb;have x_2:=LV2.x0;have f_2:=LV2.f0;have a_2:=LV2.a;have n_2:=LV2.n;have o_2:=LV2.o;have zx_2:=LV2.zx;have z1_2:=LV2.z1;clear LV2 o1 o2 o3)
  all_goals (
   go_wp2_with (go_at_call 105;refine(eU none 0 0 _).mono ?_;rintro e w4 ⟨rfl,HQ⟩;have HQ4:Hid (Below w2.heap.size (w2.setCell (At x 0) (.slice (some (At g2 0)) (s.pools.length+1) cap2)) w4):=HQ.mono (by simp[World.setCell]);have RB4:Blk w4 (w.heap.size+1) #[.int .i64 0,.slice none 0 0] 98:=(HQ4.o.block _ z1_2).trans ((Below.heap_setCell _ _ _ _ (fun e=>by have e2:w.heap.size+1=x:=e;omega)).trans RB2.o);clear HQ;have HR4:Hid (Blk w4 (w.heap.size+1) #[.int .i64 0,.slice none 0 0] 98):=RB4;have r0_4:w4.cell? (At (w.heap.size+1) 0)=some (.int .i64 0):=RB4.cell 0;have r1_4:w4.cell? (At (w.heap.size+1) 1)=some (.slice none 0 0):=RB4.cell 1;have g0_4:w4.frozen? (At (w.heap.size+1) 0)=false:=RB4.frozen 0;have g1_4:w4.frozen? (At (w.heap.size+1) 1)=false:=RB4.frozen 1;clear RB4)
   obtain⟨kk0,kk1⟩:=ax HR4.o (.int .i64 0) (.slice none 0 0)
   obtain⟨Wc,hc1,hc2,hc3,hc4⟩:=HG.o;rw[<- HOB.o] at hc3 hc4;have hfin:=qf HBA.o hc1 hc2 hc3 (FIX.o _ _ HO.o) hc4 HQ4.o
   exact bodyPost_ret (v:=.agg #[.int .i64 0,.slice none 0 0]) (by simp[results,results69,go_sem,kk0,kk1]) rfl hfin))
theorem oC(w:World)(x:Nat)(S:Nat->Prop)(s:Bk)(l:Ln)(hI:Inv s)(hL:aY l)(h:aq w x S s):Calls prog 69 #[.pointer (some (At x 0)),.agg (lnC l)] w (Res w x S (cr s l)):=by
 unfold cr;by_cases h1:l.n<8\/30<l.n
 ·rw[if_pos h1];exact rD w x S s l hI hL h h1
 ·rw[if_neg h1];have n1:¬l.n<8:=by omega
  have n2:¬30<l.n:=by omega
  by_cases h3:aU s.pools l.a l.n=true
  ·rw[if_pos h3];exact vY w x S s l hI hL h n1 n2 h3
  ·rw[if_neg h3];by_cases h4:6<=s.pools.length
   ·rw[if_pos h4];exact td w x S s l hI hL h n1 n2 (by simpa using h3) h4
   ·rw[if_neg h4];exact BI w x S s l hI hL h n1 n2 (by simpa using h3) h4
theorem B7{w W w2:World}{x:Nat}{S:Nat->Prop}{vp vn vl:Value}{c:Nat}{s:Bk}(B:BA w x S vp vn vl c s)(hW:Bl w W)(g2:W.grownBy w2 vn.ownBlock){v':Value}{new:List Hd}
  (o:w2.ownsRow 0 195 3 v' new.length (new.flatMap ak)) (ho:∀ b,v'.ownBlock=some b->vn.ownBlock=some b\/W.heap.size<=b) :
  ∃ S',aq (w2.setCell (At x 1) v') x S' { s with nets:=new }/\(∀ b,S' b->S b\/w.heap.size<=b)/\Chg S w (w2.setCell (At x 1) v'):=by
 obtain⟨AP0,AP1,AP2⟩:=B.apart;have hx:=B.blk.lt;have hWs:=hW.size;have hx2:(w2.setCell (At x 1) v').heap.size=w2.heap.size:=by simp[World.setCell]
 have hfin:∀ b,b≠x->(w2.setCell (At x 1) v').heap[b]?=w2.heap[b]?:=fun b hbx=>Below.heap_setCell _ _ _ _ hbx
 have hold:∀ b,S b->b≠x->vn.ownBlock≠some b->(w2.setCell (At x 1) v').heap[b]?=w.heap[b]?:=fun b hS hbx hv=>by
  have hb:=B.sz b hS;exact(hfin b hbx).trans ((g2.block b om (fun e=>hv e.symm)).trans (hW.block b hb))
 have hbk:Blk (w2.setCell (At x 1) v') x #[vp,v',vl] 160:=by
  have b1:Blk w2 x #[vp,vn,vl] 160:=(g2.block x om (fun e=>(AP1 x e.symm).1 rfl)).trans (B.blk.below hW)
  exact b1.set 1 v'
 refine⟨fun b=>S b\/v'.ownBlock=some b,⟨vp,v',vl,c,hbk,?_,?_,?_,?_,.inl B.sx,trivial,?_,?_,?_,?_⟩,?_,?_⟩
 ·trivial
 ·exact aK B.op fun b e=>hold b (B.sp b e) (AP0 b e).1 (AP0 b e).2.2.1
 ·refine aK o fun b e=>hfin b ?_
  rintro rfl
  rcases ho _ e with q|q
  ·exact(AP1 _ q).1 rfl
  ·omega
 ·exact aK B.ol fun b e=>hold b (B.sl b e) (AP2 b e).1 (AP2 b e).2.2.2
 ·exact fun b e=>.inl (B.sp b e)
 ·exact fun b e=>.inr e
 ·exact fun b e=>.inl (B.sl b e)
 ·rintro b (hb|hb)
  ·have:=B.sz b hb
   have:=g2.size
   rw[hx2];omega
  ·have:=(cH o b hb).1
   rw[hx2];omega
 ·rintro b (hb|hb)
  ·exact .inl hb
  ·rcases ho b hb with q|q
   ·exact .inl (B.sn b q)
   ·exact .inr om
 ·have c1:Chg S w W:=Chg.below hW
  have c2:Chg S W w2:=Chg.grown g2 fun b e=>B.sn b e
  exact(c1.trans c2 fun b e=>.inl e).sets x 1 [v'] (.inl B.sx)
theorem CA{w W w2:World}{x:Nat}{S:Nat->Prop}{vp vn vl:Value}{c:Nat}{s:Bk}(B:BA w x S vp vn vl c s)(hW:Bl w W)(g2:W.grownBy w2 vl.ownBlock){v':Value}{new:List Ls}
  (o:w2.ownsRow 0 208 2 v' new.length (new.flatMap bh)) (ho:∀ b,v'.ownBlock=some b->vl.ownBlock=some b\/W.heap.size<=b) :
  ∃ S',aq (w2.setCell (At x 2) v') x S' { s with leases:=new }/\(∀ b,S' b->S b\/w.heap.size<=b)/\Chg S w (w2.setCell (At x 2) v'):=by
 obtain⟨AP0,AP1,AP2⟩:=B.apart;have hx:=B.blk.lt;have hWs:=hW.size;have hx2:(w2.setCell (At x 2) v').heap.size=w2.heap.size:=by simp[World.setCell]
 have hfin:∀ b,b≠x->(w2.setCell (At x 2) v').heap[b]?=w2.heap[b]?:=fun b hbx=>Below.heap_setCell _ _ _ _ hbx
 have hold:∀ b,S b->b≠x->vl.ownBlock≠some b->(w2.setCell (At x 2) v').heap[b]?=w.heap[b]?:=fun b hS hbx hv=>by
  have hb:=B.sz b hS;exact(hfin b hbx).trans ((g2.block b om (fun e=>hv e.symm)).trans (hW.block b hb))
 have hbk:Blk (w2.setCell (At x 2) v') x #[vp,vn,v'] 160:=by
  have b1:Blk w2 x #[vp,vn,vl] 160:=(g2.block x om (fun e=>(AP2 x e.symm).1 rfl)).trans (B.blk.below hW)
  exact b1.set 2 v'
 refine⟨fun b=>S b\/v'.ownBlock=some b,⟨vp,vn,v',c,hbk,?_,?_,?_,?_,.inl B.sx,trivial,?_,?_,?_,?_⟩,?_,?_⟩
 ·trivial
 ·exact aK B.op fun b e=>hold b (B.sp b e) (AP0 b e).1 (AP0 b e).2.2.2
 ·exact aK B.on fun b e=>hold b (B.sn b e) (AP1 b e).1 (AP1 b e).2.2.2
 ·refine aK o fun b e=>hfin b ?_
  rintro rfl
  rcases ho _ e with q|q
  ·exact(AP2 _ q).1 rfl
  ·omega
 ·exact fun b e=>.inl (B.sp b e)
 ·exact fun b e=>.inl (B.sn b e)
 ·exact fun b e=>.inr e
 ·rintro b (hb|hb)
  ·have:=B.sz b hb
   have:=g2.size
   rw[hx2];omega
  ·have:=(cH o b hb).1
   rw[hx2];omega
 ·rintro b (hb|hb)
  ·exact .inl hb
  ·rcases ho b hb with q|q
   ·exact .inl (B.sl b q)
   ·exact .inr om
 ·have c1:Chg S w W:=Chg.below hW
  have c2:Chg S W w2:=Chg.grown g2 fun b e=>B.sl b e
  exact(c1.trans c2 fun b e=>.inl e).sets x 2 [v'] (.inl B.sx)
theorem yY(l:List Ls)(h:Ls):(dN l h).length=l.length+1:=by
 have hle:bL l h.a<=l.length:=List.countP_le_length
 unfold dN;simp;omega
theorem hO(w:World)(x:Nat)(S:Nat->Prop)(s:Bk)(a n:Int)(o:Ba)(hI:Inv s)(h:aq w x S s):Calls prog 112 #[.pointer (some (At x 0)),.agg #[.int .u32 a,.int .i64 n],.string o] w fun e w'=>e=.returned (.tuple #[])/\∃ S',aq w' x S' { s with nets:=b9 s.nets ⟨a,n,o⟩ }/\(∀ b,S' b->S b\/w.heap.size<=b)/\Chg S w w':=by
 obtain⟨vp,vn,vl,c,B⟩:=h;have hx:=B.blk.lt;have HBA:Hid (BA w x S vp vn vl c s):=B
 have x1:w.cell? (At x 1)=some vn:=B.blk.cell 1
 have HX:Hid (∀ W w2,Bl w W->W.grownBy w2 vn.ownBlock->w2.cell? (At x 1)=some vn/\w2.frozen? (At x 1)=false):=fun W w2 hW hg=>by
  have b1:Blk w2 x #[vp,vn,vl] 160:=(hg.block x (Nat.lt_of_lt_of_le hx hW.size) (fun e=>(B.apart.2.1 x e.symm).1 rfl)).trans (B.blk.below hW)
  exact⟨b1.cell 1,b1.frozen 1⟩
 have HIN:Hid (∀ Wc,Bl w Wc->Calls prog 162 #[vn,.agg #[.int .u32 a,.int .i64 n,.string o]] Wc fun e w'=>∃ g cap,e=.returned (.slice (some (At g 0)) (s.nets.length+1) cap)/\w'.ownsRow 0 195 3 (.slice (some (At g 0)) (s.nets.length+1) cap) (s.nets.length+1) ((b9 s.nets ⟨a,n,o⟩).flatMap ak)/\Wc.grownBy w' vn.ownBlock/\∀ b,(Value.slice (some (At g 0)) (s.nets.length+1) cap).ownBlock=some b->vn.ownBlock=some b\/Wc.heap.size<=b):=fun Wc hW=>by
  refine(BR s.nets ⟨a,n,o⟩ vn Wc (au B.on hW) hI.nu (by have:=hI.n;omega)).mono ?_
  rintro e w' ⟨g,cap,rfl,o1,o2,o3,o4⟩
  exact⟨g,cap,rfl,o1,o2,fun b e=>by obtain rfl:g=b:=(by simpa[Value.ownBlock] using e);exact o3⟩
 have FIX:Hid (∀ (W:World) v,W.ownsRow 0 195 3 v (s.nets.length+1) ((b9 s.nets ⟨a,n,o⟩).flatMap ak)->W.ownsRow 0 195 3 v (b9 s.nets ⟨a,n,o⟩).length ((b9 s.nets ⟨a,n,o⟩).flatMap ak)):=fun W v q=>by rw[pB];exact q
 generalize hob:vn.ownBlock=ob at HIN HX
 have HOB:Hid (vn.ownBlock=ob):=hob
 clear hob;obtain⟨bq,cq,eq,_,_⟩:=ae B.on;subst eq;clear B hI;go_enter func112,ntmps112
 go_wp2;go_region_with (go_at_call 162;refine(HIN.o _ upB).mono ?_;rintro e w2 ⟨g2,cap2,rfl,o1,o2,o3⟩;obtain⟨y1,y2⟩:=HX.o _ w2 upB o2;have HG:Hid (∃ Wc,Bl w Wc/\Wc.grownBy w2 ob/\∀ b,(Value.slice (some (At g2 0)) (s.nets.length+1) cap2).ownBlock=some b->ob=some b\/Wc.heap.size<=b):=⟨_,upB,o2,o3⟩;have HO:Hid (w2.ownsRow 0 195 3 (.slice (some (At g2 0)) (s.nets.length+1) cap2) (s.nets.length+1) ((b9 s.nets ⟨a,n,o⟩).flatMap ak)):=o1;clear o1 o2 o3)
 all_goals (
  go_wp2;first|go_end0|refine bodyPost_ret (results_none rfl _ _ _) rfl ?_
  obtain⟨Wc,hc1,hc3,hc4⟩:=HG.o;rw[<- HOB.o] at hc3 hc4;exact⟨rfl,B7 HBA.o hc1 hc3 (FIX.o _ _ HO.o) hc4⟩)
theorem jm(w:World)(x:Nat)(S:Nat->Prop)(s:Bk)(a:Int)(o:Ba)(hI:Inv s)(h:aq w x S s):Calls prog 120 #[.pointer (some (At x 0)),.int .u32 a,.string o] w fun e w'=>e=.returned (.tuple #[])/\∃ S',aq w' x S' { s with leases:=dN s.leases ⟨a,o⟩ }/\(∀ b,S' b->S b\/w.heap.size<=b)/\Chg S w w':=by
 obtain⟨vp,vn,vl,c,B⟩:=h;have hx:=B.blk.lt;have hk:∀ q:Ls,(bh q).length=2:=fun _=>rfl
 have HBA:Hid (BA w x S vp vn vl c s):=B
 have x2:w.cell? (At x 2)=some vl:=B.blk.cell 2
 have HX:Hid (∀ W w2,Bl w W->W.grownBy w2 vl.ownBlock->w2.cell? (At x 2)=some vl/\w2.frozen? (At x 2)=false):=fun W w2 hW hg=>by
  have b1:Blk w2 x #[vp,vn,vl] 160:=(hg.block x (Nat.lt_of_lt_of_le hx hW.size) (fun e=>(B.apart.2.2 x e.symm).1 rfl)).trans (B.blk.below hW)
  exact⟨b1.cell 2,b1.frozen 2⟩
 have HF:Hid (Cr prog 125 #[.pointer (some (At x 0)),.int .u32 a] w (.tuple #[.int .i64 (bL s.leases a:Nat),.bool (dh s.leases a)])):=dV x s.leases a vl w x2 (Rd.of_owns hk ls0 B.ol) (by have:=hI.l;omega) hI.lu
 have hle:bL s.leases a<=s.leases.length:=List.countP_le_length
 have hob:∀ b,vl.ownBlock=some b->b<w.heap.size:=fun b e=>(cH B.ol b e).1
 have HIN:Hid (∀ Wc vb,Bl w Wc->w.heap.size<=vb->Blk Wc vb #[.int .u32 a,.string o] 208->Calls prog 169 #[vl,.int .i64 (bL s.leases a:Nat),.slice (some (At vb 0)) 1 1] Wc fun e w'=>∃ g cap,e=.returned (.slice (some (At g 0)) (s.leases.length+1) cap)/\w'.ownsRow 0 208 2 (.slice (some (At g 0)) (s.leases.length+1) cap) (s.leases.length+1) ((dN s.leases ⟨a,o⟩).flatMap bh)/\Wc.grownBy w' vl.ownBlock/\∀ b,(Value.slice (some (At g 0)) (s.leases.length+1) cap).ownBlock=some b->vl.ownBlock=some b\/Wc.heap.size<=b):=fun Wc vb hW hvb hb=>by
  refine(FM (s.leases.flatMap bh) (bh ⟨a,o⟩) s.leases.length (bL s.leases a) vl vb Wc (au B.ol hW) hle (by have:=hI.l;omega) rfl hb (fun e=>by have:=hob vb e;omega) (Gd ⟨a,o⟩) (FY s.leases)).mono ?_
  rintro e w' ⟨g,cap,rfl,o1,o2,o3,o4⟩
  refine⟨g,cap,rfl,?_,o2,fun b e=>by obtain rfl:g=b:=(by simpa[Value.ownBlock] using e);exact o3⟩
  rw[gV hk,gQ hk] at o1;unfold dN;rw[List.flatMap_append,List.flatMap_cons,<- List.append_assoc];exact o1
 have FIX:Hid (∀ (W:World) v,W.ownsRow 0 208 2 v (s.leases.length+1) ((dN s.leases ⟨a,o⟩).flatMap bh)->W.ownsRow 0 208 2 v (dN s.leases ⟨a,o⟩).length ((dN s.leases ⟨a,o⟩).flatMap bh)):=fun W v q=>by rw[yY];exact q
 clear hob;generalize hob:vl.ownBlock=ob at HIN HX
 have HOB:Hid (vl.ownBlock=ob):=hob
 clear hob;generalize bL s.leases a=cn at HF HIN hle
 generalize dh s.leases a=fb at HF
 obtain⟨bq,cq,eq,_,_⟩:=ae B.ol;subst eq;clear B hI;go_enter func120,ntmps120
 go_wp2_with (first|(go_at_call 125;refine HF.o.mono ?_;rintro e w1 ⟨rfl,hb1⟩;have HB1:Hid (Bl w w1):=hb1;have y0:w1.cell? (At x 2)=some (.slice bq s.leases.length cq):=(hb1.cell (p:=At x 2) hx).trans x2;clear hb1)|(go_at_call 169;refine(HIN.o _ _ (Below.alloc HB1.o HB1.o.size _) HB1.o.size (Blk.new w1 _ _)).mono ?_;rintro e w2 ⟨g2,cap2,rfl,o1,o2,o3⟩;obtain⟨y1,y2⟩:=HX.o _ w2 (Below.alloc HB1.o HB1.o.size _) o2;have HG:Hid (∃ Wc,Bl w Wc/\Wc.grownBy w2 ob/\∀ b,(Value.slice (some (At g2 0)) (s.leases.length+1) cap2).ownBlock=some b->ob=some b\/Wc.heap.size<=b):=⟨_,Below.alloc HB1.o HB1.o.size _,o2,o3⟩;have HO:Hid (w2.ownsRow 0 208 2 (.slice (some (At g2 0)) (s.leases.length+1) cap2) (s.leases.length+1) ((dN s.leases ⟨a,o⟩).flatMap bh)):=o1;clear o1 o2 o3))
 first|go_end0|refine bodyPost_ret (results_none rfl _ _ _) rfl ?_
 obtain⟨Wc,hc1,hc3,hc4⟩:=HG.o;rw[<- HOB.o] at hc3 hc4;exact⟨rfl,CA HBA.o hc1 hc3 (FIX.o _ _ HO.o) hc4⟩
end
end Go.Proofs.YtjnhhnbgjjkkjaaGreatDoor
