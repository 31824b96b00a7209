import Derived.Test.YtjnhhnbgjjkkjaaGreatDoorRePBM
set_option linter.all false
set_option maxRecDepth 100000
set_option maxHeartbeats 2000000
namespace Go.Proofs.YtjnhhnbgjjkkjaaGreatDoor
open Go.ChangeShapes Go.WideShapes Go.ChangeAt Go.RowKit Go.Proofs.Tryz
theorem xG(l:List Hd)(v:Value)(w:World)(hE:Env w)(hr:Rd 3 ak hd0 w v l)(hn:l.length<=1000)(hi:∀ h,h∈l->ad h.a/\rt h.a h.n=true/\h.o.size<=8):Calls prog 77 #[v] w fun e w'=>∃ v',e=.returned (.agg #[I6 0,v'])/\Rd 1 bV ⟨#[]⟩ w' v' (l.map fun h=>⟨(bJ h).toArray⟩)/\(∀ q,v'.ownBlock=some q->w.heap.size<=q)/\Bl w w':=by
 obtain⟨b,cap,rfl,h1,h2,h3⟩:=hr;have hrow:Hid (∀ W,Bl w W->∀ j,j<l.length->∃ g,b=some (At g 0)/\W.cell? (At g (j*3))=some (U3 (l.getD j hd0).a)/\W.cell? (At g (j*3+1))=some (I6 (l.getD j hd0).n)/\W.cell? (At g (j*3+2))=some (.string (l.getD j hd0).o)):=fun W hW j hj=>by
  obtain⟨g,hg,hlt,hc⟩:=h3 (by intro e;rw[e] at hj;simp at hj)
  have hc:=hc j hj;exact⟨g,hg,(hW.cell (p:=At g (j*3)) hlt).trans (hc 0 _ rfl),(hW.cell (p:=At g (j*3+1)) hlt).trans (hc 1 _ rfl),(hW.cell (p:=At g (j*3+2)) hlt).trans (hc 2 _ rfl)⟩
 have HT:Hid (∀ j,j<l.length->∀ Wc,Bl w Wc->Cr prog 294 #[vH (l.getD j hd0)] Wc (.string ⟨(bJ (l.getD j hd0)).toArray⟩)):=fun j hj Wc hW=>by
  have q:=hi _ (aJ l hd0 j hj)
  exact m9 (l.getD j hd0) Wc (hE.mono hW) q.1 q.2.1 q.2.2
 have HM:Hid (∀ j,j<l.length->(l.take (j+1)).map (fun h=>(⟨(bJ h).toArray⟩:Bz))=(l.take j).map (fun h=>(⟨(bJ h).toArray⟩:Bz))++[⟨(bJ (l.getD j hd0)).toArray⟩]):=fun j hj=>by
  rw[List.take_succ_eq_append_getElem hj,List.map_append,List.getD_eq_getElem?_getD,List.getElem?_eq_getElem hj];rfl
 obtain⟨i0,hi0,hz0,hz1,hz2⟩:=info_parts f9;have hmk:∀ w,(Instr.makeSlice 31 (I6 0) (I6 (l.length:Int))).run prog w=.ok (Sq w.heap.size 0 l.length) (w.alloc (.cells (madeCells #[.string ByteArray.empty] l.length) 9)):=fun w=>run_make_room (P:=prog) 31 9 (.string ByteArray.empty) 16 underlying31 f9 rfl .i64 .i64 l.length om om w
 generalize (fun h:Hd=>(⟨(bJ h).toArray⟩:Bz))=f at HM ⊢
 clear h1 h2 h3 hi hE;go_enter func77,ntmps77
 go_wp2;go_loopg [3,5,11] l.length (fun gg s3 _ s11 wr=>∃ k:Nat,k<=l.length/\l.length-k<=gg/\s11=I6 k/\Hid (Below (w.heap.size+1) (w.alloc (.cells #[I6 0,.slice none 0 0] 98)) wr)/\Hid (wr.ownsRow (w.heap.size+1) 9 1 s3 k (((l.take k).map f).flatMap bV)))
 case atStart =>
  have q0:=Blk.new (w.alloc (.cells #[I6 0,.slice none 0 0] 98)) (madeCells #[.string ByteArray.empty] l.length) 9
  rw[show (w.alloc (.cells #[I6 0,.slice none 0 0] 98)).heap.size=w.heap.size+1 by simp] at q0
  have e2:World.ownsRow ((w.alloc (.cells #[I6 0,.slice none 0 0] 98)).alloc (.cells (madeCells #[.string ByteArray.empty] l.length) 9)) (w.heap.size+1) 9 1 (Sq (w.heap.size+1) 0 l.length) 0 (((l.take 0).map f).flatMap bV):=⟨rfl,.inr ⟨w.heap.size+1,l.length,_,rfl,Nat.le_refl _,q0,Nat.zero_le _,by unfold maxLen;omega,by simp[madeCells],by simp⟩⟩
  exact⟨0,Nat.zero_le _,by omega,rfl,((Below.refl _ _).alloc sM _:Below (w.heap.size+1) _ _),e2⟩
 case round =>
  obtain⟨k,hk,hg,rfl,BW,O⟩:=hrel;have zw:w.heap.size+1<=wr.heap.size:=by have:=BW.o.size;simp at this;omega
  have BW2:Hid (Bl w wr):=bup upB (BW.o.mono sM)
  obtain⟨b3,c3,rfl,hn3,hm3⟩:=ae O.o;by_cases hlt:k<l.length
  ·obtain⟨g,rfl,k0,k1,k2⟩:=hrow.o wr BW2.o k hlt;have hcall:=HT.o k hlt;have hm:=HM.o k hlt;generalize l.getD k hd0=y at k0 k1 k2 hcall hm
   have HC:Hid (∀ Wc,Bl w Wc->Cr prog 294 #[vH y] Wc (.string (⟨(bJ y).toArray⟩))):=hcall
   generalize (⟨(bJ y).toArray⟩:Bz)=t at HC hm
   have HMK:Hid ((l.take (k+1)).map f=(l.take k).map f++[t]):=hm
   clear hcall hm hrow HT HM hmk;unfold vH at HC;have HO:Hid (∀ wz,Bl wr wz->wz.ownsRow (w.heap.size+1) 9 1 (.slice b3 k c3) k (((l.take k).map f).flatMap bV)):=fun wz hz=>av O.o hz
   have HOB:Hid (∀ b,(Value.slice b3 k c3).ownBlock=some b->w.heap.size+1<=b):=bc O.o
   generalize hl5:((l.take k).map f).flatMap bV=l5 at HO
   have HL5:Hid (((l.take k).map f).flatMap bV=l5):=hl5
   have hltz:(k:Int)<(l.length:Int):=by omega
   clear hl5 O;go_wp2_with (first|(go_at_call 294;refine Mo (HC.o _ (by have hp:=BW2.o;exact upB)) fun w2 hb2=>?_;have HB2:Hid (Bl wr w2):=bup upB hb2;clear hb2)|(at_builtin;refine wpList_append_lies _ rfl _ _ 31 rfl (w.heap.size+1) 9 i0 _ 1 16 underlying31 hi0 hz0 hz1 hz2 rfl dE (.slice b3 k c3) k l5 rfl (HO.o _ (Below.alloc HB2.o HB2.o.size _)) (At w2.heap.size 0) 1 1 [.string t] rfl rfl (fun j u hj=>by rw[Addr.add_lit,Nat.zero_add];match j,hj with|0,hj=>simp at hj;rw[<- hj];simp[go_sem]|j+1,hj=>simp at hj) (by intro u hu;simp at hu;rw[hu];rfl) om (by unfold maxLen;omega) om (by have:=HB2.o.size;simp;omega) _ rfl ?_;intro g3 cap3 w3 hown3 hgrow3 hat3 hlt3))
   go_roundg (l.length-(k+1))
   case measure=>omega
   case rel =>
    have hq:Below (w.heap.size+1) (w.alloc (.cells #[I6 0,.slice none 0 0] 98)) w3:=bu ((BW.o.trans (HB2.o.mono zw)).alloc (by have:=HB2.o.size;omega) _) hgrow3 HOB.o (by have:=HB2.o.size;simp;omega)
    have e1:Hid (Below (w.heap.size+1) (w.alloc (.cells #[I6 0,.slice none 0 0] 98)) w3):=hq
    have e3:w3.ownsRow (w.heap.size+1) 9 1 (Sq g3 (k+1) cap3) (k+1) (((l.take (k+1)).map f).flatMap bV):=by
     rw[HMK.o,List.flatMap_append,HL5.o];simpa[bV] using hown3
    have e2:Hid (w3.ownsRow (w.heap.size+1) 9 1 (Sq g3 (k+1) cap3) (k+1) (((l.take (k+1)).map f).flatMap bV)):=e3
    exact⟨k+1,by omega,by omega,by go_num,e1,e2⟩
  ·have hkl:k=l.length:=by omega
   subst hkl;rw[List.take_length] at O;have HOK:Hid (∀ Wc,Cr prog 105 #[.slice b3 l.length c3] Wc (.agg #[I6 0,.slice b3 l.length c3])):=fun Wc=>fc b3 l.length c3 Wc
   have RB:Hid (∀ Wc,Bl wr Wc->Blk Wc w.heap.size #[I6 0,.slice none 0 0] 98):=fun Wc hW=>(hW.block _ om).trans ((BW.o.block _ om).trans (Blk.new w _ _))
   clear hrow HT HM hmk;go_wp2_with (go_at_call 105;refine Mo (HOK.o _) fun w2 hb2=>?_;have HB2:Hid (Bl wr w2):=hb2;have rb:=RB.o w2 hb2;have r0:w2.cell? (At w.heap.size 0)=some (I6 0):=rb.cell 0;have r1:w2.cell? (At w.heap.size 1)=some (.slice none 0 0):=rb.cell 1;have r2:w2.frozen? (At w.heap.size 0)=false:=rb.frozen 0;have r3:w2.frozen? (At w.heap.size 1)=false:=rb.frozen 1;have HRB:Hid (Blk w2 w.heap.size #[I6 0,.slice none 0 0] 98):=rb;clear rb hb2)
   obtain⟨kk0,kk1⟩:=ay HRB.o (I6 0) (.slice b3 l.length c3)
   refine bodyPost_ret (v:=.agg #[I6 0,.slice b3 l.length c3]) (by simp[results,results77,go_sem,kk0,kk1]) rfl ⟨_,rfl,?_,fun q e=>by have:=bc O.o q e;omega,?_⟩
   ·have o2:=av O.o HB2.o;have o3:World.ownsRow ((w2.setCell (At w.heap.size 0) (I6 0)).setCell (At w.heap.size 1) (.slice b3 l.length c3)) (w.heap.size+1) 9 1 (.slice b3 l.length c3) (l.map f).length ((l.map f).flatMap bV):=by
     rw[List.length_map];exact aL o2 fun b e=>(aK w.heap.size [I6 0,.slice b3 l.length c3] 0 w2).2.2.2.2 b (by have:=bc O.o b e;omega)
    exact Rd.of_owns (k:=1) (enc:=bV) (fun _=>rfl) ⟨#[]⟩ o3
   ·have hp:=bup BW2.o HB2.o;exact upB
theorem xH(l:List Hd)(v:Value)(w:World)(hE:Env w)(hr:Rd 3 ak hd0 w v l)(hn:l.length<=1000)(hi:∀ h,h∈l->ad h.a/\rt h.a h.n=true/\h.o.size<=8):Calls prog 127 #[v] w fun e w'=>∃ v',e=.returned (.agg #[I6 0,v'])/\Rd 1 bV ⟨#[]⟩ w' v' (l.map fun h=>⟨(bJ h).toArray⟩)/\(∀ q,v'.ownBlock=some q->w.heap.size<=q)/\Bl w w':=by
 obtain⟨b,cap,rfl,h1,h2,h3⟩:=hr;have hrow:Hid (∀ W,Bl w W->∀ j,j<l.length->∃ g,b=some (At g 0)/\W.cell? (At g (j*3))=some (U3 (l.getD j hd0).a)/\W.cell? (At g (j*3+1))=some (I6 (l.getD j hd0).n)/\W.cell? (At g (j*3+2))=some (.string (l.getD j hd0).o)):=fun W hW j hj=>by
  obtain⟨g,hg,hlt,hc⟩:=h3 (by intro e;rw[e] at hj;simp at hj)
  have hc:=hc j hj;exact⟨g,hg,(hW.cell (p:=At g (j*3)) hlt).trans (hc 0 _ rfl),(hW.cell (p:=At g (j*3+1)) hlt).trans (hc 1 _ rfl),(hW.cell (p:=At g (j*3+2)) hlt).trans (hc 2 _ rfl)⟩
 have HT:Hid (∀ j,j<l.length->∀ Wc,Bl w Wc->Cr prog 294 #[vH (l.getD j hd0)] Wc (.string ⟨(bJ (l.getD j hd0)).toArray⟩)):=fun j hj Wc hW=>by
  have q:=hi _ (aJ l hd0 j hj)
  exact m9 (l.getD j hd0) Wc (hE.mono hW) q.1 q.2.1 q.2.2
 have HM:Hid (∀ j,j<l.length->(l.take (j+1)).map (fun h=>(⟨(bJ h).toArray⟩:Bz))=(l.take j).map (fun h=>(⟨(bJ h).toArray⟩:Bz))++[⟨(bJ (l.getD j hd0)).toArray⟩]):=fun j hj=>by
  rw[List.take_succ_eq_append_getElem hj,List.map_append,List.getD_eq_getElem?_getD,List.getElem?_eq_getElem hj];rfl
 obtain⟨i0,hi0,hz0,hz1,hz2⟩:=info_parts f9;have hmk:∀ w,(Instr.makeSlice 31 (I6 0) (I6 (l.length:Int))).run prog w=.ok (Sq w.heap.size 0 l.length) (w.alloc (.cells (madeCells #[.string ByteArray.empty] l.length) 9)):=fun w=>run_make_room (P:=prog) 31 9 (.string ByteArray.empty) 16 underlying31 f9 rfl .i64 .i64 l.length om om w
 generalize (fun h:Hd=>(⟨(bJ h).toArray⟩:Bz))=f at HM ⊢
 clear h1 h2 h3 hi hE;go_enter func127,ntmps127
 go_wp2;go_loopg [3,5,11] l.length (fun gg s3 _ s11 wr=>∃ k:Nat,k<=l.length/\l.length-k<=gg/\s11=I6 k/\Hid (Below (w.heap.size+1) (w.alloc (.cells #[I6 0,.slice none 0 0] 98)) wr)/\Hid (wr.ownsRow (w.heap.size+1) 9 1 s3 k (((l.take k).map f).flatMap bV)))
 case atStart =>
  have q0:=Blk.new (w.alloc (.cells #[I6 0,.slice none 0 0] 98)) (madeCells #[.string ByteArray.empty] l.length) 9
  rw[show (w.alloc (.cells #[I6 0,.slice none 0 0] 98)).heap.size=w.heap.size+1 by simp] at q0
  have e2:World.ownsRow ((w.alloc (.cells #[I6 0,.slice none 0 0] 98)).alloc (.cells (madeCells #[.string ByteArray.empty] l.length) 9)) (w.heap.size+1) 9 1 (Sq (w.heap.size+1) 0 l.length) 0 (((l.take 0).map f).flatMap bV):=⟨rfl,.inr ⟨w.heap.size+1,l.length,_,rfl,Nat.le_refl _,q0,Nat.zero_le _,by unfold maxLen;omega,by simp[madeCells],by simp⟩⟩
  exact⟨0,Nat.zero_le _,by omega,rfl,((Below.refl _ _).alloc sM _:Below (w.heap.size+1) _ _),e2⟩
 case round =>
  obtain⟨k,hk,hg,rfl,BW,O⟩:=hrel;have zw:w.heap.size+1<=wr.heap.size:=by have:=BW.o.size;simp at this;omega
  have BW2:Hid (Bl w wr):=bup upB (BW.o.mono sM)
  obtain⟨b3,c3,rfl,hn3,hm3⟩:=ae O.o;by_cases hlt:k<l.length
  ·obtain⟨g,rfl,k0,k1,k2⟩:=hrow.o wr BW2.o k hlt;have hcall:=HT.o k hlt;have hm:=HM.o k hlt;generalize l.getD k hd0=y at k0 k1 k2 hcall hm
   have HC:Hid (∀ Wc,Bl w Wc->Cr prog 294 #[vH y] Wc (.string (⟨(bJ y).toArray⟩))):=hcall
   generalize (⟨(bJ y).toArray⟩:Bz)=t at HC hm
   have HMK:Hid ((l.take (k+1)).map f=(l.take k).map f++[t]):=hm
   clear hcall hm hrow HT HM hmk;unfold vH at HC;have HO:Hid (∀ wz,Bl wr wz->wz.ownsRow (w.heap.size+1) 9 1 (.slice b3 k c3) k (((l.take k).map f).flatMap bV)):=fun wz hz=>av O.o hz
   have HOB:Hid (∀ b,(Value.slice b3 k c3).ownBlock=some b->w.heap.size+1<=b):=bc O.o
   generalize hl5:((l.take k).map f).flatMap bV=l5 at HO
   have HL5:Hid (((l.take k).map f).flatMap bV=l5):=hl5
   have hltz:(k:Int)<(l.length:Int):=by omega
   clear hl5 O;go_wp2_with (first|(go_at_call 294;refine Mo (HC.o _ (by have hp:=BW2.o;exact upB)) fun w2 hb2=>?_;have HB2:Hid (Bl wr w2):=bup upB hb2;clear hb2)|(at_builtin;refine wpList_append_lies _ rfl _ _ 31 rfl (w.heap.size+1) 9 i0 _ 1 16 underlying31 hi0 hz0 hz1 hz2 rfl dE (.slice b3 k c3) k l5 rfl (HO.o _ (Below.alloc HB2.o HB2.o.size _)) (At w2.heap.size 0) 1 1 [.string t] rfl rfl (fun j u hj=>by rw[Addr.add_lit,Nat.zero_add];match j,hj with|0,hj=>simp at hj;rw[<- hj];simp[go_sem]|j+1,hj=>simp at hj) (by intro u hu;simp at hu;rw[hu];rfl) om (by unfold maxLen;omega) om (by have:=HB2.o.size;simp;omega) _ rfl ?_;intro g3 cap3 w3 hown3 hgrow3 hat3 hlt3))
   go_roundg (l.length-(k+1))
   case measure=>omega
   case rel =>
    have hq:Below (w.heap.size+1) (w.alloc (.cells #[I6 0,.slice none 0 0] 98)) w3:=bu ((BW.o.trans (HB2.o.mono zw)).alloc (by have:=HB2.o.size;omega) _) hgrow3 HOB.o (by have:=HB2.o.size;simp;omega)
    have e1:Hid (Below (w.heap.size+1) (w.alloc (.cells #[I6 0,.slice none 0 0] 98)) w3):=hq
    have e3:w3.ownsRow (w.heap.size+1) 9 1 (Sq g3 (k+1) cap3) (k+1) (((l.take (k+1)).map f).flatMap bV):=by
     rw[HMK.o,List.flatMap_append,HL5.o];simpa[bV] using hown3
    have e2:Hid (w3.ownsRow (w.heap.size+1) 9 1 (Sq g3 (k+1) cap3) (k+1) (((l.take (k+1)).map f).flatMap bV)):=e3
    exact⟨k+1,by omega,by omega,by go_num,e1,e2⟩
  ·have hkl:k=l.length:=by omega
   subst hkl;rw[List.take_length] at O;have HOK:Hid (∀ Wc,Cr prog 105 #[.slice b3 l.length c3] Wc (.agg #[I6 0,.slice b3 l.length c3])):=fun Wc=>fc b3 l.length c3 Wc
   have RB:Hid (∀ Wc,Bl wr Wc->Blk Wc w.heap.size #[I6 0,.slice none 0 0] 98):=fun Wc hW=>(hW.block _ om).trans ((BW.o.block _ om).trans (Blk.new w _ _))
   clear hrow HT HM hmk;go_wp2_with (go_at_call 105;refine Mo (HOK.o _) fun w2 hb2=>?_;have HB2:Hid (Bl wr w2):=hb2;have rb:=RB.o w2 hb2;have r0:w2.cell? (At w.heap.size 0)=some (I6 0):=rb.cell 0;have r1:w2.cell? (At w.heap.size 1)=some (.slice none 0 0):=rb.cell 1;have r2:w2.frozen? (At w.heap.size 0)=false:=rb.frozen 0;have r3:w2.frozen? (At w.heap.size 1)=false:=rb.frozen 1;have HRB:Hid (Blk w2 w.heap.size #[I6 0,.slice none 0 0] 98):=rb;clear rb hb2)
   obtain⟨kk0,kk1⟩:=ay HRB.o (I6 0) (.slice b3 l.length c3)
   refine bodyPost_ret (v:=.agg #[I6 0,.slice b3 l.length c3]) (by simp[results,results127,go_sem,kk0,kk1]) rfl ⟨_,rfl,?_,fun q e=>by have:=bc O.o q e;omega,?_⟩
   ·have o2:=av O.o HB2.o;have o3:World.ownsRow ((w2.setCell (At w.heap.size 0) (I6 0)).setCell (At w.heap.size 1) (.slice b3 l.length c3)) (w.heap.size+1) 9 1 (.slice b3 l.length c3) (l.map f).length ((l.map f).flatMap bV):=by
     rw[List.length_map];exact aL o2 fun b e=>(aK w.heap.size [I6 0,.slice b3 l.length c3] 0 w2).2.2.2.2 b (by have:=bc O.o b e;omega)
    exact Rd.of_owns (k:=1) (enc:=bV) (fun _=>rfl) ⟨#[]⟩ o3
   ·have hp:=bup BW2.o HB2.o;exact upB
theorem xF(l:List Ls)(v:Value)(w:World)(hE:Env w)(hr:Rd 2 br ls0 w v l)(hn:l.length<=1000)(hi:∀ h,h∈l->ad h.a/\h.o.size<=8):Calls prog 128 #[v] w fun e w'=>∃ v',e=.returned (.agg #[I6 0,v'])/\Rd 1 bV ⟨#[]⟩ w' v' (l.map fun h=>⟨(dt h).toArray⟩)/\(∀ q,v'.ownBlock=some q->w.heap.size<=q)/\Bl w w':=by
 obtain⟨b,cap,rfl,h1,h2,h3⟩:=hr;have hrow:Hid (∀ W,Bl w W->∀ j,j<l.length->∃ g,b=some (At g 0)/\W.cell? (At g (j*2))=some (U3 (l.getD j ls0).a)/\W.cell? (At g (j*2+1))=some (.string (l.getD j ls0).o)):=fun W hW j hj=>by
  obtain⟨g,hg,hlt,hc⟩:=h3 (by intro e;rw[e] at hj;simp at hj)
  have hc:=hc j hj;exact⟨g,hg,(hW.cell (p:=At g (j*2)) hlt).trans (hc 0 _ rfl),(hW.cell (p:=At g (j*2+1)) hlt).trans (hc 1 _ rfl)⟩
 have HT:Hid (∀ j,j<l.length->∀ Wc,Bl w Wc->Cr prog 296 #[vL (l.getD j ls0)] Wc (.string ⟨(dt (l.getD j ls0)).toArray⟩)):=fun j hj Wc hW=>by
  have q:=hi _ (aJ l ls0 j hj)
  exact wB (l.getD j ls0) Wc (hE.mono hW) q.1 q.2
 have HM:Hid (∀ j,j<l.length->(l.take (j+1)).map (fun h=>(⟨(dt h).toArray⟩:Bz))=(l.take j).map (fun h=>(⟨(dt h).toArray⟩:Bz))++[⟨(dt (l.getD j ls0)).toArray⟩]):=fun j hj=>by
  rw[List.take_succ_eq_append_getElem hj,List.map_append,List.getD_eq_getElem?_getD,List.getElem?_eq_getElem hj];rfl
 obtain⟨i0,hi0,hz0,hz1,hz2⟩:=info_parts f9;have hmk:∀ w,(Instr.makeSlice 31 (I6 0) (I6 (l.length:Int))).run prog w=.ok (Sq w.heap.size 0 l.length) (w.alloc (.cells (madeCells #[.string ByteArray.empty] l.length) 9)):=fun w=>run_make_room (P:=prog) 31 9 (.string ByteArray.empty) 16 underlying31 f9 rfl .i64 .i64 l.length om om w
 generalize (fun h:Ls=>(⟨(dt h).toArray⟩:Bz))=f at HM ⊢
 clear h1 h2 h3 hi hE;go_enter func128,ntmps128
 go_wp2;go_loopg [3,5,11] l.length (fun gg s3 _ s11 wr=>∃ k:Nat,k<=l.length/\l.length-k<=gg/\s11=I6 k/\Hid (Below (w.heap.size+1) (w.alloc (.cells #[I6 0,.slice none 0 0] 98)) wr)/\Hid (wr.ownsRow (w.heap.size+1) 9 1 s3 k (((l.take k).map f).flatMap bV)))
 case atStart =>
  have q0:=Blk.new (w.alloc (.cells #[I6 0,.slice none 0 0] 98)) (madeCells #[.string ByteArray.empty] l.length) 9
  rw[show (w.alloc (.cells #[I6 0,.slice none 0 0] 98)).heap.size=w.heap.size+1 by simp] at q0
  have e2:World.ownsRow ((w.alloc (.cells #[I6 0,.slice none 0 0] 98)).alloc (.cells (madeCells #[.string ByteArray.empty] l.length) 9)) (w.heap.size+1) 9 1 (Sq (w.heap.size+1) 0 l.length) 0 (((l.take 0).map f).flatMap bV):=⟨rfl,.inr ⟨w.heap.size+1,l.length,_,rfl,Nat.le_refl _,q0,Nat.zero_le _,by unfold maxLen;omega,by simp[madeCells],by simp⟩⟩
  exact⟨0,Nat.zero_le _,by omega,rfl,((Below.refl _ _).alloc sM _:Below (w.heap.size+1) _ _),e2⟩
 case round =>
  obtain⟨k,hk,hg,rfl,BW,O⟩:=hrel;have zw:w.heap.size+1<=wr.heap.size:=by have:=BW.o.size;simp at this;omega
  have BW2:Hid (Bl w wr):=bup upB (BW.o.mono sM)
  obtain⟨b3,c3,rfl,hn3,hm3⟩:=ae O.o;by_cases hlt:k<l.length
  ·obtain⟨g,rfl,k0,k1⟩:=hrow.o wr BW2.o k hlt;have hcall:=HT.o k hlt;have hm:=HM.o k hlt;generalize l.getD k ls0=y at k0 k1 hcall hm
   have HC:Hid (∀ Wc,Bl w Wc->Cr prog 296 #[vL y] Wc (.string (⟨(dt y).toArray⟩))):=hcall
   generalize (⟨(dt y).toArray⟩:Bz)=t at HC hm
   have HMK:Hid ((l.take (k+1)).map f=(l.take k).map f++[t]):=hm
   clear hcall hm hrow HT HM hmk;unfold vL at HC;have HO:Hid (∀ wz,Bl wr wz->wz.ownsRow (w.heap.size+1) 9 1 (.slice b3 k c3) k (((l.take k).map f).flatMap bV)):=fun wz hz=>av O.o hz
   have HOB:Hid (∀ b,(Value.slice b3 k c3).ownBlock=some b->w.heap.size+1<=b):=bc O.o
   generalize hl5:((l.take k).map f).flatMap bV=l5 at HO
   have HL5:Hid (((l.take k).map f).flatMap bV=l5):=hl5
   have hltz:(k:Int)<(l.length:Int):=by omega
   clear hl5 O;go_wp2_with (first|(go_at_call 296;refine Mo (HC.o _ (by have hp:=BW2.o;exact upB)) fun w2 hb2=>?_;have HB2:Hid (Bl wr w2):=bup upB hb2;clear hb2)|(at_builtin;refine wpList_append_lies _ rfl _ _ 31 rfl (w.heap.size+1) 9 i0 _ 1 16 underlying31 hi0 hz0 hz1 hz2 rfl dE (.slice b3 k c3) k l5 rfl (HO.o _ (Below.alloc HB2.o HB2.o.size _)) (At w2.heap.size 0) 1 1 [.string t] rfl rfl (fun j u hj=>by rw[Addr.add_lit,Nat.zero_add];match j,hj with|0,hj=>simp at hj;rw[<- hj];simp[go_sem]|j+1,hj=>simp at hj) (by intro u hu;simp at hu;rw[hu];rfl) om (by unfold maxLen;omega) om (by have:=HB2.o.size;simp;omega) _ rfl ?_;intro g3 cap3 w3 hown3 hgrow3 hat3 hlt3))
   go_roundg (l.length-(k+1))
   case measure=>omega
   case rel =>
    have hq:Below (w.heap.size+1) (w.alloc (.cells #[I6 0,.slice none 0 0] 98)) w3:=bu ((BW.o.trans (HB2.o.mono zw)).alloc (by have:=HB2.o.size;omega) _) hgrow3 HOB.o (by have:=HB2.o.size;simp;omega)
    have e1:Hid (Below (w.heap.size+1) (w.alloc (.cells #[I6 0,.slice none 0 0] 98)) w3):=hq
    have e3:w3.ownsRow (w.heap.size+1) 9 1 (Sq g3 (k+1) cap3) (k+1) (((l.take (k+1)).map f).flatMap bV):=by
     rw[HMK.o,List.flatMap_append,HL5.o];simpa[bV] using hown3
    have e2:Hid (w3.ownsRow (w.heap.size+1) 9 1 (Sq g3 (k+1) cap3) (k+1) (((l.take (k+1)).map f).flatMap bV)):=e3
    exact⟨k+1,by omega,by omega,by go_num,e1,e2⟩
  ·have hkl:k=l.length:=by omega
   subst hkl;rw[List.take_length] at O;have HOK:Hid (∀ Wc,Cr prog 105 #[.slice b3 l.length c3] Wc (.agg #[I6 0,.slice b3 l.length c3])):=fun Wc=>fc b3 l.length c3 Wc
   have RB:Hid (∀ Wc,Bl wr Wc->Blk Wc w.heap.size #[I6 0,.slice none 0 0] 98):=fun Wc hW=>(hW.block _ om).trans ((BW.o.block _ om).trans (Blk.new w _ _))
   clear hrow HT HM hmk;go_wp2_with (go_at_call 105;refine Mo (HOK.o _) fun w2 hb2=>?_;have HB2:Hid (Bl wr w2):=hb2;have rb:=RB.o w2 hb2;have r0:w2.cell? (At w.heap.size 0)=some (I6 0):=rb.cell 0;have r1:w2.cell? (At w.heap.size 1)=some (.slice none 0 0):=rb.cell 1;have r2:w2.frozen? (At w.heap.size 0)=false:=rb.frozen 0;have r3:w2.frozen? (At w.heap.size 1)=false:=rb.frozen 1;have HRB:Hid (Blk w2 w.heap.size #[I6 0,.slice none 0 0] 98):=rb;clear rb hb2)
   obtain⟨kk0,kk1⟩:=ay HRB.o (I6 0) (.slice b3 l.length c3)
   refine bodyPost_ret (v:=.agg #[I6 0,.slice b3 l.length c3]) (by simp[results,results128,go_sem,kk0,kk1]) rfl ⟨_,rfl,?_,fun q e=>by have:=bc O.o q e;omega,?_⟩
   ·have o2:=av O.o HB2.o;have o3:World.ownsRow ((w2.setCell (At w.heap.size 0) (I6 0)).setCell (At w.heap.size 1) (.slice b3 l.length c3)) (w.heap.size+1) 9 1 (.slice b3 l.length c3) (l.map f).length ((l.map f).flatMap bV):=by
     rw[List.length_map];exact aL o2 fun b e=>(aK w.heap.size [I6 0,.slice b3 l.length c3] 0 w2).2.2.2.2 b (by have:=bc O.o b e;omega)
    exact Rd.of_owns (k:=1) (enc:=bV) (fun _=>rfl) ⟨#[]⟩ o3
   ·have hp:=bup BW2.o HB2.o;exact upB
def gv(w:World)(x:Nat)(S:Nat->Prop)(r:Bk×An)(e:Ending)(w':World):Prop:=Res w x S r e w'/\Bl w w'
theorem qS{w w9:World}{x:Nat}{S:Nat->Prop}{s:Bk}{l:Ln}(k:Nat)(h:au w x S s)(hb:BW w l w9):gv w x S (s,ref k) (.returned (.agg #[I6 k,.slice none 0 0])) ((w9.setCell (At (w.heap.size+1) 0) (I6 k)).setCell (At (w.heap.size+1) 1) (.slice none 0 0)):=by
 have h0:=(ab w l).trans (hb.mono om)
 have hz:=hb.size;simp at hz;exact⟨qT k h upB,upB⟩
theorem uP{w w4:World}{x:Nat}{S:Nat->Prop}{s:Bk}{l:Ln}(h:au w x S s)(hb:BW w l w4)(ans:An)(he:ans.e=0)(va:Value)(hrd:Rd 1 bV ⟨#[]⟩ w4 va ans.s)(hva:∀ b,va.ownBlock=some b->b≠w.heap.size+1):
  gv w x S (s,ans) (.returned (.agg #[I6 0,va])) ((w4.setCell (At (w.heap.size+1) 0) (I6 0)).setCell (At (w.heap.size+1) 1) va):=by
 have h0:=(ab w l).trans (hb.mono om)
 have hz:=hb.size;simp at hz;have hB:Bl w ((w4.setCell (At (w.heap.size+1) 0) (I6 0)).setCell (At (w.heap.size+1) 1) va):=upB
 have s1:=aK (w.heap.size+1) [I6 0,va] 0 w4
 refine⟨⟨va,S,by rw[he];rfl,?_,h.below hB,fun b q=>.inl q,Chg.below hB⟩,hB⟩
 obtain⟨bb,cap,e,h1,h2,h3⟩:=hrd;refine⟨bb,cap,e,h1,h2,fun hne=>?_⟩
 obtain⟨g,e2,hg,hc⟩:=h3 hne;have hgn:g≠w.heap.size+1:=hva g (by rw[e,e2];rfl)
 exact⟨g,e2,by rw[show ((w4.setCell (At (w.heap.size+1) 0) (I6 0)).setCell (At (w.heap.size+1) 1) va).heap.size=w4.heap.size from s1.2.2.2.1];exact hg,fun j hj i u hu=>(World.cell?_of_block (a:=At g (j*1+i)) (s1.2.2.2.2 g hgn)).trans (hc j hj i u hu)⟩
theorem wE(w:World)(x:Nat)(S:Nat->Prop)(s:Bk)(l:Ln)(hI:Inv s)(hL:aZ l)(h:au w x S s)(h1:ah s.pools l.a l.n=-1):Calls prog 78 #[Pq x,.agg (lnC l)] w (gv w x S (s,ref 7)):=by
 obtain⟨vp,vn,vl,c,B⟩:=h;have hx:=B.blk.lt;have H:Hid (au w x S s):=⟨vp,vn,vl,c,B⟩
 obtain⟨x0,x1,x2⟩:=B.c3;have LIVE:Hid (∀ wk,BW w l wk->cd w wk x vp vn vl l):=aO l B
 have HBA:Hid (BA w x S vp vn vl c s):=B
 have hxa:¬(x=w.heap.size):=by omega
 have hxb:¬(w.heap.size=x):=by omega
 have HF:Hid (∀ Wc,Bl w Wc->Cr prog 106 #[vp,.agg #[U3 l.a,I6 l.n]] Wc (I6 (ah s.pools l.a l.n))):=fun Wc hW=>gD s.pools l.a l.n vp Wc (fun q hq=>(hI.pa q hq).1) hL.a ((Rd.of_owns (k:=3) (enc:=ak) (fun _=>rfl) hd0 B.op).below hW)
 rw[h1] at HF;obtain⟨bq,cq,eq,_,_⟩:=ae B.op;subst eq;clear B;unfold lnC;go_enter func78,ntmps78
 go_wp2;go_region_held3 (fun w'=>w'.cell? (At x 0)=some (.slice bq s.pools.length cq)/\w'.cell? (At w.heap.size 3)=some (U3 l.a)/\w'.cell? (At w.heap.size 4)=some (I6 l.n)) (go_keep) (first|(go_at_call 106;refine Mo (HF.o _ upB) fun w1 HQ=>?_;have HB1:Hid (BW w l w1):=al upB sM HQ;clear HQ;have HW1:Hid (Bl w w1):=(ab w l).trans (HB1.o.mono om);obtain⟨x0_1,-,-,-,-,-,o_1,a_1,n_1,-,-,r0_1,r1_1,g0_1,g1_1,zx_1,z0_1,z1_1,-⟩:=LIVE.o w1 HB1.o))
 all_goals (
  go_wp2_with (go_at_call 39;refine Mo (az 7 _) fun w9 HQ=>?_;have HB9:Hid (BW w l w9):=al (by have hp:=HB1.o;exact upB) sM HQ;clear HQ;have HW9:Hid (Bl w w9):=(ab w l).trans (HB9.o.mono om);obtain⟨r0_9,r1_9,g0_9,g1_9,z1_9⟩:=(LIVE.o w9 HB9.o).q)
  have hR:=(LIVE.o w9 HB9.o).rb
  obtain⟨kk0,kk1⟩:=ay hR (I6 7) (.slice none 0 0)
  have hfin:=qS (l:=l) 7 H.o HB9.o
  exact bodyPost_ret (v:=.agg #[I6 7,.slice none 0 0]) (by simp[results,results78,go_sem,kk0,kk1]) rfl hfin)
theorem C9(w:World)(x:Nat)(S:Nat->Prop)(s:Bk)(l:Ln)(hI:Inv s)(hL:aZ l)(h:au w x S s)(hE:Env w)(k:Nat)(ok:Bz)(hk:k<s.pools.length)(h1:ah s.pools l.a l.n=k)(his:isH l.a l.n (s.pools.getD k hd0)=true)(hok:(s.pools.getD k hd0).o=ok):Calls prog 78 #[Pq x,.agg (lnC l)] w (gv w x S (s,⟨0,(af s.nets l.a l.n).map fun h=>⟨(bJ h).toArray⟩⟩)):=by
 obtain⟨vp,vn,vl,c,B⟩:=h;have hx:=B.blk.lt;have H:Hid (au w x S s):=⟨vp,vn,vl,c,B⟩
 obtain⟨x0,x1,x2⟩:=B.c3;have LIVE:Hid (∀ wk,BW w l wk->cd w wk x vp vn vl l):=aO l B
 have HBA:Hid (BA w x S vp vn vl c s):=B
 have hxa:¬(x=w.heap.size):=by omega
 have hxb:¬(w.heap.size=x):=by omega
 have HF:Hid (∀ Wc,Bl w Wc->Cr prog 106 #[vp,.agg #[U3 l.a,I6 l.n]] Wc (I6 (ah s.pools l.a l.n))):=fun Wc hW=>gD s.pools l.a l.n vp Wc (fun q hq=>(hI.pa q hq).1) hL.a ((Rd.of_owns (k:=3) (enc:=ak) (fun _=>rfl) hd0 B.op).below hW)
 rw[h1] at HF;have HSUB:Hid (∀ Wc,Bl w Wc->Calls prog 108 #[Pq x,.agg #[U3 l.a,I6 l.n,.string ok]] Wc fun e w'=>(∃ b c,e=.returned (.slice b (af s.nets l.a l.n).length c)/\Rd 3 ak hd0 w' (.slice b (af s.nets l.a l.n).length c) (af s.nets l.a l.n))/\Bl Wc w'):=fun Wc hW=>by
  refine(eh x s.nets ⟨l.a,l.n,ok⟩ vn Wc (Nat.lt_of_lt_of_le hx hW.size) ((hW.cell (p:=At x 1) hx).trans x1) ((Rd.of_owns (k:=3) (enc:=ak) (fun _=>rfl) hd0 B.on).below hW) (by have:=hI.n;omega) (fun q hq=>(hI.na q hq).1) hL.a).mono ?_
  rintro e w' ⟨vv,rfl,o1,o2⟩
  have o3:Rd 3 ak hd0 w' vv (af s.nets l.a l.n):=Rd.of_owns (k:=3) (enc:=ak) (fun _=>rfl) hd0 o1
  obtain⟨b,c,rfl,_,_⟩:=ae o1;exact⟨⟨b,c,rfl,o3⟩,o2⟩
 have HTE:Hid (∀ Wc v,Bl w Wc->Rd 3 ak hd0 Wc v (af s.nets l.a l.n)->Calls prog 127 #[v] Wc fun e w'=>(∃ b n c,e=.returned (.agg #[I6 0,.slice b n c])/\Rd 1 bV ⟨#[]⟩ w' (.slice b n c) ((af s.nets l.a l.n).map fun h=>⟨(bJ h).toArray⟩)/\∀ q,(Value.slice b n c).ownBlock=some q->Wc.heap.size<=q)/\Bl Wc w'):=fun Wc v hW hv=>by
  refine(xH (af s.nets l.a l.n) v Wc (hE.mono hW) hv (Nat.le_trans (List.length_filter_le _ _) (by have:=hI.n;omega)) (fun q hq=>by have hm:=hI.na q (List.mem_filter.1 hq).1;exact⟨hm.1,hm.2.1,hm.2.2.2⟩)).mono ?_
  rintro e w' ⟨vv,rfl,o1,o2,o3⟩
  obtain⟨b,c,e1,hh⟩:=o1;subst e1;exact⟨⟨b,_,c,rfl,⟨b,c,rfl,hh⟩,o2⟩,o3⟩
 have hkk:∀ q:Hd,(ak q).length=3:=fun _=>rfl
 have hrd:=Rd.of_owns hkk hd0 B.op;obtain⟨bq,cq,ev,hq1,hq2,hq3⟩:=hrd;obtain⟨gq,rfl,hq4,hq5⟩:=hq3 (by intro e;rw[e] at hk;simp at hk)
 have hk5:=hq5 k hk;have hk6:(s.pools.getD k hd0).a=l.a/\(s.pools.getD k hd0).n=l.n:=by simpa[isH] using his
 have ROW:Hid (∀ wk,Bl w wk->wk.cell? (At gq (k*3))=some (U3 l.a)/\wk.cell? (At gq (k*3+1))=some (I6 l.n)/\wk.cell? (At gq (k*3+2))=some (.string ok)):=fun wk hw =>
  ⟨(hw.cell (p:=At gq (k*3)) hq4).trans (by rw[<- hk6.1];exact hk5 0 _ rfl),(hw.cell (p:=At gq (k*3+1)) hq4).trans (by rw[<- hk6.2];exact hk5 1 _ rfl),(hw.cell (p:=At gq (k*3+2)) hq4).trans (by rw[<- hok];exact hk5 2 _ rfl)⟩
 have hkz:(k:Int)<(s.pools.length:Int):=by omega
 have hkn:¬((k:Int)<0):=by omega
 have hk0:(0:Int)<=(k:Int):=by omega
 clear hq1 hq2 hq5 hk5 hk6 his hok;subst ev;clear B;unfold lnC;go_enter func78,ntmps78
 go_wp2;go_region_held3 (fun w'=>w'.cell? (At x 0)=some (Sq gq s.pools.length cq)/\w'.cell? (At w.heap.size 3)=some (U3 l.a)/\w'.cell? (At w.heap.size 4)=some (I6 l.n)) (go_keep) (first|(go_at_call 106;refine Mo (HF.o _ upB) fun w1 HQ=>?_;have HB1:Hid (BW w l w1):=al upB sM HQ;clear HQ;have HW1:Hid (Bl w w1):=(ab w l).trans (HB1.o.mono om);obtain⟨x0_1,-,-,-,-,-,o_1,a_1,n_1,-,-,r0_1,r1_1,g0_1,g1_1,zx_1,z0_1,z1_1,-⟩:=LIVE.o w1 HB1.o;obtain⟨e0_1,e1_1,e2_1⟩:=ROW.o w1 HW1.o))
 all_goals (
  go_wp2_with (first|(go_at_call 108;refine(HSUB.o _ (by have hp:=HW1.o;exact upB)).mono ?_;rintro e w3 ⟨⟨bs,cs,rfl,HR3⟩,HQ⟩;have HB3:Hid (BW w l w3):=al (by have hp:=HB1.o;exact upB) sM HQ;clear HQ;have HW3:Hid (Bl w w3):=(ab w l).trans (HB3.o.mono om);obtain⟨x0_3,-,-,-,-,-,-,-,-,-,-,r0_3,r1_3,g0_3,g1_3,zx_3,z0_3,z1_3,-⟩:=LIVE.o w3 HB3.o;replace HR3:Hid _:=HR3)|(go_at_call 127;refine(HTE.o _ _ (by have hp:=HW3.o;exact upB) HR3.o).mono ?_;rintro e w4 ⟨⟨bt,nt,ct,rfl,HR4,HO4⟩,HQ⟩;have HB4:Hid (BW w l w4):=al (by have hp:=HB3.o;exact upB) sM HQ;clear HQ;have HW4:Hid (Bl w w4):=(ab w l).trans (HB4.o.mono om);obtain⟨x0_4,-,-,-,-,-,-,-,-,-,-,r0_4,r1_4,g0_4,g1_4,zx_4,z0_4,z1_4,-⟩:=LIVE.o w4 HB4.o;replace HR4:Hid _:=HR4;replace HO4:Hid _:=HO4))
  have hR:=(LIVE.o w4 HB4.o).rb
  obtain⟨kk0,kk1⟩:=ay hR (I6 0) (.slice bt nt ct)
  have hz3:=HB3.o.size;have hfin:=uP (l:=l) H.o HB4.o ⟨0,(af s.nets l.a l.n).map fun h=>⟨(bJ h).toArray⟩⟩ rfl (.slice bt nt ct) HR4.o (fun b e q=>by have:=HO4.o b e;simp at hz3;omega)
  exact bodyPost_ret (v:=.agg #[I6 0,.slice bt nt ct]) (by simp[results,results78,go_sem,kk0,kk1]) rfl hfin)
theorem kK(w:World)(x:Nat)(S:Nat->Prop)(s:Bk)(l:Ln)(hE:Env w)(hI:Inv s)(hL:aZ l)(h:au w x S s):Calls prog 78 #[Pq x,.agg (lnC l)] w (gv w x S (s,gy s l)):=by
 unfold gy;rcases aV (isH l.a l.n) s.pools hd0 with⟨e,_⟩|⟨k,hk,e,hp,_⟩
 ·have e1:ah s.pools l.a l.n=-1:=e
  rw[if_pos (by rw[e1];decide)];exact wE w x S s l hI hL h e1
 ·have e1:ah s.pools l.a l.n=k:=e
  rw[if_neg (by rw[e1];omega)]
  exact C9 w x S s l hI hL h hE k _ hk e1 hp rfl
theorem xM(w:World)(x:Nat)(S:Nat->Prop)(s:Bk)(l:Ln)(hI:Inv s)(hL:aZ l)(h:au w x S s)(h1:ah s.nets l.a l.n=-1):Calls prog 79 #[Pq x,.agg (lnC l)] w (gv w x S (s,ref 11)):=by
 obtain⟨vp,vn,vl,c,B⟩:=h;have hx:=B.blk.lt;have H:Hid (au w x S s):=⟨vp,vn,vl,c,B⟩
 obtain⟨x0,x1,x2⟩:=B.c3;have LIVE:Hid (∀ wk,BW w l wk->cd w wk x vp vn vl l):=aO l B
 have HBA:Hid (BA w x S vp vn vl c s):=B
 have hxa:¬(x=w.heap.size):=by omega
 have hxb:¬(w.heap.size=x):=by omega
 have HF:Hid (∀ Wc,Bl w Wc->Cr prog 116 #[vn,.agg #[U3 l.a,I6 l.n]] Wc (I6 (ah s.nets l.a l.n))):=fun Wc hW=>im s.nets l.a l.n vn Wc (fun q hq=>(hI.na q hq).1) hL.a ((Rd.of_owns (k:=3) (enc:=ak) (fun _=>rfl) hd0 B.on).below hW)
 rw[h1] at HF;obtain⟨bq,cq,eq,_,_⟩:=ae B.on;subst eq;clear B;unfold lnC;go_enter func79,ntmps79
 go_wp2;go_region_held3 (fun w'=>w'.cell? (At x 1)=some (.slice bq s.nets.length cq)/\w'.cell? (At w.heap.size 3)=some (U3 l.a)/\w'.cell? (At w.heap.size 4)=some (I6 l.n)) (go_keep) (first|(go_at_call 116;refine Mo (HF.o _ upB) fun w1 HQ=>?_;have HB1:Hid (BW w l w1):=al upB sM HQ;clear HQ;have HW1:Hid (Bl w w1):=(ab w l).trans (HB1.o.mono om);obtain⟨-,x1_1,-,-,-,-,o_1,a_1,n_1,-,-,r0_1,r1_1,g0_1,g1_1,zx_1,z0_1,z1_1,-⟩:=LIVE.o w1 HB1.o))
 all_goals (
  go_wp2_with (go_at_call 39;refine Mo (az 11 _) fun w9 HQ=>?_;have HB9:Hid (BW w l w9):=al (by have hp:=HB1.o;exact upB) sM HQ;clear HQ;have HW9:Hid (Bl w w9):=(ab w l).trans (HB9.o.mono om);obtain⟨r0_9,r1_9,g0_9,g1_9,z1_9⟩:=(LIVE.o w9 HB9.o).q)
  have hR:=(LIVE.o w9 HB9.o).rb
  obtain⟨kk0,kk1⟩:=ay hR (I6 11) (.slice none 0 0)
  have hfin:=qS (l:=l) 11 H.o HB9.o
  exact bodyPost_ret (v:=.agg #[I6 11,.slice none 0 0]) (by simp[results,results79,go_sem,kk0,kk1]) rfl hfin)
theorem DP(w:World)(x:Nat)(S:Nat->Prop)(s:Bk)(l:Ln)(hI:Inv s)(hL:aZ l)(h:au w x S s)(hE:Env w)(k:Nat)(ok:Bz)(hk:k<s.nets.length)(h1:ah s.nets l.a l.n=k)(his:isH l.a l.n (s.nets.getD k hd0)=true)(hok:(s.nets.getD k hd0).o=ok):Calls prog 79 #[Pq x,.agg (lnC l)] w (gv w x S (s,⟨0,(aw s.leases l.a l.n).map fun h=>⟨(dt h).toArray⟩⟩)):=by
 obtain⟨vp,vn,vl,c,B⟩:=h;have hx:=B.blk.lt;have H:Hid (au w x S s):=⟨vp,vn,vl,c,B⟩
 obtain⟨x0,x1,x2⟩:=B.c3;have LIVE:Hid (∀ wk,BW w l wk->cd w wk x vp vn vl l):=aO l B
 have HBA:Hid (BA w x S vp vn vl c s):=B
 have hxa:¬(x=w.heap.size):=by omega
 have hxb:¬(w.heap.size=x):=by omega
 have HF:Hid (∀ Wc,Bl w Wc->Cr prog 116 #[vn,.agg #[U3 l.a,I6 l.n]] Wc (I6 (ah s.nets l.a l.n))):=fun Wc hW=>im s.nets l.a l.n vn Wc (fun q hq=>(hI.na q hq).1) hL.a ((Rd.of_owns (k:=3) (enc:=ak) (fun _=>rfl) hd0 B.on).below hW)
 rw[h1] at HF;have HSUB:Hid (∀ Wc,Bl w Wc->Calls prog 117 #[Pq x,.agg #[U3 l.a,I6 l.n,.string ok]] Wc fun e w'=>(∃ b c,e=.returned (.slice b (aw s.leases l.a l.n).length c)/\Rd 2 br ls0 w' (.slice b (aw s.leases l.a l.n).length c) (aw s.leases l.a l.n))/\Bl Wc w'):=fun Wc hW=>by
  refine(eK x s.leases ⟨l.a,l.n,ok⟩ vl Wc (Nat.lt_of_lt_of_le hx hW.size) ((hW.cell (p:=At x 2) hx).trans x2) ((Rd.of_owns (k:=2) (enc:=br) (fun _=>rfl) ls0 B.ol).below hW) (by have:=hI.l;omega) (fun q hq=>(hI.la q hq).1) hL.a).mono ?_
  rintro e w' ⟨vv,rfl,o1,o2⟩
  have o3:Rd 2 br ls0 w' vv (aw s.leases l.a l.n):=Rd.of_owns (k:=2) (enc:=br) (fun _=>rfl) ls0 o1
  obtain⟨b,c,rfl,_,_⟩:=ae o1;exact⟨⟨b,c,rfl,o3⟩,o2⟩
 have HTE:Hid (∀ Wc v,Bl w Wc->Rd 2 br ls0 Wc v (aw s.leases l.a l.n)->Calls prog 128 #[v] Wc fun e w'=>(∃ b n c,e=.returned (.agg #[I6 0,.slice b n c])/\Rd 1 bV ⟨#[]⟩ w' (.slice b n c) ((aw s.leases l.a l.n).map fun h=>⟨(dt h).toArray⟩)/\∀ q,(Value.slice b n c).ownBlock=some q->Wc.heap.size<=q)/\Bl Wc w'):=fun Wc v hW hv=>by
  refine(xF (aw s.leases l.a l.n) v Wc (hE.mono hW) hv (Nat.le_trans (List.length_filter_le _ _) (by have:=hI.l;omega)) (fun q hq=>by have hm:=hI.la q (List.mem_filter.1 hq).1;exact⟨hm.1,hm.2⟩)).mono ?_
  rintro e w' ⟨vv,rfl,o1,o2,o3⟩
  obtain⟨b,c,e1,hh⟩:=o1;subst e1;exact⟨⟨b,_,c,rfl,⟨b,c,rfl,hh⟩,o2⟩,o3⟩
 have hkk:∀ q:Hd,(ak q).length=3:=fun _=>rfl
 have hrd:=Rd.of_owns hkk hd0 B.on;obtain⟨bq,cq,ev,hq1,hq2,hq3⟩:=hrd;obtain⟨gq,rfl,hq4,hq5⟩:=hq3 (by intro e;rw[e] at hk;simp at hk)
 have hk5:=hq5 k hk;have hk6:(s.nets.getD k hd0).a=l.a/\(s.nets.getD k hd0).n=l.n:=by simpa[isH] using his
 have ROW:Hid (∀ wk,Bl w wk->wk.cell? (At gq (k*3))=some (U3 l.a)/\wk.cell? (At gq (k*3+1))=some (I6 l.n)/\wk.cell? (At gq (k*3+2))=some (.string ok)):=fun wk hw =>
  ⟨(hw.cell (p:=At gq (k*3)) hq4).trans (by rw[<- hk6.1];exact hk5 0 _ rfl),(hw.cell (p:=At gq (k*3+1)) hq4).trans (by rw[<- hk6.2];exact hk5 1 _ rfl),(hw.cell (p:=At gq (k*3+2)) hq4).trans (by rw[<- hok];exact hk5 2 _ rfl)⟩
 have hkz:(k:Int)<(s.nets.length:Int):=by omega
 have hkn:¬((k:Int)<0):=by omega
 have hk0:(0:Int)<=(k:Int):=by omega
 clear hq1 hq2 hq5 hk5 hk6 his hok;subst ev;clear B;unfold lnC;go_enter func79,ntmps79
 go_wp2;go_region_held3 (fun w'=>w'.cell? (At x 1)=some (Sq gq s.nets.length cq)/\w'.cell? (At w.heap.size 3)=some (U3 l.a)/\w'.cell? (At w.heap.size 4)=some (I6 l.n)) (go_keep) (first|(go_at_call 116;refine Mo (HF.o _ upB) fun w1 HQ=>?_;have HB1:Hid (BW w l w1):=al upB sM HQ;clear HQ;have HW1:Hid (Bl w w1):=(ab w l).trans (HB1.o.mono om);obtain⟨-,x1_1,-,-,-,-,o_1,a_1,n_1,-,-,r0_1,r1_1,g0_1,g1_1,zx_1,z0_1,z1_1,-⟩:=LIVE.o w1 HB1.o;obtain⟨e0_1,e1_1,e2_1⟩:=ROW.o w1 HW1.o))
 all_goals (
  go_wp2_with (first|(go_at_call 117;refine(HSUB.o _ (by have hp:=HW1.o;exact upB)).mono ?_;rintro e w3 ⟨⟨bs,cs,rfl,HR3⟩,HQ⟩;have HB3:Hid (BW w l w3):=al (by have hp:=HB1.o;exact upB) sM HQ;clear HQ;have HW3:Hid (Bl w w3):=(ab w l).trans (HB3.o.mono om);obtain⟨-,x1_3,-,-,-,-,-,-,-,-,-,r0_3,r1_3,g0_3,g1_3,zx_3,z0_3,z1_3,-⟩:=LIVE.o w3 HB3.o;replace HR3:Hid _:=HR3)|(go_at_call 128;refine(HTE.o _ _ (by have hp:=HW3.o;exact upB) HR3.o).mono ?_;rintro e w4 ⟨⟨bt,nt,ct,rfl,HR4,HO4⟩,HQ⟩;have HB4:Hid (BW w l w4):=al (by have hp:=HB3.o;exact upB) sM HQ;clear HQ;have HW4:Hid (Bl w w4):=(ab w l).trans (HB4.o.mono om);obtain⟨-,x1_4,-,-,-,-,-,-,-,-,-,r0_4,r1_4,g0_4,g1_4,zx_4,z0_4,z1_4,-⟩:=LIVE.o w4 HB4.o;replace HR4:Hid _:=HR4;replace HO4:Hid _:=HO4))
  have hR:=(LIVE.o w4 HB4.o).rb
  obtain⟨kk0,kk1⟩:=ay hR (I6 0) (.slice bt nt ct)
  have hz3:=HB3.o.size;have hfin:=uP (l:=l) H.o HB4.o ⟨0,(aw s.leases l.a l.n).map fun h=>⟨(dt h).toArray⟩⟩ rfl (.slice bt nt ct) HR4.o (fun b e q=>by have:=HO4.o b e;simp at hz3;omega)
  exact bodyPost_ret (v:=.agg #[I6 0,.slice bt nt ct]) (by simp[results,results79,go_sem,kk0,kk1]) rfl hfin)
theorem me(w:World)(x:Nat)(S:Nat->Prop)(s:Bk)(l:Ln)(hE:Env w)(hI:Inv s)(hL:aZ l)(h:au w x S s):Calls prog 79 #[Pq x,.agg (lnC l)] w (gv w x S (s,gA s l)):=by
 unfold gA;rcases aV (isH l.a l.n) s.nets hd0 with⟨e,_⟩|⟨k,hk,e,hp,_⟩
 ·have e1:ah s.nets l.a l.n=-1:=e
  rw[if_pos (by rw[e1];decide)];exact xM w x S s l hI hL h e1
 ·have e1:ah s.nets l.a l.n=k:=e
  rw[if_neg (by rw[e1];omega)]
  exact DP w x S s l hI hL h hE k _ hk e1 hp rfl
theorem dU{w w1:World}{cs:Array Value}{x:Nat}{S:Nat->Prop}{s:Bk}{r:Bk×An}{e:Ending}(h:au w x S s)(R:Res ((w.alloc (.cells cs 93)).alloc (.cells #[I6 0,.slice none 0 0] 98)) x S r e w1):
  ∃ b n c,e=.returned (.agg #[I6 r.2.e,.slice b n c])/\Blk w1 (w.heap.size+1) #[I6 0,.slice none 0 0] 98/\Res w x S r (.returned (.agg #[I6 r.2.e,.slice b n c])) ((w1.setCell (At (w.heap.size+1) 0) (I6 r.2.e)).setCell (At (w.heap.size+1) 1) (.slice b n c)):=by
 obtain⟨va,S',rfl,hrd,hb,hS,hc⟩:=R;have hs:∀ b,S b->b<w.heap.size:=by obtain⟨_,_,_,_,B⟩:=h;exact B.sz
 have hz:=hc.size;have hc2:Chg S w w1:=(Chg.below (S:=S) (w:=w) (w':=((w.alloc (.cells cs 93)).alloc (.cells #[I6 0,.slice none 0 0] 98))) upB).trans hc (fun b q=>.inl q)
 have hS2:∀ b,S' b->b≠w.heap.size+1/\(S b\/w.heap.size<=b):=fun b q=>by
  rcases hS b q with k|k
  ·exact⟨by have:=hs b k;omega,.inl k⟩
  ·simp at k;exact⟨by omega,.inr om⟩
 have q2:=Blk.new (w.alloc (.cells cs 93)) #[I6 0,.slice none 0 0] 98
 rw[show (w.alloc (.cells cs 93)).heap.size=w.heap.size+1 by simp] at q2
 have p2:Blk w1 (w.heap.size+1) #[I6 0,.slice none 0 0] 98:=(hc.block _ sM (fun q=>by have:=hs _ q;omega)).trans q2
 obtain⟨bb,cap,rfl,h1,h2,h3⟩:=hrd;refine⟨bb,_,cap,rfl,p2,?_⟩
 have s1:=aK (w.heap.size+1) [I6 r.2.e,.slice bb r.2.s.length cap] 0 w1
 refine⟨_,S',rfl,⟨bb,cap,rfl,h1,h2,fun hne=>?_⟩,?_,fun b q=>(hS2 b q).2,hc2.sets (w.heap.size+1) 0 [I6 r.2.e,.slice bb r.2.s.length cap] (.inr om)⟩
 ·obtain⟨g,e2,hg,hcc⟩:=h3 hne;have hgn:g≠w.heap.size+1:=fun q=>by
   have c0:=hcc 0 (List.length_pos_iff.2 hne) 0 _ rfl
   rw[q] at c0;have c1:=p2.cell 0;rw[show ((At (w.heap.size+1) (0*1+0)):Addr)=⟨w.heap.size+1,0,none⟩ from rfl,c1] at c0
   cases c0
  exact⟨g,e2,by rw[show ((w1.setCell (At (w.heap.size+1) 0) (I6 r.2.e)).setCell (At (w.heap.size+1) 1) (.slice bb r.2.s.length cap)).heap.size=w1.heap.size from s1.2.2.2.1];exact hg,fun j hj i u hu=>(World.cell?_of_block (a:=At g (j*1+i)) (s1.2.2.2.2 g hgn)).trans (hcc j hj i u hu)⟩
 ·obtain⟨vp,vn,vl,c,B⟩:=hb;exact⟨vp,vn,vl,c,B.same (fun b q=>s1.2.2.2.2 b (hS2 b q).1) (Nat.le_of_eq s1.2.2.2.1.symm)⟩
theorem jW{w w1:World}{cs:Array Value}{x:Nat}{S:Nat->Prop}{s:Bk}{r:Bk×An}{e:Ending}(h:au w x S s)(R:gv ((w.alloc (.cells cs 93)).alloc (.cells #[I6 0,.slice none 0 0] 98)) x S r e w1):
  ∃ b n c,e=.returned (.agg #[I6 r.2.e,.slice b n c])/\Blk w1 (w.heap.size+1) #[I6 0,.slice none 0 0] 98/\gv w x S r (.returned (.agg #[I6 r.2.e,.slice b n c])) ((w1.setCell (At (w.heap.size+1) 0) (I6 r.2.e)).setCell (At (w.heap.size+1) 1) (.slice b n c)):=by
 obtain⟨b,n,c,h1,h2,h3⟩:=dU h R.1;have hq:=R.2;have hq2:Bl w w1:=Below.trans (B:=w.heap.size) (a:=w) upB (hq.mono (by simp;omega))
 have hz:=hq.size;simp at hz;clear hq;exact⟨b,n,c,h1,h2,h3,upB⟩
theorem GV(w:World)(x:Nat)(S:Nat->Prop)(s:Bk)(l:Ln)(hE:Env w)(hI:Inv s)(hL:aZ l)(h:au w x S s)(hG:∀ b,S b->10<=b)(hZ:10<=w.heap.size)(hv:l.v=0):Calls prog 43 #[Pq x,.agg (lnC l)] w (Res w x S (cy s l)):=by
 have H:Hid (au w x S s):=h
 obtain⟨vp,vn,vl,c,B⟩:=h;have hx:=B.blk.lt;have x0:w.cell? (At x 0)=some vp:=B.blk.cell 0
 have hl:lnC l=#[I6 0,.string l.t,.string l.o,U3 l.a,I6 l.n,U3 l.d,I6 l.g]:=by unfold lnC;rw[hv];rfl
 obtain⟨r,hr⟩:∃ r:Bk×An,r=cy s l:=⟨_,rfl⟩
 have HC:Hid (∀ W,Bl w W->Calls prog 69 #[Pq x,.agg #[I6 0,.string l.t,.string l.o,U3 l.a,I6 l.n,U3 l.d,I6 l.g]] W (Res W x S r)):=fun W hW=>by
  rw[hr,<- hl];exact ou W x S s l hI hL (H.o.below hW)
 rw[<- hr,hl];clear B hr hl hv;go_enter func43,ntmps43
 go_wp2_with (go_at_call 69;refine(HC.o _ upB).mono ?_;rintro e w1 R;obtain⟨bt,nt,ct,rfl,hR,hfin⟩:=dU H.o R;replace hfin:Hid _:=hfin;clear R;have r0_1:w1.cell? (At (w.heap.size+1) 0)=some (I6 0):=hR.cell 0;have r1_1:w1.cell? (At (w.heap.size+1) 1)=some (.slice none 0 0):=hR.cell 1;have g0_1:=hR.frozen 0;have g1_1:=hR.frozen 1;have z1_1:=hR.lt)
 obtain⟨kk0,kk1⟩:=ay hR (I6 r.2.e) (.slice bt nt ct)
 exact bodyPost_ret (v:=.agg #[I6 r.2.e,.slice bt nt ct]) (by simp[results,results43,go_sem,kk0,kk1]) rfl hfin.o
theorem GW(w:World)(x:Nat)(S:Nat->Prop)(s:Bk)(l:Ln)(hE:Env w)(hI:Inv s)(hL:aZ l)(h:au w x S s)(hG:∀ b,S b->10<=b)(hZ:10<=w.heap.size)(hv:l.v=1):Calls prog 43 #[Pq x,.agg (lnC l)] w (Res w x S (cR s l)):=by
 have H:Hid (au w x S s):=h
 obtain⟨vp,vn,vl,c,B⟩:=h;have hx:=B.blk.lt;have x0:w.cell? (At x 0)=some vp:=B.blk.cell 0
 have hl:lnC l=#[I6 1,.string l.t,.string l.o,U3 l.a,I6 l.n,U3 l.d,I6 l.g]:=by unfold lnC;rw[hv];rfl
 obtain⟨r,hr⟩:∃ r:Bk×An,r=cR s l:=⟨_,rfl⟩
 have HC:Hid (∀ W,Bl w W->Calls prog 70 #[Pq x,.agg #[I6 1,.string l.t,.string l.o,U3 l.a,I6 l.n,U3 l.d,I6 l.g]] W (Res W x S r)):=fun W hW=>by
  rw[hr,<- hl];exact oc W x S s l hI hL (H.o.below hW)
 rw[<- hr,hl];clear B hr hl hv;go_enter func43,ntmps43
 go_wp2_with (go_at_call 70;refine(HC.o _ upB).mono ?_;rintro e w1 R;obtain⟨bt,nt,ct,rfl,hR,hfin⟩:=dU H.o R;replace hfin:Hid _:=hfin;clear R;have r0_1:w1.cell? (At (w.heap.size+1) 0)=some (I6 0):=hR.cell 0;have r1_1:w1.cell? (At (w.heap.size+1) 1)=some (.slice none 0 0):=hR.cell 1;have g0_1:=hR.frozen 0;have g1_1:=hR.frozen 1;have z1_1:=hR.lt)
 obtain⟨kk0,kk1⟩:=ay hR (I6 r.2.e) (.slice bt nt ct)
 exact bodyPost_ret (v:=.agg #[I6 r.2.e,.slice bt nt ct]) (by simp[results,results43,go_sem,kk0,kk1]) rfl hfin.o
theorem GX(w:World)(x:Nat)(S:Nat->Prop)(s:Bk)(l:Ln)(hE:Env w)(hI:Inv s)(hL:aZ l)(h:au w x S s)(hG:∀ b,S b->10<=b)(hZ:10<=w.heap.size)(hv:l.v=2):Calls prog 43 #[Pq x,.agg (lnC l)] w (Res w x S (dH s l)):=by
 have H:Hid (au w x S s):=h
 obtain⟨vp,vn,vl,c,B⟩:=h;have hx:=B.blk.lt;have x0:w.cell? (At x 0)=some vp:=B.blk.cell 0
 have hl:lnC l=#[I6 2,.string l.t,.string l.o,U3 l.a,I6 l.n,U3 l.d,I6 l.g]:=by unfold lnC;rw[hv];rfl
 obtain⟨r,hr⟩:∃ r:Bk×An,r=dH s l:=⟨_,rfl⟩
 have HC:Hid (∀ W,Bl w W->Calls prog 71 #[Pq x,.agg #[I6 2,.string l.t,.string l.o,U3 l.a,I6 l.n,U3 l.d,I6 l.g]] W (Res W x S r)):=fun W hW=>by
  rw[hr,<- hl];exact vw W x S s l hI hL (H.o.below hW) (hE.mono hW) hG (by have:=hW.size;omega)
 rw[<- hr,hl];clear B hr hl hv;go_enter func43,ntmps43
 go_wp2_with (go_at_call 71;refine(HC.o _ upB).mono ?_;rintro e w1 R;obtain⟨bt,nt,ct,rfl,hR,hfin⟩:=dU H.o R;replace hfin:Hid _:=hfin;clear R;have r0_1:w1.cell? (At (w.heap.size+1) 0)=some (I6 0):=hR.cell 0;have r1_1:w1.cell? (At (w.heap.size+1) 1)=some (.slice none 0 0):=hR.cell 1;have g0_1:=hR.frozen 0;have g1_1:=hR.frozen 1;have z1_1:=hR.lt)
 obtain⟨kk0,kk1⟩:=ay hR (I6 r.2.e) (.slice bt nt ct)
 exact bodyPost_ret (v:=.agg #[I6 r.2.e,.slice bt nt ct]) (by simp[results,results43,go_sem,kk0,kk1]) rfl hfin.o
theorem GY(w:World)(x:Nat)(S:Nat->Prop)(s:Bk)(l:Ln)(hE:Env w)(hI:Inv s)(hL:aZ l)(h:au w x S s)(hG:∀ b,S b->10<=b)(hZ:10<=w.heap.size)(hv:l.v=3):Calls prog 43 #[Pq x,.agg (lnC l)] w (Res w x S (bI s l)):=by
 have H:Hid (au w x S s):=h
 obtain⟨vp,vn,vl,c,B⟩:=h;have hx:=B.blk.lt;have x0:w.cell? (At x 0)=some vp:=B.blk.cell 0
 have hl:lnC l=#[I6 3,.string l.t,.string l.o,U3 l.a,I6 l.n,U3 l.d,I6 l.g]:=by unfold lnC;rw[hv];rfl
 obtain⟨r,hr⟩:∃ r:Bk×An,r=bI s l:=⟨_,rfl⟩
 have HC:Hid (∀ W,Bl w W->Calls prog 72 #[Pq x,.agg #[I6 3,.string l.t,.string l.o,U3 l.a,I6 l.n,U3 l.d,I6 l.g]] W (Res W x S r)):=fun W hW=>by
  rw[hr,<- hl];exact mi W x S s l hI hL (H.o.below hW)
 rw[<- hr,hl];clear B hr hl hv;go_enter func43,ntmps43
 go_wp2_with (go_at_call 72;refine(HC.o _ upB).mono ?_;rintro e w1 R;obtain⟨bt,nt,ct,rfl,hR,hfin⟩:=dU H.o R;replace hfin:Hid _:=hfin;clear R;have r0_1:w1.cell? (At (w.heap.size+1) 0)=some (I6 0):=hR.cell 0;have r1_1:w1.cell? (At (w.heap.size+1) 1)=some (.slice none 0 0):=hR.cell 1;have g0_1:=hR.frozen 0;have g1_1:=hR.frozen 1;have z1_1:=hR.lt)
 obtain⟨kk0,kk1⟩:=ay hR (I6 r.2.e) (.slice bt nt ct)
 exact bodyPost_ret (v:=.agg #[I6 r.2.e,.slice bt nt ct]) (by simp[results,results43,go_sem,kk0,kk1]) rfl hfin.o
theorem GZ(w:World)(x:Nat)(S:Nat->Prop)(s:Bk)(l:Ln)(hE:Env w)(hI:Inv s)(hL:aZ l)(h:au w x S s)(hG:∀ b,S b->10<=b)(hZ:10<=w.heap.size)(hv:l.v=4):Calls prog 43 #[Pq x,.agg (lnC l)] w (Res w x S (cS s l)):=by
 have H:Hid (au w x S s):=h
 obtain⟨vp,vn,vl,c,B⟩:=h;have hx:=B.blk.lt;have x0:w.cell? (At x 0)=some vp:=B.blk.cell 0
 have hl:lnC l=#[I6 4,.string l.t,.string l.o,U3 l.a,I6 l.n,U3 l.d,I6 l.g]:=by unfold lnC;rw[hv];rfl
 obtain⟨r,hr⟩:∃ r:Bk×An,r=cS s l:=⟨_,rfl⟩
 have HC:Hid (∀ W,Bl w W->Calls prog 73 #[Pq x,.agg #[I6 4,.string l.t,.string l.o,U3 l.a,I6 l.n,U3 l.d,I6 l.g]] W (Res W x S r)):=fun W hW=>by
  rw[hr,<- hl];exact y6 W x S s l hI hL (H.o.below hW)
 rw[<- hr,hl];clear B hr hl hv;go_enter func43,ntmps43
 go_wp2_with (go_at_call 73;refine(HC.o _ upB).mono ?_;rintro e w1 R;obtain⟨bt,nt,ct,rfl,hR,hfin⟩:=dU H.o R;replace hfin:Hid _:=hfin;clear R;have r0_1:w1.cell? (At (w.heap.size+1) 0)=some (I6 0):=hR.cell 0;have r1_1:w1.cell? (At (w.heap.size+1) 1)=some (.slice none 0 0):=hR.cell 1;have g0_1:=hR.frozen 0;have g1_1:=hR.frozen 1;have z1_1:=hR.lt)
 obtain⟨kk0,kk1⟩:=ay hR (I6 r.2.e) (.slice bt nt ct)
 exact bodyPost_ret (v:=.agg #[I6 r.2.e,.slice bt nt ct]) (by simp[results,results43,go_sem,kk0,kk1]) rfl hfin.o
theorem G0(w:World)(x:Nat)(S:Nat->Prop)(s:Bk)(l:Ln)(hE:Env w)(hI:Inv s)(hL:aZ l)(h:au w x S s)(hG:∀ b,S b->10<=b)(hZ:10<=w.heap.size)(hv:l.v=5):Calls prog 43 #[Pq x,.agg (lnC l)] w (Res w x S (bU s l)):=by
 have H:Hid (au w x S s):=h
 obtain⟨vp,vn,vl,c,B⟩:=h;have hx:=B.blk.lt;have x0:w.cell? (At x 0)=some vp:=B.blk.cell 0
 have hl:lnC l=#[I6 5,.string l.t,.string l.o,U3 l.a,I6 l.n,U3 l.d,I6 l.g]:=by unfold lnC;rw[hv];rfl
 obtain⟨r,hr⟩:∃ r:Bk×An,r=bU s l:=⟨_,rfl⟩
 have HC:Hid (∀ W,Bl w W->Calls prog 74 #[Pq x,.agg #[I6 5,.string l.t,.string l.o,U3 l.a,I6 l.n,U3 l.d,I6 l.g]] W (Res W x S r)):=fun W hW=>by
  rw[hr,<- hl];exact wo W x S s l hI hL (H.o.below hW) (hE.mono hW) hG (by have:=hW.size;omega)
 rw[<- hr,hl];clear B hr hl hv;go_enter func43,ntmps43
 go_wp2_with (go_at_call 74;refine(HC.o _ upB).mono ?_;rintro e w1 R;obtain⟨bt,nt,ct,rfl,hR,hfin⟩:=dU H.o R;replace hfin:Hid _:=hfin;clear R;have r0_1:w1.cell? (At (w.heap.size+1) 0)=some (I6 0):=hR.cell 0;have r1_1:w1.cell? (At (w.heap.size+1) 1)=some (.slice none 0 0):=hR.cell 1;have g0_1:=hR.frozen 0;have g1_1:=hR.frozen 1;have z1_1:=hR.lt)
 obtain⟨kk0,kk1⟩:=ay hR (I6 r.2.e) (.slice bt nt ct)
 exact bodyPost_ret (v:=.agg #[I6 r.2.e,.slice bt nt ct]) (by simp[results,results43,go_sem,kk0,kk1]) rfl hfin.o
theorem G1(w:World)(x:Nat)(S:Nat->Prop)(s:Bk)(l:Ln)(hE:Env w)(hI:Inv s)(hL:aZ l)(h:au w x S s)(hG:∀ b,S b->10<=b)(hZ:10<=w.heap.size)(hv:l.v=6):Calls prog 43 #[Pq x,.agg (lnC l)] w (Res w x S (cA s l)):=by
 have H:Hid (au w x S s):=h
 obtain⟨vp,vn,vl,c,B⟩:=h;have hx:=B.blk.lt;have x0:w.cell? (At x 0)=some vp:=B.blk.cell 0
 have hl:lnC l=#[I6 6,.string l.t,.string l.o,U3 l.a,I6 l.n,U3 l.d,I6 l.g]:=by unfold lnC;rw[hv];rfl
 obtain⟨r,hr⟩:∃ r:Bk×An,r=cA s l:=⟨_,rfl⟩
 have HC:Hid (∀ W,Bl w W->Calls prog 75 #[Pq x,.agg #[I6 6,.string l.t,.string l.o,U3 l.a,I6 l.n,U3 l.d,I6 l.g]] W (Res W x S r)):=fun W hW=>by
  rw[hr,<- hl];exact Bs W x S s l hI hL (H.o.below hW)
 rw[<- hr,hl];clear B hr hl hv;go_enter func43,ntmps43
 go_wp2_with (go_at_call 75;refine(HC.o _ upB).mono ?_;rintro e w1 R;obtain⟨bt,nt,ct,rfl,hR,hfin⟩:=dU H.o R;replace hfin:Hid _:=hfin;clear R;have r0_1:w1.cell? (At (w.heap.size+1) 0)=some (I6 0):=hR.cell 0;have r1_1:w1.cell? (At (w.heap.size+1) 1)=some (.slice none 0 0):=hR.cell 1;have g0_1:=hR.frozen 0;have g1_1:=hR.frozen 1;have z1_1:=hR.lt)
 obtain⟨kk0,kk1⟩:=ay hR (I6 r.2.e) (.slice bt nt ct)
 exact bodyPost_ret (v:=.agg #[I6 r.2.e,.slice bt nt ct]) (by simp[results,results43,go_sem,kk0,kk1]) rfl hfin.o
theorem G5(w:World)(x:Nat)(S:Nat->Prop)(s:Bk)(l:Ln)(hE:Env w)(hI:Inv s)(hL:aZ l)(h:au w x S s)(hG:∀ b,S b->10<=b)(hZ:10<=w.heap.size)(hv:l.v=7):Calls prog 43 #[Pq x,.agg (lnC l)] w (Res w x S (cU s l)):=by
 have H:Hid (au w x S s):=h
 obtain⟨vp,vn,vl,c,B⟩:=h;have hx:=B.blk.lt;have x0:w.cell? (At x 0)=some vp:=B.blk.cell 0
 have hl:lnC l=#[I6 7,.string l.t,.string l.o,U3 l.a,I6 l.n,U3 l.d,I6 l.g]:=by unfold lnC;rw[hv];rfl
 obtain⟨r,hr⟩:∃ r:Bk×An,r=cU s l:=⟨_,rfl⟩
 have HC:Hid (∀ W,Bl w W->Calls prog 76 #[Pq x,.agg #[I6 7,.string l.t,.string l.o,U3 l.a,I6 l.n,U3 l.d,I6 l.g]] W (Res W x S r)):=fun W hW=>by
  rw[hr,<- hl];exact za W x S s l hI hL (H.o.below hW)
 rw[<- hr,hl];clear B hr hl hv;go_enter func43,ntmps43
 go_wp2_with (go_at_call 76;refine(HC.o _ upB).mono ?_;rintro e w1 R;obtain⟨bt,nt,ct,rfl,hR,hfin⟩:=dU H.o R;replace hfin:Hid _:=hfin;clear R;have r0_1:w1.cell? (At (w.heap.size+1) 0)=some (I6 0):=hR.cell 0;have r1_1:w1.cell? (At (w.heap.size+1) 1)=some (.slice none 0 0):=hR.cell 1;have g0_1:=hR.frozen 0;have g1_1:=hR.frozen 1;have z1_1:=hR.lt)
 obtain⟨kk0,kk1⟩:=ay hR (I6 r.2.e) (.slice bt nt ct)
 exact bodyPost_ret (v:=.agg #[I6 r.2.e,.slice bt nt ct]) (by simp[results,results43,go_sem,kk0,kk1]) rfl hfin.o
theorem Gb(w:World)(x:Nat)(S:Nat->Prop)(s:Bk)(l:Ln)(hE:Env w)(hI:Inv s)(hL:aZ l)(h:au w x S s)(hG:∀ b,S b->10<=b)(hZ:10<=w.heap.size)(hv:l.v=8):Calls prog 43 #[Pq x,.agg (lnC l)] w (gv w x S ((s,⟨0,s.pools.map fun h=>⟨(bJ h).toArray⟩⟩))):=by
 have H:Hid (au w x S s):=h
 obtain⟨vp,vn,vl,c,B⟩:=h;have hx:=B.blk.lt;have x0:w.cell? (At x 0)=some vp:=B.blk.cell 0
 have hl:lnC l=#[I6 8,.string l.t,.string l.o,U3 l.a,I6 l.n,U3 l.d,I6 l.g]:=by unfold lnC;rw[hv];rfl
 obtain⟨r,hr⟩:∃ r:Bk×An,r=(s,⟨0,s.pools.map fun h=>⟨(bJ h).toArray⟩⟩):=⟨_,rfl⟩
 have HC:Hid (∀ W,Bl w W->Calls prog 77 #[vp] W (gv W x S r)):=fun W hW=>by
  refine(xG s.pools vp W (hE.mono hW) ((Rd.of_owns (k:=3) (enc:=ak) (fun _=>rfl) hd0 B.op).below hW) (by have:=hI.p;omega) (fun q hq=>by have hm:=hI.pa q hq;exact⟨hm.1,hm.2.1,hm.2.2.2.2⟩)).mono ?_
  rintro e w' ⟨v',rfl,o1,_,o3⟩
  rw[hr];exact⟨⟨v',S,rfl,o1,(H.o.below hW).below o3,fun b q=>.inl q,Chg.below o3⟩,o3⟩
 rw[<- hr,hl];clear B hr hl hv;go_enter func43,ntmps43
 go_wp2_with (go_at_call 77;refine(HC.o _ upB).mono ?_;rintro e w1 R;obtain⟨bt,nt,ct,rfl,hR,hfin⟩:=jW H.o R;replace hfin:Hid _:=hfin;clear R;have r0_1:w1.cell? (At (w.heap.size+1) 0)=some (I6 0):=hR.cell 0;have r1_1:w1.cell? (At (w.heap.size+1) 1)=some (.slice none 0 0):=hR.cell 1;have g0_1:=hR.frozen 0;have g1_1:=hR.frozen 1;have z1_1:=hR.lt)
 obtain⟨kk0,kk1⟩:=ay hR (I6 r.2.e) (.slice bt nt ct)
 exact bodyPost_ret (v:=.agg #[I6 r.2.e,.slice bt nt ct]) (by simp[results,results43,go_sem,kk0,kk1]) rfl hfin.o
theorem Gc(w:World)(x:Nat)(S:Nat->Prop)(s:Bk)(l:Ln)(hE:Env w)(hI:Inv s)(hL:aZ l)(h:au w x S s)(hG:∀ b,S b->10<=b)(hZ:10<=w.heap.size)(hv:l.v=9):Calls prog 43 #[Pq x,.agg (lnC l)] w (gv w x S ((s,gy s l))):=by
 have H:Hid (au w x S s):=h
 obtain⟨vp,vn,vl,c,B⟩:=h;have hx:=B.blk.lt;have x0:w.cell? (At x 0)=some vp:=B.blk.cell 0
 have hl:lnC l=#[I6 9,.string l.t,.string l.o,U3 l.a,I6 l.n,U3 l.d,I6 l.g]:=by unfold lnC;rw[hv];rfl
 obtain⟨r,hr⟩:∃ r:Bk×An,r=(s,gy s l):=⟨_,rfl⟩
 have HC:Hid (∀ W,Bl w W->Calls prog 78 #[Pq x,.agg #[I6 9,.string l.t,.string l.o,U3 l.a,I6 l.n,U3 l.d,I6 l.g]] W (gv W x S r)):=fun W hW=>by
  rw[hr,<- hl];exact kK W x S s l (hE.mono hW) hI hL (H.o.below hW)
 rw[<- hr,hl];clear B hr hl hv;go_enter func43,ntmps43
 go_wp2_with (go_at_call 78;refine(HC.o _ upB).mono ?_;rintro e w1 R;obtain⟨bt,nt,ct,rfl,hR,hfin⟩:=jW H.o R;replace hfin:Hid _:=hfin;clear R;have r0_1:w1.cell? (At (w.heap.size+1) 0)=some (I6 0):=hR.cell 0;have r1_1:w1.cell? (At (w.heap.size+1) 1)=some (.slice none 0 0):=hR.cell 1;have g0_1:=hR.frozen 0;have g1_1:=hR.frozen 1;have z1_1:=hR.lt)
 obtain⟨kk0,kk1⟩:=ay hR (I6 r.2.e) (.slice bt nt ct)
 exact bodyPost_ret (v:=.agg #[I6 r.2.e,.slice bt nt ct]) (by simp[results,results43,go_sem,kk0,kk1]) rfl hfin.o
theorem D7(w:World)(x:Nat)(S:Nat->Prop)(s:Bk)(l:Ln)(hE:Env w)(hI:Inv s)(hL:aZ l)(h:au w x S s)(hG:∀ b,S b->10<=b)(hZ:10<=w.heap.size)(hv:l.v=10):Calls prog 43 #[Pq x,.agg (lnC l)] w (gv w x S ((s,gA s l))):=by
 have H:Hid (au w x S s):=h
 obtain⟨vp,vn,vl,c,B⟩:=h;have hx:=B.blk.lt;have x0:w.cell? (At x 0)=some vp:=B.blk.cell 0
 have hl:lnC l=#[I6 10,.string l.t,.string l.o,U3 l.a,I6 l.n,U3 l.d,I6 l.g]:=by unfold lnC;rw[hv];rfl
 obtain⟨r,hr⟩:∃ r:Bk×An,r=(s,gA s l):=⟨_,rfl⟩
 have HC:Hid (∀ W,Bl w W->Calls prog 79 #[Pq x,.agg #[I6 10,.string l.t,.string l.o,U3 l.a,I6 l.n,U3 l.d,I6 l.g]] W (gv W x S r)):=fun W hW=>by
  rw[hr,<- hl];exact me W x S s l (hE.mono hW) hI hL (H.o.below hW)
 rw[<- hr,hl];clear B hr hl hv;go_enter func43,ntmps43
 go_wp2_with (go_at_call 79;refine(HC.o _ upB).mono ?_;rintro e w1 R;obtain⟨bt,nt,ct,rfl,hR,hfin⟩:=jW H.o R;replace hfin:Hid _:=hfin;clear R;have r0_1:w1.cell? (At (w.heap.size+1) 0)=some (I6 0):=hR.cell 0;have r1_1:w1.cell? (At (w.heap.size+1) 1)=some (.slice none 0 0):=hR.cell 1;have g0_1:=hR.frozen 0;have g1_1:=hR.frozen 1;have z1_1:=hR.lt)
 obtain⟨kk0,kk1⟩:=ay hR (I6 r.2.e) (.slice bt nt ct)
 exact bodyPost_ret (v:=.agg #[I6 r.2.e,.slice bt nt ct]) (by simp[results,results43,go_sem,kk0,kk1]) rfl hfin.o
theorem lg(w:World)(x:Nat)(S:Nat->Prop)(s:Bk)(l:Ln)(hE:Env w)(hI:Inv s)(hL:aZ l)(h:au w x S s)(hG:∀ b,S b->10<=b)(hZ:10<=w.heap.size)(hv:l.v<11):Calls prog 43 #[Pq x,.agg (lnC l)] w (Res w x S (aH s l)):=by
 have hc:l.v=0\/l.v=1\/l.v=2\/l.v=3\/l.v=4\/l.v=5\/l.v=6\/l.v=7\/l.v=8\/l.v=9\/l.v=10:=by omega
 unfold aH;rcases hc with e|e|e|e|e|e|e|e|e|e|e<;>rw[e]
 ·exact GV w x S s l hE hI hL h hG hZ e
 ·exact GW w x S s l hE hI hL h hG hZ e
 ·exact GX w x S s l hE hI hL h hG hZ e
 ·exact GY w x S s l hE hI hL h hG hZ e
 ·exact GZ w x S s l hE hI hL h hG hZ e
 ·exact G0 w x S s l hE hI hL h hG hZ e
 ·exact G1 w x S s l hE hI hL h hG hZ e
 ·exact G5 w x S s l hE hI hL h hG hZ e
 ·exact(Gb w x S s l hE hI hL h hG hZ e).mono fun _ _ q=>q.1
 ·exact(Gc w x S s l hE hI hL h hG hZ e).mono fun _ _ q=>q.1
 ·exact(D7 w x S s l hE hI hL h hG hZ e).mono fun _ _ q=>q.1
theorem pB(w:World)(x:Nat)(S:Nat->Prop)(s:Bk)(l:Ln)(hE:Env w)(hI:Inv s)(hL:aZ l)(h:au w x S s)(hG:∀ b,S b->10<=b)(hZ:10<=w.heap.size)(h8:8<=l.v)(hv:l.v<11):Calls prog 43 #[Pq x,.agg (lnC l)] w (gv w x S (aH s l)):=by
 have hc:l.v=8\/l.v=9\/l.v=10:=by omega
 unfold aH;rcases hc with e|e|e<;>rw[e]
 ·exact Gb w x S s l hE hI hL h hG hZ e
 ·exact Gc w x S s l hE hI hL h hG hZ e
 ·exact D7 w x S s l hE hI hL h hG hZ e
end Go.Proofs.YtjnhhnbgjjkkjaaGreatDoor
