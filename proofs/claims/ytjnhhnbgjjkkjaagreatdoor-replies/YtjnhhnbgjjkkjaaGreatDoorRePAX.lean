import Derived.Deep.RegionHeldLaw
import Derived.Deep.RegionLaw
import Derived.Test.YtjnhhnbgjjkkjaaGreatDoorRePAW
set_option linter.all false
set_option maxRecDepth 100000
set_option maxHeartbeats 2000000
namespace Go.Proofs.YtjnhhnbgjjkkjaaGreatDoor
section
open Go.ChangeShapes Go.WideShapes Go.ChangeAt Go.RowKit Go.Proofs.Tryz
theorem Gr{p q r:Prop}(h:p\/q)(f:q->r):p\/r:=by
 rcases h with h|h
 ·exact .inl h
 ·exact .inr (f h)
def DPt(ρ:Nat->Nat)(k:Nat)(w:World)(g:Nat)(vs vn vl:Value)(A:PD):Prop :=
 ρ g=4*k+1/\Blk w g (dB vs vn vl A.left A.st) 112/\RdZ ρ w vs A.safe/\RdZ ρ w vn A.now/\Own ρ (4*k+3) w 114 vl A.loose
theorem Stp.set{R:Nat->Prop}{ρ:Nat->Nat}{w:World}{g:Nat}(hc:cO ρ w)(hg:R (ρ g))(i:Nat)(v:Value):Stp R ρ ρ w (w.setCell (At g i) v) :=
 ⟨rfl,rfl,rfl,by simp[World.setCell],fun _ _=>rfl,fun b _ hr=>Below.heap_setCell _ _ _ _ (fun e=>hr (e ▸ hg)),fun b hb=>hc b (by simpa[World.setCell,Bl] using hb)⟩
theorem Stp.grown{R:Nat->Prop}{ρ:Nat->Nat}{w w':World}{row:Option Nat}{g r:Nat}(hc:cO ρ w)(hg:w.grownBy w' row)(hrow:∀ b,row=some b->ρ b=r)(hR:R r)(hat:row=some g\/g=w.heap.size)(hlt:g<w'.heap.size):Stp R ρ (ru ρ g r) w w':=by
 refine⟨hg.os,hg.tape,hg.output,hg.size,fun b hb=>?_,fun b hb hr=>hg.block b hb (fun e=>hr (by rw[hrow b e.symm];exact hR)),fun b hb=>?_⟩
 ·by_cases e:b=g
  ·subst e;rcases hat with h|h
   ·rw[jw,hrow b h]
   ·omega
  ·exact fS _ _ _ e
 ·rw[fS _ _ _ om];exact hc b (Nat.le_trans hg.size hb)
def wOk(left:Int)(st:Bool)(s:Int)(d:Bz):Bool:=cH left st&&(decide (0<=s)&&(decide (s<256)&&decide (d.size<=64)))
def bG(A:PD)(s:Int)(d:Bz):PD :=
 if wOk A.left A.st s d then { A with now:=cG A.now (s,da d),loose:=A.loose++[(s,da d)],left:=bK A.left A.st,st:=stS A.left A.st }
 else { A with left:=bK A.left A.st,st:=stS A.left A.st }
theorem AE(l:List (Int×Bz))(c:Int×Bz):0<(cG l c).length:=by
 cases l with
 | nil=>simp[cG,has]
 | cons a r=>unfold cG;split<;>simp
theorem rJ{ρ:Nat->Nat}{k g:Nat}{w w1 wa w2 wz w3:World}{vs vn vl v2:Value}{A:PD}{s:Int}{f:Bz}{L:Int}{S:Bool}{g3 cap:Nat}
  (hc:cO ρ w) (h:DPt ρ k w g vs vn vl A) (hu:Upd w w1 g (dB vs vn vl L S) 112)
  (ha:Bl w1 wa) (h2:Bl wa w2) (o2:w2.ownsRow wa.heap.size 114 2 v2 (cG A.now (s,f)).length (cvs (cG A.now (s,f))))
  (hz:Below (w2.setCell (At g 1) v2).heap.size (w2.setCell (At g 1) v2) wz)
  (o3:w3.ownsRow 0 114 2 (Sq g3 (A.loose.length+1) cap) (A.loose.length+1) (cvs A.loose++[I6 s,.string f]))
  (hg3:wz.grownBy w3 vl.ownBlock) (hat:vl.ownBlock=some g3\/g3=wz.heap.size) (hlt:g3<w3.heap.size) :
  ∃ ρ',DAt ρ' k (w3.setCell (At g 2) (Sq g3 (A.loose.length+1) cap)) g { A with now:=cG A.now (s,f),loose:=A.loose++[(s,f)],left:=L,st:=S } /\
   Stp (RDk k) ρ ρ' w (w3.setCell (At g 2) (Sq g3 (A.loose.length+1) cap)):=by
 obtain⟨hr,hb,hs,hn,hl⟩:=h;have hgR:RDk k (ρ g):=.inl hr
 have h0R:¬RDk k 0:=by unfold RDk;omega
 have S1:Stp (RDk k) ρ ρ w w1:=Stp.upd hc hu hgR
 have S1':Stp (fun r=>r=4*k+1) ρ ρ w w1:=Stp.upd hc hu hr
 have S2:Stp (fun _=>False) ρ ρ w1 w2:=(Stp.below S1.clean ha).trans (Stp.below (fun b hb=>S1.clean b (Nat.le_trans ha.size hb)) h2)
 have B2:Blk w2 g (dB vs vn vl L S) 112:=hu.blk.step S2 (fun h=>h)
 have S3:Stp (fun r=>r=4*k+1) ρ ρ w2 (w2.setCell (At g 1) v2):=Stp.set S2.clean hr 1 v2
 have S4:Stp (fun _=>False) ρ ρ (w2.setCell (At g 1) v2) wz:=Stp.below S3.clean hz
 have B4:Blk wz g (dB vs v2 vl L S) 112:=Blk.step (show Blk (w2.setCell (At g 1) v2) g (dB vs v2 vl L S) 112 from B2.set 1 v2) S4 (fun h=>h)
 have hown:∀ b,vl.ownBlock=some b->ρ b=4*k+3:=hl.2
 have S5:Stp (fun r=>r=4*k+3) ρ (ru ρ g3 (4*k+3)) wz w3:=Stp.grown S4.clean hg3 hown rfl hat hlt
 have hr5:ru ρ g3 (4*k+3) g=4*k+1:=(S5.role g B4.lt).trans hr
 have S6:Stp (fun r=>r=4*k+1) (ru ρ g3 (4*k+3)) (ru ρ g3 (4*k+3)) w3 (w3.setCell (At g 2) (Sq g3 (A.loose.length+1) cap)):=Stp.set S5.clean hr5 2 _
 have n0:¬(0=4*k+1):=by omega
 have n3:¬(0=4*k+3):=by omega
 have F1:∀ r,(fun r=>r=4*k+1) r->RDk k r:=fun r h=>.inl h
 have F3:∀ r,(fun r=>r=4*k+3) r->RDk k r:=fun r h=>.inr h
 refine⟨ru ρ g3 (4*k+3),⟨hr5,vs,v2,Sq g3 (A.loose.length+1) cap,?_,?_,?_,?_⟩,?_⟩
 ·exact(B4.step S5 (by rw[hr];omega)).set 2 _
 ·exact(((((hs.step S1' n0).step S2 (fun h=>h)).step S3 n0).step S4 (fun h=>h)).step S5 n3).step S6 n0
 ·have hz2:RdZ ρ w2 v2 (cG A.now (s,f)):=RdZ.made (fun b hb=>S1.clean b (Nat.le_trans ha.size hb)) o2
  exact(((hz2.step S3 n0).step S4 (fun h=>h)).step S5 n3).step S6 n0
 ·have e:A.loose.length+1=(A.loose++[(s,f)]).length:=by simp
  have o4:Own (ru ρ g3 (4*k+3)) (4*k+3) w3 114 (Sq g3 (A.loose.length+1) cap) (A.loose++[(s,f)]):=by
   refine⟨?_,fun b hb=>?_⟩
   ·rw[<- e,<- yK];exact o3
   ·obtain rfl:g3=b:=by simpa[Value.ownBlock] using hb
    exact jw _ _ _
  exact o4.step S6 om
 ·exact((((S1.trans (S2.mono (fun _ h=>h.elim))).trans (S3.mono F1)).trans (S4.mono (fun _ h=>h.elim))).trans (S5.mono F3)).trans (S6.mono F1)
theorem vc(ρ:Nat->Nat)(k:Nat)(w:World)(g:Nat)(A:PD)(s:Int)(d:Bz)(hc:cO ρ w)(h1:A.left<9223372036854775808)(hn:A.now.length<=2097152)(hlo:A.loose.length<=2097152)(hdm:d.size<=2097152)(h:DAt ρ k w g A):Calls prog 101 #[Pq g,I6 s,.string d] w fun e w'=>e=.returned (.bool (wOk A.left A.st s d))/\∃ ρ',DAt ρ' k w' g (bG A s d)/\Stp (RDk k) ρ ρ' w w':=by
 obtain⟨hr,vs,vn,vl,hb,hs,hnn,hl⟩:=h;have hst:Hid (Calls prog 149 #[Pq g] w fun e w'=>e=.returned (.bool (cH A.left A.st))/\Upd w w' g (dB vs vn vl (bK A.left A.st) (stS A.left A.st)) 112):=Bh w g vs vn vl A.left A.st h1 hb
 have hgR:RDk k (ρ g):=.inl hr
 have h0R:¬RDk k 0:=by unfold RDk;omega
 rcases hw:wOk A.left A.st s d with _|_
 ·have e:bG A s d={ A with left:=bK A.left A.st,st:=stS A.left A.st }:=by unfold bG;rw[hw];rfl
  rw[e];have hfin:Hid (∀ w',Upd w w' g (dB vs vn vl (bK A.left A.st) (stS A.left A.st)) 112->∃ ρ',DAt ρ' k w' g { A with left:=bK A.left A.st,st:=stS A.left A.st }/\Stp (RDk k) ρ ρ' w w'):=fun w' hu=>by
   have S:Stp (RDk k) ρ ρ w w':=Stp.upd hc hu hgR
   have S3:Stp (fun r=>r=4*k+1) ρ ρ w w':=Stp.upd hc hu hr
   exact⟨ρ,⟨hr,vs,vn,vl,hu.blk,hs.step S h0R,hnn.step S h0R,hl.step S3 om⟩,S⟩
  clear hb hs hnn hl e;rcases hok:cH A.left A.st with _|_
  ·rw[hok] at hst;go_enter func101,ntmps101
   go_wp2_with (go_at_call 149;refine hst.o.mono ?_;rintro e w1 ⟨rfl,hu⟩;have HU:Hid (Upd w w1 g (dB vs vn vl (bK A.left A.st) (stS A.left A.st)) 112):=hu;clear hu)
   go_ret;exact⟨rfl,hfin.o _ HU.o⟩
  ·rw[hok] at hst;have hw':¬(0<=s/\s<256/\d.size<=64):=by intro⟨a,b,c⟩;simp[wOk,hok,a,b,c] at hw
   by_cases s0:s<0
   ·go_enter func101,ntmps101
    go_wp2_with (go_at_call 149;refine hst.o.mono ?_;rintro e w1 ⟨rfl,hu⟩;have HU:Hid (Upd w w1 g (dB vs vn vl (bK A.left A.st) (stS A.left A.st)) 112):=hu;clear hu)
    go_ret;exact⟨rfl,hfin.o _ HU.o⟩
   ·by_cases s1:256<=s
    ·go_enter func101,ntmps101
     go_wp2_with (go_at_call 149;refine hst.o.mono ?_;rintro e w1 ⟨rfl,hu⟩;have HU:Hid (Upd w w1 g (dB vs vn vl (bK A.left A.st) (stS A.left A.st)) 112):=hu;clear hu)
     go_ret;exact⟨rfl,hfin.o _ HU.o⟩
    ·have s2:64<d.size:=by omega
     clear hw';go_enter func101,ntmps101
     go_wp2_with (go_at_call 149;refine hst.o.mono ?_;rintro e w1 ⟨rfl,hu⟩;have HU:Hid (Upd w w1 g (dB vs vn vl (bK A.left A.st) (stS A.left A.st)) 112):=hu;clear hu)
     go_ret;exact⟨rfl,hfin.o _ HU.o⟩
 ·have hq:cH A.left A.st=true/\0<=s/\s<256/\d.size<=64:=by simpa[wOk] using hw
  obtain⟨hok,s0,s1,hd⟩:=hq;have e:bG A s d={ A with now:=cG A.now (s,da d),loose:=A.loose++[(s,da d)],left:=bK A.left A.st,st:=stS A.left A.st }:=by unfold bG;rw[hw];rfl
  rw[e];rw[hok] at hst;have hmk:∀ w,(Instr.makeSlice 106 (I6 (64-(d.size:Int))) (I6 (64-(d.size:Int)))).run prog w=.ok (.slice (some (Nw w 0)) (64-d.size) (64-d.size)) (w.alloc (.cells (madeCells #[.int .u8 0] (64-d.size)) 5)):=fun w=>by
   rw[show (64-(d.size:Int))=((64-d.size:Nat):Int) by omega]
   exact run_make_row' (P:=prog) 106 5 (.int .u8 0) 1 underlying106 D8 rfl .i64 .i64 (64-d.size) om om w
  have hcv:=mQ (64-d.size)
  have hpt:Hid (∀ w',RdZ ρ w' vn A.now->Calls prog 50 #[vn,.agg #[I6 s,.string (da d)]] w' fun e w''=>∃ v',e=.returned v'/\w''.ownsRow w'.heap.size 114 2 v' (cG A.now (s,da d)).length (cvs (cG A.now (s,da d)))/\Bl w' w''):=fun w' h=>Dj vn A.now s (da d) w' hn h.1
  have hpp:=AE A.now (s,da d)
  have hzs:(zb (64-d.size)).size=64-d.size:=by simp[zb,aN]
  have HF:Hid (d++zb (64-d.size)=da d):=rfl
  clear hw e;go_enter func101,ntmps101
  go_wp2_with (go_at_call 149;refine hst.o.mono ?_;rintro e w1 ⟨rfl,hu⟩;have HU:Hid (Upd w w1 g (dB vs vn vl (bK A.left A.st) (stS A.left A.st)) 112):=hu;have c1:w1.cell? (At g 1)=some vn:=(hu.blk.cell 1);have c2:w1.cell? (At g 2)=some vl:=(hu.blk.cell 2);have f1:w1.frozen? (At g 1)=false:=(hu.blk.frozen 1);have f2:w1.frozen? (At g 2)=false:=(hu.blk.frozen 2);have gz:g<w1.heap.size:=hu.blk.lt;clear hu)
  have hq1:Hid (RdZ ρ ((w1.alloc (.cells (madeCells #[.int .u8 0] (64-d.size)) 5)).alloc (.cells #[I6 s,.string (d++zb (64-d.size))] 114)).drew vn A.now):=by
   have S1:Stp (RDk k) ρ ρ w w1:=Stp.upd hc HU.o hgR
   have S2:Stp (RDk k) ρ ρ w1 ((w1.alloc (.cells (madeCells #[.int .u8 0] (64-d.size)) 5)).alloc (.cells #[I6 s,.string (d++zb (64-d.size))] 114)).drew :=
    Stp.drew ((Stp.alloc0 S1.clean _).trans (Stp.alloc0 (Stp.alloc0 (R:=RDk k) S1.clean _).clean _))
   exact(hnn.step S1 h0R).step S2 h0R
  rw[HF.o] at hq1 ⊢;go_region_with (go_at_call 50;refine(hpt.o _ hq1.o).mono ?_;rintro e w2 ⟨v2,rfl,hown2,hb2⟩;obtain⟨g2,cap2,hv2,hg2,hl2⟩:=hown2.form hpp;subst hv2;have f21:w2.frozen? (At g 1)=false:=(by rw[hb2.frozen (p:=At g 1) (by simp;omega)];simp[go_sem,f1,gz]);have c21:w2.cell? (At g 1)=some vn:=(by rw[hb2.cell (p:=At g 1) (by simp;omega)];simp[go_sem,c1,gz]);have f22:w2.frozen? (At g 2)=false:=(by rw[hb2.frozen (p:=At g 2) (by simp;omega)];simp[go_sem,f2,gz]);have c22:w2.cell? (At g 2)=some vl:=(by rw[hb2.cell (p:=At g 2) (by simp;omega)];simp[go_sem,c2,gz]);have b20:w2.cell? (At (w1.heap.size+1) 0)=some (I6 s):=(by rw[hb2.cell (p:=At (w1.heap.size+1) 0) sM];simp[go_sem]);have b21:w2.cell? (At (w1.heap.size+1) 1)=some (.string (da d)):=(by rw[hb2.cell (p:=At (w1.heap.size+1) 1) sM];simp[go_sem]);have z2:w1.heap.size+2<=w2.heap.size:=(by have:=hb2.size;simpa using this))
  all_goals (
   obtain⟨i0,hi,hz0,hz1,hz2⟩:=info_parts D9;have HO:Hid (∀ wz,Below w2.heap.size (w2.setCell (At g 1) (Sq g2 (cG A.now (s,da d)).length cap2)) wz->wz.ownsRow 0 114 2 vl A.loose.length (cvs A.loose)):=fun wz hz=>by
    have S1:Stp (fun r=>r=4*k+1) ρ ρ w w1:=Stp.upd hc HU.o hr
    have Sa:Stp (fun r=>r=4*k+1) ρ ρ w1 ((w1.alloc (.cells (madeCells #[.int .u8 0] (64-d.size)) 5)).alloc (.cells #[I6 s,.string (da d)] 114)).drew :=
     Stp.drew ((Stp.alloc0 S1.clean _).trans (Stp.alloc0 (Stp.alloc0 (R:=RDk k) S1.clean _).clean _))
    have S2:=Sa.trans (Stp.below Sa.clean hb2)
    have S3:Stp (fun r=>r=4*k+1) ρ ρ w2 (w2.setCell (At g 1) (Sq g2 (cG A.now (s,da d)).length cap2)):=Stp.set S2.clean hr 1 _
    have S4:Stp (fun r=>r=4*k+1) ρ ρ _ wz:=Stp.below S3.clean (by simpa[World.setCell,Bl] using hz)
    exact((((hl.step S1 om).step S2 om).step S3 om).step S4 om).1
   have HQ:Hid (Bl w1 ((w1.alloc (.cells (madeCells #[.int .u8 0] (64-d.size)) 5)).alloc (.cells #[I6 s,.string (da d)] 114)).drew):=(((Below.refl _ _).alloc (Nat.le_refl _) _).alloc sM _).drew
   have H2:Hid (Below _ _ w2):=hb2
   have HW:Hid (w2.ownsRow _ 114 2 _ _ _):=hown2
   have HD:Hid (DPt ρ k w g vs vn vl A):=⟨hr,hb,hs,hnn,hl⟩
   generalize hpl:(cG A.now (s,da d)).length=pl at HO HW ⊢
   have HPL:Hid ((cG A.now (s,da d)).length=pl):=hpl
   have HN:Hid (some g≠vl.ownBlock):=fun e=>by have:=hl.2 g e.symm;omega
   have gz2:g<w2.heap.size:=by omega
   clear hb hs hnn hl hst hpt hb2 hown2 hmk hcv hpl c1 c2 f1 f2;go_wp2_with fail
   go_region_law (refine step_append_lies _ rfl _ _ 110 rfl 0 114 i0 _ 2 24 underlying110 hi hz0 hz1 hz2 rfl dE vl A.loose.length (cvs A.loose) (by first|rfl|simp) (HO.o _ (by repeat' (first|with_reducible exact Below.refl _ _|with_reducible apply Below.drew|with_reducible apply Below.alloc|(simp[World.setCell];done)))) (Nw w2 0) 1 1 [I6 s,.string (da d)] (by first|rfl|simp) rfl (ji (by simp[go_sem,World.setCell]) (by simp[go_sem,World.setCell])) (kX _ _) om (by unfold maxLen;omega) om om (w2.heap.size+1) (by simp[World.setCell]) ?_;intro g3 cap3 w3 hown3 hgrow3 hat3 hlt3;have c32:w3.cell? (At g 2)=some vl:=(by rw[hgrow3.cell_far (At g 2) (by simp[World.setCell];omega) HN.o];simp[go_sem,c22,gz2]);have f32:w3.frozen? (At g 2)=false:=(by rw[hgrow3.frozen_far (At g 2) (by simp[World.setCell];omega) HN.o];simp[go_sem,f22,gz2]))
   all_goals (
    go_wp2;go_ret;refine⟨rfl,rJ hc HD.o HU.o HQ.o H2.o (by rw[HPL.o];exact HW.o) ?_ hown3 hgrow3 (Gr hat3 (fun h=>by rw[h];simp[World.setCell])) hlt3⟩
    repeat' (first|with_reducible exact Below.refl _ _|with_reducible apply Below.drew|with_reducible apply Below.alloc|(simp[World.setCell];done))))
end
section
open Go.ChangeShapes Go.WideShapes Go.ChangeAt Go.RowKit
def Eg(w:World)(v:Value)(L:List Int):Prop :=
 ∃ a c,v=.slice a L.length c/\L.length<=c/\c<=maxLen/\(L≠[]->∃ b o,a=some (At b o)/\b<w.heap.size/\∀ j,j<L.length->w.cell? (At b (o+j))=some (I6 (L.getD j 0)))
def nX(x:Int):Nat:=(min (max x 0) 64).toNat
def Fe(n:Nat)(d y:Bz):Bz:=d.extract 0 n++y.extract n y.size
def lr(n:Nat)(S:List (Int×Bz))(c:Int×Bz):List (Int×Bz):=if 0<n then cG S (c.1,Fe n c.2 (bT S c.1)) else S
def crD(L:List Int)(S0 loose:List (Int×Bz)):Nat->List (Int×Bz)
 | 0=>S0
 | k+1=>lr (nX (L.getD (k%L.length) 0)) (crD L S0 loose k) (cAt loose k)
def dL(l:List (Int×Bz)):Prop:=∀ c∈l,c.2.size=64
theorem AD(l:List (Int×Bz))(c:Int×Bz):(cG l c).length<=l.length+1:=by unfold cG;split<;>simp
theorem dL.put{l:List (Int×Bz)}(h:dL l){c:Int×Bz}(hc:c.2.size=64):dL (cG l c):=by
 have hm:∀ x∈l.map (rep c),x.2.size=64:=by
  intro x hx;obtain⟨y,hy,rfl⟩:=List.mem_map.1 hx;unfold rep;split
  ·exact hc
  ·exact h y hy
 unfold cG;split
 ·exact hm
 ·intro x hx;rcases List.mem_append.1 hx with hx|hx
  ·exact hm x hx
  ·simp at hx;subst hx;exact hc
theorem g8{l:List (Int×Bz)}(h:dL l)(s:Int):(bT l s).size=64:=by
 unfold bT;split
 ·rename_i c hc;exact h c (List.mem_of_find?_eq_some hc)
 ·simp[zb,aN]
theorem Cg{l:List (Int×Bz)}{k:Nat}(hk:k<l.length):cAt l k∈l:=by
 simp[cAt,List.getD,List.getElem?_eq_getElem hk]
end
section
open Go.RowKit
abbrev CL:=List (Int×Bz)
theorem i7{l:CL}{c:Int×Bz}{s:Int}:(l.map (rep c)).find? (fun x=>x.1==s)=if c.1=s then (if has l c then some c else none) else l.find? (fun x=>x.1==s):=by
 induction l with
 | nil=>simp[has]
 | cons x r ih =>
  have hh:has (x::r) c=((x.1==c.1)||has r c):=by simp[has]
  by_cases hx:x.1=c.1
  ·have e:rep c x=c:=by simp[rep,hx]
   rw[List.map_cons,e,List.find?_cons];by_cases hs:c.1=s
   ·have:(c.1==s)=true:=by simpa using hs
    rw[this,hh,if_pos hs];simp[hx]
   ·have h1:(c.1==s)=false:=by simpa using hs
    have h2:(x.1==s)=false:=by rw[hx];exact h1
    rw[h1,if_neg hs,List.find?_cons,h2];rw[if_neg hs] at ih;exact ih
  ·have e:rep c x=x:=by simp[rep,hx]
   rw[List.map_cons,e,List.find?_cons];by_cases hs:c.1=s
   ·have h2:(x.1==s)=false:=by simpa using (fun q=>hx (q.trans hs.symm))
    rw[h2,if_pos hs];rw[if_pos hs] at ih;rw[ih,hh];have:(x.1==c.1)=false:=by simpa using hx
    rw[this];rfl
   ·rw[if_neg hs] at ih ⊢;rw[List.find?_cons];rcases h:(x.1==s) with _|_
    ·exact ih
    ·rfl
theorem gI(l:CL)(c:Int×Bz)(s:Int):bT (cG l c) s=if c.1=s then c.2 else bT l s:=by
 unfold cG bT;by_cases hs:c.1=s
 ·rw[if_pos hs];by_cases hh:has l c
  ·rw[if_pos hh,i7,if_pos hs,if_pos hh]
  ·rw[if_neg hh,List.find?_append,i7,if_pos hs,if_neg hh];simp[hs]
 ·rw[if_neg hs];by_cases hh:has l c
  ·rw[if_pos hh,i7,if_neg hs]
  ·rw[if_neg hh,List.find?_append,i7,if_neg hs];have:(c.1==s)=false:=by simpa using hs
   simp[this]
structure WF(l:CL):Prop where
 w:dL l
 k:∀ c,c∈l->0<=c.1/\c.1<256
 n:(l.map Prod.fst).Nodup
theorem uO(c x:Int×Bz):(rep c x).1=x.1:=by unfold rep;split<;>simp_all
theorem uF(l:CL)(c:Int×Bz):(l.map (rep c)).map Prod.fst=l.map Prod.fst:=by
 rw[List.map_map];exact List.map_congr_left fun x _=>uO c x
theorem WF.put{l:CL}(h:WF l){c:Int×Bz}(hc:c.2.size=64)(h0:0<=c.1)(h1:c.1<256):WF (cG l c):=by
 refine⟨h.w.put hc,?_,?_⟩
 ·intro x hx;have hm:∀ x,x∈l.map (rep c)->0<=x.1/\x.1<256:=fun x hx=>by
   obtain⟨y,hy,rfl⟩:=List.mem_map.1 hx;rw[uO];exact h.k y hy
  unfold cG at hx;split at hx
  ·exact hm x hx
  ·rcases List.mem_append.1 hx with hx|hx
   ·exact hm x hx
   ·simp at hx;subst hx;exact⟨h0,h1⟩
 ·unfold cG;split
  ·rw[uF];exact h.n
  ·rename_i hh;rw[List.map_append,uF];refine List.nodup_append.2 ⟨h.n,by simp,?_⟩
   intro a ha b hb;simp at hb;rintro rfl
   obtain⟨y,hy,e⟩:=List.mem_map.1 ha;refine hh (List.any_eq_true.2 ⟨y,hy,?_⟩)
   rw[e,hb];simp
theorem Ah:∀ (n:Nat) (l:List Int),l.Nodup->(∀ x,x∈l->0<=x/\x<n)->l.length<=n:=by
 intro n;induction n with
 | zero =>
  intro l _ h
  cases l with
  | nil=>simp
  | cons x r=>have:=h x sM;omega
 | succ n ih =>
  intro l hd h;have h1:=ih (l.filter fun x=>decide (x≠(n:Int))) (hd.filter _) (fun x hx=>by
   obtain⟨q1,q2⟩:=List.mem_filter.1 hx;have:=h x q1
   simp at q2;omega)
  have h2:l.length<=(l.filter fun x=>decide (x≠(n:Int))).length+1:=by
   clear ih h h1;induction l with
   | nil=>simp
   | cons x r ih2 =>
    obtain⟨d1,d2⟩:=List.nodup_cons.1 hd;by_cases e:x=(n:Int)
    ·have hall:r.filter (fun y=>decide (y≠(n:Int)))=r:=List.filter_eq_self.2 fun y hy=>by simp;rintro rfl;exact d1 (e ▸ hy)
     rw[List.filter_cons_of_neg (by simp[e]),hall];simp
    ·rw[List.filter_cons_of_pos (by simpa using e)]
     have:=ih2 d2
     simp only[List.length_cons];omega
  omega
theorem WF.len{l:CL}(h:WF l):l.length<=256:=by
 have:=Ah 256 (l.map Prod.fst) h.n (fun x hx=>by obtain⟨c,hc,rfl⟩:=List.mem_map.1 hx;exact h.k c hc)
 simpa using this
theorem FN:WF []:=⟨fun c h=>by simp at h,fun c h=>by simp at h,by simp⟩
theorem nh{l:CL}(h:WF l){s:Int}(hs:s<0\/256<=s):bT l s=zb 64:=by
 unfold bT;have:l.find? (fun c=>c.1==s)=none:=List.find?_eq_none.2 fun c hc=>by
  have:=h.k c hc
  simp;omega
 rw[this]
def bd(a i:Nat):Int:=1+2*(i:Int)+a
def bH(l:CL):Nat:=((bT l 0).data.toList.headD 0).toNat%2
theorem ld(l:CL):bH l=0\/bH l=1:=by unfold bH;omega
def eI(l:CL)(a:Nat):Nat->Nat->Lu
 | 0,_=>[]
 | f+1,i=>(bT l (bd a i)).data.toList.takeWhile (fun c=>c != 0)++(if (0:UInt8)∈(bT l (bd a i)).data.toList then [] else eI l a f (i+1))
def dg(l:CL):Lu:=eI l (bH l) 200 0
theorem lT{l m:CL}{a:Nat}(h:∀ i,bT m (bd a i)=bT l (bd a i)):∀ f i,eI m a f i=eI l a f i:=by
 intro f;induction f with
 | zero=>intro i;rfl
 | succ f ih=>intro i;simp only[eI,h,ih]
theorem mf{l m:CL}(h0:bT m 0=bT l 0)(h:∀ i,bT m (bd (bH l) i)=bT l (bd (bH l) i)):dg m=dg l:=by
 have e:bH m=bH l:=by unfold bH;rw[h0]
 unfold dg;rw[e];exact lT h 200 0
def chk:Nat->Lu->List (Lu)
 | 0,_=>[]
 | f+1,t=>if t=[] then [] else t.take 64::chk f (t.drop 64)
def aI(t:Lu):List (Lu):=chk t.length t
theorem yA(f:Nat):∀ (g:Nat) (t:Lu),t.length<=f->f<=g->chk g t=chk f t:=by
 induction f with
 | zero =>
  intro g t h _;obtain rfl:t=[]:=List.length_eq_zero_iff.1 om
  cases g<;>simp[chk]
 | succ f ih =>
  intro g t h hg;obtain⟨g,rfl⟩:∃ g',g=g'+1:=⟨g-1,by omega⟩
  simp only[chk]
  by_cases e:t=[]
  ·simp[e]
  ·rw[if_neg e,if_neg e,ih g (t.drop 64) (by have:0<t.length:=List.length_pos_iff.2 e;simp;omega) om]
theorem ek{t:Lu}(h:t≠[]):aI t=t.take 64::aI (t.drop 64):=by
 have hp:0<t.length:=List.length_pos_iff.2 h
 unfold aI;obtain⟨n,hn⟩:∃ n,t.length=n+1:=⟨t.length-1,by omega⟩
 rw[hn];simp only[chk,if_neg h]
 rw[yA (t.drop 64).length n (t.drop 64) (Nat.le_refl _) (by simp;omega)]
theorem iy:aI []=[]:=rfl
theorem mO(t:Lu):∀ c,c∈aI t->c.length<=64/\c≠[]:=by
 have key:∀ (f:Nat) (t:Lu) c,c∈chk f t->c.length<=64/\c≠[]:=by
  intro f;induction f with
  | zero=>intro t c h;simp[chk] at h
  | succ f ih =>
   intro t c h;simp only[chk] at h
   split at h
   ·simp at h
   ·rename_i e;rcases List.mem_cons.1 h with rfl|h
    ·exact⟨by simp;omega,by cases t with|nil=>exact absurd rfl e|cons _ _=>simp⟩
    ·exact ih _ c h
 exact key _ t
theorem ix(t:Lu):(aI t).length*64<=t.length+63:=by
 have key:∀ (f:Nat) (t:Lu),(chk f t).length*64<=t.length+63:=by
  intro f;induction f with
  | zero=>intro t;simp[chk]
  | succ f ih =>
   intro t;simp only[chk]
   split
   ·simp
   ·rename_i e;have:=ih (t.drop 64)
    have hp:0<t.length:=List.length_pos_iff.2 e
    simp at this ⊢
    omega
 exact key _ t
def aT(a:Nat):PD->Nat->List (Lu)->PD×Bool
 | A,_,[]=>(A,true)
 | A,i,c::cs=>if wOk A.left A.st (bd a i) (bs c) then aT a (bG A (bd a i) (bs c)) (i+1) cs else (bG A (bd a i) (bs c),false)
def gb(A:PD)(t:Lu):PD×Bool :=
 let a:=1-bH A.now
 let r:=aT a A 0 (aI (t++[0]))
 if r.2=false then (r.1,false) else
 if cH r.1.left r.1.st=false then (b9 r.1,false) else
 if wOk (b9 r.1).left (b9 r.1).st 0 (bs [UInt8.ofNat a])=false then (bG (b9 r.1) 0 (bs [UInt8.ofNat a]),false) else
 (b9 (bG (b9 r.1) 0 (bs [UInt8.ofNat a])),cH (bG (b9 r.1) 0 (bs [UInt8.ofNat a])).left (bG (b9 r.1) 0 (bs [UInt8.ofNat a])).st)
theorem uu(d:Lu):(da (bs d)).data.toList=d++List.replicate (64-d.length) 0:=by simp[da,zb,bs,ByteArray.size]
theorem u9{left:Int}{st:Bool}{s:Int}{d:Bz}:wOk left st s d=true ↔ cH left st=true/\0<=s/\s<256/\d.size<=64:=by
 unfold wOk;simp
theorem kT{left:Int}{st:Bool}(h:cH left st=false):stS left st=true:=by unfold cH at h;unfold stS;cases st<;>simp_all
def jA(A:PD):Prop:=A.left=-1/\A.st=false
theorem fs{left:Int}{st:Bool}(h1:left=-1)(h2:st=false):cH left st=true/\bK left st=-1/\stS left st=false:=by subst h1;subst h2;decide
theorem jz{A:PD}{s:Int}{d:Bz}(h:wOk A.left A.st s d=true):bG A s d={ A with now:=cG A.now (s,da d),loose:=A.loose++[(s,da d)],left:=bK A.left A.st,st:=stS A.left A.st }:=by unfold bG;rw[if_pos h]
theorem jy{A:PD}{s:Int}{d:Bz}(h:wOk A.left A.st s d=false):bG A s d={ A with left:=bK A.left A.st,st:=stS A.left A.st }:=by unfold bG;rw[if_neg (by rw[h];simp)]
theorem oQ{A:PD}(h:cH A.left A.st=true):b9 A={ A with safe:=A.now,loose:=[],left:=bK A.left A.st,st:=stS A.left A.st }:=by unfold b9;rw[if_pos h]
theorem oP{A:PD}(h:cH A.left A.st=false):b9 A={ A with left:=bK A.left A.st,st:=stS A.left A.st }:=by unfold b9;rw[if_neg (by rw[h];simp)]
theorem cD(left:Int)(st:Bool):bK left st<=left:=by unfold bK;split<;>omega
theorem uQ{a i:Nat}(ha:a<=1)(hi:i<127):0<=bd a i/\bd a i<256:=by unfold bd;omega
theorem Bb{a i j:Nat}(h:bd a i=bd a j):i=j:=by unfold bd at h;omega
theorem l7{a b i j:Nat}(ha:a<=1)(hb:b<=1)(h:a≠b):bd a i≠bd b j:=by unfold bd;omega
structure Run(a i n:Nat)(A:PD)(cs:List (Lu))(r:PD×Bool):Prop where
 safe:r.1.safe=A.safe
 now:WF r.1.now
 loose:∃ M,r.1.loose=A.loose++M/\(∀ c,c∈M->∃ j,j<127/\c.1=bd a j)/\dL M/\M.length<=n
 keep:∀ s,(∀ j,i<=j->s≠bd a j)->bT r.1.now s=bT A.now s
 left:r.1.left<=A.left
 ever:jA A->jA r.1/\r.2=true
 no:r.2=false->r.1.st=true
 yes:r.2=true->∀ j,j<cs.length->bT r.1.now (bd a (i+j))=da (bs (cs.getD j []))
theorem kA(a:Nat)(ha:a<=1):∀ (cs:List (Lu)) (A:PD) (i:Nat),WF A.now->(∀ c,c∈cs->c.length<=64)->i+cs.length<=127->Run a i cs.length A cs (aT a A i cs):=by
 intro cs;induction cs with
 | nil =>
  intro A i hw _ _;exact⟨rfl,hw,⟨[],by simp[aT],by simp,fun c h=>by simp at h,by simp⟩,fun _ _=>rfl,Int.le_refl _,fun h=>⟨h,rfl⟩,fun h=>by simp[aT] at h,fun _ j hj=>by simp at hj⟩
 | cons c cs ih =>
  intro A i hw hc hi;simp only[List.length_cons] at hi
  have hcl:=hc c sM
  have hsz:(bs c).size<=64:=by rw[aN];exact hcl
  obtain⟨s0,s1⟩:=uQ (i:=i) ha om
  by_cases ho:wOk A.left A.st (bd a i) (bs c)=true
  ·have e:aT a A i (c::cs)=aT a (bG A (bd a i) (bs c)) (i+1) cs:=by simp only[aT];rw[if_pos ho]
   rw[e];have ew:=jz ho;have hf:(da (bs c)).size=64:=mW _ hsz
   have hw2:WF (bG A (bd a i) (bs c)).now:=by rw[ew];exact hw.put hf s0 s1
   have R:=ih (bG A (bd a i) (bs c)) (i+1) hw2 (fun d hd=>hc d (by simp[hd])) om
   obtain⟨M,m1,m2,m3,m4⟩:=R.loose;have hl:bT (bG A (bd a i) (bs c)).now (bd a i)=da (bs c):=by rw[ew,gI,if_pos rfl]
   refine⟨R.safe.trans (by rw[ew]),R.now,⟨(bd a i,da (bs c))::M,?_,?_,?_,?_⟩,?_,?_,?_,R.no,?_⟩
   ·rw[m1,ew];simp
   ·intro d hd;rcases List.mem_cons.1 hd with rfl|hd
    ·exact⟨i,by omega,rfl⟩
    ·exact m2 d hd
   ·intro d hd;rcases List.mem_cons.1 hd with rfl|hd
    ·exact hf
    ·exact m3 d hd
   ·simp;omega
   ·intro s hs;rw[R.keep s (fun j hj=>hs j om),ew,gI,if_neg (fun q=>hs i (Nat.le_refl _) q.symm)]
   ·refine Int.le_trans R.left ?_
    rw[ew];exact cD _ _
   ·intro hE;refine R.ever ?_
    obtain⟨e1,e2⟩:=hE;obtain⟨_,f2,f3⟩:=fs e1 e2;rw[ew];exact⟨f2,f3⟩
   ·intro hy j hj
    cases j with
    | zero =>
     show bT _ (bd a i)=_
     rw[R.keep _ (fun j hj q=>by have:=Bb q;omega),hl];rfl
    | succ j =>
     have:=R.yes hy j (by simpa using hj)
     rw[show i+(j+1)=i+1+j by omega,this];rfl
  ·have ho':wOk A.left A.st (bd a i) (bs c)=false:=by simpa using ho
   have e:aT a A i (c::cs)=(bG A (bd a i) (bs c),false):=by simp only[aT];rw[if_neg ho]
   have ew:=jy ho';have hst:cH A.left A.st=false:=by
    rcases q:cH A.left A.st with _|_
    ·rfl
    ·exact absurd (u9.2 ⟨q,s0,s1,hsz⟩) ho
   rw[e];refine⟨by rw[ew],by rw[ew];exact hw,⟨[],by rw[ew];simp,by simp,fun c h=>by simp at h,by simp⟩,fun s _=>by rw[ew],by rw[ew];exact cD _ _,fun hE=>?_,fun _=>by rw[ew];exact kT hst,fun h=>(by cases h)⟩
   obtain⟨f1,_,_⟩:=fs hE.1 hE.2;rw[f1] at hst;cases hst
theorem kW{α:Type}{p:α->Bool}:∀ {l:List α},(∀ x,x∈l->p x=true)->l.takeWhile p=l
 | [],_=>rfl
 | x::r,h=>by rw[List.takeWhile_cons_of_pos (h x sM),kW fun y hy=>h y (by simp[hy])]
theorem AM(l:CL)(a:Nat):∀ (f:Nat) (t:Lu) (i:Nat),(0:UInt8)∉t->t.length<f*64->(∀ j,j<(aI (t++[0])).length->bT l (bd a (i+j))=da (bs ((aI (t++[0])).getD j [])))->eI l a f i=t:=by
 intro f;induction f with
 | zero=>intro t i _ h _;omega
 | succ f ih =>
  intro t i h0 hlen h;have hne:t++[0]≠[]:=by simp
  rw[ek hne] at h;have h1:=h 0 sM
  rw[Nat.add_zero] at h1;simp only[List.getD_cons_zero] at h1
  simp only[eI]
  rw[h1,uu];by_cases ht:t.length<64
  ·have e:(t++[0]).take 64=t++[0]:=List.take_of_length_le (by simp;omega)
   rw[e];have hm:(0:UInt8)∈t++[0]++List.replicate (64-(t++[0]).length) 0:=by simp
   rw[if_pos hm,List.append_nil,List.append_assoc,List.takeWhile_append_of_pos (by intro c hc;simp;rintro rfl;exact h0 hc)]
   simp
  ·have e:(t++[0]).take 64=t.take 64:=List.take_append_of_le_length om
   have el:(t.take 64).length=64:=by simp;omega
   have ed:(t++[0]).drop 64=t.drop 64++[0]:=List.drop_append_of_le_length om
   rw[e,el];have hn:(0:UInt8)∉t.take 64:=fun q=>h0 (List.mem_of_mem_take q)
   simp only[Nat.sub_self,List.replicate_zero,List.append_nil]
   rw[if_neg hn,kW (fun c hc=>by simp;rintro rfl;exact hn hc)]
   rw[ih (t.drop 64) (i+1) (fun q=>h0 (List.mem_of_mem_drop q)) (by simp;omega) (fun j hj=>by
    have:=h (j+1) (by rw[ed];simpa using hj)
    rw[show i+1+j=i+(j+1) by omega,this,ed];rfl)]
   exact List.take_append_drop 64 t
def jG(L:List Int)(A:PD):CL:=crD L A.safe A.loose A.loose.length
theorem ub(L:List Int)(S loose:CL)(s:Int)(h:∀ c,c∈loose->c.1≠s):∀ k,k<=loose.length->bT (crD L S loose k) s=bT S s:=by
 intro k;induction k with
 | zero=>intro _;rfl
 | succ k ih =>
  intro hk;simp only[crD,lr]
  split
  ·rw[gI,if_neg (h _ (Cg om))];exact ih om
  ·exact ih om
structure Has(A:PD)(t:Lu):Prop where
 wf:WF A.now
 safe:A.safe=A.now
 loose:A.loose=[]
 text:dg A.now=t
structure FV(A:PD)(t u:Lu):Prop where
 st:A.st=true
 now:WF A.now
 wf:WF A.safe
 keys:∀ c,c∈A.loose->0<=c.1/\c.1<256
 whole:dL A.loose
 len:A.loose.length<=200
 text:∀ L,dg (jG L A)=t\/dg (jG L A)=u
theorem zY(a:Nat):(da (bs [UInt8.ofNat a])).data.toList=UInt8.ofNat a::List.replicate 63 0:=by rw[uu];rfl
theorem jQ(a:Nat):(da (bs [UInt8.ofNat a])).size=64:=mW _ (by rw[aN];simp)
theorem vi{l:CL}{a:Nat}(ha:a<=1){b:Bz}(hb:b.data.toList.headD 0=UInt8.ofNat a):bH (cG l (0,b))=a:=by
 unfold bH;rw[gI,if_pos rfl,hb];rcases (show a=0\/a=1 by omega) with rfl|rfl<;>rfl
theorem nR{l:CL}{a:Nat}(ha:a<=1){b:Bz}(hb:b.data.toList.headD 0=UInt8.ofNat a):dg (cG l (0,b))=eI l a 200 0:=by
 unfold dg;rw[vi ha hb];refine lT (fun i=>?_) 200 0
 rw[gI,if_neg (by unfold bd;omega)]
theorem z7{n:Nat}(hn:0<n){d y:Bz}(hd:d.size=64):(Fe n d y).data.toList.headD 0=d.data.toList.headD 0:=by
 have hl:d.data.toList.length=64:=by rw[Array.length_toList];exact hd
 unfold Fe;rcases h:d.data.toList with _|⟨x,r⟩
 ·rw[h] at hl;simp at hl
 ·have e:(d.extract 0 n++y.extract n y.size).data.toList=(d.data.toList.take n)++(y.extract n y.size).data.toList:=by
   simp[ByteArray.data_append,ByteArray.data_extract]
  rw[e,h];obtain⟨m,rfl⟩:∃ m,n=m+1:=⟨n-1,by omega⟩
  simp
theorem wR{A:PD}{T t:Lu}(hA:Has A T)(h0:(0:UInt8)∉t)(hlen:t.length<=8000):
  ((gb A t).2=true->Has (gb A t).1 t)/\((gb A t).2=false->FV (gb A t).1 T t)/\(gb A t).1.left<=A.left/\(jA A->(gb A t).2=true/\jA (gb A t).1)/\WF (gb A t).1.now:=by
 obtain⟨a,ea⟩:∃ a,a=1-bH A.now:=⟨_,rfl⟩
 have hal:=ld A.now;have ha:a<=1:=by omega
 have hne:a≠bH A.now:=by omega
 have hcl:=ix (t++[0])
 have hR:=kA a ha (aI (t++[0])) A 0 hA.wf (fun c hc=>(mO _ c hc).1) (by simp at hcl;omega)
 have e:gb A t=if (aT a A 0 (aI (t++[0]))).2=false then ((aT a A 0 (aI (t++[0]))).1,false) else
   if cH (aT a A 0 (aI (t++[0]))).1.left (aT a A 0 (aI (t++[0]))).1.st=false then (b9 (aT a A 0 (aI (t++[0]))).1,false) else
   if wOk (b9 (aT a A 0 (aI (t++[0]))).1).left (b9 (aT a A 0 (aI (t++[0]))).1).st 0 (bs [UInt8.ofNat a])=false then (bG (b9 (aT a A 0 (aI (t++[0]))).1) 0 (bs [UInt8.ofNat a]),false) else
   (b9 (bG (b9 (aT a A 0 (aI (t++[0]))).1) 0 (bs [UInt8.ofNat a])),cH (bG (b9 (aT a A 0 (aI (t++[0]))).1) 0 (bs [UInt8.ofNat a])).left (bG (b9 (aT a A 0 (aI (t++[0]))).1) 0 (bs [UInt8.ofNat a])).st):=by
  rw[ea];rfl
 rw[e];clear e;generalize aT a A 0 (aI (t++[0]))=r at hR
 obtain⟨M,m1,m2,m3,m4⟩:=hR.loose;rw[hA.loose,List.nil_append] at m1;have hM:M.length<=200:=by simp at hcl;omega
 have mk:∀ c,c∈M->0<=c.1/\c.1<256:=fun c hc=>by obtain⟨j,hj,q⟩:=m2 c hc;rw[q];exact uQ ha hj
 have k0:bT r.1.now 0=bT A.now 0:=hR.keep 0 (fun j _=>by unfold bd;omega)
 have ka:∀ i,bT r.1.now (bd (bH A.now) i)=bT A.now (bd (bH A.now) i):=fun i=>hR.keep _ (fun j _ q=>l7 om ha (fun q=>hne q.symm) q)
 have kt:dg r.1.now=T:=(mf k0 ka).trans hA.text
 have cT:∀ L,dg (crD L A.now M M.length)=T:=fun L=>by
  refine(mf ?_ (fun i=>?_)).trans hA.text
  ·exact ub L A.now M 0 (fun c hc q=>by obtain⟨j,_,q2⟩:=m2 c hc;rw[q2] at q;unfold bd at q;omega) _ (Nat.le_refl _)
  ·exact ub L A.now M _ (fun c hc q=>by obtain⟨j,_,q2⟩:=m2 c hc;rw[q2] at q;exact l7 ha om hne q) _ (Nat.le_refl _)
 by_cases h1:r.2=false
 ·rw[if_pos h1];refine⟨fun q=>(by cases q),fun _=>⟨hR.no h1,hR.now,by rw[hR.safe,hA.safe];exact hA.wf,by rw[m1];exact mk,by rw[m1];exact m3,by rw[m1];exact hM,fun L=>?_⟩,hR.left,fun hE=>?_,hR.now⟩
  ·left
   unfold jG;rw[hR.safe,hA.safe,m1];exact cT L
  ·have:=(hR.ever hE).2;rw[h1] at this;cases this
 ·rw[if_neg h1];have h1':r.2=true:=by simpa using h1
  have hy:=hR.yes h1';simp only[Nat.zero_add] at hy
  have rt1:eI r.1.now a 200 0=t:=AM r.1.now a 200 t 0 h0 om (by simpa using hy)
  by_cases h2:cH r.1.left r.1.st=false
  ·rw[if_pos h2];have es:=oP h2;refine⟨fun q=>(by cases q),fun _=>⟨by rw[es];exact kT h2,by rw[es];exact hR.now,by rw[es];show WF r.1.safe;rw[hR.safe,hA.safe];exact hA.wf,by rw[es];show ∀ c,c∈r.1.loose->_;rw[m1];exact mk,by rw[es];show dL r.1.loose;rw[m1];exact m3,by rw[es];show r.1.loose.length<=200;rw[m1];exact hM,fun L=>?_⟩,by rw[es];exact Int.le_trans (cD _ _) hR.left,fun hE=>?_,by rw[es];exact hR.now⟩
   ·left
    unfold jG;rw[es];show dg (crD L r.1.safe r.1.loose r.1.loose.length)=T
    rw[hR.safe,hA.safe,m1];exact cT L
   ·obtain⟨e1,e2⟩:=(hR.ever hE).1
    obtain⟨f1,_,_⟩:=fs e1 e2;rw[f1] at h2;cases h2
  ·rw[if_neg h2];have h2':cH r.1.left r.1.st=true:=by simpa using h2
   have es:=oQ h2';generalize hB:b9 r.1=B at *
   have b1:B.now=r.1.now:=by rw[es]
   have b2:B.safe=r.1.now:=by rw[es]
   have b3:B.loose=[]:=by rw[es]
   have b4:B.left<=A.left:=by rw[es];exact Int.le_trans (cD _ _) hR.left
   have b5:jA A->jA B:=fun hE=>by
    obtain⟨e1,e2⟩:=(hR.ever hE).1
    obtain⟨_,f2,f3⟩:=fs e1 e2;rw[es];exact⟨f2,f3⟩
   by_cases h3:wOk B.left B.st 0 (bs [UInt8.ofNat a])=false
   ·rw[if_pos h3];have ew:=jy h3;have hst:cH B.left B.st=false:=by
     rcases q:cH B.left B.st with _|_
     ·rfl
     ·have:=(u9 (left:=B.left) (st:=B.st) (s:=0) (d:=bs [UInt8.ofNat a])).2 ⟨q,by omega,by omega,(by rw[aN];simp:(bs [UInt8.ofNat a]).size<=64)⟩
      rw[h3] at this;cases this
    refine⟨fun q=>(by cases q),fun _=>⟨by rw[ew];exact kT hst,by rw[ew];show WF B.now;rw[b1];exact hR.now,by rw[ew];show WF B.safe;rw[b2];exact hR.now,by rw[ew];show ∀ c,c∈B.loose->_;rw[b3];simp,by rw[ew];show dL B.loose;rw[b3];intro c h;simp at h,by rw[ew];show B.loose.length<=200;rw[b3];simp,fun L=>?_⟩,by rw[ew];exact Int.le_trans (cD _ _) b4,fun hE=>?_,by rw[ew];show WF B.now;rw[b1];exact hR.now⟩
    ·left
     unfold jG;rw[ew];show dg (crD L B.safe B.loose B.loose.length)=T
     rw[b2,b3];exact kt
    ·obtain⟨f1,_,_⟩:=fs (b5 hE).1 (b5 hE).2
     rw[f1] at hst;cases hst
   ·rw[if_neg h3];have h3':wOk B.left B.st 0 (bs [UInt8.ofNat a])=true:=by simpa using h3
    have ew:=jz h3';generalize hC:bG B 0 (bs [UInt8.ofNat a])=C at *
    have c1:C.now=cG r.1.now (0,da (bs [UInt8.ofNat a])):=by rw[ew,b1]
    have c2:C.safe=r.1.now:=by rw[ew];exact b2
    have c3:C.loose=[(0,da (bs [UInt8.ofNat a]))]:=by rw[ew,b3];rfl
    have c4:C.left<=A.left:=by rw[ew];exact Int.le_trans (cD _ _) b4
    have c5:jA A->jA C:=fun hE=>by
     obtain⟨_,f2,f3⟩:=fs (b5 hE).1 (b5 hE).2
     rw[ew];exact⟨f2,f3⟩
    have c6:WF C.now:=by rw[c1];exact hR.now.put (jQ a) om om
    have hh:(da (bs [UInt8.ofNat a])).data.toList.headD 0=UInt8.ofNat a:=by rw[zY];rfl
    have c7:dg C.now=t:=by rw[c1,nR ha hh,rt1]
    by_cases h4:cH C.left C.st=true
    ·have e4:=oQ h4;refine⟨fun _=>⟨by rw[e4];exact c6,by rw[e4],by rw[e4],by rw[e4];exact c7⟩,fun q=>(by rw[h4] at q;cases q),by rw[e4];exact Int.le_trans (cD _ _) c4,fun hE=>⟨h4,?_⟩,by rw[e4];exact c6⟩
     obtain⟨_,f2,f3⟩:=fs (c5 hE).1 (c5 hE).2
     rw[e4];exact⟨f2,f3⟩
    ·have h4':cH C.left C.st=false:=by simpa using h4
     have e4:=oP h4';refine⟨fun q=>absurd q h4,fun _=>⟨by rw[e4];exact kT h4',by rw[e4];exact c6,by rw[e4];show WF C.safe;rw[c2];exact hR.now,by rw[e4];show ∀ c,c∈C.loose->_;rw[c3];intro c hc;simp at hc;subst hc;omega,by rw[e4];show dL C.loose;rw[c3];intro c hc;simp at hc;subst hc;exact jQ a,by rw[e4];show C.loose.length<=200;rw[c3];simp,fun L=>?_⟩,by rw[e4];exact Int.le_trans (cD _ _) c4,fun hE=>?_,by rw[e4];exact c6⟩
     ·unfold jG;rw[e4];show dg (crD L C.safe C.loose C.loose.length)=T\/dg (crD L C.safe C.loose C.loose.length)=t
      rw[c2,c3];show dg (lr (nX (L.getD (0%L.length) 0)) r.1.now (0,da (bs [UInt8.ofNat a])))=T\/dg (lr (nX (L.getD (0%L.length) 0)) r.1.now (0,da (bs [UInt8.ofNat a])))=t
      unfold lr;by_cases hn:0<nX (L.getD (0%L.length) 0)
      ·right
       rw[if_pos hn,nR ha (by rw[z7 hn (jQ a)];exact hh),rt1]
      ·left
       rw[if_neg hn];exact kt
     ·obtain⟨f1,_,_⟩:=fs (c5 hE).1 (c5 hE).2
      rw[f1] at h4';cases h4'
theorem Da:Has ⟨[],[],[],-1,false⟩ []:=by
 refine⟨FN,rfl,rfl,?_⟩
 have e:∀ a f i,eI [] a (f+1) i=(zb 64).data.toList.takeWhile (fun c=>c != 0)++(if (0:UInt8)∈(zb 64).data.toList then [] else eI [] a f (i+1)):=fun a f i=>rfl
 unfold dg;show eI [] (bH []) (199+1) 0=[]
 rw[e,if_pos (by decide +kernel)]
 decide +kernel
end
end Go.Proofs.YtjnhhnbgjjkkjaaGreatDoor
