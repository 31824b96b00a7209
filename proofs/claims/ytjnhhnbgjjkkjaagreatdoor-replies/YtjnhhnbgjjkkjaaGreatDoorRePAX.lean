import Derived.Deep.RegionHeldLaw
import Derived.Deep.RegionLaw
import Derived.Test.YtjnhhnbgjjkkjaaGreatDoorRePAW
set_option linter.all false
set_option maxRecDepth 100000
set_option maxHeartbeats 2000000
namespace Go.Proofs.YtjnhhnbgjjkkjaaGreatDoor
section
open Go.ChangeShapes Go.WideShapes Go.ChangeAt Go.RowKit Go.Proofs.Tryz
theorem FT{p q r:Prop}(h:p\/q)(f:q->r):p\/r:=by
 rcases h with h|h
 ·exact .inl h
 ·exact .inr (f h)
def DPt(ρ:Nat->Nat)(k:Nat)(w:World)(g:Nat)(vs vn vl:Value)(A:PD):Prop :=
 ρ g=4*k+1/\Blk w g (dB vs vn vl A.left A.st) 112/\RdZ ρ w vs A.safe/\RdZ ρ w vn A.now/\Own ρ (4*k+3) w 114 vl A.loose
theorem Stp.set{R:Nat->Prop}{ρ:Nat->Nat}{w:World}{g:Nat}(hc:cI ρ w)(hg:R (ρ g))(i:Nat)(v:Value):Stp R ρ ρ w (w.setCell (At g i) v) :=
 ⟨rfl,rfl,rfl,by simp[World.setCell],fun _ _=>rfl,fun b _ hr=>Below.heap_setCell _ _ _ _ (fun e=>hr (e ▸ hg)),fun b hb=>hc b (by simpa[World.setCell,Bl] using hb)⟩
theorem Stp.grown{R:Nat->Prop}{ρ:Nat->Nat}{w w':World}{row:Option Nat}{g r:Nat}(hc:cI ρ w)(hg:w.grownBy w' row)(hrow:∀ b,row=some b->ρ b=r)(hR:R r)(hat:row=some g\/g=w.heap.size)(hlt:g<w'.heap.size):Stp R ρ (ru ρ g r) w w':=by
 refine⟨hg.os,hg.tape,hg.output,hg.size,fun b hb=>?_,fun b hb hr=>hg.block b hb (fun e=>hr (by rw[hrow b e.symm];exact hR)),fun b hb=>?_⟩
 ·by_cases e:b=g
  ·subst e;rcases hat with h|h
   ·rw[jk,hrow b h]
   ·omega
  ·exact fM _ _ _ e
 ·rw[fM _ _ _ om];exact hc b (Nat.le_trans hg.size hb)
def wOk(left:Int)(st:Bool)(s:Int)(d:Bz):Bool:=cE left st&&(decide (0<=s)&&(decide (s<256)&&decide (d.size<=64)))
def bE(A:PD)(s:Int)(d:Bz):PD :=
 if wOk A.left A.st s d then { A with now:=cD A.now (s,cY d),loose:=A.loose++[(s,cY d)],left:=bI A.left A.st,st:=stS A.left A.st }
 else { A with left:=bI A.left A.st,st:=stS A.left A.st }
theorem Ac(l:List (Int×Bz))(c:Int×Bz):0<(cD l c).length:=by
 cases l with
 | nil=>simp[cD,has]
 | cons a r=>unfold cD;split<;>simp
theorem qW{ρ:Nat->Nat}{k g:Nat}{w w1 wa w2 wz w3:World}{vs vn vl v2:Value}{A:PD}{s:Int}{f:Bz}{L:Int}{S:Bool}{g3 cap:Nat}
  (hc:cI ρ w) (h:DPt ρ k w g vs vn vl A) (hu:Upd w w1 g (dB vs vn vl L S) 112)
  (ha:Bl w1 wa) (h2:Bl wa w2) (o2:w2.ownsRow wa.heap.size 114 2 v2 (cD A.now (s,f)).length (cvs (cD A.now (s,f))))
  (hz:Below (w2.setCell (At g 1) v2).heap.size (w2.setCell (At g 1) v2) wz)
  (o3:w3.ownsRow 0 114 2 (Sq g3 (A.loose.length+1) cap) (A.loose.length+1) (cvs A.loose++[I6 s,.string f]))
  (hg3:wz.grownBy w3 vl.ownBlock) (hat:vl.ownBlock=some g3\/g3=wz.heap.size) (hlt:g3<w3.heap.size) :
  ∃ ρ',DAt ρ' k (w3.setCell (At g 2) (Sq g3 (A.loose.length+1) cap)) g { A with now:=cD A.now (s,f),loose:=A.loose++[(s,f)],left:=L,st:=S } /\
   Stp (RDk k) ρ ρ' w (w3.setCell (At g 2) (Sq g3 (A.loose.length+1) cap)):=by
 obtain⟨hr,hb,hs,hn,hl⟩:=h;have hgR:RDk k (ρ g):=.inl hr
 have h0R:¬RDk k 0:=by unfold RDk;omega
 have S1:Stp (RDk k) ρ ρ w w1:=Stp.upd hc hu hgR
 have S1':Stp (fun r=>r=4*k+1) ρ ρ w w1:=Stp.upd hc hu hr
 have S2:Stp (fun _=>False) ρ ρ w1 w2:=(Stp.below S1.clean ha).trans (Stp.below (fun b hb=>S1.clean b (Nat.le_trans ha.size hb)) h2)
 have B2:Blk w2 g (dB vs vn vl L S) 112:=hu.blk.step S2 (fun h=>h)
 have S3:Stp (fun r=>r=4*k+1) ρ ρ w2 (w2.setCell (At g 1) v2):=Stp.set S2.clean hr 1 v2
 have S4:Stp (fun _=>False) ρ ρ (w2.setCell (At g 1) v2) wz:=Stp.below S3.clean hz
 have B4:Blk wz g (dB vs v2 vl L S) 112:=Blk.step (show Blk (w2.setCell (At g 1) v2) g (dB vs v2 vl L S) 112 from B2.set 1 v2) S4 (fun h=>h)
 have hown:∀ b,vl.ownBlock=some b->ρ b=4*k+3:=hl.2
 have S5:Stp (fun r=>r=4*k+3) ρ (ru ρ g3 (4*k+3)) wz w3:=Stp.grown S4.clean hg3 hown rfl hat hlt
 have hr5:ru ρ g3 (4*k+3) g=4*k+1:=(S5.role g B4.lt).trans hr
 have S6:Stp (fun r=>r=4*k+1) (ru ρ g3 (4*k+3)) (ru ρ g3 (4*k+3)) w3 (w3.setCell (At g 2) (Sq g3 (A.loose.length+1) cap)):=Stp.set S5.clean hr5 2 _
 have n0:¬(0=4*k+1):=by omega
 have n3:¬(0=4*k+3):=by omega
 have F1:∀ r,(fun r=>r=4*k+1) r->RDk k r:=fun r h=>.inl h
 have F3:∀ r,(fun r=>r=4*k+3) r->RDk k r:=fun r h=>.inr h
 refine⟨ru ρ g3 (4*k+3),⟨hr5,vs,v2,Sq g3 (A.loose.length+1) cap,?_,?_,?_,?_⟩,?_⟩
 ·exact(B4.step S5 (by rw[hr];omega)).set 2 _
 ·exact(((((hs.step S1' n0).step S2 (fun h=>h)).step S3 n0).step S4 (fun h=>h)).step S5 n3).step S6 n0
 ·have hz2:RdZ ρ w2 v2 (cD A.now (s,f)):=RdZ.made (fun b hb=>S1.clean b (Nat.le_trans ha.size hb)) o2
  exact(((hz2.step S3 n0).step S4 (fun h=>h)).step S5 n3).step S6 n0
 ·have e:A.loose.length+1=(A.loose++[(s,f)]).length:=by simp
  have o4:Own (ru ρ g3 (4*k+3)) (4*k+3) w3 114 (Sq g3 (A.loose.length+1) cap) (A.loose++[(s,f)]):=by
   refine⟨?_,fun b hb=>?_⟩
   ·rw[<- e,<- yh];exact o3
   ·obtain rfl:g3=b:=by simpa[Value.ownBlock] using hb
    exact jk _ _ _
  exact o4.step S6 om
 ·exact((((S1.trans (S2.mono (fun _ h=>h.elim))).trans (S3.mono F1)).trans (S4.mono (fun _ h=>h.elim))).trans (S5.mono F3)).trans (S6.mono F1)
theorem uG(ρ:Nat->Nat)(k:Nat)(w:World)(g:Nat)(A:PD)(s:Int)(d:Bz)(hc:cI ρ w)(h1:A.left<9223372036854775808)(hn:A.now.length<=2097152)(hlo:A.loose.length<=2097152)(hdm:d.size<=2097152)(h:DAt ρ k w g A):Calls prog 101 #[Pq g,I6 s,.string d] w fun e w'=>e=.returned (.bool (wOk A.left A.st s d))/\∃ ρ',DAt ρ' k w' g (bE A s d)/\Stp (RDk k) ρ ρ' w w':=by
 obtain⟨hr,vs,vn,vl,hb,hs,hnn,hl⟩:=h;have hst:Hid (Calls prog 149 #[Pq g] w fun e w'=>e=.returned (.bool (cE A.left A.st))/\Upd w w' g (dB vs vn vl (bI A.left A.st) (stS A.left A.st)) 112):=AQ w g vs vn vl A.left A.st h1 hb
 have hgR:RDk k (ρ g):=.inl hr
 have h0R:¬RDk k 0:=by unfold RDk;omega
 rcases hw:wOk A.left A.st s d with _|_
 ·have e:bE A s d={ A with left:=bI A.left A.st,st:=stS A.left A.st }:=by unfold bE;rw[hw];rfl
  rw[e];have hfin:Hid (∀ w',Upd w w' g (dB vs vn vl (bI A.left A.st) (stS A.left A.st)) 112->∃ ρ',DAt ρ' k w' g { A with left:=bI A.left A.st,st:=stS A.left A.st }/\Stp (RDk k) ρ ρ' w w'):=fun w' hu=>by
   have S:Stp (RDk k) ρ ρ w w':=Stp.upd hc hu hgR
   have S3:Stp (fun r=>r=4*k+1) ρ ρ w w':=Stp.upd hc hu hr
   exact⟨ρ,⟨hr,vs,vn,vl,hu.blk,hs.step S h0R,hnn.step S h0R,hl.step S3 om⟩,S⟩
  clear hb hs hnn hl e;rcases hok:cE A.left A.st with _|_
  ·rw[hok] at hst;go_enter func101,ntmps101
   go_wp2_with (go_at_call 149;refine hst.o.mono ?_;rintro e w1 ⟨rfl,hu⟩;have HU:Hid (Upd w w1 g (dB vs vn vl (bI A.left A.st) (stS A.left A.st)) 112):=hu;clear hu)
   go_ret;exact⟨rfl,hfin.o _ HU.o⟩
  ·rw[hok] at hst;have hw':¬(0<=s/\s<256/\d.size<=64):=by intro⟨a,b,c⟩;simp[wOk,hok,a,b,c] at hw
   by_cases s0:s<0
   ·go_enter func101,ntmps101
    go_wp2_with (go_at_call 149;refine hst.o.mono ?_;rintro e w1 ⟨rfl,hu⟩;have HU:Hid (Upd w w1 g (dB vs vn vl (bI A.left A.st) (stS A.left A.st)) 112):=hu;clear hu)
    go_ret;exact⟨rfl,hfin.o _ HU.o⟩
   ·by_cases s1:256<=s
    ·go_enter func101,ntmps101
     go_wp2_with (go_at_call 149;refine hst.o.mono ?_;rintro e w1 ⟨rfl,hu⟩;have HU:Hid (Upd w w1 g (dB vs vn vl (bI A.left A.st) (stS A.left A.st)) 112):=hu;clear hu)
     go_ret;exact⟨rfl,hfin.o _ HU.o⟩
    ·have s2:64<d.size:=by omega
     clear hw';go_enter func101,ntmps101
     go_wp2_with (go_at_call 149;refine hst.o.mono ?_;rintro e w1 ⟨rfl,hu⟩;have HU:Hid (Upd w w1 g (dB vs vn vl (bI A.left A.st) (stS A.left A.st)) 112):=hu;clear hu)
     go_ret;exact⟨rfl,hfin.o _ HU.o⟩
 ·have hq:cE A.left A.st=true/\0<=s/\s<256/\d.size<=64:=by simpa[wOk] using hw
  obtain⟨hok,s0,s1,hd⟩:=hq;have e:bE A s d={ A with now:=cD A.now (s,cY d),loose:=A.loose++[(s,cY d)],left:=bI A.left A.st,st:=stS A.left A.st }:=by unfold bE;rw[hw];rfl
  rw[e];rw[hok] at hst;have hmk:∀ w,(Instr.makeSlice 106 (I6 (64-(d.size:Int))) (I6 (64-(d.size:Int)))).run prog w=.ok (.slice (some (Nw w 0)) (64-d.size) (64-d.size)) (w.alloc (.cells (madeCells #[.int .u8 0] (64-d.size)) 5)):=fun w=>by
   rw[show (64-(d.size:Int))=((64-d.size:Nat):Int) by omega]
   exact run_make_row' (P:=prog) 106 5 (.int .u8 0) 1 underlying106 DE rfl .i64 .i64 (64-d.size) om om w
  have hcv:=mB (64-d.size)
  have hpt:Hid (∀ w',RdZ ρ w' vn A.now->Calls prog 50 #[vn,.agg #[I6 s,.string (cY d)]] w' fun e w''=>∃ v',e=.returned v'/\w''.ownsRow w'.heap.size 114 2 v' (cD A.now (s,cY d)).length (cvs (cD A.now (s,cY d)))/\Bl w' w''):=fun w' h=>CM vn A.now s (cY d) w' hn h.1
  have hpp:=Ac A.now (s,cY d)
  have hzs:(zb (64-d.size)).size=64-d.size:=by simp[zb,aM]
  have HF:Hid (d++zb (64-d.size)=cY d):=rfl
  clear hw e;go_enter func101,ntmps101
  go_wp2_with (go_at_call 149;refine hst.o.mono ?_;rintro e w1 ⟨rfl,hu⟩;have HU:Hid (Upd w w1 g (dB vs vn vl (bI A.left A.st) (stS A.left A.st)) 112):=hu;have c1:w1.cell? (At g 1)=some vn:=(hu.blk.cell 1);have c2:w1.cell? (At g 2)=some vl:=(hu.blk.cell 2);have f1:w1.frozen? (At g 1)=false:=(hu.blk.frozen 1);have f2:w1.frozen? (At g 2)=false:=(hu.blk.frozen 2);have gz:g<w1.heap.size:=hu.blk.lt;clear hu)
  have hq1:Hid (RdZ ρ ((w1.alloc (.cells (madeCells #[.int .u8 0] (64-d.size)) 5)).alloc (.cells #[I6 s,.string (d++zb (64-d.size))] 114)).drew vn A.now):=by
   have S1:Stp (RDk k) ρ ρ w w1:=Stp.upd hc HU.o hgR
   have S2:Stp (RDk k) ρ ρ w1 ((w1.alloc (.cells (madeCells #[.int .u8 0] (64-d.size)) 5)).alloc (.cells #[I6 s,.string (d++zb (64-d.size))] 114)).drew :=
    Stp.drew ((Stp.alloc0 S1.clean _).trans (Stp.alloc0 (Stp.alloc0 (R:=RDk k) S1.clean _).clean _))
   exact(hnn.step S1 h0R).step S2 h0R
  rw[HF.o] at hq1 ⊢;go_region_with (go_at_call 50;refine(hpt.o _ hq1.o).mono ?_;rintro e w2 ⟨v2,rfl,hown2,hb2⟩;obtain⟨g2,cap2,hv2,hg2,hl2⟩:=hown2.form hpp;subst hv2;have f21:w2.frozen? (At g 1)=false:=(by rw[hb2.frozen (p:=At g 1) (by simp;omega)];simp[go_sem,f1,gz]);have c21:w2.cell? (At g 1)=some vn:=(by rw[hb2.cell (p:=At g 1) (by simp;omega)];simp[go_sem,c1,gz]);have f22:w2.frozen? (At g 2)=false:=(by rw[hb2.frozen (p:=At g 2) (by simp;omega)];simp[go_sem,f2,gz]);have c22:w2.cell? (At g 2)=some vl:=(by rw[hb2.cell (p:=At g 2) (by simp;omega)];simp[go_sem,c2,gz]);have b20:w2.cell? (At (w1.heap.size+1) 0)=some (I6 s):=(by rw[hb2.cell (p:=At (w1.heap.size+1) 0) sM];simp[go_sem]);have b21:w2.cell? (At (w1.heap.size+1) 1)=some (.string (cY d)):=(by rw[hb2.cell (p:=At (w1.heap.size+1) 1) sM];simp[go_sem]);have z2:w1.heap.size+2<=w2.heap.size:=(by have:=hb2.size;simpa using this))
  all_goals (
   obtain⟨i0,hi,hz0,hz1,hz2⟩:=info_parts DF;have HO:Hid (∀ wz,Below w2.heap.size (w2.setCell (At g 1) (Sq g2 (cD A.now (s,cY d)).length cap2)) wz->wz.ownsRow 0 114 2 vl A.loose.length (cvs A.loose)):=fun wz hz=>by
    have S1:Stp (fun r=>r=4*k+1) ρ ρ w w1:=Stp.upd hc HU.o hr
    have Sa:Stp (fun r=>r=4*k+1) ρ ρ w1 ((w1.alloc (.cells (madeCells #[.int .u8 0] (64-d.size)) 5)).alloc (.cells #[I6 s,.string (cY d)] 114)).drew :=
     Stp.drew ((Stp.alloc0 S1.clean _).trans (Stp.alloc0 (Stp.alloc0 (R:=RDk k) S1.clean _).clean _))
    have S2:=Sa.trans (Stp.below Sa.clean hb2)
    have S3:Stp (fun r=>r=4*k+1) ρ ρ w2 (w2.setCell (At g 1) (Sq g2 (cD A.now (s,cY d)).length cap2)):=Stp.set S2.clean hr 1 _
    have S4:Stp (fun r=>r=4*k+1) ρ ρ _ wz:=Stp.below S3.clean (by simpa[World.setCell,Bl] using hz)
    exact((((hl.step S1 om).step S2 om).step S3 om).step S4 om).1
   have HQ:Hid (Bl w1 ((w1.alloc (.cells (madeCells #[.int .u8 0] (64-d.size)) 5)).alloc (.cells #[I6 s,.string (cY d)] 114)).drew):=(((Below.refl _ _).alloc (Nat.le_refl _) _).alloc sM _).drew
   have H2:Hid (Below _ _ w2):=hb2
   have HW:Hid (w2.ownsRow _ 114 2 _ _ _):=hown2
   have HD:Hid (DPt ρ k w g vs vn vl A):=⟨hr,hb,hs,hnn,hl⟩
   generalize hpl:(cD A.now (s,cY d)).length=pl at HO HW ⊢
   have HPL:Hid ((cD A.now (s,cY d)).length=pl):=hpl
   have HN:Hid (some g≠vl.ownBlock):=fun e=>by have:=hl.2 g e.symm;omega
   have gz2:g<w2.heap.size:=by omega
   clear hb hs hnn hl hst hpt hb2 hown2 hmk hcv hpl c1 c2 f1 f2;go_wp2_with fail
   go_region_law (refine step_append_lies _ rfl _ _ 110 rfl 0 114 i0 _ 2 24 underlying110 hi hz0 hz1 hz2 rfl dE vl A.loose.length (cvs A.loose) (by first|rfl|simp) (HO.o _ (by repeat' (first|with_reducible exact Below.refl _ _|with_reducible apply Below.drew|with_reducible apply Below.alloc|(simp[World.setCell];done)))) (Nw w2 0) 1 1 [I6 s,.string (cY d)] (by first|rfl|simp) rfl (i7 (by simp[go_sem,World.setCell]) (by simp[go_sem,World.setCell])) (kL _ _) om (by unfold maxLen;omega) om om (w2.heap.size+1) (by simp[World.setCell]) ?_;intro g3 cap3 w3 hown3 hgrow3 hat3 hlt3;have c32:w3.cell? (At g 2)=some vl:=(by rw[hgrow3.cell_far (At g 2) (by simp[World.setCell];omega) HN.o];simp[go_sem,c22,gz2]);have f32:w3.frozen? (At g 2)=false:=(by rw[hgrow3.frozen_far (At g 2) (by simp[World.setCell];omega) HN.o];simp[go_sem,f22,gz2]))
   all_goals (
    go_wp2;go_ret;refine⟨rfl,qW hc HD.o HU.o HQ.o H2.o (by rw[HPL.o];exact HW.o) ?_ hown3 hgrow3 (FT hat3 (fun h=>by rw[h];simp[World.setCell])) hlt3⟩
    repeat' (first|with_reducible exact Below.refl _ _|with_reducible apply Below.drew|with_reducible apply Below.alloc|(simp[World.setCell];done))))
end
section
open Go.ChangeShapes Go.WideShapes Go.ChangeAt Go.RowKit
def DN(w:World)(v:Value)(L:List Int):Prop :=
 ∃ a c,v=.slice a L.length c/\L.length<=c/\c<=maxLen/\(L≠[]->∃ b o,a=some (At b o)/\b<w.heap.size/\∀ j,j<L.length->w.cell? (At b (o+j))=some (I6 (L.getD j 0)))
def nH(x:Int):Nat:=(min (max x 0) 64).toNat
def EH(n:Nat)(d y:Bz):Bz:=d.extract 0 n++y.extract n y.size
def kW(n:Nat)(S:List (Int×Bz))(c:Int×Bz):List (Int×Bz):=if 0<n then cD S (c.1,EH n c.2 (bR S c.1)) else S
def crD(L:List Int)(S0 loose:List (Int×Bz)):Nat->List (Int×Bz)
 | 0=>S0
 | k+1=>kW (nH (L.getD (k%L.length) 0)) (crD L S0 loose k) (cAt loose k)
def dH(l:List (Int×Bz)):Prop:=∀ c∈l,c.2.size=64
theorem Ab(l:List (Int×Bz))(c:Int×Bz):(cD l c).length<=l.length+1:=by unfold cD;split<;>simp
theorem dH.put{l:List (Int×Bz)}(h:dH l){c:Int×Bz}(hc:c.2.size=64):dH (cD l c):=by
 have hm:∀ x∈l.map (rep c),x.2.size=64:=by
  intro x hx;obtain⟨y,hy,rfl⟩:=List.mem_map.1 hx;unfold rep;split
  ·exact hc
  ·exact h y hy
 unfold cD;split
 ·exact hm
 ·intro x hx;rcases List.mem_append.1 hx with hx|hx
  ·exact hm x hx
  ·simp at hx;subst hx;exact hc
theorem gT{l:List (Int×Bz)}(h:dH l)(s:Int):(bR l s).size=64:=by
 unfold bR;split
 ·rename_i c hc;exact h c (List.mem_of_find?_eq_some hc)
 ·simp[zb,aM]
theorem BK{l:List (Int×Bz)}{k:Nat}(hk:k<l.length):cAt l k∈l:=by
 simp[cAt,List.getD,List.getElem?_eq_getElem hk]
end
section
open Go.RowKit
abbrev CL:=List (Int×Bz)
theorem iR{l:CL}{c:Int×Bz}{s:Int}:(l.map (rep c)).find? (fun x=>x.1==s)=if c.1=s then (if has l c then some c else none) else l.find? (fun x=>x.1==s):=by
 induction l with
 | nil=>simp[has]
 | cons x r ih =>
  have hh:has (x::r) c=((x.1==c.1)||has r c):=by simp[has]
  by_cases hx:x.1=c.1
  ·have e:rep c x=c:=by simp[rep,hx]
   rw[List.map_cons,e,List.find?_cons];by_cases hs:c.1=s
   ·have:(c.1==s)=true:=by simpa using hs
    rw[this,hh,if_pos hs];simp[hx]
   ·have h1:(c.1==s)=false:=by simpa using hs
    have h2:(x.1==s)=false:=by rw[hx];exact h1
    rw[h1,if_neg hs,List.find?_cons,h2];rw[if_neg hs] at ih;exact ih
  ·have e:rep c x=x:=by simp[rep,hx]
   rw[List.map_cons,e,List.find?_cons];by_cases hs:c.1=s
   ·have h2:(x.1==s)=false:=by simpa using (fun q=>hx (q.trans hs.symm))
    rw[h2,if_pos hs];rw[if_pos hs] at ih;rw[ih,hh];have:(x.1==c.1)=false:=by simpa using hx
    rw[this];rfl
   ·rw[if_neg hs] at ih ⊢;rw[List.find?_cons];rcases h:(x.1==s) with _|_
    ·exact ih
    ·rfl
theorem gA(l:CL)(c:Int×Bz)(s:Int):bR (cD l c) s=if c.1=s then c.2 else bR l s:=by
 unfold cD bR;by_cases hs:c.1=s
 ·rw[if_pos hs];by_cases hh:has l c
  ·rw[if_pos hh,iR,if_pos hs,if_pos hh]
  ·rw[if_neg hh,List.find?_append,iR,if_pos hs,if_neg hh];simp[hs]
 ·rw[if_neg hs];by_cases hh:has l c
  ·rw[if_pos hh,iR,if_neg hs]
  ·rw[if_neg hh,List.find?_append,iR,if_neg hs];have:(c.1==s)=false:=by simpa using hs
   simp[this]
structure WF(l:CL):Prop where
 w:dH l
 k:∀ c,c∈l->0<=c.1/\c.1<256
 n:(l.map Prod.fst).Nodup
theorem ur(c x:Int×Bz):(rep c x).1=x.1:=by unfold rep;split<;>simp_all
theorem ui(l:CL)(c:Int×Bz):(l.map (rep c)).map Prod.fst=l.map Prod.fst:=by
 rw[List.map_map];exact List.map_congr_left fun x _=>ur c x
theorem WF.put{l:CL}(h:WF l){c:Int×Bz}(hc:c.2.size=64)(h0:0<=c.1)(h1:c.1<256):WF (cD l c):=by
 refine⟨h.w.put hc,?_,?_⟩
 ·intro x hx;have hm:∀ x,x∈l.map (rep c)->0<=x.1/\x.1<256:=fun x hx=>by
   obtain⟨y,hy,rfl⟩:=List.mem_map.1 hx;rw[ur];exact h.k y hy
  unfold cD at hx;split at hx
  ·exact hm x hx
  ·rcases List.mem_append.1 hx with hx|hx
   ·exact hm x hx
   ·simp at hx;subst hx;exact⟨h0,h1⟩
 ·unfold cD;split
  ·rw[ui];exact h.n
  ·rename_i hh;rw[List.map_append,ui];refine List.nodup_append.2 ⟨h.n,by simp,?_⟩
   intro a ha b hb;simp at hb;rintro rfl
   obtain⟨y,hy,e⟩:=List.mem_map.1 ha;refine hh (List.any_eq_true.2 ⟨y,hy,?_⟩)
   rw[e,hb];simp
theorem zI:∀ (n:Nat) (l:List Int),l.Nodup->(∀ x,x∈l->0<=x/\x<n)->l.length<=n:=by
 intro n;induction n with
 | zero =>
  intro l _ h
  cases l with
  | nil=>simp
  | cons x r=>have:=h x sM;omega
 | succ n ih =>
  intro l hd h;have h1:=ih (l.filter fun x=>decide (x≠(n:Int))) (hd.filter _) (fun x hx=>by
   obtain⟨q1,q2⟩:=List.mem_filter.1 hx;have:=h x q1
   simp at q2;omega)
  have h2:l.length<=(l.filter fun x=>decide (x≠(n:Int))).length+1:=by
   clear ih h h1;induction l with
   | nil=>simp
   | cons x r ih2 =>
    obtain⟨d1,d2⟩:=List.nodup_cons.1 hd;by_cases e:x=(n:Int)
    ·have hall:r.filter (fun y=>decide (y≠(n:Int)))=r:=List.filter_eq_self.2 fun y hy=>by simp;rintro rfl;exact d1 (e ▸ hy)
     rw[List.filter_cons_of_neg (by simp[e]),hall];simp
    ·rw[List.filter_cons_of_pos (by simpa using e)]
     have:=ih2 d2
     simp only[List.length_cons];omega
  omega
theorem WF.len{l:CL}(h:WF l):l.length<=256:=by
 have:=zI 256 (l.map Prod.fst) h.n (fun x hx=>by obtain⟨c,hc,rfl⟩:=List.mem_map.1 hx;exact h.k c hc)
 simpa using this
theorem Fk:WF []:=⟨fun c h=>by simp at h,fun c h=>by simp at h,by simp⟩
theorem mS{l:CL}(h:WF l){s:Int}(hs:s<0\/256<=s):bR l s=zb 64:=by
 unfold bR;have:l.find? (fun c=>c.1==s)=none:=List.find?_eq_none.2 fun c hc=>by
  have:=h.k c hc
  simp;omega
 rw[this]
def bc(a i:Nat):Int:=1+2*(i:Int)+a
def bF(l:CL):Nat:=((bR l 0).data.toList.headD 0).toNat%2
theorem kR(l:CL):bF l=0\/bF l=1:=by unfold bF;omega
def eC(l:CL)(a:Nat):Nat->Nat->Lu
 | 0,_=>[]
 | f+1,i=>(bR l (bc a i)).data.toList.takeWhile (fun c=>c != 0)++(if (0:UInt8)∈(bR l (bc a i)).data.toList then [] else eC l a f (i+1))
def dd(l:CL):Lu:=eC l (bF l) 200 0
theorem lG{l m:CL}{a:Nat}(h:∀ i,bR m (bc a i)=bR l (bc a i)):∀ f i,eC m a f i=eC l a f i:=by
 intro f;induction f with
 | zero=>intro i;rfl
 | succ f ih=>intro i;simp only[eC,h,ih]
theorem lT{l m:CL}(h0:bR m 0=bR l 0)(h:∀ i,bR m (bc (bF l) i)=bR l (bc (bF l) i)):dd m=dd l:=by
 have e:bF m=bF l:=by unfold bF;rw[h0]
 unfold dd;rw[e];exact lG h 200 0
def chk:Nat->Lu->List (Lu)
 | 0,_=>[]
 | f+1,t=>if t=[] then [] else t.take 64::chk f (t.drop 64)
def aH(t:Lu):List (Lu):=chk t.length t
theorem x5(f:Nat):∀ (g:Nat) (t:Lu),t.length<=f->f<=g->chk g t=chk f t:=by
 induction f with
 | zero =>
  intro g t h _;obtain rfl:t=[]:=List.length_eq_zero_iff.1 om
  cases g<;>simp[chk]
 | succ f ih =>
  intro g t h hg;obtain⟨g,rfl⟩:∃ g',g=g'+1:=⟨g-1,by omega⟩
  simp only[chk]
  by_cases e:t=[]
  ·simp[e]
  ·rw[if_neg e,if_neg e,ih g (t.drop 64) (by have:0<t.length:=List.length_pos_iff.2 e;simp;omega) om]
theorem eb{t:Lu}(h:t≠[]):aH t=t.take 64::aH (t.drop 64):=by
 have hp:0<t.length:=List.length_pos_iff.2 h
 unfold aH;obtain⟨n,hn⟩:∃ n,t.length=n+1:=⟨t.length-1,by omega⟩
 rw[hn];simp only[chk,if_neg h]
 rw[x5 (t.drop 64).length n (t.drop 64) (Nat.le_refl _) (by simp;omega)]
theorem il:aH []=[]:=rfl
theorem my(t:Lu):∀ c,c∈aH t->c.length<=64/\c≠[]:=by
 have key:∀ (f:Nat) (t:Lu) c,c∈chk f t->c.length<=64/\c≠[]:=by
  intro f;induction f with
  | zero=>intro t c h;simp[chk] at h
  | succ f ih =>
   intro t c h;simp only[chk] at h
   split at h
   ·simp at h
   ·rename_i e;rcases List.mem_cons.1 h with rfl|h
    ·exact⟨by simp;omega,by cases t with|nil=>exact absurd rfl e|cons _ _=>simp⟩
    ·exact ih _ c h
 exact key _ t
theorem ik(t:Lu):(aH t).length*64<=t.length+63:=by
 have key:∀ (f:Nat) (t:Lu),(chk f t).length*64<=t.length+63:=by
  intro f;induction f with
  | zero=>intro t;simp[chk]
  | succ f ih =>
   intro t;simp only[chk]
   split
   ·simp
   ·rename_i e;have:=ih (t.drop 64)
    have hp:0<t.length:=List.length_pos_iff.2 e
    simp at this ⊢
    omega
 exact key _ t
def aS(a:Nat):PD->Nat->List (Lu)->PD×Bool
 | A,_,[]=>(A,true)
 | A,i,c::cs=>if wOk A.left A.st (bc a i) (bs c) then aS a (bE A (bc a i) (bs c)) (i+1) cs else (bE A (bc a i) (bs c),false)
def fY(A:PD)(t:Lu):PD×Bool :=
 let a:=1-bF A.now
 let r:=aS a A 0 (aH (t++[0]))
 if r.2=false then (r.1,false) else
 if cE r.1.left r.1.st=false then (b7 r.1,false) else
 if wOk (b7 r.1).left (b7 r.1).st 0 (bs [UInt8.ofNat a])=false then (bE (b7 r.1) 0 (bs [UInt8.ofNat a]),false) else
 (b7 (bE (b7 r.1) 0 (bs [UInt8.ofNat a])),cE (bE (b7 r.1) 0 (bs [UInt8.ofNat a])).left (bE (b7 r.1) 0 (bs [UInt8.ofNat a])).st)
theorem tY(d:Lu):(cY (bs d)).data.toList=d++List.replicate (64-d.length) 0:=by simp[cY,zb,bs,ByteArray.size]
theorem uF{left:Int}{st:Bool}{s:Int}{d:Bz}:wOk left st s d=true ↔ cE left st=true/\0<=s/\s<256/\d.size<=64:=by
 unfold wOk;simp
theorem kH{left:Int}{st:Bool}(h:cE left st=false):stS left st=true:=by unfold cE at h;unfold stS;cases st<;>simp_all
def jp(A:PD):Prop:=A.left=-1/\A.st=false
theorem fg{left:Int}{st:Bool}(h1:left=-1)(h2:st=false):cE left st=true/\bI left st=-1/\stS left st=false:=by subst h1;subst h2;decide
theorem jo{A:PD}{s:Int}{d:Bz}(h:wOk A.left A.st s d=true):bE A s d={ A with now:=cD A.now (s,cY d),loose:=A.loose++[(s,cY d)],left:=bI A.left A.st,st:=stS A.left A.st }:=by unfold bE;rw[if_pos h]
theorem jn{A:PD}{s:Int}{d:Bz}(h:wOk A.left A.st s d=false):bE A s d={ A with left:=bI A.left A.st,st:=stS A.left A.st }:=by unfold bE;rw[if_neg (by rw[h];simp)]
theorem oA{A:PD}(h:cE A.left A.st=true):b7 A={ A with safe:=A.now,loose:=[],left:=bI A.left A.st,st:=stS A.left A.st }:=by unfold b7;rw[if_pos h]
theorem oz{A:PD}(h:cE A.left A.st=false):b7 A={ A with left:=bI A.left A.st,st:=stS A.left A.st }:=by unfold b7;rw[if_neg (by rw[h];simp)]
theorem cA(left:Int)(st:Bool):bI left st<=left:=by unfold bI;split<;>omega
theorem uu{a i:Nat}(ha:a<=1)(hi:i<127):0<=bc a i/\bc a i<256:=by unfold bc;omega
theorem AK{a i j:Nat}(h:bc a i=bc a j):i=j:=by unfold bc at h;omega
theorem lN{a b i j:Nat}(ha:a<=1)(hb:b<=1)(h:a≠b):bc a i≠bc b j:=by unfold bc;omega
structure Run(a i n:Nat)(A:PD)(cs:List (Lu))(r:PD×Bool):Prop where
 safe:r.1.safe=A.safe
 now:WF r.1.now
 loose:∃ M,r.1.loose=A.loose++M/\(∀ c,c∈M->∃ j,j<127/\c.1=bc a j)/\dH M/\M.length<=n
 keep:∀ s,(∀ j,i<=j->s≠bc a j)->bR r.1.now s=bR A.now s
 left:r.1.left<=A.left
 ever:jp A->jp r.1/\r.2=true
 no:r.2=false->r.1.st=true
 yes:r.2=true->∀ j,j<cs.length->bR r.1.now (bc a (i+j))=cY (bs (cs.getD j []))
theorem kh(a:Nat)(ha:a<=1):∀ (cs:List (Lu)) (A:PD) (i:Nat),WF A.now->(∀ c,c∈cs->c.length<=64)->i+cs.length<=127->Run a i cs.length A cs (aS a A i cs):=by
 intro cs;induction cs with
 | nil =>
  intro A i hw _ _;exact⟨rfl,hw,⟨[],by simp[aS],by simp,fun c h=>by simp at h,by simp⟩,fun _ _=>rfl,Int.le_refl _,fun h=>⟨h,rfl⟩,fun h=>by simp[aS] at h,fun _ j hj=>by simp at hj⟩
 | cons c cs ih =>
  intro A i hw hc hi;simp only[List.length_cons] at hi
  have hcl:=hc c sM
  have hsz:(bs c).size<=64:=by rw[aM];exact hcl
  obtain⟨s0,s1⟩:=uu (i:=i) ha om
  by_cases ho:wOk A.left A.st (bc a i) (bs c)=true
  ·have e:aS a A i (c::cs)=aS a (bE A (bc a i) (bs c)) (i+1) cs:=by simp only[aS];rw[if_pos ho]
   rw[e];have ew:=jo ho;have hf:(cY (bs c)).size=64:=mH _ hsz
   have hw2:WF (bE A (bc a i) (bs c)).now:=by rw[ew];exact hw.put hf s0 s1
   have R:=ih (bE A (bc a i) (bs c)) (i+1) hw2 (fun d hd=>hc d (by simp[hd])) om
   obtain⟨M,m1,m2,m3,m4⟩:=R.loose;have hl:bR (bE A (bc a i) (bs c)).now (bc a i)=cY (bs c):=by rw[ew,gA,if_pos rfl]
   refine⟨R.safe.trans (by rw[ew]),R.now,⟨(bc a i,cY (bs c))::M,?_,?_,?_,?_⟩,?_,?_,?_,R.no,?_⟩
   ·rw[m1,ew];simp
   ·intro d hd;rcases List.mem_cons.1 hd with rfl|hd
    ·exact⟨i,by omega,rfl⟩
    ·exact m2 d hd
   ·intro d hd;rcases List.mem_cons.1 hd with rfl|hd
    ·exact hf
    ·exact m3 d hd
   ·simp;omega
   ·intro s hs;rw[R.keep s (fun j hj=>hs j om),ew,gA,if_neg (fun q=>hs i (Nat.le_refl _) q.symm)]
   ·refine Int.le_trans R.left ?_
    rw[ew];exact cA _ _
   ·intro hE;refine R.ever ?_
    obtain⟨e1,e2⟩:=hE;obtain⟨_,f2,f3⟩:=fg e1 e2;rw[ew];exact⟨f2,f3⟩
   ·intro hy j hj
    cases j with
    | zero =>
     show bR _ (bc a i)=_
     rw[R.keep _ (fun j hj q=>by have:=AK q;omega),hl];rfl
    | succ j =>
     have:=R.yes hy j (by simpa using hj)
     rw[show i+(j+1)=i+1+j by omega,this];rfl
  ·have ho':wOk A.left A.st (bc a i) (bs c)=false:=by simpa using ho
   have e:aS a A i (c::cs)=(bE A (bc a i) (bs c),false):=by simp only[aS];rw[if_neg ho]
   have ew:=jn ho';have hst:cE A.left A.st=false:=by
    rcases q:cE A.left A.st with _|_
    ·rfl
    ·exact absurd (uF.2 ⟨q,s0,s1,hsz⟩) ho
   rw[e];refine⟨by rw[ew],by rw[ew];exact hw,⟨[],by rw[ew];simp,by simp,fun c h=>by simp at h,by simp⟩,fun s _=>by rw[ew],by rw[ew];exact cA _ _,fun hE=>?_,fun _=>by rw[ew];exact kH hst,fun h=>(by cases h)⟩
   obtain⟨f1,_,_⟩:=fg hE.1 hE.2;rw[f1] at hst;cases hst
theorem kK{α:Type}{p:α->Bool}:∀ {l:List α},(∀ x,x∈l->p x=true)->l.takeWhile p=l
 | [],_=>rfl
 | x::r,h=>by rw[List.takeWhile_cons_of_pos (h x sM),kK fun y hy=>h y (by simp[hy])]
theorem Ak(l:CL)(a:Nat):∀ (f:Nat) (t:Lu) (i:Nat),(0:UInt8)∉t->t.length<f*64->(∀ j,j<(aH (t++[0])).length->bR l (bc a (i+j))=cY (bs ((aH (t++[0])).getD j [])))->eC l a f i=t:=by
 intro f;induction f with
 | zero=>intro t i _ h _;omega
 | succ f ih =>
  intro t i h0 hlen h;have hne:t++[0]≠[]:=by simp
  rw[eb hne] at h;have h1:=h 0 sM
  rw[Nat.add_zero] at h1;simp only[List.getD_cons_zero] at h1
  simp only[eC]
  rw[h1,tY];by_cases ht:t.length<64
  ·have e:(t++[0]).take 64=t++[0]:=List.take_of_length_le (by simp;omega)
   rw[e];have hm:(0:UInt8)∈t++[0]++List.replicate (64-(t++[0]).length) 0:=by simp
   rw[if_pos hm,List.append_nil,List.append_assoc,List.takeWhile_append_of_pos (by intro c hc;simp;rintro rfl;exact h0 hc)]
   simp
  ·have e:(t++[0]).take 64=t.take 64:=List.take_append_of_le_length om
   have el:(t.take 64).length=64:=by simp;omega
   have ed:(t++[0]).drop 64=t.drop 64++[0]:=List.drop_append_of_le_length om
   rw[e,el];have hn:(0:UInt8)∉t.take 64:=fun q=>h0 (List.mem_of_mem_take q)
   simp only[Nat.sub_self,List.replicate_zero,List.append_nil]
   rw[if_neg hn,kK (fun c hc=>by simp;rintro rfl;exact hn hc)]
   rw[ih (t.drop 64) (i+1) (fun q=>h0 (List.mem_of_mem_drop q)) (by simp;omega) (fun j hj=>by
    have:=h (j+1) (by rw[ed];simpa using hj)
    rw[show i+1+j=i+(j+1) by omega,this,ed];rfl)]
   exact List.take_append_drop 64 t
def jv(L:List Int)(A:PD):CL:=crD L A.safe A.loose A.loose.length
theorem tJ(L:List Int)(S loose:CL)(s:Int)(h:∀ c,c∈loose->c.1≠s):∀ k,k<=loose.length->bR (crD L S loose k) s=bR S s:=by
 intro k;induction k with
 | zero=>intro _;rfl
 | succ k ih =>
  intro hk;simp only[crD,kW]
  split
  ·rw[gA,if_neg (h _ (BK om))];exact ih om
  ·exact ih om
structure Has(A:PD)(t:Lu):Prop where
 wf:WF A.now
 safe:A.safe=A.now
 loose:A.loose=[]
 text:dd A.now=t
structure Fq(A:PD)(t u:Lu):Prop where
 st:A.st=true
 now:WF A.now
 wf:WF A.safe
 keys:∀ c,c∈A.loose->0<=c.1/\c.1<256
 whole:dH A.loose
 len:A.loose.length<=200
 text:∀ L,dd (jv L A)=t\/dd (jv L A)=u
theorem zp(a:Nat):(cY (bs [UInt8.ofNat a])).data.toList=UInt8.ofNat a::List.replicate 63 0:=by rw[tY];rfl
theorem jF(a:Nat):(cY (bs [UInt8.ofNat a])).size=64:=mH _ (by rw[aM];simp)
theorem uM{l:CL}{a:Nat}(ha:a<=1){b:Bz}(hb:b.data.toList.headD 0=UInt8.ofNat a):bF (cD l (0,b))=a:=by
 unfold bF;rw[gA,if_pos rfl,hb];rcases (show a=0\/a=1 by omega) with rfl|rfl<;>rfl
theorem nA{l:CL}{a:Nat}(ha:a<=1){b:Bz}(hb:b.data.toList.headD 0=UInt8.ofNat a):dd (cD l (0,b))=eC l a 200 0:=by
 unfold dd;rw[uM ha hb];refine lG (fun i=>?_) 200 0
 rw[gA,if_neg (by unfold bc;omega)]
theorem zy{n:Nat}(hn:0<n){d y:Bz}(hd:d.size=64):(EH n d y).data.toList.headD 0=d.data.toList.headD 0:=by
 have hl:d.data.toList.length=64:=by rw[Array.length_toList];exact hd
 unfold EH;rcases h:d.data.toList with _|⟨x,r⟩
 ·rw[h] at hl;simp at hl
 ·have e:(d.extract 0 n++y.extract n y.size).data.toList=(d.data.toList.take n)++(y.extract n y.size).data.toList:=by
   simp[ByteArray.data_append,ByteArray.data_extract]
  rw[e,h];obtain⟨m,rfl⟩:∃ m,n=m+1:=⟨n-1,by omega⟩
  simp
theorem wn{A:PD}{T t:Lu}(hA:Has A T)(h0:(0:UInt8)∉t)(hlen:t.length<=8000):
  ((fY A t).2=true->Has (fY A t).1 t)/\((fY A t).2=false->Fq (fY A t).1 T t)/\(fY A t).1.left<=A.left/\(jp A->(fY A t).2=true/\jp (fY A t).1)/\WF (fY A t).1.now:=by
 obtain⟨a,ea⟩:∃ a,a=1-bF A.now:=⟨_,rfl⟩
 have hal:=kR A.now;have ha:a<=1:=by omega
 have hne:a≠bF A.now:=by omega
 have hcl:=ik (t++[0])
 have hR:=kh a ha (aH (t++[0])) A 0 hA.wf (fun c hc=>(my _ c hc).1) (by simp at hcl;omega)
 have e:fY A t=if (aS a A 0 (aH (t++[0]))).2=false then ((aS a A 0 (aH (t++[0]))).1,false) else
   if cE (aS a A 0 (aH (t++[0]))).1.left (aS a A 0 (aH (t++[0]))).1.st=false then (b7 (aS a A 0 (aH (t++[0]))).1,false) else
   if wOk (b7 (aS a A 0 (aH (t++[0]))).1).left (b7 (aS a A 0 (aH (t++[0]))).1).st 0 (bs [UInt8.ofNat a])=false then (bE (b7 (aS a A 0 (aH (t++[0]))).1) 0 (bs [UInt8.ofNat a]),false) else
   (b7 (bE (b7 (aS a A 0 (aH (t++[0]))).1) 0 (bs [UInt8.ofNat a])),cE (bE (b7 (aS a A 0 (aH (t++[0]))).1) 0 (bs [UInt8.ofNat a])).left (bE (b7 (aS a A 0 (aH (t++[0]))).1) 0 (bs [UInt8.ofNat a])).st):=by
  rw[ea];rfl
 rw[e];clear e;generalize aS a A 0 (aH (t++[0]))=r at hR
 obtain⟨M,m1,m2,m3,m4⟩:=hR.loose;rw[hA.loose,List.nil_append] at m1;have hM:M.length<=200:=by simp at hcl;omega
 have mk:∀ c,c∈M->0<=c.1/\c.1<256:=fun c hc=>by obtain⟨j,hj,q⟩:=m2 c hc;rw[q];exact uu ha hj
 have k0:bR r.1.now 0=bR A.now 0:=hR.keep 0 (fun j _=>by unfold bc;omega)
 have ka:∀ i,bR r.1.now (bc (bF A.now) i)=bR A.now (bc (bF A.now) i):=fun i=>hR.keep _ (fun j _ q=>lN om ha (fun q=>hne q.symm) q)
 have kt:dd r.1.now=T:=(lT k0 ka).trans hA.text
 have cT:∀ L,dd (crD L A.now M M.length)=T:=fun L=>by
  refine(lT ?_ (fun i=>?_)).trans hA.text
  ·exact tJ L A.now M 0 (fun c hc q=>by obtain⟨j,_,q2⟩:=m2 c hc;rw[q2] at q;unfold bc at q;omega) _ (Nat.le_refl _)
  ·exact tJ L A.now M _ (fun c hc q=>by obtain⟨j,_,q2⟩:=m2 c hc;rw[q2] at q;exact lN ha om hne q) _ (Nat.le_refl _)
 by_cases h1:r.2=false
 ·rw[if_pos h1];refine⟨fun q=>(by cases q),fun _=>⟨hR.no h1,hR.now,by rw[hR.safe,hA.safe];exact hA.wf,by rw[m1];exact mk,by rw[m1];exact m3,by rw[m1];exact hM,fun L=>?_⟩,hR.left,fun hE=>?_,hR.now⟩
  ·left
   unfold jv;rw[hR.safe,hA.safe,m1];exact cT L
  ·have:=(hR.ever hE).2;rw[h1] at this;cases this
 ·rw[if_neg h1];have h1':r.2=true:=by simpa using h1
  have hy:=hR.yes h1';simp only[Nat.zero_add] at hy
  have rt1:eC r.1.now a 200 0=t:=Ak r.1.now a 200 t 0 h0 om (by simpa using hy)
  by_cases h2:cE r.1.left r.1.st=false
  ·rw[if_pos h2];have es:=oz h2;refine⟨fun q=>(by cases q),fun _=>⟨by rw[es];exact kH h2,by rw[es];exact hR.now,by rw[es];show WF r.1.safe;rw[hR.safe,hA.safe];exact hA.wf,by rw[es];show ∀ c,c∈r.1.loose->_;rw[m1];exact mk,by rw[es];show dH r.1.loose;rw[m1];exact m3,by rw[es];show r.1.loose.length<=200;rw[m1];exact hM,fun L=>?_⟩,by rw[es];exact Int.le_trans (cA _ _) hR.left,fun hE=>?_,by rw[es];exact hR.now⟩
   ·left
    unfold jv;rw[es];show dd (crD L r.1.safe r.1.loose r.1.loose.length)=T
    rw[hR.safe,hA.safe,m1];exact cT L
   ·obtain⟨e1,e2⟩:=(hR.ever hE).1
    obtain⟨f1,_,_⟩:=fg e1 e2;rw[f1] at h2;cases h2
  ·rw[if_neg h2];have h2':cE r.1.left r.1.st=true:=by simpa using h2
   have es:=oA h2';generalize hB:b7 r.1=B at *
   have b1:B.now=r.1.now:=by rw[es]
   have b2:B.safe=r.1.now:=by rw[es]
   have b3:B.loose=[]:=by rw[es]
   have b4:B.left<=A.left:=by rw[es];exact Int.le_trans (cA _ _) hR.left
   have b5:jp A->jp B:=fun hE=>by
    obtain⟨e1,e2⟩:=(hR.ever hE).1
    obtain⟨_,f2,f3⟩:=fg e1 e2;rw[es];exact⟨f2,f3⟩
   by_cases h3:wOk B.left B.st 0 (bs [UInt8.ofNat a])=false
   ·rw[if_pos h3];have ew:=jn h3;have hst:cE B.left B.st=false:=by
     rcases q:cE B.left B.st with _|_
     ·rfl
     ·have:=(uF (left:=B.left) (st:=B.st) (s:=0) (d:=bs [UInt8.ofNat a])).2 ⟨q,by omega,by omega,(by rw[aM];simp:(bs [UInt8.ofNat a]).size<=64)⟩
      rw[h3] at this;cases this
    refine⟨fun q=>(by cases q),fun _=>⟨by rw[ew];exact kH hst,by rw[ew];show WF B.now;rw[b1];exact hR.now,by rw[ew];show WF B.safe;rw[b2];exact hR.now,by rw[ew];show ∀ c,c∈B.loose->_;rw[b3];simp,by rw[ew];show dH B.loose;rw[b3];intro c h;simp at h,by rw[ew];show B.loose.length<=200;rw[b3];simp,fun L=>?_⟩,by rw[ew];exact Int.le_trans (cA _ _) b4,fun hE=>?_,by rw[ew];show WF B.now;rw[b1];exact hR.now⟩
    ·left
     unfold jv;rw[ew];show dd (crD L B.safe B.loose B.loose.length)=T
     rw[b2,b3];exact kt
    ·obtain⟨f1,_,_⟩:=fg (b5 hE).1 (b5 hE).2
     rw[f1] at hst;cases hst
   ·rw[if_neg h3];have h3':wOk B.left B.st 0 (bs [UInt8.ofNat a])=true:=by simpa using h3
    have ew:=jo h3';generalize hC:bE B 0 (bs [UInt8.ofNat a])=C at *
    have c1:C.now=cD r.1.now (0,cY (bs [UInt8.ofNat a])):=by rw[ew,b1]
    have c2:C.safe=r.1.now:=by rw[ew];exact b2
    have c3:C.loose=[(0,cY (bs [UInt8.ofNat a]))]:=by rw[ew,b3];rfl
    have c4:C.left<=A.left:=by rw[ew];exact Int.le_trans (cA _ _) b4
    have c5:jp A->jp C:=fun hE=>by
     obtain⟨_,f2,f3⟩:=fg (b5 hE).1 (b5 hE).2
     rw[ew];exact⟨f2,f3⟩
    have c6:WF C.now:=by rw[c1];exact hR.now.put (jF a) om om
    have hh:(cY (bs [UInt8.ofNat a])).data.toList.headD 0=UInt8.ofNat a:=by rw[zp];rfl
    have c7:dd C.now=t:=by rw[c1,nA ha hh,rt1]
    by_cases h4:cE C.left C.st=true
    ·have e4:=oA h4;refine⟨fun _=>⟨by rw[e4];exact c6,by rw[e4],by rw[e4],by rw[e4];exact c7⟩,fun q=>(by rw[h4] at q;cases q),by rw[e4];exact Int.le_trans (cA _ _) c4,fun hE=>⟨h4,?_⟩,by rw[e4];exact c6⟩
     obtain⟨_,f2,f3⟩:=fg (c5 hE).1 (c5 hE).2
     rw[e4];exact⟨f2,f3⟩
    ·have h4':cE C.left C.st=false:=by simpa using h4
     have e4:=oz h4';refine⟨fun q=>absurd q h4,fun _=>⟨by rw[e4];exact kH h4',by rw[e4];exact c6,by rw[e4];show WF C.safe;rw[c2];exact hR.now,by rw[e4];show ∀ c,c∈C.loose->_;rw[c3];intro c hc;simp at hc;subst hc;omega,by rw[e4];show dH C.loose;rw[c3];intro c hc;simp at hc;subst hc;exact jF a,by rw[e4];show C.loose.length<=200;rw[c3];simp,fun L=>?_⟩,by rw[e4];exact Int.le_trans (cA _ _) c4,fun hE=>?_,by rw[e4];exact c6⟩
     ·unfold jv;rw[e4];show dd (crD L C.safe C.loose C.loose.length)=T\/dd (crD L C.safe C.loose C.loose.length)=t
      rw[c2,c3];show dd (kW (nH (L.getD (0%L.length) 0)) r.1.now (0,cY (bs [UInt8.ofNat a])))=T\/dd (kW (nH (L.getD (0%L.length) 0)) r.1.now (0,cY (bs [UInt8.ofNat a])))=t
      unfold kW;by_cases hn:0<nH (L.getD (0%L.length) 0)
      ·right
       rw[if_pos hn,nA ha (by rw[zy hn (jF a)];exact hh),rt1]
      ·left
       rw[if_neg hn];exact kt
     ·obtain⟨f1,_,_⟩:=fg (c5 hE).1 (c5 hE).2
      rw[f1] at h4';cases h4'
theorem CB:Has ⟨[],[],[],-1,false⟩ []:=by
 refine⟨Fk,rfl,rfl,?_⟩
 have e:∀ a f i,eC [] a (f+1) i=(zb 64).data.toList.takeWhile (fun c=>c != 0)++(if (0:UInt8)∈(zb 64).data.toList then [] else eC [] a f (i+1)):=fun a f i=>rfl
 unfold dd;show eC [] (bF []) (199+1) 0=[]
 rw[e,if_pos (by decide +kernel)]
 decide +kernel
end
end Go.Proofs.YtjnhhnbgjjkkjaaGreatDoor
