/-
  RfO, RfP, RfU
-/
import Derived.Test.YtjnhhnbgjjkkjaaGreatDoorRepliesPAO
set_option linter.unusedVariables false
set_option linter.unusedSimpArgs false
set_option maxRecDepth 100000
set_option maxHeartbeats 2000000
namespace Go.Proofs.YtjnhhnbgjjkkjaaGreatDoor
open Go.ChangeShapes Go.WideShapes Go.ChangeAt Go.RowKit Tryz
def c8 (p:Int->Bool):Nat->Int->Option Int
  | 0,_=>none
  | k+1,x=>if p x then some x else c8 p k (x+1)
def eo (l:List Ls) (a n x:Int):Bool:=usR a n x&&decide (dH l x<0)
def eD (s:Bk) (o:ByteArray):Option Int->Bk×ByteArray
  | none=>(s,⟨#[69,82,82,32,70,85,76,76]⟩)
  | some d=>if 40<=s.leases.length then (s,⟨#[69,82,82,32,76,73,77,73,84]⟩) else ({ s with leases:=dP s.leases ⟨d,o⟩ },⟨#[79,75,32]⟩++bs (dot d.toNat))
def fX (s:Bk) (o:ByteArray) (a n:Int):Bk×ByteArray :=
  if ah s.nets a n<0 then (s,⟨#[69,82,82,32,78,69,84]⟩) else eD s o (c8 (eo s.leases a n) (sz n).toNat a)
theorem rL (S:Nat->Prop) (B:Nat) (W:World) (HBz:Hid (B<=W.heap.size)) (r:Nat) (s:Bk) (vt:Value) (o:ByteArray) (a n:Int) (ha:ad a) (hr:rt a n=true) (hl:s.leases.length<=1000) (hm:s.nets.length<=1000) (hN:∀ h,h∈s.nets->cI h) (hP:∀ x,x∈s.leases->ad x.a) (h:RB S B r s vt W) :
    Calls prog 191 #[.pointer (some ⟨r,0,none⟩),.string o,.agg #[.int .u32 a,.int .i64 n]] W (MR S B r vt W (fX s o a n)):=by
  obtain⟨n0,n1,_⟩:=aj.1 hr;have hend:=gu a n n0 n1 ha.1 ha.2 (aj.1 hr).2.2
  have hsz:=aC n;have HH:Hid (RB S B r s vt W):=h
  obtain⟨vp,vn,vl,h1,h2,h3,h4⟩:=h;have rl:=h1.lt;have hz:(s.leases.map lsH).length<=1000:=by simpa using hl
  have hz2:s.leases.length=(s.leases.map lsH).length:=by simp
  have hQ:=tM hP;obtain⟨bp,cp,rfl,_,_⟩:=ae h4.1;obtain⟨bn,cn,rfl,_,_⟩:=ae h3.1;have HA:Hid (∀ V,Bl W V->Cr prog 182 #[.slice bn s.nets.length cn,.agg #[.int .u32 a,.int .i64 n]] V (.int .i64 (ah s.nets a n))):=fun V hV=>eF s.nets a n _ V ha n0 n1 hN (h3.below hV).rd om
  have HLa:Hid (∀ V,Cr prog 231 #[.agg #[.int .u32 a,.int .i64 n]] V (.int .i64 (lst a n))):=fun V=>eI a n V ha.1 ha.2 n0 n1
  have HO1:Hid (∀ x,ad x->∀ V,Cr prog 233 #[.int .i64 x] V (.agg #[.int .u32 x,.int .i64 32])):=fun x hx V=>kO x V hx
  have HU:Hid (∀ x,ad x->∀ V,Cr prog 232 #[.agg #[.int .u32 a,.int .i64 n],.int .i64 x] V (.bool (usR a n x))):=fun x hx V=>jX a n x V ha n0 n1 hx.1 hx.2
  have HT:Hid (∀ x,ad x->∀ V,Bl W V->Cr prog 182 #[.slice bp (s.leases.map lsH).length cp,.agg #[.int .u32 x,.int .i64 32]] V (.int .i64 (dH s.leases x))):=fun x hx V hV=>eF _ x 32 _ V hx (by decide) (by decide) hQ (h4.below hV).rd om
  have HW:Hid (∀ x,ad x->∀ V,Bl W V->Calls prog 226 #[.slice bp (s.leases.map lsH).length cp,.agg #[.int .u32 x,.int .i64 32,.string o]] V fun e w'=>∃ v',e=.returned v'/\HL S B w' v' (aV (s.leases.map lsH) ⟨x,32,o⟩)/\Bl V w'):=fun x hx V hV=>(fF _ ⟨x,32,o⟩ _ V hx hQ (h4.below hV).rd om).mono (fun e w' ⟨v',q1,q2,q3⟩=>⟨v',q1,gm (by have z1:=HBz.out;have z2:=hV.size;omega) q2,q3⟩)
  have HD:Hid (∀ x,ad x->∀ V,Cr prog 222 #[.int .u32 x] V (.string (bs (dot x.toNat)))):=fun x hx V=>iy x V hx.1 hx.2
  have HC:Hid (∀ V,Bl W V->V.cell? ⟨r,1,none⟩=some (.slice bn s.nets.length cn)/\V.cell? ⟨r,2,none⟩=some (.slice bp (s.leases.map lsH).length cp)/\V.frozen? ⟨r,2,none⟩=false/\r<V.heap.size):=fun V hV=>⟨(h1.below hV).cell 1,(h1.below hV).cell 2,(h1.below hV).frozen 2,(h1.below hV).lt⟩
  have HF:Hid (∀ x t w3 v' w4,HL S B w3 v' (aV (s.leases.map lsH) ⟨x,32,o⟩)->Bl W w3->Below (w3.setCell ⟨r,2,none⟩ v').heap.size (w3.setCell ⟨r,2,none⟩ v') w4->MR S B r vt W ({ s with leases:=dP s.leases ⟨x,o⟩ },t) (.returned (.string t)) w4):=fun x t w3 v' w4 q1 q2 q3=>by
    have b3:=h1.below q2;have hb:RB S B r { s with leases:=dP s.leases ⟨x,o⟩ } vt (w3.setCell ⟨r,2,none⟩ v'):=by
      refine⟨_,_,v',b3.set 2 v',(h2.below q2).set b3,(h3.below q2).set b3,?_⟩
      show HL S B _ v' ((dP s.leases ⟨x,o⟩).map lsH)
      rw[mp];exact q1.set b3
    refine⟨rfl,hb.below q3,?_⟩
    have hc:=dJ (r:=r) (i:=2) (u:=v') q2
    exact⟨q3.os.trans hc.os,q3.tape.trans hc.tape,q3.output.trans hc.output,Nat.le_trans hc.size q3.size,fun x hx hn=>(q3.block x (Nat.lt_of_lt_of_le hx hc.size)).trans (hc.block x hx hn)⟩
  clear h1 h2 h3 h4 hP hQ hN;have hfi:=aT (isH a n) s.nets hd0
  have e9:fi (isH a n) s.nets=ah s.nets a n:=rfl
  rw[e9] at hfi;clear e9;unfold fX;generalize ah s.nets a n=fn at HA hfi ⊢
  have HRes:Hid (∀ x,eD s o (some x)=if 40<=(s.leases.map lsH).length then (s,⟨#[69,82,82,32,76,73,77,73,84]⟩) else ({ s with leases:=dP s.leases ⟨x,o⟩ },⟨#[79,75,32]⟩++bs (dot x.toNat))):=fun x=>by rw[<- hz2];rfl
  have HRn:Hid (eD s o none=(s,⟨#[69,82,82,32,70,85,76,76]⟩)):=rfl
  have i0:IntKind.i64.wrap a=a:=bd _ ha.1 ha.2
  obtain⟨M,hM⟩:∃ M,s.leases.map lsH=M:=⟨_,rfl⟩
  rw[hM] at HT HW HC HF hz HRes;clear hM hl hz2;obtain⟨c0,cl,_,_⟩:=HC.out W (Below.refl _ _)
  rcases hfi with⟨rfl,_⟩|⟨k,hk,rfl,_,_⟩
  . rw[if_pos om];clear HW HF HT HU HRes HRn HD HO1 HLa;go_enter func191,ntmps191
    go_wp2;go_region_held3 (fun w'=>w'.cell? ⟨r,1,none⟩=some (.slice bn s.nets.length cn)/\w'.cell? ⟨W.heap.size,0,none⟩=some (.int .u32 a)/\w'.cell? ⟨W.heap.size,1,none⟩=some (.int .i64 n)) (go_keep) ((go_at_call 182;refine(HA.out _ upB).mono ?_;rintro e w2 ⟨rfl,hb2⟩;have HB2:Hid (Bl W w2):=bup upB hb2;have p0:w2.cell? ⟨W.heap.size,0,none⟩=some (.int .u32 a):=(hb2.cell (p:=⟨W.heap.size,0,none⟩) (by simp)).trans (by simp[go_sem]);have p1:w2.cell? ⟨W.heap.size,1,none⟩=some (.int .i64 n):=(hb2.cell (p:=⟨W.heap.size,1,none⟩) (by simp)).trans (by simp[go_sem]);obtain⟨y0,y1,y2,y3⟩:=HC.out w2 HB2.out;clear hb2))
    all_goals (
      go_wp2_with fail
      go_ret;exact bP HH.out HB2.out)
  . rw[if_neg om];obtain⟨N,hN⟩:∃ N,(sz n).toNat=N:=⟨_,rfl⟩
    obtain⟨z,hlz⟩:∃ z,lst a n=z:=⟨_,rfl⟩
    have hzN:z=a+N-1:=by rw[<- hlz,<- hN];unfold lst;omega
    rw[hlz] at HLa;rw[hN];have hsN:sz n=N:=by omega
    obtain⟨fu,hfu⟩:∃ fu,c8 (eo s.leases a n) N a=fu:=⟨_,rfl⟩
    rw[hfu];rw[hsN] at hend hsz;clear hlz hN hsN;go_enter func191,ntmps191
    go_wp2;go_region_held3 (fun w'=>w'.cell? ⟨r,1,none⟩=some (.slice bn s.nets.length cn)/\w'.cell? ⟨W.heap.size,0,none⟩=some (.int .u32 a)/\w'.cell? ⟨W.heap.size,1,none⟩=some (.int .i64 n)) (go_keep) ((go_at_call 182;refine(HA.out _ upB).mono ?_;rintro e w2 ⟨rfl,hb2⟩;have HB2:Hid (Bl W w2):=bup upB hb2;have p0:w2.cell? ⟨W.heap.size,0,none⟩=some (.int .u32 a):=(hb2.cell (p:=⟨W.heap.size,0,none⟩) (by simp)).trans (by simp[go_sem]);have p1:w2.cell? ⟨W.heap.size,1,none⟩=some (.int .i64 n):=(hb2.cell (p:=⟨W.heap.size,1,none⟩) (by simp)).trans (by simp[go_sem]);obtain⟨y0,y1,y2,y3⟩:=HC.out w2 HB2.out;clear hb2))
    all_goals (
      go_wp2_with fail
      go_loopw [8] (fun i wr=>∃ j:Nat,j<=N/\i=.int .i64 (a+j)/\Hid (Bl W wr)/\Hid (wr.cell? ⟨W.heap.size,0,none⟩=some (.int .u32 a)/\wr.cell? ⟨W.heap.size,1,none⟩=some (.int .i64 n))/\Hid (fu=c8 (eo s.leases a n) (N-j) (a+j))) (fun i _=>N-(intOf i-a).toNat)
      case atStart=>exact⟨0,by omega,by go_num,HB2,⟨p0,p1⟩,(show fu=c8 (eo s.leases a n) (N-0) (a+((0:Nat):Int)) by rw[<- hfu];simp)⟩
      case round =>
        obtain⟨j,hj,rfl,HB,HP,HS⟩:=hrel;clear p0 p1 y0 y1 y2 y3 HB2 HA;obtain⟨p0,p1⟩:=HP.out;obtain⟨y0,y1,y2,y3⟩:=HC.out wr HB.out;have HP0:Hid (∀ V,Bl wr V->V.cell? ⟨W.heap.size,0,none⟩=some (.int .u32 a)/\V.cell? ⟨W.heap.size,1,none⟩=some (.int .i64 n)):=fun V hV=>⟨(hV.cell (p:=⟨W.heap.size,0,none⟩) (block_lt_of_cell HP.out.1)).trans HP.out.1,(hV.cell (p:=⟨W.heap.size,1,none⟩) (block_lt_of_cell HP.out.2)).trans HP.out.2⟩
        have HPz:Hid (W.heap.size<wr.heap.size):=block_lt_of_cell HP.out.1
        by_cases hjn:j<N
        . obtain⟨x,hx⟩:∃ x,a+(j:Int)=x:=⟨_,rfl⟩
          have hx1:a+(j:Int)+1=x+1:=by omega
          rw[hx] at HS ⊢;have hax:ad x:=⟨by have:=ha.1;omega,by omega⟩
          have HXJ:Hid (x+1=a+((j+1:Nat):Int)):=(show x+1=a+((j+1:Nat):Int) by omega)
          have HOx:=HO1.out x hax;have HO2:Hid (∀ V,Cr prog 233 #[.int .i64 x] V (.agg #[.int .u32 x,.int .i64 32])):=HOx
          have HUx:=HU.out x hax;have HTx:=HT.out x hax;have HWx:=HW.out x hax;have HW2:Hid (∀ V,Bl W V->Calls prog 226 #[.slice bp M.length cp,.agg #[.int .u32 x,.int .i64 32,.string o]] V fun e w'=>∃ v',e=.returned v'/\HL S B w' v' (aV M ⟨x,32,o⟩)/\Bl V w'):=HWx
          have HDx:=HD.out x hax;have zt:(bs (dot x.toNat)).size<=30:=by rw[aN];have:=io x hax.1 hax.2;omega
          have HF2:Hid (∀ t w3 v' w4,HL S B w3 v' (aV M ⟨x,32,o⟩)->Bl W w3->Below (w3.setCell ⟨r,2,none⟩ v').heap.size (w3.setCell ⟨r,2,none⟩ v') w4->MR S B r vt W ({ s with leases:=dP s.leases ⟨x,o⟩ },t) (.returned (.string t)) w4):=fun t w3 v' w4=>HF.out x t w3 v' w4
          have HRx:=HRes.out x;obtain⟨u,hu⟩:∃ u,usR a n x=u:=⟨_,rfl⟩
          obtain⟨fl,hfl⟩:∃ fl,dH s.leases x=fl:=⟨_,rfl⟩
          have HSn:Hid ((u=false\/0<=fl)->fu=c8 (eo s.leases a n) (N-(j+1)) (x+1)):=fun q=>by
            have h:=HS.out;rw[show N-j=(N-(j+1))+1 by omega] at h
            simp only[c8] at h
            rw[if_neg (by unfold eo;rw[hu,hfl];rcases q with q|q;simp[q];simp;intro _;omega)] at h
            exact h
          have HSy:Hid (u=true->fl<0->fu=some x):=fun q1 q2=>by
            have h:=HS.out;rw[show N-j=(N-(j+1))+1 by omega] at h
            simp only[c8] at h
            rw[if_pos (by unfold eo;rw[hu,hfl,q1];simpa using q2)] at h
            exact h
          rw[hu] at HUx;rw[hfl] at HTx;have HU2:Hid (∀ V,Cr prog 232 #[.agg #[.int .u32 a,.int .i64 n],.int .i64 x] V (.bool u)):=HUx
          have HT2:Hid (∀ V,Bl W V->Cr prog 182 #[.slice bp M.length cp,.agg #[.int .u32 x,.int .i64 32]] V (.int .i64 fl)):=HTx
          have HX:Hid (IntKind.u32.wrap x=x):=jm _ hax.1 hax.2
          have hle:x<=z:=by omega
          have HRz:Hid (eD s o (some x)=if 40<=M.length then (s,⟨#[69,82,82,32,76,73,77,73,84]⟩) else ({ s with leases:=dP s.leases ⟨x,o⟩ },⟨#[79,75,32]⟩++bs (dot x.toNat))):=HRx
          generalize bs (dot x.toNat)=tx at HDx HRz zt
          have HD2:Hid (∀ V,Cr prog 222 #[.int .u32 x] V (.string tx)):=HDx
          have hxx:0<=x/\x<4294967296:=hax
          clear HOx HUx HTx HWx HDx HRx hu hfl HO1 HU HT HW HD HF HRes HS hx hx1 hax HP HRn;go_wp2_with (first|(go_at_call 231;refine(HLa.out _).mono ?_;rintro e wa ⟨rfl,hb2⟩;replace p0:wa.cell? ⟨W.heap.size,0,none⟩=some (.int .u32 a):=(hb2.cell (p:=⟨W.heap.size,0,none⟩) (by first|exact block_lt_of_cell p0|(simp;done))).trans (by first|exact p0|simpa[go_sem] using p0);replace p1:wa.cell? ⟨W.heap.size,1,none⟩=some (.int .i64 n):=(hb2.cell (p:=⟨W.heap.size,1,none⟩) (by first|exact block_lt_of_cell p1|(simp;done))).trans (by first|exact p1|simpa[go_sem] using p1);replace HB:Hid (Bl W wa):=(by first|exact bup HB.out hb2|exact bup HB.out ((Below.drew (Below.refl _ _)).trans hb2)|exact bup (by have hh:=HB.out;have hg:=HB.out.size;exact upB) hb2);obtain⟨y0,y1,y2,y3⟩:=HC.out wa HB.out;clear hb2)|(go_at_call 232;refine(HU2.out _).mono ?_;rintro e wb ⟨rfl,hb2⟩;replace p0:wb.cell? ⟨W.heap.size,0,none⟩=some (.int .u32 a):=(hb2.cell (p:=⟨W.heap.size,0,none⟩) (by first|exact block_lt_of_cell p0|(simp;done))).trans (by first|exact p0|simpa[go_sem] using p0);replace p1:wb.cell? ⟨W.heap.size,1,none⟩=some (.int .i64 n):=(hb2.cell (p:=⟨W.heap.size,1,none⟩) (by first|exact block_lt_of_cell p1|(simp;done))).trans (by first|exact p1|simpa[go_sem] using p1);replace HB:Hid (Bl W wb):=(by first|exact bup HB.out hb2|exact bup HB.out ((Below.drew (Below.refl _ _)).trans hb2)|exact bup (by have hh:=HB.out;have hg:=HB.out.size;exact upB) hb2);obtain⟨y0,y1,y2,y3⟩:=HC.out wb HB.out;clear hb2)|(go_at_call 233;refine(HO2.out _).mono ?_;rintro e wc ⟨rfl,hb2⟩;replace p0:wc.cell? ⟨W.heap.size,0,none⟩=some (.int .u32 a):=(hb2.cell (p:=⟨W.heap.size,0,none⟩) (by first|exact block_lt_of_cell p0|(simp;done))).trans (by first|exact p0|simpa[go_sem] using p0);replace p1:wc.cell? ⟨W.heap.size,1,none⟩=some (.int .i64 n):=(hb2.cell (p:=⟨W.heap.size,1,none⟩) (by first|exact block_lt_of_cell p1|(simp;done))).trans (by first|exact p1|simpa[go_sem] using p1);replace HB:Hid (Bl W wc):=(by first|exact bup HB.out hb2|exact bup HB.out ((Below.drew (Below.refl _ _)).trans hb2)|exact bup (by have hh:=HB.out;have hg:=HB.out.size;exact upB) hb2);obtain⟨y0,y1,y2,y3⟩:=HC.out wc HB.out;clear hb2)|(go_at_call 182;refine(HT2.out _ (by have hh:=HB.out;have hg:=HB.out.size;exact upB)).mono ?_;rintro e wd ⟨rfl,hb2⟩;replace p0:wd.cell? ⟨W.heap.size,0,none⟩=some (.int .u32 a):=(hb2.cell (p:=⟨W.heap.size,0,none⟩) (by first|exact block_lt_of_cell p0|(simp;done))).trans (by first|exact p0|simpa[go_sem] using p0);replace p1:wd.cell? ⟨W.heap.size,1,none⟩=some (.int .i64 n):=(hb2.cell (p:=⟨W.heap.size,1,none⟩) (by first|exact block_lt_of_cell p1|(simp;done))).trans (by first|exact p1|simpa[go_sem] using p1);replace HB:Hid (Bl W wd):=(by first|exact bup HB.out hb2|exact bup HB.out ((Below.drew (Below.refl _ _)).trans hb2)|exact bup (by have hh:=HB.out;have hg:=HB.out.size;exact upB) hb2);obtain⟨y0,y1,y2,y3⟩:=HC.out wd HB.out;clear hb2))
          go_region_held3 (fun w'=>w'.cell? ⟨r,2,none⟩=some (.slice bp M.length cp)) (go_keep) ((first|(go_at_call 233;refine(HO2.out _).mono ?_;rintro e wc ⟨rfl,hb2⟩;replace p0:wc.cell? ⟨W.heap.size,0,none⟩=some (.int .u32 a):=(hb2.cell (p:=⟨W.heap.size,0,none⟩) (by first|exact block_lt_of_cell p0|(simp;done))).trans (by first|exact p0|simpa[go_sem] using p0);replace p1:wc.cell? ⟨W.heap.size,1,none⟩=some (.int .i64 n):=(hb2.cell (p:=⟨W.heap.size,1,none⟩) (by first|exact block_lt_of_cell p1|(simp;done))).trans (by first|exact p1|simpa[go_sem] using p1);replace HB:Hid (Bl W wc):=(by first|exact bup HB.out hb2|exact bup HB.out ((Below.drew (Below.refl _ _)).trans hb2)|exact bup (by have hh:=HB.out;have hg:=HB.out.size;exact upB) hb2);obtain⟨y0,y1,y2,y3⟩:=HC.out wc HB.out;clear hb2)|(go_at_call 182;refine(HT2.out _ (by have hh:=HB.out;have hg:=HB.out.size;exact upB)).mono ?_;rintro e wd ⟨rfl,hb2⟩;replace p0:wd.cell? ⟨W.heap.size,0,none⟩=some (.int .u32 a):=(hb2.cell (p:=⟨W.heap.size,0,none⟩) (by first|exact block_lt_of_cell p0|(simp;done))).trans (by first|exact p0|simpa[go_sem] using p0);replace p1:wd.cell? ⟨W.heap.size,1,none⟩=some (.int .i64 n):=(hb2.cell (p:=⟨W.heap.size,1,none⟩) (by first|exact block_lt_of_cell p1|(simp;done))).trans (by first|exact p1|simpa[go_sem] using p1);replace HB:Hid (Bl W wd):=(by first|exact bup HB.out hb2|exact bup HB.out ((Below.drew (Below.refl _ _)).trans hb2)|exact bup (by have hh:=HB.out;have hg:=HB.out.size;exact upB) hb2);obtain⟨y0,y1,y2,y3⟩:=HC.out wd HB.out;clear hb2)))
          all_goals (
            cases u with
            | false =>
              go_wp2_with fail
              refine⟨⟨j+1,by omega,by rw[<- HXJ.out],HB,⟨p0,p1⟩,(show fu=c8 (eo s.leases a n) (N-(j+1)) (a+((j+1:Nat):Int)) by rw[<- HXJ.out];exact HSn.out (.inl (by simp)))⟩,?_⟩
              have h:=HXJ.out;simp[intOf];omega
            | true =>
              by_cases k3:0<=fl
              . go_wp2_with fail
                refine⟨⟨j+1,by omega,by rw[<- HXJ.out],HB,⟨p0,p1⟩,(show fu=c8 (eo s.leases a n) (N-(j+1)) (a+((j+1:Nat):Int)) by rw[<- HXJ.out];exact HSn.out (.inr om))⟩,?_⟩
                have h:=HXJ.out;simp[intOf];omega
              . have HE:Hid (fu=some x):=HSy.out rfl om
                by_cases k4:40<=M.length
                . have k5:(40:Int)<=(M.length:Int):=by omega
                  go_wp2_with fail
                  go_ret;rw[HE.out,HRz.out,if_pos k4];exact bP HH.out HB.out
                . have k5:¬(40:Int)<=(M.length:Int):=by omega
                  have hX:=HX.out;go_wp2_with fail
                  go_region_with (first|(go_at_call 233;refine(HO2.out _).mono ?_;rintro e we ⟨rfl,hb2⟩;replace p0:we.cell? ⟨W.heap.size,0,none⟩=some (.int .u32 a):=(hb2.cell (p:=⟨W.heap.size,0,none⟩) (by first|exact block_lt_of_cell p0|(simp;done))).trans (by first|exact p0|simpa[go_sem] using p0);replace p1:we.cell? ⟨W.heap.size,1,none⟩=some (.int .i64 n):=(hb2.cell (p:=⟨W.heap.size,1,none⟩) (by first|exact block_lt_of_cell p1|(simp;done))).trans (by first|exact p1|simpa[go_sem] using p1);replace HB:Hid (Bl W we):=(by first|exact bup HB.out hb2|exact bup HB.out ((Below.drew (Below.refl _ _)).trans hb2)|exact bup (by have hh:=HB.out;have hg:=HB.out.size;exact upB) hb2);obtain⟨y0,y1,y2,y3⟩:=HC.out we HB.out;clear hb2)|(go_at_call 226;refine(HW2.out _ (by have hh:=HB.out;have hg:=HB.out.size;exact upB)).mono ?_;rintro e w6 ⟨v6,rfl,hv6,hb6⟩;obtain⟨b6,c6,rfl,_,_⟩:=ae hv6.1;have HB6:Hid (Bl W w6):=(by first|exact bup HB.out hb6|exact bup HB.out ((Below.drew (Below.refl _ _)).trans hb6)|exact bup (by have hh:=HB.out;have hg:=HB.out.size;exact upB) hb6);have HV6:Hid (HL S B w6 (.slice b6 (aV M ⟨x,32,o⟩).length c6) (aV M ⟨x,32,o⟩)):=hv6;obtain⟨z0,z1,z2,z3⟩:=HC.out w6 HB6.out;clear hb6 hv6))
                  all_goals (
                    go_wp2_with (go_at_call 222;refine(HD2.out _).mono ?_;rintro e w7 ⟨rfl,hb7⟩;have HB7:Hid (Below (w6.setCell ⟨r,2,none⟩ (.slice b6 (aV M ⟨x,32,o⟩).length c6)).heap.size (w6.setCell ⟨r,2,none⟩ (.slice b6 (aV M ⟨x,32,o⟩).length c6)) w7):=hb7;clear hb7)
                    go_ret;rw[HE.out,HRz.out,if_neg k4];exact HF2.out _ w6 _ w7 HV6.out HB6.out HB7.out))
        . obtain rfl:j=N:=by omega
          have HE:Hid (fu=none):=(show fu=none by rw[HS.out];simp[c8])
          have hgt:¬a+(j:Int)<=z:=by omega
          clear HS HU HT HW HD HF HRes;go_wp2_with (go_at_call 231;refine(HLa.out _).mono ?_;rintro e wa ⟨rfl,hb2⟩;replace p0:wa.cell? ⟨W.heap.size,0,none⟩=some (.int .u32 a):=(hb2.cell (p:=⟨W.heap.size,0,none⟩) (by first|exact block_lt_of_cell p0|(simp;done))).trans (by first|exact p0|simpa[go_sem] using p0);replace p1:wa.cell? ⟨W.heap.size,1,none⟩=some (.int .i64 n):=(hb2.cell (p:=⟨W.heap.size,1,none⟩) (by first|exact block_lt_of_cell p1|(simp;done))).trans (by first|exact p1|simpa[go_sem] using p1);replace HB:Hid (Bl W wa):=(by first|exact bup HB.out hb2|exact bup HB.out ((Below.drew (Below.refl _ _)).trans hb2)|exact bup (by have hh:=HB.out;have hg:=HB.out.size;exact upB) hb2);obtain⟨y0,y1,y2,y3⟩:=HC.out wa HB.out;clear hb2)
          go_ret;rw[HE.out,HRn.out];exact bP HH.out HB.out)
def Wd (W:World) (g m:Nat) (ls:List (List UInt8)):Prop:=m=ls.length/\g<W.heap.size/\∀ i,i<m->W.cell? ⟨g,i,none⟩=some (.string (bs (ls.getD i [])))
theorem Wd.below {W W':World} {g m:Nat} {ls:List (List UInt8)} (h:Wd W g m ls) (hb:Bl W W'):Wd W' g m ls:=⟨h.1,Nat.lt_of_lt_of_le h.2.1 hb.size,fun i hi=>(hb.cell (p:=⟨g,i,none⟩) h.2.1).trans (h.2.2 i hi)⟩
def bX (v:Int) (m:Nat) (t o:Bool) (ai e nu:Int):Bool :=
  decide (m=4\/m=5)&&t&&o&&(if v=6\/v=7 then decide (m=4)&&decide (0<=ai) else if v=2 then decide (m=5)&&decide (e=0)&&decide (0<=nu) else if 0<=v/\v<=5 then decide (m=4)&&decide (e=0) else false)
def Wq4 (W:World) (g:Nat) (p:Nat->ByteArray) (V:World):Prop:=Hid (Bl W V)/\V.cell? ⟨g,0,none⟩=some (.string (p 0))/\V.cell? ⟨g,1,none⟩=some (.string (p 1))/\V.cell? ⟨g,2,none⟩=some (.string (p 2))/\V.cell? ⟨g,3,none⟩=some (.string (p 3))/\g<V.heap.size
def Wq5 (W:World) (g:Nat) (p:Nat->ByteArray) (V:World):Prop:=Wq4 W g p V/\V.cell? ⟨g,4,none⟩=some (.string (p 4))
structure IH (W:World) (Q:World->Prop) (p:Nat->ByteArray) (t o:Bool) (ai b n e nu:Int):Prop where
  q:Q W
  n1:∀ V,Bl W V->Calls prog 183 #[.string (p 1)] V fun x w'=>x=.returned (.bool t)/\Q w'
  n2:∀ V,Bl W V->Calls prog 183 #[.string (p 2)] V fun x w'=>x=.returned (.bool o)/\Q w'
  ra:∀ V,Bl W V->Calls prog 184 #[.string (p 3)] V fun x w'=>x=.returned (.int .i64 ai)/\Q w'
  rd:∀ V,Bl W V->Calls prog 181 #[.string (p 3)] V fun x w'=>x=.returned (.tuple #[.agg #[.int .u32 b,.int .i64 n],.int .i64 e])/\Q w'
  nm:∀ V,Bl W V->Calls prog 185 #[.string (p 4),.int .i64 32] V fun x w'=>x=.returned (.int .i64 nu)/\Q w'
def VbA (p0:ByteArray):Prop:=((p0.toList==[84,65,75,69])=true)\/((p0.toList==[84,65,75,69])=false/\(p0.toList==[71,73,86,69])=true)
def VbB (p0:ByteArray):Prop:=((p0.toList==[84,65,75,69])=false/\(p0.toList==[71,73,86,69])=false/\(p0.toList==[78,69,84])=false/\(p0.toList==[80,79,79,76])=true)\/((p0.toList==[84,65,75,69])=false/\(p0.toList==[71,73,86,69])=false/\(p0.toList==[78,69,84])=false/\(p0.toList==[80,79,79,76])=false/\(p0.toList==[68,82,79,80])=true)\/((p0.toList==[84,65,75,69])=false/\(p0.toList==[71,73,86,69])=false/\(p0.toList==[78,69,84])=false/\(p0.toList==[80,79,79,76])=false/\(p0.toList==[68,82,79,80])=false/\(p0.toList==[66,76,79,67,75])=true)\/((p0.toList==[84,65,75,69])=false/\(p0.toList==[71,73,86,69])=false/\(p0.toList==[78,69,84])=false/\(p0.toList==[80,79,79,76])=false/\(p0.toList==[68,82,79,80])=false/\(p0.toList==[66,76,79,67,75])=false/\(p0.toList==[70,82,69,69])=true)\/((p0.toList==[84,65,75,69])=false/\(p0.toList==[71,73,86,69])=false/\(p0.toList==[78,69,84])=false/\(p0.toList==[80,79,79,76])=false/\(p0.toList==[68,82,79,80])=false/\(p0.toList==[66,76,79,67,75])=false/\(p0.toList==[70,82,69,69])=false/\(p0.toList==[76,69,65,83,69])=true)
theorem EX (W:World) (g cap:Nat) (p:Nat->ByteArray) (t o:Bool) (ai b n e nu:Int) (h:IH W (Wq4 W g p) p t o ai b n e nu) (ht:t=false):Calls prog 135 #[.slice (some ⟨g,0,none⟩) 4 cap] W fun x w'=>x=.returned (.bool false)/\Bl W w':=by
  obtain⟨B0,c0,c1,c2,c3,cz⟩:=h.q;subst ht
  all_goals (
    go_enter func135,ntmps135
    go_wp2_with (first|(go_at_call_of 183 (Value.string (p 1));refine(h.n1 _ (by have hh:=B0.out;have hg:=hh.size;exact upB)).mono ?_;rintro x w1 ⟨rfl,⟨B1,c0,c1,c2,c3,cz⟩⟩)|(go_at_call_of 183 (Value.string (p 2));refine(h.n2 _ (by have hh:=B1.out;have hg:=hh.size;exact upB)).mono ?_;rintro x w2 ⟨rfl,⟨B2,c0,c1,c2,c3,cz⟩⟩))
    go_ret;exact⟨by first|rfl|(simp;omega),by have hh:=B2.out;have hg:=hh.size;exact upB⟩)
theorem E7 (W:World) (g cap:Nat) (p:Nat->ByteArray) (t o:Bool) (ai b n e nu:Int) (h:IH W (Wq4 W g p) p t o ai b n e nu) (ht:t=true) (ho:o=false):Calls prog 135 #[.slice (some ⟨g,0,none⟩) 4 cap] W fun x w'=>x=.returned (.bool false)/\Bl W w':=by
  obtain⟨B0,c0,c1,c2,c3,cz⟩:=h.q;subst ht;subst ho
  all_goals (
    go_enter func135,ntmps135
    go_wp2_with (first|(go_at_call_of 183 (Value.string (p 1));refine(h.n1 _ (by have hh:=B0.out;have hg:=hh.size;exact upB)).mono ?_;rintro x w1 ⟨rfl,⟨B1,c0,c1,c2,c3,cz⟩⟩)|(go_at_call_of 183 (Value.string (p 2));refine(h.n2 _ (by have hh:=B1.out;have hg:=hh.size;exact upB)).mono ?_;rintro x w2 ⟨rfl,⟨B2,c0,c1,c2,c3,cz⟩⟩))
    go_ret;exact⟨by first|rfl|(simp;omega),by have hh:=B2.out;have hg:=hh.size;exact upB⟩)
theorem Ek (W:World) (g cap:Nat) (p:Nat->ByteArray) (t o:Bool) (ai b n e nu:Int) (h:IH W (Wq4 W g p) p t o ai b n e nu) (ht:t=true) (ho:o=true) (hv:VbA (p 0)) (ha:0<=ai):Calls prog 135 #[.slice (some ⟨g,0,none⟩) 4 cap] W fun x w'=>x=.returned (.bool true)/\Bl W w':=by
  obtain⟨B0,c0,c1,c2,c3,cz⟩:=h.q;subst ht;subst ho;rcases hv with h0|⟨h0,h1⟩
  all_goals (
    go_enter func135,ntmps135
    go_wp2_with (first|(go_at_call_of 183 (Value.string (p 1));refine(h.n1 _ (by have hh:=B0.out;have hg:=hh.size;exact upB)).mono ?_;rintro x w1 ⟨rfl,⟨B1,c0,c1,c2,c3,cz⟩⟩)|(go_at_call_of 183 (Value.string (p 2));refine(h.n2 _ (by have hh:=B1.out;have hg:=hh.size;exact upB)).mono ?_;rintro x w2 ⟨rfl,⟨B2,c0,c1,c2,c3,cz⟩⟩)|(go_at_call_of 184 (Value.string (p 3));refine(h.ra _ (by have hh:=B2.out;have hg:=hh.size;exact upB)).mono ?_;rintro x w3 ⟨rfl,⟨B3,c0,c1,c2,c3,cz⟩⟩))
    go_ret;exact⟨by first|rfl|(simp;omega),by have hh:=B3.out;have hg:=hh.size;exact upB⟩)
theorem Fh (W:World) (g cap:Nat) (p:Nat->ByteArray) (t o:Bool) (ai b n e nu:Int) (h:IH W (Wq4 W g p) p t o ai b n e nu) (ht:t=true) (ho:o=true) (hv:VbA (p 0)) (ha:¬0<=ai):Calls prog 135 #[.slice (some ⟨g,0,none⟩) 4 cap] W fun x w'=>x=.returned (.bool false)/\Bl W w':=by
  obtain⟨B0,c0,c1,c2,c3,cz⟩:=h.q;subst ht;subst ho;rcases hv with h0|⟨h0,h1⟩
  all_goals (
    go_enter func135,ntmps135
    go_wp2_with (first|(go_at_call_of 183 (Value.string (p 1));refine(h.n1 _ (by have hh:=B0.out;have hg:=hh.size;exact upB)).mono ?_;rintro x w1 ⟨rfl,⟨B1,c0,c1,c2,c3,cz⟩⟩)|(go_at_call_of 183 (Value.string (p 2));refine(h.n2 _ (by have hh:=B1.out;have hg:=hh.size;exact upB)).mono ?_;rintro x w2 ⟨rfl,⟨B2,c0,c1,c2,c3,cz⟩⟩)|(go_at_call_of 184 (Value.string (p 3));refine(h.ra _ (by have hh:=B2.out;have hg:=hh.size;exact upB)).mono ?_;rintro x w3 ⟨rfl,⟨B3,c0,c1,c2,c3,cz⟩⟩))
    go_ret;exact⟨by first|rfl|(simp;omega),by have hh:=B3.out;have hg:=hh.size;exact upB⟩)
theorem DO (W:World) (g cap:Nat) (p:Nat->ByteArray) (t o:Bool) (ai b n e nu:Int) (h:IH W (Wq4 W g p) p t o ai b n e nu) (ht:t=true) (ho:o=true) (hv:((p 0).toList==[84,65,75,69])=false/\((p 0).toList==[71,73,86,69])=false/\((p 0).toList==[78,69,84])=true):Calls prog 135 #[.slice (some ⟨g,0,none⟩) 4 cap] W fun x w'=>x=.returned (.bool false)/\Bl W w':=by
  obtain⟨B0,c0,c1,c2,c3,cz⟩:=h.q;subst ht;subst ho;obtain⟨h0,h1,h2⟩:=hv
  all_goals (
    go_enter func135,ntmps135
    go_wp2_with (first|(go_at_call_of 183 (Value.string (p 1));refine(h.n1 _ (by have hh:=B0.out;have hg:=hh.size;exact upB)).mono ?_;rintro x w1 ⟨rfl,⟨B1,c0,c1,c2,c3,cz⟩⟩)|(go_at_call_of 183 (Value.string (p 2));refine(h.n2 _ (by have hh:=B1.out;have hg:=hh.size;exact upB)).mono ?_;rintro x w2 ⟨rfl,⟨B2,c0,c1,c2,c3,cz⟩⟩)|(go_at_call_of 181 (Value.string (p 3));refine(h.rd _ (by have hh:=B2.out;have hg:=hh.size;exact upB)).mono ?_;rintro x w3 ⟨rfl,⟨B3,c0,c1,c2,c3,cz⟩⟩))
    go_ret;exact⟨by first|rfl|(simp;omega),by have hh:=B3.out;have hg:=hh.size;exact upB⟩)
theorem EI (W:World) (g cap:Nat) (p:Nat->ByteArray) (t o:Bool) (ai b n e nu:Int) (h:IH W (Wq4 W g p) p t o ai b n e nu) (ht:t=true) (ho:o=true) (hv:VbB (p 0)) (he:e=0):Calls prog 135 #[.slice (some ⟨g,0,none⟩) 4 cap] W fun x w'=>x=.returned (.bool true)/\Bl W w':=by
  obtain⟨B0,c0,c1,c2,c3,cz⟩:=h.q;subst he;subst ht;subst ho;rcases hv with⟨h0,h1,h2,h3⟩|⟨h0,h1,h2,h3,h4⟩|⟨h0,h1,h2,h3,h4,h5⟩|⟨h0,h1,h2,h3,h4,h5,h6⟩|⟨h0,h1,h2,h3,h4,h5,h6,h7⟩
  all_goals (
    go_enter func135,ntmps135
    go_wp2_with (first|(go_at_call_of 183 (Value.string (p 1));refine(h.n1 _ (by have hh:=B0.out;have hg:=hh.size;exact upB)).mono ?_;rintro x w1 ⟨rfl,⟨B1,c0,c1,c2,c3,cz⟩⟩)|(go_at_call_of 183 (Value.string (p 2));refine(h.n2 _ (by have hh:=B1.out;have hg:=hh.size;exact upB)).mono ?_;rintro x w2 ⟨rfl,⟨B2,c0,c1,c2,c3,cz⟩⟩)|(go_at_call_of 181 (Value.string (p 3));refine(h.rd _ (by have hh:=B2.out;have hg:=hh.size;exact upB)).mono ?_;rintro x w3 ⟨rfl,⟨B3,c0,c1,c2,c3,cz⟩⟩))
    go_ret;exact⟨by first|rfl|(simp;omega),by have hh:=B3.out;have hg:=hh.size;exact upB⟩)
theorem DS (W:World) (g cap:Nat) (p:Nat->ByteArray) (t o:Bool) (ai b n e nu:Int) (h:IH W (Wq4 W g p) p t o ai b n e nu) (ht:t=true) (ho:o=true) (hv:VbB (p 0)) (he:(e==0)=false):Calls prog 135 #[.slice (some ⟨g,0,none⟩) 4 cap] W fun x w'=>x=.returned (.bool false)/\Bl W w':=by
  obtain⟨B0,c0,c1,c2,c3,cz⟩:=h.q;subst ht;subst ho;rcases hv with⟨h0,h1,h2,h3⟩|⟨h0,h1,h2,h3,h4⟩|⟨h0,h1,h2,h3,h4,h5⟩|⟨h0,h1,h2,h3,h4,h5,h6⟩|⟨h0,h1,h2,h3,h4,h5,h6,h7⟩
  all_goals (
    go_enter func135,ntmps135
    go_wp2_with (first|(go_at_call_of 183 (Value.string (p 1));refine(h.n1 _ (by have hh:=B0.out;have hg:=hh.size;exact upB)).mono ?_;rintro x w1 ⟨rfl,⟨B1,c0,c1,c2,c3,cz⟩⟩)|(go_at_call_of 183 (Value.string (p 2));refine(h.n2 _ (by have hh:=B1.out;have hg:=hh.size;exact upB)).mono ?_;rintro x w2 ⟨rfl,⟨B2,c0,c1,c2,c3,cz⟩⟩)|(go_at_call_of 181 (Value.string (p 3));refine(h.rd _ (by have hh:=B2.out;have hg:=hh.size;exact upB)).mono ?_;rintro x w3 ⟨rfl,⟨B3,c0,c1,c2,c3,cz⟩⟩))
    go_ret;exact⟨by first|rfl|(simp;omega),by have hh:=B3.out;have hg:=hh.size;exact upB⟩)
theorem Eb (W:World) (g cap:Nat) (p:Nat->ByteArray) (t o:Bool) (ai b n e nu:Int) (h:IH W (Wq4 W g p) p t o ai b n e nu) (ht:t=true) (ho:o=true) (hv:((p 0).toList==[84,65,75,69])=false/\((p 0).toList==[71,73,86,69])=false/\((p 0).toList==[78,69,84])=false/\((p 0).toList==[80,79,79,76])=false/\((p 0).toList==[68,82,79,80])=false/\((p 0).toList==[66,76,79,67,75])=false/\((p 0).toList==[70,82,69,69])=false/\((p 0).toList==[76,69,65,83,69])=false):Calls prog 135 #[.slice (some ⟨g,0,none⟩) 4 cap] W fun x w'=>x=.returned (.bool false)/\Bl W w':=by
  obtain⟨B0,c0,c1,c2,c3,cz⟩:=h.q;subst ht;subst ho;obtain⟨h0,h1,h2,h3,h4,h5,h6,h7⟩:=hv
  all_goals (
    go_enter func135,ntmps135
    go_wp2_with (first|(go_at_call_of 183 (Value.string (p 1));refine(h.n1 _ (by have hh:=B0.out;have hg:=hh.size;exact upB)).mono ?_;rintro x w1 ⟨rfl,⟨B1,c0,c1,c2,c3,cz⟩⟩)|(go_at_call_of 183 (Value.string (p 2));refine(h.n2 _ (by have hh:=B1.out;have hg:=hh.size;exact upB)).mono ?_;rintro x w2 ⟨rfl,⟨B2,c0,c1,c2,c3,cz⟩⟩))
    go_ret;exact⟨by first|rfl|(simp;omega),by have hh:=B2.out;have hg:=hh.size;exact upB⟩)
theorem Ea (W:World) (g cap:Nat) (p:Nat->ByteArray) (t o:Bool) (ai b n e nu:Int) (h:IH W (Wq5 W g p) p t o ai b n e nu) (ht:t=false):Calls prog 135 #[.slice (some ⟨g,0,none⟩) 5 cap] W fun x w'=>x=.returned (.bool false)/\Bl W w':=by
  obtain⟨⟨B0,c0,c1,c2,c3,cz⟩,c4⟩:=h.q;subst ht
  all_goals (
    go_enter func135,ntmps135
    go_wp2_with (first|(go_at_call_of 183 (Value.string (p 1));refine(h.n1 _ (by have hh:=B0.out;have hg:=hh.size;exact upB)).mono ?_;rintro x w1 ⟨rfl,⟨⟨B1,c0,c1,c2,c3,cz⟩,c4⟩⟩)|(go_at_call_of 183 (Value.string (p 2));refine(h.n2 _ (by have hh:=B1.out;have hg:=hh.size;exact upB)).mono ?_;rintro x w2 ⟨rfl,⟨⟨B2,c0,c1,c2,c3,cz⟩,c4⟩⟩))
    go_ret;exact⟨by first|rfl|(simp;omega),by have hh:=B2.out;have hg:=hh.size;exact upB⟩)
theorem EZ (W:World) (g cap:Nat) (p:Nat->ByteArray) (t o:Bool) (ai b n e nu:Int) (h:IH W (Wq5 W g p) p t o ai b n e nu) (ht:t=true) (ho:o=false):Calls prog 135 #[.slice (some ⟨g,0,none⟩) 5 cap] W fun x w'=>x=.returned (.bool false)/\Bl W w':=by
  obtain⟨⟨B0,c0,c1,c2,c3,cz⟩,c4⟩:=h.q;subst ht;subst ho
  all_goals (
    go_enter func135,ntmps135
    go_wp2_with (first|(go_at_call_of 183 (Value.string (p 1));refine(h.n1 _ (by have hh:=B0.out;have hg:=hh.size;exact upB)).mono ?_;rintro x w1 ⟨rfl,⟨⟨B1,c0,c1,c2,c3,cz⟩,c4⟩⟩)|(go_at_call_of 183 (Value.string (p 2));refine(h.n2 _ (by have hh:=B1.out;have hg:=hh.size;exact upB)).mono ?_;rintro x w2 ⟨rfl,⟨⟨B2,c0,c1,c2,c3,cz⟩,c4⟩⟩))
    go_ret;exact⟨by first|rfl|(simp;omega),by have hh:=B2.out;have hg:=hh.size;exact upB⟩)
theorem EF (W:World) (g cap:Nat) (p:Nat->ByteArray) (t o:Bool) (ai b n e nu:Int) (h:IH W (Wq5 W g p) p t o ai b n e nu) (ht:t=true) (ho:o=true) (hv:VbA (p 0)):Calls prog 135 #[.slice (some ⟨g,0,none⟩) 5 cap] W fun x w'=>x=.returned (.bool false)/\Bl W w':=by
  obtain⟨⟨B0,c0,c1,c2,c3,cz⟩,c4⟩:=h.q;subst ht;subst ho;rcases hv with h0|⟨h0,h1⟩
  all_goals (
    go_enter func135,ntmps135
    go_wp2_with (first|(go_at_call_of 183 (Value.string (p 1));refine(h.n1 _ (by have hh:=B0.out;have hg:=hh.size;exact upB)).mono ?_;rintro x w1 ⟨rfl,⟨⟨B1,c0,c1,c2,c3,cz⟩,c4⟩⟩)|(go_at_call_of 183 (Value.string (p 2));refine(h.n2 _ (by have hh:=B1.out;have hg:=hh.size;exact upB)).mono ?_;rintro x w2 ⟨rfl,⟨⟨B2,c0,c1,c2,c3,cz⟩,c4⟩⟩)|(go_at_call_of 184 (Value.string (p 3));refine(h.ra _ (by have hh:=B2.out;have hg:=hh.size;exact upB)).mono ?_;rintro x w3 ⟨rfl,⟨⟨B3,c0,c1,c2,c3,cz⟩,c4⟩⟩))
    go_ret;exact⟨by first|rfl|(simp;omega),by have hh:=B3.out;have hg:=hh.size;exact upB⟩)
theorem E9 (W:World) (g cap:Nat) (p:Nat->ByteArray) (t o:Bool) (ai b n e nu:Int) (h:IH W (Wq5 W g p) p t o ai b n e nu) (ht:t=true) (ho:o=true) (hv:((p 0).toList==[84,65,75,69])=false/\((p 0).toList==[71,73,86,69])=false/\((p 0).toList==[78,69,84])=true) (he:e=0) (hn:0<=nu):Calls prog 135 #[.slice (some ⟨g,0,none⟩) 5 cap] W fun x w'=>x=.returned (.bool true)/\Bl W w':=by
  obtain⟨⟨B0,c0,c1,c2,c3,cz⟩,c4⟩:=h.q;subst he;subst ht;subst ho;obtain⟨h0,h1,h2⟩:=hv
  all_goals (
    go_enter func135,ntmps135
    go_wp2_with (first|(go_at_call_of 183 (Value.string (p 1));refine(h.n1 _ (by have hh:=B0.out;have hg:=hh.size;exact upB)).mono ?_;rintro x w1 ⟨rfl,⟨⟨B1,c0,c1,c2,c3,cz⟩,c4⟩⟩)|(go_at_call_of 183 (Value.string (p 2));refine(h.n2 _ (by have hh:=B1.out;have hg:=hh.size;exact upB)).mono ?_;rintro x w2 ⟨rfl,⟨⟨B2,c0,c1,c2,c3,cz⟩,c4⟩⟩)|(go_at_call_of 181 (Value.string (p 3));refine(h.rd _ (by have hh:=B2.out;have hg:=hh.size;exact upB)).mono ?_;rintro x w3 ⟨rfl,⟨⟨B3,c0,c1,c2,c3,cz⟩,c4⟩⟩)|(go_at_call_of 185 (Value.string (p 4));refine(h.nm _ (by have hh:=B3.out;have hg:=hh.size;exact upB)).mono ?_;rintro x w4 ⟨rfl,⟨⟨B4,c0,c1,c2,c3,cz⟩,c4⟩⟩))
    go_ret;exact⟨by first|rfl|(simp;omega),by have hh:=B4.out;have hg:=hh.size;exact upB⟩)
theorem EV (W:World) (g cap:Nat) (p:Nat->ByteArray) (t o:Bool) (ai b n e nu:Int) (h:IH W (Wq5 W g p) p t o ai b n e nu) (ht:t=true) (ho:o=true) (hv:((p 0).toList==[84,65,75,69])=false/\((p 0).toList==[71,73,86,69])=false/\((p 0).toList==[78,69,84])=true) (he:e=0) (hn:¬0<=nu):Calls prog 135 #[.slice (some ⟨g,0,none⟩) 5 cap] W fun x w'=>x=.returned (.bool false)/\Bl W w':=by
  obtain⟨⟨B0,c0,c1,c2,c3,cz⟩,c4⟩:=h.q;subst he;subst ht;subst ho;obtain⟨h0,h1,h2⟩:=hv
  all_goals (
    go_enter func135,ntmps135
    go_wp2_with (first|(go_at_call_of 183 (Value.string (p 1));refine(h.n1 _ (by have hh:=B0.out;have hg:=hh.size;exact upB)).mono ?_;rintro x w1 ⟨rfl,⟨⟨B1,c0,c1,c2,c3,cz⟩,c4⟩⟩)|(go_at_call_of 183 (Value.string (p 2));refine(h.n2 _ (by have hh:=B1.out;have hg:=hh.size;exact upB)).mono ?_;rintro x w2 ⟨rfl,⟨⟨B2,c0,c1,c2,c3,cz⟩,c4⟩⟩)|(go_at_call_of 181 (Value.string (p 3));refine(h.rd _ (by have hh:=B2.out;have hg:=hh.size;exact upB)).mono ?_;rintro x w3 ⟨rfl,⟨⟨B3,c0,c1,c2,c3,cz⟩,c4⟩⟩)|(go_at_call_of 185 (Value.string (p 4));refine(h.nm _ (by have hh:=B3.out;have hg:=hh.size;exact upB)).mono ?_;rintro x w4 ⟨rfl,⟨⟨B4,c0,c1,c2,c3,cz⟩,c4⟩⟩))
    go_ret;exact⟨by first|rfl|(simp;omega),by have hh:=B4.out;have hg:=hh.size;exact upB⟩)
theorem DZ (W:World) (g cap:Nat) (p:Nat->ByteArray) (t o:Bool) (ai b n e nu:Int) (h:IH W (Wq5 W g p) p t o ai b n e nu) (ht:t=true) (ho:o=true) (hv:((p 0).toList==[84,65,75,69])=false/\((p 0).toList==[71,73,86,69])=false/\((p 0).toList==[78,69,84])=true) (he:(e==0)=false):Calls prog 135 #[.slice (some ⟨g,0,none⟩) 5 cap] W fun x w'=>x=.returned (.bool false)/\Bl W w':=by
  obtain⟨⟨B0,c0,c1,c2,c3,cz⟩,c4⟩:=h.q;subst ht;subst ho;obtain⟨h0,h1,h2⟩:=hv
  all_goals (
    go_enter func135,ntmps135
    go_wp2_with (first|(go_at_call_of 183 (Value.string (p 1));refine(h.n1 _ (by have hh:=B0.out;have hg:=hh.size;exact upB)).mono ?_;rintro x w1 ⟨rfl,⟨⟨B1,c0,c1,c2,c3,cz⟩,c4⟩⟩)|(go_at_call_of 183 (Value.string (p 2));refine(h.n2 _ (by have hh:=B1.out;have hg:=hh.size;exact upB)).mono ?_;rintro x w2 ⟨rfl,⟨⟨B2,c0,c1,c2,c3,cz⟩,c4⟩⟩)|(go_at_call_of 181 (Value.string (p 3));refine(h.rd _ (by have hh:=B2.out;have hg:=hh.size;exact upB)).mono ?_;rintro x w3 ⟨rfl,⟨⟨B3,c0,c1,c2,c3,cz⟩,c4⟩⟩))
    go_ret;exact⟨by first|rfl|(simp;omega),by have hh:=B3.out;have hg:=hh.size;exact upB⟩)
theorem Ez (W:World) (g cap:Nat) (p:Nat->ByteArray) (t o:Bool) (ai b n e nu:Int) (h:IH W (Wq5 W g p) p t o ai b n e nu) (ht:t=true) (ho:o=true) (hv:VbB (p 0)):Calls prog 135 #[.slice (some ⟨g,0,none⟩) 5 cap] W fun x w'=>x=.returned (.bool false)/\Bl W w':=by
  obtain⟨⟨B0,c0,c1,c2,c3,cz⟩,c4⟩:=h.q;subst ht;subst ho;rcases hv with⟨h0,h1,h2,h3⟩|⟨h0,h1,h2,h3,h4⟩|⟨h0,h1,h2,h3,h4,h5⟩|⟨h0,h1,h2,h3,h4,h5,h6⟩|⟨h0,h1,h2,h3,h4,h5,h6,h7⟩
  all_goals (
    go_enter func135,ntmps135
    go_wp2_with (first|(go_at_call_of 183 (Value.string (p 1));refine(h.n1 _ (by have hh:=B0.out;have hg:=hh.size;exact upB)).mono ?_;rintro x w1 ⟨rfl,⟨⟨B1,c0,c1,c2,c3,cz⟩,c4⟩⟩)|(go_at_call_of 183 (Value.string (p 2));refine(h.n2 _ (by have hh:=B1.out;have hg:=hh.size;exact upB)).mono ?_;rintro x w2 ⟨rfl,⟨⟨B2,c0,c1,c2,c3,cz⟩,c4⟩⟩)|(go_at_call_of 181 (Value.string (p 3));refine(h.rd _ (by have hh:=B2.out;have hg:=hh.size;exact upB)).mono ?_;rintro x w3 ⟨rfl,⟨⟨B3,c0,c1,c2,c3,cz⟩,c4⟩⟩))
    go_ret;exact⟨by first|rfl|(simp;omega),by have hh:=B3.out;have hg:=hh.size;exact upB⟩)
theorem Ei (W:World) (g cap:Nat) (p:Nat->ByteArray) (t o:Bool) (ai b n e nu:Int) (h:IH W (Wq5 W g p) p t o ai b n e nu) (ht:t=true) (ho:o=true) (hv:((p 0).toList==[84,65,75,69])=false/\((p 0).toList==[71,73,86,69])=false/\((p 0).toList==[78,69,84])=false/\((p 0).toList==[80,79,79,76])=false/\((p 0).toList==[68,82,79,80])=false/\((p 0).toList==[66,76,79,67,75])=false/\((p 0).toList==[70,82,69,69])=false/\((p 0).toList==[76,69,65,83,69])=false):Calls prog 135 #[.slice (some ⟨g,0,none⟩) 5 cap] W fun x w'=>x=.returned (.bool false)/\Bl W w':=by
  obtain⟨⟨B0,c0,c1,c2,c3,cz⟩,c4⟩:=h.q;subst ht;subst ho;obtain⟨h0,h1,h2,h3,h4,h5,h6,h7⟩:=hv
  all_goals (
    go_enter func135,ntmps135
    go_wp2_with (first|(go_at_call_of 183 (Value.string (p 1));refine(h.n1 _ (by have hh:=B0.out;have hg:=hh.size;exact upB)).mono ?_;rintro x w1 ⟨rfl,⟨⟨B1,c0,c1,c2,c3,cz⟩,c4⟩⟩)|(go_at_call_of 183 (Value.string (p 2));refine(h.n2 _ (by have hh:=B1.out;have hg:=hh.size;exact upB)).mono ?_;rintro x w2 ⟨rfl,⟨⟨B2,c0,c1,c2,c3,cz⟩,c4⟩⟩))
    go_ret;exact⟨by first|rfl|(simp;omega),by have hh:=B2.out;have hg:=hh.size;exact upB⟩)
theorem Fk (W:World) (g cap m:Nat) (h4:((m:Int) != 4)=true) (h5:((m:Int) != 5)=true) :
    Calls prog 135 #[.slice (some ⟨g,0,none⟩) m cap] W fun e w'=>e=.returned (.bool false)/\Bl W w':=by
  go_enter func135,ntmps135
  go_wp2;go_ret;exact⟨rfl,upB⟩
end Go.Proofs.YtjnhhnbgjjkkjaaGreatDoor
namespace Go.Proofs.YtjnhhnbgjjkkjaaGreatDoor
open Go.RowKit
def dD (x:Tk):List Value:=[.string x.t,.string x.l,.string x.r]
def TR (W:World) (v:Value) (b:Nat) (l:List Tk):Prop :=
  (v=.slice none 0 0/\l=[])\/∃ off cap cur,v=.slice (some ⟨b,off,none⟩) l.length cap/\Blk W b cur 216/\l.length<=cap/\cap<=maxLen/\off+cap*3<=cur.size/\∀ j u,(l.flatMap dD)[j]?=some u->cur[off+j]?=some u
theorem iI (l:List Tk):(l.flatMap dD).length=l.length*3:=by
  induction l with
  | nil=>rfl
  | cons x r ih=>rw[List.flatMap_cons,List.length_append,ih,List.length_cons];simp[dD];omega
theorem TR.same {W W':World} {v:Value} {b:Nat} {l:List Tk} (h:TR W v b l) (hb:∀ cur,Blk W b cur 216->W'.heap[b]?=W.heap[b]?):TR W' v b l:=by
  rcases h with h|⟨off,cap,cur,h1,h2,h3⟩
  . exact .inl h
  . exact .inr ⟨off,cap,cur,h1,(hb cur h2).trans h2,h3⟩
theorem TR.below {W W':World} {v:Value} {b:Nat} {l:List Tk} (h:TR W v b l) (hb:Bl W W'):TR W' v b l:=h.same fun cur q=>hb.block b q.lt
theorem sH (l:List Tk) (k c:Nat) (hk:k<l.length) (hc:c<3):(l.flatMap dD)[k*3+c]?=(dD (l.getD k tk0))[c]?:=by
  induction l generalizing k with
  | nil=>simp at hk
  | cons x r ih =>
    rw[List.flatMap_cons]
    cases k with
    | zero =>
      rw[List.getElem?_append_left (by simp[dD];omega)]
      simp
    | succ k =>
      rw[List.getElem?_append_right (by simp[dD];omega)]
      have:=ih k (by simpa using hk)
      simp only[List.getD_cons_succ]
      rw[<- this];congr 1
      simp[dD];omega
theorem TR.at {W:World} {v:Value} {b:Nat} {l:List Tk} (h:TR W v b l) {k:Nat} (hk:k<l.length):∃ off cap,v=.slice (some ⟨b,off,none⟩) l.length cap/\b<W.heap.size/\W.cell? ⟨b,off+k*3,none⟩=some (.string (l.getD k tk0).t)/\W.cell? ⟨b,off+k*3+1,none⟩=some (.string (l.getD k tk0).l)/\W.cell? ⟨b,off+k*3+2,none⟩=some (.string (l.getD k tk0).r):=by
  rcases h with⟨_,rfl⟩|⟨off,cap,cur,h1,h2,h3,h4,h5,h6⟩
  . simp at hk
  . refine⟨off,cap,h1,h2.lt,?_,?_,?_⟩
    . rw[h2.cell];exact h6 (k*3+0) _ (sH l k 0 hk (by decide))
    . rw[h2.cell,Nat.add_assoc];exact h6 (k*3+1) _ (sH l k 1 hk (by decide))
    . rw[h2.cell,Nat.add_assoc];exact h6 (k*3+2) _ (sH l k 2 hk (by decide))
theorem TR.cap {W:World} {b off n cap:Nat} {l:List Tk} (h:TR W (.slice (some ⟨b,off,none⟩) n cap) b l):n<=cap:=by
  rcases h with⟨h,_⟩|⟨off',cap',cur,h1,h2,h3,_⟩
  . cases h
  . obtain⟨_,rfl,rfl⟩:off=off'/\n=l.length/\cap=cap':=by simpa using h1
    exact h3
theorem TR.tail {W:World} {b off n cap:Nat} {x:Tk} {l:List Tk} (h:TR W (.slice (some ⟨b,off,none⟩) n cap) b (x::l)):n=l.length+1/\n<=cap/\TR W (.slice (some ⟨b,off+3,none⟩) l.length (cap-1)) b l:=by
  rcases h with⟨h,_⟩|⟨off',cap',cur,h1,h2,h3,h4,h5,h6⟩
  . cases h
  . obtain⟨rfl,rfl,rfl⟩:off=off'/\n=(x::l).length/\cap=cap':=by simpa using h1
    rw[List.length_cons] at h3;refine⟨rfl,h3,.inr ⟨off+3,cap-1,cur,rfl,h2,by omega,by omega,by omega,fun j u hj=>?_⟩⟩
    have:=h6 (3+j) u (by rw[List.flatMap_cons,List.getElem?_append_right (by simp[dD])];simpa[dD] using hj)
    rw[<- this];congr 1
    omega
theorem GE (cur:Array Value) (o:Nat) (x y z:Value) (h:o+3<=cur.size) (j:Nat):(((cur.setIfInBounds o x).setIfInBounds (o+1) y).setIfInBounds (o+1+1) z)[j]?=if j=o then some x else if j=o+1 then some y else if j=o+2 then some z else cur[j]?:=by
  simp only[Array.getElem?_setIfInBounds,Array.size_setIfInBounds]
  by_cases h1:j=o
  . subst h1;rw[if_neg om,if_neg om,if_pos rfl,if_pos om,if_pos rfl]
  . by_cases h2:j=o+1
    . subst h2;rw[if_neg om,if_pos rfl,if_pos om,if_neg om,if_pos rfl]
    . by_cases h3:j=o+2
      . subst h3;rw[if_pos rfl,if_pos om,if_neg om,if_neg om,if_pos rfl]
      . rw[if_neg om,if_neg om,if_neg om,if_neg h1,if_neg h2,if_neg h3]
theorem nk (l:List Tk) (x:Tk):(l++[x]).flatMap dD=l.flatMap dD++dD x:=by simp
theorem TR.owned {W:World} {B:Nat} {v:Value} {l:List Tk} (h:W.ownsRow B 216 3 v l.length (l.flatMap dD)) (hn:0<l.length):∃ b cap,v=.slice (some ⟨b,0,none⟩) l.length cap/\B<=b/\TR W v b l:=by
  rcases h.2 with⟨_,q⟩|⟨g,cap,cur,h1,h2,h3,h4,h5,h6,h7⟩
  . omega
  . refine⟨g,cap,h1,h2,.inr ⟨0,cap,cur,h1,h3,h4,h5,by omega,fun j u hj=>?_⟩⟩
    have hlt:j<(l.flatMap dD).length:=(List.getElem?_eq_some_iff.1 hj).1
    rw[<- h7,List.getElem?_take] at hj;rw[iI] at hlt;rw[if_pos hlt] at hj;rw[Nat.zero_add,<- Array.getElem?_toList];exact hj
section
variable {P:Program}
theorem kJ (w:World) (t ty:TypeId) (i:TypeInfo) (z:Value) (bytes:Nat) (ht:P.underlying t=some (.slice 216)) (hi:P.info? 216=some i) (hz:i.zero=some z) (hsize:i.size=3) (hby:i.bytes=bytes) (hzs:z.cells.size=3)
    (v:Value) (b:Nat) (l:List Tk) (h:TR w v b l) (ad:Addr) (c:Nat) (x:Tk) (hnews:∀ j u,(dD x)[j]?=some u->w.cell? (ad.add j)=some u) (h63:l.length+1<=maxLen) (hbytes:(l.length+1)*bytes<=140737488355328) :
    ∃ b' off cap w',(Builtin.append_ #[t,t] ty #[v,.slice (some ad) 1 c]).run P w=.ok (.slice (some ⟨b',off,none⟩) (l.length+1) cap) w'/\TR w' (.slice (some ⟨b',off,none⟩) (l.length+1) cap) b' (l++[x])/\(b'=b\/w.heap.size<=b')/\Chg (fun q=>q=b/\v≠.slice none 0 0) w w':=by
  have hl1:(l++[x]).length=l.length+1:=by simp
  rcases h with⟨rfl,rfl⟩|⟨off,cap,cur,rfl,h2,h3,h4,h5,h6⟩
  . obtain⟨v',w',hrun,r1,r2,_⟩:=run_append_own (P:=P) w w.heap.size t ty 216 i z 3 bytes ht hi hz hsize hby hzs (by decide) (.slice none 0 0) 0 [] (World.ownsRow_nil w _ _ 3) ad 1 c (dD x) rfl hnews (by intro u hu;simp[dD] at hu;rcases hu with rfl|rfl|rfl<;>rfl) (by simpa using h63) (by simpa using hbytes) (Nat.le_refl _)
    obtain⟨b',cap',rfl,q1,q2⟩:=TR.owned (l:=[x]) (by simpa using r1) (by simp)
    exact⟨b',0,cap',w',hrun,q2,.inr q1,Chg.grown r2 (by simp[Value.ownBlock])⟩
  . by_cases hr:l.length+1<=cap
    . have hrun:=run_append_room_cells (P:=P) w t ty 216 i ht hi b off l.length cap ad 1 c (dD x) (by rw[hsize];rfl) hnews (by intro u hu;simp[dD] at hu;rcases hu with rfl|rfl|rfl<;>rfl) hr
        (fun j hj=>by rw[h2.cell,Array.getElem?_eq_getElem (by rw[hsize];simp[dD] at hj;omega)];rfl)
        (fun j hj=>h2.frozen _)
      refine⟨b,off,cap,_,hrun,.inr ⟨off,cap,((cur.setIfInBounds (off+l.length*3) (.string x.t)).setIfInBounds (off+l.length*3+1) (.string x.l)).setIfInBounds (off+l.length*3+1+1) (.string x.r),by rw[hl1],?_,by rw[hl1];exact hr,h4,by simpa using h5,fun j u hj=>?_⟩,.inl rfl,?_⟩
      . rw[hsize];exact((h2.set _ _).set _ _).set _ _
      . rw[nk] at hj;rw[GE cur _ _ _ _ om];by_cases q:j<(l.flatMap dD).length
        . rw[List.getElem?_append_left q] at hj;rw[iI] at q;rw[if_neg om,if_neg om,if_neg om];exact h6 j u hj
        . rw[List.getElem?_append_right om] at hj;rw[iI] at hj q;have hlt:j-l.length*3<(dD x).length:=(List.getElem?_eq_some_iff.1 hj).1
          have hlt3:j-l.length*3<3:=hlt
          rcases (show j=l.length*3\/j=l.length*3+1\/j=l.length*3+2 by omega) with rfl|rfl|rfl
          . rw[if_pos rfl];simpa[dD] using hj
          . rw[if_neg om,if_pos om];simpa[dD] using hj
          . rw[if_neg om,if_neg om,if_pos om];simpa[dD] using hj
      . exact(Chg.refl _ w).sets b _ _ (.inl ⟨rfl,by simp⟩)
    . obtain⟨v',w',hrun,r1,r2⟩:=run_append_arg_grows (P:=P) w t ty 216 i z 3 bytes ht hi hz hsize hby hzs (by decide) ⟨b,off,none⟩ l.length cap (l.flatMap dD) (iI l)
        (fun j u hu=>by rw[Addr.add_lit,h2.cell];exact h6 j u hu) ad 1 c (dD x) rfl hnews om h63 hbytes
      obtain⟨b',cap',rfl,q1,q2⟩:=TR.owned (l:=l++[x]) (by rw[nk,hl1];exact r1) (by simp)
      rw[hl1] at hrun q2;exact⟨b',0,cap',w',hrun,q2,.inr q1,Chg.grown r2 (by simp)⟩
theorem l8 (w:World) {o:Oper} {a:Act} {K:Act->World->Prop} {Q:Exit->Act->World->Prop} (s x:Operand) (t:TypeId)
    (ho:o.op=.call { callee:=.builtin .append,args:=#[s,x],argTypes:=#[t,t] })
    (i:TypeInfo) (z:Value) (bytes:Nat) (ht:P.underlying t=some (.slice 216)) (hi:P.info? 216=some i) (hz:i.zero=some z) (hsize:i.size=3) (hby:i.bytes=bytes) (hzs:z.cells.size=3)
    (v:Value) (b:Nat) (l:List Tk) (hs:a.eval s=v) (h:TR w v b l) (ad:Addr) (c:Nat) (y:Tk) (hx:a.eval x=.slice (some ad) 1 c) (hnews:∀ j u,(dD y)[j]?=some u->w.cell? (ad.add j)=some u) (h63:l.length+1<=maxLen) (hbytes:(l.length+1)*bytes<=140737488355328)
    (hk:∀ b' off cap w',TR w' (.slice (some ⟨b',off,none⟩) (l.length+1) cap) b' (l++[y])->(b'=b\/w.heap.size<=b')->Chg (fun q=>q=b/\v≠.slice none 0 0) w w'->K (a.put o.dst (.slice (some ⟨b',off,none⟩) (l.length+1) cap)) w'):o.wp P a w K Q:=by
  obtain⟨b',off,cap,w',hr,h2,h3,h4⟩:=kJ (P:=P) w t o.type i z bytes ht hi hz hsize hby hzs v b l h ad c y hnews h63 hbytes
  unfold Oper.wp execOp;simp only[ho,resolve,invoke,builtin,Sem.run_bind,Sem.run_pure,Result.andThen_ok,List.map_toArray,List.map_cons,List.map_nil,hs,hx,hr]
  exact hk b' off cap w' h2 h3 h4
theorem gc (w:World) {ops:Array Oper} {o:Oper} {a:Act} {K:Act->World->Prop} {Q:Exit->Act->World->Prop} {E:Prop} (hgd:o.guard=none) (s x:Operand) (t:TypeId)
    (ho:o.op=.call { callee:=.builtin .append,args:=#[s,x],argTypes:=#[t,t] })
    (i:TypeInfo) (z:Value) (bytes:Nat) (ht:P.underlying t=some (.slice 216)) (hi:P.info? 216=some i) (hz:i.zero=some z) (hsize:i.size=3) (hby:i.bytes=bytes) (hzs:z.cells.size=3)
    (v:Value) (b:Nat) (l:List Tk) (hs:a.eval s=v) (h:TR w v b l) (ad:Addr) (c:Nat) (y:Tk) (hx:a.eval x=.slice (some ad) 1 c) (hnews:∀ j u,(dD y)[j]?=some u->w.cell? (ad.add j)=some u) (h63:l.length+1<=maxLen) (hbytes:(l.length+1)*bytes<=140737488355328)
    (hk:∀ b' off cap w',TR w' (.slice (some ⟨b',off,none⟩) (l.length+1) cap) b' (l++[y])->(b'=b\/w.heap.size<=b')->Chg (fun q=>q=b/\v≠.slice none 0 0) w w'->K (a.put o.dst (.slice (some ⟨b',off,none⟩) (l.length+1) cap)) w') :
    if Region.wanted o (yielded ops a.tmps)=true then Oper.wp P o a w K Q else E:=by
  have hw:Region.wanted o (yielded ops a.tmps)=true:=by simp[Region.wanted,hgd]
  rw[if_pos hw];exact l8 w s x t ho i z bytes ht hi hz hsize hby hzs v b l hs h ad c y hx hnews h63 hbytes hk
end
end Go.Proofs.YtjnhhnbgjjkkjaaGreatDoor
