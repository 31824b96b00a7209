import Derived.Test.YtjnhhnbgjjkkjaaGreatDoorRePBE
import Derived.Test.YtjnhhnbgjjkkjaaGreatDoorRePAK
set_option linter.all false
set_option maxRecDepth 100000
set_option maxHeartbeats 2000000
namespace Go.Proofs.YtjnhhnbgjjkkjaaGreatDoor
open Go.ChangeShapes Go.WideShapes Go.ChangeAt Go.RowKit Go.Proofs.Tryz
abbrev IsB(B b:Nat)(l:Lu)(w:World):Prop:=Lib.IsBuilder 139 5 B b (Lib.byteCells l) w
theorem gR(B b:Nat)(l:Lu)(s:Bz)(w:World)(h:IsB B b l w)(hl:l.length+s.size<=1000000)(hB:B<=w.heap.size):Calls prog 62 #[Pq b,.string s] w fun e w'=>e=.returned (.tuple #[I6 s.size,.nilIface])/\IsB B b (l++s.data.toList) w'/\Below B w w':=by
 refine(Any.Builder_WriteString { Tryz.lays156 with } Tryz.Builder_Extra_156 B b (Lib.byteCells l) s w h (by rw[Lib.byteCells_length];omega) hB).mono ?_
 rintro e w' ⟨rfl,h1,h2⟩
 refine⟨rfl,?_,h2⟩
 have e1:Lib.byteCells (l++s.data.toList)=Lib.byteCells l++Lib.strCells s:=by rw[Lib.strCells_eq];simp[Lib.byteCells]
 show Lib.IsBuilder _ _ B b (Lib.byteCells (l++s.data.toList)) w'
 rw[e1];exact .inr h1
theorem pC(B b:Nat)(l:Lu)(w:World)(h:IsB B b l w)(hB:B<=w.heap.size):Calls prog 63 #[Pq b] w fun e w'=>e=.returned (.string ⟨l.toArray⟩)/\Below B w w':=Tryz.Builder_String_any B b l w h hB
theorem Bv(k:Nat)(h0:¬k=0)(hk:k<14)(b:Option Addr)(n c:Nat)(t0 t1:Bz)(h1:t0.size<=10)(h2:t1.size<=10)(w:World)(hz:1<w.heap.size)(c0:w.cell? (At 1 1)=some (.string t0))(c1:w.cell? (At 1 k)=some (.string t1)):Cr prog 40 #[.agg #[I6 k,.slice b n c]] w (.string (t0++⟨#[32]⟩++t1)):=by
 have HI:Hid (∀ W,Cr prog 61 #[.agg #[I6 k,.slice b n c]] W (.bool (decide (k=0)))):=fun W=>gH k b n c W
 rw[decide_eq_false h0] at HI;have hk1:(k:Int)<14:=by omega
 have hk2:(0:Int)<=(k:Int):=by omega
 have hs1:¬9223372036854775807<t0.size+1:=by omega
 have hs2:¬9223372036854775807<t0.size+1+t1.size:=by omega
 have HC0:Hid (w.cell? (At 1 1)=some (.string t0)):=c0
 have HC1:Hid (w.cell? (At 1 k)=some (.string t1)):=c1
 clear c0 c1 h0;go_enter func40,ntmps40
 go_wp2_with (go_at_call 61;refine Mo (HI.o _) fun w1 hq1=>?_;have hb1:Hid (Bl w w1):=Below.trans (B:=w.heap.size) (a:=w) upB (hq1.mono sM);have B1:Hid (Blk w1 w.heap.size #[I6 k,.slice b n c] 98):=(Blk.new w #[I6 k,.slice b n c] 98).below hq1;clear hq1;have d0:w1.cell? (At 1 1)=some (.string t0):=(hb1.o.cell (p:=At 1 1) hz).trans HC0.o;have d1:w1.cell? (At 1 k)=some (.string t1):=(hb1.o.cell (p:=At 1 k) hz).trans HC1.o;have d2:w1.cell? (Nw w 0)=some (I6 k):=B1.o.cell 0)
 go_region_held3 (fun w'=>w'.cell? (At 1 1)=some (.string t0)/\w'.cell? (At 1 k)=some (.string t1)/\w'.cell? (Nw w 0)=some (I6 k)) (go_keep) (fail)
 all_goals (
  go_wp2;go_ret;have hq:=hb1.o;have hz1:=hq.size;exact⟨rfl,upB⟩)
def fG(L:List Bz)(k:Nat):Lu:=[79,75]++(L.take k).flatMap (fun t=>32::t.data.toList)
theorem mB(L:List Bz)(k:Nat)(hk:k<L.length):fG L (k+1)=fG L k++[32]++(L.getD k ⟨#[]⟩).data.toList:=by
 unfold fG;rw[List.take_succ_eq_append_getElem hk,List.flatMap_append,List.getD_eq_getElem?_getD,List.getElem?_eq_getElem hk];simp
theorem xR(L:List Bz)(hL:∀ t,t∈L->t.size<=100)(k:Nat):(fG L k).length<=2+101*k:=by
 induction k with
 | zero=>simp[fG]
 | succ k ih =>
  by_cases hk:k<L.length
  ·rw[mB L k hk];have h1:(L.getD k ⟨#[]⟩).data.toList.length<=100:=by
    have:=hL (L.getD k ⟨#[]⟩) (by rw[List.getD_eq_getElem?_getD,List.getElem?_eq_getElem hk];exact List.getElem_mem hk)
    have e:=Lib.size_eq (L.getD k ⟨#[]⟩)
    omega
   simp only[List.length_append,List.length_cons,List.length_nil]
   omega
  ·have e:fG L (k+1)=fG L k:=by unfold fG;rw[List.take_of_length_le om,List.take_of_length_le om]
   rw[e];omega
theorem DM(L:List Bz)(hn:L.length<=1000)(hL:∀ t,t∈L->t.size<=100)(v:Value)(w:World)(hz:1<w.heap.size)(c0:w.cell? (At 1 0)=some (.string ⟨#[79,75]⟩))(hr:Rd 1 bV ⟨#[]⟩ w v L):Cr prog 40 #[.agg #[I6 0,v]] w (.string ⟨(fG L L.length).toArray⟩):=by
 obtain⟨b,c,rfl,hc1,hc2,hc3⟩:=hr;have HI:Hid (∀ W,Cr prog 61 #[.agg #[I6 0,.slice b L.length c]] W (.bool true)):=fun W=>gH 0 b L.length c W
 have HC0:Hid (w.cell? (At 1 0)=some (.string ⟨#[79,75]⟩)):=c0
 have HC3:Hid (L≠[]->∃ g,b=some (At g 0)/\g<w.heap.size/\∀ j,j<L.length->∀ i u,(bV (L.getD j ⟨#[]⟩))[i]?=some u->w.cell? (At g (j*1+i))=some u):=hc3
 have HLL:Hid (∀ t,t∈L->t.size<=100):=hL
 obtain⟨n,hnn⟩:∃ n,n=L.length:=⟨_,rfl⟩
 have HNN:Hid (n=L.length):=hnn
 rw[<- hnn] at HI hc1 hn ⊢;clear c0 hc3 hL hnn;go_enter func40,ntmps40
 go_wp2_with (first|(go_at_call 61;refine Mo (HI.o _) fun w1 hq1=>?_;have hb1:Hid (Bl w w1):=Below.trans (B:=w.heap.size) (a:=w) upB (hq1.mono sM);have B1:Hid (Blk w1 w.heap.size #[I6 0,.slice b n c] 98):=(Blk.new w #[I6 0,.slice b n c] 98).below hq1;clear hq1;have d0:w1.cell? (At 1 0)=some (.string ⟨#[79,75]⟩):=(hb1.o.cell (p:=At 1 0) hz).trans HC0.o;have z1:1<w1.heap.size:=Nat.lt_of_lt_of_le hz hb1.o.size)|(go_at_call 62;refine(gR w1.heap.size w1.heap.size [] ⟨#[79,75]⟩ _ (Lib.fresh_isBuilder 139 5 w1) dE sM).mono ?_;rintro e w2 ⟨rfl,ib2,hq2⟩;replace ib2:Hid (IsB w1.heap.size w1.heap.size (fG L 0) w2):=(by have e:fG L 0=[]++(⟨#[79,75]⟩:Bz).data.toList:=(by simp[fG]);rw[e];exact ib2);have hb2:Hid (Bl w1 w2):=Below.trans (B:=w1.heap.size) (a:=w1) upB hq2;clear hq2;have d1:w2.cell? (Nw w 1)=some (.slice b n c):=(hb2.o.cell (p:=Nw w 1) B1.o.lt).trans (B1.o.cell 1)))
 go_loopw [23] (fun i wr=>∃ k:Nat,k<=n/\i=I6 k/\Hid (IsB w1.heap.size w1.heap.size (fG L k) wr/\Bl w1 wr)) (fun i _=>(n-intOf i).toNat)
 case atStart=>exact⟨0,by omega,rfl,ib2.o,hb2.o⟩
 case round =>
  obtain⟨k,hkn,rfl,H⟩:=hrel;by_cases hlt:k<n
  ·have hk:k<L.length:=by rw[<- HNN.o];exact hlt
   obtain⟨g,rfl,hg,hgc⟩:=HC3.o (by intro e;rw[e] at hk;simp at hk)
   obtain⟨t,ht⟩:∃ t,t=L.getD k ⟨#[]⟩:=⟨_,rfl⟩
   have hld:wr.cell? (At g k)=some (.string t):=by
    have h1:=hgc k hk 0 (.string t) (by rw[ht];rfl)
    rw[Nat.mul_one,Nat.add_zero] at h1;exact(H.o.2.cell (p:=At g k) (Nat.lt_of_lt_of_le hg hb1.o.size)).trans ((hb1.o.cell (p:=At g k) hg).trans h1)
   have hts:Hid (t.size<=100):=by rw[ht];exact HLL.o _ (by rw[List.getD_eq_getElem?_getD,List.getElem?_eq_getElem hk];exact List.getElem_mem hk)
   have HA:Hid (fG L (k+1)=fG L k++[32]++t.data.toList):=by rw[ht];exact mB L k hk
   have HAL:Hid ((fG L k).length<=2+101*k):=xR L HLL.o k
   have hlt2:(k:Int)<(n:Int):=by omega
   have hk0:(0:Int)<=(k:Int):=by omega
   clear hgc ht hk;go_wp2_with (go_at_call 62;first|(refine(gR w1.heap.size w1.heap.size _ t _ ib3.o.1 (by have:=HAL.o;have:=hts.o;simp only[List.length_append,List.length_cons,List.length_nil];omega) ib3.o.2.size).mono ?_;rintro e w4 ⟨rfl,ib4,hq4⟩;replace ib4:Hid (IsB w1.heap.size w1.heap.size (fG L (k+1)) w4/\Bl w1 w4):=(by rw[HA.o];exact⟨ib4,ib3.o.2.trans hq4⟩);clear hq4)|(refine(gR w1.heap.size w1.heap.size _ ⟨#[32]⟩ _ H.o.1 (by have:=HAL.o;show _+1<=_;omega) H.o.2.size).mono ?_;rintro e w3 ⟨rfl,ib3,hq3⟩;replace ib3:Hid (IsB w1.heap.size w1.heap.size (fG L k++[32]) w3/\Bl w1 w3):=⟨ib3,H.o.2.trans hq3⟩;clear hq3))
   go_roundw
   case rel=>exact⟨k+1,by omega,by simp,ib4.o⟩
   case measure=>simp[intOf];omega
  ·obtain rfl:k=n:=by omega
   have hlt2:¬(k:Int)<(k:Int):=by omega
   go_wp2_with (go_at_call 63;refine Mo (pC w1.heap.size w1.heap.size _ _ (by first|exact H.o.1|exact Or.elim H.o.1 (fun q=>.inl q) (fun q=>.inr q)) H.o.2.size) fun w5 hq5=>?_;have hb5:Hid (Bl w1 w5):=H.o.2.trans hq5;clear hq5)
   go_ret;exact⟨rfl,hb1.o.trans (hb5.o.mono hb1.o.size)⟩
theorem rG(k:Nat)(h:k<14):tU[k]?=some (.string ⟨(gm.getD k []).toArray⟩)/\(⟨(gm.getD k []).toArray⟩:Bz).size<=10:=by
 have hc:k=0\/k=1\/k=2\/k=3\/k=4\/k=5\/k=6\/k=7\/k=8\/k=9\/k=10\/k=11\/k=12\/k=13:=by omega
 rcases hc with rfl|rfl|rfl|rfl|rfl|rfl|rfl|rfl|rfl|rfl|rfl|rfl|rfl|rfl<;>exact⟨rfl,by decide⟩
theorem jC(a:An)(ha:a.e<14)(hn:a.s.length<=1000)(hL:∀ t,t∈a.s->t.size<=100)(v:Value)(w:World)(E:di w)(hr:Rd 1 bV ⟨#[]⟩ w v a.s):Cr prog 40 #[.agg #[I6 a.e,v]] w (.string ⟨(aG a).toArray⟩):=by
 by_cases h0:a.e=0
 ·have h:=DM a.s hn hL v w E.lw (E.wd 0 _ rfl) hr
  have e:aG a=fG a.s a.s.length:=by unfold aG fG;rw[if_pos h0,List.take_length]
  rw[e,h0];exact h
 ·obtain⟨b,c,rfl,_⟩:=hr;have h1:=rG 1 om;have hk:=rG a.e ha;have h:=Bv a.e h0 ha b a.s.length c _ _ h1.2 hk.2 w E.lw (E.wd 1 _ h1.1) (E.wd a.e _ hk.1)
  have e:(⟨(aG a).toArray⟩:Bz)=⟨(gm.getD 1 []).toArray⟩++⟨#[32]⟩++⟨(gm.getD a.e []).toArray⟩:=by
   unfold aG;rw[if_neg h0,show (⟨#[32]⟩:Bz)=bs [32] from rfl,show (⟨(gm.getD 1 []).toArray⟩:Bz)=bs [69,82,82] from rfl];show bs _=bs _++bs _++bs _
   rw[dZ,dZ];rfl
  rw[e];exact h
end Go.Proofs.YtjnhhnbgjjkkjaaGreatDoor
