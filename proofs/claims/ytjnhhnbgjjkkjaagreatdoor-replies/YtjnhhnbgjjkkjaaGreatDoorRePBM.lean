import Derived.Test.YtjnhhnbgjjkkjaaGreatDoorRePAL
import Derived.Test.YtjnhhnbgjjkkjaaGreatDoorRePBE
import Derived.Test.YtjnhhnbgjjkkjaaGreatDoorRePBL
set_option linter.all false
set_option maxRecDepth 100000
set_option maxHeartbeats 2000000
namespace Go.Proofs.YtjnhhnbgjjkkjaaGreatDoor
open Go.ChangeShapes Go.WideShapes Go.ChangeAt Go.RowKit Go.Proofs.Tryz
theorem BE(a n:Int)(ha:ad a)(hr:rt a n=true):ad (dh a n)/\dh a n<=dr a n/\dr a n<4294967296:=by
 obtain⟨h0,h1,h2⟩:=aj.1 hr;have hp:=aD n;have he:=gC a n h0 h1 ha.1 ha.2 h2;have h3:=ha.1;have h30:n<=30->4<=sz n:=fun hn=>by
  have a1:=db n om;have a2:=db (n+1) om
  have a3:=aD (n+1+1)
  omega
 unfold dh dr lst ad;split
 ·rename_i hn;have:=h30 hn
  omega
 ·omega
theorem od{α:Type}(l:List α)(d:α)(k:Nat)(hk:k<l.length):l.drop k=l.getD k d::l.drop (k+1):=by
 rw[List.drop_eq_getElem_cons hk,List.getD_eq_getElem?_getD,List.getElem?_eq_getElem hk];rfl
theorem fD(w:World)(x:Nat)(ls:List Ls)(q:Hd)(vl:Value)(hx:x<w.heap.size)(cx:w.cell? (At x 2)=some vl)(hr:Rd 2 br ls0 w vl ls)(hn:ls.length<=1000)(ha:∀ h,h∈ls->ad h.a)(hq:ad q.a)(hqr:rt q.a q.n=true):Cr prog 119 #[Pq x,vH q] w (.tuple #[U3 ((du ls q.a q.n).getD 0),.bool (du ls q.a q.n).isSome]):=by
 have HUS:Hid (∀ Wc:World,Cr prog 124 #[vH q] Wc (.tuple #[U3 (dh q.a q.n),U3 (dr q.a q.n)])):=fun Wc=>fe q Wc hq hqr
 have HLO:Hid (∀ Wc,Bl w Wc->Calls prog 117 #[Pq x,vH q] Wc fun e w'=>∃ v,e=.returned v/\Rd 2 br ls0 w' v (aw ls q.a q.n)/\Bl Wc w'):=fun Wc hW=>by
  refine(eK x ls q vl Wc (Nat.lt_of_lt_of_le hx hW.size) ((hW.cell (p:=At x 2) hx).trans cx) (hr.below hW) hn ha hq).mono ?_
  rintro e w' ⟨v,rfl,o1,o2⟩
  exact⟨v,rfl,Rd.of_owns (k:=2) (enc:=br) (fun _=>rfl) ls0 o1,o2⟩
 obtain⟨u0,u1,u2⟩:=BE q.a q.n hq hqr;have hll:(aw ls q.a q.n).length<=1000:=Nat.le_trans (List.length_filter_le _ _) hn
 unfold du;generalize dh q.a q.n=ua at HUS u0 u1 ⊢
 generalize dr q.a q.n=uz at HUS u1 u2 ⊢
 generalize aw ls q.a q.n=L at HLO hll ⊢
 generalize hres:bP uz ua L=r
 have HR:Hid (bP uz ua L=r):=hres
 have u3:=u0.1;clear hres hq hqr ha hr cx hn u0;obtain⟨qa,qn,qo⟩:=q;unfold vH at HUS HLO;unfold vH;dsimp only at *
 go_enter func119,ntmps119
 go_wp2_with (first|(go_at_call 124;refine Mo (HUS.o _) fun w1 hb1=>?_;have HB1:Hid (Bl w w1):=bup upB hb1;have k0:w1.cell? (At w.heap.size 0)=some (U3 qa):=(by rw[hb1.cell (p:=At w.heap.size 0) sM];simp[go_sem]);have k1:w1.cell? (At w.heap.size 1)=some (I6 qn):=(by rw[hb1.cell (p:=At w.heap.size 1) sM];simp[go_sem]);have k2:w1.cell? (At w.heap.size 2)=some (.string qo):=(by rw[hb1.cell (p:=At w.heap.size 2) sM];simp[go_sem]);clear hb1)|(go_at_call 117;refine(HLO.o _ HB1.o).mono ?_;rintro e w2 ⟨v2,rfl,hr2,hb2⟩;obtain⟨b2,c2,rfl,h21,h22,h23⟩:=hr2;have HB2:Hid (Bl w w2):=bup HB1.o hb2;have HR2:Hid (Rd 2 br ls0 w2 (.slice b2 L.length c2) L):=⟨b2,c2,rfl,h21,h22,h23⟩;clear hb2 h21 h22 h23 k0 k1 k2))
 go_loopg [6,9,19] L.length (fun gg s6 _ s19 wr=>∃ (k:Nat) (y:Int),k<=L.length/\L.length-k<=gg/\s19=I6 k/\s6=U3 y/\0<=y/\y<=uz/\Hid (Bl w2 wr)/\Hid (bP uz y (L.drop k)=r))
 case atStart=>exact⟨0,ua,Nat.zero_le _,by omega,rfl,rfl,u3,u1,Below.refl _ _,(by rw[List.drop_zero];exact HR.o:bP uz ua (L.drop 0)=r)⟩
 case round =>
  obtain⟨k,y,hk,hg,rfl,rfl,y0,y1,BW,HL⟩:=hrel;have BW2:Hid (Bl w wr):=bup HB2.o BW.o
  by_cases hlt:k<L.length
  ·obtain⟨b3,c3,e3,_,_,h3⟩:=HR2.o.below BW.o;obtain⟨g,e4,hglt,hcell⟩:=h3 (by intro e;rw[e] at hlt;simp at hlt)
   have hc:=hcell k hlt
   cases e3
   cases e4;have hd:=od L ls0 k hlt;have c0:wr.cell? (At g (k*2))=some (U3 (L.getD k ls0).a):=hc 0 _ rfl
   have c1:wr.cell? (At g (k*2+1))=some (.string (L.getD k ls0).o):=hc 1 _ rfl
   generalize L.getD k ls0=z at c0 c1 hd
   have HD:Hid (L.drop k=z::L.drop (k+1)):=hd
   have hltz:(k:Int)<(L.length:Int):=by omega
   clear h3 hcell hc hd HR2 HUS HLO;by_cases hza:z.a=y
   ·by_cases hyz:y=uz
    ·have HQ:Hid (r=none):=by
      have q:=HL.o;rw[HD.o,bP,if_neg (by rw[hza];exact fun q=>q rfl),if_pos hyz] at q
      exact q.symm
     subst hyz;go_wp2;go_ret2
     exact⟨by rw[HQ.o];rfl,bup BW2.o upB⟩
    ·have hw1:IntKind.u32.wrap (y+1)=y+1:=by rw[IntKind.wrap_u32'];omega
     have HQ:Hid (bP uz (y+1) (L.drop (k+1))=r):=by
      have q:=HL.o;rw[HD.o,bP,if_neg (by rw[hza];exact fun q=>q rfl),if_neg hyz] at q
      exact q
     go_wp2;go_roundg (L.length-(k+1))
     case measure=>omega
     case rel=>exact⟨k+1,y+1,by omega,by omega,by go_num,by first|rfl|rw[hw1],by omega,by omega,bup BW.o upB,HQ⟩
   ·have HQ:Hid (r=some y):=by
     have q:=HL.o;rw[HD.o,bP,if_pos hza] at q;exact q.symm
    go_wp2;go_ret2
    exact⟨by rw[HQ.o];rfl,bup BW2.o upB⟩
  ·have hkl:k=L.length:=by omega
   subst hkl;have HQ:Hid (r=some y):=by
    have q:=HL.o;rw[List.drop_length] at q;exact q.symm
   clear HR2 HUS HLO;go_wp2;go_ret2
   exact⟨by rw[HQ.o];rfl,BW2.o⟩
theorem Env.low{w w':World}(h:Env w)(hb:Below 10 w w'):Env w' where
 lo:=by have:=h.lo;have:=hb.size;omega
 mx:=by obtain⟨m,e⟩:=h.mx;exact⟨m,(hb.cell (p:=At 2 0) dE).trans e⟩
 syn:=by obtain⟨tp,p,e⟩:=h.syn;exact⟨tp,p,var?_below hb y8 dE e⟩
 rng:=by obtain⟨tp,p,e⟩:=h.rng;exact⟨tp,p,var?_below hb y7 dE e⟩
 tab:=var?_below hb y9 dE h.tab
theorem Chg.low{S:Nat->Prop}{w w':World}(h:Chg S w w')(hS:∀ b,S b->10<=b)(hz:10<=w.heap.size):Below 10 w w':=⟨h.os,h.tape,h.output,h.size,fun b hb=>h.block b om (fun q=>by have:=hS b q;omega)⟩
theorem sO(w:World)(x:Nat)(S:Nat->Prop)(s:Bk)(l:Ln)(hI:Inv s)(hL:aZ l)(h:au w x S s)(h1:ah s.nets l.a l.n=-1):Calls prog 74 #[Pq x,.agg (lnC l)] w (Res w x S (s,ref 11)):=by
 obtain⟨vp,vn,vl,c,B⟩:=h;have hx:=B.blk.lt;have H:Hid (au w x S s):=⟨vp,vn,vl,c,B⟩
 obtain⟨x0,x1,x2⟩:=B.c3;have LIVE:Hid (∀ wk,BW w l wk->cd w wk x vp vn vl l):=aO l B
 have HBA:Hid (BA w x S vp vn vl c s):=B
 have hxa:¬(x=w.heap.size):=by omega
 have hxb:¬(w.heap.size=x):=by omega
 have HF:Hid (∀ Wc,Bl w Wc->Cr prog 116 #[vn,.agg #[U3 l.a,I6 l.n]] Wc (I6 (ah s.nets l.a l.n))):=fun Wc hW=>im s.nets l.a l.n vn Wc (fun q hq=>(hI.na q hq).1) hL.a ((Rd.of_owns (k:=3) (enc:=ak) (fun _=>rfl) hd0 B.on).below hW)
 rw[h1] at HF;obtain⟨bn,cn,en,_,_⟩:=ae B.on;subst en;clear B;unfold lnC;go_enter func74,ntmps74
 go_wp2;go_region_held3 (fun w'=>w'.cell? (At x 1)=some (.slice bn s.nets.length cn)/\w'.cell? (At w.heap.size 3)=some (U3 l.a)/\w'.cell? (At w.heap.size 4)=some (I6 l.n)) (go_keep) (first|(go_at_call 116;refine Mo (HF.o _ upB) fun w1 HQ=>?_;have HB1:Hid (BW w l w1):=al upB sM HQ;clear HQ;have HW1:Hid (Bl w w1):=(ab w l).trans (HB1.o.mono om);obtain⟨-,x1_1,-,-,-,-,o_1,a_1,n_1,-,-,r0_1,r1_1,g0_1,g1_1,zx_1,z0_1,z1_1,-⟩:=LIVE.o w1 HB1.o))
 all_goals (
  go_wp2_with (go_at_call 39;refine Mo (az 11 _) fun w9 HQ=>?_;have HB9:Hid (BW w l w9):=al (by have hp:=HB1.o;exact upB) sM HQ;clear HQ;have HW9:Hid (Bl w w9):=(ab w l).trans (HB9.o.mono om);obtain⟨r0_9,r1_9,g0_9,g1_9,z1_9⟩:=(LIVE.o w9 HB9.o).q)
  have hR:=(LIVE.o w9 HB9.o).rb
  obtain⟨kk0,kk1⟩:=ay hR (I6 11) (.slice none 0 0)
  have hfin:=a7 (l:=l) 11 H.o HB9.o
  exact bodyPost_ret (v:=.agg #[I6 11,.slice none 0 0]) (by simp[results,results74,go_sem,kk0,kk1]) rfl hfin)
theorem sN(w:World)(x:Nat)(S:Nat->Prop)(s:Bk)(l:Ln)(hI:Inv s)(hL:aZ l)(h:au w x S s)(k:Nat)(q:Hd)(hk:k<s.nets.length)(h1:ah s.nets l.a l.n=k)(hq:s.nets.getD k hd0=q)(hlf:du s.leases q.a q.n=none):Calls prog 74 #[Pq x,.agg (lnC l)] w (Res w x S (s,ref 10)):=by
 obtain⟨vp,vn,vl,c,B⟩:=h;have hx:=B.blk.lt;have H:Hid (au w x S s):=⟨vp,vn,vl,c,B⟩
 obtain⟨x0,x1,x2⟩:=B.c3;have LIVE:Hid (∀ wk,BW w l wk->cd w wk x vp vn vl l):=aO l B
 have HBA:Hid (BA w x S vp vn vl c s):=B
 have hxa:¬(x=w.heap.size):=by omega
 have hxb:¬(w.heap.size=x):=by omega
 have HF:Hid (∀ Wc,Bl w Wc->Cr prog 116 #[vn,.agg #[U3 l.a,I6 l.n]] Wc (I6 (ah s.nets l.a l.n))):=fun Wc hW=>im s.nets l.a l.n vn Wc (fun q hq=>(hI.na q hq).1) hL.a ((Rd.of_owns (k:=3) (enc:=ak) (fun _=>rfl) hd0 B.on).below hW)
 rw[h1] at HF;have hkk:∀ q:Hd,(ak q).length=3:=fun _=>rfl
 have hqm:q∈s.nets:=by rw[<- hq];exact aJ s.nets hd0 k hk
 have hqi:=hI.na q hqm;have hrd:=Rd.of_owns hkk hd0 B.on;obtain⟨bq,cq,ev,hq1,hq2,hq3⟩:=hrd;obtain⟨gq,rfl,hq4,hq5⟩:=hq3 (by intro e;rw[e] at hk;simp at hk)
 have hk5:=hq5 k hk;rw[hq] at hk5;have ROW:Hid (∀ wk,Bl w wk->wk.cell? (At gq (k*3))=some (U3 q.a)/\wk.cell? (At gq (k*3+1))=some (I6 q.n)/\wk.cell? (At gq (k*3+2))=some (.string q.o)):=fun wk hw =>
  ⟨(hw.cell (p:=At gq (k*3)) hq4).trans (hk5 0 _ rfl),(hw.cell (p:=At gq (k*3+1)) hq4).trans (hk5 1 _ rfl),(hw.cell (p:=At gq (k*3+2)) hq4).trans (hk5 2 _ rfl)⟩
 have hkz:(k:Int)<(s.nets.length:Int):=by omega
 have hkn:¬((k:Int)<0):=by omega
 have hk0:(0:Int)<=(k:Int):=by omega
 have HLF:Hid (∀ Wc,Bl w Wc->Cr prog 119 #[Pq x,.agg #[U3 q.a,I6 q.n,.string q.o]] Wc (.tuple #[U3 0,.bool false])):=fun Wc hW=>by
  have:=fD Wc x s.leases q vl (Nat.lt_of_lt_of_le hx hW.size) ((hW.cell (p:=At x 2) hx).trans x2) ((Rd.of_owns (k:=2) (enc:=br) (fun _=>rfl) ls0 B.ol).below hW) (by have:=hI.l;omega) (fun q hq=>(hI.la q hq).1) hqi.1 hqi.2.1
  rw[hlf] at this;exact this
 clear hq1 hq2 hq5 hk5 hq hqm hqi;subst ev;clear B;unfold lnC;go_enter func74,ntmps74
 go_wp2;go_region_held3 (fun w'=>w'.cell? (At x 1)=some (Sq gq s.nets.length cq)/\w'.cell? (At w.heap.size 3)=some (U3 l.a)/\w'.cell? (At w.heap.size 4)=some (I6 l.n)) (go_keep) (first|(go_at_call 116;refine Mo (HF.o _ upB) fun w1 HQ=>?_;have HB1:Hid (BW w l w1):=al upB sM HQ;clear HQ;have HW1:Hid (Bl w w1):=(ab w l).trans (HB1.o.mono om);obtain⟨-,x1_1,x2_1,-,-,-,o_1,a_1,n_1,-,-,r0_1,r1_1,g0_1,g1_1,zx_1,z0_1,z1_1,-⟩:=LIVE.o w1 HB1.o;obtain⟨e0_1,e1_1,e2_1⟩:=ROW.o w1 HW1.o))
 all_goals (
  go_wp2_with (first|(go_at_call 119;refine Mo (HLF.o _ (by have hp:=HW1.o;exact upB)) fun w2 HQ=>?_;have HB2:Hid (BW w l w2):=al (by have hp:=HB1.o;exact upB) sM HQ;clear HQ;have HW2:Hid (Bl w w2):=(ab w l).trans (HB2.o.mono om);obtain⟨-,-,x2_2,-,-,-,o_2,-,-,-,-,r0_2,r1_2,g0_2,g1_2,zx_2,z0_2,z1_2,-⟩:=LIVE.o w2 HB2.o)|(go_at_call 39;refine Mo (az 10 _) fun w9 HQ=>?_;have HB9:Hid (BW w l w9):=al (by have hp:=HB2.o;exact upB) sM HQ;clear HQ;have HW9:Hid (Bl w w9):=(ab w l).trans (HB9.o.mono om);obtain⟨r0_9,r1_9,g0_9,g1_9,z1_9⟩:=(LIVE.o w9 HB9.o).q))
  have hR:=(LIVE.o w9 HB9.o).rb
  obtain⟨kk0,kk1⟩:=ay hR (I6 10) (.slice none 0 0)
  have hfin:=a7 (l:=l) 10 H.o HB9.o
  exact bodyPost_ret (v:=.agg #[I6 10,.slice none 0 0]) (by simp[results,results74,go_sem,kk0,kk1]) rfl hfin)
theorem qt(w:World)(x:Nat)(S:Nat->Prop)(s:Bk)(l:Ln)(hI:Inv s)(hL:aZ l)(h:au w x S s)(k:Nat)(q:Hd)(hk:k<s.nets.length)(h1:ah s.nets l.a l.n=k)(hq:s.nets.getD k hd0=q)(y:Int)(hlf:du s.leases q.a q.n=some y)(h2:40<=s.leases.length):Calls prog 74 #[Pq x,.agg (lnC l)] w (Res w x S (s,ref 6)):=by
 obtain⟨vp,vn,vl,c,B⟩:=h;have hx:=B.blk.lt;have H:Hid (au w x S s):=⟨vp,vn,vl,c,B⟩
 obtain⟨x0,x1,x2⟩:=B.c3;have LIVE:Hid (∀ wk,BW w l wk->cd w wk x vp vn vl l):=aO l B
 have HBA:Hid (BA w x S vp vn vl c s):=B
 have hxa:¬(x=w.heap.size):=by omega
 have hxb:¬(w.heap.size=x):=by omega
 have HF:Hid (∀ Wc,Bl w Wc->Cr prog 116 #[vn,.agg #[U3 l.a,I6 l.n]] Wc (I6 (ah s.nets l.a l.n))):=fun Wc hW=>im s.nets l.a l.n vn Wc (fun q hq=>(hI.na q hq).1) hL.a ((Rd.of_owns (k:=3) (enc:=ak) (fun _=>rfl) hd0 B.on).below hW)
 rw[h1] at HF;have hkk:∀ q:Hd,(ak q).length=3:=fun _=>rfl
 have hqm:q∈s.nets:=by rw[<- hq];exact aJ s.nets hd0 k hk
 have hqi:=hI.na q hqm;have hrd:=Rd.of_owns hkk hd0 B.on;obtain⟨bq,cq,ev,hq1,hq2,hq3⟩:=hrd;obtain⟨gq,rfl,hq4,hq5⟩:=hq3 (by intro e;rw[e] at hk;simp at hk)
 have hk5:=hq5 k hk;rw[hq] at hk5;have ROW:Hid (∀ wk,Bl w wk->wk.cell? (At gq (k*3))=some (U3 q.a)/\wk.cell? (At gq (k*3+1))=some (I6 q.n)/\wk.cell? (At gq (k*3+2))=some (.string q.o)):=fun wk hw =>
  ⟨(hw.cell (p:=At gq (k*3)) hq4).trans (hk5 0 _ rfl),(hw.cell (p:=At gq (k*3+1)) hq4).trans (hk5 1 _ rfl),(hw.cell (p:=At gq (k*3+2)) hq4).trans (hk5 2 _ rfl)⟩
 have hkz:(k:Int)<(s.nets.length:Int):=by omega
 have hkn:¬((k:Int)<0):=by omega
 have hk0:(0:Int)<=(k:Int):=by omega
 have HLF:Hid (∀ Wc,Bl w Wc->Cr prog 119 #[Pq x,.agg #[U3 q.a,I6 q.n,.string q.o]] Wc (.tuple #[U3 y,.bool true])):=fun Wc hW=>by
  have:=fD Wc x s.leases q vl (Nat.lt_of_lt_of_le hx hW.size) ((hW.cell (p:=At x 2) hx).trans x2) ((Rd.of_owns (k:=2) (enc:=br) (fun _=>rfl) ls0 B.ol).below hW) (by have:=hI.l;omega) (fun q hq=>(hI.la q hq).1) hqi.1 hqi.2.1
  rw[hlf] at this;exact this
 clear hq1 hq2 hq5 hk5 hq hqm hqi;subst ev;obtain⟨bl,cl,el,_,_⟩:=ae B.ol;subst el;have h6:(40:Int)<=(s.leases.length:Int):=by omega
 clear B;unfold lnC;go_enter func74,ntmps74
 go_wp2;go_region_held3 (fun w'=>w'.cell? (At x 1)=some (Sq gq s.nets.length cq)/\w'.cell? (At w.heap.size 3)=some (U3 l.a)/\w'.cell? (At w.heap.size 4)=some (I6 l.n)) (go_keep) (first|(go_at_call 116;refine Mo (HF.o _ upB) fun w1 HQ=>?_;have HB1:Hid (BW w l w1):=al upB sM HQ;clear HQ;have HW1:Hid (Bl w w1):=(ab w l).trans (HB1.o.mono om);obtain⟨-,x1_1,x2_1,-,-,-,o_1,a_1,n_1,-,-,r0_1,r1_1,g0_1,g1_1,zx_1,z0_1,z1_1,-⟩:=LIVE.o w1 HB1.o;obtain⟨e0_1,e1_1,e2_1⟩:=ROW.o w1 HW1.o))
 all_goals (
  go_wp2_with (first|(go_at_call 119;refine Mo (HLF.o _ (by have hp:=HW1.o;exact upB)) fun w2 HQ=>?_;have HB2:Hid (BW w l w2):=al (by have hp:=HB1.o;exact upB) sM HQ;clear HQ;have HW2:Hid (Bl w w2):=(ab w l).trans (HB2.o.mono om);obtain⟨-,-,x2_2,-,-,-,o_2,-,-,-,-,r0_2,r1_2,g0_2,g1_2,zx_2,z0_2,z1_2,-⟩:=LIVE.o w2 HB2.o)|(go_at_call 39;refine Mo (az 6 _) fun w9 HQ=>?_;have HB9:Hid (BW w l w9):=al (by have hp:=HB2.o;exact upB) sM HQ;clear HQ;have HW9:Hid (Bl w w9):=(ab w l).trans (HB9.o.mono om);obtain⟨r0_9,r1_9,g0_9,g1_9,z1_9⟩:=(LIVE.o w9 HB9.o).q))
  have hR:=(LIVE.o w9 HB9.o).rb
  obtain⟨kk0,kk1⟩:=ay hR (I6 6) (.slice none 0 0)
  have hfin:=a7 (l:=l) 6 H.o HB9.o
  exact bodyPost_ret (v:=.agg #[I6 6,.slice none 0 0]) (by simp[results,results74,go_sem,kk0,kk1]) rfl hfin)
theorem zI(w:World)(x:Nat)(S:Nat->Prop)(s:Bk)(l:Ln)(hI:Inv s)(hL:aZ l)(h:au w x S s)(k:Nat)(q:Hd)(hk:k<s.nets.length)(h1:ah s.nets l.a l.n=k)(hq:s.nets.getD k hd0=q)(y:Int)(hy:ad y)(hlf:du s.leases q.a q.n=some y)(h2:¬40<=s.leases.length)(hE:Env w)(hG:∀ b,S b->10<=b)(hZ:10<=w.heap.size):Calls prog 74 #[Pq x,.agg (lnC l)] w (Res w x S ({ s with leases:=dR s.leases ⟨y,l.o⟩ },eB ⟨(dot y.toNat).toArray⟩)):=by
 obtain⟨vp,vn,vl,c,B⟩:=h;have hx:=B.blk.lt;have H:Hid (au w x S s):=⟨vp,vn,vl,c,B⟩
 obtain⟨x0,x1,x2⟩:=B.c3;have LIVE:Hid (∀ wk,BW w l wk->cd w wk x vp vn vl l):=aO l B
 have HBA:Hid (BA w x S vp vn vl c s):=B
 have hxa:¬(x=w.heap.size):=by omega
 have hxb:¬(w.heap.size=x):=by omega
 have EN:Hid (Env w):=hE
 have GS:Hid (∀ b,S b->10<=b):=hG
 have ZG:Hid (10<=w.heap.size):=hZ
 clear hE hG hZ;have HS:Hid (∀ b,S b->b<w.heap.size):=B.sz
 have HF:Hid (∀ Wc,Bl w Wc->Cr prog 116 #[vn,.agg #[U3 l.a,I6 l.n]] Wc (I6 (ah s.nets l.a l.n))):=fun Wc hW=>im s.nets l.a l.n vn Wc (fun q hq=>(hI.na q hq).1) hL.a ((Rd.of_owns (k:=3) (enc:=ak) (fun _=>rfl) hd0 B.on).below hW)
 rw[h1] at HF;have hkk:∀ q:Hd,(ak q).length=3:=fun _=>rfl
 have hqm:q∈s.nets:=by rw[<- hq];exact aJ s.nets hd0 k hk
 have hqi:=hI.na q hqm;have hrd:=Rd.of_owns hkk hd0 B.on;obtain⟨bq,cq,ev,hq1,hq2,hq3⟩:=hrd;obtain⟨gq,rfl,hq4,hq5⟩:=hq3 (by intro e;rw[e] at hk;simp at hk)
 have hk5:=hq5 k hk;rw[hq] at hk5;have ROW:Hid (∀ wk,Bl w wk->wk.cell? (At gq (k*3))=some (U3 q.a)/\wk.cell? (At gq (k*3+1))=some (I6 q.n)/\wk.cell? (At gq (k*3+2))=some (.string q.o)):=fun wk hw =>
  ⟨(hw.cell (p:=At gq (k*3)) hq4).trans (hk5 0 _ rfl),(hw.cell (p:=At gq (k*3+1)) hq4).trans (hk5 1 _ rfl),(hw.cell (p:=At gq (k*3+2)) hq4).trans (hk5 2 _ rfl)⟩
 have hkz:(k:Int)<(s.nets.length:Int):=by omega
 have hkn:¬((k:Int)<0):=by omega
 have hk0:(0:Int)<=(k:Int):=by omega
 have HLF:Hid (∀ Wc,Bl w Wc->Cr prog 119 #[Pq x,.agg #[U3 q.a,I6 q.n,.string q.o]] Wc (.tuple #[U3 y,.bool true])):=fun Wc hW=>by
  have:=fD Wc x s.leases q vl (Nat.lt_of_lt_of_le hx hW.size) ((hW.cell (p:=At x 2) hx).trans x2) ((Rd.of_owns (k:=2) (enc:=br) (fun _=>rfl) ls0 B.ol).below hW) (by have:=hI.l;omega) (fun q hq=>(hI.la q hq).1) hqi.1 hqi.2.1
  rw[hlf] at this;exact this
 have HAD:Hid (∀ Wc,Bl w Wc->Calls prog 120 #[Pq x,U3 y,.string l.o] Wc fun e w'=>e=.returned (.tuple #[])/\∃ S',au w' x S' { s with leases:=dR s.leases ⟨y,l.o⟩ }/\(∀ b,S' b->S b\/Wc.heap.size<=b)/\Chg S Wc w'):=fun Wc hW=>iT Wc x S s y l.o hI (H.o.below hW)
 have HWA:Hid (∀ Wc,Env Wc->Cr prog 121 #[U3 y] Wc (.string ⟨(dot y.toNat).toArray⟩)):=fun Wc hE=>oV y Wc hE hy.1 hy.2
 generalize (⟨(dot y.toNat).toArray⟩:Bz)=tt at HWA ⊢
 clear hq1 hq2 hq5 hk5 hq hqm hqi;subst ev;obtain⟨bl,cl,el,_,_⟩:=ae B.ol;subst el;have h6:¬(40:Int)<=(s.leases.length:Int):=by omega
 clear B;unfold lnC;go_enter func74,ntmps74
 go_wp2;go_region_held3 (fun w'=>w'.cell? (At x 1)=some (Sq gq s.nets.length cq)/\w'.cell? (At w.heap.size 3)=some (U3 l.a)/\w'.cell? (At w.heap.size 4)=some (I6 l.n)) (go_keep) (first|(go_at_call 116;refine Mo (HF.o _ upB) fun w1 HQ=>?_;have HB1:Hid (BW w l w1):=al upB sM HQ;clear HQ;have HW1:Hid (Bl w w1):=(ab w l).trans (HB1.o.mono om);obtain⟨-,x1_1,x2_1,-,-,-,o_1,a_1,n_1,-,-,r0_1,r1_1,g0_1,g1_1,zx_1,z0_1,z1_1,-⟩:=LIVE.o w1 HB1.o;obtain⟨e0_1,e1_1,e2_1⟩:=ROW.o w1 HW1.o))
 all_goals (
  go_wp2_with (first|(go_at_call 119;refine Mo (HLF.o _ (by have hp:=HW1.o;exact upB)) fun w2 HQ=>?_;have HB2:Hid (BW w l w2):=al (by have hp:=HB1.o;exact upB) sM HQ;clear HQ;have HW2:Hid (Bl w w2):=(ab w l).trans (HB2.o.mono om);obtain⟨-,-,x2_2,-,-,-,o_2,-,-,-,-,r0_2,r1_2,g0_2,g1_2,zx_2,z0_2,z1_2,-⟩:=LIVE.o w2 HB2.o)|(go_at_call 120;refine(HAD.o _ (by have hp:=HW2.o;exact upB)).mono ?_;rintro e w3 ⟨rfl,S3,o1,o2,o3⟩;have HG:Hid (∃ Wc,Bl w Wc/\w.heap.size+2<=Wc.heap.size/\(∀ b,S3 b->S b\/Wc.heap.size<=b)/\Chg S Wc w3):=⟨_,by have hp:=HW2.o;exact upB,by have hz:=HB2.o.size;simp at hz ⊢;omega,o2,o3⟩;have HA:Hid (au w3 x S3 { s with leases:=dR s.leases ⟨y,l.o⟩ }):=o1;have RB3:Hid (Blk w3 (w.heap.size+1) #[I6 0,.slice none 0 0] 98):=(o3.block _ (by have hz:=HB2.o.size;simp at hz ⊢;omega) (fun q=>by have:=HS.o _ q;omega)).trans (LIVE.o _ (by have hp:=HB2.o;exact upB)).rb;have z1_3:w.heap.size+1<w3.heap.size:=RB3.o.lt;have HE3:Hid (Env w3):=(EN.o.mono (by have hp:=HW2.o;exact upB)).low (o3.low GS.o (by have hz:=HB2.o.size;have:=ZG.o;simp at hz ⊢;omega));clear o1 o2 o3)|(go_at_call 121;refine Mo (HWA.o _ HE3.o) fun w4 HQ=>?_;have HT4:Hid (Bl w3 w4):=HQ;clear HQ;have zz_4:w3.heap.size<=w4.heap.size:=HT4.o.size)|(go_at_call 105;refine Mo (fc (some (At w4.heap.size 0)) 1 1 _) fun w5 HQ=>?_;have HQ5:Hid (Bl w3 w5):=bup (Below.alloc HT4.o HT4.o.size _) HQ;have MC5:Hid (w4.heap.size<w5.heap.size/\w5.cell? (At w4.heap.size 0)=some (.string tt)):=⟨by have:=HQ.size;simp at this;omega,(HQ.cell (p:=At w4.heap.size 0) sM).trans (by simp[go_sem])⟩;have RB5:Blk w5 (w.heap.size+1) #[I6 0,.slice none 0 0] 98:=(HQ5.o.block _ z1_3).trans RB3.o;clear HQ;have HR5:Hid (Blk w5 (w.heap.size+1) #[I6 0,.slice none 0 0] 98):=RB5;have r0_5:w5.cell? (At (w.heap.size+1) 0)=some (I6 0):=RB5.cell 0;have r1_5:w5.cell? (At (w.heap.size+1) 1)=some (.slice none 0 0):=RB5.cell 1;have g0_5:w5.frozen? (At (w.heap.size+1) 0)=false:=RB5.frozen 0;have g1_5:w5.frozen? (At (w.heap.size+1) 1)=false:=RB5.frozen 1;clear RB5))
  obtain⟨kk0,kk1⟩:=ay HR5.o (I6 0) (Sq w4.heap.size 1 1)
  obtain⟨Wc,hc1,hc2,hc3,hc4⟩:=HG.o;have hne:w4.heap.size≠w.heap.size+1:=by omega
  have hfin:=kR HS.o hc1 hc2 HA.o hc3 hc4 HQ5.o (eB tt) rfl (Sq w4.heap.size 1 1) (fun W' h1 h2=>AK (Nat.lt_of_lt_of_le MC5.o.1 h2) ((World.cell?_of_block (a:=At w4.heap.size 0) (h1 _ hne)).trans MC5.o.2))
  exact bodyPost_ret (v:=.agg #[I6 0,Sq w4.heap.size 1 1]) (by simp[results,results74,go_sem,kk0,kk1]) rfl hfin)
theorem fC(a n:Int)(w:World)(hE:Env w)(ha:ad a)(hr:rt a n=true):Cr prog 113 #[.agg #[U3 a,I6 n]] w (.string ⟨(cF a n).toArray⟩):=by
 have hw:Hid (∀ Wc,Bl w Wc->Cr prog 163 #[.agg #[U3 a,I6 n]] Wc (.tuple #[.string ⟨(cF a n).toArray⟩,I6 0])):=fun Wc hW=>rV a n Wc (hE.mono hW) ha.1 ha.2 hr
 generalize (⟨(cF a n).toArray⟩:Bz)=t at hw ⊢
 clear hE ha hr;go_enter func113,ntmps113
 go_wp2_with (go_at_call 163;refine(hw.o _ upB).mono ?_;rintro e w1 ⟨rfl,hb1⟩)
 go_ret;exact⟨rfl,bup upB hb1⟩
theorem Ab(w:World)(x:Nat)(S:Nat->Prop)(s:Bk)(l:Ln)(hI:Inv s)(hL:aZ l)(h:au w x S s)(h1:ah s.pools l.a l.n=-1):Calls prog 71 #[Pq x,.agg (lnC l)] w (Res w x S (s,ref 7)):=by
 obtain⟨vp,vn,vl,c,B⟩:=h;have hx:=B.blk.lt;have H:Hid (au w x S s):=⟨vp,vn,vl,c,B⟩
 obtain⟨x0,x1,x2⟩:=B.c3;have LIVE:Hid (∀ wk,BW w l wk->cd w wk x vp vn vl l):=aO l B
 have HBA:Hid (BA w x S vp vn vl c s):=B
 have hxa:¬(x=w.heap.size):=by omega
 have hxb:¬(w.heap.size=x):=by omega
 have HF:Hid (∀ Wc,Bl w Wc->Cr prog 106 #[vp,.agg #[U3 l.a,I6 l.n]] Wc (I6 (ah s.pools l.a l.n))):=fun Wc hW=>gD s.pools l.a l.n vp Wc (fun q hq=>(hI.pa q hq).1) hL.a ((Rd.of_owns (k:=3) (enc:=ak) (fun _=>rfl) hd0 B.op).below hW)
 rw[h1] at HF;obtain⟨bp,cp,ep,_,_⟩:=ae B.op;subst ep;clear B;unfold lnC;go_enter func71,ntmps71
 go_wp2;go_region_held3 (fun w'=>w'.cell? (At x 0)=some (.slice bp s.pools.length cp)/\w'.cell? (At w.heap.size 3)=some (U3 l.a)/\w'.cell? (At w.heap.size 4)=some (I6 l.n)) (go_keep) (first|(go_at_call 106;refine Mo (HF.o _ upB) fun w1 HQ=>?_;have HB1:Hid (BW w l w1):=al upB sM HQ;clear HQ;have HW1:Hid (Bl w w1):=(ab w l).trans (HB1.o.mono om);obtain⟨x0_1,-,-,-,-,-,o_1,a_1,n_1,-,g_1,r0_1,r1_1,g0_1,g1_1,zx_1,z0_1,z1_1,-⟩:=LIVE.o w1 HB1.o))
 all_goals (
  go_wp2_with (go_at_call 39;refine Mo (az 7 _) fun w9 HQ=>?_;have HB9:Hid (BW w l w9):=al (by have hp:=HB1.o;exact upB) sM HQ;clear HQ;have HW9:Hid (Bl w w9):=(ab w l).trans (HB9.o.mono om);obtain⟨r0_9,r1_9,g0_9,g1_9,z1_9⟩:=(LIVE.o w9 HB9.o).q)
  have hR:=(LIVE.o w9 HB9.o).rb
  obtain⟨kk0,kk1⟩:=ay hR (I6 7) (.slice none 0 0)
  have hfin:=a7 (l:=l) 7 H.o HB9.o
  exact bodyPost_ret (v:=.agg #[I6 7,.slice none 0 0]) (by simp[results,results71,go_sem,kk0,kk1]) rfl hfin)
theorem wD(w:World)(x:Nat)(S:Nat->Prop)(s:Bk)(l:Ln)(hI:Inv s)(hL:aZ l)(h:au w x S s)(k:Nat)(ok:Bz)(hk:k<s.pools.length)(h1:ah s.pools l.a l.n=k)(his:isH l.a l.n (s.pools.getD k hd0)=true)(hok:(s.pools.getD k hd0).o=ok)(h2:l.g<22\/l.g<l.n):Calls prog 71 #[Pq x,.agg (lnC l)] w (Res w x S (s,ref 4)):=by
 obtain⟨vp,vn,vl,c,B⟩:=h;have hx:=B.blk.lt;have H:Hid (au w x S s):=⟨vp,vn,vl,c,B⟩
 obtain⟨x0,x1,x2⟩:=B.c3;have LIVE:Hid (∀ wk,BW w l wk->cd w wk x vp vn vl l):=aO l B
 have HBA:Hid (BA w x S vp vn vl c s):=B
 have hxa:¬(x=w.heap.size):=by omega
 have hxb:¬(w.heap.size=x):=by omega
 have HF:Hid (∀ Wc,Bl w Wc->Cr prog 106 #[vp,.agg #[U3 l.a,I6 l.n]] Wc (I6 (ah s.pools l.a l.n))):=fun Wc hW=>gD s.pools l.a l.n vp Wc (fun q hq=>(hI.pa q hq).1) hL.a ((Rd.of_owns (k:=3) (enc:=ak) (fun _=>rfl) hd0 B.op).below hW)
 rw[h1] at HF;have hkk:∀ q:Hd,(ak q).length=3:=fun _=>rfl
 have hrd:=Rd.of_owns hkk hd0 B.op;obtain⟨bq,cq,ev,hq1,hq2,hq3⟩:=hrd;obtain⟨gq,rfl,hq4,hq5⟩:=hq3 (by intro e;rw[e] at hk;simp at hk)
 have hk5:=hq5 k hk;have hk6:(s.pools.getD k hd0).a=l.a/\(s.pools.getD k hd0).n=l.n:=by simpa[isH] using his
 have ROW:Hid (∀ wk,Bl w wk->wk.cell? (At gq (k*3))=some (U3 l.a)/\wk.cell? (At gq (k*3+1))=some (I6 l.n)/\wk.cell? (At gq (k*3+2))=some (.string ok)/\gq<wk.heap.size):=fun wk hw =>
  ⟨(hw.cell (p:=At gq (k*3)) hq4).trans (by rw[<- hk6.1];exact hk5 0 _ rfl),(hw.cell (p:=At gq (k*3+1)) hq4).trans (by rw[<- hk6.2];exact hk5 1 _ rfl),(hw.cell (p:=At gq (k*3+2)) hq4).trans (by rw[<- hok];exact hk5 2 _ rfl),Nat.lt_of_lt_of_le hq4 hw.size⟩
 have hkz:(k:Int)<(s.pools.length:Int):=by omega
 have hkn:¬((k:Int)<0):=by omega
 have hk0:(0:Int)<=(k:Int):=by omega
 clear hq1 hq2 hq5 hk5 hk6 his hok;subst ev;clear B;unfold lnC;go_enter func71,ntmps71
 go_wp2;go_region_held3 (fun w'=>w'.cell? (At x 0)=some (Sq gq s.pools.length cq)/\w'.cell? (At w.heap.size 3)=some (U3 l.a)/\w'.cell? (At w.heap.size 4)=some (I6 l.n)) (go_keep) (first|(go_at_call 106;refine Mo (HF.o _ upB) fun w1 HQ=>?_;have HB1:Hid (BW w l w1):=al upB sM HQ;clear HQ;have HW1:Hid (Bl w w1):=(ab w l).trans (HB1.o.mono om);obtain⟨x0_1,x1_1,-,-,-,-,o_1,a_1,n_1,-,g_1,r0_1,r1_1,g0_1,g1_1,zx_1,z0_1,z1_1,-⟩:=LIVE.o w1 HB1.o;obtain⟨e0_1,e1_1,e2_1,e3_1⟩:=ROW.o w1 HW1.o))
 all_goals (
  by_cases h3:l.g<22
  ·go_wp2_with (go_at_call 39;refine Mo (az 4 _) fun w9 HQ=>?_;have HB9:Hid (BW w l w9):=al (by have hp:=HB1.o;exact upB) sM HQ;clear HQ;have HW9:Hid (Bl w w9):=(ab w l).trans (HB9.o.mono om);obtain⟨r0_9,r1_9,g0_9,g1_9,z1_9⟩:=(LIVE.o w9 HB9.o).q)
   have hR:=(LIVE.o w9 HB9.o).rb
   obtain⟨kk0,kk1⟩:=ay hR (I6 4) (.slice none 0 0)
   have hfin:=a7 (l:=l) 4 H.o HB9.o
   exact bodyPost_ret (v:=.agg #[I6 4,.slice none 0 0]) (by simp[results,results71,go_sem,kk0,kk1]) rfl hfin
  ·have h4:l.g<l.n:=by omega
   go_wp2_with (go_at_call 39;refine Mo (az 4 _) fun w9 HQ=>?_;have HB9:Hid (BW w l w9):=al (by have hp:=HB1.o;exact upB) sM HQ;clear HQ;have HW9:Hid (Bl w w9):=(ab w l).trans (HB9.o.mono om);obtain⟨r0_9,r1_9,g0_9,g1_9,z1_9⟩:=(LIVE.o w9 HB9.o).q)
   have hR:=(LIVE.o w9 HB9.o).rb
   obtain⟨kk0,kk1⟩:=ay hR (I6 4) (.slice none 0 0)
   have hfin:=a7 (l:=l) 4 H.o HB9.o
   exact bodyPost_ret (v:=.agg #[I6 4,.slice none 0 0]) (by simp[results,results71,go_sem,kk0,kk1]) rfl hfin)
theorem Aa(w:World)(x:Nat)(S:Nat->Prop)(s:Bk)(l:Ln)(hI:Inv s)(hL:aZ l)(h:au w x S s)(k:Nat)(ok:Bz)(hk:k<s.pools.length)(h1:ah s.pools l.a l.n=k)(his:isH l.a l.n (s.pools.getD k hd0)=true)(hok:(s.pools.getD k hd0).o=ok)(res:Option (Int×Int))(hres:dN (aM 33 (af s.nets l.a l.n) l.a l.n) l.g=res)(h2:¬l.g<22)(h3:¬l.g<l.n)(h4:res=none):Calls prog 71 #[Pq x,.agg (lnC l)] w (Res w x S (s,ref 10)):=by
 obtain⟨vp,vn,vl,c,B⟩:=h;have hx:=B.blk.lt;have H:Hid (au w x S s):=⟨vp,vn,vl,c,B⟩
 obtain⟨x0,x1,x2⟩:=B.c3;have LIVE:Hid (∀ wk,BW w l wk->cd w wk x vp vn vl l):=aO l B
 have HBA:Hid (BA w x S vp vn vl c s):=B
 have hxa:¬(x=w.heap.size):=by omega
 have hxb:¬(w.heap.size=x):=by omega
 have HF:Hid (∀ Wc,Bl w Wc->Cr prog 106 #[vp,.agg #[U3 l.a,I6 l.n]] Wc (I6 (ah s.pools l.a l.n))):=fun Wc hW=>gD s.pools l.a l.n vp Wc (fun q hq=>(hI.pa q hq).1) hL.a ((Rd.of_owns (k:=3) (enc:=ak) (fun _=>rfl) hd0 B.op).below hW)
 rw[h1] at HF;have HSUB:Hid (∀ Wc,Bl w Wc->Calls prog 108 #[Pq x,.agg #[U3 l.a,I6 l.n,.string ok]] Wc fun e w'=>(∃ b c,e=.returned (.slice b (af s.nets l.a l.n).length c)/\Rd 3 ak hd0 w' (.slice b (af s.nets l.a l.n).length c) (af s.nets l.a l.n))/\Bl Wc w'):=fun Wc hW=>by
  refine(eh x s.nets ⟨l.a,l.n,ok⟩ vn Wc (Nat.lt_of_lt_of_le hx hW.size) ((hW.cell (p:=At x 1) hx).trans x1) ((Rd.of_owns (k:=3) (enc:=ak) (fun _=>rfl) hd0 B.on).below hW) (by have:=hI.n;omega) (fun q hq=>(hI.na q hq).1) hL.a).mono ?_
  rintro e w' ⟨vv,rfl,o1,o2⟩
  have o3:Rd 3 ak hd0 w' vv (af s.nets l.a l.n):=Rd.of_owns (k:=3) (enc:=ak) (fun _=>rfl) hd0 o1
  obtain⟨b,c,rfl,_,_⟩:=ae o1;exact⟨⟨b,c,rfl,o3⟩,o2⟩
 have HFB:Hid (∀ Wc v,Rd 3 ak hd0 Wc v (af s.nets l.a l.n)->Calls prog 111 #[.agg #[U3 l.a,I6 l.n],v] Wc fun e w'=>(∃ b c,e=.returned (.slice b (aM 33 (af s.nets l.a l.n) l.a l.n).length c)/\Rd 2 eE (0,0) w' (.slice b (aM 33 (af s.nets l.a l.n) l.a l.n).length c) (aM 33 (af s.nets l.a l.n) l.a l.n))/\Bl Wc w'):=fun Wc v hv=>by
  refine(e8 (af s.nets l.a l.n) (fun q hq=>by have hm:=hI.na q (List.mem_filter.1 hq).1;exact⟨hm.1,(aj.1 hm.2.1).2.1⟩) v 33 om l.a l.n Wc hL.a hL.r (by have:=(aj.1 hL.r).1;omega) hv).mono ?_
  rintro e w' ⟨vv,rfl,o1,o2⟩
  have o3:Rd 2 eE (0,0) w' vv (aM 33 (af s.nets l.a l.n) l.a l.n):=Rd.of_owns (k:=2) (enc:=eE) (fun _=>rfl) (0,0) o1
  obtain⟨b,c,rfl,_,_⟩:=ae o1;exact⟨⟨b,c,rfl,o3⟩,o2⟩
 have HBF:Hid (∀ Wc v,Rd 2 eE (0,0) Wc v (aM 33 (af s.nets l.a l.n) l.a l.n)->Cr prog 110 #[v,I6 l.g] Wc (.tuple #[.agg #[U3 (obA res),I6 (obN res)],.bool res.isSome])):=fun Wc v hv=>by
  rw[<- hres];exact gx _ l.g v Wc hv (by have h1:=fK (af s.nets l.a l.n) 33 l.a l.n;have:2^33<=9223372036854775806:=(by decide);omega)
 generalize aM 33 (af s.nets l.a l.n) l.a l.n=FR at HFB HBF
 generalize af s.nets l.a l.n=NO at HSUB HFB
 subst h4;have hkk:∀ q:Hd,(ak q).length=3:=fun _=>rfl
 have hrd:=Rd.of_owns hkk hd0 B.op;obtain⟨bq,cq,ev,hq1,hq2,hq3⟩:=hrd;obtain⟨gq,rfl,hq4,hq5⟩:=hq3 (by intro e;rw[e] at hk;simp at hk)
 have hk5:=hq5 k hk;have hk6:(s.pools.getD k hd0).a=l.a/\(s.pools.getD k hd0).n=l.n:=by simpa[isH] using his
 have ROW:Hid (∀ wk,Bl w wk->wk.cell? (At gq (k*3))=some (U3 l.a)/\wk.cell? (At gq (k*3+1))=some (I6 l.n)/\wk.cell? (At gq (k*3+2))=some (.string ok)/\gq<wk.heap.size):=fun wk hw =>
  ⟨(hw.cell (p:=At gq (k*3)) hq4).trans (by rw[<- hk6.1];exact hk5 0 _ rfl),(hw.cell (p:=At gq (k*3+1)) hq4).trans (by rw[<- hk6.2];exact hk5 1 _ rfl),(hw.cell (p:=At gq (k*3+2)) hq4).trans (by rw[<- hok];exact hk5 2 _ rfl),Nat.lt_of_lt_of_le hq4 hw.size⟩
 have hkz:(k:Int)<(s.pools.length:Int):=by omega
 have hkn:¬((k:Int)<0):=by omega
 have hk0:(0:Int)<=(k:Int):=by omega
 clear hq1 hq2 hq5 hk5 hk6 his hok;subst ev;clear B;unfold lnC;go_enter func71,ntmps71
 go_wp2;go_region_held3 (fun w'=>w'.cell? (At x 0)=some (Sq gq s.pools.length cq)/\w'.cell? (At w.heap.size 3)=some (U3 l.a)/\w'.cell? (At w.heap.size 4)=some (I6 l.n)) (go_keep) (first|(go_at_call 106;refine Mo (HF.o _ upB) fun w1 HQ=>?_;have HB1:Hid (BW w l w1):=al upB sM HQ;clear HQ;have HW1:Hid (Bl w w1):=(ab w l).trans (HB1.o.mono om);obtain⟨x0_1,x1_1,-,-,-,-,o_1,a_1,n_1,-,g_1,r0_1,r1_1,g0_1,g1_1,zx_1,z0_1,z1_1,-⟩:=LIVE.o w1 HB1.o;obtain⟨e0_1,e1_1,e2_1,e3_1⟩:=ROW.o w1 HW1.o))
 all_goals (
  go_wp2;go_region_held3 (fun w'=>w'.cell? (At x 0)=some (Sq gq s.pools.length cq)/\w'.cell? (At w.heap.size 3)=some (U3 l.a)/\w'.cell? (At w.heap.size 4)=some (I6 l.n)/\w'.cell? (At w.heap.size 6)=some (I6 l.g)/\w'.cell? (At gq (k*3))=some (U3 l.a)/\w'.cell? (At gq (k*3+1))=some (I6 l.n)/\w'.cell? (At gq (k*3+2))=some (.string ok)) (go_keep) (first|(go_at_call 108;refine(HSUB.o _ (by have hp:=HW1.o;exact upB)).mono ?_;rintro e w2 ⟨⟨b2,c2,rfl,hr2⟩,HQ⟩;have HB2:Hid (BW w l w2):=al (by have hp:=HB1.o;exact upB) sM HQ;(try have zm1_2:w1.heap.size<w2.heap.size:=(by have hh:=HQ.size;first|(simp at hh;omega)|(have h2:=zm1_1;simp at hh;omega)|(have h2:=zm1_1;omega)));(try have ca1_2:w2.cell? (At w1.heap.size 0)=some (U3 0):=(HQ.cell (p:=At w1.heap.size 0) (by first|(simp;done)|(have hh:=zm1_1;simp;omega)|(have hh:=zm1_1;omega))).trans byA);(try have cb1_2:w2.cell? (At w1.heap.size 1)=some (I6 0):=(HQ.cell (p:=At w1.heap.size 1) (by first|(simp;done)|(have hh:=zm1_1;simp;omega)|(have hh:=zm1_1;omega))).trans byA);(try have fa1_2:w2.frozen? (At w1.heap.size 0)=false:=(HQ.frozen (p:=At w1.heap.size 0) (by first|(simp;done)|(have hh:=zm1_1;simp;omega)|(have hh:=zm1_1;omega))).trans byA);(try have fb1_2:w2.frozen? (At w1.heap.size 1)=false:=(HQ.frozen (p:=At w1.heap.size 1) (by first|(simp;done)|(have hh:=zm1_1;simp;omega)|(have hh:=zm1_1;omega))).trans byA);clear HQ;have HW2:Hid (Bl w w2):=(ab w l).trans (HB2.o.mono om);obtain⟨x0_2,x1_2,-,-,-,-,o_2,a_2,n_2,-,g_2,r0_2,r1_2,g0_2,g1_2,zx_2,z0_2,z1_2,-⟩:=LIVE.o w2 HB2.o;obtain⟨e0_2,e1_2,e2_2,e3_2⟩:=ROW.o w2 HW2.o;have ma1:¬(w1.heap.size=x):=(by have:=zx_1;omega);have mb1:¬(w1.heap.size=w.heap.size):=(by have:=z0_1;omega);have mc1:¬(w1.heap.size=gq):=(by have:=e3_1;omega);have md1:¬(w1.heap.size=w.heap.size+1):=(by have:=z1_1;omega);have HR2:Hid (Rd 3 ak hd0 w2 (.slice b2 NO.length c2) NO):=hr2;clear hr2)|(go_at_call 111;refine(HFB.o _ _ (HR2.o.below upB)).mono ?_;rintro e w3 ⟨⟨b3,c3,rfl,hr3⟩,HQ⟩;have HB3:Hid (BW w l w3):=al (by have hp:=HB2.o;exact upB) sM HQ;(try have zm1_3:w1.heap.size<w3.heap.size:=(by have hh:=HQ.size;first|(simp at hh;omega)|(have h2:=zm1_2;simp at hh;omega)|(have h2:=zm1_2;omega)));(try have ca1_3:w3.cell? (At w1.heap.size 0)=some (U3 0):=(HQ.cell (p:=At w1.heap.size 0) (by first|(simp;done)|(have hh:=zm1_2;simp;omega)|(have hh:=zm1_2;omega))).trans byA);(try have cb1_3:w3.cell? (At w1.heap.size 1)=some (I6 0):=(HQ.cell (p:=At w1.heap.size 1) (by first|(simp;done)|(have hh:=zm1_2;simp;omega)|(have hh:=zm1_2;omega))).trans byA);(try have fa1_3:w3.frozen? (At w1.heap.size 0)=false:=(HQ.frozen (p:=At w1.heap.size 0) (by first|(simp;done)|(have hh:=zm1_2;simp;omega)|(have hh:=zm1_2;omega))).trans byA);(try have fb1_3:w3.frozen? (At w1.heap.size 1)=false:=(HQ.frozen (p:=At w1.heap.size 1) (by first|(simp;done)|(have hh:=zm1_2;simp;omega)|(have hh:=zm1_2;omega))).trans byA);(try have zm2_3:w2.heap.size<w3.heap.size:=(by have hh:=HQ.size;first|(simp at hh;omega)|(have h2:=zm2_2;simp at hh;omega)|(have h2:=zm2_2;omega)));(try have ca2_3:w3.cell? (At w2.heap.size 0)=some (U3 0):=(HQ.cell (p:=At w2.heap.size 0) (by first|(simp;done)|(have hh:=zm2_2;simp;omega)|(have hh:=zm2_2;omega))).trans byA);(try have cb2_3:w3.cell? (At w2.heap.size 1)=some (I6 0):=(HQ.cell (p:=At w2.heap.size 1) (by first|(simp;done)|(have hh:=zm2_2;simp;omega)|(have hh:=zm2_2;omega))).trans byA);(try have fa2_3:w3.frozen? (At w2.heap.size 0)=false:=(HQ.frozen (p:=At w2.heap.size 0) (by first|(simp;done)|(have hh:=zm2_2;simp;omega)|(have hh:=zm2_2;omega))).trans byA);(try have fb2_3:w3.frozen? (At w2.heap.size 1)=false:=(HQ.frozen (p:=At w2.heap.size 1) (by first|(simp;done)|(have hh:=zm2_2;simp;omega)|(have hh:=zm2_2;omega))).trans byA);clear HQ;have HW3:Hid (Bl w w3):=(ab w l).trans (HB3.o.mono om);obtain⟨x0_3,x1_3,-,-,-,-,o_3,a_3,n_3,-,g_3,r0_3,r1_3,g0_3,g1_3,zx_3,z0_3,z1_3,-⟩:=LIVE.o w3 HB3.o;obtain⟨e0_3,e1_3,e2_3,e3_3⟩:=ROW.o w3 HW3.o;have ma2:¬(w2.heap.size=x):=(by have:=zx_2;omega);have mb2:¬(w2.heap.size=w.heap.size):=(by have:=z0_2;omega);have mc2:¬(w2.heap.size=gq):=(by have:=e3_2;omega);have md2:¬(w2.heap.size=w.heap.size+1):=(by have:=z1_2;omega);have HR3:Hid (Rd 2 eE (0,0) w3 (.slice b3 FR.length c3) FR):=hr3;clear hr3)|(go_at_call 110;refine Mo (HBF.o _ _ (HR3.o.below upB)) fun w4 HQ=>?_;have HB4:Hid (BW w l w4):=al (by have hp:=HB3.o;exact upB) sM HQ;(try have zm1_4:w1.heap.size<w4.heap.size:=(by have hh:=HQ.size;first|(simp at hh;omega)|(have h2:=zm1_3;simp at hh;omega)|(have h2:=zm1_3;omega)));(try have ca1_4:w4.cell? (At w1.heap.size 0)=some (U3 0):=(HQ.cell (p:=At w1.heap.size 0) (by first|(simp;done)|(have hh:=zm1_3;simp;omega)|(have hh:=zm1_3;omega))).trans byA);(try have cb1_4:w4.cell? (At w1.heap.size 1)=some (I6 0):=(HQ.cell (p:=At w1.heap.size 1) (by first|(simp;done)|(have hh:=zm1_3;simp;omega)|(have hh:=zm1_3;omega))).trans byA);(try have fa1_4:w4.frozen? (At w1.heap.size 0)=false:=(HQ.frozen (p:=At w1.heap.size 0) (by first|(simp;done)|(have hh:=zm1_3;simp;omega)|(have hh:=zm1_3;omega))).trans byA);(try have fb1_4:w4.frozen? (At w1.heap.size 1)=false:=(HQ.frozen (p:=At w1.heap.size 1) (by first|(simp;done)|(have hh:=zm1_3;simp;omega)|(have hh:=zm1_3;omega))).trans byA);(try have zm2_4:w2.heap.size<w4.heap.size:=(by have hh:=HQ.size;first|(simp at hh;omega)|(have h2:=zm2_3;simp at hh;omega)|(have h2:=zm2_3;omega)));(try have ca2_4:w4.cell? (At w2.heap.size 0)=some (U3 0):=(HQ.cell (p:=At w2.heap.size 0) (by first|(simp;done)|(have hh:=zm2_3;simp;omega)|(have hh:=zm2_3;omega))).trans byA);(try have cb2_4:w4.cell? (At w2.heap.size 1)=some (I6 0):=(HQ.cell (p:=At w2.heap.size 1) (by first|(simp;done)|(have hh:=zm2_3;simp;omega)|(have hh:=zm2_3;omega))).trans byA);(try have fa2_4:w4.frozen? (At w2.heap.size 0)=false:=(HQ.frozen (p:=At w2.heap.size 0) (by first|(simp;done)|(have hh:=zm2_3;simp;omega)|(have hh:=zm2_3;omega))).trans byA);(try have fb2_4:w4.frozen? (At w2.heap.size 1)=false:=(HQ.frozen (p:=At w2.heap.size 1) (by first|(simp;done)|(have hh:=zm2_3;simp;omega)|(have hh:=zm2_3;omega))).trans byA);(try have zm3_4:w3.heap.size<w4.heap.size:=(by have hh:=HQ.size;first|(simp at hh;omega)|(have h2:=zm3_3;simp at hh;omega)|(have h2:=zm3_3;omega)));(try have ca3_4:w4.cell? (At w3.heap.size 0)=some (U3 0):=(HQ.cell (p:=At w3.heap.size 0) (by first|(simp;done)|(have hh:=zm3_3;simp;omega)|(have hh:=zm3_3;omega))).trans byA);(try have cb3_4:w4.cell? (At w3.heap.size 1)=some (I6 0):=(HQ.cell (p:=At w3.heap.size 1) (by first|(simp;done)|(have hh:=zm3_3;simp;omega)|(have hh:=zm3_3;omega))).trans byA);(try have fa3_4:w4.frozen? (At w3.heap.size 0)=false:=(HQ.frozen (p:=At w3.heap.size 0) (by first|(simp;done)|(have hh:=zm3_3;simp;omega)|(have hh:=zm3_3;omega))).trans byA);(try have fb3_4:w4.frozen? (At w3.heap.size 1)=false:=(HQ.frozen (p:=At w3.heap.size 1) (by first|(simp;done)|(have hh:=zm3_3;simp;omega)|(have hh:=zm3_3;omega))).trans byA);clear HQ;have HW4:Hid (Bl w w4):=(ab w l).trans (HB4.o.mono om);obtain⟨x0_4,x1_4,-,-,-,-,o_4,a_4,n_4,-,g_4,r0_4,r1_4,g0_4,g1_4,zx_4,z0_4,z1_4,-⟩:=LIVE.o w4 HB4.o;obtain⟨e0_4,e1_4,e2_4,e3_4⟩:=ROW.o w4 HW4.o;have ma3:¬(w3.heap.size=x):=(by have:=zx_3;omega);have mb3:¬(w3.heap.size=w.heap.size):=(by have:=z0_3;omega);have mc3:¬(w3.heap.size=gq):=(by have:=e3_3;omega);have md3:¬(w3.heap.size=w.heap.size+1):=(by have:=z1_3;omega)))
  all_goals (
   go_wp2_with (go_at_call 39;refine Mo (az 10 _) fun w9 HQ=>?_;have HB9:Hid (BW w l w9):=al (by have hp:=HB4.o;exact upB) sM HQ;clear HQ;have HW9:Hid (Bl w w9):=(ab w l).trans (HB9.o.mono om);obtain⟨r0_9,r1_9,g0_9,g1_9,z1_9⟩:=(LIVE.o w9 HB9.o).q)
   have hR:=(LIVE.o w9 HB9.o).rb
   obtain⟨kk0,kk1⟩:=ay hR (I6 10) (.slice none 0 0)
   have hfin:=a7 (l:=l) 10 H.o HB9.o
   exact bodyPost_ret (v:=.agg #[I6 10,.slice none 0 0]) (by simp[results,results71,go_sem,kk0,kk1]) rfl hfin))
theorem rD(a b:Bz)(w:World)(ha:a.size<=1000000)(hb:b.size<=1000000):Cr prog 295 #[.string a,.string b] w (.string (a++⟨#[61]⟩++b)):=by
 go_enter func295,ntmps295
 go_wp2;go_ret;exact⟨rfl,upB⟩
theorem mH(l:Lu)(o:Bz):(⟨l.toArray⟩:Bz)++⟨#[61]⟩++o=⟨(l++61::o.data.toList).toArray⟩:=by
 apply ByteArray.ext
 apply Array.ext'
 simp
theorem vj(a n:Int)(ha:ad a)(hr:rt a n=true):(cF a n).length<=1000:=by
 have h1:=iZ a.toNat (by have:=ha.1;have:=ha.2;omega)
 obtain⟨n0,n1,_⟩:=aj.1 hr;have h2:(dec n.toNat).length<=3:=by
  rw[pJ n.toNat om];unfold sa;split
  ·simp
  ·split<;>simp
 unfold cF wr;simp;omega
theorem m9(h:Hd)(w:World)(hE:Env w)(ha:ad h.a)(hr:rt h.a h.n=true)(ho:h.o.size<=8):Cr prog 294 #[vH h] w (.string ⟨(bJ h).toArray⟩):=by
 have HT:Hid (∀ Wc,Bl w Wc->Cr prog 113 #[.agg #[U3 h.a,I6 h.n]] Wc (.string ⟨(cF h.a h.n).toArray⟩)):=fun Wc hW=>fC h.a h.n Wc (hE.mono hW) ha hr
 have HD:Hid (∀ Wc,Cr prog 295 #[.string ⟨(cF h.a h.n).toArray⟩,.string h.o] Wc (.string ⟨(bJ h).toArray⟩)):=fun Wc=>by
  have:=rD ⟨(cF h.a h.n).toArray⟩ h.o Wc (by have:=vj h.a h.n ha hr;simp[ByteArray.size];omega) om
  rw[mH] at this;exact this
 generalize (⟨(cF h.a h.n).toArray⟩:Bz)=t1 at HT HD
 generalize (⟨(bJ h).toArray⟩:Bz)=t2 at HD ⊢
 clear hE ha hr ho;obtain⟨a,n,o⟩:=h;unfold vH;dsimp only at *
 go_enter func294,ntmps294
 go_wp2;go_region_held3 (fun w'=>w'.cell? (At w.heap.size 0)=some (U3 a)/\w'.cell? (At w.heap.size 1)=some (I6 n)/\w'.cell? (At w.heap.size 2)=some (.string o)) (go_keep) (first|(go_at_call 113;refine Mo (HT.o _ upB) fun w1 hb1=>?_;have HB1:Hid (Bl w w1):=bup upB hb1;have k0:w1.cell? (At w.heap.size 0)=some (U3 a):=(by rw[hb1.cell (p:=At w.heap.size 0) sM];simp[go_sem]);have k1:w1.cell? (At w.heap.size 1)=some (I6 n):=(by rw[hb1.cell (p:=At w.heap.size 1) sM];simp[go_sem]);have k2:w1.cell? (At w.heap.size 2)=some (.string o):=(by rw[hb1.cell (p:=At w.heap.size 2) sM];simp[go_sem]);have z1:w.heap.size<w1.heap.size:=(by have:=hb1.size;simp at this;omega);clear hb1)|(go_at_call 295;refine Mo (HD.o _) fun w2 hb2=>?_;have HB2:Hid (Bl w w2):=bup HB1.o hb2;have j0:w2.cell? (At w.heap.size 0)=some (U3 a):=(hb2.cell (p:=At w.heap.size 0) z1).trans k0;have j1:w2.cell? (At w.heap.size 1)=some (I6 n):=(hb2.cell (p:=At w.heap.size 1) z1).trans k1;have j2:w2.cell? (At w.heap.size 2)=some (.string o):=(hb2.cell (p:=At w.heap.size 2) z1).trans k2;clear hb2))
 all_goals (
  go_wp2;go_ret;exact⟨rfl,HB2.o⟩)
theorem wB(h:Ls)(w:World)(hE:Env w)(ha:ad h.a)(ho:h.o.size<=8):Cr prog 296 #[vL h] w (.string ⟨(dt h).toArray⟩):=by
 have HT:Hid (∀ Wc,Bl w Wc->Cr prog 121 #[U3 h.a] Wc (.string ⟨(dot h.a.toNat).toArray⟩)):=fun Wc hW=>oV h.a Wc (hE.mono hW) ha.1 ha.2
 have HD:Hid (∀ Wc,Cr prog 295 #[.string ⟨(dot h.a.toNat).toArray⟩,.string h.o] Wc (.string ⟨(dt h).toArray⟩)):=fun Wc=>by
  have:=rD ⟨(dot h.a.toNat).toArray⟩ h.o Wc (by have:=iZ h.a.toNat (by have:=ha.1;have:=ha.2;omega);simp[ByteArray.size];omega) om
  rw[mH] at this;exact this
 generalize (⟨(dot h.a.toNat).toArray⟩:Bz)=t1 at HT HD
 generalize (⟨(dt h).toArray⟩:Bz)=t2 at HD ⊢
 clear hE ha ho;obtain⟨a,o⟩:=h;unfold vL;dsimp only at *
 go_enter func296,ntmps296
 go_wp2;go_region_held3 (fun w'=>w'.cell? (At w.heap.size 0)=some (U3 a)/\w'.cell? (At w.heap.size 1)=some (.string o)) (go_keep) (first|(go_at_call 121;refine Mo (HT.o _ upB) fun w1 hb1=>?_;have HB1:Hid (Bl w w1):=bup upB hb1;have k0:w1.cell? (At w.heap.size 0)=some (U3 a):=(by rw[hb1.cell (p:=At w.heap.size 0) sM];simp[go_sem]);have k1:w1.cell? (At w.heap.size 1)=some (.string o):=(by rw[hb1.cell (p:=At w.heap.size 1) sM];simp[go_sem]);have z1:w.heap.size<w1.heap.size:=(by have:=hb1.size;simp at this;omega);clear hb1)|(go_at_call 295;refine Mo (HD.o _) fun w2 hb2=>?_;have HB2:Hid (Bl w w2):=bup HB1.o hb2;have j0:w2.cell? (At w.heap.size 0)=some (U3 a):=(hb2.cell (p:=At w.heap.size 0) z1).trans k0;have j1:w2.cell? (At w.heap.size 1)=some (.string o):=(hb2.cell (p:=At w.heap.size 1) z1).trans k1;clear hb2))
 all_goals (
  go_wp2;go_ret;exact⟨rfl,HB2.o⟩)
theorem wC(w:World)(x:Nat)(S:Nat->Prop)(s:Bk)(l:Ln)(hI:Inv s)(hL:aZ l)(h:au w x S s)(k:Nat)(ok:Bz)(hk:k<s.pools.length)(h1:ah s.pools l.a l.n=k)(his:isH l.a l.n (s.pools.getD k hd0)=true)(hok:(s.pools.getD k hd0).o=ok)(res:Option (Int×Int))(hres:dN (aM 33 (af s.nets l.a l.n) l.a l.n) l.g=res)(h2:¬l.g<22)(h3:¬l.g<l.n)(b:Int×Int)(h4:res=some b)(h5:24<=s.nets.length):Calls prog 71 #[Pq x,.agg (lnC l)] w (Res w x S (s,ref 6)):=by
 obtain⟨vp,vn,vl,c,B⟩:=h;have hx:=B.blk.lt;have H:Hid (au w x S s):=⟨vp,vn,vl,c,B⟩
 obtain⟨x0,x1,x2⟩:=B.c3;have LIVE:Hid (∀ wk,BW w l wk->cd w wk x vp vn vl l):=aO l B
 have HBA:Hid (BA w x S vp vn vl c s):=B
 have hxa:¬(x=w.heap.size):=by omega
 have hxb:¬(w.heap.size=x):=by omega
 have HF:Hid (∀ Wc,Bl w Wc->Cr prog 106 #[vp,.agg #[U3 l.a,I6 l.n]] Wc (I6 (ah s.pools l.a l.n))):=fun Wc hW=>gD s.pools l.a l.n vp Wc (fun q hq=>(hI.pa q hq).1) hL.a ((Rd.of_owns (k:=3) (enc:=ak) (fun _=>rfl) hd0 B.op).below hW)
 rw[h1] at HF;have HSUB:Hid (∀ Wc,Bl w Wc->Calls prog 108 #[Pq x,.agg #[U3 l.a,I6 l.n,.string ok]] Wc fun e w'=>(∃ b c,e=.returned (.slice b (af s.nets l.a l.n).length c)/\Rd 3 ak hd0 w' (.slice b (af s.nets l.a l.n).length c) (af s.nets l.a l.n))/\Bl Wc w'):=fun Wc hW=>by
  refine(eh x s.nets ⟨l.a,l.n,ok⟩ vn Wc (Nat.lt_of_lt_of_le hx hW.size) ((hW.cell (p:=At x 1) hx).trans x1) ((Rd.of_owns (k:=3) (enc:=ak) (fun _=>rfl) hd0 B.on).below hW) (by have:=hI.n;omega) (fun q hq=>(hI.na q hq).1) hL.a).mono ?_
  rintro e w' ⟨vv,rfl,o1,o2⟩
  have o3:Rd 3 ak hd0 w' vv (af s.nets l.a l.n):=Rd.of_owns (k:=3) (enc:=ak) (fun _=>rfl) hd0 o1
  obtain⟨b,c,rfl,_,_⟩:=ae o1;exact⟨⟨b,c,rfl,o3⟩,o2⟩
 have HFB:Hid (∀ Wc v,Rd 3 ak hd0 Wc v (af s.nets l.a l.n)->Calls prog 111 #[.agg #[U3 l.a,I6 l.n],v] Wc fun e w'=>(∃ b c,e=.returned (.slice b (aM 33 (af s.nets l.a l.n) l.a l.n).length c)/\Rd 2 eE (0,0) w' (.slice b (aM 33 (af s.nets l.a l.n) l.a l.n).length c) (aM 33 (af s.nets l.a l.n) l.a l.n))/\Bl Wc w'):=fun Wc v hv=>by
  refine(e8 (af s.nets l.a l.n) (fun q hq=>by have hm:=hI.na q (List.mem_filter.1 hq).1;exact⟨hm.1,(aj.1 hm.2.1).2.1⟩) v 33 om l.a l.n Wc hL.a hL.r (by have:=(aj.1 hL.r).1;omega) hv).mono ?_
  rintro e w' ⟨vv,rfl,o1,o2⟩
  have o3:Rd 2 eE (0,0) w' vv (aM 33 (af s.nets l.a l.n) l.a l.n):=Rd.of_owns (k:=2) (enc:=eE) (fun _=>rfl) (0,0) o1
  obtain⟨b,c,rfl,_,_⟩:=ae o1;exact⟨⟨b,c,rfl,o3⟩,o2⟩
 have HBF:Hid (∀ Wc v,Rd 2 eE (0,0) Wc v (aM 33 (af s.nets l.a l.n) l.a l.n)->Cr prog 110 #[v,I6 l.g] Wc (.tuple #[.agg #[U3 (obA res),I6 (obN res)],.bool res.isSome])):=fun Wc v hv=>by
  rw[<- hres];exact gx _ l.g v Wc hv (by have h1:=fK (af s.nets l.a l.n) 33 l.a l.n;have:2^33<=9223372036854775806:=(by decide);omega)
 generalize aM 33 (af s.nets l.a l.n) l.a l.n=FR at HFB HBF
 generalize af s.nets l.a l.n=NO at HSUB HFB
 subst h4;obtain⟨ba,bn⟩:=b;simp only[obA,obN,Option.getD_some,Option.isSome_some] at HBF
 have hkk:∀ q:Hd,(ak q).length=3:=fun _=>rfl
 have hrd:=Rd.of_owns hkk hd0 B.op;obtain⟨bq,cq,ev,hq1,hq2,hq3⟩:=hrd;obtain⟨gq,rfl,hq4,hq5⟩:=hq3 (by intro e;rw[e] at hk;simp at hk)
 have hk5:=hq5 k hk;have hk6:(s.pools.getD k hd0).a=l.a/\(s.pools.getD k hd0).n=l.n:=by simpa[isH] using his
 have ROW:Hid (∀ wk,Bl w wk->wk.cell? (At gq (k*3))=some (U3 l.a)/\wk.cell? (At gq (k*3+1))=some (I6 l.n)/\wk.cell? (At gq (k*3+2))=some (.string ok)/\gq<wk.heap.size):=fun wk hw =>
  ⟨(hw.cell (p:=At gq (k*3)) hq4).trans (by rw[<- hk6.1];exact hk5 0 _ rfl),(hw.cell (p:=At gq (k*3+1)) hq4).trans (by rw[<- hk6.2];exact hk5 1 _ rfl),(hw.cell (p:=At gq (k*3+2)) hq4).trans (by rw[<- hok];exact hk5 2 _ rfl),Nat.lt_of_lt_of_le hq4 hw.size⟩
 have hkz:(k:Int)<(s.pools.length:Int):=by omega
 have hkn:¬((k:Int)<0):=by omega
 have hk0:(0:Int)<=(k:Int):=by omega
 clear hq1 hq2 hq5 hk5 hk6 his hok;subst ev;obtain⟨bn,cn,en,_,_⟩:=ae B.on;subst en;have h6:(24:Int)<=(s.nets.length:Int):=by omega
 clear B;unfold lnC;go_enter func71,ntmps71
 go_wp2;go_region_held3 (fun w'=>w'.cell? (At x 0)=some (Sq gq s.pools.length cq)/\w'.cell? (At w.heap.size 3)=some (U3 l.a)/\w'.cell? (At w.heap.size 4)=some (I6 l.n)) (go_keep) (first|(go_at_call 106;refine Mo (HF.o _ upB) fun w1 HQ=>?_;have HB1:Hid (BW w l w1):=al upB sM HQ;clear HQ;have HW1:Hid (Bl w w1):=(ab w l).trans (HB1.o.mono om);obtain⟨x0_1,x1_1,-,-,-,-,o_1,a_1,n_1,-,g_1,r0_1,r1_1,g0_1,g1_1,zx_1,z0_1,z1_1,-⟩:=LIVE.o w1 HB1.o;obtain⟨e0_1,e1_1,e2_1,e3_1⟩:=ROW.o w1 HW1.o))
 all_goals (
  go_wp2;go_region_held3 (fun w'=>w'.cell? (At x 0)=some (Sq gq s.pools.length cq)/\w'.cell? (At w.heap.size 3)=some (U3 l.a)/\w'.cell? (At w.heap.size 4)=some (I6 l.n)/\w'.cell? (At w.heap.size 6)=some (I6 l.g)/\w'.cell? (At gq (k*3))=some (U3 l.a)/\w'.cell? (At gq (k*3+1))=some (I6 l.n)/\w'.cell? (At gq (k*3+2))=some (.string ok)) (go_keep) (first|(go_at_call 108;refine(HSUB.o _ (by have hp:=HW1.o;exact upB)).mono ?_;rintro e w2 ⟨⟨b2,c2,rfl,hr2⟩,HQ⟩;have HB2:Hid (BW w l w2):=al (by have hp:=HB1.o;exact upB) sM HQ;(try have zm1_2:w1.heap.size<w2.heap.size:=(by have hh:=HQ.size;first|(simp at hh;omega)|(have h2:=zm1_1;simp at hh;omega)|(have h2:=zm1_1;omega)));(try have ca1_2:w2.cell? (At w1.heap.size 0)=some (U3 0):=(HQ.cell (p:=At w1.heap.size 0) (by first|(simp;done)|(have hh:=zm1_1;simp;omega)|(have hh:=zm1_1;omega))).trans byA);(try have cb1_2:w2.cell? (At w1.heap.size 1)=some (I6 0):=(HQ.cell (p:=At w1.heap.size 1) (by first|(simp;done)|(have hh:=zm1_1;simp;omega)|(have hh:=zm1_1;omega))).trans byA);(try have fa1_2:w2.frozen? (At w1.heap.size 0)=false:=(HQ.frozen (p:=At w1.heap.size 0) (by first|(simp;done)|(have hh:=zm1_1;simp;omega)|(have hh:=zm1_1;omega))).trans byA);(try have fb1_2:w2.frozen? (At w1.heap.size 1)=false:=(HQ.frozen (p:=At w1.heap.size 1) (by first|(simp;done)|(have hh:=zm1_1;simp;omega)|(have hh:=zm1_1;omega))).trans byA);clear HQ;have HW2:Hid (Bl w w2):=(ab w l).trans (HB2.o.mono om);obtain⟨x0_2,x1_2,-,-,-,-,o_2,a_2,n_2,-,g_2,r0_2,r1_2,g0_2,g1_2,zx_2,z0_2,z1_2,-⟩:=LIVE.o w2 HB2.o;obtain⟨e0_2,e1_2,e2_2,e3_2⟩:=ROW.o w2 HW2.o;have ma1:¬(w1.heap.size=x):=(by have:=zx_1;omega);have mb1:¬(w1.heap.size=w.heap.size):=(by have:=z0_1;omega);have mc1:¬(w1.heap.size=gq):=(by have:=e3_1;omega);have md1:¬(w1.heap.size=w.heap.size+1):=(by have:=z1_1;omega);have HR2:Hid (Rd 3 ak hd0 w2 (.slice b2 NO.length c2) NO):=hr2;clear hr2)|(go_at_call 111;refine(HFB.o _ _ (HR2.o.below upB)).mono ?_;rintro e w3 ⟨⟨b3,c3,rfl,hr3⟩,HQ⟩;have HB3:Hid (BW w l w3):=al (by have hp:=HB2.o;exact upB) sM HQ;(try have zm1_3:w1.heap.size<w3.heap.size:=(by have hh:=HQ.size;first|(simp at hh;omega)|(have h2:=zm1_2;simp at hh;omega)|(have h2:=zm1_2;omega)));(try have ca1_3:w3.cell? (At w1.heap.size 0)=some (U3 0):=(HQ.cell (p:=At w1.heap.size 0) (by first|(simp;done)|(have hh:=zm1_2;simp;omega)|(have hh:=zm1_2;omega))).trans byA);(try have cb1_3:w3.cell? (At w1.heap.size 1)=some (I6 0):=(HQ.cell (p:=At w1.heap.size 1) (by first|(simp;done)|(have hh:=zm1_2;simp;omega)|(have hh:=zm1_2;omega))).trans byA);(try have fa1_3:w3.frozen? (At w1.heap.size 0)=false:=(HQ.frozen (p:=At w1.heap.size 0) (by first|(simp;done)|(have hh:=zm1_2;simp;omega)|(have hh:=zm1_2;omega))).trans byA);(try have fb1_3:w3.frozen? (At w1.heap.size 1)=false:=(HQ.frozen (p:=At w1.heap.size 1) (by first|(simp;done)|(have hh:=zm1_2;simp;omega)|(have hh:=zm1_2;omega))).trans byA);(try have zm2_3:w2.heap.size<w3.heap.size:=(by have hh:=HQ.size;first|(simp at hh;omega)|(have h2:=zm2_2;simp at hh;omega)|(have h2:=zm2_2;omega)));(try have ca2_3:w3.cell? (At w2.heap.size 0)=some (U3 0):=(HQ.cell (p:=At w2.heap.size 0) (by first|(simp;done)|(have hh:=zm2_2;simp;omega)|(have hh:=zm2_2;omega))).trans byA);(try have cb2_3:w3.cell? (At w2.heap.size 1)=some (I6 0):=(HQ.cell (p:=At w2.heap.size 1) (by first|(simp;done)|(have hh:=zm2_2;simp;omega)|(have hh:=zm2_2;omega))).trans byA);(try have fa2_3:w3.frozen? (At w2.heap.size 0)=false:=(HQ.frozen (p:=At w2.heap.size 0) (by first|(simp;done)|(have hh:=zm2_2;simp;omega)|(have hh:=zm2_2;omega))).trans byA);(try have fb2_3:w3.frozen? (At w2.heap.size 1)=false:=(HQ.frozen (p:=At w2.heap.size 1) (by first|(simp;done)|(have hh:=zm2_2;simp;omega)|(have hh:=zm2_2;omega))).trans byA);clear HQ;have HW3:Hid (Bl w w3):=(ab w l).trans (HB3.o.mono om);obtain⟨x0_3,x1_3,-,-,-,-,o_3,a_3,n_3,-,g_3,r0_3,r1_3,g0_3,g1_3,zx_3,z0_3,z1_3,-⟩:=LIVE.o w3 HB3.o;obtain⟨e0_3,e1_3,e2_3,e3_3⟩:=ROW.o w3 HW3.o;have ma2:¬(w2.heap.size=x):=(by have:=zx_2;omega);have mb2:¬(w2.heap.size=w.heap.size):=(by have:=z0_2;omega);have mc2:¬(w2.heap.size=gq):=(by have:=e3_2;omega);have md2:¬(w2.heap.size=w.heap.size+1):=(by have:=z1_2;omega);have HR3:Hid (Rd 2 eE (0,0) w3 (.slice b3 FR.length c3) FR):=hr3;clear hr3)|(go_at_call 110;refine Mo (HBF.o _ _ (HR3.o.below upB)) fun w4 HQ=>?_;have HB4:Hid (BW w l w4):=al (by have hp:=HB3.o;exact upB) sM HQ;(try have zm1_4:w1.heap.size<w4.heap.size:=(by have hh:=HQ.size;first|(simp at hh;omega)|(have h2:=zm1_3;simp at hh;omega)|(have h2:=zm1_3;omega)));(try have ca1_4:w4.cell? (At w1.heap.size 0)=some (U3 0):=(HQ.cell (p:=At w1.heap.size 0) (by first|(simp;done)|(have hh:=zm1_3;simp;omega)|(have hh:=zm1_3;omega))).trans byA);(try have cb1_4:w4.cell? (At w1.heap.size 1)=some (I6 0):=(HQ.cell (p:=At w1.heap.size 1) (by first|(simp;done)|(have hh:=zm1_3;simp;omega)|(have hh:=zm1_3;omega))).trans byA);(try have fa1_4:w4.frozen? (At w1.heap.size 0)=false:=(HQ.frozen (p:=At w1.heap.size 0) (by first|(simp;done)|(have hh:=zm1_3;simp;omega)|(have hh:=zm1_3;omega))).trans byA);(try have fb1_4:w4.frozen? (At w1.heap.size 1)=false:=(HQ.frozen (p:=At w1.heap.size 1) (by first|(simp;done)|(have hh:=zm1_3;simp;omega)|(have hh:=zm1_3;omega))).trans byA);(try have zm2_4:w2.heap.size<w4.heap.size:=(by have hh:=HQ.size;first|(simp at hh;omega)|(have h2:=zm2_3;simp at hh;omega)|(have h2:=zm2_3;omega)));(try have ca2_4:w4.cell? (At w2.heap.size 0)=some (U3 0):=(HQ.cell (p:=At w2.heap.size 0) (by first|(simp;done)|(have hh:=zm2_3;simp;omega)|(have hh:=zm2_3;omega))).trans byA);(try have cb2_4:w4.cell? (At w2.heap.size 1)=some (I6 0):=(HQ.cell (p:=At w2.heap.size 1) (by first|(simp;done)|(have hh:=zm2_3;simp;omega)|(have hh:=zm2_3;omega))).trans byA);(try have fa2_4:w4.frozen? (At w2.heap.size 0)=false:=(HQ.frozen (p:=At w2.heap.size 0) (by first|(simp;done)|(have hh:=zm2_3;simp;omega)|(have hh:=zm2_3;omega))).trans byA);(try have fb2_4:w4.frozen? (At w2.heap.size 1)=false:=(HQ.frozen (p:=At w2.heap.size 1) (by first|(simp;done)|(have hh:=zm2_3;simp;omega)|(have hh:=zm2_3;omega))).trans byA);(try have zm3_4:w3.heap.size<w4.heap.size:=(by have hh:=HQ.size;first|(simp at hh;omega)|(have h2:=zm3_3;simp at hh;omega)|(have h2:=zm3_3;omega)));(try have ca3_4:w4.cell? (At w3.heap.size 0)=some (U3 0):=(HQ.cell (p:=At w3.heap.size 0) (by first|(simp;done)|(have hh:=zm3_3;simp;omega)|(have hh:=zm3_3;omega))).trans byA);(try have cb3_4:w4.cell? (At w3.heap.size 1)=some (I6 0):=(HQ.cell (p:=At w3.heap.size 1) (by first|(simp;done)|(have hh:=zm3_3;simp;omega)|(have hh:=zm3_3;omega))).trans byA);(try have fa3_4:w4.frozen? (At w3.heap.size 0)=false:=(HQ.frozen (p:=At w3.heap.size 0) (by first|(simp;done)|(have hh:=zm3_3;simp;omega)|(have hh:=zm3_3;omega))).trans byA);(try have fb3_4:w4.frozen? (At w3.heap.size 1)=false:=(HQ.frozen (p:=At w3.heap.size 1) (by first|(simp;done)|(have hh:=zm3_3;simp;omega)|(have hh:=zm3_3;omega))).trans byA);clear HQ;have HW4:Hid (Bl w w4):=(ab w l).trans (HB4.o.mono om);obtain⟨x0_4,x1_4,-,-,-,-,o_4,a_4,n_4,-,g_4,r0_4,r1_4,g0_4,g1_4,zx_4,z0_4,z1_4,-⟩:=LIVE.o w4 HB4.o;obtain⟨e0_4,e1_4,e2_4,e3_4⟩:=ROW.o w4 HW4.o;have ma3:¬(w3.heap.size=x):=(by have:=zx_3;omega);have mb3:¬(w3.heap.size=w.heap.size):=(by have:=z0_3;omega);have mc3:¬(w3.heap.size=gq):=(by have:=e3_3;omega);have md3:¬(w3.heap.size=w.heap.size+1):=(by have:=z1_3;omega)))
  all_goals (
   go_wp2_with (go_at_call 39;refine Mo (az 6 _) fun w9 HQ=>?_;have HB9:Hid (BW w l w9):=al (by have hp:=HB4.o;exact upB) sM HQ;clear HQ;have HW9:Hid (Bl w w9):=(ab w l).trans (HB9.o.mono om);obtain⟨r0_9,r1_9,g0_9,g1_9,z1_9⟩:=(LIVE.o w9 HB9.o).q)
   have hR:=(LIVE.o w9 HB9.o).rb
   obtain⟨kk0,kk1⟩:=ay hR (I6 6) (.slice none 0 0)
   have hfin:=a7 (l:=l) 6 H.o HB9.o
   exact bodyPost_ret (v:=.agg #[I6 6,.slice none 0 0]) (by simp[results,results71,go_sem,kk0,kk1]) rfl hfin))
theorem ym(w:World)(o:Obj)(u v:Value):Blk ((w.alloc o).alloc (.cells #[u,v] 80)) (w.heap.size+1) #[u,v] 80:=by
 have h:=Blk.new (w.alloc o) #[u,v] 80
 rw[show (w.alloc o).heap.size=w.heap.size+1 by simp] at h;exact h
theorem yp(w:World)(a b:Addr)(p q u v:Value):Blk (((w.setCell a p).setCell b q).alloc (.cells #[u,v] 80)) w.heap.size #[u,v] 80:=by
 have h:=Blk.new ((w.setCell a p).setCell b q) #[u,v] 80
 rw[show ((w.setCell a p).setCell b q).heap.size=w.heap.size by simp[World.setCell]] at h;exact h
theorem Fg(w:World)(x:Nat)(S:Nat->Prop)(s:Bk)(l:Ln)(hI:Inv s)(hL:aZ l)(h:au w x S s)(k:Nat)(ok:Bz)(hk:k<s.pools.length)(h1:ah s.pools l.a l.n=k)(his:isH l.a l.n (s.pools.getD k hd0)=true)(hok:(s.pools.getD k hd0).o=ok)(res:Option (Int×Int))(hres:dN (aM 33 (af s.nets l.a l.n) l.a l.n) l.g=res)(h2:¬l.g<22)(h3:¬l.g<l.n)(ba bn:Int)(hba:ad ba/\rt ba l.g=true)(h4:res=some (ba,bn))(h5:¬24<=s.nets.length)(hE:Env w)(hG:∀ b,S b->10<=b)(hZ:10<=w.heap.size):Calls prog 71 #[Pq x,.agg (lnC l)] w (Res w x S ({ s with nets:=cm s.nets ⟨ba,l.g,l.o⟩ },eB ⟨(cF ba l.g).toArray⟩)):=by
 obtain⟨vp,vn,vl,c,B⟩:=h;have hx:=B.blk.lt;have H:Hid (au w x S s):=⟨vp,vn,vl,c,B⟩
 obtain⟨x0,x1,x2⟩:=B.c3;have LIVE:Hid (∀ wk,BW w l wk->cd w wk x vp vn vl l):=aO l B
 have HBA:Hid (BA w x S vp vn vl c s):=B
 have hxa:¬(x=w.heap.size):=by omega
 have hxb:¬(w.heap.size=x):=by omega
 have EN:Hid (Env w):=hE
 have GS:Hid (∀ b,S b->10<=b):=hG
 have ZG:Hid (10<=w.heap.size):=hZ
 clear hE hG hZ;have HS:Hid (∀ b,S b->b<w.heap.size):=B.sz
 have LATE:Hid (∀ Wc w5 M,Blk Wc M #[U3 ba,I6 l.g] 80->w.heap.size<=M->Chg S Wc w5->Blk w5 M #[U3 ba,I6 l.g] 80):=fun Wc w5 M h1 h2 h3=>(h3.block M h1.lt (fun q=>by have:=B.sz _ q;omega)).trans h1
 have HF:Hid (∀ Wc,Bl w Wc->Cr prog 106 #[vp,.agg #[U3 l.a,I6 l.n]] Wc (I6 (ah s.pools l.a l.n))):=fun Wc hW=>gD s.pools l.a l.n vp Wc (fun q hq=>(hI.pa q hq).1) hL.a ((Rd.of_owns (k:=3) (enc:=ak) (fun _=>rfl) hd0 B.op).below hW)
 rw[h1] at HF;have HSUB:Hid (∀ Wc,Bl w Wc->Calls prog 108 #[Pq x,.agg #[U3 l.a,I6 l.n,.string ok]] Wc fun e w'=>(∃ b c,e=.returned (.slice b (af s.nets l.a l.n).length c)/\Rd 3 ak hd0 w' (.slice b (af s.nets l.a l.n).length c) (af s.nets l.a l.n))/\Bl Wc w'):=fun Wc hW=>by
  refine(eh x s.nets ⟨l.a,l.n,ok⟩ vn Wc (Nat.lt_of_lt_of_le hx hW.size) ((hW.cell (p:=At x 1) hx).trans x1) ((Rd.of_owns (k:=3) (enc:=ak) (fun _=>rfl) hd0 B.on).below hW) (by have:=hI.n;omega) (fun q hq=>(hI.na q hq).1) hL.a).mono ?_
  rintro e w' ⟨vv,rfl,o1,o2⟩
  have o3:Rd 3 ak hd0 w' vv (af s.nets l.a l.n):=Rd.of_owns (k:=3) (enc:=ak) (fun _=>rfl) hd0 o1
  obtain⟨b,c,rfl,_,_⟩:=ae o1;exact⟨⟨b,c,rfl,o3⟩,o2⟩
 have HFB:Hid (∀ Wc v,Rd 3 ak hd0 Wc v (af s.nets l.a l.n)->Calls prog 111 #[.agg #[U3 l.a,I6 l.n],v] Wc fun e w'=>(∃ b c,e=.returned (.slice b (aM 33 (af s.nets l.a l.n) l.a l.n).length c)/\Rd 2 eE (0,0) w' (.slice b (aM 33 (af s.nets l.a l.n) l.a l.n).length c) (aM 33 (af s.nets l.a l.n) l.a l.n))/\Bl Wc w'):=fun Wc v hv=>by
  refine(e8 (af s.nets l.a l.n) (fun q hq=>by have hm:=hI.na q (List.mem_filter.1 hq).1;exact⟨hm.1,(aj.1 hm.2.1).2.1⟩) v 33 om l.a l.n Wc hL.a hL.r (by have:=(aj.1 hL.r).1;omega) hv).mono ?_
  rintro e w' ⟨vv,rfl,o1,o2⟩
  have o3:Rd 2 eE (0,0) w' vv (aM 33 (af s.nets l.a l.n) l.a l.n):=Rd.of_owns (k:=2) (enc:=eE) (fun _=>rfl) (0,0) o1
  obtain⟨b,c,rfl,_,_⟩:=ae o1;exact⟨⟨b,c,rfl,o3⟩,o2⟩
 have HBF:Hid (∀ Wc v,Rd 2 eE (0,0) Wc v (aM 33 (af s.nets l.a l.n) l.a l.n)->Cr prog 110 #[v,I6 l.g] Wc (.tuple #[.agg #[U3 (obA res),I6 (obN res)],.bool res.isSome])):=fun Wc v hv=>by
  rw[<- hres];exact gx _ l.g v Wc hv (by have h1:=fK (af s.nets l.a l.n) 33 l.a l.n;have:2^33<=9223372036854775806:=(by decide);omega)
 generalize aM 33 (af s.nets l.a l.n) l.a l.n=FR at HFB HBF
 generalize af s.nets l.a l.n=NO at HSUB HFB
 subst h4;simp only[obA,obN,Option.getD_some,Option.isSome_some] at HBF
 have HAD:Hid (∀ Wc,Bl w Wc->Calls prog 112 #[Pq x,.agg #[U3 ba,I6 l.g],.string l.o] Wc fun e w'=>e=.returned (.tuple #[])/\∃ S',au w' x S' { s with nets:=cm s.nets ⟨ba,l.g,l.o⟩ }/\(∀ b,S' b->S b\/Wc.heap.size<=b)/\Chg S Wc w'):=fun Wc hW=>il Wc x S s ba l.g l.o hI (H.o.below hW)
 have HBT:Hid (∀ Wc,Env Wc->Cr prog 113 #[.agg #[U3 ba,I6 l.g]] Wc (.string ⟨(cF ba l.g).toArray⟩)):=fun Wc hE=>fC ba l.g Wc hE hba.1 hba.2
 generalize (⟨(cF ba l.g).toArray⟩:Bz)=tt at HBT ⊢
 have hkk:∀ q:Hd,(ak q).length=3:=fun _=>rfl
 have hrd:=Rd.of_owns hkk hd0 B.op;obtain⟨bq,cq,ev,hq1,hq2,hq3⟩:=hrd;obtain⟨gq,rfl,hq4,hq5⟩:=hq3 (by intro e;rw[e] at hk;simp at hk)
 have hk5:=hq5 k hk;have hk6:(s.pools.getD k hd0).a=l.a/\(s.pools.getD k hd0).n=l.n:=by simpa[isH] using his
 have ROW:Hid (∀ wk,Bl w wk->wk.cell? (At gq (k*3))=some (U3 l.a)/\wk.cell? (At gq (k*3+1))=some (I6 l.n)/\wk.cell? (At gq (k*3+2))=some (.string ok)/\gq<wk.heap.size):=fun wk hw =>
  ⟨(hw.cell (p:=At gq (k*3)) hq4).trans (by rw[<- hk6.1];exact hk5 0 _ rfl),(hw.cell (p:=At gq (k*3+1)) hq4).trans (by rw[<- hk6.2];exact hk5 1 _ rfl),(hw.cell (p:=At gq (k*3+2)) hq4).trans (by rw[<- hok];exact hk5 2 _ rfl),Nat.lt_of_lt_of_le hq4 hw.size⟩
 have hkz:(k:Int)<(s.pools.length:Int):=by omega
 have hkn:¬((k:Int)<0):=by omega
 have hk0:(0:Int)<=(k:Int):=by omega
 clear hq1 hq2 hq5 hk5 hk6 his hok;subst ev;obtain⟨bn,cn,en,_,_⟩:=ae B.on;subst en;have h6:¬(24:Int)<=(s.nets.length:Int):=by omega
 clear B;unfold lnC;go_enter func71,ntmps71
 go_wp2;go_region_held3 (fun w'=>w'.cell? (At x 0)=some (Sq gq s.pools.length cq)/\w'.cell? (At w.heap.size 3)=some (U3 l.a)/\w'.cell? (At w.heap.size 4)=some (I6 l.n)) (go_keep) (first|(go_at_call 106;refine Mo (HF.o _ upB) fun w1 HQ=>?_;have HB1:Hid (BW w l w1):=al upB sM HQ;clear HQ;have HW1:Hid (Bl w w1):=(ab w l).trans (HB1.o.mono om);obtain⟨x0_1,x1_1,-,-,-,-,o_1,a_1,n_1,-,g_1,r0_1,r1_1,g0_1,g1_1,zx_1,z0_1,z1_1,-⟩:=LIVE.o w1 HB1.o;obtain⟨e0_1,e1_1,e2_1,e3_1⟩:=ROW.o w1 HW1.o))
 all_goals (
  go_wp2;go_region_held3 (fun w'=>w'.cell? (At x 0)=some (Sq gq s.pools.length cq)/\w'.cell? (At w.heap.size 3)=some (U3 l.a)/\w'.cell? (At w.heap.size 4)=some (I6 l.n)/\w'.cell? (At w.heap.size 6)=some (I6 l.g)/\w'.cell? (At gq (k*3))=some (U3 l.a)/\w'.cell? (At gq (k*3+1))=some (I6 l.n)/\w'.cell? (At gq (k*3+2))=some (.string ok)) (go_keep) (first|(go_at_call 108;refine(HSUB.o _ (by have hp:=HW1.o;exact upB)).mono ?_;rintro e w2 ⟨⟨b2,c2,rfl,hr2⟩,HQ⟩;have HB2:Hid (BW w l w2):=al (by have hp:=HB1.o;exact upB) sM HQ;(try have zm1_2:w1.heap.size<w2.heap.size:=(by have hh:=HQ.size;first|(simp at hh;omega)|(have h2:=zm1_1;simp at hh;omega)|(have h2:=zm1_1;omega)));(try have ca1_2:w2.cell? (At w1.heap.size 0)=some (U3 0):=(HQ.cell (p:=At w1.heap.size 0) (by first|(simp;done)|(have hh:=zm1_1;simp;omega)|(have hh:=zm1_1;omega))).trans byA);(try have cb1_2:w2.cell? (At w1.heap.size 1)=some (I6 0):=(HQ.cell (p:=At w1.heap.size 1) (by first|(simp;done)|(have hh:=zm1_1;simp;omega)|(have hh:=zm1_1;omega))).trans byA);(try have fa1_2:w2.frozen? (At w1.heap.size 0)=false:=(HQ.frozen (p:=At w1.heap.size 0) (by first|(simp;done)|(have hh:=zm1_1;simp;omega)|(have hh:=zm1_1;omega))).trans byA);(try have fb1_2:w2.frozen? (At w1.heap.size 1)=false:=(HQ.frozen (p:=At w1.heap.size 1) (by first|(simp;done)|(have hh:=zm1_1;simp;omega)|(have hh:=zm1_1;omega))).trans byA);clear HQ;have HW2:Hid (Bl w w2):=(ab w l).trans (HB2.o.mono om);obtain⟨x0_2,x1_2,-,-,-,-,o_2,a_2,n_2,-,g_2,r0_2,r1_2,g0_2,g1_2,zx_2,z0_2,z1_2,-⟩:=LIVE.o w2 HB2.o;obtain⟨e0_2,e1_2,e2_2,e3_2⟩:=ROW.o w2 HW2.o;have ma1:¬(w1.heap.size=x):=(by have:=zx_1;omega);have mb1:¬(w1.heap.size=w.heap.size):=(by have:=z0_1;omega);have mc1:¬(w1.heap.size=gq):=(by have:=e3_1;omega);have md1:¬(w1.heap.size=w.heap.size+1):=(by have:=z1_1;omega);have HR2:Hid (Rd 3 ak hd0 w2 (.slice b2 NO.length c2) NO):=hr2;clear hr2)|(go_at_call 111;refine(HFB.o _ _ (HR2.o.below upB)).mono ?_;rintro e w3 ⟨⟨b3,c3,rfl,hr3⟩,HQ⟩;have HB3:Hid (BW w l w3):=al (by have hp:=HB2.o;exact upB) sM HQ;(try have zm1_3:w1.heap.size<w3.heap.size:=(by have hh:=HQ.size;first|(simp at hh;omega)|(have h2:=zm1_2;simp at hh;omega)|(have h2:=zm1_2;omega)));(try have ca1_3:w3.cell? (At w1.heap.size 0)=some (U3 0):=(HQ.cell (p:=At w1.heap.size 0) (by first|(simp;done)|(have hh:=zm1_2;simp;omega)|(have hh:=zm1_2;omega))).trans byA);(try have cb1_3:w3.cell? (At w1.heap.size 1)=some (I6 0):=(HQ.cell (p:=At w1.heap.size 1) (by first|(simp;done)|(have hh:=zm1_2;simp;omega)|(have hh:=zm1_2;omega))).trans byA);(try have fa1_3:w3.frozen? (At w1.heap.size 0)=false:=(HQ.frozen (p:=At w1.heap.size 0) (by first|(simp;done)|(have hh:=zm1_2;simp;omega)|(have hh:=zm1_2;omega))).trans byA);(try have fb1_3:w3.frozen? (At w1.heap.size 1)=false:=(HQ.frozen (p:=At w1.heap.size 1) (by first|(simp;done)|(have hh:=zm1_2;simp;omega)|(have hh:=zm1_2;omega))).trans byA);(try have zm2_3:w2.heap.size<w3.heap.size:=(by have hh:=HQ.size;first|(simp at hh;omega)|(have h2:=zm2_2;simp at hh;omega)|(have h2:=zm2_2;omega)));(try have ca2_3:w3.cell? (At w2.heap.size 0)=some (U3 0):=(HQ.cell (p:=At w2.heap.size 0) (by first|(simp;done)|(have hh:=zm2_2;simp;omega)|(have hh:=zm2_2;omega))).trans byA);(try have cb2_3:w3.cell? (At w2.heap.size 1)=some (I6 0):=(HQ.cell (p:=At w2.heap.size 1) (by first|(simp;done)|(have hh:=zm2_2;simp;omega)|(have hh:=zm2_2;omega))).trans byA);(try have fa2_3:w3.frozen? (At w2.heap.size 0)=false:=(HQ.frozen (p:=At w2.heap.size 0) (by first|(simp;done)|(have hh:=zm2_2;simp;omega)|(have hh:=zm2_2;omega))).trans byA);(try have fb2_3:w3.frozen? (At w2.heap.size 1)=false:=(HQ.frozen (p:=At w2.heap.size 1) (by first|(simp;done)|(have hh:=zm2_2;simp;omega)|(have hh:=zm2_2;omega))).trans byA);clear HQ;have HW3:Hid (Bl w w3):=(ab w l).trans (HB3.o.mono om);obtain⟨x0_3,x1_3,-,-,-,-,o_3,a_3,n_3,-,g_3,r0_3,r1_3,g0_3,g1_3,zx_3,z0_3,z1_3,-⟩:=LIVE.o w3 HB3.o;obtain⟨e0_3,e1_3,e2_3,e3_3⟩:=ROW.o w3 HW3.o;have ma2:¬(w2.heap.size=x):=(by have:=zx_2;omega);have mb2:¬(w2.heap.size=w.heap.size):=(by have:=z0_2;omega);have mc2:¬(w2.heap.size=gq):=(by have:=e3_2;omega);have md2:¬(w2.heap.size=w.heap.size+1):=(by have:=z1_2;omega);have HR3:Hid (Rd 2 eE (0,0) w3 (.slice b3 FR.length c3) FR):=hr3;clear hr3)|(go_at_call 110;refine Mo (HBF.o _ _ (HR3.o.below upB)) fun w4 HQ=>?_;have HB4:Hid (BW w l w4):=al (by have hp:=HB3.o;exact upB) sM HQ;(try have zm1_4:w1.heap.size<w4.heap.size:=(by have hh:=HQ.size;first|(simp at hh;omega)|(have h2:=zm1_3;simp at hh;omega)|(have h2:=zm1_3;omega)));(try have ca1_4:w4.cell? (At w1.heap.size 0)=some (U3 0):=(HQ.cell (p:=At w1.heap.size 0) (by first|(simp;done)|(have hh:=zm1_3;simp;omega)|(have hh:=zm1_3;omega))).trans byA);(try have cb1_4:w4.cell? (At w1.heap.size 1)=some (I6 0):=(HQ.cell (p:=At w1.heap.size 1) (by first|(simp;done)|(have hh:=zm1_3;simp;omega)|(have hh:=zm1_3;omega))).trans byA);(try have fa1_4:w4.frozen? (At w1.heap.size 0)=false:=(HQ.frozen (p:=At w1.heap.size 0) (by first|(simp;done)|(have hh:=zm1_3;simp;omega)|(have hh:=zm1_3;omega))).trans byA);(try have fb1_4:w4.frozen? (At w1.heap.size 1)=false:=(HQ.frozen (p:=At w1.heap.size 1) (by first|(simp;done)|(have hh:=zm1_3;simp;omega)|(have hh:=zm1_3;omega))).trans byA);(try have zm2_4:w2.heap.size<w4.heap.size:=(by have hh:=HQ.size;first|(simp at hh;omega)|(have h2:=zm2_3;simp at hh;omega)|(have h2:=zm2_3;omega)));(try have ca2_4:w4.cell? (At w2.heap.size 0)=some (U3 0):=(HQ.cell (p:=At w2.heap.size 0) (by first|(simp;done)|(have hh:=zm2_3;simp;omega)|(have hh:=zm2_3;omega))).trans byA);(try have cb2_4:w4.cell? (At w2.heap.size 1)=some (I6 0):=(HQ.cell (p:=At w2.heap.size 1) (by first|(simp;done)|(have hh:=zm2_3;simp;omega)|(have hh:=zm2_3;omega))).trans byA);(try have fa2_4:w4.frozen? (At w2.heap.size 0)=false:=(HQ.frozen (p:=At w2.heap.size 0) (by first|(simp;done)|(have hh:=zm2_3;simp;omega)|(have hh:=zm2_3;omega))).trans byA);(try have fb2_4:w4.frozen? (At w2.heap.size 1)=false:=(HQ.frozen (p:=At w2.heap.size 1) (by first|(simp;done)|(have hh:=zm2_3;simp;omega)|(have hh:=zm2_3;omega))).trans byA);(try have zm3_4:w3.heap.size<w4.heap.size:=(by have hh:=HQ.size;first|(simp at hh;omega)|(have h2:=zm3_3;simp at hh;omega)|(have h2:=zm3_3;omega)));(try have ca3_4:w4.cell? (At w3.heap.size 0)=some (U3 0):=(HQ.cell (p:=At w3.heap.size 0) (by first|(simp;done)|(have hh:=zm3_3;simp;omega)|(have hh:=zm3_3;omega))).trans byA);(try have cb3_4:w4.cell? (At w3.heap.size 1)=some (I6 0):=(HQ.cell (p:=At w3.heap.size 1) (by first|(simp;done)|(have hh:=zm3_3;simp;omega)|(have hh:=zm3_3;omega))).trans byA);(try have fa3_4:w4.frozen? (At w3.heap.size 0)=false:=(HQ.frozen (p:=At w3.heap.size 0) (by first|(simp;done)|(have hh:=zm3_3;simp;omega)|(have hh:=zm3_3;omega))).trans byA);(try have fb3_4:w4.frozen? (At w3.heap.size 1)=false:=(HQ.frozen (p:=At w3.heap.size 1) (by first|(simp;done)|(have hh:=zm3_3;simp;omega)|(have hh:=zm3_3;omega))).trans byA);clear HQ;have HW4:Hid (Bl w w4):=(ab w l).trans (HB4.o.mono om);obtain⟨x0_4,x1_4,-,-,-,-,o_4,a_4,n_4,-,g_4,r0_4,r1_4,g0_4,g1_4,zx_4,z0_4,z1_4,-⟩:=LIVE.o w4 HB4.o;obtain⟨e0_4,e1_4,e2_4,e3_4⟩:=ROW.o w4 HW4.o;have ma3:¬(w3.heap.size=x):=(by have:=zx_3;omega);have mb3:¬(w3.heap.size=w.heap.size):=(by have:=z0_3;omega);have mc3:¬(w3.heap.size=gq):=(by have:=e3_3;omega);have md3:¬(w3.heap.size=w.heap.size+1):=(by have:=z1_3;omega)))
  all_goals (
   go_wp2_with (first|(go_at_call 112;refine(HAD.o _ (by have hp:=HW4.o;exact upB)).mono ?_;rintro e w5 ⟨rfl,S3,o1,o2,o3⟩;have HG:Hid (∃ Wc,Bl w Wc/\w.heap.size+2<=Wc.heap.size/\(∀ b,S3 b->S b\/Wc.heap.size<=b)/\Chg S Wc w5):=⟨_,by have hp:=HW4.o;exact upB,by have hz:=HB4.o.size;simp at hz ⊢;omega,o2,o3⟩;have HA:Hid (au w5 x S3 { s with nets:=cm s.nets ⟨ba,l.g,l.o⟩ }):=o1;have RB5:Hid (Blk w5 (w.heap.size+1) #[I6 0,.slice none 0 0] 98):=(o3.block _ (by have hz:=HB4.o.size;simp at hz ⊢;omega) (fun q=>by have:=HS.o _ q;omega)).trans (LIVE.o _ (by have hp:=HB4.o;exact upB)).rb;have z1_5:w.heap.size+1<w5.heap.size:=RB5.o.lt;have HE5:Hid (Env w5):=(EN.o.mono (by have hp:=HW4.o;exact upB)).low (o3.low GS.o (by have hz:=HB4.o.size;have:=ZG.o;simp at hz ⊢;omega));first|(have qq:=LATE.o _ _ _ (ym _ _ _ _) (Nat.le_succ_of_le (Nat.le_of_lt z0_4)) o3;have q0:=qq.cell 0;have q1:=qq.cell 1;clear qq)|(have qq:=LATE.o _ _ _ (yp _ _ _ _ _ _ _) (Nat.le_of_lt z0_4) o3;have q0:=qq.cell 0;have q1:=qq.cell 1;clear qq);clear o1 o2 o3)|(go_at_call 113;refine Mo (HBT.o _ HE5.o) fun w6 HQ=>?_;have HT6:Hid (Bl w5 w6):=HQ;clear HQ;have zz_6:w5.heap.size<=w6.heap.size:=HT6.o.size)|(go_at_call 105;refine Mo (fc (some (At w6.heap.size 0)) 1 1 _) fun w7 HQ=>?_;have HQ7:Hid (Bl w5 w7):=bup (Below.alloc HT6.o HT6.o.size _) HQ;have MC7:Hid (w6.heap.size<w7.heap.size/\w7.cell? (At w6.heap.size 0)=some (.string tt)):=⟨by have:=HQ.size;simp at this;omega,(HQ.cell (p:=At w6.heap.size 0) sM).trans (by simp[go_sem])⟩;have RB7:Blk w7 (w.heap.size+1) #[I6 0,.slice none 0 0] 98:=(HQ7.o.block _ z1_5).trans RB5.o;clear HQ;have HR7:Hid (Blk w7 (w.heap.size+1) #[I6 0,.slice none 0 0] 98):=RB7;have r0_7:w7.cell? (At (w.heap.size+1) 0)=some (I6 0):=RB7.cell 0;have r1_7:w7.cell? (At (w.heap.size+1) 1)=some (.slice none 0 0):=RB7.cell 1;have g0_7:w7.frozen? (At (w.heap.size+1) 0)=false:=RB7.frozen 0;have g1_7:w7.frozen? (At (w.heap.size+1) 1)=false:=RB7.frozen 1;clear RB7))
   obtain⟨kk0,kk1⟩:=ay HR7.o (I6 0) (Sq w6.heap.size 1 1)
   obtain⟨Wc,hc1,hc2,hc3,hc4⟩:=HG.o;have hne:w6.heap.size≠w.heap.size+1:=by omega
   have hfin:=kR HS.o hc1 hc2 HA.o hc3 hc4 HQ7.o (eB tt) rfl (Sq w6.heap.size 1 1) (fun W' h1 h2=>AK (Nat.lt_of_lt_of_le MC7.o.1 h2) ((World.cell?_of_block (a:=At w6.heap.size 0) (h1 _ hne)).trans MC7.o.2))
   exact bodyPost_ret (v:=.agg #[I6 0,Sq w6.heap.size 1 1]) (by simp[results,results71,go_sem,kk0,kk1]) rfl hfin))
theorem sR(uz:Int):∀ (L:List Ls) (x y:Int),x<=uz->bP uz x L=some y->x<=y/\y<=uz:=by
 intro L;induction L with
 | nil=>intro x y hx h;simp[bP] at h;omega
 | cons z r ih =>
  intro x y hx h;unfold bP at h;split at h
  ·simp at h;omega
  ·split at h
   ·cases h
   ·have:=ih (x+1) y om h
    omega
theorem jf{ls:List Ls}{a n y:Int}(ha:ad a)(hr:rt a n=true)(h:du ls a n=some y):ad y:=by
 obtain⟨u0,u1,u2⟩:=BE a n ha hr;have:=sR _ _ _ _ u1 h
 unfold ad at u0 ⊢
 omega
theorem iU{bits:Int}(L:List (Int×Int)):∀ (s:Option (Int×Int)) (b:Int×Int),L.foldl (aX bits) s=some b->(b∈L/\b.2<=bits)\/s=some b:=by
 induction L with
 | nil=>intro s b h;exact .inr h
 | cons c r ih =>
  intro s b h;rw[List.foldl_cons] at h;rcases ih _ b h with⟨h1,h2⟩|h1
  ·exact .inl ⟨List.mem_cons_of_mem _ h1,h2⟩
  ·unfold aX at h1;split at h1
   ·rename_i hc
    cases s with
    | none=>simp at h1;subst h1;exact .inl ⟨List.mem_cons_self,hc⟩
    | some d =>
     simp only at h1
     split at h1
     ·simp at h1;subst h1;exact .inl ⟨List.mem_cons_self,hc⟩
     ·exact .inr h1
   ·exact .inr h1
theorem ja(l:List Hd)(hl:∀ h,h∈l->h.n<=32)(k:Nat):∀ (a n:Int),ad a->rt a n=true->∀ b,b∈aM k l a n->ad b.1/\rt b.1 b.2=true:=by
 induction k with
 | zero=>intro a n _ _ b hb;simp[aM] at hb
 | succ k ih =>
  intro a n ha hr b hb;simp only[aM] at hb
  split at hb
  ·simp at hb;subst hb;exact⟨ha,hr⟩
  ·rename_i h1;split at hb
   ·simp at hb
   ·rename_i h2;have hn:=qD hl (by simpa using h1) om
    obtain⟨⟨p1,p2⟩,p3,p4⟩:=ux ha hr hn;rcases List.mem_append.1 hb with q|q
    ·exact ih _ _ p1 p2 b q
    ·exact ih _ _ p3 p4 b q
theorem wo(w:World)(x:Nat)(S:Nat->Prop)(s:Bk)(l:Ln)(hI:Inv s)(hL:aZ l)(h:au w x S s)(hE:Env w)(hG:∀ b,S b->10<=b)(hZ:10<=w.heap.size):Calls prog 74 #[Pq x,.agg (lnC l)] w (Res w x S (bU s l)):=by
 unfold bU;rcases aV (isH l.a l.n) s.nets hd0 with⟨e,_⟩|⟨k,hk,e,hp,_⟩
 ·have e1:ah s.nets l.a l.n=-1:=e
  rw[if_pos (by rw[e1];decide)];exact sO w x S s l hI hL h e1
 ·have e1:ah s.nets l.a l.n=k:=e
  rw[if_neg (by rw[e1];omega)]
  have hk6:(s.nets.getD k hd0).a=l.a/\(s.nets.getD k hd0).n=l.n:=by simpa[isH] using hp
  rcases hlf:du s.leases l.a l.n with _|y
  ·exact sN w x S s l hI hL h k _ hk e1 rfl (by rw[hk6.1,hk6.2];exact hlf)
  ·have hy:=jf hL.a hL.r hlf;have hlf2:du s.leases (s.nets.getD k hd0).a (s.nets.getD k hd0).n=some y:=by rw[hk6.1,hk6.2];exact hlf
   dsimp only;by_cases h5:40<=s.leases.length
   ·rw[if_pos h5];exact qt w x S s l hI hL h k _ hk e1 rfl y hlf2 h5
   ·rw[if_neg h5];exact zI w x S s l hI hL h k _ hk e1 rfl y hy hlf2 h5 hE hG hZ
theorem vw(w:World)(x:Nat)(S:Nat->Prop)(s:Bk)(l:Ln)(hI:Inv s)(hL:aZ l)(h:au w x S s)(hE:Env w)(hG:∀ b,S b->10<=b)(hZ:10<=w.heap.size):Calls prog 71 #[Pq x,.agg (lnC l)] w (Res w x S (dH s l)):=by
 unfold dH;rcases aV (isH l.a l.n) s.pools hd0 with⟨e,_⟩|⟨k,hk,e,hp,_⟩
 ·have e1:ah s.pools l.a l.n=-1:=e
  rw[if_pos (by rw[e1];decide)];exact Ab w x S s l hI hL h e1
 ·have e1:ah s.pools l.a l.n=k:=e
  rw[if_neg (by rw[e1];omega)]
  by_cases h2:l.g<22\/l.g<l.n
  ·rw[if_pos h2];exact wD w x S s l hI hL h k _ hk e1 hp rfl h2
  ·rw[if_neg h2];have n1:¬l.g<22:=fun q=>h2 (.inl q)
   have n2:¬l.g<l.n:=fun q=>h2 (.inr q)
   rcases hb:dN (aM 33 (af s.nets l.a l.n) l.a l.n) l.g with _|⟨ba,bn⟩
   ·exact Aa w x S s l hI hL h k _ hk e1 hp rfl _ hb n1 n2 rfl
   ·have hmem:=iU _ none _ hb;have hin:(ba,bn)∈aM 33 (af s.nets l.a l.n) l.a l.n/\bn<=l.g:=by
     rcases hmem with q|q
     ·exact q
     ·cases q
    have hrt:=ja (af s.nets l.a l.n) (fun q hq=>by have hm:=hI.na q (List.mem_filter.1 hq).1;exact(aj.1 hm.2.1).2.1) 33 l.a l.n hL.a hL.r _ hin.1
    have hba:ad ba/\rt ba l.g=true:=by
     obtain⟨g0,g1,g2⟩:=aj.1 hrt.2;exact⟨hrt.1,aj.2 ⟨by have:=hin.2;omega,hL.g1,et ba bn l.g hin.2 hL.g1 g2⟩⟩
    dsimp only;by_cases h5:24<=s.nets.length
    ·rw[if_pos h5];exact wC w x S s l hI hL h k _ hk e1 hp rfl _ hb n1 n2 _ rfl h5
    ·rw[if_neg h5];exact Fg w x S s l hI hL h k _ hk e1 hp rfl _ hb n1 n2 ba bn hba rfl h5 hE hG hZ
end Go.Proofs.YtjnhhnbgjjkkjaaGreatDoor
