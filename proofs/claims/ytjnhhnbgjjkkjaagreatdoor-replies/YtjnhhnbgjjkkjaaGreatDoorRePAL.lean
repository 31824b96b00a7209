import Derived.Test.YtjnhhnbgjjkkjaaGreatDoorRePAK
set_option linter.all false
set_option maxRecDepth 100000
set_option maxHeartbeats 2000000
namespace Go.Proofs.YtjnhhnbgjjkkjaaGreatDoor
open Go.ChangeShapes Go.WideShapes Go.ChangeAt Go.RowKit Go.Proofs.Tryz
theorem xD(w:World)(x:Nat)(S:Nat->Prop)(s:Bk)(l:Ln)(hI:Inv s)(hL:aZ l)(h:au w x S s)(h1:aR s.nets l.d 32=-1):Calls prog 75 #[Pq x,.agg (lnC l)] w (Res w x S (s,ref 11)):=by
 obtain⟨vp,vn,vl,c,B⟩:=h;have hx:=B.blk.lt;have H:Hid (au w x S s):=⟨vp,vn,vl,c,B⟩
 obtain⟨x0,x1,x2⟩:=B.c3;have LIVE:Hid (∀ wk,BW w l wk->cd w wk x vp vn vl l):=aO l B
 have HBA:Hid (BA w x S vp vn vl c s):=B
 have hxa:¬(x=w.heap.size):=by omega
 have hxb:¬(w.heap.size=x):=by omega
 have HSP:Hid (∀ Wc,Bl w Wc->Cr prog 122 #[vn,.agg #[U3 l.d,I6 32]] Wc (I6 (aR s.nets l.d 32))):=fun Wc hW=>iF s.nets l.d 32 vn Wc (fun q hq=>(hI.na q hq).1) hL.d ((Rd.of_owns (k:=3) (enc:=ak) (fun _=>rfl) hd0 B.on).below hW)
 rw[h1] at HSP;obtain⟨bn,cn,en,_,_⟩:=ae B.on;subst en;clear B;unfold lnC;go_enter func75,ntmps75
 go_wp2;go_region_held3 (fun w'=>w'.cell? (At x 1)=some (.slice bn s.nets.length cn)/\w'.cell? (At w.heap.size 5)=some (U3 l.d)) (go_keep) (first|(go_at_call 123;refine Mo (dF _ _) fun w1 HQ=>?_;have HB1:Hid (BW w l w1):=al upB sM HQ;clear HQ;have HW1:Hid (Bl w w1):=(ab w l).trans (HB1.o.mono om);obtain⟨-,x1_1,-,-,-,-,-,-,-,d_1,-,-,-,-,-,-,z0_1,z1_1,-⟩:=LIVE.o w1 HB1.o)|(go_at_call 122;refine Mo (HSP.o _ (by have hp:=HW1.o;exact upB)) fun w2 HQ=>?_;have HB2:Hid (BW w l w2):=al (by have hp:=HB1.o;exact upB) sM HQ;clear HQ;have HW2:Hid (Bl w w2):=(ab w l).trans (HB2.o.mono om);obtain⟨-,x1_2,x2_2,-,-,-,o_2,-,-,d_2,-,r0_2,r1_2,g0_2,g1_2,zx_2,z0_2,z1_2,-⟩:=LIVE.o w2 HB2.o))
 all_goals (
  go_wp2_with (go_at_call 39;refine Mo (az 11 _) fun w9 HQ=>?_;have HB9:Hid (BW w l w9):=al (by have hp:=HB2.o;exact upB) sM HQ;clear HQ;have HW9:Hid (Bl w w9):=(ab w l).trans (HB9.o.mono om);obtain⟨r0_9,r1_9,g0_9,g1_9,z1_9⟩:=(LIVE.o w9 HB9.o).q)
  have hR:=(LIVE.o w9 HB9.o).rb
  obtain⟨kk0,kk1⟩:=ay hR (I6 11) (.slice none 0 0)
  have hfin:=a7 (l:=l) 11 H.o HB9.o
  exact bodyPost_ret (v:=.agg #[I6 11,.slice none 0 0]) (by simp[results,results75,go_sem,kk0,kk1]) rfl hfin)
theorem xC(w:World)(x:Nat)(S:Nat->Prop)(s:Bk)(l:Ln)(hI:Inv s)(hL:aZ l)(h:au w x S s)(k:Nat)(q:Hd)(hk:k<s.nets.length)(h1:aR s.nets l.d 32=k)(hq:s.nets.getD k hd0=q)(ua uz:Int)(hua:dh q.a q.n=ua)(huz:dr q.a q.n=uz)(h2:l.d<ua\/uz<l.d):Calls prog 75 #[Pq x,.agg (lnC l)] w (Res w x S (s,ref 12)):=by
 obtain⟨vp,vn,vl,c,B⟩:=h;have hx:=B.blk.lt;have H:Hid (au w x S s):=⟨vp,vn,vl,c,B⟩
 obtain⟨x0,x1,x2⟩:=B.c3;have LIVE:Hid (∀ wk,BW w l wk->cd w wk x vp vn vl l):=aO l B
 have HBA:Hid (BA w x S vp vn vl c s):=B
 have hxa:¬(x=w.heap.size):=by omega
 have hxb:¬(w.heap.size=x):=by omega
 have HSP:Hid (∀ Wc,Bl w Wc->Cr prog 122 #[vn,.agg #[U3 l.d,I6 32]] Wc (I6 (aR s.nets l.d 32))):=fun Wc hW=>iF s.nets l.d 32 vn Wc (fun q hq=>(hI.na q hq).1) hL.d ((Rd.of_owns (k:=3) (enc:=ak) (fun _=>rfl) hd0 B.on).below hW)
 rw[h1] at HSP;have hkk:∀ q:Hd,(ak q).length=3:=fun _=>rfl
 have hqm:q∈s.nets:=by rw[<- hq];exact aJ s.nets hd0 k hk
 have hqi:=hI.na q hqm;have hrd:=Rd.of_owns hkk hd0 B.on;obtain⟨bq,cq,ev,hq1,hq2,hq3⟩:=hrd;obtain⟨gq,rfl,hq4,hq5⟩:=hq3 (by intro e;rw[e] at hk;simp at hk)
 have hk5:=hq5 k hk;rw[hq] at hk5;have ROW:Hid (∀ wk,Bl w wk->wk.cell? (At gq (k*3))=some (U3 q.a)/\wk.cell? (At gq (k*3+1))=some (I6 q.n)/\wk.cell? (At gq (k*3+2))=some (.string q.o)):=fun wk hw =>
  ⟨(hw.cell (p:=At gq (k*3)) hq4).trans (hk5 0 _ rfl),(hw.cell (p:=At gq (k*3+1)) hq4).trans (hk5 1 _ rfl),(hw.cell (p:=At gq (k*3+2)) hq4).trans (hk5 2 _ rfl)⟩
 have hkz:(k:Int)<(s.nets.length:Int):=by omega
 have hkn:¬((k:Int)<0):=by omega
 have hk0:(0:Int)<=(k:Int):=by omega
 have HUS:Hid (∀ Wc:World,Cr prog 124 #[.agg #[U3 q.a,I6 q.n,.string q.o]] Wc (.tuple #[U3 ua,U3 uz])):=fun Wc=>by rw[<- hua,<- huz];exact fe q Wc hqi.1 hqi.2.1
 clear hq1 hq2 hq5 hk5 hq hqm hqi;subst ev;clear hua huz;clear B;unfold lnC;go_enter func75,ntmps75
 go_wp2;go_region_held3 (fun w'=>w'.cell? (At x 1)=some (Sq gq s.nets.length cq)/\w'.cell? (At w.heap.size 5)=some (U3 l.d)) (go_keep) (first|(go_at_call 123;refine Mo (dF _ _) fun w1 HQ=>?_;have HB1:Hid (BW w l w1):=al upB sM HQ;clear HQ;have HW1:Hid (Bl w w1):=(ab w l).trans (HB1.o.mono om);obtain⟨-,x1_1,-,-,-,-,-,-,-,d_1,-,-,-,-,-,-,z0_1,z1_1,-⟩:=LIVE.o w1 HB1.o)|(go_at_call 122;refine Mo (HSP.o _ (by have hp:=HW1.o;exact upB)) fun w2 HQ=>?_;have HB2:Hid (BW w l w2):=al (by have hp:=HB1.o;exact upB) sM HQ;clear HQ;have HW2:Hid (Bl w w2):=(ab w l).trans (HB2.o.mono om);obtain⟨-,x1_2,x2_2,-,-,-,o_2,-,-,d_2,-,r0_2,r1_2,g0_2,g1_2,zx_2,z0_2,z1_2,-⟩:=LIVE.o w2 HB2.o;obtain⟨e0_2,e1_2,e2_2⟩:=ROW.o w2 HW2.o))
 all_goals (
  by_cases h3:l.d<ua
  ·go_wp2_with (first|(go_at_call 124;refine Mo (HUS.o _) fun w3 HQ=>?_;have HB3:Hid (BW w l w3):=al (by have hp:=HB2.o;exact upB) sM HQ;clear HQ;have HW3:Hid (Bl w w3):=(ab w l).trans (HB3.o.mono om);obtain⟨-,-,x2_3,-,-,-,o_3,-,-,d_3,-,r0_3,r1_3,g0_3,g1_3,zx_3,z0_3,z1_3,-⟩:=LIVE.o w3 HB3.o)|(go_at_call 39;refine Mo (az 12 _) fun w9 HQ=>?_;have HB9:Hid (BW w l w9):=al (by have hp:=HB3.o;exact upB) sM HQ;clear HQ;have HW9:Hid (Bl w w9):=(ab w l).trans (HB9.o.mono om);obtain⟨r0_9,r1_9,g0_9,g1_9,z1_9⟩:=(LIVE.o w9 HB9.o).q))
   have hR:=(LIVE.o w9 HB9.o).rb
   obtain⟨kk0,kk1⟩:=ay hR (I6 12) (.slice none 0 0)
   have hfin:=a7 (l:=l) 12 H.o HB9.o
   exact bodyPost_ret (v:=.agg #[I6 12,.slice none 0 0]) (by simp[results,results75,go_sem,kk0,kk1]) rfl hfin
  ·have h4:uz<l.d:=by omega
   go_wp2_with (first|(go_at_call 124;refine Mo (HUS.o _) fun w3 HQ=>?_;have HB3:Hid (BW w l w3):=al (by have hp:=HB2.o;exact upB) sM HQ;clear HQ;have HW3:Hid (Bl w w3):=(ab w l).trans (HB3.o.mono om);obtain⟨-,-,x2_3,-,-,-,o_3,-,-,d_3,-,r0_3,r1_3,g0_3,g1_3,zx_3,z0_3,z1_3,-⟩:=LIVE.o w3 HB3.o)|(go_at_call 39;refine Mo (az 12 _) fun w9 HQ=>?_;have HB9:Hid (BW w l w9):=al (by have hp:=HB3.o;exact upB) sM HQ;clear HQ;have HW9:Hid (Bl w w9):=(ab w l).trans (HB9.o.mono om);obtain⟨r0_9,r1_9,g0_9,g1_9,z1_9⟩:=(LIVE.o w9 HB9.o).q))
   have hR:=(LIVE.o w9 HB9.o).rb
   obtain⟨kk0,kk1⟩:=ay hR (I6 12) (.slice none 0 0)
   have hfin:=a7 (l:=l) 12 H.o HB9.o
   exact bodyPost_ret (v:=.agg #[I6 12,.slice none 0 0]) (by simp[results,results75,go_sem,kk0,kk1]) rfl hfin)
theorem tP(w:World)(x:Nat)(S:Nat->Prop)(s:Bk)(l:Ln)(hI:Inv s)(hL:aZ l)(h:au w x S s)(k:Nat)(q:Hd)(hk:k<s.nets.length)(h1:aR s.nets l.d 32=k)(hq:s.nets.getD k hd0=q)(ua uz:Int)(hua:dh q.a q.n=ua)(huz:dr q.a q.n=uz)(h2:¬l.d<ua)(h3:¬uz<l.d)(h4:dp s.leases l.d=true):Calls prog 75 #[Pq x,.agg (lnC l)] w (Res w x S (s,ref 13)):=by
 obtain⟨vp,vn,vl,c,B⟩:=h;have hx:=B.blk.lt;have H:Hid (au w x S s):=⟨vp,vn,vl,c,B⟩
 obtain⟨x0,x1,x2⟩:=B.c3;have LIVE:Hid (∀ wk,BW w l wk->cd w wk x vp vn vl l):=aO l B
 have HBA:Hid (BA w x S vp vn vl c s):=B
 have hxa:¬(x=w.heap.size):=by omega
 have hxb:¬(w.heap.size=x):=by omega
 have HSP:Hid (∀ Wc,Bl w Wc->Cr prog 122 #[vn,.agg #[U3 l.d,I6 32]] Wc (I6 (aR s.nets l.d 32))):=fun Wc hW=>iF s.nets l.d 32 vn Wc (fun q hq=>(hI.na q hq).1) hL.d ((Rd.of_owns (k:=3) (enc:=ak) (fun _=>rfl) hd0 B.on).below hW)
 rw[h1] at HSP;have HF:Hid (∀ Wc,Bl w Wc->Cr prog 125 #[Pq x,U3 l.d] Wc (.tuple #[I6 (bO s.leases l.d:Nat),.bool (dp s.leases l.d)])):=fun Wc hW=>d8 x s.leases l.d vl Wc ((hW.cell (p:=At x 2) hx).trans x2) ((Rd.of_owns (k:=2) (enc:=br) (fun _=>rfl) ls0 B.ol).below hW) (by have:=hI.l;omega) hI.lu
 rw[h4] at HF;have hkk:∀ q:Hd,(ak q).length=3:=fun _=>rfl
 have hqm:q∈s.nets:=by rw[<- hq];exact aJ s.nets hd0 k hk
 have hqi:=hI.na q hqm;have hrd:=Rd.of_owns hkk hd0 B.on;obtain⟨bq,cq,ev,hq1,hq2,hq3⟩:=hrd;obtain⟨gq,rfl,hq4,hq5⟩:=hq3 (by intro e;rw[e] at hk;simp at hk)
 have hk5:=hq5 k hk;rw[hq] at hk5;have ROW:Hid (∀ wk,Bl w wk->wk.cell? (At gq (k*3))=some (U3 q.a)/\wk.cell? (At gq (k*3+1))=some (I6 q.n)/\wk.cell? (At gq (k*3+2))=some (.string q.o)):=fun wk hw =>
  ⟨(hw.cell (p:=At gq (k*3)) hq4).trans (hk5 0 _ rfl),(hw.cell (p:=At gq (k*3+1)) hq4).trans (hk5 1 _ rfl),(hw.cell (p:=At gq (k*3+2)) hq4).trans (hk5 2 _ rfl)⟩
 have hkz:(k:Int)<(s.nets.length:Int):=by omega
 have hkn:¬((k:Int)<0):=by omega
 have hk0:(0:Int)<=(k:Int):=by omega
 have HUS:Hid (∀ Wc:World,Cr prog 124 #[.agg #[U3 q.a,I6 q.n,.string q.o]] Wc (.tuple #[U3 ua,U3 uz])):=fun Wc=>by rw[<- hua,<- huz];exact fe q Wc hqi.1 hqi.2.1
 clear hq1 hq2 hq5 hk5 hq hqm hqi;subst ev;clear hua huz;obtain⟨bl,cl,el,_,_⟩:=ae B.ol;subst el;clear B;unfold lnC;go_enter func75,ntmps75
 go_wp2;go_region_held3 (fun w'=>w'.cell? (At x 1)=some (Sq gq s.nets.length cq)/\w'.cell? (At w.heap.size 5)=some (U3 l.d)) (go_keep) (first|(go_at_call 123;refine Mo (dF _ _) fun w1 HQ=>?_;have HB1:Hid (BW w l w1):=al upB sM HQ;clear HQ;have HW1:Hid (Bl w w1):=(ab w l).trans (HB1.o.mono om);obtain⟨-,x1_1,-,-,-,-,-,-,-,d_1,-,-,-,-,-,-,z0_1,z1_1,-⟩:=LIVE.o w1 HB1.o)|(go_at_call 122;refine Mo (HSP.o _ (by have hp:=HW1.o;exact upB)) fun w2 HQ=>?_;have HB2:Hid (BW w l w2):=al (by have hp:=HB1.o;exact upB) sM HQ;clear HQ;have HW2:Hid (Bl w w2):=(ab w l).trans (HB2.o.mono om);obtain⟨-,x1_2,x2_2,-,-,-,o_2,-,-,d_2,-,r0_2,r1_2,g0_2,g1_2,zx_2,z0_2,z1_2,-⟩:=LIVE.o w2 HB2.o;obtain⟨e0_2,e1_2,e2_2⟩:=ROW.o w2 HW2.o))
 all_goals (
  go_wp2_with (first|(go_at_call 124;refine Mo (HUS.o _) fun w3 HQ=>?_;have HB3:Hid (BW w l w3):=al (by have hp:=HB2.o;exact upB) sM HQ;clear HQ;have HW3:Hid (Bl w w3):=(ab w l).trans (HB3.o.mono om);obtain⟨-,-,x2_3,-,-,-,o_3,-,-,d_3,-,r0_3,r1_3,g0_3,g1_3,zx_3,z0_3,z1_3,-⟩:=LIVE.o w3 HB3.o)|(go_at_call 125;refine Mo (HF.o _ (by have hp:=HW3.o;exact upB)) fun w4 HQ=>?_;have HB4:Hid (BW w l w4):=al (by have hp:=HB3.o;exact upB) sM HQ;clear HQ;have HW4:Hid (Bl w w4):=(ab w l).trans (HB4.o.mono om);obtain⟨-,-,x2_4,-,-,-,o_4,-,-,d_4,-,r0_4,r1_4,g0_4,g1_4,zx_4,z0_4,z1_4,-⟩:=LIVE.o w4 HB4.o)|(go_at_call 39;refine Mo (az 13 _) fun w9 HQ=>?_;have HB9:Hid (BW w l w9):=al (by have hp:=HB4.o;exact upB) sM HQ;clear HQ;have HW9:Hid (Bl w w9):=(ab w l).trans (HB9.o.mono om);obtain⟨r0_9,r1_9,g0_9,g1_9,z1_9⟩:=(LIVE.o w9 HB9.o).q))
  have hR:=(LIVE.o w9 HB9.o).rb
  obtain⟨kk0,kk1⟩:=ay hR (I6 13) (.slice none 0 0)
  have hfin:=a7 (l:=l) 13 H.o HB9.o
  exact bodyPost_ret (v:=.agg #[I6 13,.slice none 0 0]) (by simp[results,results75,go_sem,kk0,kk1]) rfl hfin)
theorem tN(w:World)(x:Nat)(S:Nat->Prop)(s:Bk)(l:Ln)(hI:Inv s)(hL:aZ l)(h:au w x S s)(k:Nat)(q:Hd)(hk:k<s.nets.length)(h1:aR s.nets l.d 32=k)(hq:s.nets.getD k hd0=q)(ua uz:Int)(hua:dh q.a q.n=ua)(huz:dr q.a q.n=uz)(h2:¬l.d<ua)(h3:¬uz<l.d)(h4:dp s.leases l.d=false)(h5:40<=s.leases.length):Calls prog 75 #[Pq x,.agg (lnC l)] w (Res w x S (s,ref 6)):=by
 obtain⟨vp,vn,vl,c,B⟩:=h;have hx:=B.blk.lt;have H:Hid (au w x S s):=⟨vp,vn,vl,c,B⟩
 obtain⟨x0,x1,x2⟩:=B.c3;have LIVE:Hid (∀ wk,BW w l wk->cd w wk x vp vn vl l):=aO l B
 have HBA:Hid (BA w x S vp vn vl c s):=B
 have hxa:¬(x=w.heap.size):=by omega
 have hxb:¬(w.heap.size=x):=by omega
 have HSP:Hid (∀ Wc,Bl w Wc->Cr prog 122 #[vn,.agg #[U3 l.d,I6 32]] Wc (I6 (aR s.nets l.d 32))):=fun Wc hW=>iF s.nets l.d 32 vn Wc (fun q hq=>(hI.na q hq).1) hL.d ((Rd.of_owns (k:=3) (enc:=ak) (fun _=>rfl) hd0 B.on).below hW)
 rw[h1] at HSP;have HF:Hid (∀ Wc,Bl w Wc->Cr prog 125 #[Pq x,U3 l.d] Wc (.tuple #[I6 (bO s.leases l.d:Nat),.bool (dp s.leases l.d)])):=fun Wc hW=>d8 x s.leases l.d vl Wc ((hW.cell (p:=At x 2) hx).trans x2) ((Rd.of_owns (k:=2) (enc:=br) (fun _=>rfl) ls0 B.ol).below hW) (by have:=hI.l;omega) hI.lu
 rw[h4] at HF;have hkk:∀ q:Hd,(ak q).length=3:=fun _=>rfl
 have hqm:q∈s.nets:=by rw[<- hq];exact aJ s.nets hd0 k hk
 have hqi:=hI.na q hqm;have hrd:=Rd.of_owns hkk hd0 B.on;obtain⟨bq,cq,ev,hq1,hq2,hq3⟩:=hrd;obtain⟨gq,rfl,hq4,hq5⟩:=hq3 (by intro e;rw[e] at hk;simp at hk)
 have hk5:=hq5 k hk;rw[hq] at hk5;have ROW:Hid (∀ wk,Bl w wk->wk.cell? (At gq (k*3))=some (U3 q.a)/\wk.cell? (At gq (k*3+1))=some (I6 q.n)/\wk.cell? (At gq (k*3+2))=some (.string q.o)):=fun wk hw =>
  ⟨(hw.cell (p:=At gq (k*3)) hq4).trans (hk5 0 _ rfl),(hw.cell (p:=At gq (k*3+1)) hq4).trans (hk5 1 _ rfl),(hw.cell (p:=At gq (k*3+2)) hq4).trans (hk5 2 _ rfl)⟩
 have hkz:(k:Int)<(s.nets.length:Int):=by omega
 have hkn:¬((k:Int)<0):=by omega
 have hk0:(0:Int)<=(k:Int):=by omega
 have HUS:Hid (∀ Wc:World,Cr prog 124 #[.agg #[U3 q.a,I6 q.n,.string q.o]] Wc (.tuple #[U3 ua,U3 uz])):=fun Wc=>by rw[<- hua,<- huz];exact fe q Wc hqi.1 hqi.2.1
 clear hq1 hq2 hq5 hk5 hq hqm hqi;subst ev;clear hua huz;obtain⟨bl,cl,el,_,_⟩:=ae B.ol;subst el;have h6:(40:Int)<=(s.leases.length:Int):=by omega
 clear B;unfold lnC;go_enter func75,ntmps75
 go_wp2;go_region_held3 (fun w'=>w'.cell? (At x 1)=some (Sq gq s.nets.length cq)/\w'.cell? (At w.heap.size 5)=some (U3 l.d)) (go_keep) (first|(go_at_call 123;refine Mo (dF _ _) fun w1 HQ=>?_;have HB1:Hid (BW w l w1):=al upB sM HQ;clear HQ;have HW1:Hid (Bl w w1):=(ab w l).trans (HB1.o.mono om);obtain⟨-,x1_1,-,-,-,-,-,-,-,d_1,-,-,-,-,-,-,z0_1,z1_1,-⟩:=LIVE.o w1 HB1.o)|(go_at_call 122;refine Mo (HSP.o _ (by have hp:=HW1.o;exact upB)) fun w2 HQ=>?_;have HB2:Hid (BW w l w2):=al (by have hp:=HB1.o;exact upB) sM HQ;clear HQ;have HW2:Hid (Bl w w2):=(ab w l).trans (HB2.o.mono om);obtain⟨-,x1_2,x2_2,-,-,-,o_2,-,-,d_2,-,r0_2,r1_2,g0_2,g1_2,zx_2,z0_2,z1_2,-⟩:=LIVE.o w2 HB2.o;obtain⟨e0_2,e1_2,e2_2⟩:=ROW.o w2 HW2.o))
 all_goals (
  go_wp2_with (first|(go_at_call 124;refine Mo (HUS.o _) fun w3 HQ=>?_;have HB3:Hid (BW w l w3):=al (by have hp:=HB2.o;exact upB) sM HQ;clear HQ;have HW3:Hid (Bl w w3):=(ab w l).trans (HB3.o.mono om);obtain⟨-,-,x2_3,-,-,-,o_3,-,-,d_3,-,r0_3,r1_3,g0_3,g1_3,zx_3,z0_3,z1_3,-⟩:=LIVE.o w3 HB3.o)|(go_at_call 125;refine Mo (HF.o _ (by have hp:=HW3.o;exact upB)) fun w4 HQ=>?_;have HB4:Hid (BW w l w4):=al (by have hp:=HB3.o;exact upB) sM HQ;clear HQ;have HW4:Hid (Bl w w4):=(ab w l).trans (HB4.o.mono om);obtain⟨-,-,x2_4,-,-,-,o_4,-,-,d_4,-,r0_4,r1_4,g0_4,g1_4,zx_4,z0_4,z1_4,-⟩:=LIVE.o w4 HB4.o)|(go_at_call 39;refine Mo (az 6 _) fun w9 HQ=>?_;have HB9:Hid (BW w l w9):=al (by have hp:=HB4.o;exact upB) sM HQ;clear HQ;have HW9:Hid (Bl w w9):=(ab w l).trans (HB9.o.mono om);obtain⟨r0_9,r1_9,g0_9,g1_9,z1_9⟩:=(LIVE.o w9 HB9.o).q))
  have hR:=(LIVE.o w9 HB9.o).rb
  obtain⟨kk0,kk1⟩:=ay hR (I6 6) (.slice none 0 0)
  have hfin:=a7 (l:=l) 6 H.o HB9.o
  exact bodyPost_ret (v:=.agg #[I6 6,.slice none 0 0]) (by simp[results,results75,go_sem,kk0,kk1]) rfl hfin)
theorem DJ(w:World)(x:Nat)(S:Nat->Prop)(s:Bk)(l:Ln)(hI:Inv s)(hL:aZ l)(h:au w x S s)(k:Nat)(q:Hd)(hk:k<s.nets.length)(h1:aR s.nets l.d 32=k)(hq:s.nets.getD k hd0=q)(ua uz:Int)(hua:dh q.a q.n=ua)(huz:dr q.a q.n=uz)(h2:¬l.d<ua)(h3:¬uz<l.d)(h4:dp s.leases l.d=false)(h5:¬40<=s.leases.length):Calls prog 75 #[Pq x,.agg (lnC l)] w (Res w x S ({ s with leases:=dR s.leases ⟨l.d,l.o⟩ },okA)):=by
 obtain⟨vp,vn,vl,c,B⟩:=h;have hx:=B.blk.lt;have H:Hid (au w x S s):=⟨vp,vn,vl,c,B⟩
 obtain⟨x0,x1,x2⟩:=B.c3;have LIVE:Hid (∀ wk,BW w l wk->cd w wk x vp vn vl l):=aO l B
 have HBA:Hid (BA w x S vp vn vl c s):=B
 have hxa:¬(x=w.heap.size):=by omega
 have hxb:¬(w.heap.size=x):=by omega
 have HS:Hid (∀ b,S b->b<w.heap.size):=B.sz
 have HSP:Hid (∀ Wc,Bl w Wc->Cr prog 122 #[vn,.agg #[U3 l.d,I6 32]] Wc (I6 (aR s.nets l.d 32))):=fun Wc hW=>iF s.nets l.d 32 vn Wc (fun q hq=>(hI.na q hq).1) hL.d ((Rd.of_owns (k:=3) (enc:=ak) (fun _=>rfl) hd0 B.on).below hW)
 rw[h1] at HSP;have HF:Hid (∀ Wc,Bl w Wc->Cr prog 125 #[Pq x,U3 l.d] Wc (.tuple #[I6 (bO s.leases l.d:Nat),.bool (dp s.leases l.d)])):=fun Wc hW=>d8 x s.leases l.d vl Wc ((hW.cell (p:=At x 2) hx).trans x2) ((Rd.of_owns (k:=2) (enc:=br) (fun _=>rfl) ls0 B.ol).below hW) (by have:=hI.l;omega) hI.lu
 rw[h4] at HF;have HAD:Hid (∀ Wc,Bl w Wc->Calls prog 120 #[Pq x,U3 l.d,.string l.o] Wc fun e w'=>e=.returned (.tuple #[])/\∃ S',au w' x S' { s with leases:=dR s.leases ⟨l.d,l.o⟩ }/\(∀ b,S' b->S b\/Wc.heap.size<=b)/\Chg S Wc w'):=fun Wc hW=>iT Wc x S s l.d l.o hI (H.o.below hW)
 have hkk:∀ q:Hd,(ak q).length=3:=fun _=>rfl
 have hqm:q∈s.nets:=by rw[<- hq];exact aJ s.nets hd0 k hk
 have hqi:=hI.na q hqm;have hrd:=Rd.of_owns hkk hd0 B.on;obtain⟨bq,cq,ev,hq1,hq2,hq3⟩:=hrd;obtain⟨gq,rfl,hq4,hq5⟩:=hq3 (by intro e;rw[e] at hk;simp at hk)
 have hk5:=hq5 k hk;rw[hq] at hk5;have ROW:Hid (∀ wk,Bl w wk->wk.cell? (At gq (k*3))=some (U3 q.a)/\wk.cell? (At gq (k*3+1))=some (I6 q.n)/\wk.cell? (At gq (k*3+2))=some (.string q.o)):=fun wk hw =>
  ⟨(hw.cell (p:=At gq (k*3)) hq4).trans (hk5 0 _ rfl),(hw.cell (p:=At gq (k*3+1)) hq4).trans (hk5 1 _ rfl),(hw.cell (p:=At gq (k*3+2)) hq4).trans (hk5 2 _ rfl)⟩
 have hkz:(k:Int)<(s.nets.length:Int):=by omega
 have hkn:¬((k:Int)<0):=by omega
 have hk0:(0:Int)<=(k:Int):=by omega
 have HUS:Hid (∀ Wc:World,Cr prog 124 #[.agg #[U3 q.a,I6 q.n,.string q.o]] Wc (.tuple #[U3 ua,U3 uz])):=fun Wc=>by rw[<- hua,<- huz];exact fe q Wc hqi.1 hqi.2.1
 clear hq1 hq2 hq5 hk5 hq hqm hqi;subst ev;clear hua huz;obtain⟨bl,cl,el,_,_⟩:=ae B.ol;subst el;have h6:¬(40:Int)<=(s.leases.length:Int):=by omega
 clear B;unfold lnC;go_enter func75,ntmps75
 go_wp2;go_region_held3 (fun w'=>w'.cell? (At x 1)=some (Sq gq s.nets.length cq)/\w'.cell? (At w.heap.size 5)=some (U3 l.d)) (go_keep) (first|(go_at_call 123;refine Mo (dF _ _) fun w1 HQ=>?_;have HB1:Hid (BW w l w1):=al upB sM HQ;clear HQ;have HW1:Hid (Bl w w1):=(ab w l).trans (HB1.o.mono om);obtain⟨-,x1_1,-,-,-,-,-,-,-,d_1,-,-,-,-,-,-,z0_1,z1_1,-⟩:=LIVE.o w1 HB1.o)|(go_at_call 122;refine Mo (HSP.o _ (by have hp:=HW1.o;exact upB)) fun w2 HQ=>?_;have HB2:Hid (BW w l w2):=al (by have hp:=HB1.o;exact upB) sM HQ;clear HQ;have HW2:Hid (Bl w w2):=(ab w l).trans (HB2.o.mono om);obtain⟨-,x1_2,x2_2,-,-,-,o_2,-,-,d_2,-,r0_2,r1_2,g0_2,g1_2,zx_2,z0_2,z1_2,-⟩:=LIVE.o w2 HB2.o;obtain⟨e0_2,e1_2,e2_2⟩:=ROW.o w2 HW2.o))
 all_goals (
  go_wp2_with (first|(go_at_call 124;refine Mo (HUS.o _) fun w3 HQ=>?_;have HB3:Hid (BW w l w3):=al (by have hp:=HB2.o;exact upB) sM HQ;clear HQ;have HW3:Hid (Bl w w3):=(ab w l).trans (HB3.o.mono om);obtain⟨-,-,x2_3,-,-,-,o_3,-,-,d_3,-,r0_3,r1_3,g0_3,g1_3,zx_3,z0_3,z1_3,-⟩:=LIVE.o w3 HB3.o)|(go_at_call 125;refine Mo (HF.o _ (by have hp:=HW3.o;exact upB)) fun w4 HQ=>?_;have HB4:Hid (BW w l w4):=al (by have hp:=HB3.o;exact upB) sM HQ;clear HQ;have HW4:Hid (Bl w w4):=(ab w l).trans (HB4.o.mono om);obtain⟨-,-,x2_4,-,-,-,o_4,-,-,d_4,-,r0_4,r1_4,g0_4,g1_4,zx_4,z0_4,z1_4,-⟩:=LIVE.o w4 HB4.o)|(go_at_call 120;refine(HAD.o _ (by have hp:=HW4.o;exact upB)).mono ?_;rintro e w5 ⟨rfl,S3,o1,o2,o3⟩;have HG:Hid (∃ Wc,Bl w Wc/\w.heap.size+2<=Wc.heap.size/\(∀ b,S3 b->S b\/Wc.heap.size<=b)/\Chg S Wc w5):=⟨_,by have hp:=HW4.o;exact upB,by have hz:=HB4.o.size;simp at hz ⊢;omega,o2,o3⟩;have HA:Hid (au w5 x S3 { s with leases:=dR s.leases ⟨l.d,l.o⟩ }):=o1;have RB5:Hid (Blk w5 (w.heap.size+1) #[I6 0,.slice none 0 0] 98):=(o3.block _ (by have hz:=HB4.o.size;simp at hz ⊢;omega) (fun q=>by have:=HS.o _ q;omega)).trans (LIVE.o _ (by have hp:=HB4.o;exact upB)).rb;have z1_5:w.heap.size+1<w5.heap.size:=RB5.o.lt;clear o1 o2 o3)|(go_at_call 105;refine Mo (fc none 0 0 _) fun w6 HQ=>?_;have HQ6:Hid (Bl w5 w6):=HQ;have RB6:Blk w6 (w.heap.size+1) #[I6 0,.slice none 0 0] 98:=(HQ.block _ z1_5).trans RB5.o;clear HQ;have HR6:Hid (Blk w6 (w.heap.size+1) #[I6 0,.slice none 0 0] 98):=RB6;have r0_6:w6.cell? (At (w.heap.size+1) 0)=some (I6 0):=RB6.cell 0;have r1_6:w6.cell? (At (w.heap.size+1) 1)=some (.slice none 0 0):=RB6.cell 1;have g0_6:w6.frozen? (At (w.heap.size+1) 0)=false:=RB6.frozen 0;have g1_6:w6.frozen? (At (w.heap.size+1) 1)=false:=RB6.frozen 1;clear RB6))
  obtain⟨kk0,kk1⟩:=ay HR6.o (I6 0) (.slice none 0 0)
  obtain⟨Wc,hc1,hc2,hc3,hc4⟩:=HG.o;have hfin:=kR HS.o hc1 hc2 HA.o hc3 hc4 HQ6.o okA rfl (.slice none 0 0) (fun _ _ _=>iL _ _ _ _)
  exact bodyPost_ret (v:=.agg #[I6 0,.slice none 0 0]) (by simp[results,results75,go_sem,kk0,kk1]) rfl hfin)
theorem Bs(w:World)(x:Nat)(S:Nat->Prop)(s:Bk)(l:Ln)(hI:Inv s)(hL:aZ l)(h:au w x S s):Calls prog 75 #[Pq x,.agg (lnC l)] w (Res w x S (cA s l)):=by
 unfold cA;rcases aV (bM l.d 32) s.nets hd0 with⟨e,_⟩|⟨k,hk,e,hp,_⟩
 ·have e1:aR s.nets l.d 32=-1:=e
  rw[if_pos (by rw[e1];decide)];exact xD w x S s l hI hL h e1
 ·have e1:aR s.nets l.d 32=k:=e
  have e2:(aR s.nets l.d 32).toNat=k:=by rw[e1];omega
  rw[if_neg (by rw[e1];omega),e2]
  by_cases h2:l.d<dh (s.nets.getD k hd0).a (s.nets.getD k hd0).n\/dr (s.nets.getD k hd0).a (s.nets.getD k hd0).n<l.d
  ·rw[if_pos h2];exact xC w x S s l hI hL h k _ hk e1 rfl _ _ rfl rfl h2
  ·rw[if_neg h2];have n1:¬l.d<dh (s.nets.getD k hd0).a (s.nets.getD k hd0).n:=fun q=>h2 (.inl q)
   have n2:¬dr (s.nets.getD k hd0).a (s.nets.getD k hd0).n<l.d:=fun q=>h2 (.inr q)
   by_cases h4:dp s.leases l.d=true
   ·rw[if_pos h4];exact tP w x S s l hI hL h k _ hk e1 rfl _ _ rfl rfl n1 n2 h4
   ·rw[if_neg h4];by_cases h5:40<=s.leases.length
    ·rw[if_pos h5];exact tN w x S s l hI hL h k _ hk e1 rfl _ _ rfl rfl n1 n2 (by simpa using h4) h5
    ·rw[if_neg h5];exact DJ w x S s l hI hL h k _ hk e1 rfl _ _ rfl rfl n1 n2 (by simpa using h4) h5
theorem jI{α:Type}(l:List α)(k:Nat)(h:k<l.length):(aA l k).length=l.length-1:=by unfold aA;simp;omega
theorem lD{α:Type}{k:Nat}{enc:α->List Value}(hk:∀ x,(enc x).length=k)(l:List α)(i:Nat):(l.flatMap enc).take (i*k)++(l.flatMap enc).drop ((i+1)*k)=(aA l i).flatMap enc:=by
 unfold aA;rw[ic hk,gX hk,List.flatMap_append]
theorem yN{w:World}{v:Value}{l:List Hd}(hown:w.ownsRow 0 155 3 v l.length (l.flatMap ak))(k:Nat)(hk:k<l.length)(hn:l.length<=1000):Calls prog 109 #[v,I6 k,I6 ((k:Int)+1)] w fun e w'=>∃ g cap,e=.returned (Sq g (l.length-1) cap)/\w'.ownsRow 0 155 3 (Sq g (l.length-1) cap) (l.length-1) ((aA l k).flatMap ak)/\w.grownBy w' v.ownBlock/\∀ b,(Value.slice (some (At g 0)) (l.length-1) cap).ownBlock=some b->v.ownBlock=some b\/w.heap.size<=b:=by
 have hkk:∀ x:Hd,(ak x).length=3:=fun _=>rfl
 rcases hown.2 with⟨rfl,e⟩|⟨g,cap,cur,rfl,_,hg,h1,h2,h3,h4⟩
 ·omega
 ·obtain⟨m,hm⟩:∃ m,l.length=m+1:=⟨l.length-1,by omega⟩
  rw[hm] at h1 h4 hk ⊢;refine(GR (l.flatMap ak) m k g cap cur w om om hg h3 h4 h1 h2 (Dc l)).mono ?_
  rintro e w' ⟨rfl,o1,o2⟩
  rw[lD hkk] at o1;exact⟨g,cap,rfl,o1,o2,fun b e=>.inl e⟩
theorem vG(w:World)(x:Nat)(S:Nat->Prop)(s:Bk)(l:Ln)(hI:Inv s)(hL:aZ l)(h:au w x S s)(h1:ah s.pools l.a l.n=-1):Calls prog 70 #[Pq x,.agg (lnC l)] w (Res w x S (s,ref 7)):=by
 obtain⟨vp,vn,vl,c,B⟩:=h;have hx:=B.blk.lt;have H:Hid (au w x S s):=⟨vp,vn,vl,c,B⟩
 obtain⟨x0,x1,x2⟩:=B.c3;have LIVE:Hid (∀ wk,BW w l wk->cd w wk x vp vn vl l):=aO l B
 have HBA:Hid (BA w x S vp vn vl c s):=B
 have hxa:¬(x=w.heap.size):=by omega
 have hxb:¬(w.heap.size=x):=by omega
 have HF:Hid (∀ Wc,Bl w Wc->Cr prog 106 #[vp,.agg #[U3 l.a,I6 l.n]] Wc (I6 (ah s.pools l.a l.n))):=fun Wc hW=>gD s.pools l.a l.n vp Wc (fun q hq=>(hI.pa q hq).1) hL.a ((Rd.of_owns (k:=3) (enc:=ak) (fun _=>rfl) hd0 B.op).below hW)
 rw[h1] at HF;obtain⟨bq,cq,eq,_,_⟩:=ae B.op;subst eq;clear B;unfold lnC;go_enter func70,ntmps70
 go_wp2;go_region_held3 (fun w'=>w'.cell? (At x 0)=some (.slice bq s.pools.length cq)/\w'.cell? (At w.heap.size 3)=some (U3 l.a)/\w'.cell? (At w.heap.size 4)=some (I6 l.n)) (go_keep) (first|(go_at_call 106;refine Mo (HF.o _ upB) fun w1 HQ=>?_;have HB1:Hid (BW w l w1):=al upB sM HQ;clear HQ;have HW1:Hid (Bl w w1):=(ab w l).trans (HB1.o.mono om);obtain⟨x0_1,-,-,-,-,-,o_1,a_1,n_1,-,-,r0_1,r1_1,g0_1,g1_1,zx_1,z0_1,z1_1,-⟩:=LIVE.o w1 HB1.o))
 all_goals (
  go_wp2_with (go_at_call 39;refine Mo (az 7 _) fun w9 HQ=>?_;have HB9:Hid (BW w l w9):=al (by have hp:=HB1.o;exact upB) sM HQ;clear HQ;have HW9:Hid (Bl w w9):=(ab w l).trans (HB9.o.mono om);obtain⟨r0_9,r1_9,g0_9,g1_9,z1_9⟩:=(LIVE.o w9 HB9.o).q)
  have hR:=(LIVE.o w9 HB9.o).rb
  obtain⟨kk0,kk1⟩:=ay hR (I6 7) (.slice none 0 0)
  have hfin:=a7 (l:=l) 7 H.o HB9.o
  exact bodyPost_ret (v:=.agg #[I6 7,.slice none 0 0]) (by simp[results,results70,go_sem,kk0,kk1]) rfl hfin)
theorem sh(w:World)(x:Nat)(S:Nat->Prop)(s:Bk)(l:Ln)(hI:Inv s)(hL:aZ l)(h:au w x S s)(k:Nat)(ok:Bz)(hk:k<s.pools.length)(h1:ah s.pools l.a l.n=k)(his:isH l.a l.n (s.pools.getD k hd0)=true)(hok:(s.pools.getD k hd0).o=ok)(h2:ok≠l.o):Calls prog 70 #[Pq x,.agg (lnC l)] w (Res w x S (s,ref 8)):=by
 obtain⟨vp,vn,vl,c,B⟩:=h;have hx:=B.blk.lt;have H:Hid (au w x S s):=⟨vp,vn,vl,c,B⟩
 obtain⟨x0,x1,x2⟩:=B.c3;have LIVE:Hid (∀ wk,BW w l wk->cd w wk x vp vn vl l):=aO l B
 have HBA:Hid (BA w x S vp vn vl c s):=B
 have hxa:¬(x=w.heap.size):=by omega
 have hxb:¬(w.heap.size=x):=by omega
 have HF:Hid (∀ Wc,Bl w Wc->Cr prog 106 #[vp,.agg #[U3 l.a,I6 l.n]] Wc (I6 (ah s.pools l.a l.n))):=fun Wc hW=>gD s.pools l.a l.n vp Wc (fun q hq=>(hI.pa q hq).1) hL.a ((Rd.of_owns (k:=3) (enc:=ak) (fun _=>rfl) hd0 B.op).below hW)
 rw[h1] at HF;have HOW:Hid (∀ Wc,Bl w Wc->Cr prog 107 #[.agg #[U3 l.a,I6 l.n,.string ok],.string l.o] Wc (.bool (ok.toList==l.o.toList))):=fun Wc hW=>eb ⟨l.a,l.n,ok⟩ l.o Wc
 rw[nV,decide_eq_false h2] at HOW;have hkk:∀ q:Hd,(ak q).length=3:=fun _=>rfl
 have hrd:=Rd.of_owns hkk hd0 B.op;obtain⟨bq,cq,ev,hq1,hq2,hq3⟩:=hrd;obtain⟨gq,rfl,hq4,hq5⟩:=hq3 (by intro e;rw[e] at hk;simp at hk)
 have hk5:=hq5 k hk;have hk6:(s.pools.getD k hd0).a=l.a/\(s.pools.getD k hd0).n=l.n:=by simpa[isH] using his
 have ROW:Hid (∀ wk,Bl w wk->wk.cell? (At gq (k*3))=some (U3 l.a)/\wk.cell? (At gq (k*3+1))=some (I6 l.n)/\wk.cell? (At gq (k*3+2))=some (.string ok)):=fun wk hw =>
  ⟨(hw.cell (p:=At gq (k*3)) hq4).trans (by rw[<- hk6.1];exact hk5 0 _ rfl),(hw.cell (p:=At gq (k*3+1)) hq4).trans (by rw[<- hk6.2];exact hk5 1 _ rfl),(hw.cell (p:=At gq (k*3+2)) hq4).trans (by rw[<- hok];exact hk5 2 _ rfl)⟩
 have hlen:s.pools.length<=1000:=by have:=hI.p;omega
 have hkz:(k:Int)<(s.pools.length:Int):=by omega
 have hkn:¬((k:Int)<0):=by omega
 have hk0:(0:Int)<=(k:Int):=by omega
 clear hq1 hq2 hq5 hk5 hk6 his hok;subst ev;clear B;unfold lnC;go_enter func70,ntmps70
 go_wp2;go_region_held3 (fun w'=>w'.cell? (At x 0)=some (Sq gq s.pools.length cq)/\w'.cell? (At w.heap.size 3)=some (U3 l.a)/\w'.cell? (At w.heap.size 4)=some (I6 l.n)) (go_keep) (first|(go_at_call 106;refine Mo (HF.o _ upB) fun w1 HQ=>?_;have HB1:Hid (BW w l w1):=al upB sM HQ;clear HQ;have HW1:Hid (Bl w w1):=(ab w l).trans (HB1.o.mono om);obtain⟨x0_1,-,-,-,-,-,o_1,a_1,n_1,-,-,r0_1,r1_1,g0_1,g1_1,zx_1,z0_1,z1_1,-⟩:=LIVE.o w1 HB1.o;obtain⟨e0_1,e1_1,e2_1⟩:=ROW.o w1 HW1.o))
 all_goals (
  go_wp2;go_region_held3 (fun w'=>w'.cell? (At x 0)=some (Sq gq s.pools.length cq)/\w'.cell? (At w.heap.size 2)=some (.string l.o)/\w'.cell? (At gq (k*3))=some (U3 l.a)/\w'.cell? (At gq (k*3+1))=some (I6 l.n)/\w'.cell? (At gq (k*3+2))=some (.string ok)) (go_keep) (first|(go_at_call 107;refine Mo (HOW.o _ (by have hp:=HW1.o;exact upB)) fun w2 HQ=>?_;have HB2:Hid (BW w l w2):=al (by have hp:=HB1.o;exact upB) sM HQ;clear HQ;have HW2:Hid (Bl w w2):=(ab w l).trans (HB2.o.mono om);obtain⟨x0_2,-,-,-,-,-,o_2,-,-,-,-,r0_2,r1_2,g0_2,g1_2,zx_2,z0_2,z1_2,-⟩:=LIVE.o w2 HB2.o;obtain⟨e0_2,e1_2,e2_2⟩:=ROW.o w2 HW2.o))
  all_goals (
   go_wp2_with (go_at_call 39;refine Mo (az 8 _) fun w9 HQ=>?_;have HB9:Hid (BW w l w9):=al (by have hp:=HB2.o;exact upB) sM HQ;clear HQ;have HW9:Hid (Bl w w9):=(ab w l).trans (HB9.o.mono om);obtain⟨r0_9,r1_9,g0_9,g1_9,z1_9⟩:=(LIVE.o w9 HB9.o).q)
   have hR:=(LIVE.o w9 HB9.o).rb
   obtain⟨kk0,kk1⟩:=ay hR (I6 8) (.slice none 0 0)
   have hfin:=a7 (l:=l) 8 H.o HB9.o
   exact bodyPost_ret (v:=.agg #[I6 8,.slice none 0 0]) (by simp[results,results70,go_sem,kk0,kk1]) rfl hfin))
theorem vF(w:World)(x:Nat)(S:Nat->Prop)(s:Bk)(l:Ln)(hI:Inv s)(hL:aZ l)(h:au w x S s)(k:Nat)(ok:Bz)(hk:k<s.pools.length)(h1:ah s.pools l.a l.n=k)(his:isH l.a l.n (s.pools.getD k hd0)=true)(hok:(s.pools.getD k hd0).o=ok)(h2:ok=l.o)(h3:¬(af s.nets l.a l.n)=[]):Calls prog 70 #[Pq x,.agg (lnC l)] w (Res w x S (s,ref 9)):=by
 obtain⟨vp,vn,vl,c,B⟩:=h;have hx:=B.blk.lt;have H:Hid (au w x S s):=⟨vp,vn,vl,c,B⟩
 obtain⟨x0,x1,x2⟩:=B.c3;have LIVE:Hid (∀ wk,BW w l wk->cd w wk x vp vn vl l):=aO l B
 have HBA:Hid (BA w x S vp vn vl c s):=B
 have hxa:¬(x=w.heap.size):=by omega
 have hxb:¬(w.heap.size=x):=by omega
 have HF:Hid (∀ Wc,Bl w Wc->Cr prog 106 #[vp,.agg #[U3 l.a,I6 l.n]] Wc (I6 (ah s.pools l.a l.n))):=fun Wc hW=>gD s.pools l.a l.n vp Wc (fun q hq=>(hI.pa q hq).1) hL.a ((Rd.of_owns (k:=3) (enc:=ak) (fun _=>rfl) hd0 B.op).below hW)
 rw[h1] at HF;have HOW:Hid (∀ Wc,Bl w Wc->Cr prog 107 #[.agg #[U3 l.a,I6 l.n,.string ok],.string l.o] Wc (.bool (ok.toList==l.o.toList))):=fun Wc hW=>eb ⟨l.a,l.n,ok⟩ l.o Wc
 rw[nV,decide_eq_true h2] at HOW;clear h2;have HSUB:Hid (∀ Wc,Bl w Wc->Calls prog 108 #[Pq x,.agg #[U3 l.a,I6 l.n,.string ok]] Wc fun e w'=>(∃ b c,e=.returned (.slice b (af s.nets l.a l.n).length c))/\Bl Wc w'):=fun Wc hW=>by
  refine(eh x s.nets ⟨l.a,l.n,ok⟩ vn Wc (Nat.lt_of_lt_of_le hx hW.size) ((hW.cell (p:=At x 1) hx).trans x1) ((Rd.of_owns (k:=3) (enc:=ak) (fun _=>rfl) hd0 B.on).below hW) (by have:=hI.n;omega) (fun q hq=>(hI.na q hq).1) hL.a).mono ?_
  rintro e w' ⟨vv,rfl,o1,o2⟩
  obtain⟨b,c,rfl,_,_⟩:=ae o1;exact⟨⟨b,c,rfl⟩,o2⟩
 have hkk:∀ q:Hd,(ak q).length=3:=fun _=>rfl
 have hrd:=Rd.of_owns hkk hd0 B.op;obtain⟨bq,cq,ev,hq1,hq2,hq3⟩:=hrd;obtain⟨gq,rfl,hq4,hq5⟩:=hq3 (by intro e;rw[e] at hk;simp at hk)
 have hk5:=hq5 k hk;have hk6:(s.pools.getD k hd0).a=l.a/\(s.pools.getD k hd0).n=l.n:=by simpa[isH] using his
 have ROW:Hid (∀ wk,Bl w wk->wk.cell? (At gq (k*3))=some (U3 l.a)/\wk.cell? (At gq (k*3+1))=some (I6 l.n)/\wk.cell? (At gq (k*3+2))=some (.string ok)):=fun wk hw =>
  ⟨(hw.cell (p:=At gq (k*3)) hq4).trans (by rw[<- hk6.1];exact hk5 0 _ rfl),(hw.cell (p:=At gq (k*3+1)) hq4).trans (by rw[<- hk6.2];exact hk5 1 _ rfl),(hw.cell (p:=At gq (k*3+2)) hq4).trans (by rw[<- hok];exact hk5 2 _ rfl)⟩
 have hlen:s.pools.length<=1000:=by have:=hI.p;omega
 have hkz:(k:Int)<(s.pools.length:Int):=by omega
 have hkn:¬((k:Int)<0):=by omega
 have hk0:(0:Int)<=(k:Int):=by omega
 clear hq1 hq2 hq5 hk5 hk6 his hok;subst ev;have h4:(0:Int)<(((af s.nets l.a l.n).length:Nat):Int):=by have:=List.length_pos_iff.2 h3;omega
 clear B;unfold lnC;go_enter func70,ntmps70
 go_wp2;go_region_held3 (fun w'=>w'.cell? (At x 0)=some (Sq gq s.pools.length cq)/\w'.cell? (At w.heap.size 3)=some (U3 l.a)/\w'.cell? (At w.heap.size 4)=some (I6 l.n)) (go_keep) (first|(go_at_call 106;refine Mo (HF.o _ upB) fun w1 HQ=>?_;have HB1:Hid (BW w l w1):=al upB sM HQ;clear HQ;have HW1:Hid (Bl w w1):=(ab w l).trans (HB1.o.mono om);obtain⟨x0_1,-,-,-,-,-,o_1,a_1,n_1,-,-,r0_1,r1_1,g0_1,g1_1,zx_1,z0_1,z1_1,-⟩:=LIVE.o w1 HB1.o;obtain⟨e0_1,e1_1,e2_1⟩:=ROW.o w1 HW1.o))
 all_goals (
  go_wp2;go_region_held3 (fun w'=>w'.cell? (At x 0)=some (Sq gq s.pools.length cq)/\w'.cell? (At w.heap.size 2)=some (.string l.o)/\w'.cell? (At gq (k*3))=some (U3 l.a)/\w'.cell? (At gq (k*3+1))=some (I6 l.n)/\w'.cell? (At gq (k*3+2))=some (.string ok)) (go_keep) (first|(go_at_call 107;refine Mo (HOW.o _ (by have hp:=HW1.o;exact upB)) fun w2 HQ=>?_;have HB2:Hid (BW w l w2):=al (by have hp:=HB1.o;exact upB) sM HQ;clear HQ;have HW2:Hid (Bl w w2):=(ab w l).trans (HB2.o.mono om);obtain⟨x0_2,-,-,-,-,-,o_2,-,-,-,-,r0_2,r1_2,g0_2,g1_2,zx_2,z0_2,z1_2,-⟩:=LIVE.o w2 HB2.o;obtain⟨e0_2,e1_2,e2_2⟩:=ROW.o w2 HW2.o))
  all_goals (
   go_wp2_with (first|(go_at_call 108;refine(HSUB.o _ (by have hp:=HW2.o;exact upB)).mono ?_;rintro e w3 ⟨⟨bs,cs,rfl⟩,HQ⟩;have HB3:Hid (BW w l w3):=al (by have hp:=HB2.o;exact upB) sM HQ;clear HQ;have HW3:Hid (Bl w w3):=(ab w l).trans (HB3.o.mono om);obtain⟨x0_3,-,-,-,-,-,-,-,-,-,-,r0_3,r1_3,g0_3,g1_3,zx_3,z0_3,z1_3,-⟩:=LIVE.o w3 HB3.o;obtain⟨e0_3,e1_3,e2_3⟩:=ROW.o w3 HW3.o)|(go_at_call 39;refine Mo (az 9 _) fun w9 HQ=>?_;have HB9:Hid (BW w l w9):=al (by have hp:=HB3.o;exact upB) sM HQ;clear HQ;have HW9:Hid (Bl w w9):=(ab w l).trans (HB9.o.mono om);obtain⟨r0_9,r1_9,g0_9,g1_9,z1_9⟩:=(LIVE.o w9 HB9.o).q))
   have hR:=(LIVE.o w9 HB9.o).rb
   obtain⟨kk0,kk1⟩:=ay hR (I6 9) (.slice none 0 0)
   have hfin:=a7 (l:=l) 9 H.o HB9.o
   exact bodyPost_ret (v:=.agg #[I6 9,.slice none 0 0]) (by simp[results,results70,go_sem,kk0,kk1]) rfl hfin))
theorem Cz(w:World)(x:Nat)(S:Nat->Prop)(s:Bk)(l:Ln)(hI:Inv s)(hL:aZ l)(h:au w x S s)(k:Nat)(ok:Bz)(hk:k<s.pools.length)(h1:ah s.pools l.a l.n=k)(his:isH l.a l.n (s.pools.getD k hd0)=true)(hok:(s.pools.getD k hd0).o=ok)(h2:ok=l.o)(h3:(af s.nets l.a l.n)=[]):Calls prog 70 #[Pq x,.agg (lnC l)] w (Res w x S ({ s with pools:=aA s.pools k },okA)):=by
 obtain⟨vp,vn,vl,c,B⟩:=h;have hx:=B.blk.lt;have H:Hid (au w x S s):=⟨vp,vn,vl,c,B⟩
 obtain⟨x0,x1,x2⟩:=B.c3;have LIVE:Hid (∀ wk,BW w l wk->cd w wk x vp vn vl l):=aO l B
 have HBA:Hid (BA w x S vp vn vl c s):=B
 have hxa:¬(x=w.heap.size):=by omega
 have hxb:¬(w.heap.size=x):=by omega
 have HF:Hid (∀ Wc,Bl w Wc->Cr prog 106 #[vp,.agg #[U3 l.a,I6 l.n]] Wc (I6 (ah s.pools l.a l.n))):=fun Wc hW=>gD s.pools l.a l.n vp Wc (fun q hq=>(hI.pa q hq).1) hL.a ((Rd.of_owns (k:=3) (enc:=ak) (fun _=>rfl) hd0 B.op).below hW)
 rw[h1] at HF;have HOW:Hid (∀ Wc,Bl w Wc->Cr prog 107 #[.agg #[U3 l.a,I6 l.n,.string ok],.string l.o] Wc (.bool (ok.toList==l.o.toList))):=fun Wc hW=>eb ⟨l.a,l.n,ok⟩ l.o Wc
 rw[nV,decide_eq_true h2] at HOW;clear h2;have HSUB:Hid (∀ Wc,Bl w Wc->Calls prog 108 #[Pq x,.agg #[U3 l.a,I6 l.n,.string ok]] Wc fun e w'=>(∃ b c,e=.returned (.slice b (af s.nets l.a l.n).length c))/\Bl Wc w'):=fun Wc hW=>by
  refine(eh x s.nets ⟨l.a,l.n,ok⟩ vn Wc (Nat.lt_of_lt_of_le hx hW.size) ((hW.cell (p:=At x 1) hx).trans x1) ((Rd.of_owns (k:=3) (enc:=ak) (fun _=>rfl) hd0 B.on).below hW) (by have:=hI.n;omega) (fun q hq=>(hI.na q hq).1) hL.a).mono ?_
  rintro e w' ⟨vv,rfl,o1,o2⟩
  obtain⟨b,c,rfl,_,_⟩:=ae o1;exact⟨⟨b,c,rfl⟩,o2⟩
 rw[h3] at HSUB;have HIN:Hid (∀ Wc,Bl w Wc->Calls prog 109 #[vp,I6 k,I6 ((k:Int)+1)] Wc fun e w'=>∃ g cap,e=.returned (Sq g (s.pools.length-1) cap)/\w'.ownsRow 0 155 3 (Sq g (s.pools.length-1) cap) (s.pools.length-1) ((aA s.pools k).flatMap ak)/\Wc.grownBy w' vp.ownBlock/\∀ b,(Value.slice (some (At g 0)) (s.pools.length-1) cap).ownBlock=some b->vp.ownBlock=some b\/Wc.heap.size<=b):=fun Wc hW=>yN (av B.op hW) k hk (by have:=hI.p;omega)
 have FIX:Hid (∀ (W:World) v,W.ownsRow 0 155 3 v (s.pools.length-1) ((aA s.pools k).flatMap ak)->W.ownsRow 0 155 3 v (aA s.pools k).length ((aA s.pools k).flatMap ak)):=fun W v q=>by rw[jI _ _ hk];exact q
 have NX:Hid (vp.ownBlock≠some x):=fun e=>((B.apart.1) x e).1 rfl
 have NR:Hid (∀ b,vp.ownBlock=some b->b<w.heap.size):=fun b e=>(cI B.op b e).1
 generalize hob:vp.ownBlock=ob at HIN NX NR
 have HOB:Hid (vp.ownBlock=ob):=hob
 clear hob;have hkk:∀ q:Hd,(ak q).length=3:=fun _=>rfl
 have hrd:=Rd.of_owns hkk hd0 B.op;obtain⟨bq,cq,ev,hq1,hq2,hq3⟩:=hrd;obtain⟨gq,rfl,hq4,hq5⟩:=hq3 (by intro e;rw[e] at hk;simp at hk)
 have hk5:=hq5 k hk;have hk6:(s.pools.getD k hd0).a=l.a/\(s.pools.getD k hd0).n=l.n:=by simpa[isH] using his
 have ROW:Hid (∀ wk,Bl w wk->wk.cell? (At gq (k*3))=some (U3 l.a)/\wk.cell? (At gq (k*3+1))=some (I6 l.n)/\wk.cell? (At gq (k*3+2))=some (.string ok)):=fun wk hw =>
  ⟨(hw.cell (p:=At gq (k*3)) hq4).trans (by rw[<- hk6.1];exact hk5 0 _ rfl),(hw.cell (p:=At gq (k*3+1)) hq4).trans (by rw[<- hk6.2];exact hk5 1 _ rfl),(hw.cell (p:=At gq (k*3+2)) hq4).trans (by rw[<- hok];exact hk5 2 _ rfl)⟩
 have hlen:s.pools.length<=1000:=by have:=hI.p;omega
 have hkz:(k:Int)<(s.pools.length:Int):=by omega
 have hkn:¬((k:Int)<0):=by omega
 have hk0:(0:Int)<=(k:Int):=by omega
 clear hq1 hq2 hq5 hk5 hk6 his hok;subst ev;have hw1:IntKind.i64.wrap ((k:Int)+1)=(k:Int)+1:=by rw[IntKind.wrap_i64];omega
 clear B;unfold lnC;go_enter func70,ntmps70
 go_wp2;go_region_held3 (fun w'=>w'.cell? (At x 0)=some (Sq gq s.pools.length cq)/\w'.cell? (At w.heap.size 3)=some (U3 l.a)/\w'.cell? (At w.heap.size 4)=some (I6 l.n)) (go_keep) (first|(go_at_call 106;refine Mo (HF.o _ upB) fun w1 HQ=>?_;have HB1:Hid (BW w l w1):=al upB sM HQ;clear HQ;have HW1:Hid (Bl w w1):=(ab w l).trans (HB1.o.mono om);obtain⟨x0_1,-,-,-,-,-,o_1,a_1,n_1,-,-,r0_1,r1_1,g0_1,g1_1,zx_1,z0_1,z1_1,-⟩:=LIVE.o w1 HB1.o;obtain⟨e0_1,e1_1,e2_1⟩:=ROW.o w1 HW1.o))
 all_goals (
  go_wp2;go_region_held3 (fun w'=>w'.cell? (At x 0)=some (Sq gq s.pools.length cq)/\w'.cell? (At w.heap.size 2)=some (.string l.o)/\w'.cell? (At gq (k*3))=some (U3 l.a)/\w'.cell? (At gq (k*3+1))=some (I6 l.n)/\w'.cell? (At gq (k*3+2))=some (.string ok)) (go_keep) (first|(go_at_call 107;refine Mo (HOW.o _ (by have hp:=HW1.o;exact upB)) fun w2 HQ=>?_;have HB2:Hid (BW w l w2):=al (by have hp:=HB1.o;exact upB) sM HQ;clear HQ;have HW2:Hid (Bl w w2):=(ab w l).trans (HB2.o.mono om);obtain⟨x0_2,-,-,-,-,-,o_2,-,-,-,-,r0_2,r1_2,g0_2,g1_2,zx_2,z0_2,z1_2,-⟩:=LIVE.o w2 HB2.o;obtain⟨e0_2,e1_2,e2_2⟩:=ROW.o w2 HW2.o))
  all_goals (
   go_wp2_with (first|(go_at_call 108;refine(HSUB.o _ (by have hp:=HW2.o;exact upB)).mono ?_;rintro e w3 ⟨⟨bs,cs,rfl⟩,HQ⟩;have HB3:Hid (BW w l w3):=al (by have hp:=HB2.o;exact upB) sM HQ;clear HQ;have HW3:Hid (Bl w w3):=(ab w l).trans (HB3.o.mono om);obtain⟨x0_3,-,-,-,-,-,-,-,-,-,-,r0_3,r1_3,g0_3,g1_3,zx_3,z0_3,z1_3,-⟩:=LIVE.o w3 HB3.o;obtain⟨e0_3,e1_3,e2_3⟩:=ROW.o w3 HW3.o)|(go_at_call 109;refine(HIN.o _ (by have hp:=HW3.o;exact upB)).mono ?_;rintro e w4 ⟨g2,cap2,rfl,o1,o2,o3⟩;have LV4:=(LIVE.o _ (by have hp:=HB3.o;exact upB)).far o2 NX.o NR.o;have HG:Hid (∃ Wc,Bl w Wc/\w.heap.size+2<=Wc.heap.size/\Wc.grownBy w4 ob/\∀ b,(Value.slice (some (At g2 0)) (s.pools.length-1) cap2).ownBlock=some b->ob=some b\/Wc.heap.size<=b):=⟨_,by have hp:=HW3.o;exact upB,by have hz:=HB3.o.size;simp at hz ⊢;omega,o2,o3⟩;have HO:Hid (w4.ownsRow 0 155 3 (Sq g2 (s.pools.length-1) cap2) (s.pools.length-1) ((aA s.pools k).flatMap ak)):=o1;have RB4:Hid (Blk w4 (w.heap.size+1) #[I6 0,.slice none 0 0] 98):=LV4.rb;have x_4:=LV4.x0;have f_4:=LV4.f0;have a_4:=LV4.a;have n_4:=LV4.n;have o_4:=LV4.o;have zx_4:=LV4.zx;have z1_4:=LV4.z1;clear LV4 o1 o2 o3)|(go_at_call 105;refine Mo (fc none 0 0 _) fun w5 HQ=>?_;have HQ5:Hid (Below w4.heap.size (w4.setCell (At x 0) (Sq g2 (s.pools.length-1) cap2)) w5):=HQ.mono (by simp[World.setCell]);have RB5:Blk w5 (w.heap.size+1) #[I6 0,.slice none 0 0] 98:=(HQ5.o.block _ z1_4).trans ((Below.heap_setCell _ _ _ _ (fun e=>by have e2:w.heap.size+1=x:=e;omega)).trans RB4.o);clear HQ;have HR5:Hid (Blk w5 (w.heap.size+1) #[I6 0,.slice none 0 0] 98):=RB5;have r0_5:w5.cell? (At (w.heap.size+1) 0)=some (I6 0):=RB5.cell 0;have r1_5:w5.cell? (At (w.heap.size+1) 1)=some (.slice none 0 0):=RB5.cell 1;have g0_5:w5.frozen? (At (w.heap.size+1) 0)=false:=RB5.frozen 0;have g1_5:w5.frozen? (At (w.heap.size+1) 1)=false:=RB5.frozen 1;clear RB5))
   obtain⟨kk0,kk1⟩:=ay HR5.o (I6 0) (.slice none 0 0)
   obtain⟨Wc,hc1,hc2,hc3,hc4⟩:=HG.o;rw[<- HOB.o] at hc3 hc4;have hfin:=qQ HBA.o hc1 hc2 hc3 (FIX.o _ _ HO.o) hc4 HQ5.o
   exact bodyPost_ret (v:=.agg #[I6 0,.slice none 0 0]) (by simp[results,results70,go_sem,kk0,kk1]) rfl hfin))
theorem oc(w:World)(x:Nat)(S:Nat->Prop)(s:Bk)(l:Ln)(hI:Inv s)(hL:aZ l)(h:au w x S s):Calls prog 70 #[Pq x,.agg (lnC l)] w (Res w x S (cR s l)):=by
 unfold cR;rcases aV (isH l.a l.n) s.pools hd0 with⟨e,_⟩|⟨k,hk,e,hp,_⟩
 ·have e1:ah s.pools l.a l.n=-1:=e
  rw[if_pos (by rw[e1];decide)];exact vG w x S s l hI hL h e1
 ·have e1:ah s.pools l.a l.n=k:=e
  have e2:(ah s.pools l.a l.n).toNat=k:=by rw[e1];omega
  rw[if_neg (by rw[e1];omega),e2]
  by_cases h2:(s.pools.getD k hd0).o=l.o
  ·rw[if_neg (by rw[h2];exact fun q=>q rfl)]
   by_cases h3:af s.nets l.a l.n=[]
   ·rw[if_neg (by rw[h3];exact fun q=>q rfl)];exact Cz w x S s l hI hL h k _ hk e1 hp rfl h2 h3
   ·rw[if_pos h3];exact vF w x S s l hI hL h k _ hk e1 hp rfl h2 h3
  ·rw[if_pos h2];exact sh w x S s l hI hL h k _ hk e1 hp rfl h2
theorem Cu{w:World}{v:Value}{l:List Hd}(hown:w.ownsRow 0 195 3 v l.length (l.flatMap ak))(k:Nat)(hk:k<l.length)(hn:l.length<=1000):Calls prog 118 #[v,I6 k,I6 ((k:Int)+1)] w fun e w'=>∃ g cap,e=.returned (Sq g (l.length-1) cap)/\w'.ownsRow 0 195 3 (Sq g (l.length-1) cap) (l.length-1) ((aA l k).flatMap ak)/\w.grownBy w' v.ownBlock/\∀ b,(Value.slice (some (At g 0)) (l.length-1) cap).ownBlock=some b->v.ownBlock=some b\/w.heap.size<=b:=by
 have hkk:∀ x:Hd,(ak x).length=3:=fun _=>rfl
 rcases hown.2 with⟨rfl,e⟩|⟨g,cap,cur,rfl,_,hg,h1,h2,h3,h4⟩
 ·omega
 ·obtain⟨m,hm⟩:∃ m,l.length=m+1:=⟨l.length-1,by omega⟩
  rw[hm] at h1 h4 hk ⊢;refine(GU (l.flatMap ak) m k g cap cur w om om hg h3 h4 h1 h2 (Dc l)).mono ?_
  rintro e w' ⟨rfl,o1,o2⟩
  rw[lD hkk] at o1;exact⟨g,cap,rfl,o1,o2,fun b e=>.inl e⟩
theorem sy(w:World)(x:Nat)(S:Nat->Prop)(s:Bk)(l:Ln)(hI:Inv s)(hL:aZ l)(h:au w x S s)(h1:ah s.nets l.a l.n=-1):Calls prog 73 #[Pq x,.agg (lnC l)] w (Res w x S (s,ref 11)):=by
 obtain⟨vp,vn,vl,c,B⟩:=h;have hx:=B.blk.lt;have H:Hid (au w x S s):=⟨vp,vn,vl,c,B⟩
 obtain⟨x0,x1,x2⟩:=B.c3;have LIVE:Hid (∀ wk,BW w l wk->cd w wk x vp vn vl l):=aO l B
 have HBA:Hid (BA w x S vp vn vl c s):=B
 have hxa:¬(x=w.heap.size):=by omega
 have hxb:¬(w.heap.size=x):=by omega
 have HF:Hid (∀ Wc,Bl w Wc->Cr prog 116 #[vn,.agg #[U3 l.a,I6 l.n]] Wc (I6 (ah s.nets l.a l.n))):=fun Wc hW=>im s.nets l.a l.n vn Wc (fun q hq=>(hI.na q hq).1) hL.a ((Rd.of_owns (k:=3) (enc:=ak) (fun _=>rfl) hd0 B.on).below hW)
 rw[h1] at HF;obtain⟨bq,cq,eq,_,_⟩:=ae B.on;subst eq;clear B;unfold lnC;go_enter func73,ntmps73
 go_wp2;go_region_held3 (fun w'=>w'.cell? (At x 1)=some (.slice bq s.nets.length cq)/\w'.cell? (At w.heap.size 3)=some (U3 l.a)/\w'.cell? (At w.heap.size 4)=some (I6 l.n)) (go_keep) (first|(go_at_call 116;refine Mo (HF.o _ upB) fun w1 HQ=>?_;have HB1:Hid (BW w l w1):=al upB sM HQ;clear HQ;have HW1:Hid (Bl w w1):=(ab w l).trans (HB1.o.mono om);obtain⟨-,x1_1,-,-,-,-,o_1,a_1,n_1,-,-,r0_1,r1_1,g0_1,g1_1,zx_1,z0_1,z1_1,-⟩:=LIVE.o w1 HB1.o))
 all_goals (
  go_wp2_with (go_at_call 39;refine Mo (az 11 _) fun w9 HQ=>?_;have HB9:Hid (BW w l w9):=al (by have hp:=HB1.o;exact upB) sM HQ;clear HQ;have HW9:Hid (Bl w w9):=(ab w l).trans (HB9.o.mono om);obtain⟨r0_9,r1_9,g0_9,g1_9,z1_9⟩:=(LIVE.o w9 HB9.o).q)
  have hR:=(LIVE.o w9 HB9.o).rb
  obtain⟨kk0,kk1⟩:=ay hR (I6 11) (.slice none 0 0)
  have hfin:=a7 (l:=l) 11 H.o HB9.o
  exact bodyPost_ret (v:=.agg #[I6 11,.slice none 0 0]) (by simp[results,results73,go_sem,kk0,kk1]) rfl hfin)
theorem qc(w:World)(x:Nat)(S:Nat->Prop)(s:Bk)(l:Ln)(hI:Inv s)(hL:aZ l)(h:au w x S s)(k:Nat)(ok:Bz)(hk:k<s.nets.length)(h1:ah s.nets l.a l.n=k)(his:isH l.a l.n (s.nets.getD k hd0)=true)(hok:(s.nets.getD k hd0).o=ok)(h2:ok≠l.o):Calls prog 73 #[Pq x,.agg (lnC l)] w (Res w x S (s,ref 8)):=by
 obtain⟨vp,vn,vl,c,B⟩:=h;have hx:=B.blk.lt;have H:Hid (au w x S s):=⟨vp,vn,vl,c,B⟩
 obtain⟨x0,x1,x2⟩:=B.c3;have LIVE:Hid (∀ wk,BW w l wk->cd w wk x vp vn vl l):=aO l B
 have HBA:Hid (BA w x S vp vn vl c s):=B
 have hxa:¬(x=w.heap.size):=by omega
 have hxb:¬(w.heap.size=x):=by omega
 have HF:Hid (∀ Wc,Bl w Wc->Cr prog 116 #[vn,.agg #[U3 l.a,I6 l.n]] Wc (I6 (ah s.nets l.a l.n))):=fun Wc hW=>im s.nets l.a l.n vn Wc (fun q hq=>(hI.na q hq).1) hL.a ((Rd.of_owns (k:=3) (enc:=ak) (fun _=>rfl) hd0 B.on).below hW)
 rw[h1] at HF;have HOW:Hid (∀ Wc,Bl w Wc->Cr prog 107 #[.agg #[U3 l.a,I6 l.n,.string ok],.string l.o] Wc (.bool (ok.toList==l.o.toList))):=fun Wc hW=>eb ⟨l.a,l.n,ok⟩ l.o Wc
 rw[nV,decide_eq_false h2] at HOW;have hkk:∀ q:Hd,(ak q).length=3:=fun _=>rfl
 have hrd:=Rd.of_owns hkk hd0 B.on;obtain⟨bq,cq,ev,hq1,hq2,hq3⟩:=hrd;obtain⟨gq,rfl,hq4,hq5⟩:=hq3 (by intro e;rw[e] at hk;simp at hk)
 have hk5:=hq5 k hk;have hk6:(s.nets.getD k hd0).a=l.a/\(s.nets.getD k hd0).n=l.n:=by simpa[isH] using his
 have ROW:Hid (∀ wk,Bl w wk->wk.cell? (At gq (k*3))=some (U3 l.a)/\wk.cell? (At gq (k*3+1))=some (I6 l.n)/\wk.cell? (At gq (k*3+2))=some (.string ok)):=fun wk hw =>
  ⟨(hw.cell (p:=At gq (k*3)) hq4).trans (by rw[<- hk6.1];exact hk5 0 _ rfl),(hw.cell (p:=At gq (k*3+1)) hq4).trans (by rw[<- hk6.2];exact hk5 1 _ rfl),(hw.cell (p:=At gq (k*3+2)) hq4).trans (by rw[<- hok];exact hk5 2 _ rfl)⟩
 have hlen:s.nets.length<=1000:=by have:=hI.n;omega
 have hkz:(k:Int)<(s.nets.length:Int):=by omega
 have hkn:¬((k:Int)<0):=by omega
 have hk0:(0:Int)<=(k:Int):=by omega
 clear hq1 hq2 hq5 hk5 hk6 his hok;subst ev;clear B;unfold lnC;go_enter func73,ntmps73
 go_wp2;go_region_held3 (fun w'=>w'.cell? (At x 1)=some (Sq gq s.nets.length cq)/\w'.cell? (At w.heap.size 3)=some (U3 l.a)/\w'.cell? (At w.heap.size 4)=some (I6 l.n)) (go_keep) (first|(go_at_call 116;refine Mo (HF.o _ upB) fun w1 HQ=>?_;have HB1:Hid (BW w l w1):=al upB sM HQ;clear HQ;have HW1:Hid (Bl w w1):=(ab w l).trans (HB1.o.mono om);obtain⟨-,x1_1,-,-,-,-,o_1,a_1,n_1,-,-,r0_1,r1_1,g0_1,g1_1,zx_1,z0_1,z1_1,-⟩:=LIVE.o w1 HB1.o;obtain⟨e0_1,e1_1,e2_1⟩:=ROW.o w1 HW1.o))
 all_goals (
  go_wp2;go_region_held3 (fun w'=>w'.cell? (At x 1)=some (Sq gq s.nets.length cq)/\w'.cell? (At w.heap.size 2)=some (.string l.o)/\w'.cell? (At gq (k*3))=some (U3 l.a)/\w'.cell? (At gq (k*3+1))=some (I6 l.n)/\w'.cell? (At gq (k*3+2))=some (.string ok)) (go_keep) (first|(go_at_call 107;refine Mo (HOW.o _ (by have hp:=HW1.o;exact upB)) fun w2 HQ=>?_;have HB2:Hid (BW w l w2):=al (by have hp:=HB1.o;exact upB) sM HQ;clear HQ;have HW2:Hid (Bl w w2):=(ab w l).trans (HB2.o.mono om);obtain⟨-,x1_2,-,-,-,-,o_2,-,-,-,-,r0_2,r1_2,g0_2,g1_2,zx_2,z0_2,z1_2,-⟩:=LIVE.o w2 HB2.o;obtain⟨e0_2,e1_2,e2_2⟩:=ROW.o w2 HW2.o))
  all_goals (
   go_wp2_with (go_at_call 39;refine Mo (az 8 _) fun w9 HQ=>?_;have HB9:Hid (BW w l w9):=al (by have hp:=HB2.o;exact upB) sM HQ;clear HQ;have HW9:Hid (Bl w w9):=(ab w l).trans (HB9.o.mono om);obtain⟨r0_9,r1_9,g0_9,g1_9,z1_9⟩:=(LIVE.o w9 HB9.o).q)
   have hR:=(LIVE.o w9 HB9.o).rb
   obtain⟨kk0,kk1⟩:=ay hR (I6 8) (.slice none 0 0)
   have hfin:=a7 (l:=l) 8 H.o HB9.o
   exact bodyPost_ret (v:=.agg #[I6 8,.slice none 0 0]) (by simp[results,results73,go_sem,kk0,kk1]) rfl hfin))
theorem sw(w:World)(x:Nat)(S:Nat->Prop)(s:Bk)(l:Ln)(hI:Inv s)(hL:aZ l)(h:au w x S s)(k:Nat)(ok:Bz)(hk:k<s.nets.length)(h1:ah s.nets l.a l.n=k)(his:isH l.a l.n (s.nets.getD k hd0)=true)(hok:(s.nets.getD k hd0).o=ok)(h2:ok=l.o)(h3:¬(aw s.leases l.a l.n)=[]):Calls prog 73 #[Pq x,.agg (lnC l)] w (Res w x S (s,ref 9)):=by
 obtain⟨vp,vn,vl,c,B⟩:=h;have hx:=B.blk.lt;have H:Hid (au w x S s):=⟨vp,vn,vl,c,B⟩
 obtain⟨x0,x1,x2⟩:=B.c3;have LIVE:Hid (∀ wk,BW w l wk->cd w wk x vp vn vl l):=aO l B
 have HBA:Hid (BA w x S vp vn vl c s):=B
 have hxa:¬(x=w.heap.size):=by omega
 have hxb:¬(w.heap.size=x):=by omega
 have HF:Hid (∀ Wc,Bl w Wc->Cr prog 116 #[vn,.agg #[U3 l.a,I6 l.n]] Wc (I6 (ah s.nets l.a l.n))):=fun Wc hW=>im s.nets l.a l.n vn Wc (fun q hq=>(hI.na q hq).1) hL.a ((Rd.of_owns (k:=3) (enc:=ak) (fun _=>rfl) hd0 B.on).below hW)
 rw[h1] at HF;have HOW:Hid (∀ Wc,Bl w Wc->Cr prog 107 #[.agg #[U3 l.a,I6 l.n,.string ok],.string l.o] Wc (.bool (ok.toList==l.o.toList))):=fun Wc hW=>eb ⟨l.a,l.n,ok⟩ l.o Wc
 rw[nV,decide_eq_true h2] at HOW;clear h2;have HSUB:Hid (∀ Wc,Bl w Wc->Calls prog 117 #[Pq x,.agg #[U3 l.a,I6 l.n,.string ok]] Wc fun e w'=>(∃ b c,e=.returned (.slice b (aw s.leases l.a l.n).length c))/\Bl Wc w'):=fun Wc hW=>by
  refine(eK x s.leases ⟨l.a,l.n,ok⟩ vl Wc (Nat.lt_of_lt_of_le hx hW.size) ((hW.cell (p:=At x 2) hx).trans x2) ((Rd.of_owns (k:=2) (enc:=br) (fun _=>rfl) ls0 B.ol).below hW) (by have:=hI.l;omega) (fun q hq=>(hI.la q hq).1) hL.a).mono ?_
  rintro e w' ⟨vv,rfl,o1,o2⟩
  obtain⟨b,c,rfl,_,_⟩:=ae o1;exact⟨⟨b,c,rfl⟩,o2⟩
 have hkk:∀ q:Hd,(ak q).length=3:=fun _=>rfl
 have hrd:=Rd.of_owns hkk hd0 B.on;obtain⟨bq,cq,ev,hq1,hq2,hq3⟩:=hrd;obtain⟨gq,rfl,hq4,hq5⟩:=hq3 (by intro e;rw[e] at hk;simp at hk)
 have hk5:=hq5 k hk;have hk6:(s.nets.getD k hd0).a=l.a/\(s.nets.getD k hd0).n=l.n:=by simpa[isH] using his
 have ROW:Hid (∀ wk,Bl w wk->wk.cell? (At gq (k*3))=some (U3 l.a)/\wk.cell? (At gq (k*3+1))=some (I6 l.n)/\wk.cell? (At gq (k*3+2))=some (.string ok)):=fun wk hw =>
  ⟨(hw.cell (p:=At gq (k*3)) hq4).trans (by rw[<- hk6.1];exact hk5 0 _ rfl),(hw.cell (p:=At gq (k*3+1)) hq4).trans (by rw[<- hk6.2];exact hk5 1 _ rfl),(hw.cell (p:=At gq (k*3+2)) hq4).trans (by rw[<- hok];exact hk5 2 _ rfl)⟩
 have hlen:s.nets.length<=1000:=by have:=hI.n;omega
 have hkz:(k:Int)<(s.nets.length:Int):=by omega
 have hkn:¬((k:Int)<0):=by omega
 have hk0:(0:Int)<=(k:Int):=by omega
 clear hq1 hq2 hq5 hk5 hk6 his hok;subst ev;have h4:(0:Int)<(((aw s.leases l.a l.n).length:Nat):Int):=by have:=List.length_pos_iff.2 h3;omega
 clear B;unfold lnC;go_enter func73,ntmps73
 go_wp2;go_region_held3 (fun w'=>w'.cell? (At x 1)=some (Sq gq s.nets.length cq)/\w'.cell? (At w.heap.size 3)=some (U3 l.a)/\w'.cell? (At w.heap.size 4)=some (I6 l.n)) (go_keep) (first|(go_at_call 116;refine Mo (HF.o _ upB) fun w1 HQ=>?_;have HB1:Hid (BW w l w1):=al upB sM HQ;clear HQ;have HW1:Hid (Bl w w1):=(ab w l).trans (HB1.o.mono om);obtain⟨-,x1_1,-,-,-,-,o_1,a_1,n_1,-,-,r0_1,r1_1,g0_1,g1_1,zx_1,z0_1,z1_1,-⟩:=LIVE.o w1 HB1.o;obtain⟨e0_1,e1_1,e2_1⟩:=ROW.o w1 HW1.o))
 all_goals (
  go_wp2;go_region_held3 (fun w'=>w'.cell? (At x 1)=some (Sq gq s.nets.length cq)/\w'.cell? (At w.heap.size 2)=some (.string l.o)/\w'.cell? (At gq (k*3))=some (U3 l.a)/\w'.cell? (At gq (k*3+1))=some (I6 l.n)/\w'.cell? (At gq (k*3+2))=some (.string ok)) (go_keep) (first|(go_at_call 107;refine Mo (HOW.o _ (by have hp:=HW1.o;exact upB)) fun w2 HQ=>?_;have HB2:Hid (BW w l w2):=al (by have hp:=HB1.o;exact upB) sM HQ;clear HQ;have HW2:Hid (Bl w w2):=(ab w l).trans (HB2.o.mono om);obtain⟨-,x1_2,-,-,-,-,o_2,-,-,-,-,r0_2,r1_2,g0_2,g1_2,zx_2,z0_2,z1_2,-⟩:=LIVE.o w2 HB2.o;obtain⟨e0_2,e1_2,e2_2⟩:=ROW.o w2 HW2.o))
  all_goals (
   go_wp2_with (first|(go_at_call 117;refine(HSUB.o _ (by have hp:=HW2.o;exact upB)).mono ?_;rintro e w3 ⟨⟨bs,cs,rfl⟩,HQ⟩;have HB3:Hid (BW w l w3):=al (by have hp:=HB2.o;exact upB) sM HQ;clear HQ;have HW3:Hid (Bl w w3):=(ab w l).trans (HB3.o.mono om);obtain⟨-,x1_3,-,-,-,-,-,-,-,-,-,r0_3,r1_3,g0_3,g1_3,zx_3,z0_3,z1_3,-⟩:=LIVE.o w3 HB3.o;obtain⟨e0_3,e1_3,e2_3⟩:=ROW.o w3 HW3.o)|(go_at_call 39;refine Mo (az 9 _) fun w9 HQ=>?_;have HB9:Hid (BW w l w9):=al (by have hp:=HB3.o;exact upB) sM HQ;clear HQ;have HW9:Hid (Bl w w9):=(ab w l).trans (HB9.o.mono om);obtain⟨r0_9,r1_9,g0_9,g1_9,z1_9⟩:=(LIVE.o w9 HB9.o).q))
   have hR:=(LIVE.o w9 HB9.o).rb
   obtain⟨kk0,kk1⟩:=ay hR (I6 9) (.slice none 0 0)
   have hfin:=a7 (l:=l) 9 H.o HB9.o
   exact bodyPost_ret (v:=.agg #[I6 9,.slice none 0 0]) (by simp[results,results73,go_sem,kk0,kk1]) rfl hfin))
theorem yZ(w:World)(x:Nat)(S:Nat->Prop)(s:Bk)(l:Ln)(hI:Inv s)(hL:aZ l)(h:au w x S s)(k:Nat)(ok:Bz)(hk:k<s.nets.length)(h1:ah s.nets l.a l.n=k)(his:isH l.a l.n (s.nets.getD k hd0)=true)(hok:(s.nets.getD k hd0).o=ok)(h2:ok=l.o)(h3:(aw s.leases l.a l.n)=[]):Calls prog 73 #[Pq x,.agg (lnC l)] w (Res w x S ({ s with nets:=aA s.nets k },okA)):=by
 obtain⟨vp,vn,vl,c,B⟩:=h;have hx:=B.blk.lt;have H:Hid (au w x S s):=⟨vp,vn,vl,c,B⟩
 obtain⟨x0,x1,x2⟩:=B.c3;have LIVE:Hid (∀ wk,BW w l wk->cd w wk x vp vn vl l):=aO l B
 have HBA:Hid (BA w x S vp vn vl c s):=B
 have hxa:¬(x=w.heap.size):=by omega
 have hxb:¬(w.heap.size=x):=by omega
 have HF:Hid (∀ Wc,Bl w Wc->Cr prog 116 #[vn,.agg #[U3 l.a,I6 l.n]] Wc (I6 (ah s.nets l.a l.n))):=fun Wc hW=>im s.nets l.a l.n vn Wc (fun q hq=>(hI.na q hq).1) hL.a ((Rd.of_owns (k:=3) (enc:=ak) (fun _=>rfl) hd0 B.on).below hW)
 rw[h1] at HF;have HOW:Hid (∀ Wc,Bl w Wc->Cr prog 107 #[.agg #[U3 l.a,I6 l.n,.string ok],.string l.o] Wc (.bool (ok.toList==l.o.toList))):=fun Wc hW=>eb ⟨l.a,l.n,ok⟩ l.o Wc
 rw[nV,decide_eq_true h2] at HOW;clear h2;have HSUB:Hid (∀ Wc,Bl w Wc->Calls prog 117 #[Pq x,.agg #[U3 l.a,I6 l.n,.string ok]] Wc fun e w'=>(∃ b c,e=.returned (.slice b (aw s.leases l.a l.n).length c))/\Bl Wc w'):=fun Wc hW=>by
  refine(eK x s.leases ⟨l.a,l.n,ok⟩ vl Wc (Nat.lt_of_lt_of_le hx hW.size) ((hW.cell (p:=At x 2) hx).trans x2) ((Rd.of_owns (k:=2) (enc:=br) (fun _=>rfl) ls0 B.ol).below hW) (by have:=hI.l;omega) (fun q hq=>(hI.la q hq).1) hL.a).mono ?_
  rintro e w' ⟨vv,rfl,o1,o2⟩
  obtain⟨b,c,rfl,_,_⟩:=ae o1;exact⟨⟨b,c,rfl⟩,o2⟩
 rw[h3] at HSUB;have HIN:Hid (∀ Wc,Bl w Wc->Calls prog 118 #[vn,I6 k,I6 ((k:Int)+1)] Wc fun e w'=>∃ g cap,e=.returned (Sq g (s.nets.length-1) cap)/\w'.ownsRow 0 195 3 (Sq g (s.nets.length-1) cap) (s.nets.length-1) ((aA s.nets k).flatMap ak)/\Wc.grownBy w' vn.ownBlock/\∀ b,(Value.slice (some (At g 0)) (s.nets.length-1) cap).ownBlock=some b->vn.ownBlock=some b\/Wc.heap.size<=b):=fun Wc hW=>Cu (av B.on hW) k hk (by have:=hI.n;omega)
 have FIX:Hid (∀ (W:World) v,W.ownsRow 0 195 3 v (s.nets.length-1) ((aA s.nets k).flatMap ak)->W.ownsRow 0 195 3 v (aA s.nets k).length ((aA s.nets k).flatMap ak)):=fun W v q=>by rw[jI _ _ hk];exact q
 have NX:Hid (vn.ownBlock≠some x):=fun e=>((B.apart.2.1) x e).1 rfl
 have NR:Hid (∀ b,vn.ownBlock=some b->b<w.heap.size):=fun b e=>(cI B.on b e).1
 generalize hob:vn.ownBlock=ob at HIN NX NR
 have HOB:Hid (vn.ownBlock=ob):=hob
 clear hob;have hkk:∀ q:Hd,(ak q).length=3:=fun _=>rfl
 have hrd:=Rd.of_owns hkk hd0 B.on;obtain⟨bq,cq,ev,hq1,hq2,hq3⟩:=hrd;obtain⟨gq,rfl,hq4,hq5⟩:=hq3 (by intro e;rw[e] at hk;simp at hk)
 have hk5:=hq5 k hk;have hk6:(s.nets.getD k hd0).a=l.a/\(s.nets.getD k hd0).n=l.n:=by simpa[isH] using his
 have ROW:Hid (∀ wk,Bl w wk->wk.cell? (At gq (k*3))=some (U3 l.a)/\wk.cell? (At gq (k*3+1))=some (I6 l.n)/\wk.cell? (At gq (k*3+2))=some (.string ok)):=fun wk hw =>
  ⟨(hw.cell (p:=At gq (k*3)) hq4).trans (by rw[<- hk6.1];exact hk5 0 _ rfl),(hw.cell (p:=At gq (k*3+1)) hq4).trans (by rw[<- hk6.2];exact hk5 1 _ rfl),(hw.cell (p:=At gq (k*3+2)) hq4).trans (by rw[<- hok];exact hk5 2 _ rfl)⟩
 have hlen:s.nets.length<=1000:=by have:=hI.n;omega
 have hkz:(k:Int)<(s.nets.length:Int):=by omega
 have hkn:¬((k:Int)<0):=by omega
 have hk0:(0:Int)<=(k:Int):=by omega
 clear hq1 hq2 hq5 hk5 hk6 his hok;subst ev;have hw1:IntKind.i64.wrap ((k:Int)+1)=(k:Int)+1:=by rw[IntKind.wrap_i64];omega
 clear B;unfold lnC;go_enter func73,ntmps73
 go_wp2;go_region_held3 (fun w'=>w'.cell? (At x 1)=some (Sq gq s.nets.length cq)/\w'.cell? (At w.heap.size 3)=some (U3 l.a)/\w'.cell? (At w.heap.size 4)=some (I6 l.n)) (go_keep) (first|(go_at_call 116;refine Mo (HF.o _ upB) fun w1 HQ=>?_;have HB1:Hid (BW w l w1):=al upB sM HQ;clear HQ;have HW1:Hid (Bl w w1):=(ab w l).trans (HB1.o.mono om);obtain⟨-,x1_1,-,-,-,-,o_1,a_1,n_1,-,-,r0_1,r1_1,g0_1,g1_1,zx_1,z0_1,z1_1,-⟩:=LIVE.o w1 HB1.o;obtain⟨e0_1,e1_1,e2_1⟩:=ROW.o w1 HW1.o))
 all_goals (
  go_wp2;go_region_held3 (fun w'=>w'.cell? (At x 1)=some (Sq gq s.nets.length cq)/\w'.cell? (At w.heap.size 2)=some (.string l.o)/\w'.cell? (At gq (k*3))=some (U3 l.a)/\w'.cell? (At gq (k*3+1))=some (I6 l.n)/\w'.cell? (At gq (k*3+2))=some (.string ok)) (go_keep) (first|(go_at_call 107;refine Mo (HOW.o _ (by have hp:=HW1.o;exact upB)) fun w2 HQ=>?_;have HB2:Hid (BW w l w2):=al (by have hp:=HB1.o;exact upB) sM HQ;clear HQ;have HW2:Hid (Bl w w2):=(ab w l).trans (HB2.o.mono om);obtain⟨-,x1_2,-,-,-,-,o_2,-,-,-,-,r0_2,r1_2,g0_2,g1_2,zx_2,z0_2,z1_2,-⟩:=LIVE.o w2 HB2.o;obtain⟨e0_2,e1_2,e2_2⟩:=ROW.o w2 HW2.o))
  all_goals (
   go_wp2_with (first|(go_at_call 117;refine(HSUB.o _ (by have hp:=HW2.o;exact upB)).mono ?_;rintro e w3 ⟨⟨bs,cs,rfl⟩,HQ⟩;have HB3:Hid (BW w l w3):=al (by have hp:=HB2.o;exact upB) sM HQ;clear HQ;have HW3:Hid (Bl w w3):=(ab w l).trans (HB3.o.mono om);obtain⟨-,x1_3,-,-,-,-,-,-,-,-,-,r0_3,r1_3,g0_3,g1_3,zx_3,z0_3,z1_3,-⟩:=LIVE.o w3 HB3.o;obtain⟨e0_3,e1_3,e2_3⟩:=ROW.o w3 HW3.o)|(go_at_call 118;refine(HIN.o _ (by have hp:=HW3.o;exact upB)).mono ?_;rintro e w4 ⟨g2,cap2,rfl,o1,o2,o3⟩;have LV4:=(LIVE.o _ (by have hp:=HB3.o;exact upB)).far o2 NX.o NR.o;have HG:Hid (∃ Wc,Bl w Wc/\w.heap.size+2<=Wc.heap.size/\Wc.grownBy w4 ob/\∀ b,(Value.slice (some (At g2 0)) (s.nets.length-1) cap2).ownBlock=some b->ob=some b\/Wc.heap.size<=b):=⟨_,by have hp:=HW3.o;exact upB,by have hz:=HB3.o.size;simp at hz ⊢;omega,o2,o3⟩;have HO:Hid (w4.ownsRow 0 195 3 (Sq g2 (s.nets.length-1) cap2) (s.nets.length-1) ((aA s.nets k).flatMap ak)):=o1;have RB4:Hid (Blk w4 (w.heap.size+1) #[I6 0,.slice none 0 0] 98):=LV4.rb;have x_4:=LV4.x1;have f_4:=LV4.f1;have a_4:=LV4.a;have n_4:=LV4.n;have o_4:=LV4.o;have zx_4:=LV4.zx;have z1_4:=LV4.z1;clear LV4 o1 o2 o3)|(go_at_call 105;refine Mo (fc none 0 0 _) fun w5 HQ=>?_;have HQ5:Hid (Below w4.heap.size (w4.setCell (At x 1) (Sq g2 (s.nets.length-1) cap2)) w5):=HQ.mono (by simp[World.setCell]);have RB5:Blk w5 (w.heap.size+1) #[I6 0,.slice none 0 0] 98:=(HQ5.o.block _ z1_4).trans ((Below.heap_setCell _ _ _ _ (fun e=>by have e2:w.heap.size+1=x:=e;omega)).trans RB4.o);clear HQ;have HR5:Hid (Blk w5 (w.heap.size+1) #[I6 0,.slice none 0 0] 98):=RB5;have r0_5:w5.cell? (At (w.heap.size+1) 0)=some (I6 0):=RB5.cell 0;have r1_5:w5.cell? (At (w.heap.size+1) 1)=some (.slice none 0 0):=RB5.cell 1;have g0_5:w5.frozen? (At (w.heap.size+1) 0)=false:=RB5.frozen 0;have g1_5:w5.frozen? (At (w.heap.size+1) 1)=false:=RB5.frozen 1;clear RB5))
   obtain⟨kk0,kk1⟩:=ay HR5.o (I6 0) (.slice none 0 0)
   obtain⟨Wc,hc1,hc2,hc3,hc4⟩:=HG.o;rw[<- HOB.o] at hc3 hc4;have hfin:=AP HBA.o hc1 hc2 hc3 (FIX.o _ _ HO.o) hc4 HQ5.o
   exact bodyPost_ret (v:=.agg #[I6 0,.slice none 0 0]) (by simp[results,results73,go_sem,kk0,kk1]) rfl hfin))
theorem y6(w:World)(x:Nat)(S:Nat->Prop)(s:Bk)(l:Ln)(hI:Inv s)(hL:aZ l)(h:au w x S s):Calls prog 73 #[Pq x,.agg (lnC l)] w (Res w x S (cS s l)):=by
 unfold cS;rcases aV (isH l.a l.n) s.nets hd0 with⟨e,_⟩|⟨k,hk,e,hp,_⟩
 ·have e1:ah s.nets l.a l.n=-1:=e
  rw[if_pos (by rw[e1];decide)];exact sy w x S s l hI hL h e1
 ·have e1:ah s.nets l.a l.n=k:=e
  have e2:(ah s.nets l.a l.n).toNat=k:=by rw[e1];omega
  rw[if_neg (by rw[e1];omega),e2]
  by_cases h2:(s.nets.getD k hd0).o=l.o
  ·rw[if_neg (by rw[h2];exact fun q=>q rfl)]
   by_cases h3:aw s.leases l.a l.n=[]
   ·rw[if_neg (by rw[h3];exact fun q=>q rfl)];exact yZ w x S s l hI hL h k _ hk e1 hp rfl h2 h3
   ·rw[if_pos h3];exact sw w x S s l hI hL h k _ hk e1 hp rfl h2 h3
  ·rw[if_pos h2];exact qc w x S s l hI hL h k _ hk e1 hp rfl h2
theorem vA{w:World}{v:Value}{l:List Ls}(hown:w.ownsRow 0 208 2 v l.length (l.flatMap br))(k:Nat)(hk:k<l.length)(hn:l.length<=1000):Calls prog 126 #[v,I6 k,I6 ((k:Int)+1)] w fun e w'=>∃ g cap,e=.returned (Sq g (l.length-1) cap)/\w'.ownsRow 0 208 2 (Sq g (l.length-1) cap) (l.length-1) ((aA l k).flatMap br)/\w.grownBy w' v.ownBlock/\∀ b,(Value.slice (some (At g 0)) (l.length-1) cap).ownBlock=some b->v.ownBlock=some b\/w.heap.size<=b:=by
 have hkk:∀ x:Ls,(br x).length=2:=fun _=>rfl
 rcases hown.2 with⟨rfl,e⟩|⟨g,cap,cur,rfl,_,hg,h1,h2,h3,h4⟩
 ·omega
 ·obtain⟨m,hm⟩:∃ m,l.length=m+1:=⟨l.length-1,by omega⟩
  rw[hm] at h1 h4 hk ⊢;refine(GQ (l.flatMap br) m k g cap cur w om om hg h3 h4 h1 h2 (Gn l)).mono ?_
  rintro e w' ⟨rfl,o1,o2⟩
  rw[lD hkk] at o1;exact⟨g,cap,rfl,o1,o2,fun b e=>.inl e⟩
theorem vU(w:World)(x:Nat)(S:Nat->Prop)(s:Bk)(l:Ln)(hI:Inv s)(hL:aZ l)(h:au w x S s)(h1:dp s.leases l.d=false):Calls prog 76 #[Pq x,.agg (lnC l)] w (Res w x S (s,ref 12)):=by
 obtain⟨vp,vn,vl,c,B⟩:=h;have hx:=B.blk.lt;have H:Hid (au w x S s):=⟨vp,vn,vl,c,B⟩
 obtain⟨x0,x1,x2⟩:=B.c3;have LIVE:Hid (∀ wk,BW w l wk->cd w wk x vp vn vl l):=aO l B
 have HBA:Hid (BA w x S vp vn vl c s):=B
 have hxa:¬(x=w.heap.size):=by omega
 have hxb:¬(w.heap.size=x):=by omega
 have HF:Hid (∀ Wc,Bl w Wc->Cr prog 125 #[Pq x,U3 l.d] Wc (.tuple #[I6 (bO s.leases l.d:Nat),.bool (dp s.leases l.d)])):=fun Wc hW=>d8 x s.leases l.d vl Wc ((hW.cell (p:=At x 2) hx).trans x2) ((Rd.of_owns (k:=2) (enc:=br) (fun _=>rfl) ls0 B.ol).below hW) (by have:=hI.l;omega) hI.lu
 rw[h1] at HF;obtain⟨bq,cq,eq,_,_⟩:=ae B.ol;subst eq;clear B;unfold lnC;go_enter func76,ntmps76
 go_wp2_with (first|(go_at_call 125;refine Mo (HF.o _ upB) fun w1 HQ=>?_;have HB1:Hid (BW w l w1):=al upB sM HQ;clear HQ;have HW1:Hid (Bl w w1):=(ab w l).trans (HB1.o.mono om);obtain⟨-,-,x2_1,-,-,-,o_1,-,-,d_1,-,r0_1,r1_1,g0_1,g1_1,zx_1,z0_1,z1_1,-⟩:=LIVE.o w1 HB1.o)|(go_at_call 39;refine Mo (az 12 _) fun w9 HQ=>?_;have HB9:Hid (BW w l w9):=al (by have hp:=HB1.o;exact upB) sM HQ;clear HQ;have HW9:Hid (Bl w w9):=(ab w l).trans (HB9.o.mono om);obtain⟨r0_9,r1_9,g0_9,g1_9,z1_9⟩:=(LIVE.o w9 HB9.o).q))
 have hR:=(LIVE.o w9 HB9.o).rb
 obtain⟨kk0,kk1⟩:=ay hR (I6 12) (.slice none 0 0)
 have hfin:=a7 (l:=l) 12 H.o HB9.o
 exact bodyPost_ret (v:=.agg #[I6 12,.slice none 0 0]) (by simp[results,results76,go_sem,kk0,kk1]) rfl hfin
theorem sF(w:World)(x:Nat)(S:Nat->Prop)(s:Bk)(l:Ln)(hI:Inv s)(hL:aZ l)(h:au w x S s)(k:Nat)(ok:Bz)(hk:k<s.leases.length)(h0:dp s.leases l.d=true)(h1:bO s.leases l.d=k)(hok:(s.leases.getD k ls0).o=ok)(h2:ok≠l.o):Calls prog 76 #[Pq x,.agg (lnC l)] w (Res w x S (s,ref 8)):=by
 obtain⟨vp,vn,vl,c,B⟩:=h;have hx:=B.blk.lt;have H:Hid (au w x S s):=⟨vp,vn,vl,c,B⟩
 obtain⟨x0,x1,x2⟩:=B.c3;have LIVE:Hid (∀ wk,BW w l wk->cd w wk x vp vn vl l):=aO l B
 have HBA:Hid (BA w x S vp vn vl c s):=B
 have hxa:¬(x=w.heap.size):=by omega
 have hxb:¬(w.heap.size=x):=by omega
 have HF:Hid (∀ Wc,Bl w Wc->Cr prog 125 #[Pq x,U3 l.d] Wc (.tuple #[I6 (bO s.leases l.d:Nat),.bool (dp s.leases l.d)])):=fun Wc hW=>d8 x s.leases l.d vl Wc ((hW.cell (p:=At x 2) hx).trans x2) ((Rd.of_owns (k:=2) (enc:=br) (fun _=>rfl) ls0 B.ol).below hW) (by have:=hI.l;omega) hI.lu
 rw[h0,h1] at HF;have hkk:∀ q:Ls,(br q).length=2:=fun _=>rfl
 have hrd:=Rd.of_owns hkk ls0 B.ol;obtain⟨bq,cq,ev,hq1,hq2,hq3⟩:=hrd;obtain⟨gq,rfl,hq4,hq5⟩:=hq3 (by intro e;rw[e] at hk;simp at hk)
 have hk5:=hq5 k hk;have ROW:Hid (∀ wk,Bl w wk->wk.cell? (At gq (k*2+1))=some (.string ok)):=fun wk hw =>
  (hw.cell (p:=At gq (k*2+1)) hq4).trans (by rw[<- hok];exact hk5 1 _ rfl)
 have hlen:s.leases.length<=1000:=by have:=hI.l;omega
 have hkz:(k:Int)<(s.leases.length:Int):=by omega
 have hkn:¬((k:Int)<0):=by omega
 have hk0:(0:Int)<=(k:Int):=by omega
 clear hq1 hq2 hq5 hk5 hok;subst ev;have h5:(ok.toList==l.o.toList)=false:=by rw[nV];exact decide_eq_false h2
 clear B;unfold lnC;go_enter func76,ntmps76
 go_wp2_with (go_at_call 125;refine Mo (HF.o _ upB) fun w1 HQ=>?_;have HB1:Hid (BW w l w1):=al upB sM HQ;clear HQ;have HW1:Hid (Bl w w1):=(ab w l).trans (HB1.o.mono om);obtain⟨-,-,x2_1,-,-,-,o_1,-,-,d_1,-,r0_1,r1_1,g0_1,g1_1,zx_1,z0_1,z1_1,-⟩:=LIVE.o w1 HB1.o;have e1_1:=ROW.o w1 HW1.o)
 go_quiet (fail)
 go_wp2_with (go_at_call 39;refine Mo (az 8 _) fun w9 HQ=>?_;have HB9:Hid (BW w l w9):=al (by have hp:=HB1.o;exact upB) sM HQ;clear HQ;have HW9:Hid (Bl w w9):=(ab w l).trans (HB9.o.mono om);obtain⟨r0_9,r1_9,g0_9,g1_9,z1_9⟩:=(LIVE.o w9 HB9.o).q)
 have hR:=(LIVE.o w9 HB9.o).rb
 obtain⟨kk0,kk1⟩:=ay hR (I6 8) (.slice none 0 0)
 have hfin:=a7 (l:=l) 8 H.o HB9.o
 exact bodyPost_ret (v:=.agg #[I6 8,.slice none 0 0]) (by simp[results,results76,go_sem,kk0,kk1]) rfl hfin
theorem CG(w:World)(x:Nat)(S:Nat->Prop)(s:Bk)(l:Ln)(hI:Inv s)(hL:aZ l)(h:au w x S s)(k:Nat)(ok:Bz)(hk:k<s.leases.length)(h0:dp s.leases l.d=true)(h1:bO s.leases l.d=k)(hok:(s.leases.getD k ls0).o=ok)(h2:ok=l.o):Calls prog 76 #[Pq x,.agg (lnC l)] w (Res w x S ({ s with leases:=aA s.leases k },okA)):=by
 obtain⟨vp,vn,vl,c,B⟩:=h;have hx:=B.blk.lt;have H:Hid (au w x S s):=⟨vp,vn,vl,c,B⟩
 obtain⟨x0,x1,x2⟩:=B.c3;have LIVE:Hid (∀ wk,BW w l wk->cd w wk x vp vn vl l):=aO l B
 have HBA:Hid (BA w x S vp vn vl c s):=B
 have hxa:¬(x=w.heap.size):=by omega
 have hxb:¬(w.heap.size=x):=by omega
 have HF:Hid (∀ Wc,Bl w Wc->Cr prog 125 #[Pq x,U3 l.d] Wc (.tuple #[I6 (bO s.leases l.d:Nat),.bool (dp s.leases l.d)])):=fun Wc hW=>d8 x s.leases l.d vl Wc ((hW.cell (p:=At x 2) hx).trans x2) ((Rd.of_owns (k:=2) (enc:=br) (fun _=>rfl) ls0 B.ol).below hW) (by have:=hI.l;omega) hI.lu
 rw[h0,h1] at HF;have HIN:Hid (∀ Wc,Bl w Wc->Calls prog 126 #[vl,I6 k,I6 ((k:Int)+1)] Wc fun e w'=>∃ g cap,e=.returned (Sq g (s.leases.length-1) cap)/\w'.ownsRow 0 208 2 (Sq g (s.leases.length-1) cap) (s.leases.length-1) ((aA s.leases k).flatMap br)/\Wc.grownBy w' vl.ownBlock/\∀ b,(Value.slice (some (At g 0)) (s.leases.length-1) cap).ownBlock=some b->vl.ownBlock=some b\/Wc.heap.size<=b):=fun Wc hW=>vA (av B.ol hW) k hk (by have:=hI.l;omega)
 have FIX:Hid (∀ (W:World) v,W.ownsRow 0 208 2 v (s.leases.length-1) ((aA s.leases k).flatMap br)->W.ownsRow 0 208 2 v (aA s.leases k).length ((aA s.leases k).flatMap br)):=fun W v q=>by rw[jI _ _ hk];exact q
 have NX:Hid (vl.ownBlock≠some x):=fun e=>((B.apart.2.2) x e).1 rfl
 have NR:Hid (∀ b,vl.ownBlock=some b->b<w.heap.size):=fun b e=>(cI B.ol b e).1
 generalize hob:vl.ownBlock=ob at HIN NX NR
 have HOB:Hid (vl.ownBlock=ob):=hob
 clear hob;have hkk:∀ q:Ls,(br q).length=2:=fun _=>rfl
 have hrd:=Rd.of_owns hkk ls0 B.ol;obtain⟨bq,cq,ev,hq1,hq2,hq3⟩:=hrd;obtain⟨gq,rfl,hq4,hq5⟩:=hq3 (by intro e;rw[e] at hk;simp at hk)
 have hk5:=hq5 k hk;have ROW:Hid (∀ wk,Bl w wk->wk.cell? (At gq (k*2+1))=some (.string ok)):=fun wk hw =>
  (hw.cell (p:=At gq (k*2+1)) hq4).trans (by rw[<- hok];exact hk5 1 _ rfl)
 have hlen:s.leases.length<=1000:=by have:=hI.l;omega
 have hkz:(k:Int)<(s.leases.length:Int):=by omega
 have hkn:¬((k:Int)<0):=by omega
 have hk0:(0:Int)<=(k:Int):=by omega
 clear hq1 hq2 hq5 hk5 hok;subst ev;have h5:(ok.toList==l.o.toList)=true:=by rw[nV];exact decide_eq_true h2
 clear h2;have hw1:IntKind.i64.wrap ((k:Int)+1)=(k:Int)+1:=by rw[IntKind.wrap_i64];omega
 clear B;unfold lnC;go_enter func76,ntmps76
 go_wp2_with (go_at_call 125;refine Mo (HF.o _ upB) fun w1 HQ=>?_;have HB1:Hid (BW w l w1):=al upB sM HQ;clear HQ;have HW1:Hid (Bl w w1):=(ab w l).trans (HB1.o.mono om);obtain⟨-,-,x2_1,-,-,-,o_1,-,-,d_1,-,r0_1,r1_1,g0_1,g1_1,zx_1,z0_1,z1_1,-⟩:=LIVE.o w1 HB1.o;have e1_1:=ROW.o w1 HW1.o)
 go_quiet (fail)
 go_wp2_with (first|(go_at_call 126;refine(HIN.o _ (by have hp:=HW1.o;exact upB)).mono ?_;rintro e w4 ⟨g2,cap2,rfl,o1,o2,o3⟩;have LV4:=(LIVE.o _ (by have hp:=HB1.o;exact upB)).far o2 NX.o NR.o;have HG:Hid (∃ Wc,Bl w Wc/\w.heap.size+2<=Wc.heap.size/\Wc.grownBy w4 ob/\∀ b,(Value.slice (some (At g2 0)) (s.leases.length-1) cap2).ownBlock=some b->ob=some b\/Wc.heap.size<=b):=⟨_,by have hp:=HW1.o;exact upB,by have hz:=HB1.o.size;simp at hz ⊢;omega,o2,o3⟩;have HO:Hid (w4.ownsRow 0 208 2 (Sq g2 (s.leases.length-1) cap2) (s.leases.length-1) ((aA s.leases k).flatMap br)):=o1;have RB4:Hid (Blk w4 (w.heap.size+1) #[I6 0,.slice none 0 0] 98):=LV4.rb;have x_4:=LV4.x2;have f_4:=LV4.f2;have a_4:=LV4.a;have n_4:=LV4.n;have o_4:=LV4.o;have zx_4:=LV4.zx;have z1_4:=LV4.z1;clear LV4 o1 o2 o3)|(go_at_call 105;refine Mo (fc none 0 0 _) fun w5 HQ=>?_;have HQ5:Hid (Below w4.heap.size (w4.setCell (At x 2) (Sq g2 (s.leases.length-1) cap2)) w5):=HQ.mono (by simp[World.setCell]);have RB5:Blk w5 (w.heap.size+1) #[I6 0,.slice none 0 0] 98:=(HQ5.o.block _ z1_4).trans ((Below.heap_setCell _ _ _ _ (fun e=>by have e2:w.heap.size+1=x:=e;omega)).trans RB4.o);clear HQ;have HR5:Hid (Blk w5 (w.heap.size+1) #[I6 0,.slice none 0 0] 98):=RB5;have r0_5:w5.cell? (At (w.heap.size+1) 0)=some (I6 0):=RB5.cell 0;have r1_5:w5.cell? (At (w.heap.size+1) 1)=some (.slice none 0 0):=RB5.cell 1;have g0_5:w5.frozen? (At (w.heap.size+1) 0)=false:=RB5.frozen 0;have g1_5:w5.frozen? (At (w.heap.size+1) 1)=false:=RB5.frozen 1;clear RB5))
 obtain⟨kk0,kk1⟩:=ay HR5.o (I6 0) (.slice none 0 0)
 obtain⟨Wc,hc1,hc2,hc3,hc4⟩:=HG.o;rw[<- HOB.o] at hc3 hc4;have hfin:=AQ HBA.o hc1 hc2 hc3 (FIX.o _ _ HO.o) hc4 HQ5.o
 exact bodyPost_ret (v:=.agg #[I6 0,.slice none 0 0]) (by simp[results,results76,go_sem,kk0,kk1]) rfl hfin
theorem za(w:World)(x:Nat)(S:Nat->Prop)(s:Bk)(l:Ln)(hI:Inv s)(hL:aZ l)(h:au w x S s):Calls prog 76 #[Pq x,.agg (lnC l)] w (Res w x S (cU s l)):=by
 unfold cU;by_cases h0:dp s.leases l.d=true
 ·rw[if_pos h0];have hk:bO s.leases l.d<s.leases.length:=by unfold dp at h0;simp at h0;exact h0.1
  by_cases h2:(s.leases.getD (bO s.leases l.d) ls0).o=l.o
  ·rw[if_neg (by rw[h2];exact fun q=>q rfl)];exact CG w x S s l hI hL h _ _ hk h0 rfl rfl h2
  ·rw[if_pos h2];exact sF w x S s l hI hL h _ _ hk h0 rfl rfl h2
 ·rw[if_neg h0];exact vU w x S s l hI hL h (by simpa using h0)
end Go.Proofs.YtjnhhnbgjjkkjaaGreatDoor
