import Derived.Test.YtjnhhnbgjjkkjaaGreatDoorRePBK
import Derived.Test.YtjnhhnbgjjkkjaaGreatDoorRePBP
set_option linter.all false
set_option maxRecDepth 100000
set_option maxHeartbeats 2000000
namespace Go.Proofs.YtjnhhnbgjjkkjaaGreatDoor
section
open Go.Conc Go.ChangeShapes Go.WideShapes Go.ChangeAt Go.RowKit Go.Proofs.Tryz
theorem Bw(w:World):Calls prog 82 #[] w fun e w'=>∃ c,e=.returned (.agg #[.chan (some c)])/\Ch w' c []/\w.heap.size<=c/\Bl w w':=by
 obtain⟨i,hi,hib⟩:∃ i,prog.info? 145=some i/\i.bytes=48:=by
  have h:(prog.info? 145).map (·.bytes)=some 48:=by kernel_rfl
  rcases e:prog.info? 145 with _|i
  ·rw[e] at h;cases h
  ·rw[e] at h;exact⟨i,rfl,by simpa using h⟩
 have hmk:∀ w:World,(Instr.makeChan 86 (I6 8)).run prog w=.ok (.chan (some w.heap.size)) (w.alloc (.chan 8 #[] false 0 0 false)):=fun w=>run_makeChan (P:=prog) (w:=w) underlying86 hi .i64 8 dE (by rw[hib];decide)
 clear hi hib;go_enter func82,ntmps82
 go_wp2;go_returns
 have hn:=heap_alloc_new (w.alloc (.cells #[.chan (some (w.heap.size+1))] 88)) (.chan 8 #[] false 0 0 false)
 rw[show (w.alloc (.cells #[.chan (some (w.heap.size+1))] 88)).heap.size=w.heap.size+1 by simp] at hn
 exact⟨w.heap.size+1,rfl,⟨0,0,hn⟩,by omega,upB⟩
theorem jO(v:Int)(w:World):Cr prog 41 #[I6 v] w (.bool (decide (v<=7))):=by
 go_enter func41,ntmps41
 go_wp2;go_ret;exact⟨rfl,Below.refl _ _⟩
theorem kD(k:Nat)(hk:k<14)(w:World)(E:di w):Cr prog 40 #[.agg #[I6 k,.slice none 0 0]] w (.string ⟨(aG (ref k)).toArray⟩) :=
 jC (ref k) hk (by simp[ref]) (by simp[ref]) (.slice none 0 0) w E (iL _ _ _ _)
theorem vf(x:Tk)(line r:Bz)(w:World)(E:Hid (di w))(HR:Hid (r=if x.l≠line then (⟨(aG (ref 3)).toArray⟩:Bz) else x.r)):Cr prog 65 #[vT x,.string line] w (.string r):=by
 obtain⟨xt,xl,xr⟩:=x;unfold vT;have HT:Hid (∀ W,Bl w W->Cr prog 40 #[.agg #[I6 3,.slice none 0 0]] W (.string ⟨(aG (ref 3)).toArray⟩)):=fun W hW=>kD 3 om W (E.o.mono hW)
 have HF:Hid (∀ W,Cr prog 39 #[I6 3] W (.agg #[I6 3,.slice none 0 0])):=fun W=>az 3 W
 generalize (⟨(aG (ref 3)).toArray⟩:Bz)=t3 at HR HT
 by_cases h:xl=line
 ·have hq:=(Lib.bytes_beq_iff xl line).2 h
  have HR2:Hid (r=xr):=by have:=HR.o;rw[if_neg (by simp[h])] at this;exact this
  clear h HR;go_enter func65,ntmps65
  go_wp2;go_ret;exact⟨by rw[HR2.o];rfl,upB⟩
 ·have hq:=(Lib.bytes_beq_false_iff xl line).2 h
  have HR2:Hid (r=t3):=by have:=HR.o;rw[if_pos (by simp[h])] at this;exact this
  clear h HR;go_enter func65,ntmps65
  go_wp2_with (first|(go_at_call 39;refine Mo (HF.o _) fun w1 hq1=>?_;have hb1:Hid (Bl w w1):=Below.trans (B:=w.heap.size) (a:=w) upB (hq1.mono byO);clear hq1)|(go_at_call 40;refine Mo (HT.o _ hb1.o) fun w2 hq2=>?_;have hb2:Hid (Bl w w2):=hb1.o.trans (hq2.mono hb1.o.size);clear hq2))
  go_ret;exact⟨by rw[HR2.o];rfl,hb2.o⟩
theorem lL{w0:World}{n:Nat}{cs:Array Value}{t:TypeId}(h:w0.heap.size=n):Blk (w0.alloc (.cells cs t)) n cs t:=by rw[<- h];exact Blk.new w0 cs t
theorem xJ{w:World}{g:Nat}{t:TypeId}{u0 u1 u2:Value}(h:Blk w g #[u0,u1,u2] t)(a0 a1 a2:Value):Blk (((w.setCell (At g 0) a0).setCell (At g 1) a1).setCell (At g 2) a2) g #[a0,a1,a2] t:=by
 have h0:Blk (w.setCell (At g 0) a0) g #[a0,u1,u2] t:=(by simpa using h.set 0 a0)
 have h1:Blk ((w.setCell (At g 0) a0).setCell (At g 1) a1) g #[a0,a1,u2] t:=(by simpa using h0.set 1 a1)
 simpa using h1.set 2 a2
theorem rE{w:World}{g:Nat}{t:TypeId}{u0 u1:Value}(h:Blk w g #[u0,u1] t)(a0 a1:Value):Blk ((w.setCell (At g 0) a0).setCell (At g 1) a1) g #[a0,a1] t:=by
 have h0:Blk (w.setCell (At g 0) a0) g #[a0,u1] t:=(by simpa using h.set 0 a0)
 simpa using h0.set 1 a1
theorem nY(x d b c:Nat)(w:World)(l:Ln)(line text:Bz)(tk:Tk)(hx:x<w.heap.size)(P0:World->Prop)(R:Ending->World->Prop)
  (H0:Hid (P0 (w.alloc (.cells (lnC l) 93))))
  (C0:Hid (∀ W,P0 W->W.cell? (At x 1)=some (Pq b)/\W.cell? (At x 2)=some (.chan (some c))/\Blk W w.heap.size (lnC l) 93))
  (K0:Hid (∀ W W',P0 W->Below (w.heap.size+1) W W'->P0 W'))
  (HF:Hid (∀ W,P0 W->Calls prog 64 #[.agg #[.chan (some c)],.string l.t] W fun e w1=>e=.returned (.tuple #[.agg #[.string tk.t,.string tk.l,.string tk.r],.bool true])/\P0 w1/\∀ g cs t,Blk W g cs t->w.heap.size<=g->Blk w1 g cs t))
  (HG:Hid (∀ W,P0 W->Cr prog 65 #[.agg #[.string tk.t,.string tk.l,.string tk.r],.string line] W (.string text)))
  (FF:Hid (∀ W,P0 W->R (.returned (.string text)) W)) :
  Calls prog 42 #[Pq x,.agg (lnC l),.string line] w R:=by
 have HA0:Hid (P0 (w.alloc (.cells #[I6 l.v,.string l.t,.string l.o,U3 l.a,I6 l.n,U3 l.d,I6 l.g] 93))):=H0
 have x2:w.cell? (At x 2)=some (.chan (some c)):=by
  have h:=(C0.o _ HA0.o).2.1
  rwa [World.cell?_alloc_past _ _ _ hx] at h
 have hxa:¬(x=w.heap.size+1):=by omega
 have hxb:¬(w.heap.size+1=x):=by omega
 have hxc:¬(x=w.heap.size):=by omega
 have hxd:¬(w.heap.size=x):=by omega
 show Calls _ _ #[Pq x,.agg #[I6 l.v,.string l.t,.string l.o,U3 l.a,I6 l.n,U3 l.d,I6 l.g],.string line] _ _
 go_enter func42,ntmps42
 go_wp2;rename_i K1 a1 Kf a0;have HM:Hid (∀ (t1 t3 t5 t6 t9 t10 t11 t12 t13 t14 t15 t16 t17 t18 t19 t20 t21 t22 t23 t24 t25 t26 t27 t28 t29 t30 t31 t32 t33 t34 t35 t36 t37 t38 t39 t40 t41 t42 t43 t44 t45 t46 t47 t48 t49 t50 t51 t52 t53 t54 t55 t56 t57 t58 t59 t60 t61 t62 t63 t64 t65:Value) (D:Nat) (W:World),P0 W->Blk W D #[.string tk.t,.string tk.l,.string tk.r] 145->Kf ⟨#[Pq x,t1,.string line,t3,Pq w.heap.size,t5,t6,Pq D,.bool true,t9,t10,t11,t12,t13,t14,t15,t16,t17,t18,t19,t20,t21,t22,t23,t24,t25,t26,t27,t28,t29,t30,t31,t32,t33,t34,t35,t36,t37,t38,t39,t40,t41,t42,t43,t44,t45,t46,t47,t48,t49,t50,t51,t52,t53,t54,t55,t56,t57,t58,t59,t60,t61,t62,t63,t64,t65],[]⟩ W):=by
  intro t1 t3 t5 t6 t9 t10 t11 t12 t13 t14 t15 t16 t17 t18 t19 t20 t21 t22 t23 t24 t25 t26 t27 t28 t29 t30 t31 t32 t33 t34 t35 t36 t37 t38 t39 t40 t41 t42 t43 t44 t45 t46 t47 t48 t49 t50 t51 t52 t53 t54 t55 t56 t57 t58 t59 t60 t61 t62 t63 t64 t65 D W hA hD;have HA:Hid (P0 W):=hA
  have hz:=(C0.o _ hA).2.2.lt
  have d0:=hD.cell 0;have d1:=hD.cell 1;have d2:=hD.cell 2;clear hA hD HA0 HF x2;refine a0 _ _ ?_
  go_wp2_with (go_at_call 65;refine Mo (HG.o _ HA.o) fun w3 hq3=>?_;replace hq3:Hid (Bl W w3):=hq3)
  exact FF.o _ (K0.o _ _ HA.o (hq3.o.mono hz))
 replace HM:Hid _:=HM;clear a0 a1;go_region_held3 (fun w'=>w'.cell? (At x 2)=some (.chan (some c))/\w'.cell? (At w.heap.size 1)=some (.string l.t)) (go_keep) (first|(go_at_call 64;refine(HF.o _ (K0.o _ _ HA0.o upB)).mono ?_;rintro e w1 ⟨rfl,HA1,K1⟩;replace HA1:Hid (P0 w1):=HA1;have LB1:Hid (Blk w1 w.heap.size (lnC l) 93):=(C0.o w1 HA1.o).2.2;have e1:w1.cell? (At x 2)=some (.chan (some c)):=(C0.o w1 HA1.o).2.1;have e2:w1.cell? (At w.heap.size 1)=some (.string l.t):=LB1.o.cell 1;have ez:=LB1.o.lt;have DB:Hid (Blk w1 (w.heap.size+1) #[.string ⟨#[]⟩,.string ⟨#[]⟩,.string ⟨#[]⟩] 145):=K1 _ _ _ (lL sM) om;clear K1;have d0:=DB.o.cell 0;have d1:=DB.o.cell 1;have d2:=DB.o.cell 2;have g0:=DB.o.frozen 0;have g1:=DB.o.frozen 1;have g2:=DB.o.frozen 2;have dz:=DB.o.lt)|(go_at_call 64;refine(HF.o _ (K0.o _ _ HA0.o upB)).mono ?_;rintro e w1 ⟨rfl,HA1,K1⟩;replace HA1:Hid (P0 w1):=HA1;have LB1:Hid (Blk w1 w.heap.size (lnC l) 93):=(C0.o w1 HA1.o).2.2;have e1:w1.cell? (At x 2)=some (.chan (some c)):=(C0.o w1 HA1.o).2.1;have e2:w1.cell? (At w.heap.size 1)=some (.string l.t):=LB1.o.cell 1;have ez:=LB1.o.lt;clear K1))
 all_goals first
  | exact HM.o _ _ _ _ _ _ _ _ _ _ _ _ _ _ _ _ _ _ _ _ _ _ _ _ _ _ _ _ _ _ _ _ _ _ _ _ _ _ _ _ _ _ _ _ _ _ _ _ _ _ _ _ _ _ _ _ _ _ _ _ _ _ _ (K0.o _ _ HA1.o upB) (Blk.new w1 _ _)
  | exact HM.o _ _ _ _ _ _ _ _ _ _ _ _ _ _ _ _ _ _ _ _ _ _ _ _ _ _ _ _ _ _ _ _ _ _ _ _ _ _ _ _ _ _ _ _ _ _ _ _ _ _ _ _ _ _ _ _ _ _ _ _ _ (w.heap.size+1) _ (K0.o _ _ HA1.o upB) (xJ DB.o _ _ _)
theorem rX(x d b c:Nat)(w:World)(l:Ln)(line text:Bz)(tk:Tk)(hx:x<w.heap.size)(P0:World->Prop)(R:Ending->World->Prop)(ec:Nat)(he:¬ec=0)(P1:Nat->Value->World->Prop)(P2:Value->World->Prop)
  (H0:Hid (P0 (w.alloc (.cells (lnC l) 93))))
  (C0:Hid (∀ W,P0 W->W.cell? (At x 1)=some (Pq b)/\W.cell? (At x 2)=some (.chan (some c))/\Blk W w.heap.size (lnC l) 93))
  (K0:Hid (∀ W W',P0 W->Below (w.heap.size+1) W W'->P0 W'))
  (HF:Hid (∀ W,P0 W->Calls prog 64 #[.agg #[.chan (some c)],.string l.t] W fun e w1=>e=.returned (.tuple #[.agg #[.string tk.t,.string tk.l,.string tk.r],.bool false])/\P0 w1/\∀ g cs t,Blk W g cs t->w.heap.size<=g->Blk w1 g cs t))
  (HD:Hid (∀ W,P0 W->Calls prog 43 #[Pq b,.agg #[I6 l.v,.string l.t,.string l.o,U3 l.a,I6 l.n,U3 l.d,I6 l.g]] W fun e w2=>∃ bt nt ct,e=.returned (.agg #[I6 ec,.slice bt nt ct])/\P1 W.heap.size (.slice bt nt ct) w2/\∀ g cs t,Blk W g cs t->w.heap.size<=g->Blk w2 g cs t))
  (C1:Hid (∀ z v W,P1 z v W->W.cell? (At x 1)=some (Pq b)/\Blk W w.heap.size (lnC l) 93))
  (L1:Hid (∀ z v W W',P1 z v W->w.heap.size<z->Bl W W'->P2 v W'))
  (E1:Hid (∀ z v W A a b,P1 z v W->w.heap.size<A->A<z->Blk W A #[I6 0,.slice none 0 0] 98->P2 v ((W.setCell (At A 0) a).setCell (At A 1) b)))
  (K2:Hid (∀ v W W',P2 v W->Bl W W'->P2 v W'))
  (HTT:Hid (∀ W bt nt ct,P2 (.slice bt nt ct) W->Cr prog 40 #[.agg #[I6 ec,.slice bt nt ct]] W (.string text)))
  (FF:Hid (∀ v W,P2 v W->R (.returned (.string text)) W)) :
  Calls prog 42 #[Pq x,.agg (lnC l),.string line] w R:=by
 have HI:Hid (∀ bt nt ct W,Cr prog 61 #[.agg #[I6 ec,.slice bt nt ct]] W (.bool false)):=fun bt nt ct W=>by
  have h:=gH ec bt nt ct W;rw[decide_eq_false he] at h;exact h
 clear he;have HA0:Hid (P0 (w.alloc (.cells #[I6 l.v,.string l.t,.string l.o,U3 l.a,I6 l.n,U3 l.d,I6 l.g] 93))):=H0
 have x2:w.cell? (At x 2)=some (.chan (some c)):=by
  have h:=(C0.o _ HA0.o).2.1
  rwa [World.cell?_alloc_past _ _ _ hx] at h
 have hxa:¬(x=w.heap.size+1):=by omega
 have hxb:¬(w.heap.size+1=x):=by omega
 have hxc:¬(x=w.heap.size):=by omega
 have hxd:¬(w.heap.size=x):=by omega
 show Calls _ _ #[Pq x,.agg #[I6 l.v,.string l.t,.string l.o,U3 l.a,I6 l.n,U3 l.d,I6 l.g],.string line] _ _
 go_enter func42,ntmps42
 go_wp2;rename_i K1 a1 Kf a0;have HM:Hid (∀ (t1 t3 t5 t6 t7 t9 t10 t11 t12 t13 t14 t15 t16 t17 t18 t19 t20 t21 t22 t23 t24 t25 t26 t27 t28 t29 t30 t31 t32 t33 t34 t35 t36 t37 t38 t39 t40 t41 t42 t43 t44 t45 t46 t47 t48 t49 t50 t51 t52 t53 t54 t55 t56 t57 t58 t59 t60 t61 t62 t63 t64 t65:Value) (W:World),P0 W->Kf ⟨#[Pq x,t1,.string line,t3,Pq w.heap.size,t5,t6,t7,.bool false,t9,t10,t11,t12,t13,t14,t15,t16,t17,t18,t19,t20,t21,t22,t23,t24,t25,t26,t27,t28,t29,t30,t31,t32,t33,t34,t35,t36,t37,t38,t39,t40,t41,t42,t43,t44,t45,t46,t47,t48,t49,t50,t51,t52,t53,t54,t55,t56,t57,t58,t59,t60,t61,t62,t63,t64,t65],[]⟩ W):=by
  intro t1 t3 t5 t6 t7 t9 t10 t11 t12 t13 t14 t15 t16 t17 t18 t19 t20 t21 t22 t23 t24 t25 t26 t27 t28 t29 t30 t31 t32 t33 t34 t35 t36 t37 t38 t39 t40 t41 t42 t43 t44 t45 t46 t47 t48 t49 t50 t51 t52 t53 t54 t55 t56 t57 t58 t59 t60 t61 t62 t63 t64 t65 W hA;have HA:Hid (P0 W):=hA
  have LW:=(C0.o _ hA).2.2
  have x1:W.cell? (At x 1)=some (Pq b):=(C0.o _ hA).1
  have l0:W.cell? (At w.heap.size 0)=some (I6 l.v):=LW.cell 0
  have l1:W.cell? (At w.heap.size 1)=some (.string l.t):=LW.cell 1
  have l2:W.cell? (At w.heap.size 2)=some (.string l.o):=LW.cell 2
  have l3:W.cell? (At w.heap.size 3)=some (U3 l.a):=LW.cell 3
  have l4:W.cell? (At w.heap.size 4)=some (I6 l.n):=LW.cell 4
  have l5:W.cell? (At w.heap.size 5)=some (U3 l.d):=LW.cell 5
  have l6:W.cell? (At w.heap.size 6)=some (I6 l.g):=LW.cell 6
  have zW:=LW.lt;have zWx:x<W.heap.size:=by omega
  have zW1:¬(w.heap.size=W.heap.size):=by omega
  have zW2:¬(W.heap.size=w.heap.size):=by omega
  have zW3:¬(x=W.heap.size):=by omega
  have zW4:¬(W.heap.size=x):=by omega
  clear hA LW HA0 HF x2;refine a0 _ _ ?_
  go_wp2;rename_i K3' a3;have HM2:Hid (∀ (u1 u3 u5 u6 u7 u8 u10 u11 u12 u13 u14 u15 u16 u17 u18 u19 u20 u21 u22 u23 u24 u25 u26 u27 u28 u29 u30 u31 u32 u33 u34 u35 u36 u37 u38 u39 u40 u41 u42 u43 u44 u45 u46 u47 u48 u49 u50 u51 u52 u53 u54 u55 u56 u57 u58 u59 u60 u61 u62 u63 u64 u65:Value) (A:Nat) (bt:Option Addr) (nt ct:Nat) (W2:World),w.heap.size<A->P2 (.slice bt nt ct) W2->Blk W2 A #[I6 ec,.slice bt nt ct] 98->K3' ⟨#[Pq x,u1,.string line,u3,Pq w.heap.size,u5,u6,u7,u8,Pq A,u10,u11,u12,u13,u14,u15,u16,u17,u18,u19,u20,u21,u22,u23,u24,u25,u26,u27,u28,u29,u30,u31,u32,u33,u34,u35,u36,u37,u38,u39,u40,u41,u42,u43,u44,u45,u46,u47,u48,u49,u50,u51,u52,u53,u54,u55,u56,u57,u58,u59,u60,u61,u62,u63,u64,u65],[]⟩ W2):=by
   intro u1 u3 u5 u6 u7 u8 u10 u11 u12 u13 u14 u15 u16 u17 u18 u19 u20 u21 u22 u23 u24 u25 u26 u27 u28 u29 u30 u31 u32 u33 u34 u35 u36 u37 u38 u39 u40 u41 u42 u43 u44 u45 u46 u47 u48 u49 u50 u51 u52 u53 u54 u55 u56 u57 u58 u59 u60 u61 u62 u63 u64 u65 A bt nt ct W2 hzA hA2 hB2;have q2:Hid (P2 (.slice bt nt ct) W2):=hA2
   have p0:=hB2.cell 0;have p1:=hB2.cell 1;have zA:=hB2.lt;clear hB2 hA2 HD HA l0 l1 l2 l3 l4 l5 l6 x1 L1 E1;refine a3 _ _ ?_
   go_wp2_with (first|(go_at_call 40;refine Mo (HTT.o W2 bt nt ct q2.o) fun w3 hq3=>?_;replace hq3:Hid (Bl W2 w3):=hq3;have b0:w3.cell? (At A 0)=some (I6 ec):=(hq3.o.cell (p:=At A 0) zA).trans p0;have b1:w3.cell? (At A 1)=some (.slice bt nt ct):=(hq3.o.cell (p:=At A 1) zA).trans p1)|(go_at_call 61;refine Mo (HI.o bt nt ct _) fun w4 hq4=>?_;have q4:Hid (P2 (.slice bt nt ct) w4):=K2.o _ _ _ q2.o (hq3.o.trans (hq4.mono hq3.o.size));clear hq4))
   exact FF.o _ _ q4.o
  replace HM2:Hid _:=HM2;clear a3;go_region_held3 (fun w'=>w'.cell? (At x 1)=some (Pq b)/\w'.cell? (At w.heap.size 0)=some (I6 l.v)/\w'.cell? (At w.heap.size 1)=some (.string l.t)/\w'.cell? (At w.heap.size 2)=some (.string l.o)/\w'.cell? (At w.heap.size 3)=some (U3 l.a)/\w'.cell? (At w.heap.size 4)=some (I6 l.n)/\w'.cell? (At w.heap.size 5)=some (U3 l.d)/\w'.cell? (At w.heap.size 6)=some (I6 l.g)) (go_keep) (first|(go_at_call 43;refine(HD.o _ (K0.o _ _ HA.o upB)).mono ?_;rintro e w2 ⟨bt,nt,ct,rfl,HX2,K2'⟩;replace HX2:Hid (P1 _ (.slice bt nt ct) w2):=HX2;have LB:Hid (Blk w2 w.heap.size #[I6 l.v,.string l.t,.string l.o,U3 l.a,I6 l.n,U3 l.d,I6 l.g] 93):=(C1.o _ _ _ HX2.o).2;have mx:w2.cell? (At x 1)=some (Pq b):=(C1.o _ _ _ HX2.o).1;have m0:w2.cell? (At w.heap.size 0)=some (I6 l.v):=LB.o.cell 0;have m1:w2.cell? (At w.heap.size 1)=some (.string l.t):=LB.o.cell 1;have m2:w2.cell? (At w.heap.size 2)=some (.string l.o):=LB.o.cell 2;have m3:w2.cell? (At w.heap.size 3)=some (U3 l.a):=LB.o.cell 3;have m4:w2.cell? (At w.heap.size 4)=some (I6 l.n):=LB.o.cell 4;have m5:w2.cell? (At w.heap.size 5)=some (U3 l.d):=LB.o.cell 5;have m6:w2.cell? (At w.heap.size 6)=some (I6 l.g):=LB.o.cell 6;have mz:=LB.o.lt;have AB:Hid (Blk w2 W.heap.size #[I6 0,.slice none 0 0] 98):=K2' _ _ _ (lL sM) om;clear K2';have d0:=AB.o.cell 0;have d1:=AB.o.cell 1;have g0:=AB.o.frozen 0;have g1:=AB.o.frozen 1;have dz:=AB.o.lt)|(go_at_call 43;refine(HD.o _ (K0.o _ _ HA.o upB)).mono ?_;rintro e w2 ⟨bt,nt,ct,rfl,HX2,K2'⟩;replace HX2:Hid (P1 _ (.slice bt nt ct) w2):=HX2;have LB:Hid (Blk w2 w.heap.size #[I6 l.v,.string l.t,.string l.o,U3 l.a,I6 l.n,U3 l.d,I6 l.g] 93):=(C1.o _ _ _ HX2.o).2;have mx:w2.cell? (At x 1)=some (Pq b):=(C1.o _ _ _ HX2.o).1;have m0:w2.cell? (At w.heap.size 0)=some (I6 l.v):=LB.o.cell 0;have m1:w2.cell? (At w.heap.size 1)=some (.string l.t):=LB.o.cell 1;have m2:w2.cell? (At w.heap.size 2)=some (.string l.o):=LB.o.cell 2;have m3:w2.cell? (At w.heap.size 3)=some (U3 l.a):=LB.o.cell 3;have m4:w2.cell? (At w.heap.size 4)=some (I6 l.n):=LB.o.cell 4;have m5:w2.cell? (At w.heap.size 5)=some (U3 l.d):=LB.o.cell 5;have m6:w2.cell? (At w.heap.size 6)=some (I6 l.g):=LB.o.cell 6;have mz:=LB.o.lt;clear K2'))
  all_goals first
   | exact HM2.o _ _ _ _ _ _ _ _ _ _ _ _ _ _ _ _ _ _ _ _ _ _ _ _ _ _ _ _ _ _ _ _ _ _ _ _ _ _ _ _ _ _ _ _ _ _ _ _ _ _ _ _ _ _ _ _ _ _ _ _ _ _ w2.heap.size _ _ _ _ om (L1.o _ _ _ _ HX2.o (by simp;omega) (by repeat' (first|with_reducible exact Below.refl _ _|with_reducible apply Below.drew|with_reducible apply Below.alloc|omega|(simp;done)))) (Blk.new w2 _ _)
   | exact HM2.o _ _ _ _ _ _ _ _ _ _ _ _ _ _ _ _ _ _ _ _ _ _ _ _ _ _ _ _ _ _ _ _ _ _ _ _ _ _ _ _ _ _ _ _ _ _ _ _ _ _ _ _ _ _ _ _ _ _ _ _ _ _ W.heap.size _ _ _ _ om (E1.o _ _ _ _ _ _ HX2.o om sM AB.o) (rE AB.o _ _)
 replace HM:Hid _:=HM;clear a0 a1;go_region_held3 (fun w'=>w'.cell? (At x 2)=some (.chan (some c))/\w'.cell? (At w.heap.size 1)=some (.string l.t)) (go_keep) (first|(go_at_call 64;refine(HF.o _ (K0.o _ _ HA0.o upB)).mono ?_;rintro e w1 ⟨rfl,HA1,K1⟩;replace HA1:Hid (P0 w1):=HA1;have LB1:Hid (Blk w1 w.heap.size (lnC l) 93):=(C0.o w1 HA1.o).2.2;have e1:w1.cell? (At x 2)=some (.chan (some c)):=(C0.o w1 HA1.o).2.1;have e2:w1.cell? (At w.heap.size 1)=some (.string l.t):=LB1.o.cell 1;have ez:=LB1.o.lt;have DB:Hid (Blk w1 (w.heap.size+1) #[.string ⟨#[]⟩,.string ⟨#[]⟩,.string ⟨#[]⟩] 145):=K1 _ _ _ (lL sM) om;clear K1;have d0:=DB.o.cell 0;have d1:=DB.o.cell 1;have d2:=DB.o.cell 2;have g0:=DB.o.frozen 0;have g1:=DB.o.frozen 1;have g2:=DB.o.frozen 2;have dz:=DB.o.lt)|(go_at_call 64;refine(HF.o _ (K0.o _ _ HA0.o upB)).mono ?_;rintro e w1 ⟨rfl,HA1,K1⟩;replace HA1:Hid (P0 w1):=HA1;have LB1:Hid (Blk w1 w.heap.size (lnC l) 93):=(C0.o w1 HA1.o).2.2;have e1:w1.cell? (At x 2)=some (.chan (some c)):=(C0.o w1 HA1.o).2.1;have e2:w1.cell? (At w.heap.size 1)=some (.string l.t):=LB1.o.cell 1;have ez:=LB1.o.lt;clear K1))
 all_goals first
  | exact HM.o _ _ _ _ _ _ _ _ _ _ _ _ _ _ _ _ _ _ _ _ _ _ _ _ _ _ _ _ _ _ _ _ _ _ _ _ _ _ _ _ _ _ _ _ _ _ _ _ _ _ _ _ _ _ _ _ _ _ _ _ _ _ _ (K0.o _ _ HA1.o upB)
theorem pG(x d b c:Nat)(w:World)(l:Ln)(line text:Bz)(tk:Tk)(hx:x<w.heap.size)(P0:World->Prop)(R:Ending->World->Prop)(ec:Nat)(he:ec=0)(P1:Nat->Value->World->Prop)(P2:Value->World->Prop)(T:Bz)(o:Bool)(P3 P4 P5:World->Prop)
  (H0:Hid (P0 (w.alloc (.cells (lnC l) 93))))
  (C0:Hid (∀ W,P0 W->W.cell? (At x 1)=some (Pq b)/\W.cell? (At x 2)=some (.chan (some c))/\Blk W w.heap.size (lnC l) 93))
  (K0:Hid (∀ W W',P0 W->Below (w.heap.size+1) W W'->P0 W'))
  (HF:Hid (∀ W,P0 W->Calls prog 64 #[.agg #[.chan (some c)],.string l.t] W fun e w1=>e=.returned (.tuple #[.agg #[.string tk.t,.string tk.l,.string tk.r],.bool false])/\P0 w1/\∀ g cs t,Blk W g cs t->w.heap.size<=g->Blk w1 g cs t))
  (HD:Hid (∀ W,P0 W->Calls prog 43 #[Pq b,.agg #[I6 l.v,.string l.t,.string l.o,U3 l.a,I6 l.n,U3 l.d,I6 l.g]] W fun e w2=>∃ bt nt ct,e=.returned (.agg #[I6 ec,.slice bt nt ct])/\P1 W.heap.size (.slice bt nt ct) w2/\∀ g cs t,Blk W g cs t->w.heap.size<=g->Blk w2 g cs t))
  (C1:Hid (∀ z v W,P1 z v W->W.cell? (At x 1)=some (Pq b)/\Blk W w.heap.size (lnC l) 93))
  (L1:Hid (∀ z v W W',P1 z v W->w.heap.size<z->Bl W W'->P2 v W'))
  (E1:Hid (∀ z v W A a b,P1 z v W->w.heap.size<A->A<z->Blk W A #[I6 0,.slice none 0 0] 98->P2 v ((W.setCell (At A 0) a).setCell (At A 1) b)))
  (K2:Hid (∀ v W W',P2 v W->Bl W W'->P2 v W'))
  (HTT:Hid (∀ W bt nt ct,P2 (.slice bt nt ct) W->Cr prog 40 #[.agg #[I6 ec,.slice bt nt ct]] W (.string text)))
  (C2:Hid (∀ v W,P2 v W->W.cell? (At x 2)=some (.chan (some c))/\Blk W w.heap.size (lnC l) 93))
  (HAD:Hid (∀ v W,P2 v W->Calls prog 66 #[.agg #[.chan (some c)],.agg #[.string l.t,.string line,.string text]] W fun e w'=>e=.returned (.tuple #[])/\P3 w'/\w'.heap[w.heap.size]?=W.heap[w.heap.size]?))
  (C3:Hid (∀ W,P3 W->W.cell? (At x 0)=some (Pq d)/\W.cell? (At x 1)=some (Pq b)/\W.cell? (At x 2)=some (.chan (some c))))
  (K3:Hid (∀ W,P3 W->P3 W.drew))
  (HW:Hid (∀ W,P3 W->Calls prog 68 #[Pq b,.agg #[.chan (some c)]] W fun e w'=>e=.returned (.string T)/\P4 w'))
  (C4:Hid (∀ W,P4 W->W.cell? (At x 0)=some (Pq d)/\W.cell? (At x 1)=some (Pq b)/\W.cell? (At x 2)=some (.chan (some c))))
  (HP:Hid (∀ W,P4 W->Calls prog 67 #[.agg #[Pq d],.string T] W fun e w'=>e=.returned (.bool o)/\P5 w'))
  (C5:Hid (∀ W,P5 W->W.cell? (At x 0)=some (Pq d)/\W.cell? (At x 1)=some (Pq b)/\W.cell? (At x 2)=some (.chan (some c))/\W.cell? (At x 3)=some (.bool false)/\W.frozen? (At x 3)=false))
  (F5:Hid (o=true->∀ W,P5 W->R (.returned (.string text)) W))
  (F6:Hid (o=false->∀ W,P5 W->R (.returned (.string ⟨#[]⟩)) (W.setCell (At x 3) (.bool true)))) :
  Calls prog 42 #[Pq x,.agg (lnC l),.string line] w R:=by
 have HI:Hid (∀ bt nt ct W,Cr prog 61 #[.agg #[I6 ec,.slice bt nt ct]] W (.bool true)):=fun bt nt ct W=>by
  have h:=gH ec bt nt ct W;rw[decide_eq_true he] at h;exact h
 clear he;have HA0:Hid (P0 (w.alloc (.cells #[I6 l.v,.string l.t,.string l.o,U3 l.a,I6 l.n,U3 l.d,I6 l.g] 93))):=H0
 have x2:w.cell? (At x 2)=some (.chan (some c)):=by
  have h:=(C0.o _ HA0.o).2.1
  rwa [World.cell?_alloc_past _ _ _ hx] at h
 have hxa:¬(x=w.heap.size+1):=by omega
 have hxb:¬(w.heap.size+1=x):=by omega
 have hxc:¬(x=w.heap.size):=by omega
 have hxd:¬(w.heap.size=x):=by omega
 show Calls _ _ #[Pq x,.agg #[I6 l.v,.string l.t,.string l.o,U3 l.a,I6 l.n,U3 l.d,I6 l.g],.string line] _ _
 go_enter func42,ntmps42
 go_wp2;rename_i K1 a1 Kf a0;have HM:Hid (∀ (t1 t3 t5 t6 t7 t9 t10 t11 t12 t13 t14 t15 t16 t17 t18 t19 t20 t21 t22 t23 t24 t25 t26 t27 t28 t29 t30 t31 t32 t33 t34 t35 t36 t37 t38 t39 t40 t41 t42 t43 t44 t45 t46 t47 t48 t49 t50 t51 t52 t53 t54 t55 t56 t57 t58 t59 t60 t61 t62 t63 t64 t65:Value) (W:World),P0 W->Kf ⟨#[Pq x,t1,.string line,t3,Pq w.heap.size,t5,t6,t7,.bool false,t9,t10,t11,t12,t13,t14,t15,t16,t17,t18,t19,t20,t21,t22,t23,t24,t25,t26,t27,t28,t29,t30,t31,t32,t33,t34,t35,t36,t37,t38,t39,t40,t41,t42,t43,t44,t45,t46,t47,t48,t49,t50,t51,t52,t53,t54,t55,t56,t57,t58,t59,t60,t61,t62,t63,t64,t65],[]⟩ W):=by
  intro t1 t3 t5 t6 t7 t9 t10 t11 t12 t13 t14 t15 t16 t17 t18 t19 t20 t21 t22 t23 t24 t25 t26 t27 t28 t29 t30 t31 t32 t33 t34 t35 t36 t37 t38 t39 t40 t41 t42 t43 t44 t45 t46 t47 t48 t49 t50 t51 t52 t53 t54 t55 t56 t57 t58 t59 t60 t61 t62 t63 t64 t65 W hA;have HA:Hid (P0 W):=hA
  have LW:=(C0.o _ hA).2.2
  have x1:W.cell? (At x 1)=some (Pq b):=(C0.o _ hA).1
  have l0:W.cell? (At w.heap.size 0)=some (I6 l.v):=LW.cell 0
  have l1:W.cell? (At w.heap.size 1)=some (.string l.t):=LW.cell 1
  have l2:W.cell? (At w.heap.size 2)=some (.string l.o):=LW.cell 2
  have l3:W.cell? (At w.heap.size 3)=some (U3 l.a):=LW.cell 3
  have l4:W.cell? (At w.heap.size 4)=some (I6 l.n):=LW.cell 4
  have l5:W.cell? (At w.heap.size 5)=some (U3 l.d):=LW.cell 5
  have l6:W.cell? (At w.heap.size 6)=some (I6 l.g):=LW.cell 6
  have zW:=LW.lt;have zWx:x<W.heap.size:=by omega
  have zW1:¬(w.heap.size=W.heap.size):=by omega
  have zW2:¬(W.heap.size=w.heap.size):=by omega
  have zW3:¬(x=W.heap.size):=by omega
  have zW4:¬(W.heap.size=x):=by omega
  clear hA LW HA0 HF x2;refine a0 _ _ ?_
  go_wp2;rename_i K3' a3;have HM2:Hid (∀ (u1 u3 u5 u6 u7 u8 u10 u11 u12 u13 u14 u15 u16 u17 u18 u19 u20 u21 u22 u23 u24 u25 u26 u27 u28 u29 u30 u31 u32 u33 u34 u35 u36 u37 u38 u39 u40 u41 u42 u43 u44 u45 u46 u47 u48 u49 u50 u51 u52 u53 u54 u55 u56 u57 u58 u59 u60 u61 u62 u63 u64 u65:Value) (A:Nat) (bt:Option Addr) (nt ct:Nat) (W2:World),w.heap.size<A->P2 (.slice bt nt ct) W2->Blk W2 A #[I6 ec,.slice bt nt ct] 98->K3' ⟨#[Pq x,u1,.string line,u3,Pq w.heap.size,u5,u6,u7,u8,Pq A,u10,u11,u12,u13,u14,u15,u16,u17,u18,u19,u20,u21,u22,u23,u24,u25,u26,u27,u28,u29,u30,u31,u32,u33,u34,u35,u36,u37,u38,u39,u40,u41,u42,u43,u44,u45,u46,u47,u48,u49,u50,u51,u52,u53,u54,u55,u56,u57,u58,u59,u60,u61,u62,u63,u64,u65],[]⟩ W2):=by
   intro u1 u3 u5 u6 u7 u8 u10 u11 u12 u13 u14 u15 u16 u17 u18 u19 u20 u21 u22 u23 u24 u25 u26 u27 u28 u29 u30 u31 u32 u33 u34 u35 u36 u37 u38 u39 u40 u41 u42 u43 u44 u45 u46 u47 u48 u49 u50 u51 u52 u53 u54 u55 u56 u57 u58 u59 u60 u61 u62 u63 u64 u65 A bt nt ct W2 hzA hA2 hB2;have q2:Hid (P2 (.slice bt nt ct) W2):=hA2
   have p0:=hB2.cell 0;have p1:=hB2.cell 1;have zA:=hB2.lt;clear hB2 hA2 HD HA l0 l1 l2 l3 l4 l5 l6 x1 L1 E1;refine a3 _ _ ?_
   go_wp2_with (first|(go_at_call 40;refine Mo (HTT.o W2 bt nt ct q2.o) fun w3 hq3=>?_;replace hq3:Hid (Bl W2 w3):=hq3;have b0:w3.cell? (At A 0)=some (I6 ec):=(hq3.o.cell (p:=At A 0) zA).trans p0;have b1:w3.cell? (At A 1)=some (.slice bt nt ct):=(hq3.o.cell (p:=At A 1) zA).trans p1)|(go_at_call 61;refine Mo (HI.o bt nt ct _) fun w4 hq4=>?_;have q4:Hid (P2 (.slice bt nt ct) w4):=K2.o _ _ _ q2.o (hq3.o.trans (hq4.mono hq3.o.size));clear hq4;have y2:w4.cell? (At x 2)=some (.chan (some c)):=(C2.o _ _ q4.o).1;have y1:w4.cell? (At w.heap.size 1)=some (.string l.t):=(C2.o _ _ q4.o).2.cell 1;have zl4:=(C2.o _ _ q4.o).2.lt))
   go_region_held3 (fun w'=>w'.cell? (At x 2)=some (.chan (some c))/\w'.cell? (At w.heap.size 1)=some (.string l.t)) (go_keep) ((go_at_call 66;refine(HAD.o _ _ (K2.o _ _ _ q4.o upB)).mono ?_;rintro e w5 ⟨rfl,q5,hl5⟩;replace q5:Hid (P3 w5):=q5;have z2:w5.cell? (At x 2)=some (.chan (some c)):=(C3.o _ q5.o).2.2;have z1:w5.cell? (At w.heap.size 1)=some (.string l.t):=(World.cell?_of_block (a:=At w.heap.size 1) hl5).trans y1;clear hl5))
   all_goals (
    have x05:=(C3.o _ q5.o).1
    have x15:=(C3.o _ q5.o).2.1
    have x25:=(C3.o _ q5.o).2.2
    clear HTT HI HAD
    cases o with
    | true =>
     go_wp2;go_region_held3 (fun w'=>w'.cell? (At x 0)=some (Pq d)/\w'.cell? (At x 1)=some (Pq b)/\w'.cell? (At x 2)=some (.chan (some c))) (go_keep) ((first
      | (go_at_call 68;refine Mo (HW.o _ (K3.o _ q5.o)) fun w6 q6=>?_;replace q6:Hid (P4 w6):=q6;have x06:=(C4.o _ q6.o).1;have x16:=(C4.o _ q6.o).2.1;have x26:=(C4.o _ q6.o).2.2)
      | (go_at_call 67;refine Mo (HP.o _ q6.o) fun w7 q7=>?_;replace q7:Hid (P5 w7):=q7;have x07:=(C5.o _ q7.o).1;have x17:=(C5.o _ q7.o).2.1;have x27:=(C5.o _ q7.o).2.2.1)))
     all_goals (
      go_wp2;exact F5.o sM _ q7.o)
    | false =>
     go_wp2;go_region_held3 (fun w'=>w'.cell? (At x 0)=some (Pq d)/\w'.cell? (At x 1)=some (Pq b)/\w'.cell? (At x 2)=some (.chan (some c))) (go_keep) ((first
      | (go_at_call 68;refine Mo (HW.o _ (K3.o _ q5.o)) fun w6 q6=>?_;replace q6:Hid (P4 w6):=q6;have x06:=(C4.o _ q6.o).1;have x16:=(C4.o _ q6.o).2.1;have x26:=(C4.o _ q6.o).2.2)
      | (go_at_call 67;refine Mo (HP.o _ q6.o) fun w7 q7=>?_;replace q7:Hid (P5 w7):=q7;have x07:=(C5.o _ q7.o).1;have x17:=(C5.o _ q7.o).2.1;have x27:=(C5.o _ q7.o).2.2.1;have x37:=(C5.o _ q7.o).2.2.2.1;have xf7:=(C5.o _ q7.o).2.2.2.2)))
     all_goals (
      go_wp2;exact F6.o sM _ q7.o))
  replace HM2:Hid _:=HM2;clear a3;go_region_held3 (fun w'=>w'.cell? (At x 1)=some (Pq b)/\w'.cell? (At w.heap.size 0)=some (I6 l.v)/\w'.cell? (At w.heap.size 1)=some (.string l.t)/\w'.cell? (At w.heap.size 2)=some (.string l.o)/\w'.cell? (At w.heap.size 3)=some (U3 l.a)/\w'.cell? (At w.heap.size 4)=some (I6 l.n)/\w'.cell? (At w.heap.size 5)=some (U3 l.d)/\w'.cell? (At w.heap.size 6)=some (I6 l.g)) (go_keep) (first|(go_at_call 43;refine(HD.o _ (K0.o _ _ HA.o upB)).mono ?_;rintro e w2 ⟨bt,nt,ct,rfl,HX2,K2'⟩;replace HX2:Hid (P1 _ (.slice bt nt ct) w2):=HX2;have LB:Hid (Blk w2 w.heap.size #[I6 l.v,.string l.t,.string l.o,U3 l.a,I6 l.n,U3 l.d,I6 l.g] 93):=(C1.o _ _ _ HX2.o).2;have mx:w2.cell? (At x 1)=some (Pq b):=(C1.o _ _ _ HX2.o).1;have m0:w2.cell? (At w.heap.size 0)=some (I6 l.v):=LB.o.cell 0;have m1:w2.cell? (At w.heap.size 1)=some (.string l.t):=LB.o.cell 1;have m2:w2.cell? (At w.heap.size 2)=some (.string l.o):=LB.o.cell 2;have m3:w2.cell? (At w.heap.size 3)=some (U3 l.a):=LB.o.cell 3;have m4:w2.cell? (At w.heap.size 4)=some (I6 l.n):=LB.o.cell 4;have m5:w2.cell? (At w.heap.size 5)=some (U3 l.d):=LB.o.cell 5;have m6:w2.cell? (At w.heap.size 6)=some (I6 l.g):=LB.o.cell 6;have mz:=LB.o.lt;have AB:Hid (Blk w2 W.heap.size #[I6 0,.slice none 0 0] 98):=K2' _ _ _ (lL sM) om;clear K2';have d0:=AB.o.cell 0;have d1:=AB.o.cell 1;have g0:=AB.o.frozen 0;have g1:=AB.o.frozen 1;have dz:=AB.o.lt)|(go_at_call 43;refine(HD.o _ (K0.o _ _ HA.o upB)).mono ?_;rintro e w2 ⟨bt,nt,ct,rfl,HX2,K2'⟩;replace HX2:Hid (P1 _ (.slice bt nt ct) w2):=HX2;have LB:Hid (Blk w2 w.heap.size #[I6 l.v,.string l.t,.string l.o,U3 l.a,I6 l.n,U3 l.d,I6 l.g] 93):=(C1.o _ _ _ HX2.o).2;have mx:w2.cell? (At x 1)=some (Pq b):=(C1.o _ _ _ HX2.o).1;have m0:w2.cell? (At w.heap.size 0)=some (I6 l.v):=LB.o.cell 0;have m1:w2.cell? (At w.heap.size 1)=some (.string l.t):=LB.o.cell 1;have m2:w2.cell? (At w.heap.size 2)=some (.string l.o):=LB.o.cell 2;have m3:w2.cell? (At w.heap.size 3)=some (U3 l.a):=LB.o.cell 3;have m4:w2.cell? (At w.heap.size 4)=some (I6 l.n):=LB.o.cell 4;have m5:w2.cell? (At w.heap.size 5)=some (U3 l.d):=LB.o.cell 5;have m6:w2.cell? (At w.heap.size 6)=some (I6 l.g):=LB.o.cell 6;have mz:=LB.o.lt;clear K2'))
  all_goals first
   | exact HM2.o _ _ _ _ _ _ _ _ _ _ _ _ _ _ _ _ _ _ _ _ _ _ _ _ _ _ _ _ _ _ _ _ _ _ _ _ _ _ _ _ _ _ _ _ _ _ _ _ _ _ _ _ _ _ _ _ _ _ _ _ _ _ w2.heap.size _ _ _ _ om (L1.o _ _ _ _ HX2.o (by simp;omega) (by repeat' (first|with_reducible exact Below.refl _ _|with_reducible apply Below.drew|with_reducible apply Below.alloc|omega|(simp;done)))) (Blk.new w2 _ _)
   | exact HM2.o _ _ _ _ _ _ _ _ _ _ _ _ _ _ _ _ _ _ _ _ _ _ _ _ _ _ _ _ _ _ _ _ _ _ _ _ _ _ _ _ _ _ _ _ _ _ _ _ _ _ _ _ _ _ _ _ _ _ _ _ _ _ W.heap.size _ _ _ _ om (E1.o _ _ _ _ _ _ HX2.o om sM AB.o) (rE AB.o _ _)
 replace HM:Hid _:=HM;clear a0 a1;go_region_held3 (fun w'=>w'.cell? (At x 2)=some (.chan (some c))/\w'.cell? (At w.heap.size 1)=some (.string l.t)) (go_keep) (first|(go_at_call 64;refine(HF.o _ (K0.o _ _ HA0.o upB)).mono ?_;rintro e w1 ⟨rfl,HA1,K1⟩;replace HA1:Hid (P0 w1):=HA1;have LB1:Hid (Blk w1 w.heap.size (lnC l) 93):=(C0.o w1 HA1.o).2.2;have e1:w1.cell? (At x 2)=some (.chan (some c)):=(C0.o w1 HA1.o).2.1;have e2:w1.cell? (At w.heap.size 1)=some (.string l.t):=LB1.o.cell 1;have ez:=LB1.o.lt;have DB:Hid (Blk w1 (w.heap.size+1) #[.string ⟨#[]⟩,.string ⟨#[]⟩,.string ⟨#[]⟩] 145):=K1 _ _ _ (lL sM) om;clear K1;have d0:=DB.o.cell 0;have d1:=DB.o.cell 1;have d2:=DB.o.cell 2;have g0:=DB.o.frozen 0;have g1:=DB.o.frozen 1;have g2:=DB.o.frozen 2;have dz:=DB.o.lt)|(go_at_call 64;refine(HF.o _ (K0.o _ _ HA0.o upB)).mono ?_;rintro e w1 ⟨rfl,HA1,K1⟩;replace HA1:Hid (P0 w1):=HA1;have LB1:Hid (Blk w1 w.heap.size (lnC l) 93):=(C0.o w1 HA1.o).2.2;have e1:w1.cell? (At x 2)=some (.chan (some c)):=(C0.o w1 HA1.o).2.1;have e2:w1.cell? (At w.heap.size 1)=some (.string l.t):=LB1.o.cell 1;have ez:=LB1.o.lt;clear K1))
 all_goals first
  | exact HM.o _ _ _ _ _ _ _ _ _ _ _ _ _ _ _ _ _ _ _ _ _ _ _ _ _ _ _ _ _ _ _ _ _ _ _ _ _ _ _ _ _ _ _ _ _ _ _ _ _ _ _ _ _ _ _ _ _ _ _ _ _ _ _ (K0.o _ _ HA1.o upB)
end
section
open Go.Conc Go.ChangeShapes Go.WideShapes Go.ChangeAt Go.RowKit
theorem di.chg{w w':World}{S:Nat->Prop}(h:di w)(hc:Chg S w w')(hG:∀ b,S b->10<=b):di w' where
 env:=h.env.chg hc hG
 lw:=Nat.lt_of_lt_of_le h.lw hc.size
 lf:=Nat.lt_of_lt_of_le h.lf hc.size
 wd:=fun i v e=>(World.cell?_of_block (a:=At 1 i) (hc.block _ h.lw (fun q=>absurd (hG _ q) (by show ¬10<=(1:Nat);decide)))).trans (h.wd i v e)
 fm:=fun i v e=>(World.cell?_of_block (a:=At 0 i) (hc.block _ h.lf (fun q=>absurd (hG _ q) (by show ¬10<=(0:Nat);decide)))).trans (h.fm i v e)
theorem eQ(l:Lu):(⟨l.toArray⟩:Bz).size=l.length:=by show l.toArray.size=_;simp
theorem iu{a n:Int}(ha:ad a)(hn:0<=n)(h1:n<=32):(cF a n).length<=18:=oW _ _ (by have:=ha.1;have:=ha.2;omega) om
theorem m7{h:Hd}(ha:ad h.a)(hr:rt h.a h.n=true)(ho:h.o.size<=8):(⟨(bJ h).toArray⟩:Bz).size<=100:=by
 obtain⟨n0,n1,_⟩:=aj.1 hr;have h1:=iu ha n0 n1;have h2:=Lib.size_eq h.o;rw[eQ];unfold bJ;simp only[List.length_append,List.length_cons]
 omega
theorem wm{h:Ls}(ha:ad h.a)(ho:h.o.size<=8):(⟨(dt h).toArray⟩:Bz).size<=100:=by
 have h1:=fI h.a.toNat (by have:=ha.1;have:=ha.2;omega)
 have h2:=Lib.size_eq h.o;rw[eQ];unfold dt;simp only[List.length_append,List.length_cons]
 omega
def BT(a:An):Prop:=a.e<14/\a.s.length<=1000/\∀ t,t∈a.s->t.size<=100
theorem bD(k:Nat)(h:k<14):BT (ref k):=⟨h,by simp[ref],by simp[ref]⟩
theorem jT:BT okA:=⟨by decide,by simp[okA],by simp[okA]⟩
theorem rC(t:Bz)(h:t.size<=100):BT (eB t):=⟨by simp[eB],by simp[eB],by simpa[eB] using h⟩
theorem x8{s:Bk}{l:Ln}(hI:Inv s)(hL:aZ l):BT (aH s l).2:=by
 unfold aH;split
 ·unfold cy;split;· exact bD 4 om
  split;· exact bD 5 om
  split;· exact bD 6 om
  exact jT
 ·unfold cR;split;· exact bD 7 om
  split;· exact bD 8 om
  split;· exact bD 9 om
  exact jT
 ·unfold dH;split;· exact bD 7 om
  split;· exact bD 4 om
  rcases hb:dN (aM 33 (af s.nets l.a l.n) l.a l.n) l.g with _|b
  ·exact bD 10 om
  ·dsimp only;split
   ·exact bD 6 om
   ·refine rC _ ?_
    rw[eQ];rcases iU _ _ _ hb with⟨q1,q2⟩|q
    ·have h1:=ja (af s.nets l.a l.n) (fun h hh=>(aj.1 (hI.na h (List.mem_filter.1 hh).1).2.1).2.1) 33 l.a l.n hL.a hL.r b q1
     have:=iu (n:=l.g) h1.1 hL.g0 hL.g1
     omega
    ·cases q
 ·unfold bI;split;· exact bD 4 om
  split;· exact bD 7 om
  split;· exact bD 5 om
  split;· exact bD 6 om
  exact jT
 ·unfold cS;split;· exact bD 11 om
  split;· exact bD 8 om
  split;· exact bD 9 om
  exact jT
 ·unfold bU;split;· exact bD 11 om
  rcases hb:du s.leases l.a l.n with _|d
  ·exact bD 10 om
  ·dsimp only;split
   ·exact bD 6 om
   ·refine rC _ ?_
    have:=jf hL.a hL.r hb
    have h2:=fI d.toNat (by have h3:=this.1;have h4:=this.2;omega)
    rw[eQ];omega
 ·unfold cA;split;· exact bD 11 om
  split;· exact bD 12 om
  split;· exact bD 13 om
  split;· exact bD 6 om
  exact jT
 ·unfold cU;split
  ·split;· exact bD 8 om
   exact jT
  ·exact bD 12 om
 ·refine⟨by show 0<14;omega,by show (s.pools.map _).length<=1000;rw[List.length_map];have:=hI.p;omega,fun t ht=>?_⟩
  obtain⟨h,hh,rfl⟩:=List.mem_map.1 ht;have:=hI.pa h hh
  exact m7 this.1 this.2.1 this.2.2.2.2
 ·unfold gy;split
  ·exact bD 7 om
  ·refine⟨by show 0<14;omega,by show ((af s.nets l.a l.n).map _).length<=1000;rw[List.length_map];have:=hI.n;have:=List.length_filter_le (fun h:Hd=>inn h.a h.n l.a l.n) s.nets;unfold af;omega,fun t ht=>?_⟩
   obtain⟨h,hh,rfl⟩:=List.mem_map.1 ht;have:=hI.na h (List.mem_filter.1 hh).1
   exact m7 this.1 this.2.1 this.2.2.2
 ·unfold gA;split
  ·exact bD 11 om
  ·refine⟨by show 0<14;omega,by show ((aw s.leases l.a l.n).map _).length<=1000;rw[List.length_map];have:=hI.l;have:=List.length_filter_le (fun h:Ls=>inn h.a 32 l.a l.n) s.leases;unfold aw;omega,fun t ht=>?_⟩
   obtain⟨h,hh,rfl⟩:=List.mem_map.1 ht;have:=hI.la h (List.mem_filter.1 hh).1
   exact wm this.1 this.2
 ·exact bD 2 om
theorem jL(s:Bk)(l:Ln):(aH s l).1.toks=s.toks:=by
 unfold aH cy cR dH bI cS bU cA cU;repeat' (first|rfl|split)
end
end Go.Proofs.YtjnhhnbgjjkkjaaGreatDoor
