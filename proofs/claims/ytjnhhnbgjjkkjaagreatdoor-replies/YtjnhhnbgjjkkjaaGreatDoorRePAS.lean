import Derived.Test.YtjnhhnbgjjkkjaaGreatDoorRePAP
import Derived.Test.YtjnhhnbgjjkkjaaGreatDoorRePAR
set_option linter.all false
set_option maxRecDepth 100000
set_option maxHeartbeats 2000000
namespace Go.Proofs.YtjnhhnbgjjkkjaaGreatDoor
section
open Go.ChangeShapes Go.WideShapes Go.ChangeAt Go.RowKit Go.Proofs.Tryz
def qR(s:Bk)(ls:List (Lu)):Option Bz :=
 if vb (ls.getD 0 [])=8/\ls.length=1 then some (bs (cu s.pools 0 0 false))
 else if ¬(ls.length=2/\(vb (ls.getD 0 [])=9\/vb (ls.getD 0 [])=10)) then none
 else if ¬rdE (ls.getD 1 [])=0 then none
 else if vb (ls.getD 0 [])=9 then some (if ah s.pools (rdB (ls.getD 1 [])) (rdN (ls.getD 1 []))<0 then ⟨#[69,82,82,32,80,79,79,76]⟩ else bs (cu s.nets (rdB (ls.getD 1 [])) (rdN (ls.getD 1 [])) false))
 else some (if ah s.nets (rdB (ls.getD 1 [])) (rdN (ls.getD 1 []))<0 then ⟨#[69,82,82,32,78,69,84]⟩ else bs (cu (s.leases.map lsH) (rdB (ls.getD 1 [])) (rdN (ls.getD 1 [])) true))
def ck(s:Bk)(v:Int)(o:Bz)(a n g d:Int):Bk×Bz :=
 if v=0 then jq s o a n else if v=1 then iq s o a n else if v=2 then mo s o a n g else if v=3 then gc s o a n else if v=4 then dy s o a n else if v=5 then gd s o a n else if v=6 then jr s o d else jn s o d
def eZ(s:Bk)(ls:List (Lu)):Bk×Bz:=ck s (vb (ls.getD 0 [])) (bs (ls.getD 2 [])) (rdB (ls.getD 3 [])) (rdN (ls.getD 3 [])) (cY (ls.getD 4 []) 32) (bY (ls.getD 3 []))
def doK(t line:Bz)(y:Bk×Bz):Bk×Bz:=if y.2.data.toList.take 2=[79,75] then ({ y.1 with toks:=dM y.1.toks ⟨t,line,y.2⟩ },y.2) else y
def doT(s:Bk)(line:Bz)(ls:List (Lu)):Option Tk->Bk×Bz
 | some x=>if x.l=line then (s,x.r) else (s,⟨#[69,82,82,32,84,79,75,69,78]⟩)
 | none=>doK (bs (ls.getD 1 [])) line (eZ s ls)
def doC(s:Bk)(line:Bz)(ls:List (Lu)):Bk×Bz:=if fj ls=true then doT s line ls (cX s.toks (bs (ls.getD 1 []))) else (s,⟨#[69,82,82,32,76,73,78,69]⟩)
def doQ(s:Bk)(line:Bz)(ls:List (Lu)):Option Bz->Bk×Bz
 | some t=>(s,t)
 | none=>doC s line ls
def doR(s:Bk)(line:Bz):Bk×Bz:=if 100<line.size then (s,⟨#[69,82,82,32,76,73,78,69]⟩) else doQ s line (ax 32 line.data.toList) (qR s (ax 32 line.data.toList))
structure QL where
 (bp bn bl:Option Addr) (pl pc nl nc ll lc:Nat) (b n e kp kn:Int) (tp tn tl:Bz)
def Qq(W:World)(r g:Nat)(p0:Bz)(y:QL)(V:World):Prop:=Hid (Bl W V)/\V.cell? (At g 0)=some (.string p0)/\g<V.heap.size/\V.cell? (At r 0)=some (.slice y.bp y.pl y.pc)/\V.cell? (At r 1)=some (.slice y.bn y.nl y.nc)/\V.cell? (At r 2)=some (.slice y.bl y.ll y.lc)/\r<V.heap.size
structure QH(W:World)(r g:Nat)(p0 p1:Bz)(y:QL):Prop where
 q:∀ V,Bl W V->Qq W r g p0 y V
 rd:∀ V,Cr prog 181 #[.string p1] V (.tuple #[.agg #[U3 y.b,I6 y.n],I6 y.e])
 ap:∀ V,Bl W V->Cr prog 182 #[.slice y.bp y.pl y.pc,.agg #[U3 y.b,I6 y.n]] V (I6 y.kp)
 an:∀ V,Bl W V->Cr prog 182 #[.slice y.bn y.nl y.nc,.agg #[U3 y.b,I6 y.n]] V (I6 y.kn)
 tp:∀ V,Bl W V->Cr prog 180 #[.slice y.bp y.pl y.pc,.agg #[U3 0,I6 0],.bool false] V (.string y.tp)
 tn:∀ V,Bl W V->Cr prog 180 #[.slice y.bn y.nl y.nc,.agg #[U3 y.b,I6 y.n],.bool false] V (.string y.tn)
 tl:∀ V,Bl W V->Cr prog 180 #[.slice y.bl y.ll y.lc,.agg #[U3 y.b,I6 y.n],.bool true] V (.string y.tl)
theorem A6(W:World)(r g cap:Nat)(p0 p1:Bz)(y:QL)(h:QH W r g p0 p1 y)(hP:(p0.toList==[80,79,79,76,83])=true):Cr prog 134 #[Pq r,Sq g 1 cap] W (.tuple #[.string y.tp,.bool true]):=by
 obtain⟨B0,c0,cz,x0,x1,x2,xz⟩:=h.q W (Below.refl _ _)
 go_enter func134,ntmps134
 go_wp2_with (go_at_call 180;refine Mo (h.tp _ (upH B0)) fun w1 hb=>?_;obtain⟨B1,c0,cz,x0,x1,x2,xz⟩:=h.q w1 (bup (upH B0) hb);clear hb)
 exact bodyPost_ret (v:=.tuple #[.string y.tp,.bool true]) (by simp[results,results134]) rfl ⟨rfl,by have hh:=B1.o;have hg:=hh.size;exact upB⟩
theorem Gy(W:World)(r g cap:Nat)(p0 p1:Bz)(y:QL)(h:QH W r g p0 p1 y)(m:Nat)(hm1:1<=(m:Int))(hP:(p0.toList==[80,79,79,76,83])=true)(h1:¬(m:Int)=1)(h2:¬(m:Int)=2):Cr prog 134 #[Pq r,Sq g m cap] W (.tuple #[.string ⟨#[]⟩,.bool false]):=by
 obtain⟨B0,c0,cz,x0,x1,x2,xz⟩:=h.q W (Below.refl _ _)
 go_enter func134,ntmps134
 go_wp2;exact bodyPost_ret (v:=.tuple #[.string ⟨#[]⟩,.bool false]) (by simp[results,results134]) rfl ⟨rfl,by have hh:=B0.o;have hg:=hh.size;exact upB⟩
theorem Gz(W:World)(r g cap:Nat)(p0 p1:Bz)(y:QL)(h:QH W r g p0 p1 y)(m:Nat)(hm1:1<=(m:Int))(hP:(p0.toList==[80,79,79,76,83])=false)(h2:¬(m:Int)=2):Cr prog 134 #[Pq r,Sq g m cap] W (.tuple #[.string ⟨#[]⟩,.bool false]):=by
 obtain⟨B0,c0,cz,x0,x1,x2,xz⟩:=h.q W (Below.refl _ _)
 go_enter func134,ntmps134
 go_wp2;exact bodyPost_ret (v:=.tuple #[.string ⟨#[]⟩,.bool false]) (by simp[results,results134]) rfl ⟨rfl,by have hh:=B0.o;have hg:=hh.size;exact upB⟩
theorem GF(W:World)(r g cap:Nat)(p0 p1:Bz)(y:QL)(h:QH W r g p0 p1 y)(HC:∀ V,Bl W V->V.cell? (At g 1)=some (.string p1))(hP:(p0.toList==[80,79,79,76,83])=true)(hN:(p0.toList==[78,69,84,83])=false)(hU:(p0.toList==[85,83,69,68])=false):Cr prog 134 #[Pq r,Sq g 2 cap] W (.tuple #[.string ⟨#[]⟩,.bool false]):=by
 obtain⟨B0,c0,cz,x0,x1,x2,xz⟩:=h.q W (Below.refl _ _)
 have c1:=HC W (Below.refl _ _)
 go_enter func134,ntmps134
 go_wp2;exact bodyPost_ret (v:=.tuple #[.string ⟨#[]⟩,.bool false]) (by simp[results,results134]) rfl ⟨rfl,by have hh:=B0.o;have hg:=hh.size;exact upB⟩
theorem GG(W:World)(r g cap:Nat)(p0 p1:Bz)(y:QL)(h:QH W r g p0 p1 y)(HC:∀ V,Bl W V->V.cell? (At g 1)=some (.string p1))(hP:(p0.toList==[80,79,79,76,83])=false)(hN:(p0.toList==[78,69,84,83])=false)(hU:(p0.toList==[85,83,69,68])=false):Cr prog 134 #[Pq r,Sq g 2 cap] W (.tuple #[.string ⟨#[]⟩,.bool false]):=by
 obtain⟨B0,c0,cz,x0,x1,x2,xz⟩:=h.q W (Below.refl _ _)
 have c1:=HC W (Below.refl _ _)
 go_enter func134,ntmps134
 go_wp2;exact bodyPost_ret (v:=.tuple #[.string ⟨#[]⟩,.bool false]) (by simp[results,results134]) rfl ⟨rfl,by have hh:=B0.o;have hg:=hh.size;exact upB⟩
theorem Gw(W:World)(r g cap:Nat)(p0 p1:Bz)(y:QL)(h:QH W r g p0 p1 y)(HC:∀ V,Bl W V->V.cell? (At g 1)=some (.string p1))(hP:(p0.toList==[80,79,79,76,83])=false)(hN:(p0.toList==[78,69,84,83])=true)(he:¬y.e=0):Cr prog 134 #[Pq r,Sq g 2 cap] W (.tuple #[.string ⟨#[]⟩,.bool false]):=by
 obtain⟨B0,c0,cz,x0,x1,x2,xz⟩:=h.q W (Below.refl _ _)
 have c1:=HC W (Below.refl _ _)
 go_enter func134,ntmps134
 go_wp2_with (go_at_call 181;refine Mo (h.rd _) fun w1 hb=>?_;obtain⟨B1,c0,cz,x0,x1,x2,xz⟩:=h.q w1 (bup (upH B0) hb);replace c1:w1.cell? (At g 1)=some (.string p1):=HC w1 B1.o;clear hb)
 exact bodyPost_ret (v:=.tuple #[.string ⟨#[]⟩,.bool false]) (by simp[results,results134]) rfl ⟨rfl,by have hh:=B1.o;have hg:=hh.size;exact upB⟩
theorem GA(W:World)(r g cap:Nat)(p0 p1:Bz)(y:QL)(h:QH W r g p0 p1 y)(HC:∀ V,Bl W V->V.cell? (At g 1)=some (.string p1))(hP:(p0.toList==[80,79,79,76,83])=false)(hN:(p0.toList==[78,69,84,83])=true)(he:y.e=0)(hk:y.kp<0):Cr prog 134 #[Pq r,Sq g 2 cap] W (.tuple #[.string ⟨#[69,82,82,32,80,79,79,76]⟩,.bool true]):=by
 obtain⟨B0,c0,cz,x0,x1,x2,xz⟩:=h.q W (Below.refl _ _)
 have c1:=HC W (Below.refl _ _)
 go_enter func134,ntmps134
 go_wp2_with (go_at_call 181;refine Mo (h.rd _) fun w1 hb=>?_;obtain⟨B1,c0,cz,x0,x1,x2,xz⟩:=h.q w1 (bup (upH B0) hb);replace c1:w1.cell? (At g 1)=some (.string p1):=HC w1 B1.o;clear hb)
 go_region_held3 (fun w'=>w'.cell? (At r 0)=some (.slice y.bp y.pl y.pc)/\w'.cell? (At w1.heap.size 0)=some (U3 y.b)/\w'.cell? (At w1.heap.size 1)=some (I6 y.n)) (go_keep) ((go_at_call 182;refine Mo (h.ap _ (upH B1)) fun w2 hb=>?_;obtain⟨B2,c0,cz,x0,x1,x2,xz⟩:=h.q w2 (bup (upH B1) hb);replace c1:w2.cell? (At g 1)=some (.string p1):=HC w2 B2.o;have b0:w2.cell? (At w1.heap.size 0)=some (U3 y.b):=cN hb;have b1:w2.cell? (At w1.heap.size 1)=some (I6 y.n):=cN hb;clear hb))
 all_goals (
  go_wp2_with fail
  exact bodyPost_ret (v:=.tuple #[.string ⟨#[69,82,82,32,80,79,79,76]⟩,.bool true]) (by simp[results,results134]) rfl ⟨rfl,by have hh:=B2.o;have hg:=hh.size;exact upB⟩)
theorem GC(W:World)(r g cap:Nat)(p0 p1:Bz)(y:QL)(h:QH W r g p0 p1 y)(HC:∀ V,Bl W V->V.cell? (At g 1)=some (.string p1))(hP:(p0.toList==[80,79,79,76,83])=false)(hN:(p0.toList==[78,69,84,83])=true)(he:y.e=0)(hk:¬y.kp<0):Cr prog 134 #[Pq r,Sq g 2 cap] W (.tuple #[.string y.tn,.bool true]):=by
 obtain⟨B0,c0,cz,x0,x1,x2,xz⟩:=h.q W (Below.refl _ _)
 have c1:=HC W (Below.refl _ _)
 go_enter func134,ntmps134
 go_wp2_with (go_at_call 181;refine Mo (h.rd _) fun w1 hb=>?_;obtain⟨B1,c0,cz,x0,x1,x2,xz⟩:=h.q w1 (bup (upH B0) hb);replace c1:w1.cell? (At g 1)=some (.string p1):=HC w1 B1.o;clear hb)
 go_region_held3 (fun w'=>w'.cell? (At r 0)=some (.slice y.bp y.pl y.pc)/\w'.cell? (At w1.heap.size 0)=some (U3 y.b)/\w'.cell? (At w1.heap.size 1)=some (I6 y.n)) (go_keep) ((go_at_call 182;refine Mo (h.ap _ (upH B1)) fun w2 hb=>?_;obtain⟨B2,c0,cz,x0,x1,x2,xz⟩:=h.q w2 (bup (upH B1) hb);replace c1:w2.cell? (At g 1)=some (.string p1):=HC w2 B2.o;have b0:w2.cell? (At w1.heap.size 0)=some (U3 y.b):=cN hb;have b1:w2.cell? (At w1.heap.size 1)=some (I6 y.n):=cN hb;clear hb))
 all_goals (
  go_wp2_with fail
  go_region_held3 (fun w'=>w'.cell? (At r 1)=some (.slice y.bn y.nl y.nc)/\w'.cell? (At w1.heap.size 0)=some (U3 y.b)/\w'.cell? (At w1.heap.size 1)=some (I6 y.n)) (go_keep) ((go_at_call 180;refine Mo (h.tn _ (upH B2)) fun w3 hb=>?_;obtain⟨B3,c0,cz,x0,x1,x2,xz⟩:=h.q w3 (bup (upH B2) hb);replace c1:w3.cell? (At g 1)=some (.string p1):=HC w3 B3.o;have b2:=cK hb b0;have b3:=cK hb b1;clear hb))
  all_goals (
   go_wp2_with fail
   exact bodyPost_ret (v:=.tuple #[.string y.tn,.bool true]) (by simp[results,results134]) rfl ⟨rfl,by have hh:=B3.o;have hg:=hh.size;exact upB⟩))
theorem Gx(W:World)(r g cap:Nat)(p0 p1:Bz)(y:QL)(h:QH W r g p0 p1 y)(HC:∀ V,Bl W V->V.cell? (At g 1)=some (.string p1))(hP:(p0.toList==[80,79,79,76,83])=false)(hN:(p0.toList==[78,69,84,83])=false)(hU:(p0.toList==[85,83,69,68])=true)(he:¬y.e=0):Cr prog 134 #[Pq r,Sq g 2 cap] W (.tuple #[.string ⟨#[]⟩,.bool false]):=by
 obtain⟨B0,c0,cz,x0,x1,x2,xz⟩:=h.q W (Below.refl _ _)
 have c1:=HC W (Below.refl _ _)
 go_enter func134,ntmps134
 go_wp2_with (go_at_call 181;refine Mo (h.rd _) fun w1 hb=>?_;obtain⟨B1,c0,cz,x0,x1,x2,xz⟩:=h.q w1 (bup (upH B0) hb);replace c1:w1.cell? (At g 1)=some (.string p1):=HC w1 B1.o;clear hb)
 exact bodyPost_ret (v:=.tuple #[.string ⟨#[]⟩,.bool false]) (by simp[results,results134]) rfl ⟨rfl,by have hh:=B1.o;have hg:=hh.size;exact upB⟩
theorem GB(W:World)(r g cap:Nat)(p0 p1:Bz)(y:QL)(h:QH W r g p0 p1 y)(HC:∀ V,Bl W V->V.cell? (At g 1)=some (.string p1))(hP:(p0.toList==[80,79,79,76,83])=false)(hN:(p0.toList==[78,69,84,83])=false)(hU:(p0.toList==[85,83,69,68])=true)(he:y.e=0)(hk:y.kn<0):Cr prog 134 #[Pq r,Sq g 2 cap] W (.tuple #[.string ⟨#[69,82,82,32,78,69,84]⟩,.bool true]):=by
 obtain⟨B0,c0,cz,x0,x1,x2,xz⟩:=h.q W (Below.refl _ _)
 have c1:=HC W (Below.refl _ _)
 go_enter func134,ntmps134
 go_wp2_with (go_at_call 181;refine Mo (h.rd _) fun w1 hb=>?_;obtain⟨B1,c0,cz,x0,x1,x2,xz⟩:=h.q w1 (bup (upH B0) hb);replace c1:w1.cell? (At g 1)=some (.string p1):=HC w1 B1.o;clear hb)
 go_region_held3 (fun w'=>w'.cell? (At r 1)=some (.slice y.bn y.nl y.nc)/\w'.cell? (At w1.heap.size 0)=some (U3 y.b)/\w'.cell? (At w1.heap.size 1)=some (I6 y.n)) (go_keep) ((go_at_call 182;refine Mo (h.an _ (upH B1)) fun w2 hb=>?_;obtain⟨B2,c0,cz,x0,x1,x2,xz⟩:=h.q w2 (bup (upH B1) hb);replace c1:w2.cell? (At g 1)=some (.string p1):=HC w2 B2.o;have b0:w2.cell? (At w1.heap.size 0)=some (U3 y.b):=cN hb;have b1:w2.cell? (At w1.heap.size 1)=some (I6 y.n):=cN hb;clear hb))
 all_goals (
  go_wp2_with fail
  exact bodyPost_ret (v:=.tuple #[.string ⟨#[69,82,82,32,78,69,84]⟩,.bool true]) (by simp[results,results134]) rfl ⟨rfl,by have hh:=B2.o;have hg:=hh.size;exact upB⟩)
theorem GD(W:World)(r g cap:Nat)(p0 p1:Bz)(y:QL)(h:QH W r g p0 p1 y)(HC:∀ V,Bl W V->V.cell? (At g 1)=some (.string p1))(hP:(p0.toList==[80,79,79,76,83])=false)(hN:(p0.toList==[78,69,84,83])=false)(hU:(p0.toList==[85,83,69,68])=true)(he:y.e=0)(hk:¬y.kn<0):Cr prog 134 #[Pq r,Sq g 2 cap] W (.tuple #[.string y.tl,.bool true]):=by
 obtain⟨B0,c0,cz,x0,x1,x2,xz⟩:=h.q W (Below.refl _ _)
 have c1:=HC W (Below.refl _ _)
 go_enter func134,ntmps134
 go_wp2_with (go_at_call 181;refine Mo (h.rd _) fun w1 hb=>?_;obtain⟨B1,c0,cz,x0,x1,x2,xz⟩:=h.q w1 (bup (upH B0) hb);replace c1:w1.cell? (At g 1)=some (.string p1):=HC w1 B1.o;clear hb)
 go_region_held3 (fun w'=>w'.cell? (At r 1)=some (.slice y.bn y.nl y.nc)/\w'.cell? (At w1.heap.size 0)=some (U3 y.b)/\w'.cell? (At w1.heap.size 1)=some (I6 y.n)) (go_keep) ((go_at_call 182;refine Mo (h.an _ (upH B1)) fun w2 hb=>?_;obtain⟨B2,c0,cz,x0,x1,x2,xz⟩:=h.q w2 (bup (upH B1) hb);replace c1:w2.cell? (At g 1)=some (.string p1):=HC w2 B2.o;have b0:w2.cell? (At w1.heap.size 0)=some (U3 y.b):=cN hb;have b1:w2.cell? (At w1.heap.size 1)=some (I6 y.n):=cN hb;clear hb))
 all_goals (
  go_wp2_with fail
  go_region_held3 (fun w'=>w'.cell? (At r 2)=some (.slice y.bl y.ll y.lc)/\w'.cell? (At w1.heap.size 0)=some (U3 y.b)/\w'.cell? (At w1.heap.size 1)=some (I6 y.n)) (go_keep) ((go_at_call 180;refine Mo (h.tl _ (upH B2)) fun w3 hb=>?_;obtain⟨B3,c0,cz,x0,x1,x2,xz⟩:=h.q w3 (bup (upH B2) hb);replace c1:w3.cell? (At g 1)=some (.string p1):=HC w3 B3.o;have b2:=cK hb b0;have b3:=cK hb b1;clear hb))
  all_goals (
   go_wp2_with fail
   exact bodyPost_ret (v:=.tuple #[.string y.tl,.bool true]) (by simp[results,results134]) rfl ⟨rfl,by have hh:=B3.o;have hg:=hh.size;exact upB⟩))
theorem AI{w:Lu}{p:Int×Int}(h:rd w=some p):ad p.1:=by
 unfold rd at h;split at h
 ·split at h
  ·rename_i ha hn;split at h
   ·cases h;have:=gS ha
    exact⟨by show (0:Int)<=_;omega,by show (_:Int) < _;omega⟩
   ·cases h
  ·cases h
 ·cases h
theorem tC{w:Lu}{p:Int×Int}(h:rd w=some p):rt p.1 p.2=true:=by
 unfold rd at h;split at h
 ·split at h
  ·split at h
   ·rename_i hr
    cases h;exact hr
   ·cases h
  ·cases h
 ·cases h
def qO(o:Option Bz):Value:=.tuple #[.string (o.getD ⟨#[]⟩),.bool o.isSome]
theorem mr(S:Nat->Prop)(B:Nat)(W:World)(r:Nat)(s:Bk)(vt:Value)(g cap m:Nat)(ls:List (Lu))(h:RB S B r s vt W)(hw:Wd W g m ls)(hs:∀ i,(ls.getD i []).length<=100)(hm:1<=m)(I:Inv s):Cr prog 134 #[Pq r,Sq g m cap] W (qO (qR s ls)):=by
 obtain⟨vp,vn,vl,h1,h2,h3,h4⟩:=h;obtain⟨bp,pc,rfl,_,_⟩:=ae h2.1;obtain⟨bn,nc,rfl,_,_⟩:=ae h3.1;obtain⟨bl,lc,rfl,_,_⟩:=ae h4.1;have hP:∀ h,h∈s.pools->cP h/\h.o.size<=8:=fun h hh=>⟨⟨(I.pa h hh).1,by have:=(I.pa h hh).2.2;omega,by have:=(I.pa h hh).2.2;omega⟩,(I.pa h hh).2.2.2.2⟩
 have hN:∀ h,h∈s.nets->cP h/\h.o.size<=8:=fun h hh=>⟨⟨(I.na h hh).1,by have:=(I.na h hh).2.2;omega,(aj.1 (I.na h hh).2.1).2.1⟩,(I.na h hh).2.2.2⟩
 have hL:∀ h,h∈s.leases.map lsH->cP h/\h.o.size<=8:=fun h hh=>by
  obtain⟨x,hx,rfl⟩:=List.mem_map.1 hh;exact⟨⟨(I.la x hx).1,by show (0:Int)<=32;decide,by show (32:Int)<=32;decide⟩,(I.la x hx).2⟩
 have hz:(bs (ls.getD 1 [])).size<=2097152:=by rw[aN];have:=hs 1;omega
 obtain⟨hmm,hg,hc⟩:=hw;have cell:∀ V,Bl W V->∀ i,i<m->V.cell? (At g i)=some (.string (bs (ls.getD i []))):=fun V hV i hi=>(hV.cell (p:=At g i) hg).trans (hc i hi)
 have gl:∀ V,Bl W V->g<V.heap.size:=fun V hV=>Nat.lt_of_lt_of_le hg hV.size
 have hbn:0<=rdN (ls.getD 1 [])/\rdN (ls.getD 1 [])<=32/\ad (rdB (ls.getD 1 [])):=by
  rcases hq:rd (ls.getD 1 []) with _|⟨a,n⟩
  ·obtain⟨e1,e2,_⟩:=cW hq;rw[e1,e2];exact⟨by decide,by decide,by unfold ad;decide⟩
  ·obtain⟨e1,e2,_⟩:=gi hq;rw[e1,e2];exact⟨(aj.1 (tC hq)).1,(aj.1 (tC hq)).2.1,AI hq⟩
 have HR:Hid (∀ V,Cr prog 181 #[.string (bs (ls.getD 1 []))] V (.tuple #[.agg #[U3 (rdB (ls.getD 1 [])),I6 (rdN (ls.getD 1 []))],I6 (rdE (ls.getD 1 []))])):=fun V=>(jY _ V hz).mono (fun e w' q=>by rw[bN] at q;exact q)
 have hre:rdE (ls.getD 1 [])=0\/rdE (ls.getD 1 [])=1:=by
  rcases hq:rd (ls.getD 1 []) with _|⟨a,n⟩
  ·exact .inr (cW hq).2.2
  ·exact .inl (gi hq).2.2
 have HTp:Hid (∀ V,Bl W V->Cr prog 180 #[.slice bp s.pools.length pc,.agg #[U3 0,I6 0],.bool false] V (.string (bs (cu s.pools 0 0 false)))):=fun V hV=>j5 s.pools 0 0 false _ V (by unfold ad;decide) dE dE hP (h2.below hV).rd (by have:=I.p;omega)
 have HTn:Hid (∀ V,Bl W V->Cr prog 180 #[.slice bn s.nets.length nc,.agg #[U3 (rdB (ls.getD 1 [])),I6 (rdN (ls.getD 1 []))],.bool false] V (.string (bs (cu s.nets (rdB (ls.getD 1 [])) (rdN (ls.getD 1 [])) false)))):=fun V hV=>j5 s.nets _ _ false _ V hbn.2.2 hbn.1 hbn.2.1 hN (h3.below hV).rd (by have:=I.n;omega)
 have HTl:Hid (∀ V,Bl W V->Cr prog 180 #[.slice bl (s.leases.map lsH).length lc,.agg #[U3 (rdB (ls.getD 1 [])),I6 (rdN (ls.getD 1 []))],.bool true] V (.string (bs (cu (s.leases.map lsH) (rdB (ls.getD 1 [])) (rdN (ls.getD 1 [])) true)))):=fun V hV=>j5 _ _ _ true _ V hbn.2.2 hbn.1 hbn.2.1 hL (h4.below hV).rd (by rw[List.length_map];have:=I.l;omega)
 have HAp:Hid (∀ V,Bl W V->Cr prog 182 #[.slice bp s.pools.length pc,.agg #[U3 (rdB (ls.getD 1 [])),I6 (rdN (ls.getD 1 []))]] V (I6 (ah s.pools (rdB (ls.getD 1 [])) (rdN (ls.getD 1 []))))):=fun V hV=>eO s.pools _ _ _ V hbn.2.2 hbn.1 hbn.2.1 (fun h hh=>(hP h hh).1) (h2.below hV).rd (by have:=I.p;omega)
 have HAn:Hid (∀ V,Bl W V->Cr prog 182 #[.slice bn s.nets.length nc,.agg #[U3 (rdB (ls.getD 1 [])),I6 (rdN (ls.getD 1 []))]] V (I6 (ah s.nets (rdB (ls.getD 1 [])) (rdN (ls.getD 1 []))))):=fun V hV=>eO s.nets _ _ _ V hbn.2.2 hbn.1 hbn.2.1 (fun h hh=>(hN h hh).1) (h3.below hV).rd (by have:=I.n;omega)
 have HX:∀ V,Bl W V->V.cell? (At r 0)=some (.slice bp s.pools.length pc)/\V.cell? (At r 1)=some (.slice bn s.nets.length nc)/\V.cell? (At r 2)=some (.slice bl (s.leases.map lsH).length lc)/\r<V.heap.size:=fun V hV=>⟨(h1.below hV).cell 0,(h1.below hV).cell 1,(h1.below hV).cell 2,(h1.below hV).lt⟩
 have HH:QH W r g (bs (ls.getD 0 [])) (bs (ls.getD 1 [])) ⟨bp,bn,bl,_,pc,_,nc,_,lc,_,_,_,_,_,_,_,_⟩:=⟨fun V hV=>⟨hV,cell V hV 0 om,gl V hV,HX V hV⟩,HR,HAp,HAn,HTp,HTn,HTl⟩
 have G:∀ {o:Option Bz},(Cr prog 134 #[Pq r,Sq g m cap] W (qO o))->qR s ls=o->Cr prog 134 #[Pq r,Sq g m cap] W (qO (qR s ls)):=fun q e=>by rw[e];exact q
 unfold qR at G ⊢
 rw[<- hmm] at G ⊢;have hr:=mh (ls.getD 0 [])
 generalize hv:vb (ls.getD 0 [])=v at G hr ⊢
 by_cases v8:v=8
 ·subst v8;have hP8:=b8 (j:=8) dE rfl hv
  by_cases m1:m=1
  ·subst m1;exact G (o:=some _) (A6 W r g cap _ _ _ HH hP8) (if_pos ⟨rfl,rfl⟩)
  ·by_cases m2:m=2
   ·subst m2;have HC2:∀ V,Bl W V->V.cell? (At g 1)=some (.string (bs (ls.getD 1 []))):=fun V hV=>cell V hV 1 om
    exact G (o:=none) (GF W r g cap _ _ _ HH HC2 hP8 (aF (j:=9) dE rfl om) (aF (j:=10) dE rfl om)) (by rw[if_neg om,if_pos om])
   ·exact G (o:=none) (Gy W r g cap _ _ _ HH m om hP8 om om) (by rw[if_neg om,if_pos om])
 ·have hP8:=aF (w:=ls.getD 0 []) (j:=8) dE rfl om
  by_cases m2:m=2
  ·subst m2;have HC2:∀ V,Bl W V->V.cell? (At g 1)=some (.string (bs (ls.getD 1 []))):=fun V hV=>cell V hV 1 om
   by_cases v9:v=9
   ·subst v9;have hN9:=b8 (j:=9) dE rfl hv
    rcases hre with he|he
    ·by_cases hk:ah s.pools (rdB (ls.getD 1 [])) (rdN (ls.getD 1 []))<0
     ·exact G (o:=some _) (GA W r g cap _ _ _ HH HC2 hP8 hN9 he hk) (by rw[if_neg om,if_neg om,if_neg om,if_pos rfl,if_pos hk])
     ·exact G (o:=some _) (GC W r g cap _ _ _ HH HC2 hP8 hN9 he hk) (by rw[if_neg om,if_neg om,if_neg om,if_pos rfl,if_neg hk];rfl)
    ·exact G (o:=none) (Gw W r g cap _ _ _ HH HC2 hP8 hN9 (fun q=>absurd (show rdE (ls.getD 1 [])=0 from q) om)) (by rw[if_neg om,if_neg om,if_pos om])
   ·have hN9:=aF (w:=ls.getD 0 []) (j:=9) dE rfl om
    by_cases v10:v=10
    ·subst v10;have hU:=b8 (j:=10) dE rfl hv
     rcases hre with he|he
     ·by_cases hk:ah s.nets (rdB (ls.getD 1 [])) (rdN (ls.getD 1 []))<0
      ·exact G (o:=some _) (GB W r g cap _ _ _ HH HC2 hP8 hN9 hU he hk) (by rw[if_neg om,if_neg om,if_neg om,if_neg om,if_pos hk])
      ·exact G (o:=some _) (GD W r g cap _ _ _ HH HC2 hP8 hN9 hU he hk) (by rw[if_neg om,if_neg om,if_neg om,if_neg om,if_neg hk];rfl)
     ·exact G (o:=none) (Gx W r g cap _ _ _ HH HC2 hP8 hN9 hU (fun q=>absurd (show rdE (ls.getD 1 [])=0 from q) om)) (by rw[if_neg om,if_neg om,if_pos om])
    ·exact G (o:=none) (GG W r g cap _ _ _ HH HC2 hP8 hN9 (aF (j:=10) dE rfl om)) (by rw[if_neg om,if_pos om])
  ·exact G (o:=none) (Gz W r g cap _ _ _ HH m om hP8 om) (by rw[if_neg om,if_pos om])
structure DL where
 (p0 p1 p2 p3 p4:Bz) (ai b n e nu:Int)
structure DH(W:World)(g m:Nat)(y:DL):Prop where
 q:∀ V,Bl W V->Hid (Bl W V)/\V.cell? (At g 0)=some (.string y.p0)/\V.cell? (At g 2)=some (.string y.p2)/\V.cell? (At g 3)=some (.string y.p3)/\g<V.heap.size
 q4:m=5->∀ V,Bl W V->V.cell? (At g 4)=some (.string y.p4)
 ra:∀ V,Cr prog 184 #[.string y.p3] V (I6 y.ai)
 rd:∀ V,Cr prog 181 #[.string y.p3] V (.tuple #[.agg #[U3 y.b,I6 y.n],I6 y.e])
 nm:∀ V,Cr prog 185 #[.string y.p4,I6 32] V (I6 y.nu)
theorem Dq(W:World)(r g cap:Nat)(y:DL)(t:Bz)(Rl:World->Prop)(h:DH W g 4 y)(HM:Hid (∀ V,Bl W V->Calls prog 186 #[Pq r,.string y.p2,.agg #[U3 y.b,I6 y.n]] V fun e w'=>e=.returned (.string t)/\Rl w'))(h0:(y.p0.toList==[80,79,79,76])=true):Calls prog 136 #[Pq r,Sq g 4 cap] W fun e w'=>e=.returned (.string t)/\Rl w':=by
 obtain⟨B0,c0,c2,c3,cz⟩:=h.q W (Below.refl _ _)
 go_enter func136,ntmps136
 go_wp2_with (go_at_call 181;refine Mo (h.rd _) fun w1 hb=>?_;obtain⟨B1,c0,c2,c3,cz⟩:=h.q w1 (bup (upH B0) hb);clear hb)
 go_region_with (go_at_call 186;refine Mo (HM.o _ (upH B1)) fun w9 h9=>?_;have HZ:Hid (Rl w9):=h9;clear h9)
 all_goals (
  go_wp2_with fail
  go_ret;exact⟨rfl,HZ.o⟩)
theorem Dr(W:World)(r g cap:Nat)(y:DL)(t:Bz)(Rl:World->Prop)(h:DH W g 4 y)(HM:Hid (∀ V,Bl W V->Calls prog 187 #[Pq r,.string y.p2,.agg #[U3 y.b,I6 y.n]] V fun e w'=>e=.returned (.string t)/\Rl w'))(h0:(y.p0.toList==[80,79,79,76])=false)(h1:(y.p0.toList==[68,82,79,80])=true):Calls prog 136 #[Pq r,Sq g 4 cap] W fun e w'=>e=.returned (.string t)/\Rl w':=by
 obtain⟨B0,c0,c2,c3,cz⟩:=h.q W (Below.refl _ _)
 go_enter func136,ntmps136
 go_wp2_with (go_at_call 181;refine Mo (h.rd _) fun w1 hb=>?_;obtain⟨B1,c0,c2,c3,cz⟩:=h.q w1 (bup (upH B0) hb);clear hb)
 go_region_with (go_at_call 187;refine Mo (HM.o _ (upH B1)) fun w9 h9=>?_;have HZ:Hid (Rl w9):=h9;clear h9)
 all_goals (
  go_wp2_with fail
  go_ret;exact⟨rfl,HZ.o⟩)
theorem Ds(W:World)(r g cap:Nat)(y:DL)(t:Bz)(Rl:World->Prop)(h:DH W g 5 y)(HM:Hid (∀ V,Bl W V->Calls prog 188 #[Pq r,.string y.p2,.agg #[U3 y.b,I6 y.n],I6 y.nu] V fun e w'=>e=.returned (.string t)/\Rl w'))(h0:(y.p0.toList==[80,79,79,76])=false)(h1:(y.p0.toList==[68,82,79,80])=false)(h2:(y.p0.toList==[78,69,84])=true):Calls prog 136 #[Pq r,Sq g 5 cap] W fun e w'=>e=.returned (.string t)/\Rl w':=by
 obtain⟨B0,c0,c2,c3,cz⟩:=h.q W (Below.refl _ _)
 have c4:=h.q4 rfl W (Below.refl _ _)
 go_enter func136,ntmps136
 go_wp2_with (first|(go_at_call 181;refine Mo (h.rd _) fun w1 hb=>?_;obtain⟨B1,c0,c2,c3,cz⟩:=h.q w1 (bup (upH B0) hb);have c4:=h.q4 rfl w1 B1.o;clear hb)|(go_at_call 185;refine Mo (h.nm _) fun w2 hb=>?_;obtain⟨B2,c0,c2,c3,cz⟩:=h.q w2 (bup (upH B1) hb);have c4:=h.q4 rfl w2 B2.o;have b0:w2.cell? (At w1.heap.size 0)=some (U3 y.b):=cN hb;have b1:w2.cell? (At w1.heap.size 1)=some (I6 y.n):=cN hb;clear hb))
 go_region_with (go_at_call 188;refine Mo (HM.o _ (upH B2)) fun w9 h9=>?_;have HZ:Hid (Rl w9):=h9;clear h9)
 all_goals (
  go_wp2_with fail
  go_ret;exact⟨rfl,HZ.o⟩)
theorem Dt(W:World)(r g cap:Nat)(y:DL)(t:Bz)(Rl:World->Prop)(h:DH W g 4 y)(HM:Hid (∀ V,Bl W V->Calls prog 189 #[Pq r,.string y.p2,.agg #[U3 y.b,I6 y.n]] V fun e w'=>e=.returned (.string t)/\Rl w'))(h0:(y.p0.toList==[80,79,79,76])=false)(h1:(y.p0.toList==[68,82,79,80])=false)(h2:(y.p0.toList==[78,69,84])=false)(h3:(y.p0.toList==[66,76,79,67,75])=true):Calls prog 136 #[Pq r,Sq g 4 cap] W fun e w'=>e=.returned (.string t)/\Rl w':=by
 obtain⟨B0,c0,c2,c3,cz⟩:=h.q W (Below.refl _ _)
 go_enter func136,ntmps136
 go_wp2_with (go_at_call 181;refine Mo (h.rd _) fun w1 hb=>?_;obtain⟨B1,c0,c2,c3,cz⟩:=h.q w1 (bup (upH B0) hb);clear hb)
 go_region_with (go_at_call 189;refine Mo (HM.o _ (upH B1)) fun w9 h9=>?_;have HZ:Hid (Rl w9):=h9;clear h9)
 all_goals (
  go_wp2_with fail
  go_ret;exact⟨rfl,HZ.o⟩)
theorem Du(W:World)(r g cap:Nat)(y:DL)(t:Bz)(Rl:World->Prop)(h:DH W g 4 y)(HM:Hid (∀ V,Bl W V->Calls prog 190 #[Pq r,.string y.p2,.agg #[U3 y.b,I6 y.n]] V fun e w'=>e=.returned (.string t)/\Rl w'))(h0:(y.p0.toList==[80,79,79,76])=false)(h1:(y.p0.toList==[68,82,79,80])=false)(h2:(y.p0.toList==[78,69,84])=false)(h3:(y.p0.toList==[66,76,79,67,75])=false)(h4:(y.p0.toList==[70,82,69,69])=true):Calls prog 136 #[Pq r,Sq g 4 cap] W fun e w'=>e=.returned (.string t)/\Rl w':=by
 obtain⟨B0,c0,c2,c3,cz⟩:=h.q W (Below.refl _ _)
 go_enter func136,ntmps136
 go_wp2_with (go_at_call 181;refine Mo (h.rd _) fun w1 hb=>?_;obtain⟨B1,c0,c2,c3,cz⟩:=h.q w1 (bup (upH B0) hb);clear hb)
 go_region_with (go_at_call 190;refine Mo (HM.o _ (upH B1)) fun w9 h9=>?_;have HZ:Hid (Rl w9):=h9;clear h9)
 all_goals (
  go_wp2_with fail
  go_ret;exact⟨rfl,HZ.o⟩)
theorem Dv(W:World)(r g cap:Nat)(y:DL)(t:Bz)(Rl:World->Prop)(h:DH W g 4 y)(HM:Hid (∀ V,Bl W V->Calls prog 191 #[Pq r,.string y.p2,.agg #[U3 y.b,I6 y.n]] V fun e w'=>e=.returned (.string t)/\Rl w'))(h0:(y.p0.toList==[80,79,79,76])=false)(h1:(y.p0.toList==[68,82,79,80])=false)(h2:(y.p0.toList==[78,69,84])=false)(h3:(y.p0.toList==[66,76,79,67,75])=false)(h4:(y.p0.toList==[70,82,69,69])=false)(h5:(y.p0.toList==[76,69,65,83,69])=true):Calls prog 136 #[Pq r,Sq g 4 cap] W fun e w'=>e=.returned (.string t)/\Rl w':=by
 obtain⟨B0,c0,c2,c3,cz⟩:=h.q W (Below.refl _ _)
 go_enter func136,ntmps136
 go_wp2_with (go_at_call 181;refine Mo (h.rd _) fun w1 hb=>?_;obtain⟨B1,c0,c2,c3,cz⟩:=h.q w1 (bup (upH B0) hb);clear hb)
 go_region_with (go_at_call 191;refine Mo (HM.o _ (upH B1)) fun w9 h9=>?_;have HZ:Hid (Rl w9):=h9;clear h9)
 all_goals (
  go_wp2_with fail
  go_ret;exact⟨rfl,HZ.o⟩)
theorem Dw(W:World)(r g cap:Nat)(y:DL)(t:Bz)(Rl:World->Prop)(h:DH W g 4 y)(HM:Hid (∀ V,Bl W V->Calls prog 192 #[Pq r,.string y.p2,I6 y.ai] V fun e w'=>e=.returned (.string t)/\Rl w'))(h0:(y.p0.toList==[80,79,79,76])=false)(h1:(y.p0.toList==[68,82,79,80])=false)(h2:(y.p0.toList==[78,69,84])=false)(h3:(y.p0.toList==[66,76,79,67,75])=false)(h4:(y.p0.toList==[70,82,69,69])=false)(h5:(y.p0.toList==[76,69,65,83,69])=false)(h6:(y.p0.toList==[84,65,75,69])=true):Calls prog 136 #[Pq r,Sq g 4 cap] W fun e w'=>e=.returned (.string t)/\Rl w':=by
 obtain⟨B0,c0,c2,c3,cz⟩:=h.q W (Below.refl _ _)
 go_enter func136,ntmps136
 go_wp2_with (first|(first|(go_at_call 181;refine Mo (h.rd _) fun w1 hb=>?_;obtain⟨B1,c0,c2,c3,cz⟩:=h.q w1 (bup (upH B0) hb);clear hb)|(go_at_call 184;refine Mo (h.ra _) fun w2 hb=>?_;obtain⟨B2,c0,c2,c3,cz⟩:=h.q w2 (bup (upH B1) hb);clear hb))|(go_at_call 192;refine Mo (HM.o _ (upH B2)) fun w9 h9=>?_;have HZ:Hid (Rl w9):=h9;clear h9))
 go_ret;exact⟨rfl,HZ.o⟩
theorem Dx(W:World)(r g cap:Nat)(y:DL)(t:Bz)(Rl:World->Prop)(h:DH W g 4 y)(HM:Hid (∀ V,Bl W V->Calls prog 193 #[Pq r,.string y.p2,I6 y.ai] V fun e w'=>e=.returned (.string t)/\Rl w'))(h0:(y.p0.toList==[80,79,79,76])=false)(h1:(y.p0.toList==[68,82,79,80])=false)(h2:(y.p0.toList==[78,69,84])=false)(h3:(y.p0.toList==[66,76,79,67,75])=false)(h4:(y.p0.toList==[70,82,69,69])=false)(h5:(y.p0.toList==[76,69,65,83,69])=false)(h6:(y.p0.toList==[84,65,75,69])=false):Calls prog 136 #[Pq r,Sq g 4 cap] W fun e w'=>e=.returned (.string t)/\Rl w':=by
 obtain⟨B0,c0,c2,c3,cz⟩:=h.q W (Below.refl _ _)
 go_enter func136,ntmps136
 go_wp2_with (first|(first|(go_at_call 181;refine Mo (h.rd _) fun w1 hb=>?_;obtain⟨B1,c0,c2,c3,cz⟩:=h.q w1 (bup (upH B0) hb);clear hb)|(go_at_call 184;refine Mo (h.ra _) fun w2 hb=>?_;obtain⟨B2,c0,c2,c3,cz⟩:=h.q w2 (bup (upH B1) hb);clear hb))|(go_at_call 193;refine Mo (HM.o _ (upH B2)) fun w9 h9=>?_;have HZ:Hid (Rl w9):=h9;clear h9))
 go_ret;exact⟨rfl,HZ.o⟩
theorem ft{S:Nat->Prop}{B r:Nat}{vt:Value}{W V w':World}{res:Bk×Bz}{e:Ending}(hb:Bl W V)(h:MR S B r vt V res e w'):e=.returned (.string res.2)/\RB S B r res.1 vt w'/\Chg (fun q=>q=r) W w' :=
 ⟨h.1,h.2.1,(Chg.below hb).trans h.2.2 (fun b e=>.inl e)⟩
theorem C8{s:Bk}{a n:Int}(G:a8 s)(hr:rt a n=true):∀ h,h∈s.nets->ah s.pools a n ≥ 0->mm h.a h.n a n=true->inn h.a h.n a n=true:=fun h hh hf hm=>by
 obtain⟨m1,m2,m3⟩:=eo (l:=s.pools) (a:=a) (n:=n) om
 obtain⟨p,hp,hi⟩:=G.ni h hh;have hrh:=(G.nr h hh).2.2.1
 have hrp:=(G.pr p hp).2.2
 obtain⟨i1,i2,i3⟩:=(ee hrh hrp).1 hi
 obtain⟨k1,k2⟩:=(df hrh hr).1 hm
 have hz:=aD h.n;rcases k9 G.pp hp m1 with e|e|e
 ·have e2:p.a=a:=by rw[e];exact m2
  have e3:p.n=n:=by rw[e];exact m3
  rw[e2,e3] at hi;exact hi
 ·rw[m2] at e;omega
 ·rw[m2,m3] at e;omega
theorem Db(w:Lu):cY w 32<=32:=by
 unfold cY
 cases h:num w 32 with
 | none=>show (-1:Int)<=32;decide
 | some k =>
  show (k:Int)<=32
  unfold num at h;have:=List.mem_of_find?_eq_some h
  rw[List.mem_range] at this;omega
theorem xW{w:Lu}(h:0<=bY w):ad (bY w):=by
 unfold bY at h ⊢
 cases q:dv w with
 | none=>rw[q] at h;simp at h
 | some k=>have:=gS q;exact⟨by show (0:Int)<=(k:Int);omega,by show (k:Int)<4294967296;omega⟩
theorem qL{w:Lu}(h:rdE w=0):ad (rdB w)/\rt (rdB w) (rdN w)=true:=by
 cases q:rd w with
 | none=>rw[(cW q).2.2] at h;cases h
 | some p =>
  obtain⟨e1,e2,_⟩:=gi (a:=p.1) (n:=p.2) q
  rw[e1,e2];exact⟨AI q,tC q⟩
theorem yD{ls:List (Lu)}(h:fj ls=true):(vb (ls.getD 0 [])=6\/vb (ls.getD 0 [])=7)/\ls.length=4/\0<=bY (ls.getD 3 [])\/vb (ls.getD 0 [])=2/\ls.length=5/\rdE (ls.getD 3 [])=0/\0<=cY (ls.getD 4 []) 32\/(0<=vb (ls.getD 0 [])/\vb (ls.getD 0 [])<=5/\vb (ls.getD 0 [])≠2)/\ls.length=4/\rdE (ls.getD 3 [])=0:=by
 unfold fj bZ at h;by_cases h1:vb (ls.getD 0 [])=6\/vb (ls.getD 0 [])=7
 ·rw[if_pos h1] at h;simp only[Bool.and_eq_true,decide_eq_true_eq] at h
  exact .inl ⟨h1,h.2.1,h.2.2⟩
 ·rw[if_neg h1] at h;by_cases h2:vb (ls.getD 0 [])=2
  ·rw[if_pos h2] at h;simp only[Bool.and_eq_true,decide_eq_true_eq] at h
   exact .inr (.inl ⟨h2,h.2.1.1,h.2.1.2,h.2.2⟩)
  ·rw[if_neg h2] at h;by_cases h3:0<=vb (ls.getD 0 [])/\vb (ls.getD 0 [])<=5
   ·rw[if_pos h3] at h;simp only[Bool.and_eq_true,decide_eq_true_eq] at h
    exact .inr (.inr ⟨⟨h3.1,h3.2,h2⟩,h.2.1,h.2.2⟩)
   ·rw[if_neg h3] at h;simp at h
theorem wU(S:Nat->Prop)(B:Nat)(W:World)(hB:B<=W.heap.size)(r:Nat)(s:Bk)(vt:Value)(g cap m:Nat)(ls:List (Lu))(h:RB S B r s vt W)(hw:Wd W g m ls)(hs:∀ i,(ls.getD i []).length<=100)(hc:fj ls=true)(I:Inv s)(G:a8 s):Calls prog 136 #[Pq r,Sq g m cap] W fun e w'=>e=.returned (.string (eZ s ls).2)/\RB S B r (eZ s ls).1 vt w'/\Chg (fun q=>q=r) W w':=by
 have hP:∀ h,h∈s.pools->cP h:=fun h hh=>⟨(I.pa h hh).1,by have:=(I.pa h hh).2.2;omega,by have:=(I.pa h hh).2.2;omega⟩
 have hN:∀ h,h∈s.nets->cP h:=fun h hh=>⟨(I.na h hh).1,by have:=(I.na h hh).2.2;omega,(aj.1 (I.na h hh).2.1).2.1⟩
 have hLa:∀ x,x∈s.leases->ad x.a:=fun x hx=>(I.la x hx).1
 have hL:=uE hLa;have lp:s.pools.length<=1000:=by have:=I.p;omega
 have ln:s.nets.length<=1000:=by have:=I.n;omega
 have ll:s.leases.length<=1000:=by have:=I.l;omega
 have lm:(s.leases.map lsH).length<=1000:=by rw[List.length_map];exact ll
 have hz:∀ i,(bs (ls.getD i [])).size<=2097152:=fun i=>by rw[aN];have:=hs i;omega
 have HA:Hid (∀ V,Cr prog 184 #[.string (bs (ls.getD 3 []))] V (I6 (bY (ls.getD 3 [])))):=fun V=>(gh _ V (hz 3)).mono (fun e w' q=>by rw[bN] at q;exact q)
 have HR:Hid (∀ V,Cr prog 181 #[.string (bs (ls.getD 3 []))] V (.tuple #[.agg #[U3 (rdB (ls.getD 3 [])),I6 (rdN (ls.getD 3 []))],I6 (rdE (ls.getD 3 []))])):=fun V=>(jY _ V (hz 3)).mono (fun e w' q=>by rw[bN] at q;exact q)
 have HN:Hid (∀ V,Cr prog 185 #[.string (bs (ls.getD 4 [])),I6 32] V (I6 (cY (ls.getD 4 []) 32))):=fun V=>(fy _ 32 V dE dE).mono (fun e w' q=>by rw[bN] at q;exact q)
 obtain⟨hm,hg,hcc⟩:=hw;have cell:∀ V,Bl W V->∀ i,i<m->V.cell? (At g i)=some (.string (bs (ls.getD i []))):=fun V hV i hi=>(hV.cell (p:=At g i) hg).trans (hcc i hi)
 have gl:∀ V,Bl W V->g<V.heap.size:=fun V hV=>Nat.lt_of_lt_of_le hg hV.size
 have hBV:∀ V,Bl W V->Hid (B<=V.heap.size):=fun V hV=>Nat.le_trans hB hV.size
 have HY:4<=m->DH W g m ⟨bs (ls.getD 0 []),bs (ls.getD 1 []),bs (ls.getD 2 []),bs (ls.getD 3 []),bs (ls.getD 4 []),_,_,_,_,_⟩:=fun h4=>⟨fun V hV=>⟨hV,cell V hV 0 om,cell V hV 2 om,cell V hV 3 om,gl V hV⟩,fun h5 V hV=>cell V hV 4 om,HA,HR,HN⟩
 have K:∀ {res:Bk×Bz},(Calls prog 136 #[Pq r,Sq g m cap] W fun e w'=>e=.returned (.string res.2)/\RB S B r res.1 vt w'/\Chg (fun q=>q=r) W w')->eZ s ls=res->Calls prog 136 #[Pq r,Sq g m cap] W fun e w'=>e=.returned (.string (eZ s ls).2)/\RB S B r (eZ s ls).1 vt w'/\Chg (fun q=>q=r) W w':=fun q e=>by rw[e];exact q
 unfold eZ at K ⊢
 generalize hv:vb (ls.getD 0 [])=v at K ⊢
 have hci:=yD hc;rw[hv,<- hm] at hci;have yes:∀ (j:Nat) (c:Lu),j<11->aY.getD j []=c->v=j->((bs (ls.getD 0 [])).toList==c)=true:=fun j c hj hc e=>b8 (j:=j) hj hc om
 have no:∀ (j:Nat) (c:Lu),j<11->aY.getD j []=c->v≠j->((bs (ls.getD 0 [])).toList==c)=false:=fun j c hj hc e=>aF (j:=j) hj hc om
 rcases hci with⟨h67,m4,hai⟩|⟨h2,m5,he,hnu⟩|⟨h05,m4,he⟩
 ·have hai':=xW hai;obtain rfl:m=4:=m4
  rcases h67 with rfl|rfl
  ·exact K (Dw W r g cap _ _ (fun w'=>RB S B r (jr s (bs (ls.getD 2 [])) (bY (ls.getD 3 []))).1 vt w'/\Chg (fun q=>q=r) W w') (HY om) (fun V hV=>(xo S B V (hBV V hV) r s vt _ _ hai' ll ln hN hLa (h.below hV)).mono fun e w' q=>ft hV q) (no 0 _ dE rfl dE) (no 1 _ dE rfl dE) (no 2 _ dE rfl dE) (no 3 _ dE rfl dE) (no 4 _ dE rfl dE) (no 5 _ dE rfl dE) (yes 6 _ dE rfl rfl)) rfl
  ·exact K (Dx W r g cap _ _ (fun w'=>RB S B r (jn s (bs (ls.getD 2 [])) (bY (ls.getD 3 []))).1 vt w'/\Chg (fun q=>q=r) W w') (HY om) (fun V hV=>(xd S B V (hBV V hV) r s vt _ _ hai' ll hLa (h.below hV)).mono fun e w' q=>ft hV q) (no 0 _ dE rfl dE) (no 1 _ dE rfl dE) (no 2 _ dE rfl dE) (no 3 _ dE rfl dE) (no 4 _ dE rfl dE) (no 5 _ dE rfl dE) (no 6 _ dE rfl dE)) rfl
 ·obtain⟨ha,hr⟩:=qL he;obtain rfl:m=5:=m5
  subst h2;exact K (Ds W r g cap _ _ (fun w'=>RB S B r (mo s (bs (ls.getD 2 [])) (rdB (ls.getD 3 [])) (rdN (ls.getD 3 [])) (cY (ls.getD 4 []) 32)).1 vt w'/\Chg (fun q=>q=r) W w') (HY om) (fun V hV=>(AW S B V (hBV V hV) r s vt _ _ _ _ ha hr hnu (Db _) lp ln hP (fun h hh=>⟨(I.na h hh).1,(I.na h hh).2.1⟩) (C8 G hr) (h.below hV)).mono fun e w' q=>ft hV q) (no 0 _ dE rfl dE) (no 1 _ dE rfl dE) (yes 2 _ dE rfl rfl)) rfl
 ·obtain⟨ha,hr⟩:=qL he;obtain⟨n0,n1,_⟩:=aj.1 hr;obtain rfl:m=4:=m4
  rcases (show v=0\/v=1\/v=3\/v=4\/v=5 by omega) with rfl|rfl|rfl|rfl|rfl
  ·exact K (Dq W r g cap _ _ (fun w'=>RB S B r (jq s (bs (ls.getD 2 [])) (rdB (ls.getD 3 [])) (rdN (ls.getD 3 []))).1 vt w'/\Chg (fun q=>q=r) W w') (HY om) (fun V hV=>(xj S B V (hBV V hV) r s vt _ _ _ ha n0 n1 lp hP (h.below hV)).mono fun e w' q=>ft hV q) (yes 0 _ dE rfl rfl)) rfl
  ·exact K (Dr W r g cap _ _ (fun w'=>RB S B r (iq s (bs (ls.getD 2 [])) (rdB (ls.getD 3 [])) (rdN (ls.getD 3 []))).1 vt w'/\Chg (fun q=>q=r) W w') (HY om) (fun V hV=>(wV S B V (hBV V hV) r s vt _ _ _ ha n0 n1 lp ln hP hN (h.below hV)).mono fun e w' q=>ft hV q) (no 0 _ dE rfl dE) (yes 1 _ dE rfl rfl)) rfl
  ·exact K (Dt W r g cap _ _ (fun w'=>RB S B r (gc s (bs (ls.getD 2 [])) (rdB (ls.getD 3 [])) (rdN (ls.getD 3 []))).1 vt w'/\Chg (fun q=>q=r) W w') (HY om) (fun V hV=>(tv S B V (hBV V hV) r s vt _ _ _ ha n0 n1 lp ln hP hN (h.below hV)).mono fun e w' q=>ft hV q) (no 0 _ dE rfl dE) (no 1 _ dE rfl dE) (no 2 _ dE rfl dE) (yes 3 _ dE rfl rfl)) rfl
  ·exact K (Du W r g cap _ _ (fun w'=>RB S B r (dy s (bs (ls.getD 2 [])) (rdB (ls.getD 3 [])) (rdN (ls.getD 3 []))).1 vt w'/\Chg (fun q=>q=r) W w') (HY om) (fun V hV=>(oK S B V (hBV V hV) r s vt _ _ _ ha n0 n1 ln lm hN hL (h.below hV)).mono fun e w' q=>ft hV q) (no 0 _ dE rfl dE) (no 1 _ dE rfl dE) (no 2 _ dE rfl dE) (no 3 _ dE rfl dE) (yes 4 _ dE rfl rfl)) rfl
  ·exact K (Dv W r g cap _ _ (fun w'=>RB S B r (gd s (bs (ls.getD 2 [])) (rdB (ls.getD 3 [])) (rdN (ls.getD 3 []))).1 vt w'/\Chg (fun q=>q=r) W w') (HY om) (fun V hV=>(tG S B V (hBV V hV) r s vt _ _ _ ha hr ll ln hN hLa (h.below hV)).mono fun e w' q=>ft hV q) (no 0 _ dE rfl dE) (no 1 _ dE rfl dE) (no 2 _ dE rfl dE) (no 3 _ dE rfl dE) (no 4 _ dE rfl dE) (yes 5 _ dE rfl rfl)) rfl
theorem AL(W:World)(r:Nat)(line:Bz)(hl:(100:Int)<(line.size:Int)):Cr prog 90 #[Pq r,.string line] W (.string ⟨#[69,82,82,32,76,73,78,69]⟩):=by
 go_enter func90,ntmps90
 go_wp2;go_ret;exact⟨rfl,upB⟩
theorem Gt(W:World)(r:Nat)(line:Bz)(ls:List (Lu))(qs:Bz)(qb:Bool)(hl:¬(100:Int)<(line.size:Int))(HP:Hid (∀ V,Calls prog 133 #[.string line,.int .u8 32] V fun e w'=>∃ g m cap,e=.returned (Sq g m cap)/\Hid (Wd w' g m ls)/\V.heap.size<=g/\Bl V w'))(HQ:Hid (∀ V g m cap,Bl W V->Hid (Wd V g m ls)->Cr prog 134 #[Pq r,Sq g m cap] V (.tuple #[.string qs,.bool qb])))(hq:qb=true):Cr prog 90 #[Pq r,.string line] W (.string qs):=by
 subst hq;go_enter func90,ntmps90
 go_wp2_with (first|(go_at_call 133;refine(HP.o _).mono ?_;rintro e w1 ⟨g,m,cap,rfl,hw1,hgW,hb⟩;have HGW:Hid (W.heap.size<=g):=(by first|exact hgW|(simp at hgW;omega));clear hgW;have HB1:Hid (Bl W w1):=(bup upB hb);clear hb)|(go_at_call 134;refine Mo (HQ.o _ g m cap (upH HB1) (by exact(show Hid (Wd _ g m ls) from Wd.below hw1.o upB))) fun w2 hb=>?_;have HB2:Hid (Bl W w2):=(bup (upH HB1) hb);have hw2:Hid (Wd w2 g m ls):=Wd.below hw1.o (by first|exact hb|exact bup upB hb);clear hb))
 go_ret;exact⟨rfl,(upH HB2)⟩
theorem Dm(W:World)(r:Nat)(line:Bz)(ls:List (Lu))(qs:Bz)(qb cb:Bool)(hl:¬(100:Int)<(line.size:Int))(HP:Hid (∀ V,Calls prog 133 #[.string line,.int .u8 32] V fun e w'=>∃ g m cap,e=.returned (Sq g m cap)/\Hid (Wd w' g m ls)/\V.heap.size<=g/\Bl V w'))(HQ:Hid (∀ V g m cap,Bl W V->Hid (Wd V g m ls)->Cr prog 134 #[Pq r,Sq g m cap] V (.tuple #[.string qs,.bool qb])))(HI:Hid (∀ V g m cap,Bl W V->Hid (Wd V g m ls)->Cr prog 135 #[Sq g m cap] V (.bool cb)))(hq:qb=false)(hc:cb=false):Cr prog 90 #[Pq r,.string line] W (.string ⟨#[69,82,82,32,76,73,78,69]⟩):=by
 subst hq;subst hc
 go_enter func90,ntmps90
 go_wp2_with (first|(go_at_call 133;refine(HP.o _).mono ?_;rintro e w1 ⟨g,m,cap,rfl,hw1,hgW,hb⟩;have HGW:Hid (W.heap.size<=g):=(by first|exact hgW|(simp at hgW;omega));clear hgW;have HB1:Hid (Bl W w1):=(bup upB hb);clear hb)|(go_at_call 134;refine Mo (HQ.o _ g m cap (upH HB1) (by exact(show Hid (Wd _ g m ls) from Wd.below hw1.o upB))) fun w2 hb=>?_;have HB2:Hid (Bl W w2):=(bup (upH HB1) hb);have hw2:Hid (Wd w2 g m ls):=Wd.below hw1.o (by first|exact hb|exact bup upB hb);clear hb)|(go_at_call 135;refine Mo (HI.o _ g m cap (upH HB2) (by exact(show Hid (Wd _ g m ls) from Wd.below hw2.o upB))) fun w3 hb=>?_;have HB3:Hid (Bl W w3):=(bup (upH HB2) hb);have hw3:Hid (Wd w3 g m ls):=Wd.below hw2.o (by first|exact hb|exact bup upB hb);clear hb))
 go_ret;exact⟨rfl,(upH HB3)⟩
structure XH(W:World)(r:Nat)(line:Bz)(ls:List (Lu))(qs:Bz):Prop where
 hl:¬(100:Int)<(line.size:Int)
 hp:Hid (∀ V,Calls prog 133 #[.string line,.int .u8 32] V fun e w'=>∃ g m cap,e=.returned (Sq g m cap)/\Hid (Wd w' g m ls)/\V.heap.size<=g/\Bl V w')
 hq:Hid (∀ V g m cap,Bl W V->Hid (Wd V g m ls)->Cr prog 134 #[Pq r,Sq g m cap] V (.tuple #[.string qs,.bool false]))
 hi:Hid (∀ V g m cap,Bl W V->Hid (Wd V g m ls)->Cr prog 135 #[Sq g m cap] V (.bool true))
structure XT(W:World)(r:Nat)(ls:List (Lu))(n:Nat)(vt:Value)(f:Nat->Tk)(p1:Bz):Prop where
 hn:n<=8
 h2:2<=ls.length
 e1:bs (ls.getD 1 [])=p1
 ht:Hid (∀ V,Bl W V->V.cell? (At r 3)=some vt/\r<V.heap.size)
 hs:∃ ao tc,vt=.slice ao n tc/\Hid (∀ k,k<n->∃ b off,ao=some (At b off)/\∀ V,Bl W V->V.cell? (At b (off+k*3))=some (.string (f k).t)/\V.cell? (At b (off+k*3+1))=some (.string (f k).l)/\V.cell? (At b (off+k*3+2))=some (.string (f k).r)/\b<V.heap.size)
theorem Dp(W:World)(r:Nat)(line:Bz)(ls:List (Lu))(qs:Bz)(n:Nat)(vt:Value)(f:Nat->Tk)(p1:Bz)(xh:XH W r line ls qs)(xt:XT W r ls n vt f p1)(k:Nat)(hk:k<n)(hno:Hid (∀ j,j<k->(f j).t≠p1))(hyes:Hid ((f k).t=p1))(res:Bz)(hres:Hid (res=if (f k).l=line then (f k).r else ⟨#[69,82,82,32,84,79,75,69,78]⟩)):Cr prog 90 #[Pq r,.string line] W (.string res):=by
 obtain⟨hl,HP,HQ,HI⟩:=xh;obtain⟨hn,h2,e1,HT,ao,tc,rfl,HS⟩:=xt;go_enter func90,ntmps90
 go_wp2_with (first|(go_at_call 133;refine(HP.o _).mono ?_;rintro e w1 ⟨g,m,cap,rfl,hw1,hgW,hb⟩;have HGW:Hid (W.heap.size<=g):=(by first|exact hgW|(simp at hgW;omega));clear hgW;have HB1:Hid (Bl W w1):=(bup upB hb);clear hb)|(go_at_call 134;refine Mo (HQ.o _ g m cap (upH HB1) (by exact(show Hid (Wd _ g m ls) from Wd.below hw1.o upB))) fun w2 hb=>?_;have HB2:Hid (Bl W w2):=(bup (upH HB1) hb);have hw2:Hid (Wd w2 g m ls):=Wd.below hw1.o (by first|exact hb|exact bup upB hb);clear hb)|(go_at_call 135;refine Mo (HI.o _ g m cap (upH HB2) (by exact(show Hid (Wd _ g m ls) from Wd.below hw2.o upB))) fun w3 hb=>?_;have HB3:Hid (Bl W w3):=(bup (upH HB2) hb);have hw3:Hid (Wd w3 g m ls):=Wd.below hw2.o (by first|exact hb|exact bup upB hb);clear hb))
 obtain⟨x3,xr⟩:=HT.o w3 HB3.o;have c1:w3.cell? (At g 1)=some (.string p1):=by rw[<- e1];exact hw3.o.2.2 1 (by rw[hw3.o.1];omega)
 go_loopw [9] (fun i wr=>∃ j:Nat,j<=k/\i=I6 j/\Hid (Bl W wr)/\Hid (Wd wr g m ls)) (fun i _=>n-(intOf i).toNat)
 case atStart=>exact⟨0,by omega,by go_num,(upH HB3),(show Wd _ g m ls from Wd.below hw3.o upB)⟩
 case round =>
  obtain⟨j,hj,rfl,HB,HW⟩:=hrel;clear x3 xr c1 hw1 hw2 hw3 HB1 HB2 HB3;obtain⟨x3,xr⟩:=HT.o wr HB.o;have c1:wr.cell? (At g 1)=some (.string p1):=by rw[<- e1];exact HW.o.2.2 1 (by rw[HW.o.1];omega)
  have m2:(1:Int)<(m:Int):=by have:=HW.o.1;omega
  have gz:g<wr.heap.size:=HW.o.2.1
  have hjn:(j:Int)<(n:Int):=by omega
  obtain⟨b,off,rfl,hbc⟩:=HS.o j om;obtain⟨t0,t1,t2,tb⟩:=hbc wr HB.o;by_cases hjk:j<k
  ·have q1:((f j).t.toList==p1.toList)=false:=(Lib.bytes_beq_false_iff _ _).2 (hno.o j hjk)
   generalize f j=y at t0 t1 t2 q1
   clear HP HQ HI HT hbc HS hno hyes hres e1 h2;go_wp2_with fail
   go_quiet (fail)
   go_wp2_with fail
   go_quiet (fail)
   go_wp2_with fail
   go_roundw
   case rel=>exact⟨j+1,by omega,by go_num,(show Bl W _ from (upH HB)),(show Wd _ g m ls from Wd.below HW.o upB)⟩
   case measure=>simp[intOf];omega
  ·obtain rfl:j=k:=by omega
   have q1:((f j).t.toList==p1.toList)=true:=(Lib.bytes_beq_iff _ _).2 hyes.o
   by_cases ql:(f j).l=line
   ·have q2:((f j).l.toList==line.toList)=true:=(Lib.bytes_beq_iff _ _).2 ql
    have HE:Hid (res=(f j).r):=hres.o.trans (if_pos ql)
    generalize f j=y at t0 t1 t2 q1 q2 HE
    clear HP HQ HI HT hbc HS hno hyes hres e1 h2 ql;go_wp2_with fail
    go_quiet (fail)
    go_wp2_with fail
    go_ret;exact⟨by rw[HE.o];rfl,(upH HB)⟩
   ·have q2:((f j).l.toList==line.toList)=false:=(Lib.bytes_beq_false_iff _ _).2 ql
    have HE:Hid (res=⟨#[69,82,82,32,84,79,75,69,78]⟩):=hres.o.trans (if_neg ql)
    generalize f j=y at t0 t1 t2 q1 q2 HE
    clear HP HQ HI HT hbc HS hno hyes hres e1 h2 ql;go_wp2_with fail
    go_quiet (fail)
    go_wp2_with fail
    go_quiet (fail)
    go_wp2_with fail
    go_ret;exact⟨by rw[HE.o];rfl,(upH HB)⟩
theorem CO:(prog.info? 216).map (fun i=>(i.zero,i.size,i.bytes))=some (some (.agg #[.string ByteArray.empty,.string ByteArray.empty,.string ByteArray.empty]),3,48):=by kernel_rfl
def OkT(Dn:World->Prop)(r b n:Nat)(vt:Value)(l:List Tk)(y:Tk)(w':World):Prop:=∃ w9 V9 b' off' cap' wA,Dn w9/\Bl w9 V9/\TR wA (.slice (some (At b' off')) (n+1) cap') b' (l++[y])/\(b'=b\/V9.heap.size<=b')/\Chg (fun q=>q=b/\vt≠.slice none 0 0) V9 wA/\Below (wA.setCell (At r 3) (.slice (some (At b' off')) (n+1) cap')).heap.size (wA.setCell (At r 3) (.slice (some (At b' off')) (n+1) cap')) w'
def OkU(Dn:World->Prop)(r b n:Nat)(vt:Value)(l:List Tk)(y:Tk)(w':World):Prop:=∃ w9 V9 b' off' cap' wA,Dn w9/\Bl w9 V9/\TR wA (.slice (some (At b' off')) (n+1) cap') b' (l++[y])/\(b'=b\/V9.heap.size<=b')/\Chg (fun q=>q=b/\vt≠.slice none 0 0) V9 wA/\Below ((wA.setCell (At r 3) (.slice (some (At b' off')) (n+1) cap')).setCell (At r 3) (.slice (some (At b' (off'+3))) n (cap'-1))).heap.size ((wA.setCell (At r 3) (.slice (some (At b' off')) (n+1) cap')).setCell (At r 3) (.slice (some (At b' (off'+3))) n (cap'-1))) w'
def GL(Dn:World->Prop)(r b n:Nat)(vt:Value)(l:List Tk)(y:Tk):Bool->World->Prop
 | false,w'=>∃ w9,Dn w9/\Bl w9 w'
 | true,w'=>n<8/\OkT Dn r b n vt l y w'\/n=8/\OkU Dn r b n vt l y w'
theorem uN(W:World)(r:Nat)(line:Bz)(ls:List (Lu))(qs:Bz)(n:Nat)(vt:Value)(f:Nat->Tk)(p1:Bz)(xh:XH W r line ls qs)(xt:XT W r ls n vt f p1)(hno:Hid (∀ j,j<n->(f j).t≠p1))(t:Bz)(Dn:World->Prop)(HD:Hid (∀ V g m cap,Bl W V->Hid (Wd V g m ls)->Calls prog 136 #[Pq r,Sq g m cap] V fun e w'=>e=.returned (.string t)/\Hid (Dn w')/\Chg (fun q=>q=r) V w'))(b:Nat)(l:List Tk)(hll:l.length=n)(hr0:Hid (r<W.heap.size))(hbr:Hid (b≠r))(HN9:Hid (∀ V,Dn V->V.cell? (At r 3)=some vt/\V.frozen? (At r 3)=false/\r<V.heap.size/\TR V vt b l))(ht2:2<=t.size)(ok:Bool)(hok:((t.extract 0 2).toList==[79,75])=ok):Calls prog 90 #[Pq r,.string line] W fun e w'=>e=.returned (.string t)/\GL Dn r b n vt l ⟨p1,line,t⟩ ok w':=by
 obtain⟨hl,HP,HQ,HI⟩:=xh;obtain⟨hn,h2,e1,HT,ao,tc,rfl,HS⟩:=xt;go_enter func90,ntmps90
 go_wp2_with (first|(go_at_call 133;refine(HP.o _).mono ?_;rintro e w1 ⟨g,m,cap,rfl,hw1,hgW,hb⟩;have HGW:Hid (W.heap.size<=g):=(by first|exact hgW|(simp at hgW;omega));clear hgW;have HB1:Hid (Bl W w1):=(bup upB hb);clear hb)|(go_at_call 134;refine Mo (HQ.o _ g m cap (upH HB1) (by exact(show Hid (Wd _ g m ls) from Wd.below hw1.o upB))) fun w2 hb=>?_;have HB2:Hid (Bl W w2):=(bup (upH HB1) hb);have hw2:Hid (Wd w2 g m ls):=Wd.below hw1.o (by first|exact hb|exact bup upB hb);clear hb)|(go_at_call 135;refine Mo (HI.o _ g m cap (upH HB2) (by exact(show Hid (Wd _ g m ls) from Wd.below hw2.o upB))) fun w3 hb=>?_;have HB3:Hid (Bl W w3):=(bup (upH HB2) hb);have hw3:Hid (Wd w3 g m ls):=Wd.below hw2.o (by first|exact hb|exact bup upB hb);clear hb))
 obtain⟨x3,xr⟩:=HT.o w3 HB3.o;have c1:w3.cell? (At g 1)=some (.string p1):=by rw[<- e1];exact hw3.o.2.2 1 (by rw[hw3.o.1];omega)
 go_loopw [9] (fun i wr=>∃ j:Nat,j<=n/\i=I6 j/\Hid (Bl W wr)/\Hid (Wd wr g m ls)) (fun i _=>n-(intOf i).toNat)
 case atStart=>exact⟨0,by omega,by go_num,(show Bl W _ from (upH HB3)),(show Wd _ g m ls from Wd.below hw3.o upB)⟩
 case round =>
  obtain⟨j,hj,rfl,HB,HW⟩:=hrel;clear x3 xr c1 hw1 hw2 hw3 HB1 HB2 HB3;obtain⟨x3,xr⟩:=HT.o wr HB.o;have c1:wr.cell? (At g 1)=some (.string p1):=by rw[<- e1];exact HW.o.2.2 1 (by rw[HW.o.1];omega)
  have m2:(1:Int)<(m:Int):=by have:=HW.o.1;omega
  have gz:g<wr.heap.size:=HW.o.2.1
  by_cases hjk:j<n
  ·have hjn:(j:Int)<(n:Int):=by omega
   obtain⟨b,off,rfl,hbc⟩:=HS.o j om;obtain⟨t0,t1,t2,tb⟩:=hbc wr HB.o;have q1:((f j).t.toList==p1.toList)=false:=(Lib.bytes_beq_false_iff _ _).2 (hno.o j hjk)
   generalize f j=y at t0 t1 t2 q1
   clear HP HQ HI HT hbc HS hno e1 h2 HD HN9;go_wp2_with fail
   go_quiet (fail)
   go_wp2_with fail
   go_quiet (fail)
   go_wp2_with fail
   go_roundw
   case rel=>exact⟨j+1,by omega,by go_num,(show Bl W _ from (upH HB)),(show Wd _ g m ls from Wd.below HW.o upB)⟩
   case measure=>simp[intOf];omega
  ·obtain rfl:j=n:=by omega
   clear HP HQ HI HS hno hjk
   cases ok with
   | false =>
    clear HN9;go_wp2_with (go_at_call 136;refine(HD.o _ g m cap (upH HB) (by exact(show Hid (Wd _ g m ls) from Wd.below HW.o upB))).mono ?_;rintro e w9 ⟨rfl,hd9,hch⟩;have HCH:Hid (Chg (fun q=>q=r) _ w9):=hch;clear hch)
    go_ret;exact⟨rfl,w9,hd9.o,upB⟩
   | true =>
    go_wp2_with (go_at_call 136;refine(HD.o _ g m cap (upH HB) (by exact(show Hid (Wd _ g m ls) from Wd.below HW.o upB))).mono ?_;rintro e w9 ⟨rfl,hd9,hch⟩;have HCH:Hid (Chg (fun q=>q=r) _ w9):=hch;obtain⟨y3,yf,yr,hTR⟩:=HN9.o w9 hd9.o;have HTR:Hid (TR w9 _ b l):=hTR;clear hTR;have gz9:g<w9.heap.size:=Nat.lt_of_lt_of_le (by first|exact gz|simpa using gz) hch.size;have c9:w9.cell? (At g 1)=some (.string p1):=(World.cell?_of_block (a:=At g 1) (hch.block g (by first|exact gz|simpa using gz) (by have z1:=HGW.o;have z2:=hr0.o;omega))).trans (by first|exact c1|simpa[go_sem] using c1);clear hch)
    obtain⟨i0,hi,hz0,hz1,hz2⟩:=info_parts CO;go_region_law (refine kJ _ rfl _ _ 172 rfl i0 _ 48 underlying172 hi hz0 hz1 hz2 rfl (.slice ao j tc) b l (by first|rfl|simp) (HTR.o.below upB) (At w9.heap.size 0) 1 ⟨p1,line,t⟩ (by first|rfl|simp) (World.news_of_block (cs:=#[.string p1,.string line,.string t]) (t:=216) (fr:=(0,0)) (heap_alloc_new w9 _)) (by unfold maxLen;omega) om ?_;intro b' off' cap' wA hT hb' hchA;have HTA:Hid (TR wA (.slice (some (At b' off')) (l.length+1) cap') b' (l++[⟨p1,line,t⟩])):=hT;have HBA:Hid (∃ V9,Bl w9 V9/\(b'=b\/V9.heap.size<=b')/\Chg (fun q=>q=b/\(Value.slice ao j tc)≠.slice none 0 0) V9 wA):=⟨_,upB,hb',hchA⟩;have hA:wA.heap[r]?=w9.heap[r]?:=(hchA.block r (by simp;omega) (fun q=>hbr.o q.1.symm)).trans (by first|(simp[go_sem];done)|exact Below.heap_alloc w9 _ r yr);have yA3:wA.cell? (At r 3)=some (.slice ao j tc):=(World.cell?_of_block (a:=At r 3) hA).trans y3;have fA:wA.frozen? (At r 3)=false:=(World.frozen?_of_block (a:=At r 3) hA).trans yf;have rA:r<wA.heap.size:=block_lt_of_cell yA3;rw[hll] at HTA;clear hT hb' hchA hA)
    all_goals (
    rcases (show Hid (j<8)\/Hid (j=8) from (by rcases Nat.lt_or_ge j 8 with q|q;exact .inl q;exact .inr (show j=8 by omega))) with hn8|hn8
    ·have hn8i:¬(8:Int)<(j:Int)+1:=by have z:=hn8.o;omega
     go_wp2;go_ret;obtain⟨V9,z1,z2,z3⟩:=HBA.o;exact⟨rfl,.inl ⟨by first|assumption|exact hn8.o,by unfold OkT;exact⟨w9,V9,b',off',cap',wA,hd9.o,z1,HTA.o,z2,z3,(by first|exact Below.refl _ _|exact upB)⟩⟩⟩
    ·have hn8i:(8:Int)<(j:Int)+1:=by have z:=hn8.o;omega
     have hcap:j+1<=cap':=(TR.cap HTA.o)
     go_wp2;go_ret;obtain⟨V9,z1,z2,z3⟩:=HBA.o;exact⟨rfl,.inr ⟨by first|assumption|exact hn8.o,by unfold OkU;exact⟨w9,V9,b',off',cap',wA,hd9.o,z1,HTA.o,z2,z3,(by first|exact Below.refl _ _|exact upB)⟩⟩⟩)
end
section
open Go.RowKit
theorem km(t:Bz):∀ (l:List Tk),(cX l t=none/\∀ j,j<l.length->(l.getD j tk0).t≠t)\/∃ k,k<l.length/\cX l t=some (l.getD k tk0)/\(l.getD k tk0).t=t/\∀ j,j<k->(l.getD j tk0).t≠t
 | []=>.inl ⟨rfl,fun j hj=>by simp at hj⟩
 | x::r=>by
  by_cases h:x.t=t
  ·refine .inr ⟨0,by simp,?_,h,fun j hj=>by omega⟩
   unfold cX;rw[List.filter_cons,if_pos (by simpa using h)]
   rfl
  ·have e:cX (x::r) t=cX r t:=by
    unfold cX;rw[List.filter_cons,if_neg (by simpa using h)]
   rw[e];rcases km t r with⟨h1,h2⟩|⟨k,h1,h2,h3,h4⟩
   ·refine .inl ⟨h1,fun j hj=>?_⟩
    cases j with
    | zero=>exact h
    | succ j=>exact h2 j (by simpa using hj)
   ·refine .inr ⟨k+1,by simpa using h1,h2,h3,fun j hj=>?_⟩
    cases j with
    | zero=>exact h
    | succ j=>exact h4 j om
theorem Ad(s:Bk)(o:Bz)(g:Int)(x:Option (Int×Int)):(jo s o g x).1.toks=s.toks:=by
 cases x with
 | none=>rfl
 | some b=>unfold jo;dsimp only;split<;>rfl
theorem sQ(s:Bk)(o:Bz)(x:Option Int):(eN s o x).1.toks=s.toks:=by
 cases x with
 | none=>rfl
 | some b=>unfold eN;dsimp only;split<;>rfl
theorem sg(s:Bk)(v:Int)(o:Bz)(a n g d:Int):(ck s v o a n g d).1.toks=s.toks:=by
 unfold ck;by_cases h0:v=0
 ·rw[if_pos h0];unfold jq;repeat' split
  all_goals rfl
 rw[if_neg h0];by_cases h1:v=1
 ·rw[if_pos h1];unfold iq;repeat' split
  all_goals rfl
 rw[if_neg h1];by_cases h2:v=2
 ·rw[if_pos h2];unfold mo
  split
  ·rfl
  ·split
   ·rfl
   ·exact Ad _ _ _ _
 rw[if_neg h2];by_cases h3:v=3
 ·rw[if_pos h3];unfold gc;repeat' split
  all_goals rfl
 rw[if_neg h3];by_cases h4:v=4
 ·rw[if_pos h4];unfold dy;repeat' split
  all_goals rfl
 rw[if_neg h4];by_cases h5:v=5
 ·rw[if_pos h5];unfold gd
  split
  ·rfl
  ·exact sQ _ _ _
 rw[if_neg h5];by_cases h6:v=6
 ·rw[if_pos h6];unfold jr;repeat' split
  all_goals rfl
 rw[if_neg h6];unfold jn;repeat' split
 all_goals rfl
theorem vD(s:Bk)(v:Int)(o:Bz)(a n g d:Int):2<=(ck s v o a n g d).2.size:=by
 have hc:∀ t:Bz,2<=((⟨#[79,75,32]⟩:Bz)++t).size:=fun t=>by rw[ByteArray.size_append];have:(⟨#[79,75,32]⟩:Bz).size=3:=rfl;omega
 have hn:∀ x,2<=(jo s o g x).2.size:=fun x=>by
  cases x with
  | none=>exact(by decide:2<=(⟨#[69,82,82,32,70,85,76,76]⟩:Bz).size)
  | some b=>unfold jo;dsimp only;split;exact(by decide:2<=(⟨#[69,82,82,32,76,73,77,73,84]⟩:Bz).size);exact hc _
 have hl:∀ x,2<=(eN s o x).2.size:=fun x=>by
  cases x with
  | none=>exact(by decide:2<=(⟨#[69,82,82,32,70,85,76,76]⟩:Bz).size)
  | some b=>unfold eN;dsimp only;split;exact(by decide:2<=(⟨#[69,82,82,32,76,73,77,73,84]⟩:Bz).size);exact hc _
 unfold ck;by_cases h0:v=0
 ·rw[if_pos h0];unfold jq;repeat' split
  all_goals (dsimp only;decide)
 rw[if_neg h0];by_cases h1:v=1
 ·rw[if_pos h1];unfold iq;repeat' split
  all_goals (dsimp only;decide)
 rw[if_neg h1];by_cases h2:v=2
 ·rw[if_pos h2];unfold mo
  split
  ·exact(by decide:2<=(⟨#[69,82,82,32,80,79,79,76]⟩:Bz).size)
  ·split
   ·exact(by decide:2<=(⟨#[69,82,82,32,82,65,78,71,69]⟩:Bz).size)
   ·exact hn _
 rw[if_neg h2];by_cases h3:v=3
 ·rw[if_pos h3];unfold gc;repeat' split
  all_goals (dsimp only;decide)
 rw[if_neg h3];by_cases h4:v=4
 ·rw[if_pos h4];unfold dy;repeat' split
  all_goals (dsimp only;decide)
 rw[if_neg h4];by_cases h5:v=5
 ·rw[if_pos h5];unfold gd
  split
  ·exact(by decide:2<=(⟨#[69,82,82,32,78,69,84]⟩:Bz).size)
  ·exact hl _
 rw[if_neg h5];by_cases h6:v=6
 ·rw[if_pos h6];unfold jr;repeat' split
  all_goals (dsimp only;decide)
 rw[if_neg h6];unfold jn;repeat' split
 all_goals (dsimp only;decide)
theorem ie{h:Hd}:∀ {l:List Hd},l.Pairwise (fun x y=>x.a<=y.a)->(∀ x,x∈l->x.a≠h.a)->aW l h=cm l h
 | [],_,_=>rfl
 | x::r,hs,hne=>by
  obtain⟨h1,h2⟩:=List.pairwise_cons.1 hs;have hx:=hne x sM
  unfold aW;by_cases q:h.a<x.a
  ·rw[if_pos q];have:fk (x::r) h.a=0:=by
    unfold fk;rw[List.countP_eq_zero];intro y hy;rcases List.mem_cons.1 hy with rfl|hy
    ·simp;omega
    ·have:=h1 y hy;simp;omega
   unfold cm;rw[this];rfl
  ·rw[if_neg q,ie h2 (fun y hy=>hne y (by simp[hy]))]
   have:fk (x::r) h.a=fk r h.a+1:=by
    unfold fk;rw[List.countP_cons,if_pos (by simp;omega)]
   unfold cm;rw[this];rfl
theorem ke{h:Ls}:∀ {l:List Ls},l.Pairwise (fun x y=>x.a<y.a)->(∀ x,x∈l->x.a≠h.a)->dY l h=dR l h
 | [],_,_=>rfl
 | x::r,hs,hne=>by
  obtain⟨h1,h2⟩:=List.pairwise_cons.1 hs;have hx:=hne x sM
  unfold dY;by_cases q:h.a<x.a
  ·rw[if_pos q];have:bO (x::r) h.a=0:=by
    unfold bO;rw[List.countP_eq_zero];intro y hy;rcases List.mem_cons.1 hy with rfl|hy
    ·simp;omega
    ·have:=h1 y hy;simp;omega
   unfold dR;rw[this];rfl
  ·rw[if_neg q,ke h2 (fun y hy=>hne y (by simp[hy]))]
   have:bO (x::r) h.a=bO r h.a+1:=by
    unfold bO;rw[List.countP_cons,if_pos (by simp;omega)]
   unfold dR;rw[this];rfl
theorem pN{α:Type}{p q:α->Bool}:∀ {l:List α},(∀ x,x∈l->p x=q x)->fi p l=fi q l
 | [],_=>rfl
 | x::r,h=>by
  have h0:=h x sM
  have h1:=pN (l:=r) (fun y hy=>h y (by simp[hy]))
  unfold fi;rw[h0,h1]
theorem k8{l:List Hd}{a n:Int}(hl:∀ h,h∈l->rt h.a h.n=true)(hr:rt a n=true)(h:aU l a n=false):∀ x,x∈l->x.a≠a:=fun x hx e=>by
 have:mm x.a x.n a n=false:=by
  cases q:mm x.a x.n a n with
  | false=>rfl
  | true=>rw[dj.2 ⟨x,hx,q⟩] at h;cases h
 rcases (nk (hl x hx) hr).1 this with q|q
 ·have:=aD n;omega
 ·have:=aD x.n;omega
theorem kr{l:List Hd}{a n:Int}(hl:∀ h,h∈l->rt h.a h.n=true)(hr:rt a n=true):0<dq l a n ↔ af l a n≠[]:=by
 unfold dq rY af;rw[List.take_length,List.countP_pos_iff];constructor
 ·rintro⟨x,hx,q⟩ e
  have:x∈l.filter fun h=>inn h.a h.n a n:=List.mem_filter.2 ⟨hx,by rw[<- fd (hl x hx) hr];exact q⟩
  rw[e] at this
  cases this
 ·intro h;obtain⟨x,hx⟩:=List.exists_mem_of_ne_nil _ h;obtain⟨h1,h2⟩:=List.mem_filter.1 hx;exact⟨x,h1,by rw[fd (hl x h1) hr];exact h2⟩
theorem ip{l:List Ls}{a n:Int}(hr:rt a n=true):0<dq (l.map lsH) a n ↔ aw l a n≠[]:=by
 unfold dq rY aw;rw[List.take_length,List.countP_pos_iff];constructor
 ·rintro⟨x,hx,q⟩ e
  obtain⟨y,hy,rfl⟩:=List.mem_map.1 hx;have:y∈l.filter fun h=>inn h.a 32 a n:=List.mem_filter.2 ⟨hy,by rw[<- fd jZ hr];exact q⟩
  rw[e] at this
  cases this
 ·intro h;obtain⟨x,hx⟩:=List.exists_mem_of_ne_nil _ h;obtain⟨h1,h2⟩:=List.mem_filter.1 hx;exact⟨lsH x,List.mem_map.2 ⟨x,h1,rfl⟩,by show ri x.a 32 a n=true;rw[fd jZ hr];exact h2⟩
theorem kh{l:List Hd}{a n:Int}(hl:∀ h,h∈l->rt h.a h.n=true)(hr:rt a n=true):dA l a n=aR l a n:=pN fun x hx=>fd hr (hl x hx)
theorem tT{b n x:Int}:usR b n x=true ↔ dh b n<=x/\x<=dr b n:=by
 unfold usR dh dr;by_cases h:n<=30
 ·rw[if_pos h,if_pos h];by_cases q:x=b\/x=lst b n
  ·rw[if_pos ⟨h,q⟩];simp;omega
  ·rw[if_neg (fun z=>q z.2)];simp;omega
 ·rw[if_neg h,if_neg h,if_neg (fun z=>h z.1)];simp
theorem zT{x:Ls}{a:Int}:isH a 32 (lsH x)=true ↔ x.a=a:=by
 unfold isH lsH;rw[Bool.and_eq_true,decide_eq_true_eq,decide_eq_true_eq];exact⟨fun h=>h.1,fun h=>⟨h,rfl⟩⟩
theorem sZ{α β:Type}(f:α->β)(d:α)(l:List α)(k:Nat)(h:k<l.length)(e:β):(l.map f).getD k e=f (l.getD k d):=by
 simp[List.getD_eq_getElem?_getD,List.getElem?_map,List.getElem?_eq_getElem h]
theorem iE{l:List Ls}(hp:l.Pairwise fun x y=>x.a<y.a)(a:Int):dQ l a=if dp l a then (bO l a:Int) else -1:=by
 cases h:dp l a with
 | true =>
  rw[if_pos rfl];have h0:=h;unfold dp at h;simp only[Bool.and_eq_true,decide_eq_true_eq] at h
  have hk:bO l a<(l.map lsH).length:=by simpa using h.1
  refine iD _ _ hd0 (bO l a) hk (fun j hj=>?_) ?_
  ·rw[sZ lsH ls0 l j om];have hc:=(oa Ls.a a l (FB hp)).1 (l.getD j ls0) (by
    rw[List.mem_iff_getElem?];refine⟨j,?_⟩
    rw[List.getElem?_take,if_pos (by exact hj)]
    simp[List.getD_eq_getElem?_getD,List.getElem?_eq_getElem (show j<l.length by omega)])
   cases q:isH a 32 (lsH (l.getD j ls0)) with
   | false=>rfl
   | true=>have:=zT.1 q;omega
  ·rw[sZ lsH ls0 l _ h.1];exact zT.2 h.2
 | false =>
  rw[if_neg sM]
  refine gY _ _ fun x hx=>?_
  obtain⟨y,hy,rfl⟩:=List.mem_map.1 hx
  cases q:isH a 32 (lsH y) with
  | false=>rfl
  | true=>rw[(gF hp a).2 ⟨y,hy,zT.1 q⟩] at h;cases h
theorem gE(p:Int->Bool):∀ (k:Nat) (x y:Int),de p k x=some y ↔ x<=y/\y<x+k/\p y=true/\∀ z,x<=z->z<y->p z=false
 | 0,x,y=>by
  unfold de;constructor
  ·intro h;cases h
  ·intro h;omega
 | k+1,x,y=>by
  unfold de
  cases hx:p x with
  | true =>
   rw[if_pos rfl];constructor
   ·intro h;cases h;exact⟨by omega,by omega,hx,fun z h1 h2=>by omega⟩
   ·rintro⟨h1,h2,h3,h4⟩
    rcases Int.lt_or_le x y with q|q
    ·have:=h4 x om q;rw[hx] at this;cases this
    ·have:x=y:=by omega
     rw[this]
  | false =>
   rw[if_neg sM,gE p k (x+1) y]
   constructor
   ·rintro⟨h1,h2,h3,h4⟩
    refine⟨by omega,by omega,h3,fun z z1 z2=>?_⟩
    rcases Int.lt_or_le x z with q|q
    ·exact h4 z om z2
    ·have:z=x:=by omega
     rw[this];exact hx
   ·rintro⟨h1,h2,h3,h4⟩
    have:x≠y:=fun e=>by rw[e,h3] at hx;cases hx
    exact⟨by omega,by omega,h3,fun z z1 z2=>h4 z om z2⟩
theorem pP(p:Int->Bool):∀ (k:Nat) (x:Int),(∀ z,x<=z->z<x+k->p z=false)->de p k x=none:=fun k x h=>by
 cases q:de p k x with
 | none=>rfl
 | some y =>
  obtain⟨h1,h2,h3,_⟩:=(gE p k x y).1 q
  rw[h y h1 h2] at h3;cases h3
theorem ks(last:Int):∀ (L:List Ls) (x:Int),x<=last->(∀ y,bP last x L=some y->∀ z,x<=z->z<y->∃ l,l∈L/\l.a=z)/\(bP last x L=none->∀ z,x<=z->z<=last->∃ l,l∈L/\l.a=z)
 | [],x,hx=>⟨fun y h z z1 z2=>by unfold bP at h;cases h;omega,fun h=>by unfold bP at h;cases h⟩
 | l::r,x,hx=>by
  unfold bP;by_cases h1:l.a≠x
  ·rw[if_pos h1];exact⟨fun y h z z1 z2=>by cases h;omega,fun h=>by cases h⟩
  ·rw[if_neg h1];have e:l.a=x:=by simpa using h1
   by_cases h2:x=last
   ·rw[if_pos h2];exact⟨(fun y h=>by cases h),fun _ z z1 z2=>⟨l,by simp,by omega⟩⟩
   ·rw[if_neg h2];obtain⟨i1,i2⟩:=ks last r (x+1) om
    have hstep:∀ z,x<=z->(x+1<=z->∃ m,m∈r/\m.a=z)->∃ m,m∈l::r/\m.a=z:=fun z z1 q=>by
     rcases Int.lt_or_le x z with w|w
     ·obtain⟨m,m1,m2⟩:=q om;exact⟨m,by simp[m1],m2⟩
     ·exact⟨l,by simp,by omega⟩
    exact⟨fun y h z z1 z2=>hstep z z1 fun w=>i1 y h z w z2,fun h z z1 z2=>hstep z z1 fun w=>i2 h z w z2⟩
theorem pQ{s:Bk}{h:Hd}(G:a8 s)(hh:h∈s.nets):de (eH s.leases h.a h.n) (sz h.n).toNat h.a=du s.leases h.a h.n:=by
 have hr:=(G.nr h hh).2.2.1
 have hzp:=aD h.n;have hlez:=uX hr;have hop:∀ z,eH s.leases h.a h.n z=true ↔ (dh h.a h.n<=z/\z<=dr h.a h.n)/\∀ y,y∈s.leases->y.a≠z:=fun z=>by
  unfold eH;rw[Bool.and_eq_true,tT,iE G.lp];refine and_congr Iff.rfl ?_
  cases q:dp s.leases z with
  | true =>
   obtain⟨y,h1,h2⟩:=(gF G.lp z).1 q
   simp only[if_true,decide_eq_true_eq]
   exact⟨fun w=>by omega,fun w=>absurd h2 (w y h1)⟩
  | false =>
   simp only[Bool.false_eq_true,if_false,decide_eq_true_eq]
   exact⟨(fun _ y h1 h2=>by rw[(gF G.lp z).2 ⟨y,h1,h2⟩] at q;cases q),fun _=>by omega⟩
 have hof:∀ z,dh h.a h.n<=z->z<=dr h.a h.n->(∃ l,l∈aw s.leases h.a h.n/\l.a=z)->eH s.leases h.a h.n z=false:=fun z z1 z2 ⟨l,l1,l2⟩=>by
  cases q:eH s.leases h.a h.n z with
  | false=>rfl
  | true=>exact absurd l2 (((hop z).1 q).2 l (List.mem_filter.1 l1).1)
 obtain⟨a1,a2⟩:=ks (dr h.a h.n) (aw s.leases h.a h.n) (dh h.a h.n) hlez
 cases q:du s.leases h.a h.n with
 | none =>
  refine pP _ _ _ fun z z1 z2=>?_
  by_cases hu:dh h.a h.n<=z/\z<=dr h.a h.n
  ·exact hof z hu.1 hu.2 (a2 q z hu.1 hu.2)
  ·cases w:eH s.leases h.a h.n z with
   | false=>rfl
   | true=>exact absurd ((hop z).1 w).1 hu
 | some d =>
  obtain⟨d1,d2,d3⟩:=ga G hh q;obtain⟨e1,e2⟩:=j9 d1 d2;refine(gE _ _ _ _).2 ⟨e1,by omega,(hop d).2 ⟨⟨d1,d2⟩,d3⟩,fun z z1 z2=>?_⟩
  by_cases hu:dh h.a h.n<=z
  ·exact hof z hu om (a1 d q z hu z2)
  ·cases w:eH s.leases h.a h.n z with
   | false=>rfl
   | true=>exact absurd ((hop z).1 w).1.1 hu
end
end Go.Proofs.YtjnhhnbgjjkkjaaGreatDoor
