/-
  RfT
-/
import Derived.Test.YtjnhhnbgjjkkjaaGreatDoorRePAS
set_option linter.unusedVariables false
set_option linter.unusedSimpArgs false
set_option maxRecDepth 100000
set_option maxHeartbeats 2000000
namespace Go.Proofs.YtjnhhnbgjjkkjaaGreatDoor
open Go.RowKit
def asT(y:Bk×An):Bk×Bz:=(y.1,⟨(aF y.2).toArray⟩)
theorem tJ(t:Lu):(⟨#[79,75,32]⟩:Bz)++bs t=⟨(aF (d8 ⟨t.toArray⟩)).toArray⟩:=by
 apply ByteArray.ext
 apply Array.ext'
 simp[bs,aF,d8]
theorem uD{s:Bk}(G:a7 s):∀ h,h∈s.pools->rt h.a h.n=true:=fun h hh=>(G.pr h hh).2.2
theorem gS{s:Bk}(G:a7 s):∀ h,h∈s.nets->rt h.a h.n=true:=fun h hh=>(G.nr h hh).2.2.1
theorem wt{s:Bk}{l:Ln}(G:a7 s)(hr:rt l.a l.n=true):i6 s l.o l.a l.n=asT (co s l):=by
 unfold i6 co;by_cases h1:l.n<8\/30<l.n
 ·rw[if_pos h1,if_pos h1];rfl
 rw[if_neg h1,if_neg h1]
 cases h2:aW s.pools l.a l.n with
 | true=>rfl
 | false =>
  rw[if_neg Bool.false_ne_true,if_neg Bool.false_ne_true];by_cases h3:6<=s.pools.length
  ·rw[if_pos h3,if_pos h3];rfl
  rw[if_neg h3,if_neg h3,gO (BQ G.pp) (kS (uD G) hr h2)];rfl
theorem vE{s:Bk}{l:Ln}(G:a7 s)(hr:rt l.a l.n=true):ia s l.o l.a l.n=asT (cO s l):=by
 unfold ia cO;by_cases h1:aj s.pools l.a l.n<0
 ·rw[if_pos h1,if_pos h1];rfl
 rw[if_neg h1,if_neg h1];by_cases h2:(s.pools.getD (aj s.pools l.a l.n).toNat hd0).o≠l.o
 ·rw[if_pos h2,if_pos h2];rfl
 rw[if_neg h2,if_neg h2];by_cases h3:af s.nets l.a l.n≠[]
 ·rw[if_pos ((ko (gS G) hr).2 h3),if_pos h3];rfl
 rw[if_neg (fun q=>h3 ((ko (gS G) hr).1 q)),if_neg h3];rfl
theorem nP{s:Bk}{l:Ln}(G:a7 s)(hr:rt l.a l.n=true):dt s l.o l.a l.n=asT (cR s l):=by
 unfold dt cR;by_cases h1:aj s.nets l.a l.n<0
 ·rw[if_pos h1,if_pos h1];rfl
 rw[if_neg h1,if_neg h1];by_cases h2:(s.nets.getD (aj s.nets l.a l.n).toNat hd0).o≠l.o
 ·rw[if_pos h2,if_pos h2];rfl
 rw[if_neg h2,if_neg h2];by_cases h3:av s.leases l.a l.n≠[]
 ·rw[if_pos ((hO hr).2 h3),if_pos h3];rfl
 rw[if_neg (fun q=>h3 ((hO hr).1 q)),if_neg h3];rfl
theorem sS{s:Bk}{l:Ln}(G:a7 s)(hr:rt l.a l.n=true):ga s l.o l.a l.n=asT (bG s l):=by
 unfold ga bG;rw[kq (uD G) hr];by_cases h1:l.n<22
 ·rw[if_pos h1,if_pos h1];rfl
 rw[if_neg h1,if_neg h1];by_cases h2:aQ s.pools l.a l.n<0
 ·rw[if_pos h2,if_pos h2];rfl
 rw[if_neg h2,if_neg h2]
 cases h3:aW s.nets l.a l.n with
 | true=>rfl
 | false =>
  rw[if_neg Bool.false_ne_true,if_neg Bool.false_ne_true];by_cases h4:24<=s.nets.length
  ·rw[if_pos h4,if_pos h4];rfl
  rw[if_neg h4,if_neg h4,gO (BQ G.np) (kS (gS G) hr h3)];rfl
theorem yq{s:Bk}{l:Ln}(G:a7 s)(hg:l.g<=32):lZ s l.o l.a l.n l.g=asT (dC s l):=by
 unfold lZ dC;by_cases h1:aj s.pools l.a l.n<0
 ·rw[if_pos h1,if_pos h1];rfl
 rw[if_neg h1,if_neg h1];by_cases h2:l.g<22\/l.g<l.n
 ·rw[if_pos h2,if_pos h2];rfl
 rw[if_neg h2,if_neg h2]
 cases hb:dM (aL 33 (af s.nets l.a l.n) l.a l.n) l.g with
 | none=>rfl
 | some b =>
  have ha:=jp G hg h1 hb;unfold iK;dsimp only;by_cases h3:24<=s.nets.length
  ·rw[if_pos h3,if_pos h3];rfl
  rw[if_neg h3,if_neg h3,gO (BQ G.np) (by exact kS (gS G) ha.1 ha.2.2.2.1),tJ];rfl
theorem yk{s:Bk}{d:Int}{h:Hd}(G:a7 s)(hh:h∈s.nets)(hl:dl s.leases h.a h.n=some d):∀ y,y∈s.leases->y.a≠d:=(fX G hh hl).2.2
theorem rZ{s:Bk}{l:Ln}(G:a7 s):f8 s l.o l.a l.n=asT (bQ s l):=by
 unfold f8 bQ;by_cases h1:aj s.nets l.a l.n<0
 ·rw[if_pos h1,if_pos h1];rfl
 rw[if_neg h1,if_neg h1];obtain⟨m1,m2,m3⟩:=eh h1;have hf:=oS G m1;rw[m2,m3] at hf;rw[hf]
 cases hb:dl s.leases l.a l.n with
 | none=>rfl
 | some d =>
  have hne:=yk G m1 (by rw[m2,m3];exact hb)
  unfold eH;dsimp only;by_cases h3:40<=s.leases.length
  ·rw[if_pos h3,if_pos h3];rfl
  rw[if_neg h3,if_neg h3,jr G.lp hne,tJ];rfl
theorem wN{s:Bk}{l:Ln}(G:a7 s):iM s l.o l.d=asT (cm s l):=by
 unfold iM cm;rw[kq (gS G) jQ,iB G.lp];by_cases h1:aQ s.nets l.d 32<0
 ·rw[if_pos h1,if_pos h1];rfl
 rw[if_neg h1,if_neg h1];generalize s.nets.getD (aQ s.nets l.d 32).toNat hd0=h
 cases hu:usR h.a h.n l.d with
 | false =>
  have:¬(da h.a h.n<=l.d/\l.d<=df h.a h.n):=fun q=>by rw[sq.2 q] at hu;cases hu
  rw[if_pos rfl,if_pos om];rfl
 | true =>
  have:=sq.1 hu
  rw[if_neg (show ¬(true=false) by decide),if_neg (show ¬(l.d<da h.a h.n\/df h.a h.n<l.d) by omega)]
  cases hL:dh s.leases l.d with
  | true=>rw[if_pos (show (0:Int)<=if true=true then (bM s.leases l.d:Int) else -1 by rw[if_pos rfl];omega)];rfl
  | false =>
   rw[if_neg (show ¬(0:Int)<=if false=true then (bM s.leases l.d:Int) else -1 by simp),if_neg Bool.false_ne_true]
   by_cases h3:40<=s.leases.length
   ·rw[if_pos h3,if_pos h3];rfl
   rw[if_neg h3,if_neg h3,jr G.lp (fun x hx e=>by rw[(gm G.lp l.d).2 ⟨x,hx,e⟩] at hL;cases hL)];rfl
theorem xa{s:Bk}{l:Ln}(G:a7 s):iL s l.o l.d=asT (cS s l):=by
 unfold iL cS;rw[iB G.lp]
 cases hL:dh s.leases l.d with
 | false=>rfl
 | true =>
  have hk:bM s.leases l.d<s.leases.length:=by unfold dh at hL;simp only[Bool.and_eq_true,decide_eq_true_eq] at hL;exact hL.1
  rw[if_pos rfl,if_pos rfl,if_neg (show ¬((bM s.leases l.d:Nat):Int)<0 by omega),Int.toNat_natCast,tF lsH ls0 _ _ hk]
  show (if (s.leases.getD (bM s.leases l.d) ls0).o≠l.o then _ else _)=_
  by_cases h2:(s.leases.getD (bM s.leases l.d) ls0).o≠l.o
  ·rw[if_pos h2,if_pos h2];rfl
  rw[if_neg h2,if_neg h2];rfl
theorem nh(adr:Bool)(L:List Hd)(t:Hd->Lu)(ht:∀ h,mp adr h=32::t h):[79,75]++L.flatMap (mp adr)=aF ⟨0,L.map fun h=>⟨(t h).toArray⟩⟩:=by
 unfold aF;rw[if_pos rfl];congr 1
 rw[List.flatMap_map];congr 1
 funext h
 rw[ht h]
theorem wB{s:Bk}{a n:Int}(G:a7 s)(hr:rt a n=true):bs (cH s.nets a n false)=⟨(aF ⟨0,(af s.nets a n).map fun h=>⟨(bH h).toArray⟩⟩).toArray⟩:=by
 unfold cH bs af;rw[List.filter_congr (q:=fun h=>inn h.a h.n a n) (fun x hx=>eZ (gS G x hx) hr),nh false _ bH (fun h=>rfl)]
theorem Gp:sz 0=4294967296:=by decide
theorem sD{s:Bk}(G:a7 s):bs (cH s.pools 0 0 false)=⟨(aF ⟨0,s.pools.map fun h=>⟨(bH h).toArray⟩⟩).toArray⟩:=by
 unfold cH bs;rw[List.filter_eq_self.2 (fun x hx=>?_),nh false _ bH (fun h=>rfl)]
 obtain⟨h1,h2,h3⟩:=G.pr x hx;obtain⟨r1,r2,r3⟩:=ah.1 h3;have:=gC x.a x.n r1 r2 h1 h2 r3
 exact rF.2 ⟨h1,by rw[Gp];omega⟩
theorem uM{s:Bk}{a n:Int}(hr:rt a n=true):bs (cH (s.leases.map lsH) a n true)=⟨(aF ⟨0,(av s.leases a n).map fun h=>⟨(dm h).toArray⟩⟩).toArray⟩:=by
 unfold cH bs av;rw[List.filter_map,List.filter_congr (p:=(fun h:Hd=>ri h.a h.n a n) ∘ lsH) (q:=fun h=>inn h.a 32 a n) (fun x hx=>eZ (a:=x.a) (n:=32) jQ hr)]
 unfold aF;rw[if_pos rfl,List.flatMap_map,List.flatMap_map];rfl
theorem DI(y:Bk×An):(asT y).2.data.toList.take 2=[79,75] ↔ y.2.e=0:=by
 unfold asT aF;by_cases h:y.2.e=0
 ·simp[h]
 ·simp[h]
theorem xn{s:Bk}{l:Ln}(G:a7 s)(hr:rt l.a l.n=true)(hg:l.g<=32)(hv:l.v<8):b8 s l.v l.o l.a l.n l.g l.d=asT (aG s l):=by
 unfold b8 aG;rcases (show l.v=0\/l.v=1\/l.v=2\/l.v=3\/l.v=4\/l.v=5\/l.v=6\/l.v=7 by omega) with h|h|h|h|h|h|h|h<;>rw[h]
 ·exact wt G hr
 ·exact vE G hr
 ·exact yq G hg
 ·exact sS G hr
 ·exact nP G hr
 ·exact rZ G
 ·exact wN G
 ·exact xa G
theorem zS(s:Bk)(l:Ln):(aG s l).1.toks=s.toks:=by
 unfold aG;split
 ·unfold co;repeat' split
  all_goals rfl
 ·unfold cO;repeat' split
  all_goals rfl
 ·unfold dC;repeat' split
  all_goals rfl
 ·unfold bG;repeat' split
  all_goals rfl
 ·unfold cR;repeat' split
  all_goals rfl
 ·unfold bQ;repeat' split
  all_goals rfl
 ·unfold cm;repeat' split
  all_goals rfl
 ·unfold cS;repeat' split
  all_goals rfl
 all_goals rfl
theorem zy{s:Bk}{l:Ln}{line:Bz}{ls:List (Lu)}(G:a7 s)(hr:rt l.a l.n=true)(hg:l.g<=32)(hv:l.v<8)(ht:bs (ls.getD 1 [])=l.t)(hd:e8 s ls=b8 s l.v l.o l.a l.n l.g l.d):
  doT s line ls (cV s.toks (bs (ls.getD 1 [])))=(match cV s.toks l.t with
   | some x=>if x.l≠line then (s,(⟨(aF (ref 3)).toArray⟩:Bz)) else (s,x.r)
   | none=>if (aG s l).2.e=0 then ({ (aG s l).1 with toks:=dN (aG s l).1.toks ⟨l.t,line,⟨(aF (aG s l).2).toArray⟩⟩ },⟨(aF (aG s l).2).toArray⟩) else ((aG s l).1,⟨(aF (aG s l).2).toArray⟩)):=by
 rw[ht]
 cases hf:cV s.toks l.t with
 | some x =>
  unfold doT;dsimp only;by_cases h:x.l=line
  ·rw[if_pos h,if_neg (fun q=>q h)]
  ·rw[if_neg h,if_pos h];rfl
 | none =>
  unfold doT;dsimp only;rw[hd,xn G hr hg hv,ht];unfold doK;by_cases h:(aG s l).2.e=0
  ·rw[if_pos ((DI _).2 h),if_pos h];rfl
  ·rw[if_neg (fun q=>h ((DI _).1 q)),if_neg h];rfl
theorem tq{w:Lu}{k:Nat}(h:num w 32=some k):cU w 32=k/\k<=32:=by
 refine⟨by unfold cU;rw[h],?_⟩
 unfold num at h;have:=List.mem_of_find?_eq_some h
 rw[List.mem_range] at this;omega
theorem ts{w:Lu}(h:num w 32=none):cU w 32=-1:=by unfold cU;rw[h]
theorem mR{w:Lu}{k:Nat}(h:dp w=some k):bV w=k:=by unfold bV;rw[h]
theorem vm{w:Lu}(h:dp w=none):bV w=-1:=by unfold bV;rw[h]
theorem tZ{w:Lu}{p:Int×Int}(h:rd w=some p):rt p.1 p.2=true:=by
 unfold rd at h;split at h
 ·split at h
  ·split at h
   ·rename_i hr
    cases h;exact hr
   ·cases h
  ·cases h
 ·cases h
theorem ld{w:Lu}{p:Int×Int}(h:rd w=some p):rdB w=p.1/\rdN w=p.2/\rdE w=0:=gb (a:=p.1) (n:=p.2) h
theorem gW{s:Bk}{line:Bz}{ls:List (Lu)}(h1:qR s ls=none)(h2:fa ls=false):doQ s line ls (qR s ls)=(s,⟨(aF (ref 2)).toArray⟩):=by
 rw[h1];unfold doQ doC;rw[h2];rfl
theorem o8{s:Bk}{ls:List (Lu)}(h:vb (ls.getD 0 [])<8):qR s ls=none:=by
 unfold qR;rw[if_neg om,if_pos om]
theorem rH{s:Bk}{l:Ln}{line:Bz}{ls:List (Lu)}(h0:vb (ls.getD 0 [])<8)(hc:fa ls=true)(G:a7 s)(hr:rt l.a l.n=true)(hg:l.g<=32)(hv:l.v<8)(ht:bs (ls.getD 1 [])=l.t)(hd:e8 s ls=b8 s l.v l.o l.a l.n l.g l.d)(hl:aD line.data.toList=some l):
  doQ s line ls (qR s ls)=bf s line:=by
 rw[o8 h0];unfold doQ doC;rw[if_pos hc,zy G hr hg hv ht hd];unfold bf;rw[hl];dsimp only;rw[if_pos hv]
 cases cV s.toks l.t with
 | some x=>rfl
 | none=>rfl
theorem fW{s:Bk}{line:Bz}(h:aD line.data.toList=none):bf s line=(s,⟨(aF (ref 2)).toArray⟩):=by
 unfold bf;rw[h]
theorem B5:rt 0 0=true:=by decide
theorem tf{line:Bz}{w:Lu}{ws:List (Lu)}(h:¬100<line.size)(hp:aw 32 line.data.toList=w::ws):aD line.data.toList=if vb w<0 then none else am (ln0 (vb w).toNat) (form (vb w).toNat) ws:=by
 unfold aD;have:line.data.toList.length=line.size:=Array.length_toList
 rw[if_pos om,hp];rfl
theorem dr{ls:List (Lu)}(h:¬(ls.length=4\/ls.length=5)):fa ls=false:=by unfold fa bX;simp[h]
theorem ye{ls:List (Lu)}(h:vb (ls.getD 0 [])<0\/8<=vb (ls.getD 0 [])):fa ls=false:=by
 unfold fa bX;rw[if_neg om,if_neg om,if_neg om];simp
theorem tU(s:Bk)(o:Bz)(a n g d:Int):b8 s ((0:Nat):Int) o a n g d=i6 s o a n:=by unfold b8;rw[if_pos dE]
theorem uF(s:Bk)(o:Bz)(a n g d:Int):b8 s ((1:Nat):Int) o a n g d=ia s o a n:=by unfold b8;rw[if_neg dE,if_pos dE]
theorem ud(s:Bk)(o:Bz)(a n g d:Int):b8 s ((2:Nat):Int) o a n g d=lZ s o a n g:=by unfold b8;rw[if_neg dE,if_neg dE,if_pos dE]
theorem ut(s:Bk)(o:Bz)(a n g d:Int):b8 s ((3:Nat):Int) o a n g d=ga s o a n:=by unfold b8;rw[if_neg dE,if_neg dE,if_neg dE,if_pos dE]
theorem ub(s:Bk)(o:Bz)(a n g d:Int):b8 s ((4:Nat):Int) o a n g d=dt s o a n:=by unfold b8;rw[if_neg dE,if_neg dE,if_neg dE,if_neg dE,if_pos dE]
theorem tL(s:Bk)(o:Bz)(a n g d:Int):b8 s ((5:Nat):Int) o a n g d=f8 s o a n:=by unfold b8;rw[if_neg dE,if_neg dE,if_neg dE,if_neg dE,if_neg dE,if_pos dE]
theorem uy(s:Bk)(o:Bz)(a n g d:Int):b8 s ((6:Nat):Int) o a n g d=iM s o d:=by unfold b8;rw[if_neg dE,if_neg dE,if_neg dE,if_neg dE,if_neg dE,if_neg dE,if_pos dE]
theorem tQ(s:Bk)(o:Bz)(a n g d:Int):b8 s ((7:Nat):Int) o a n g d=iL s o d:=by unfold b8;rw[if_neg dE,if_neg dE,if_neg dE,if_neg dE,if_neg dE,if_neg dE,if_neg dE]
theorem lV{s:Bk}{line:Bz}{w:Lu}{ws:List (Lu)}{v:Nat}(G:a7 s)(hv:vb w=v)(h3:v=0\/v=1\/v=3\/v=4\/v=5)(hl:aD line.data.toList=am (ln0 v) [1,2,3] ws):doQ s line (w::ws) (qR s (w::ws))=bf s line:=by
 have hv8:vb ((w::ws).getD 0 [])<8:=by show vb w<8;omega
 have hcm:∀ t o b,fa [w,t,o,b]=(ag t&&ag o&&decide (rdE b=0)):=fun t o b=>by
  show bX (vb w) 4 (ag t) (ag o) (bV b) (rdE b) _=_
  rw[hv];unfold bX;rw[if_neg om,if_neg om,if_pos om];simp
 have off:fa (w::ws)=false->am (ln0 v) [1,2,3] ws=none->doQ s line (w::ws) (qR s (w::ws))=bf s line:=fun h1 h2=>(gW (o8 hv8) h1).trans (fW (hl.trans h2)).symm
 rcases ws with _|⟨t,_|⟨o,_|⟨b,_|⟨c,r⟩⟩⟩⟩
 ·exact off (dr sM) rfl
 ·exact off (dr sM) (by simp only[am,aP];cases ag t<;>rfl)
 ·exact off (dr sM) (by simp only[am,aP];cases ag t<;>cases ag o<;>rfl)
 ·cases ht:ag t with
  | false=>exact off (by rw[hcm,ht];rfl) (by simp only[am,aP,ht];rfl)
  | true =>
   cases ho:ag o with
   | false=>exact off (by rw[hcm,ht,ho];rfl) (by simp only[am,aP,ht,ho];rfl)
   | true =>
    cases hb:rd b with
    | none=>exact off (by rw[hcm,ht,ho,(cQ hb).2.2];rfl) (by simp only[am,aP,ht,ho,hb];rfl)
    | some p =>
     obtain⟨e1,e2,e3⟩:=ld hb;have hl2:aD line.data.toList=some { ln0 v with t:=⟨t.toArray⟩,o:=⟨o.toArray⟩,a:=p.1,n:=p.2 }:=hl.trans (by simp only[am,aP,ht,ho,hb];rfl)
     refine rH hv8 (by rw[hcm,ht,ho,e3];rfl) G (tZ hb) (show (0:Int)<=32 by decide) (show v<8 by omega) rfl ?_ hl2
     show b8 s (vb w) (bs o) (rdB b) (rdN b) _ (bV b)=b8 s (v:Int) (bs o) p.1 p.2 0 0
     rw[hv,e1,e2];rcases h3 with rfl|rfl|rfl|rfl|rfl
     ·rw[tU,tU]
     ·rw[uF,uF]
     ·rw[ut,ut]
     ·rw[ub,ub]
     ·rw[tL,tL]
 ·refine off ?_ (by simp only[am,aP];cases ag t<;>cases ag o<;>cases rd b<;>rfl)
  show bX (vb w) _ _ _ _ _ _=false
  rw[hv];unfold bX;rw[if_neg om,if_neg om,if_pos om];simp
theorem AI{s:Bk}{line:Bz}{w:Lu}{ws:List (Lu)}{v:Nat}(G:a7 s)(hv:vb w=v)(h3:v=6\/v=7)(hl:aD line.data.toList=am (ln0 v) [1,2,4] ws):doQ s line (w::ws) (qR s (w::ws))=bf s line:=by
 have hv8:vb ((w::ws).getD 0 [])<8:=by show vb w<8;omega
 have hcm:∀ t o b,fa [w,t,o,b]=(ag t&&ag o&&decide (0<=bV b)):=fun t o b=>by
  show bX (vb w) 4 (ag t) (ag o) (bV b) (rdE b) _=_
  rw[hv];unfold bX;rw[if_pos om];simp
 have off:fa (w::ws)=false->am (ln0 v) [1,2,4] ws=none->doQ s line (w::ws) (qR s (w::ws))=bf s line:=fun h1 h2=>(gW (o8 hv8) h1).trans (fW (hl.trans h2)).symm
 rcases ws with _|⟨t,_|⟨o,_|⟨b,_|⟨c,r⟩⟩⟩⟩
 ·exact off (dr sM) rfl
 ·exact off (dr sM) (by simp only[am,aP];cases ag t<;>rfl)
 ·exact off (dr sM) (by simp only[am,aP];cases ag t<;>cases ag o<;>rfl)
 ·cases ht:ag t with
  | false=>exact off (by rw[hcm,ht];rfl) (by simp only[am,aP,ht];rfl)
  | true =>
   cases ho:ag o with
   | false=>exact off (by rw[hcm,ht,ho];rfl) (by simp only[am,aP,ht,ho];rfl)
   | true =>
    cases hb:dp b with
    | none=>exact off (by rw[hcm,ht,ho,vm hb];rfl) (by simp only[am,aP,ht,ho,hb];rfl)
    | some p =>
     have hl2:aD line.data.toList=some { ln0 v with t:=⟨t.toArray⟩,o:=⟨o.toArray⟩,d:=p }:=hl.trans (by simp only[am,aP,ht,ho,hb];rfl)
     refine rH hv8 (by rw[hcm,ht,ho,mR hb];simp) G B5 (show (0:Int)<=32 by decide) (show v<8 by omega) rfl ?_ hl2
     show b8 s (vb w) (bs o) (rdB b) (rdN b) _ (bV b)=b8 s (v:Int) (bs o) 0 0 0 p
     rw[hv,mR hb];rcases h3 with rfl|rfl
     ·rw[uy,uy]
     ·rw[tQ,tQ]
 ·refine off ?_ (by simp only[am,aP];cases ag t<;>cases ag o<;>cases dp b<;>rfl)
  show bX (vb w) _ _ _ _ _ _=false
  rw[hv];unfold bX;rw[if_pos om];simp
theorem Ez{s:Bk}{line:Bz}{w:Lu}{ws:List (Lu)}(G:a7 s)(hv:vb w=2)(hl:aD line.data.toList=am (ln0 2) [1,2,3,5] ws):doQ s line (w::ws) (qR s (w::ws))=bf s line:=by
 have hv8:vb ((w::ws).getD 0 [])<8:=by show vb w<8;omega
 have hcm:∀ t o b g,fa [w,t,o,b,g]=(ag t&&ag o&&decide (rdE b=0)&&decide (0<=cU g 32)):=fun t o b g=>by
  show bX (vb w) 5 (ag t) (ag o) (bV b) (rdE b) (cU g 32)=_
  rw[hv];unfold bX;rw[if_neg om,if_pos rfl];simp[Bool.and_assoc]
 have off:fa (w::ws)=false->am (ln0 2) [1,2,3,5] ws=none->doQ s line (w::ws) (qR s (w::ws))=bf s line:=fun h1 h2=>(gW (o8 hv8) h1).trans (fW (hl.trans h2)).symm
 rcases ws with _|⟨t,_|⟨o,_|⟨b,_|⟨g,_|⟨c,r⟩⟩⟩⟩⟩
 ·exact off (dr sM) rfl
 ·exact off (dr sM) (by simp only[am,aP];cases ag t<;>rfl)
 ·exact off (dr sM) (by simp only[am,aP];cases ag t<;>cases ag o<;>rfl)
 ·refine off ?_ (by simp only[am,aP];cases ag t<;>cases ag o<;>cases rd b<;>rfl)
  show bX (vb w) 4 _ _ _ _ _=false
  rw[hv];unfold bX;rw[if_neg om,if_pos rfl];simp
 ·cases ht:ag t with
  | false=>exact off (by rw[hcm,ht];rfl) (by simp only[am,aP,ht];rfl)
  | true =>
   cases ho:ag o with
   | false=>exact off (by rw[hcm,ht,ho];rfl) (by simp only[am,aP,ht,ho];rfl)
   | true =>
    cases hb:rd b with
    | none=>exact off (by rw[hcm,ht,ho,(cQ hb).2.2];rfl) (by simp only[am,aP,ht,ho,hb];rfl)
    | some p =>
     obtain⟨e1,e2,e3⟩:=ld hb
     cases hn:num g 32 with
     | none=>exact off (by rw[hcm,ht,ho,e3,ts hn];rfl) (by simp only[am,aP,ht,ho,hb,hn];rfl)
     | some k =>
      obtain⟨n1,n2⟩:=tq hn;have hl2:aD line.data.toList=some { ln0 2 with t:=⟨t.toArray⟩,o:=⟨o.toArray⟩,a:=p.1,n:=p.2,g:=k }:=hl.trans (by simp only[am,aP,ht,ho,hb,hn];rfl)
      refine rH hv8 (by rw[hcm,ht,ho,e3,n1];simp) G (tZ hb) (show (k:Int)<=32 by omega) (show 2<8 by decide) rfl ?_ hl2
      show b8 s (vb w) (bs o) (rdB b) (rdN b) (cU g 32) (bV b)=b8 s ((2:Nat):Int) (bs o) p.1 p.2 k 0
      rw[show vb w=((2:Nat):Int) from hv,e1,e2,n1,ud,ud]
 ·refine off (dr sM) (by simp only[am,aP];cases ag t<;>cases ag o<;>cases rd b<;>cases num g 32<;>rfl)
theorem DE{s:Bk}{l:Ln}{line:Bz}(h:aD line.data.toList=some l)(hv:¬l.v<8):bf s line=asT (aG s l):=by
 unfold bf;rw[h];dsimp only;rw[if_neg hv];rfl
theorem Ei{s:Bk}{line:Bz}{w:Lu}{ws:List (Lu)}(G:a7 s)(hv:vb w=8)(hl:aD line.data.toList=am (ln0 8) [] ws):doQ s line (w::ws) (qR s (w::ws))=bf s line:=by
 rcases ws with _|⟨t,r⟩
 ·rw[DE (l:=ln0 8) hl dE]
  have:qR s [w]=some (bs (cH s.pools 0 0 false)):=by unfold qR;rw[if_pos ⟨hv,rfl⟩]
  rw[this,sD G];rfl
 ·have hq:qR s (w::t::r)=none:=by
   unfold qR;rw[if_neg sM,if_pos (by simp only[List.getD_cons_zero];omega)]
  exact(gW hq (ye (.inr (by show 8<=vb w;omega)))).trans (fW hl).symm
theorem x8{s:Bk}{line:Bz}{w:Lu}{ws:List (Lu)}{v:Nat}(G:a7 s)(hv:vb w=v)(h2:v=9\/v=10)(hl:aD line.data.toList=am (ln0 v) [3] ws):doQ s line (w::ws) (qR s (w::ws))=bf s line:=by
 have off:qR s (w::ws)=none->am (ln0 v) [3] ws=none->doQ s line (w::ws) (qR s (w::ws))=bf s line:=fun h1 h2=>(gW h1 (ye (.inr (by show 8<=vb w;omega)))).trans (fW (hl.trans h2)).symm
 rcases ws with _|⟨b,_|⟨c,r⟩⟩
 ·exact off (by unfold qR;rw[if_neg (by simp only[List.getD_cons_zero];omega),if_pos sM]) rfl
 ·cases hb:rd b with
  | none =>
   refine off ?_ (by simp only[am,aP,hb];rfl)
   unfold qR;rw[if_neg sM,if_neg (not_not_intro ⟨rfl,by show vb w=9\/vb w=10;omega⟩),if_pos (by simp only[List.getD_cons_succ,List.getD_cons_zero];rw[(cQ hb).2.2];decide)]
  | some p =>
   obtain⟨e1,e2,e3⟩:=ld hb;have hl2:aD line.data.toList=some { ln0 v with a:=p.1,n:=p.2 }:=hl.trans (by simp only[am,aP,hb];rfl)
   rw[DE hl2 (show ¬v<8 by omega)]
   unfold qR;rw[if_neg sM,if_neg (not_not_intro ⟨rfl,by show vb w=9\/vb w=10;omega⟩),if_neg (by simp only[List.getD_cons_succ,List.getD_cons_zero];rw[e3];decide)]
   simp only[List.getD_cons_succ,List.getD_cons_zero]
   rw[e1,e2,hv];rcases h2 with rfl|rfl
   ·rw[if_pos dE]
    show (s,_)=asT (s,gi s _)
    unfold asT gi;dsimp only;by_cases q:aj s.pools p.1 p.2<0
    ·rw[if_pos q,if_pos q];rfl
    ·rw[if_neg q,if_neg q,wB G (tZ hb)]
   ·rw[if_neg dE]
    show (s,_)=asT (s,gI s _)
    unfold asT gI;dsimp only;by_cases q:aj s.nets p.1 p.2<0
    ·rw[if_pos q,if_pos q];rfl
    ·rw[if_neg q,if_neg q,uM (tZ hb)]
 ·refine off ?_ (by simp only[am,aP];cases rd b<;>rfl)
  unfold qR;rw[if_neg sM,if_pos sM]
theorem Bt{s:Bk}(G:a7 s)(line:Bz):doR s line=bf s line:=by
 unfold doR;by_cases h:100<line.size
 ·rw[if_pos h,fW]
  ·rfl
  ·unfold aD;have:line.data.toList.length=line.size:=Array.length_toList
   rw[if_neg om]
 rw[if_neg h];obtain⟨w,ws,hp⟩:∃ w ws,aw 32 line.data.toList=w::ws:=by
  have:=dy 32 line.data.toList
  cases q:aw 32 line.data.toList with
  | nil=>rw[q] at this;simp at this
  | cons w ws=>exact⟨w,ws,rfl⟩
 have hl:=tf h hp;have hr:=lH w;rw[hp];by_cases v0:vb w<0
 ·rw[if_pos v0] at hl;exact(gW (o8 (by show vb w<8;omega)) (ye (ls:=w::ws) (.inl v0))).trans (fW hl).symm
 rw[if_neg v0] at hl;obtain⟨v,hv⟩:∃ v:Nat,vb w=v:=⟨(vb w).toNat,by omega⟩
 rw[hv,Int.toNat_natCast] at hl;rcases (show v=0\/v=1\/v=2\/v=3\/v=4\/v=5\/v=6\/v=7\/v=8\/v=9\/v=10 by omega) with rfl|rfl|rfl|rfl|rfl|rfl|rfl|rfl|rfl|rfl|rfl
 ·exact lV G hv dE hl
 ·exact lV G hv dE hl
 ·exact Ez G hv hl
 ·exact lV G hv dE hl
 ·exact lV G hv dE hl
 ·exact lV G hv dE hl
 ·exact AI G hv dE hl
 ·exact AI G hv dE hl
 ·exact Ei G hv hl
 ·exact x8 G hv dE hl
 ·exact x8 G hv dE hl
end Go.Proofs.YtjnhhnbgjjkkjaaGreatDoor
