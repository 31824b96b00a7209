import Derived.Test.YtjnhhnbgjjkkjaaGreatDoorRePAS
set_option linter.all false
set_option maxRecDepth 100000
set_option maxHeartbeats 2000000
namespace Go.Proofs.YtjnhhnbgjjkkjaaGreatDoor
open Go.RowKit
def asT(y:Bk×An):Bk×Bz:=(y.1,⟨(aG y.2).toArray⟩)
theorem uI(t:Lu):(⟨#[79,75,32]⟩:Bz)++bs t=⟨(aG (eB ⟨t.toArray⟩)).toArray⟩:=by
 apply ByteArray.ext
 apply Array.ext'
 simp[bs,aG,eB]
theorem uw{s:Bk}(G:a8 s):∀ h,h∈s.pools->rt h.a h.n=true:=fun h hh=>(G.pr h hh).2.2
theorem g7{s:Bk}(G:a8 s):∀ h,h∈s.nets->rt h.a h.n=true:=fun h hh=>(G.nr h hh).2.2.1
theorem wP{s:Bk}{l:Ln}(G:a8 s)(hr:rt l.a l.n=true):jq s l.o l.a l.n=asT (cy s l):=by
 unfold jq cy;by_cases h1:l.n<8\/30<l.n
 ·rw[if_pos h1,if_pos h1];rfl
 rw[if_neg h1,if_neg h1]
 cases h2:aU s.pools l.a l.n with
 | true=>rfl
 | false =>
  rw[if_neg Bool.false_ne_true,if_neg Bool.false_ne_true];by_cases h3:6<=s.pools.length
  ·rw[if_pos h3,if_pos h3];rfl
  rw[if_neg h3,if_neg h3,ie (DG G.pp) (k8 (uw G) hr h2)];rfl
theorem vI{s:Bk}{l:Ln}(G:a8 s)(hr:rt l.a l.n=true):iq s l.o l.a l.n=asT (cR s l):=by
 unfold iq cR;by_cases h1:ah s.pools l.a l.n<0
 ·rw[if_pos h1,if_pos h1];rfl
 rw[if_neg h1,if_neg h1];by_cases h2:(s.pools.getD (ah s.pools l.a l.n).toNat hd0).o≠l.o
 ·rw[if_pos h2,if_pos h2];rfl
 rw[if_neg h2,if_neg h2];by_cases h3:af s.nets l.a l.n≠[]
 ·rw[if_pos ((kr (g7 G) hr).2 h3),if_pos h3];rfl
 rw[if_neg (fun q=>h3 ((kr (g7 G) hr).1 q)),if_neg h3];rfl
theorem oG{s:Bk}{l:Ln}(G:a8 s)(hr:rt l.a l.n=true):dy s l.o l.a l.n=asT (cS s l):=by
 unfold dy cS;by_cases h1:ah s.nets l.a l.n<0
 ·rw[if_pos h1,if_pos h1];rfl
 rw[if_neg h1,if_neg h1];by_cases h2:(s.nets.getD (ah s.nets l.a l.n).toNat hd0).o≠l.o
 ·rw[if_pos h2,if_pos h2];rfl
 rw[if_neg h2,if_neg h2];by_cases h3:aw s.leases l.a l.n≠[]
 ·rw[if_pos ((ip hr).2 h3),if_pos h3];rfl
 rw[if_neg (fun q=>h3 ((ip hr).1 q)),if_neg h3];rfl
theorem rR{s:Bk}{l:Ln}(G:a8 s)(hr:rt l.a l.n=true):gc s l.o l.a l.n=asT (bI s l):=by
 unfold gc bI;rw[kh (uw G) hr];by_cases h1:l.n<22
 ·rw[if_pos h1,if_pos h1];rfl
 rw[if_neg h1,if_neg h1];by_cases h2:aR s.pools l.a l.n<0
 ·rw[if_pos h2,if_pos h2];rfl
 rw[if_neg h2,if_neg h2]
 cases h3:aU s.nets l.a l.n with
 | true=>rfl
 | false =>
  rw[if_neg Bool.false_ne_true,if_neg Bool.false_ne_true];by_cases h4:24<=s.nets.length
  ·rw[if_pos h4,if_pos h4];rfl
  rw[if_neg h4,if_neg h4,ie (DG G.np) (k8 (g7 G) hr h3)];rfl
theorem Ac{s:Bk}{l:Ln}(G:a8 s)(hg:l.g<=32):mo s l.o l.a l.n l.g=asT (dH s l):=by
 unfold mo dH;by_cases h1:ah s.pools l.a l.n<0
 ·rw[if_pos h1,if_pos h1];rfl
 rw[if_neg h1,if_neg h1];by_cases h2:l.g<22\/l.g<l.n
 ·rw[if_pos h2,if_pos h2];rfl
 rw[if_neg h2,if_neg h2]
 cases hb:dN (aM 33 (af s.nets l.a l.n) l.a l.n) l.g with
 | none=>rfl
 | some b =>
  have ha:=jS G hg h1 hb;unfold jo;dsimp only;by_cases h3:24<=s.nets.length
  ·rw[if_pos h3,if_pos h3];rfl
  rw[if_neg h3,if_neg h3,ie (DG G.np) (by exact k8 (g7 G) ha.1 ha.2.2.2.1),uI];rfl
theorem zJ{s:Bk}{d:Int}{h:Hd}(G:a8 s)(hh:h∈s.nets)(hl:du s.leases h.a h.n=some d):∀ y,y∈s.leases->y.a≠d:=(ga G hh hl).2.2
theorem sP{s:Bk}{l:Ln}(G:a8 s):gd s l.o l.a l.n=asT (bU s l):=by
 unfold gd bU;by_cases h1:ah s.nets l.a l.n<0
 ·rw[if_pos h1,if_pos h1];rfl
 rw[if_neg h1,if_neg h1];obtain⟨m1,m2,m3⟩:=eo h1;have hf:=pQ G m1;rw[m2,m3] at hf;rw[hf]
 cases hb:du s.leases l.a l.n with
 | none=>rfl
 | some d =>
  have hne:=zJ G m1 (by rw[m2,m3];exact hb)
  unfold eN;dsimp only;by_cases h3:40<=s.leases.length
  ·rw[if_pos h3,if_pos h3];rfl
  rw[if_neg h3,if_neg h3,ke G.lp hne,uI];rfl
theorem xE{s:Bk}{l:Ln}(G:a8 s):jr s l.o l.d=asT (cA s l):=by
 unfold jr cA;rw[kh (g7 G) jZ,iE G.lp];by_cases h1:aR s.nets l.d 32<0
 ·rw[if_pos h1,if_pos h1];rfl
 rw[if_neg h1,if_neg h1];generalize s.nets.getD (aR s.nets l.d 32).toNat hd0=h
 cases hu:usR h.a h.n l.d with
 | false =>
  have:¬(dh h.a h.n<=l.d/\l.d<=dr h.a h.n):=fun q=>by rw[tT.2 q] at hu;cases hu
  rw[if_pos rfl,if_pos om];rfl
 | true =>
  have:=tT.1 hu
  rw[if_neg (show ¬(true=false) by decide),if_neg (show ¬(l.d<dh h.a h.n\/dr h.a h.n<l.d) by omega)]
  cases hL:dp s.leases l.d with
  | true=>rw[if_pos (show (0:Int)<=if true=true then (bO s.leases l.d:Int) else -1 by rw[if_pos rfl];omega)];rfl
  | false =>
   rw[if_neg (show ¬(0:Int)<=if false=true then (bO s.leases l.d:Int) else -1 by simp),if_neg Bool.false_ne_true]
   by_cases h3:40<=s.leases.length
   ·rw[if_pos h3,if_pos h3];rfl
   rw[if_neg h3,if_neg h3,ke G.lp (fun x hx e=>by rw[(gF G.lp l.d).2 ⟨x,hx,e⟩] at hL;cases hL)];rfl
theorem vV{s:Bk}{l:Ln}(G:a8 s):jn s l.o l.d=asT (cU s l):=by
 unfold jn cU;rw[iE G.lp]
 cases hL:dp s.leases l.d with
 | false=>rfl
 | true =>
  have hk:bO s.leases l.d<s.leases.length:=by unfold dp at hL;simp only[Bool.and_eq_true,decide_eq_true_eq] at hL;exact hL.1
  rw[if_pos rfl,if_pos rfl,if_neg (show ¬((bO s.leases l.d:Nat):Int)<0 by omega),Int.toNat_natCast,sZ lsH ls0 _ _ hk]
  show (if (s.leases.getD (bO s.leases l.d) ls0).o≠l.o then _ else _)=_
  by_cases h2:(s.leases.getD (bO s.leases l.d) ls0).o≠l.o
  ·rw[if_pos h2,if_pos h2];rfl
  rw[if_neg h2,if_neg h2];rfl
theorem nS(adr:Bool)(L:List Hd)(t:Hd->Lu)(ht:∀ h,nf adr h=32::t h):[79,75]++L.flatMap (nf adr)=aG ⟨0,L.map fun h=>⟨(t h).toArray⟩⟩:=by
 unfold aG;rw[if_pos rfl];congr 1
 rw[List.flatMap_map];congr 1
 funext h
 rw[ht h]
theorem xK{s:Bk}{a n:Int}(G:a8 s)(hr:rt a n=true):bs (cu s.nets a n false)=⟨(aG ⟨0,(af s.nets a n).map fun h=>⟨(bJ h).toArray⟩⟩).toArray⟩:=by
 unfold cu bs af;rw[List.filter_congr (q:=fun h=>inn h.a h.n a n) (fun x hx=>fd (g7 G x hx) hr),nS false _ bJ (fun h=>rfl)]
theorem Hc:sz 0=4294967296:=by decide
theorem tQ{s:Bk}(G:a8 s):bs (cu s.pools 0 0 false)=⟨(aG ⟨0,s.pools.map fun h=>⟨(bJ h).toArray⟩⟩).toArray⟩:=by
 unfold cu bs;rw[List.filter_eq_self.2 (fun x hx=>?_),nS false _ bJ (fun h=>rfl)]
 obtain⟨h1,h2,h3⟩:=G.pr x hx;obtain⟨r1,r2,r3⟩:=aj.1 h3;have:=gC x.a x.n r1 r2 h1 h2 r3
 exact tF.2 ⟨h1,by rw[Hc];omega⟩
theorem xL{s:Bk}{a n:Int}(hr:rt a n=true):bs (cu (s.leases.map lsH) a n true)=⟨(aG ⟨0,(aw s.leases a n).map fun h=>⟨(dt h).toArray⟩⟩).toArray⟩:=by
 unfold cu bs aw;rw[List.filter_map,List.filter_congr (p:=(fun h:Hd=>ri h.a h.n a n) ∘ lsH) (q:=fun h=>inn h.a 32 a n) (fun x hx=>fd (a:=x.a) (n:=32) jZ hr)]
 unfold aG;rw[if_pos rfl,List.flatMap_map,List.flatMap_map];rfl
theorem D4(y:Bk×An):(asT y).2.data.toList.take 2=[79,75] ↔ y.2.e=0:=by
 unfold asT aG;by_cases h:y.2.e=0
 ·simp[h]
 ·simp[h]
theorem vE{s:Bk}{l:Ln}(G:a8 s)(hr:rt l.a l.n=true)(hg:l.g<=32)(hv:l.v<8):ck s l.v l.o l.a l.n l.g l.d=asT (aH s l):=by
 unfold ck aH;rcases (show l.v=0\/l.v=1\/l.v=2\/l.v=3\/l.v=4\/l.v=5\/l.v=6\/l.v=7 by omega) with h|h|h|h|h|h|h|h<;>rw[h]
 ·exact wP G hr
 ·exact vI G hr
 ·exact Ac G hg
 ·exact rR G hr
 ·exact oG G hr
 ·exact sP G
 ·exact xE G
 ·exact vV G
theorem zO(s:Bk)(l:Ln):(aH s l).1.toks=s.toks:=by
 unfold aH;split
 ·unfold cy;repeat' split
  all_goals rfl
 ·unfold cR;repeat' split
  all_goals rfl
 ·unfold dH;repeat' split
  all_goals rfl
 ·unfold bI;repeat' split
  all_goals rfl
 ·unfold cS;repeat' split
  all_goals rfl
 ·unfold bU;repeat' split
  all_goals rfl
 ·unfold cA;repeat' split
  all_goals rfl
 ·unfold cU;repeat' split
  all_goals rfl
 all_goals rfl
theorem yQ{s:Bk}{l:Ln}{line:Bz}{ls:List (Lu)}(G:a8 s)(hr:rt l.a l.n=true)(hg:l.g<=32)(hv:l.v<8)(ht:bs (ls.getD 1 [])=l.t)(hd:eZ s ls=ck s l.v l.o l.a l.n l.g l.d):
  doT s line ls (cX s.toks (bs (ls.getD 1 [])))=(match cX s.toks l.t with
   | some x=>if x.l≠line then (s,(⟨(aG (ref 3)).toArray⟩:Bz)) else (s,x.r)
   | none=>if (aH s l).2.e=0 then ({ (aH s l).1 with toks:=dM (aH s l).1.toks ⟨l.t,line,⟨(aG (aH s l).2).toArray⟩⟩ },⟨(aG (aH s l).2).toArray⟩) else ((aH s l).1,⟨(aG (aH s l).2).toArray⟩)):=by
 rw[ht]
 cases hf:cX s.toks l.t with
 | some x =>
  unfold doT;dsimp only;by_cases h:x.l=line
  ·rw[if_pos h,if_neg (fun q=>q h)]
  ·rw[if_neg h,if_pos h];rfl
 | none =>
  unfold doT;dsimp only;rw[hd,vE G hr hg hv,ht];unfold doK;by_cases h:(aH s l).2.e=0
  ·rw[if_pos ((D4 _).2 h),if_pos h];rfl
  ·rw[if_neg (fun q=>h ((D4 _).1 q)),if_neg h];rfl
theorem tg{w:Lu}{k:Nat}(h:num w 32=some k):cY w 32=k/\k<=32:=by
 refine⟨by unfold cY;rw[h],?_⟩
 unfold num at h;have:=List.mem_of_find?_eq_some h
 rw[List.mem_range] at this;omega
theorem tf{w:Lu}(h:num w 32=none):cY w 32=-1:=by unfold cY;rw[h]
theorem mE{w:Lu}{k:Nat}(h:dv w=some k):bY w=k:=by unfold bY;rw[h]
theorem vd{w:Lu}(h:dv w=none):bY w=-1:=by unfold bY;rw[h]
theorem uL{w:Lu}{p:Int×Int}(h:rd w=some p):rt p.1 p.2=true:=by
 unfold rd at h;split at h
 ·split at h
  ·split at h
   ·rename_i hr
    cases h;exact hr
   ·cases h
  ·cases h
 ·cases h
theorem lP{w:Lu}{p:Int×Int}(h:rd w=some p):rdB w=p.1/\rdN w=p.2/\rdE w=0:=gi (a:=p.1) (n:=p.2) h
theorem gW{s:Bk}{line:Bz}{ls:List (Lu)}(h1:qR s ls=none)(h2:fj ls=false):doQ s line ls (qR s ls)=(s,⟨(aG (ref 2)).toArray⟩):=by
 rw[h1];unfold doQ doC;rw[h2];rfl
theorem qK{s:Bk}{ls:List (Lu)}(h:vb (ls.getD 0 [])<8):qR s ls=none:=by
 unfold qR;rw[if_neg om,if_pos om]
theorem sf{s:Bk}{l:Ln}{line:Bz}{ls:List (Lu)}(h0:vb (ls.getD 0 [])<8)(hc:fj ls=true)(G:a8 s)(hr:rt l.a l.n=true)(hg:l.g<=32)(hv:l.v<8)(ht:bs (ls.getD 1 [])=l.t)(hd:eZ s ls=ck s l.v l.o l.a l.n l.g l.d)(hl:aE line.data.toList=some l):
  doQ s line ls (qR s ls)=bg s line:=by
 rw[qK h0];unfold doQ doC;rw[if_pos hc,yQ G hr hg hv ht hd];unfold bg;rw[hl];dsimp only;rw[if_pos hv]
 cases cX s.toks l.t with
 | some x=>rfl
 | none=>rfl
theorem fY{s:Bk}{line:Bz}(h:aE line.data.toList=none):bg s line=(s,⟨(aG (ref 2)).toArray⟩):=by
 unfold bg;rw[h]
theorem DE:rt 0 0=true:=by decide
theorem sV{line:Bz}{w:Lu}{ws:List (Lu)}(h:¬100<line.size)(hp:ax 32 line.data.toList=w::ws):aE line.data.toList=if vb w<0 then none else aq (ln0 (vb w).toNat) (form (vb w).toNat) ws:=by
 unfold aE;have:line.data.toList.length=line.size:=Array.length_toList
 rw[if_pos om,hp];rfl
theorem dx{ls:List (Lu)}(h:¬(ls.length=4\/ls.length=5)):fj ls=false:=by unfold fj bZ;simp[h]
theorem yE{ls:List (Lu)}(h:vb (ls.getD 0 [])<0\/8<=vb (ls.getD 0 [])):fj ls=false:=by
 unfold fj bZ;rw[if_neg om,if_neg om,if_neg om];simp
theorem ug(s:Bk)(o:Bz)(a n g d:Int):ck s ((0:Nat):Int) o a n g d=jq s o a n:=by unfold ck;rw[if_pos dE]
theorem uh(s:Bk)(o:Bz)(a n g d:Int):ck s ((1:Nat):Int) o a n g d=iq s o a n:=by unfold ck;rw[if_neg dE,if_pos dE]
theorem ui(s:Bk)(o:Bz)(a n g d:Int):ck s ((2:Nat):Int) o a n g d=mo s o a n g:=by unfold ck;rw[if_neg dE,if_neg dE,if_pos dE]
theorem uj(s:Bk)(o:Bz)(a n g d:Int):ck s ((3:Nat):Int) o a n g d=gc s o a n:=by unfold ck;rw[if_neg dE,if_neg dE,if_neg dE,if_pos dE]
theorem uk(s:Bk)(o:Bz)(a n g d:Int):ck s ((4:Nat):Int) o a n g d=dy s o a n:=by unfold ck;rw[if_neg dE,if_neg dE,if_neg dE,if_neg dE,if_pos dE]
theorem um(s:Bk)(o:Bz)(a n g d:Int):ck s ((5:Nat):Int) o a n g d=gd s o a n:=by unfold ck;rw[if_neg dE,if_neg dE,if_neg dE,if_neg dE,if_neg dE,if_pos dE]
theorem uo(s:Bk)(o:Bz)(a n g d:Int):ck s ((6:Nat):Int) o a n g d=jr s o d:=by unfold ck;rw[if_neg dE,if_neg dE,if_neg dE,if_neg dE,if_neg dE,if_neg dE,if_pos dE]
theorem uq(s:Bk)(o:Bz)(a n g d:Int):ck s ((7:Nat):Int) o a n g d=jn s o d:=by unfold ck;rw[if_neg dE,if_neg dE,if_neg dE,if_neg dE,if_neg dE,if_neg dE,if_neg dE]
theorem lJ{s:Bk}{line:Bz}{w:Lu}{ws:List (Lu)}{v:Nat}(G:a8 s)(hv:vb w=v)(h3:v=0\/v=1\/v=3\/v=4\/v=5)(hl:aE line.data.toList=aq (ln0 v) [1,2,3] ws):doQ s line (w::ws) (qR s (w::ws))=bg s line:=by
 have hv8:vb ((w::ws).getD 0 [])<8:=by show vb w<8;omega
 have hcm:∀ t o b,fj [w,t,o,b]=(ag t&&ag o&&decide (rdE b=0)):=fun t o b=>by
  show bZ (vb w) 4 (ag t) (ag o) (bY b) (rdE b) _=_
  rw[hv];unfold bZ;rw[if_neg om,if_neg om,if_pos om];simp
 have off:fj (w::ws)=false->aq (ln0 v) [1,2,3] ws=none->doQ s line (w::ws) (qR s (w::ws))=bg s line:=fun h1 h2=>(gW (qK hv8) h1).trans (fY (hl.trans h2)).symm
 rcases ws with _|⟨t,_|⟨o,_|⟨b,_|⟨c,r⟩⟩⟩⟩
 ·exact off (dx sM) rfl
 ·exact off (dx sM) (by simp only[aq,aQ];cases ag t<;>rfl)
 ·exact off (dx sM) (by simp only[aq,aQ];cases ag t<;>cases ag o<;>rfl)
 ·cases ht:ag t with
  | false=>exact off (by rw[hcm,ht];rfl) (by simp only[aq,aQ,ht];rfl)
  | true =>
   cases ho:ag o with
   | false=>exact off (by rw[hcm,ht,ho];rfl) (by simp only[aq,aQ,ht,ho];rfl)
   | true =>
    cases hb:rd b with
    | none=>exact off (by rw[hcm,ht,ho,(cW hb).2.2];rfl) (by simp only[aq,aQ,ht,ho,hb];rfl)
    | some p =>
     obtain⟨e1,e2,e3⟩:=lP hb;have hl2:aE line.data.toList=some { ln0 v with t:=⟨t.toArray⟩,o:=⟨o.toArray⟩,a:=p.1,n:=p.2 }:=hl.trans (by simp only[aq,aQ,ht,ho,hb];rfl)
     refine sf hv8 (by rw[hcm,ht,ho,e3];rfl) G (uL hb) (show (0:Int)<=32 by decide) (show v<8 by omega) rfl ?_ hl2
     show ck s (vb w) (bs o) (rdB b) (rdN b) _ (bY b)=ck s (v:Int) (bs o) p.1 p.2 0 0
     rw[hv,e1,e2];rcases h3 with rfl|rfl|rfl|rfl|rfl
     ·rw[ug,ug]
     ·rw[uh,uh]
     ·rw[uj,uj]
     ·rw[uk,uk]
     ·rw[um,um]
 ·refine off ?_ (by simp only[aq,aQ];cases ag t<;>cases ag o<;>cases rd b<;>rfl)
  show bZ (vb w) _ _ _ _ _ _=false
  rw[hv];unfold bZ;rw[if_neg om,if_neg om,if_pos om];simp
theorem zK{s:Bk}{line:Bz}{w:Lu}{ws:List (Lu)}{v:Nat}(G:a8 s)(hv:vb w=v)(h3:v=6\/v=7)(hl:aE line.data.toList=aq (ln0 v) [1,2,4] ws):doQ s line (w::ws) (qR s (w::ws))=bg s line:=by
 have hv8:vb ((w::ws).getD 0 [])<8:=by show vb w<8;omega
 have hcm:∀ t o b,fj [w,t,o,b]=(ag t&&ag o&&decide (0<=bY b)):=fun t o b=>by
  show bZ (vb w) 4 (ag t) (ag o) (bY b) (rdE b) _=_
  rw[hv];unfold bZ;rw[if_pos om];simp
 have off:fj (w::ws)=false->aq (ln0 v) [1,2,4] ws=none->doQ s line (w::ws) (qR s (w::ws))=bg s line:=fun h1 h2=>(gW (qK hv8) h1).trans (fY (hl.trans h2)).symm
 rcases ws with _|⟨t,_|⟨o,_|⟨b,_|⟨c,r⟩⟩⟩⟩
 ·exact off (dx sM) rfl
 ·exact off (dx sM) (by simp only[aq,aQ];cases ag t<;>rfl)
 ·exact off (dx sM) (by simp only[aq,aQ];cases ag t<;>cases ag o<;>rfl)
 ·cases ht:ag t with
  | false=>exact off (by rw[hcm,ht];rfl) (by simp only[aq,aQ,ht];rfl)
  | true =>
   cases ho:ag o with
   | false=>exact off (by rw[hcm,ht,ho];rfl) (by simp only[aq,aQ,ht,ho];rfl)
   | true =>
    cases hb:dv b with
    | none=>exact off (by rw[hcm,ht,ho,vd hb];rfl) (by simp only[aq,aQ,ht,ho,hb];rfl)
    | some p =>
     have hl2:aE line.data.toList=some { ln0 v with t:=⟨t.toArray⟩,o:=⟨o.toArray⟩,d:=p }:=hl.trans (by simp only[aq,aQ,ht,ho,hb];rfl)
     refine sf hv8 (by rw[hcm,ht,ho,mE hb];simp) G DE (show (0:Int)<=32 by decide) (show v<8 by omega) rfl ?_ hl2
     show ck s (vb w) (bs o) (rdB b) (rdN b) _ (bY b)=ck s (v:Int) (bs o) 0 0 0 p
     rw[hv,mE hb];rcases h3 with rfl|rfl
     ·rw[uo,uo]
     ·rw[uq,uq]
 ·refine off ?_ (by simp only[aq,aQ];cases ag t<;>cases ag o<;>cases dv b<;>rfl)
  show bZ (vb w) _ _ _ _ _ _=false
  rw[hv];unfold bZ;rw[if_pos om];simp
theorem E9{s:Bk}{line:Bz}{w:Lu}{ws:List (Lu)}(G:a8 s)(hv:vb w=2)(hl:aE line.data.toList=aq (ln0 2) [1,2,3,5] ws):doQ s line (w::ws) (qR s (w::ws))=bg s line:=by
 have hv8:vb ((w::ws).getD 0 [])<8:=by show vb w<8;omega
 have hcm:∀ t o b g,fj [w,t,o,b,g]=(ag t&&ag o&&decide (rdE b=0)&&decide (0<=cY g 32)):=fun t o b g=>by
  show bZ (vb w) 5 (ag t) (ag o) (bY b) (rdE b) (cY g 32)=_
  rw[hv];unfold bZ;rw[if_neg om,if_pos rfl];simp[Bool.and_assoc]
 have off:fj (w::ws)=false->aq (ln0 2) [1,2,3,5] ws=none->doQ s line (w::ws) (qR s (w::ws))=bg s line:=fun h1 h2=>(gW (qK hv8) h1).trans (fY (hl.trans h2)).symm
 rcases ws with _|⟨t,_|⟨o,_|⟨b,_|⟨g,_|⟨c,r⟩⟩⟩⟩⟩
 ·exact off (dx sM) rfl
 ·exact off (dx sM) (by simp only[aq,aQ];cases ag t<;>rfl)
 ·exact off (dx sM) (by simp only[aq,aQ];cases ag t<;>cases ag o<;>rfl)
 ·refine off ?_ (by simp only[aq,aQ];cases ag t<;>cases ag o<;>cases rd b<;>rfl)
  show bZ (vb w) 4 _ _ _ _ _=false
  rw[hv];unfold bZ;rw[if_neg om,if_pos rfl];simp
 ·cases ht:ag t with
  | false=>exact off (by rw[hcm,ht];rfl) (by simp only[aq,aQ,ht];rfl)
  | true =>
   cases ho:ag o with
   | false=>exact off (by rw[hcm,ht,ho];rfl) (by simp only[aq,aQ,ht,ho];rfl)
   | true =>
    cases hb:rd b with
    | none=>exact off (by rw[hcm,ht,ho,(cW hb).2.2];rfl) (by simp only[aq,aQ,ht,ho,hb];rfl)
    | some p =>
     obtain⟨e1,e2,e3⟩:=lP hb
     cases hn:num g 32 with
     | none=>exact off (by rw[hcm,ht,ho,e3,tf hn];rfl) (by simp only[aq,aQ,ht,ho,hb,hn];rfl)
     | some k =>
      obtain⟨n1,n2⟩:=tg hn;have hl2:aE line.data.toList=some { ln0 2 with t:=⟨t.toArray⟩,o:=⟨o.toArray⟩,a:=p.1,n:=p.2,g:=k }:=hl.trans (by simp only[aq,aQ,ht,ho,hb,hn];rfl)
      refine sf hv8 (by rw[hcm,ht,ho,e3,n1];simp) G (uL hb) (show (k:Int)<=32 by omega) (show 2<8 by decide) rfl ?_ hl2
      show ck s (vb w) (bs o) (rdB b) (rdN b) (cY g 32) (bY b)=ck s ((2:Nat):Int) (bs o) p.1 p.2 k 0
      rw[show vb w=((2:Nat):Int) from hv,e1,e2,n1,ui,ui]
 ·refine off (dx sM) (by simp only[aq,aQ];cases ag t<;>cases ag o<;>cases rd b<;>cases num g 32<;>rfl)
theorem DZ{s:Bk}{l:Ln}{line:Bz}(h:aE line.data.toList=some l)(hv:¬l.v<8):bg s line=asT (aH s l):=by
 unfold bg;rw[h];dsimp only;rw[if_neg hv];rfl
theorem Fa{s:Bk}{line:Bz}{w:Lu}{ws:List (Lu)}(G:a8 s)(hv:vb w=8)(hl:aE line.data.toList=aq (ln0 8) [] ws):doQ s line (w::ws) (qR s (w::ws))=bg s line:=by
 rcases ws with _|⟨t,r⟩
 ·rw[DZ (l:=ln0 8) hl dE]
  have:qR s [w]=some (bs (cu s.pools 0 0 false)):=by unfold qR;rw[if_pos ⟨hv,rfl⟩]
  rw[this,tQ G];rfl
 ·have hq:qR s (w::t::r)=none:=by
   unfold qR;rw[if_neg sM,if_pos (by simp only[List.getD_cons_zero];omega)]
  exact(gW hq (yE (.inr (by show 8<=vb w;omega)))).trans (fY hl).symm
theorem zL{s:Bk}{line:Bz}{w:Lu}{ws:List (Lu)}{v:Nat}(G:a8 s)(hv:vb w=v)(h2:v=9\/v=10)(hl:aE line.data.toList=aq (ln0 v) [3] ws):doQ s line (w::ws) (qR s (w::ws))=bg s line:=by
 have off:qR s (w::ws)=none->aq (ln0 v) [3] ws=none->doQ s line (w::ws) (qR s (w::ws))=bg s line:=fun h1 h2=>(gW h1 (yE (.inr (by show 8<=vb w;omega)))).trans (fY (hl.trans h2)).symm
 rcases ws with _|⟨b,_|⟨c,r⟩⟩
 ·exact off (by unfold qR;rw[if_neg (by simp only[List.getD_cons_zero];omega),if_pos sM]) rfl
 ·cases hb:rd b with
  | none =>
   refine off ?_ (by simp only[aq,aQ,hb];rfl)
   unfold qR;rw[if_neg sM,if_neg (not_not_intro ⟨rfl,by show vb w=9\/vb w=10;omega⟩),if_pos (by simp only[List.getD_cons_succ,List.getD_cons_zero];rw[(cW hb).2.2];decide)]
  | some p =>
   obtain⟨e1,e2,e3⟩:=lP hb;have hl2:aE line.data.toList=some { ln0 v with a:=p.1,n:=p.2 }:=hl.trans (by simp only[aq,aQ,hb];rfl)
   rw[DZ hl2 (show ¬v<8 by omega)]
   unfold qR;rw[if_neg sM,if_neg (not_not_intro ⟨rfl,by show vb w=9\/vb w=10;omega⟩),if_neg (by simp only[List.getD_cons_succ,List.getD_cons_zero];rw[e3];decide)]
   simp only[List.getD_cons_succ,List.getD_cons_zero]
   rw[e1,e2,hv];rcases h2 with rfl|rfl
   ·rw[if_pos dE]
    show (s,_)=asT (s,gy s _)
    unfold asT gy;dsimp only;by_cases q:ah s.pools p.1 p.2<0
    ·rw[if_pos q,if_pos q];rfl
    ·rw[if_neg q,if_neg q,xK G (uL hb)]
   ·rw[if_neg dE]
    show (s,_)=asT (s,gA s _)
    unfold asT gA;dsimp only;by_cases q:ah s.nets p.1 p.2<0
    ·rw[if_pos q,if_pos q];rfl
    ·rw[if_neg q,if_neg q,xL (uL hb)]
 ·refine off ?_ (by simp only[aq,aQ];cases rd b<;>rfl)
  unfold qR;rw[if_neg sM,if_pos sM]
theorem Cx{s:Bk}(G:a8 s)(line:Bz):doR s line=bg s line:=by
 unfold doR;by_cases h:100<line.size
 ·rw[if_pos h,fY]
  ·rfl
  ·unfold aE;have:line.data.toList.length=line.size:=Array.length_toList
   rw[if_neg om]
 rw[if_neg h];obtain⟨w,ws,hp⟩:∃ w ws,ax 32 line.data.toList=w::ws:=by
  have:=dJ 32 line.data.toList
  cases q:ax 32 line.data.toList with
  | nil=>rw[q] at this;simp at this
  | cons w ws=>exact⟨w,ws,rfl⟩
 have hl:=sV h hp;have hr:=mh w;rw[hp];by_cases v0:vb w<0
 ·rw[if_pos v0] at hl;exact(gW (qK (by show vb w<8;omega)) (yE (ls:=w::ws) (.inl v0))).trans (fY hl).symm
 rw[if_neg v0] at hl;obtain⟨v,hv⟩:∃ v:Nat,vb w=v:=⟨(vb w).toNat,by omega⟩
 rw[hv,Int.toNat_natCast] at hl;rcases (show v=0\/v=1\/v=2\/v=3\/v=4\/v=5\/v=6\/v=7\/v=8\/v=9\/v=10 by omega) with rfl|rfl|rfl|rfl|rfl|rfl|rfl|rfl|rfl|rfl|rfl
 ·exact lJ G hv dE hl
 ·exact lJ G hv dE hl
 ·exact E9 G hv hl
 ·exact lJ G hv dE hl
 ·exact lJ G hv dE hl
 ·exact lJ G hv dE hl
 ·exact zK G hv dE hl
 ·exact zK G hv dE hl
 ·exact Fa G hv hl
 ·exact zL G hv dE hl
 ·exact zL G hv dE hl
end Go.Proofs.YtjnhhnbgjjkkjaaGreatDoor
