import Derived.Test.YtjnhhnbgjjkkjaaGreatDoorRePAS
set_option linter.all false
set_option maxRecDepth 100000
set_option maxHeartbeats 2000000
namespace Go.Proofs.YtjnhhnbgjjkkjaaGreatDoor
open Go.RowKit
def asT(y:Bk×An):Bk×Bz:=(y.1,⟨(aF y.2).toArray⟩)
theorem ul(t:Lu):(⟨#[79,75,32]⟩:Bz)++bs t=⟨(aF (ek ⟨t.toArray⟩)).toArray⟩:=by
 apply ByteArray.ext
 apply Array.ext'
 simp[bs,aF,ek]
theorem t8{s:Bk}(G:a7 s):∀ h,h∈s.pools->rt h.a h.n=true:=fun h hh=>(G.pr h hh).2.2
theorem gS{s:Bk}(G:a7 s):∀ h,h∈s.nets->rt h.a h.n=true:=fun h hh=>(G.nr h hh).2.2.1
theorem wl{s:Bk}{l:Ln}(G:a7 s)(hr:rt l.a l.n=true):je s l.o l.a l.n=asT (co s l):=by
 unfold je co;by_cases h1:l.n<8\/30<l.n
 ·rw[if_pos h1,if_pos h1];rfl
 rw[if_neg h1,if_neg h1]
 cases h2:aT s.pools l.a l.n with
 | true=>rfl
 | false =>
  rw[if_neg Bool.false_ne_true,if_neg Bool.false_ne_true];by_cases h3:6<=s.pools.length
  ·rw[if_pos h3,if_pos h3];rfl
  rw[if_neg h3,if_neg h3,gZ (Df G.pp) (kP (t8 G) hr h2)];rfl
theorem vf{s:Bk}{l:Ln}(G:a7 s)(hr:rt l.a l.n=true):ic s l.o l.a l.n=asT (cO s l):=by
 unfold ic cO;by_cases h1:ah s.pools l.a l.n<0
 ·rw[if_pos h1,if_pos h1];rfl
 rw[if_neg h1,if_neg h1];by_cases h2:(s.pools.getD (ah s.pools l.a l.n).toNat hd0).o≠l.o
 ·rw[if_pos h2,if_pos h2];rfl
 rw[if_neg h2,if_neg h2];by_cases h3:af s.nets l.a l.n≠[]
 ·rw[if_pos ((j8 (gS G) hr).2 h3),if_pos h3];rfl
 rw[if_neg (fun q=>h3 ((j8 (gS G) hr).1 q)),if_neg h3];rfl
theorem oh{s:Bk}{l:Ln}(G:a7 s)(hr:rt l.a l.n=true):du s l.o l.a l.n=asT (cP s l):=by
 unfold du cP;by_cases h1:ah s.nets l.a l.n<0
 ·rw[if_pos h1,if_pos h1];rfl
 rw[if_neg h1,if_neg h1];by_cases h2:(s.nets.getD (ah s.nets l.a l.n).toNat hd0).o≠l.o
 ·rw[if_pos h2,if_pos h2];rfl
 rw[if_neg h2,if_neg h2];by_cases h3:av s.leases l.a l.n≠[]
 ·rw[if_pos ((ib hr).2 h3),if_pos h3];rfl
 rw[if_neg (fun q=>h3 ((ib hr).1 q)),if_neg h3];rfl
theorem rv{s:Bk}{l:Ln}(G:a7 s)(hr:rt l.a l.n=true):fZ s l.o l.a l.n=asT (bG s l):=by
 unfold fZ bG;rw[jX (t8 G) hr];by_cases h1:l.n<22
 ·rw[if_pos h1,if_pos h1];rfl
 rw[if_neg h1,if_neg h1];by_cases h2:aQ s.pools l.a l.n<0
 ·rw[if_pos h2,if_pos h2];rfl
 rw[if_neg h2,if_neg h2]
 cases h3:aT s.nets l.a l.n with
 | true=>rfl
 | false =>
  rw[if_neg Bool.false_ne_true,if_neg Bool.false_ne_true];by_cases h4:24<=s.nets.length
  ·rw[if_pos h4,if_pos h4];rfl
  rw[if_neg h4,if_neg h4,gZ (Df G.np) (kP (gS G) hr h3)];rfl
theorem zD{s:Bk}{l:Ln}(G:a7 s)(hg:l.g<=32):l7 s l.o l.a l.n l.g=asT (dC s l):=by
 unfold l7 dC;by_cases h1:ah s.pools l.a l.n<0
 ·rw[if_pos h1,if_pos h1];rfl
 rw[if_neg h1,if_neg h1];by_cases h2:l.g<22\/l.g<l.n
 ·rw[if_pos h2,if_pos h2];rfl
 rw[if_neg h2,if_neg h2]
 cases hb:dJ (aL 33 (af s.nets l.a l.n) l.a l.n) l.g with
 | none=>rfl
 | some b =>
  have ha:=jH G hg h1 hb;unfold jd;dsimp only;by_cases h3:24<=s.nets.length
  ·rw[if_pos h3,if_pos h3];rfl
  rw[if_neg h3,if_neg h3,gZ (Df G.np) (by exact kP (gS G) ha.1 ha.2.2.2.1),ul];rfl
theorem zc{s:Bk}{d:Int}{h:Hd}(G:a7 s)(hh:h∈s.nets)(hl:dp s.leases h.a h.n=some d):∀ y,y∈s.leases->y.a≠d:=(fX G hh hl).2.2
theorem sq{s:Bk}{l:Ln}(G:a7 s):f7 s l.o l.a l.n=asT (bS s l):=by
 unfold f7 bS;by_cases h1:ah s.nets l.a l.n<0
 ·rw[if_pos h1,if_pos h1];rfl
 rw[if_neg h1,if_neg h1];obtain⟨m1,m2,m3⟩:=ee h1;have hf:=pz G m1;rw[m2,m3] at hf;rw[hf]
 cases hb:dp s.leases l.a l.n with
 | none=>rfl
 | some d =>
  have hne:=zc G m1 (by rw[m2,m3];exact hb)
  unfold eH;dsimp only;by_cases h3:40<=s.leases.length
  ·rw[if_pos h3,if_pos h3];rfl
  rw[if_neg h3,if_neg h3,jV G.lp hne,ul];rfl
theorem w8{s:Bk}{l:Ln}(G:a7 s):jf s l.o l.d=asT (cr s l):=by
 unfold jf cr;rw[jX (gS G) jO,iu G.lp];by_cases h1:aQ s.nets l.d 32<0
 ·rw[if_pos h1,if_pos h1];rfl
 rw[if_neg h1,if_neg h1];generalize s.nets.getD (aQ s.nets l.d 32).toNat hd0=h
 cases hu:usR h.a h.n l.d with
 | false =>
  have:¬(de h.a h.n<=l.d/\l.d<=dl h.a h.n):=fun q=>by rw[tC.2 q] at hu;cases hu
  rw[if_pos rfl,if_pos om];rfl
 | true =>
  have:=tC.1 hu
  rw[if_neg (show ¬(true=false) by decide),if_neg (show ¬(l.d<de h.a h.n\/dl h.a h.n<l.d) by omega)]
  cases hL:di s.leases l.d with
  | true=>rw[if_pos (show (0:Int)<=if true=true then (bM s.leases l.d:Int) else -1 by rw[if_pos rfl];omega)];rfl
  | false =>
   rw[if_neg (show ¬(0:Int)<=if false=true then (bM s.leases l.d:Int) else -1 by simp),if_neg Bool.false_ne_true]
   by_cases h3:40<=s.leases.length
   ·rw[if_pos h3,if_pos h3];rfl
   rw[if_neg h3,if_neg h3,jV G.lp (fun x hx e=>by rw[(gw G.lp l.d).2 ⟨x,hx,e⟩] at hL;cases hL)];rfl
theorem vw{s:Bk}{l:Ln}(G:a7 s):jc s l.o l.d=asT (cQ s l):=by
 unfold jc cQ;rw[iu G.lp]
 cases hL:di s.leases l.d with
 | false=>rfl
 | true =>
  have hk:bM s.leases l.d<s.leases.length:=by unfold di at hL;simp only[Bool.and_eq_true,decide_eq_true_eq] at hL;exact hL.1
  rw[if_pos rfl,if_pos rfl,if_neg (show ¬((bM s.leases l.d:Nat):Int)<0 by omega),Int.toNat_natCast,sD lsH ls0 _ _ hk]
  show (if (s.leases.getD (bM s.leases l.d) ls0).o≠l.o then _ else _)=_
  by_cases h2:(s.leases.getD (bM s.leases l.d) ls0).o≠l.o
  ·rw[if_pos h2,if_pos h2];rfl
  rw[if_neg h2,if_neg h2];rfl
theorem nC(adr:Bool)(L:List Hd)(t:Hd->Lu)(ht:∀ h,mQ adr h=32::t h):[79,75]++L.flatMap (mQ adr)=aF ⟨0,L.map fun h=>⟨(t h).toArray⟩⟩:=by
 unfold aF;rw[if_pos rfl];congr 1
 rw[List.flatMap_map];congr 1
 funext h
 rw[ht h]
theorem xg{s:Bk}{a n:Int}(G:a7 s)(hr:rt a n=true):bs (cm s.nets a n false)=⟨(aF ⟨0,(af s.nets a n).map fun h=>⟨(bH h).toArray⟩⟩).toArray⟩:=by
 unfold cm bs af;rw[List.filter_congr (q:=fun h=>inn h.a h.n a n) (fun x hx=>eX (gS G x hx) hr),nC false _ bH (fun h=>rfl)]
theorem GF:sz 0=4294967296:=by decide
theorem tw{s:Bk}(G:a7 s):bs (cm s.pools 0 0 false)=⟨(aF ⟨0,s.pools.map fun h=>⟨(bH h).toArray⟩⟩).toArray⟩:=by
 unfold cm bs;rw[List.filter_eq_self.2 (fun x hx=>?_),nC false _ bH (fun h=>rfl)]
 obtain⟨h1,h2,h3⟩:=G.pr x hx;obtain⟨r1,r2,r3⟩:=aj.1 h3;have:=gt x.a x.n r1 r2 h1 h2 r3
 exact te.2 ⟨h1,by rw[GF];omega⟩
theorem xi{s:Bk}{a n:Int}(hr:rt a n=true):bs (cm (s.leases.map lsH) a n true)=⟨(aF ⟨0,(av s.leases a n).map fun h=>⟨(dm h).toArray⟩⟩).toArray⟩:=by
 unfold cm bs av;rw[List.filter_map,List.filter_congr (p:=(fun h:Hd=>ri h.a h.n a n) ∘ lsH) (q:=fun h=>inn h.a 32 a n) (fun x hx=>eX (a:=x.a) (n:=32) jO hr)]
 unfold aF;rw[if_pos rfl,List.flatMap_map,List.flatMap_map];rfl
theorem Dz(y:Bk×An):(asT y).2.data.toList.take 2=[79,75] ↔ y.2.e=0:=by
 unfold asT aF;by_cases h:y.2.e=0
 ·simp[h]
 ·simp[h]
theorem vc{s:Bk}{l:Ln}(G:a7 s)(hr:rt l.a l.n=true)(hg:l.g<=32)(hv:l.v<8):b9 s l.v l.o l.a l.n l.g l.d=asT (aG s l):=by
 unfold b9 aG;rcases (show l.v=0\/l.v=1\/l.v=2\/l.v=3\/l.v=4\/l.v=5\/l.v=6\/l.v=7 by omega) with h|h|h|h|h|h|h|h<;>rw[h]
 ·exact wl G hr
 ·exact vf G hr
 ·exact zD G hg
 ·exact rv G hr
 ·exact oh G hr
 ·exact sq G
 ·exact w8 G
 ·exact vw G
theorem zh(s:Bk)(l:Ln):(aG s l).1.toks=s.toks:=by
 unfold aG;split
 ·unfold co;repeat' split
  all_goals rfl
 ·unfold cO;repeat' split
  all_goals rfl
 ·unfold dC;repeat' split
  all_goals rfl
 ·unfold bG;repeat' split
  all_goals rfl
 ·unfold cP;repeat' split
  all_goals rfl
 ·unfold bS;repeat' split
  all_goals rfl
 ·unfold cr;repeat' split
  all_goals rfl
 ·unfold cQ;repeat' split
  all_goals rfl
 all_goals rfl
theorem yq{s:Bk}{l:Ln}{line:Bz}{ls:List (Lu)}(G:a7 s)(hr:rt l.a l.n=true)(hg:l.g<=32)(hv:l.v<8)(ht:bs (ls.getD 1 [])=l.t)(hd:eT s ls=b9 s l.v l.o l.a l.n l.g l.d):
  doT s line ls (cU s.toks (bs (ls.getD 1 [])))=(match cU s.toks l.t with
   | some x=>if x.l≠line then (s,(⟨(aF (ref 3)).toArray⟩:Bz)) else (s,x.r)
   | none=>if (aG s l).2.e=0 then ({ (aG s l).1 with toks:=dI (aG s l).1.toks ⟨l.t,line,⟨(aF (aG s l).2).toArray⟩⟩ },⟨(aF (aG s l).2).toArray⟩) else ((aG s l).1,⟨(aF (aG s l).2).toArray⟩)):=by
 rw[ht]
 cases hf:cU s.toks l.t with
 | some x =>
  unfold doT;dsimp only;by_cases h:x.l=line
  ·rw[if_pos h,if_neg (fun q=>q h)]
  ·rw[if_neg h,if_pos h];rfl
 | none =>
  unfold doT;dsimp only;rw[hd,vc G hr hg hv,ht];unfold doK;by_cases h:(aG s l).2.e=0
  ·rw[if_pos ((Dz _).2 h),if_pos h];rfl
  ·rw[if_neg (fun q=>h ((Dz _).1 q)),if_neg h];rfl
theorem sJ{w:Lu}{k:Nat}(h:num w 32=some k):cV w 32=k/\k<=32:=by
 refine⟨by unfold cV;rw[h],?_⟩
 unfold num at h;have:=List.mem_of_find?_eq_some h
 rw[List.mem_range] at this;omega
theorem sI{w:Lu}(h:num w 32=none):cV w 32=-1:=by unfold cV;rw[h]
theorem ml{w:Lu}{k:Nat}(h:dq w=some k):bW w=k:=by unfold bW;rw[h]
theorem uH{w:Lu}(h:dq w=none):bW w=-1:=by unfold bW;rw[h]
theorem uo{w:Lu}{p:Int×Int}(h:rd w=some p):rt p.1 p.2=true:=by
 unfold rd at h;split at h
 ·split at h
  ·split at h
   ·rename_i hr
    cases h;exact hr
   ·cases h
  ·cases h
 ·cases h
theorem lC{w:Lu}{p:Int×Int}(h:rd w=some p):rdB w=p.1/\rdN w=p.2/\rdE w=0:=f9 (a:=p.1) (n:=p.2) h
theorem gO{s:Bk}{line:Bz}{ls:List (Lu)}(h1:qR s ls=none)(h2:fa ls=false):doQ s line ls (qR s ls)=(s,⟨(aF (ref 2)).toArray⟩):=by
 rw[h1];unfold doQ doC;rw[h2];rfl
theorem qk{s:Bk}{ls:List (Lu)}(h:vb (ls.getD 0 [])<8):qR s ls=none:=by
 unfold qR;rw[if_neg om,if_pos om]
theorem rP{s:Bk}{l:Ln}{line:Bz}{ls:List (Lu)}(h0:vb (ls.getD 0 [])<8)(hc:fa ls=true)(G:a7 s)(hr:rt l.a l.n=true)(hg:l.g<=32)(hv:l.v<8)(ht:bs (ls.getD 1 [])=l.t)(hd:eT s ls=b9 s l.v l.o l.a l.n l.g l.d)(hl:aD line.data.toList=some l):
  doQ s line ls (qR s ls)=bf s line:=by
 rw[qk h0];unfold doQ doC;rw[if_pos hc,yq G hr hg hv ht hd];unfold bf;rw[hl];dsimp only;rw[if_pos hv]
 cases cU s.toks l.t with
 | some x=>rfl
 | none=>rfl
theorem fS{s:Bk}{line:Bz}(h:aD line.data.toList=none):bf s line=(s,⟨(aF (ref 2)).toArray⟩):=by
 unfold bf;rw[h]
theorem Dd:rt 0 0=true:=by decide
theorem sy{line:Bz}{w:Lu}{ws:List (Lu)}(h:¬100<line.size)(hp:aw 32 line.data.toList=w::ws):aD line.data.toList=if vb w<0 then none else am (ln0 (vb w).toNat) (form (vb w).toNat) ws:=by
 unfold aD;have:line.data.toList.length=line.size:=Array.length_toList
 rw[if_pos om,hp];rfl
theorem dt{ls:List (Lu)}(h:¬(ls.length=4\/ls.length=5)):fa ls=false:=by unfold fa bX;simp[h]
theorem x9{ls:List (Lu)}(h:vb (ls.getD 0 [])<0\/8<=vb (ls.getD 0 [])):fa ls=false:=by
 unfold fa bX;rw[if_neg om,if_neg om,if_neg om];simp
theorem tO(s:Bk)(o:Bz)(a n g d:Int):b9 s ((0:Nat):Int) o a n g d=je s o a n:=by unfold b9;rw[if_pos dE]
theorem tP(s:Bk)(o:Bz)(a n g d:Int):b9 s ((1:Nat):Int) o a n g d=ic s o a n:=by unfold b9;rw[if_neg dE,if_pos dE]
theorem tQ(s:Bk)(o:Bz)(a n g d:Int):b9 s ((2:Nat):Int) o a n g d=l7 s o a n g:=by unfold b9;rw[if_neg dE,if_neg dE,if_pos dE]
theorem tR(s:Bk)(o:Bz)(a n g d:Int):b9 s ((3:Nat):Int) o a n g d=fZ s o a n:=by unfold b9;rw[if_neg dE,if_neg dE,if_neg dE,if_pos dE]
theorem tS(s:Bk)(o:Bz)(a n g d:Int):b9 s ((4:Nat):Int) o a n g d=du s o a n:=by unfold b9;rw[if_neg dE,if_neg dE,if_neg dE,if_neg dE,if_pos dE]
theorem tT(s:Bk)(o:Bz)(a n g d:Int):b9 s ((5:Nat):Int) o a n g d=f7 s o a n:=by unfold b9;rw[if_neg dE,if_neg dE,if_neg dE,if_neg dE,if_neg dE,if_pos dE]
theorem tU(s:Bk)(o:Bz)(a n g d:Int):b9 s ((6:Nat):Int) o a n g d=jf s o d:=by unfold b9;rw[if_neg dE,if_neg dE,if_neg dE,if_neg dE,if_neg dE,if_neg dE,if_pos dE]
theorem tW(s:Bk)(o:Bz)(a n g d:Int):b9 s ((7:Nat):Int) o a n g d=jc s o d:=by unfold b9;rw[if_neg dE,if_neg dE,if_neg dE,if_neg dE,if_neg dE,if_neg dE,if_neg dE]
theorem lq{s:Bk}{line:Bz}{w:Lu}{ws:List (Lu)}{v:Nat}(G:a7 s)(hv:vb w=v)(h3:v=0\/v=1\/v=3\/v=4\/v=5)(hl:aD line.data.toList=am (ln0 v) [1,2,3] ws):doQ s line (w::ws) (qR s (w::ws))=bf s line:=by
 have hv8:vb ((w::ws).getD 0 [])<8:=by show vb w<8;omega
 have hcm:∀ t o b,fa [w,t,o,b]=(ag t&&ag o&&decide (rdE b=0)):=fun t o b=>by
  show bX (vb w) 4 (ag t) (ag o) (bW b) (rdE b) _=_
  rw[hv];unfold bX;rw[if_neg om,if_neg om,if_pos om];simp
 have off:fa (w::ws)=false->am (ln0 v) [1,2,3] ws=none->doQ s line (w::ws) (qR s (w::ws))=bf s line:=fun h1 h2=>(gO (qk hv8) h1).trans (fS (hl.trans h2)).symm
 rcases ws with _|⟨t,_|⟨o,_|⟨b,_|⟨c,r⟩⟩⟩⟩
 ·exact off (dt sM) rfl
 ·exact off (dt sM) (by simp only[am,aP];cases ag t<;>rfl)
 ·exact off (dt sM) (by simp only[am,aP];cases ag t<;>cases ag o<;>rfl)
 ·cases ht:ag t with
  | false=>exact off (by rw[hcm,ht];rfl) (by simp only[am,aP,ht];rfl)
  | true =>
   cases ho:ag o with
   | false=>exact off (by rw[hcm,ht,ho];rfl) (by simp only[am,aP,ht,ho];rfl)
   | true =>
    cases hb:rd b with
    | none=>exact off (by rw[hcm,ht,ho,(cS hb).2.2];rfl) (by simp only[am,aP,ht,ho,hb];rfl)
    | some p =>
     obtain⟨e1,e2,e3⟩:=lC hb;have hl2:aD line.data.toList=some { ln0 v with t:=⟨t.toArray⟩,o:=⟨o.toArray⟩,a:=p.1,n:=p.2 }:=hl.trans (by simp only[am,aP,ht,ho,hb];rfl)
     refine rP hv8 (by rw[hcm,ht,ho,e3];rfl) G (uo hb) (show (0:Int)<=32 by decide) (show v<8 by omega) rfl ?_ hl2
     show b9 s (vb w) (bs o) (rdB b) (rdN b) _ (bW b)=b9 s (v:Int) (bs o) p.1 p.2 0 0
     rw[hv,e1,e2];rcases h3 with rfl|rfl|rfl|rfl|rfl
     ·rw[tO,tO]
     ·rw[tP,tP]
     ·rw[tR,tR]
     ·rw[tS,tS]
     ·rw[tT,tT]
 ·refine off ?_ (by simp only[am,aP];cases ag t<;>cases ag o<;>cases rd b<;>rfl)
  show bX (vb w) _ _ _ _ _ _=false
  rw[hv];unfold bX;rw[if_neg om,if_neg om,if_pos om];simp
theorem zd{s:Bk}{line:Bz}{w:Lu}{ws:List (Lu)}{v:Nat}(G:a7 s)(hv:vb w=v)(h3:v=6\/v=7)(hl:aD line.data.toList=am (ln0 v) [1,2,4] ws):doQ s line (w::ws) (qR s (w::ws))=bf s line:=by
 have hv8:vb ((w::ws).getD 0 [])<8:=by show vb w<8;omega
 have hcm:∀ t o b,fa [w,t,o,b]=(ag t&&ag o&&decide (0<=bW b)):=fun t o b=>by
  show bX (vb w) 4 (ag t) (ag o) (bW b) (rdE b) _=_
  rw[hv];unfold bX;rw[if_pos om];simp
 have off:fa (w::ws)=false->am (ln0 v) [1,2,4] ws=none->doQ s line (w::ws) (qR s (w::ws))=bf s line:=fun h1 h2=>(gO (qk hv8) h1).trans (fS (hl.trans h2)).symm
 rcases ws with _|⟨t,_|⟨o,_|⟨b,_|⟨c,r⟩⟩⟩⟩
 ·exact off (dt sM) rfl
 ·exact off (dt sM) (by simp only[am,aP];cases ag t<;>rfl)
 ·exact off (dt sM) (by simp only[am,aP];cases ag t<;>cases ag o<;>rfl)
 ·cases ht:ag t with
  | false=>exact off (by rw[hcm,ht];rfl) (by simp only[am,aP,ht];rfl)
  | true =>
   cases ho:ag o with
   | false=>exact off (by rw[hcm,ht,ho];rfl) (by simp only[am,aP,ht,ho];rfl)
   | true =>
    cases hb:dq b with
    | none=>exact off (by rw[hcm,ht,ho,uH hb];rfl) (by simp only[am,aP,ht,ho,hb];rfl)
    | some p =>
     have hl2:aD line.data.toList=some { ln0 v with t:=⟨t.toArray⟩,o:=⟨o.toArray⟩,d:=p }:=hl.trans (by simp only[am,aP,ht,ho,hb];rfl)
     refine rP hv8 (by rw[hcm,ht,ho,ml hb];simp) G Dd (show (0:Int)<=32 by decide) (show v<8 by omega) rfl ?_ hl2
     show b9 s (vb w) (bs o) (rdB b) (rdN b) _ (bW b)=b9 s (v:Int) (bs o) 0 0 0 p
     rw[hv,ml hb];rcases h3 with rfl|rfl
     ·rw[tU,tU]
     ·rw[tW,tW]
 ·refine off ?_ (by simp only[am,aP];cases ag t<;>cases ag o<;>cases dq b<;>rfl)
  show bX (vb w) _ _ _ _ _ _=false
  rw[hv];unfold bX;rw[if_pos om];simp
theorem EB{s:Bk}{line:Bz}{w:Lu}{ws:List (Lu)}(G:a7 s)(hv:vb w=2)(hl:aD line.data.toList=am (ln0 2) [1,2,3,5] ws):doQ s line (w::ws) (qR s (w::ws))=bf s line:=by
 have hv8:vb ((w::ws).getD 0 [])<8:=by show vb w<8;omega
 have hcm:∀ t o b g,fa [w,t,o,b,g]=(ag t&&ag o&&decide (rdE b=0)&&decide (0<=cV g 32)):=fun t o b g=>by
  show bX (vb w) 5 (ag t) (ag o) (bW b) (rdE b) (cV g 32)=_
  rw[hv];unfold bX;rw[if_neg om,if_pos rfl];simp[Bool.and_assoc]
 have off:fa (w::ws)=false->am (ln0 2) [1,2,3,5] ws=none->doQ s line (w::ws) (qR s (w::ws))=bf s line:=fun h1 h2=>(gO (qk hv8) h1).trans (fS (hl.trans h2)).symm
 rcases ws with _|⟨t,_|⟨o,_|⟨b,_|⟨g,_|⟨c,r⟩⟩⟩⟩⟩
 ·exact off (dt sM) rfl
 ·exact off (dt sM) (by simp only[am,aP];cases ag t<;>rfl)
 ·exact off (dt sM) (by simp only[am,aP];cases ag t<;>cases ag o<;>rfl)
 ·refine off ?_ (by simp only[am,aP];cases ag t<;>cases ag o<;>cases rd b<;>rfl)
  show bX (vb w) 4 _ _ _ _ _=false
  rw[hv];unfold bX;rw[if_neg om,if_pos rfl];simp
 ·cases ht:ag t with
  | false=>exact off (by rw[hcm,ht];rfl) (by simp only[am,aP,ht];rfl)
  | true =>
   cases ho:ag o with
   | false=>exact off (by rw[hcm,ht,ho];rfl) (by simp only[am,aP,ht,ho];rfl)
   | true =>
    cases hb:rd b with
    | none=>exact off (by rw[hcm,ht,ho,(cS hb).2.2];rfl) (by simp only[am,aP,ht,ho,hb];rfl)
    | some p =>
     obtain⟨e1,e2,e3⟩:=lC hb
     cases hn:num g 32 with
     | none=>exact off (by rw[hcm,ht,ho,e3,sI hn];rfl) (by simp only[am,aP,ht,ho,hb,hn];rfl)
     | some k =>
      obtain⟨n1,n2⟩:=sJ hn;have hl2:aD line.data.toList=some { ln0 2 with t:=⟨t.toArray⟩,o:=⟨o.toArray⟩,a:=p.1,n:=p.2,g:=k }:=hl.trans (by simp only[am,aP,ht,ho,hb,hn];rfl)
      refine rP hv8 (by rw[hcm,ht,ho,e3,n1];simp) G (uo hb) (show (k:Int)<=32 by omega) (show 2<8 by decide) rfl ?_ hl2
      show b9 s (vb w) (bs o) (rdB b) (rdN b) (cV g 32) (bW b)=b9 s ((2:Nat):Int) (bs o) p.1 p.2 k 0
      rw[show vb w=((2:Nat):Int) from hv,e1,e2,n1,tQ,tQ]
 ·refine off (dt sM) (by simp only[am,aP];cases ag t<;>cases ag o<;>cases rd b<;>cases num g 32<;>rfl)
theorem Dy{s:Bk}{l:Ln}{line:Bz}(h:aD line.data.toList=some l)(hv:¬l.v<8):bf s line=asT (aG s l):=by
 unfold bf;rw[h];dsimp only;rw[if_neg hv];rfl
theorem EC{s:Bk}{line:Bz}{w:Lu}{ws:List (Lu)}(G:a7 s)(hv:vb w=8)(hl:aD line.data.toList=am (ln0 8) [] ws):doQ s line (w::ws) (qR s (w::ws))=bf s line:=by
 rcases ws with _|⟨t,r⟩
 ·rw[Dy (l:=ln0 8) hl dE]
  have:qR s [w]=some (bs (cm s.pools 0 0 false)):=by unfold qR;rw[if_pos ⟨hv,rfl⟩]
  rw[this,tw G];rfl
 ·have hq:qR s (w::t::r)=none:=by
   unfold qR;rw[if_neg sM,if_pos (by simp only[List.getD_cons_zero];omega)]
  exact(gO hq (x9 (.inr (by show 8<=vb w;omega)))).trans (fS hl).symm
theorem ze{s:Bk}{line:Bz}{w:Lu}{ws:List (Lu)}{v:Nat}(G:a7 s)(hv:vb w=v)(h2:v=9\/v=10)(hl:aD line.data.toList=am (ln0 v) [3] ws):doQ s line (w::ws) (qR s (w::ws))=bf s line:=by
 have off:qR s (w::ws)=none->am (ln0 v) [3] ws=none->doQ s line (w::ws) (qR s (w::ws))=bf s line:=fun h1 h2=>(gO h1 (x9 (.inr (by show 8<=vb w;omega)))).trans (fS (hl.trans h2)).symm
 rcases ws with _|⟨b,_|⟨c,r⟩⟩
 ·exact off (by unfold qR;rw[if_neg (by simp only[List.getD_cons_zero];omega),if_pos sM]) rfl
 ·cases hb:rd b with
  | none =>
   refine off ?_ (by simp only[am,aP,hb];rfl)
   unfold qR;rw[if_neg sM,if_neg (not_not_intro ⟨rfl,by show vb w=9\/vb w=10;omega⟩),if_pos (by simp only[List.getD_cons_succ,List.getD_cons_zero];rw[(cS hb).2.2];decide)]
  | some p =>
   obtain⟨e1,e2,e3⟩:=lC hb;have hl2:aD line.data.toList=some { ln0 v with a:=p.1,n:=p.2 }:=hl.trans (by simp only[am,aP,hb];rfl)
   rw[Dy hl2 (show ¬v<8 by omega)]
   unfold qR;rw[if_neg sM,if_neg (not_not_intro ⟨rfl,by show vb w=9\/vb w=10;omega⟩),if_neg (by simp only[List.getD_cons_succ,List.getD_cons_zero];rw[e3];decide)]
   simp only[List.getD_cons_succ,List.getD_cons_zero]
   rw[e1,e2,hv];rcases h2 with rfl|rfl
   ·rw[if_pos dE]
    show (s,_)=asT (s,gm s _)
    unfold asT gm;dsimp only;by_cases q:ah s.pools p.1 p.2<0
    ·rw[if_pos q,if_pos q];rfl
    ·rw[if_neg q,if_neg q,xg G (uo hb)]
   ·rw[if_neg dE]
    show (s,_)=asT (s,gn s _)
    unfold asT gn;dsimp only;by_cases q:ah s.nets p.1 p.2<0
    ·rw[if_pos q,if_pos q];rfl
    ·rw[if_neg q,if_neg q,xi (uo hb)]
 ·refine off ?_ (by simp only[am,aP];cases rd b<;>rfl)
  unfold qR;rw[if_neg sM,if_pos sM]
theorem B7{s:Bk}(G:a7 s)(line:Bz):doR s line=bf s line:=by
 unfold doR;by_cases h:100<line.size
 ·rw[if_pos h,fS]
  ·rfl
  ·unfold aD;have:line.data.toList.length=line.size:=Array.length_toList
   rw[if_neg om]
 rw[if_neg h];obtain⟨w,ws,hp⟩:∃ w ws,aw 32 line.data.toList=w::ws:=by
  have:=dF 32 line.data.toList
  cases q:aw 32 line.data.toList with
  | nil=>rw[q] at this;simp at this
  | cons w ws=>exact⟨w,ws,rfl⟩
 have hl:=sy h hp;have hr:=lV w;rw[hp];by_cases v0:vb w<0
 ·rw[if_pos v0] at hl;exact(gO (qk (by show vb w<8;omega)) (x9 (ls:=w::ws) (.inl v0))).trans (fS hl).symm
 rw[if_neg v0] at hl;obtain⟨v,hv⟩:∃ v:Nat,vb w=v:=⟨(vb w).toNat,by omega⟩
 rw[hv,Int.toNat_natCast] at hl;rcases (show v=0\/v=1\/v=2\/v=3\/v=4\/v=5\/v=6\/v=7\/v=8\/v=9\/v=10 by omega) with rfl|rfl|rfl|rfl|rfl|rfl|rfl|rfl|rfl|rfl|rfl
 ·exact lq G hv dE hl
 ·exact lq G hv dE hl
 ·exact EB G hv hl
 ·exact lq G hv dE hl
 ·exact lq G hv dE hl
 ·exact lq G hv dE hl
 ·exact zd G hv dE hl
 ·exact zd G hv dE hl
 ·exact EC G hv hl
 ·exact ze G hv dE hl
 ·exact ze G hv dE hl
end Go.Proofs.YtjnhhnbgjjkkjaaGreatDoor
