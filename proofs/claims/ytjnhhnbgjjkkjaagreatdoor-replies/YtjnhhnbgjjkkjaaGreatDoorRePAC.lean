import Derived.Lib.ItoaNum
import Derived.Lib.AtoiAll
import Derived.Lib.Split
import Derived.Lib.Join
import Derived.Test.YtjnhhnbgjjkkjaaGreatDoorRePAA
set_option linter.all false
set_option maxRecDepth 100000
set_option maxHeartbeats 2000000
namespace Go.Proofs.YtjnhhnbgjjkkjaaGreatDoor
open Go.RowKit
def dec(n:Nat):Lu:=Lib.decDigits n
def val(l:Lu):Nat:=l.foldl (fun a c=>10*a+(c.toNat-48)) 0
theorem BH(l:Lu)(c:UInt8):val (l++[c])=10*val l+(c.toNat-48):=by simp[val]
theorem mT(d:Nat)(h:d<10):(UInt8.ofNat (48+d)).toNat-48=d:=by
 rw[UInt8.toNat_ofNat_of_lt' (by simp[UInt8.size];omega)];omega
theorem uY(n:Nat):val (dec n)=n:=by
 induction n using Nat.strongRecOn with
 | ind n ih =>
  unfold dec;rw[Lib.decDigits];split
  ·rename_i h;have:=mT n h
   simp[val];omega
  ·rename_i h;have e:=ih (n / 10) (by omega)
   unfold dec at e;rw[BH,e,mT _ (by omega)];omega
theorem Cp{a b:Nat}(h:dec a=dec b):a=b:=by rw[<- uY a,<- uY b,h]
def sa(n:Nat):Lu :=
 if n<10 then [UInt8.ofNat (48+n)] else if n<100 then [UInt8.ofNat (48+n / 10),UInt8.ofNat (48+n%10)]
 else [UInt8.ofNat (48+n / 100),UInt8.ofNat (48+n / 10%10),UInt8.ofNat (48+n%10)]
theorem pJ(n:Nat)(h:n<1000):dec n=sa n:=by
 unfold dec sa;by_cases h1:n<10
 ·rw[if_pos h1,Lib.decDigits_one h1]
 ·rw[if_neg h1];by_cases h2:n<100
  ·rw[if_pos h2,Lib.decDigits_two h1 h2]
  ·rw[if_neg h2,Lib.decDigits,dif_neg h1,Lib.decDigits_two (by omega) (by omega)]
   simp[Nat.div_div_eq_div_mul]
theorem yi:∀ n:Fin 256,Lib.atoiAll (sa n)=.ok ((n:Nat):Int):=by decide +kernel
theorem yg(n:Nat)(h:n<256):Lib.atoiAll (dec n)=.ok (n:Int):=by rw[pJ n (by omega)];exact yi ⟨n,h⟩
def num(l:Lu)(most:Nat):Option Nat:=(List.range (most+1)).find? fun n=>dec n==l
theorem bA{l:Lu}{most n:Nat}:num l most=some n ↔ n<=most/\dec n=l:=by
 unfold num;constructor
 ·intro h;have h1:=List.find?_some h
  have h2:=List.mem_of_find?_eq_some h
  simp at h1 h2;exact⟨by omega,h1⟩
 ·rintro⟨h1,rfl⟩
  rcases e:(List.range (most+1)).find? (fun m=>dec m==dec n) with _|m
  ·have:=List.find?_eq_none.1 e n (by simp;omega)
   simp at this
  ·have:=List.find?_some e
   simp at this;rw[Cp this]
theorem lM{l:Lu}{most:Nat}:num l most=none ↔ ∀ n,n<=most->dec n≠l:=by
 constructor
 ·intro h n hn e;rw[bA.2 ⟨hn,e⟩] at h;cases h
 ·intro h;rcases e:num l most with _|n
  ·rfl
  ·exact absurd (bA.1 e).2 (h n (bA.1 e).1)
theorem qE{l:Lu}{most:Nat}(hm:most<=255){v:Int}(h:Lib.atoiAll l=.ok v)(h0:0<=v)(h1:v<=most)(e:Lib.itoa v=l):num l most=some v.toNat:=by
 refine bA.2 ⟨by omega,?_⟩
 unfold Lib.itoa at e;rw[if_neg (by omega)] at e
 exact e
theorem kP{l:Lu}{most:Nat}(hm:most<=255)(h:∀ n:Nat,n<=most->Lib.atoiAll l=.ok (n:Int)->Lib.itoa n≠l):num l most=none:=by
 refine lM.2 fun n hn e=>?_
 have ha:=yg n (by omega)
 rw[e] at ha;refine h n hn ha ?_
 unfold Lib.itoa;rw[if_neg (by omega)]
 simpa[dec] using e
def dm(c:UInt8)(s:List (Lu)×Lu)(x:UInt8):List (Lu)×Lu:=if x=c then (s.1++[s.2],[]) else (s.1,s.2++[x])
def bh(c:UInt8)(s:List (Lu)×Lu)(l:Lu):List (Lu)×Lu:=l.foldl (dm c) s
def ax(c:UInt8)(l:Lu):List (Lu):=(bh c ([],[]) l).1++[(bh c ([],[]) l).2]
theorem n9(c:UInt8)(l:Lu):∀ (F:List (Lu)) (cur:Lu),(bh c (F,cur) l).1=F++(bh c ([],cur) l).1/\(bh c (F,cur) l).2=(bh c ([],cur) l).2:=by
 induction l with
 | nil=>intro F cur;simp[bh]
 | cons x r ih =>
  intro F cur;simp only[bh,List.foldl_cons,dm]
  split
  ·have h1:=ih (F++[cur]) []
   have h2:=ih ([]++[cur]) []
   simp only[bh] at h1 h2
   rw[h1.1,h1.2,h2.1,h2.2];simp
  ·exact ih F (cur++[x])
theorem ki(c:UInt8)(l:Lu)(h:c∉l):∀ (F:List (Lu)) (cur:Lu),bh c (F,cur) l=(F,cur++l):=by
 induction l with
 | nil=>intro F cur;simp[bh]
 | cons x r ih =>
  intro F cur;have hx:¬x=c:=fun e=>h (by simp[e])
  have hr:c∉r:=fun e=>h (by simp[e])
  have:=ih hr F (cur++[x])
  simp only[bh,List.foldl_cons,dm,if_neg hx] at this ⊢
  rw[this];simp
theorem cE(c:UInt8)(l:Lu)(h:c∉l):ax c l=[l]:=by
 unfold ax;rw[ki c l h];simp
theorem bC(c:UInt8)(a b:Lu)(h:c∉a):ax c (a++c::b)=a::ax c b:=by
 have e:bh c ([],[]) (a++c::b)=bh c ([a],[]) b:=by
  have:=ki c a h [] []
  simp only[bh] at this ⊢
  rw[List.foldl_append,this,List.foldl_cons,dm,if_pos rfl];simp
 have h1:=n9 c b [a] []
 unfold ax;rw[e,h1.1,h1.2];simp
theorem dJ(c:UInt8)(l:Lu):1<=(ax c l).length:=by unfold ax;simp
theorem eR(c:UInt8)(l:Lu):c∉l\/∃ a b,l=a++c::b/\c∉a:=by
 induction l with
 | nil=>exact .inl sM
 | cons x r ih =>
  by_cases hx:x=c
  ·exact .inr ⟨[],r,by simp[hx],by simp⟩
  ·rcases ih with h|⟨a,b,e,h⟩
   ·exact .inl (by simp;exact⟨fun e=>hx e.symm,h⟩)
   ·exact .inr ⟨x::a,b,by simp[e],by simp;exact⟨fun e=>hx e.symm,h⟩⟩
theorem lx(c:UInt8)(hc:c.toNat<48\/57<c.toNat)(n:Nat):c∉dec n:=by
 induction n using Nat.strongRecOn with
 | ind n ih =>
  have hd:∀ d,d<10->c≠UInt8.ofNat (48+d):=by
   intro d hd e;have:=congrArg UInt8.toNat e
   rw[UInt8.toNat_ofNat_of_lt' (by simp[UInt8.size];omega)] at this
   omega
  unfold dec;rw[Lib.decDigits];split
  ·rename_i h;rw[List.mem_singleton];exact hd n h
  ·rename_i h;have:=ih (n / 10) (by omega)
   unfold dec at this;rw[List.mem_append,List.mem_singleton];exact fun e=>e.elim this (hd _ (by omega))
def four(p0 p1 p2 p3:Lu):Option Nat :=
 match num p0 255,num p1 255,num p2 255,num p3 255 with
 | some a,some b,some c,some d=>some (((a*256+b)*256+c)*256+d)
 | _,_,_,_=>none
def dv(l:Lu):Option Nat :=
 match ax 46 l with
 | [p0,p1,p2,p3]=>four p0 p1 p2 p3
 | _=>none
def rd(l:Lu):Option (Int×Int) :=
 match ax 47 l with
 | [x,y]=>match dv x,num y 32 with
  | some a,some n=>if rt a n then some ((a:Int),(n:Int)) else none
  | _,_=>none
 | _=>none
def dot(a:Nat):Lu:=dec (a / 16777216)++46::(dec (a / 65536%256)++46::(dec (a / 256%256)++46::dec (a%256)))
def wr(a n:Nat):Lu:=dot a++47::dec n
structure Hd where
 a:Int
 n:Int
 o:Bz
structure Ls where
 a:Int
 o:Bz
structure Tk where
 t:Bz
 l:Bz
 r:Bz
structure Bk where
 pools:List Hd
 nets:List Hd
 leases:List Ls
 toks:List Tk
structure Ln where
 v:Nat
 t:Bz
 o:Bz
 a:Int
 n:Int
 d:Int
 g:Int
def hd0:Hd:=⟨0,0,⟨#[]⟩⟩
def ls0:Ls:=⟨0,⟨#[]⟩⟩
def tk0:Tk:=⟨⟨#[]⟩,⟨#[]⟩,⟨#[]⟩⟩
def ln0(v:Nat):Ln:=⟨v,⟨#[]⟩,⟨#[]⟩,0,0,0,0⟩
def bk0:Bk:=⟨[],[],[],[]⟩
def fi{α:Type}(p:α->Bool):List α->Int
 | []=>-1
 | x::r=>if p x then 0 else if fi p r<0 then -1 else fi p r+1
theorem gY{α:Type}(p:α->Bool)(l:List α)(h:∀ x,x∈l->p x=false):fi p l=-1:=by
 induction l with
 | nil=>rfl
 | cons x r ih =>
  have e:=ih (fun y hy=>h y (List.mem_cons_of_mem _ hy))
  simp[fi,h x (List.mem_cons_self),e]
theorem iD{α:Type}(p:α->Bool)(l:List α)(d:α)(k:Nat)(hk:k<l.length)(h:∀ j,j<k->p (l.getD j d)=false)(hp:p (l.getD k d)=true):fi p l=k:=by
 induction l generalizing k with
 | nil=>simp at hk
 | cons x r ih =>
  cases k with
  | zero=>simp at hp;simp[fi,hp]
  | succ k =>
   have h0:p x=false:=by simpa using h 0 (by omega)
   have e:=ih k (by simpa using hk) (fun j hj=>by simpa using h (j+1) (by omega)) (by simpa using hp)
   have h2:¬((k:Int)<0):=by omega
   simp only[fi,h0,e,h2,if_false,Bool.false_eq_true];omega
theorem aV{α:Type}(p:α->Bool)(l:List α)(d:α):(fi p l=-1/\∀ x,x∈l->p x=false)\/∃ k:Nat,k<l.length/\fi p l=k/\p (l.getD k d)=true/\∀ j,j<k->p (l.getD j d)=false:=by
 induction l with
 | nil=>exact .inl ⟨rfl,by simp⟩
 | cons x r ih =>
  rcases hx:p x with _|_
  ·rcases ih with⟨e,h⟩|⟨k,hk,e,hp,h⟩
   ·exact .inl ⟨by simp[fi,hx,e],by intro y hy;rcases List.mem_cons.1 hy with rfl|hy;exact hx;exact h y hy⟩
   ·refine .inr ⟨k+1,by simpa using hk,?_,by simpa using hp,?_⟩
    ·have h2:¬((k:Int)<0):=by omega
     simp only[fi,hx,e,h2,if_false,Bool.false_eq_true];omega
    ·intro j hj
     cases j with
     | zero=>simpa using hx
     | succ j=>simpa using h j (by omega)
  ·exact .inr ⟨0,by simp,by simp[fi,hx],by simpa using hx,by omega⟩
def isH(a n:Int)(h:Hd):Bool:=decide (h.a=a)&&decide (h.n=n)
def inn(a n b m:Int):Bool:=decide (m<=n)&&mm a n b m
def bR(a n:Int)(h:Hd):Bool:=mm h.a h.n a n
def bM(a n:Int)(h:Hd):Bool:=inn a n h.a h.n
def ah(l:List Hd)(a n:Int):Int:=fi (isH a n) l
def aR(l:List Hd)(a n:Int):Int:=fi (bM a n) l
def aU(l:List Hd)(a n:Int):Bool:=l.any (bR a n)
def fk(l:List Hd)(a:Int):Nat:=l.countP fun h=>decide (h.a<a)
def cm(l:List Hd)(h:Hd):List Hd:=l.take (fk l h.a)++h::l.drop (fk l h.a)
def aA{α:Type}(l:List α)(k:Nat):List α:=l.take k++l.drop (k+1)
def af(nets:List Hd)(a n:Int):List Hd:=nets.filter fun h=>inn h.a h.n a n
def aw(ls:List Ls)(a n:Int):List Ls:=ls.filter fun l=>inn l.a 32 a n
def bO(l:List Ls)(a:Int):Nat:=l.countP fun x=>decide (x.a<a)
def dp(l:List Ls)(a:Int):Bool:=decide (bO l a<l.length)&&decide ((l.getD (bO l a) ls0).a=a)
def dR(l:List Ls)(x:Ls):List Ls:=l.take (bO l x.a)++x::l.drop (bO l x.a)
def aM:Nat->List Hd->Int->Int->List (Int×Int)
 | 0,_,_,_=>[]
 | k+1,l,a,n=>if !aU l a n then [(a,n)] else if 0<=aR l a n then [] else aM k l a (n+1)++aM k l (a+sz (n+1)) (n+1)
def aX(bits:Int)(s:Option (Int×Int))(b:Int×Int):Option (Int×Int) :=
 if b.2<=bits then (match s with|none=>some b|some c=>if c.2<b.2 then some b else some c) else s
def dN(l:List (Int×Int))(bits:Int):Option (Int×Int):=l.foldl (aX bits) none
def dh(a n:Int):Int:=if n<=30 then a+1 else a
def dr(a n:Int):Int:=if n<=30 then lst a n-1 else lst a n
def bP(last:Int):Int->List Ls->Option Int
 | x,[]=>some x
 | x,l::r=>if l.a≠x then some x else if x=last then none else bP last (x+1) r
def du(ls:List Ls)(a n:Int):Option Int:=bP (dr a n) (dh a n) (aw ls a n)
structure An where
 e:Nat
 s:List Bz
def ref(e:Nat):An:=⟨e,[]⟩
def okA:An:=⟨0,[]⟩
def eB(s:Bz):An:=⟨0,[s]⟩
def gm:List (Lu):=[[79,75],[69,82,82],[76,73,78,69],[84,79,75,69,78],[82,65,78,71,69],[79,86,69,82,76,65,80],[76,73,77,73,84],[80,79,79,76],[79,87,78,69,82],[66,85,83,89],[70,85,76,76],[78,69,84],[65,68,68,82],[84,65,75,69,78]]
def aG(x:An):Lu:=if x.e=0 then [79,75]++x.s.flatMap (fun t=>32::t.data.toList) else [69,82,82,32]++gm.getD x.e []
def cF(a n:Int):Lu:=wr a.toNat n.toNat
def bJ(h:Hd):Lu:=cF h.a h.n++61::h.o.data.toList
def dt(l:Ls):Lu:=dot l.a.toNat++61::l.o.data.toList
def ag(l:Lu):Bool:=decide (0<l.length)&&decide (l.length<=8)&&l.all fun c=>(decide (97<=c.toNat)&&decide (c.toNat<=122))||(decide (48<=c.toNat)&&decide (c.toNat<=57))
def form(v:Nat):List Nat :=
 if v=2 then [1,2,3,5] else if v=6\/v=7 then [1,2,4] else if v<8 then [1,2,3] else if v=8 then [] else [3]
def aY:List (Lu):=[[80,79,79,76],[68,82,79,80],[78,69,84],[66,76,79,67,75],[70,82,69,69],[76,69,65,83,69],[84,65,75,69],[71,73,86,69],[80,79,79,76,83],[78,69,84,83],[85,83,69,68]]
def aQ(l:Ln)(p:Nat)(w:Lu):Option Ln :=
 if p=1 then (if ag w then some { l with t:=⟨w.toArray⟩ } else none)
 else if p=2 then (if ag w then some { l with o:=⟨w.toArray⟩ } else none)
 else if p=3 then (match rd w with|some b=>some { l with a:=b.1,n:=b.2 }|none=>none)
 else if p=4 then (match dv w with|some d=>some { l with d:=d }|none=>none)
 else if p=5 then (match num w 32 with|some g=>some { l with g:=g }|none=>none)
 else none
def aq:Ln->List Nat->List (Lu)->Option Ln
 | l,[],[]=>some l
 | l,p::ps,w::ws=>match aQ l p w with|some l'=>aq l' ps ws|none=>none
 | _,_,_=>none
def aE(s:Lu):Option Ln :=
 if s.length<=100 then
  match ax 32 s with
  | w::ws=>if fi (fun v=>v==w) aY<0 then none else aq (ln0 (fi (fun v=>v==w) aY).toNat) (form (fi (fun v=>v==w) aY).toNat) ws
  | []=>none
 else none
def cy(s:Bk)(l:Ln):Bk×An :=
 if l.n<8\/30<l.n then (s,ref 4) else if aU s.pools l.a l.n then (s,ref 5) else if 6<=s.pools.length then (s,ref 6)
 else ({ s with pools:=cm s.pools ⟨l.a,l.n,l.o⟩ },okA)
def cR(s:Bk)(l:Ln):Bk×An :=
 if ah s.pools l.a l.n<0 then (s,ref 7) else if (s.pools.getD (ah s.pools l.a l.n).toNat hd0).o≠l.o then (s,ref 8)
 else if af s.nets l.a l.n≠[] then (s,ref 9) else ({ s with pools:=aA s.pools (ah s.pools l.a l.n).toNat },okA)
def dH(s:Bk)(l:Ln):Bk×An :=
 if ah s.pools l.a l.n<0 then (s,ref 7) else if l.g<22\/l.g<l.n then (s,ref 4)
 else match dN (aM 33 (af s.nets l.a l.n) l.a l.n) l.g with
  | none=>(s,ref 10)
  | some b=>if 24<=s.nets.length then (s,ref 6) else ({ s with nets:=cm s.nets ⟨b.1,l.g,l.o⟩ },eB ⟨(cF b.1 l.g).toArray⟩)
def bI(s:Bk)(l:Ln):Bk×An :=
 if l.n<22 then (s,ref 4) else if aR s.pools l.a l.n<0 then (s,ref 7) else if aU s.nets l.a l.n then (s,ref 5)
 else if 24<=s.nets.length then (s,ref 6) else ({ s with nets:=cm s.nets ⟨l.a,l.n,l.o⟩ },okA)
def cS(s:Bk)(l:Ln):Bk×An :=
 if ah s.nets l.a l.n<0 then (s,ref 11) else if (s.nets.getD (ah s.nets l.a l.n).toNat hd0).o≠l.o then (s,ref 8)
 else if aw s.leases l.a l.n≠[] then (s,ref 9) else ({ s with nets:=aA s.nets (ah s.nets l.a l.n).toNat },okA)
def bU(s:Bk)(l:Ln):Bk×An :=
 if ah s.nets l.a l.n<0 then (s,ref 11)
 else match du s.leases l.a l.n with
  | none=>(s,ref 10)
  | some d=>if 40<=s.leases.length then (s,ref 6) else ({ s with leases:=dR s.leases ⟨d,l.o⟩ },eB ⟨(dot d.toNat).toArray⟩)
def cA(s:Bk)(l:Ln):Bk×An :=
 if aR s.nets l.d 32<0 then (s,ref 11)
 else if l.d<dh (s.nets.getD (aR s.nets l.d 32).toNat hd0).a (s.nets.getD (aR s.nets l.d 32).toNat hd0).n\/dr (s.nets.getD (aR s.nets l.d 32).toNat hd0).a (s.nets.getD (aR s.nets l.d 32).toNat hd0).n<l.d then (s,ref 12)
 else if dp s.leases l.d then (s,ref 13) else if 40<=s.leases.length then (s,ref 6) else ({ s with leases:=dR s.leases ⟨l.d,l.o⟩ },okA)
def cU(s:Bk)(l:Ln):Bk×An :=
 if dp s.leases l.d then (if (s.leases.getD (bO s.leases l.d) ls0).o≠l.o then (s,ref 8) else ({ s with leases:=aA s.leases (bO s.leases l.d) },okA)) else (s,ref 12)
def gy(s:Bk)(l:Ln):An:=if ah s.pools l.a l.n<0 then ref 7 else ⟨0,(af s.nets l.a l.n).map fun h=>⟨(bJ h).toArray⟩⟩
def gA(s:Bk)(l:Ln):An:=if ah s.nets l.a l.n<0 then ref 11 else ⟨0,(aw s.leases l.a l.n).map fun h=>⟨(dt h).toArray⟩⟩
def aH(s:Bk)(l:Ln):Bk×An :=
 match l.v with
 | 0=>cy s l
 | 1=>cR s l
 | 2=>dH s l
 | 3=>bI s l
 | 4=>cS s l
 | 5=>bU s l
 | 6=>cA s l
 | 7=>cU s l
 | 8=>(s,⟨0,s.pools.map fun h=>⟨(bJ h).toArray⟩⟩)
 | 9=>(s,gy s l)
 | 10=>(s,gA s l)
 | _=>(s,ref 2)
def cX(l:List Tk)(t:Bz):Option Tk:=(l.filter fun x=>decide (x.t=t)).head?
def dM(l:List Tk)(x:Tk):List Tk:=(if 8<=l.length then l.drop 1 else l)++[x]
def bg(s:Bk)(line:Bz):Bk×Bz :=
 match aE line.data.toList with
 | none=>(s,⟨(aG (ref 2)).toArray⟩)
 | some l =>
  if l.v<8 then
   match cX s.toks l.t with
   | some x=>if x.l≠line then (s,⟨(aG (ref 3)).toArray⟩) else (s,x.r)
   | none =>
    let y:=aH s l
    if y.2.e=0 then ({ y.1 with toks:=dM y.1.toks ⟨l.t,line,⟨(aG y.2).toArray⟩⟩ },⟨(aG y.2).toArray⟩) else (y.1,⟨(aG y.2).toArray⟩)
  else ((aH s l).1,⟨(aG (aH s l).2).toArray⟩)
theorem oa{α:Type}(f:α->Int)(a:Int)(l:List α)(h:l.Pairwise (fun x y=>f x<=f y)):
  (∀ y,y∈l.take (l.countP fun y=>decide (f y<a))->f y<a)/\(∀ y,y∈l.drop (l.countP fun y=>decide (f y<a))->a<=f y):=by
 induction l with
 | nil=>simp
 | cons x r ih =>
  rw[List.pairwise_cons] at h;by_cases hx:f x<a
  ·have:=ih h.2
   rw[List.countP_cons_of_pos (by simpa using hx)]
   simp only[List.take_succ_cons,List.drop_succ_cons,List.mem_cons]
   exact⟨fun y hy=>hy.elim (fun e=>e ▸ hx) (this.1 y),this.2⟩
  ·have h0:r.countP (fun y=>decide (f y<a))=0:=List.countP_eq_zero.2 (fun y hy=>by have:=h.1 y hy;simp;omega)
   rw[List.countP_cons_of_neg (by simpa using hx),h0]
   simp only[List.take_zero,List.drop_zero,List.mem_cons,List.not_mem_nil,false_imp_iff,implies_true,true_and]
   intro y hy;rcases hy with rfl|hy
   ·omega
   ·have:=h.1 y hy;omega
theorem qH{α:Type}(R:α->α->Prop)(f:α->Int)(x:α)(l:List α)(hs:l.Pairwise (fun a b=>f a<=f b))(h:l.Pairwise R)(h1:∀ y,y∈l->f y<f x->R y x)(h2:∀ y,y∈l->f x<=f y->R x y):
  (l.take (l.countP fun y=>decide (f y<f x))++x::l.drop (l.countP fun y=>decide (f y<f x))).Pairwise R:=by
 obtain⟨c1,c2⟩:=oa f (f x) l hs
 have h3:(l.take (l.countP fun y=>decide (f y<f x))++l.drop (l.countP fun y=>decide (f y<f x))).Pairwise R:=by rw[List.take_append_drop];exact h
 rw[List.pairwise_append] at h3 ⊢;refine⟨h3.1,List.pairwise_cons.2 ⟨fun y hy=>h2 y (List.mem_of_mem_drop hy) (c2 y hy),h3.2.1⟩,fun y hy z hz=>?_⟩
 rcases List.mem_cons.1 hz with rfl|hz
 ·exact h1 y (List.mem_of_mem_take hy) (c1 y hy)
 ·exact h3.2.2 y hy z hz
theorem qA{α:Type}{l:List α}{c:Nat}{x y:α}:y∈l.take c++x::l.drop c ↔ y=x\/y∈l:=by
 rw[List.mem_append,List.mem_cons];have e:y∈l ↔ y∈l.take c\/y∈l.drop c:=by rw[<- List.mem_append,List.take_append_drop]
 rw[e];constructor
 ·rintro (h|h|h)
  ·exact .inr (.inl h)
  ·exact .inl h
  ·exact .inr (.inr h)
 ·rintro (h|h|h)
  ·exact .inr (.inl h)
  ·exact .inl h
  ·exact .inr (.inr h)
theorem fa{l:List Hd}{x y:Hd}:y∈cm l x ↔ y=x\/y∈l:=qA
theorem qy{l:List Ls}{x y:Ls}:y∈dR l x ↔ y=x\/y∈l:=qA
theorem jJ{α:Type}(l:List α)(k:Nat):List.Sublist (aA l k) l:=by
 unfold aA;rw[show l.drop (k+1)=(l.drop k).drop 1 by rw[List.drop_drop]]
 have:=List.Sublist.append (List.Sublist.refl (l.take k)) (List.drop_sublist 1 (l.drop k))
 rwa [List.take_append_drop] at this
theorem uG{α:Type}{l:List α}{k:Nat}(d:α){y:α}(h:y∈l):y=l.getD k d\/y∈aA l k:=by
 unfold aA;obtain⟨i,hi,rfl⟩:=List.mem_iff_getElem.1 h;by_cases e:i=k
 ·subst e;exact .inl (by simp[List.getD_eq_getElem?_getD,hi])
 ·refine .inr (List.mem_append.2 ?_)
  by_cases hlt:i<k
  ·exact .inl (List.mem_iff_getElem.2 ⟨i,by simp;omega,by simp⟩)
  ·exact .inr (List.mem_iff_getElem.2 ⟨i-(k+1),by simp;omega,by simp;congr 1;omega⟩)
theorem uU{m n:Int}(h:m<=n)(h1:n<=32):sz n<=sz m:=by
 obtain⟨q,e,hq⟩:=oR m n h h1;have:=aD n
 rw[e];have:sz n*1<=sz n*q:=Int.mul_le_mul_of_nonneg_left (by omega) (by omega)
 omega
theorem FG{n:Int}(h:n<32):2<=sz n:=by have:=db n h;have:=aD (n+1);omega
theorem df{a n b m:Int}(hr:rt a n=true)(hc:rt b m=true):mm a n b m=true ↔ a<b+sz m/\b<a+sz n:=by
 rw[uH a n b m hr hc];simp
theorem nk{a n b m:Int}(hr:rt a n=true)(hc:rt b m=true):mm a n b m=false ↔ b+sz m<=a\/a+sz n<=b:=by
 rw[uH a n b m hr hc];simp;omega
theorem ee{a n b m:Int}(hr:rt a n=true)(hc:rt b m=true):inn a n b m=true ↔ m<=n/\b<=a/\a+sz n<=b+sz m:=by
 obtain⟨n0,n1,an⟩:=aj.1 hr;obtain⟨m0,m1,bm⟩:=aj.1 hc;unfold inn;rw[Bool.and_eq_true,decide_eq_true_eq,df hr hc];have hp:=aD n;have hpm:=aD m;constructor
 ·rintro⟨h,h1,h2⟩
  have bn:=et b m n h n1 bm;obtain⟨q,e,_⟩:=oR m n h n1;have bn2:(b+sz m)%sz n=0:=by rw[e,Int.add_mul_emod_self_left];exact bn
  have h3:b<=a:=oM b a (sz n) hp bn an h2
  have h4:a+sz n<=b+sz m:=by
   have an2:(a+sz n)%sz n=0:=by rw[Int.add_emod_right];exact an
   exact oM _ _ (sz n) hp an2 bn2 (by omega)
  exact⟨h,h3,h4⟩
 ·rintro⟨h,h1,h2⟩
  exact⟨h,by omega,by omega⟩
theorem DD{a n m:Int}(hr:rt a n=true)(h:n<=m)(h1:m<=32):rt a m=true:=by
 obtain⟨n0,n1,an⟩:=aj.1 hr;exact aj.2 ⟨by omega,h1,et a n m h h1 an⟩
theorem jZ{a:Int}:rt a 32=true:=aj.2 ⟨by omega,by omega,by rw[Br];omega⟩
theorem i8(l:List Hd)(hl:∀ h,h∈l->rt h.a h.n=true)(k:Nat):∀ a n,rt a n=true->∀ b,b∈aM k l a n->rt b.1 b.2=true/\n<=b.2/\a<=b.1/\b.1+sz b.2<=a+sz n/\aU l b.1 b.2=false:=by
 induction k with
 | zero=>intro a n _ b hb;simp[aM] at hb
 | succ k ih =>
  intro a n hr b hb;unfold aM at hb;split at hb
  ·rename_i h;rw[List.mem_singleton] at hb;subst hb;exact⟨hr,Int.le_refl _,Int.le_refl _,Int.le_refl _,by simpa using h⟩
  ·rename_i h;split at hb
   ·simp at hb
   ·rename_i hs;obtain⟨n0,n1,an⟩:=aj.1 hr;have hn:n<32:=by
     rcases Int.lt_or_le n 32 with q|q
     ·exact q
     ·exfalso
      have hn32:n=32:=by omega
      simp only[Bool.not_eq_true',Bool.not_eq_false] at h
      unfold aU at h;obtain⟨y,hy,hm⟩:=List.any_eq_true.1 h;refine hs ?_
      unfold aR;rcases aV (bM a n) l hd0 with⟨_,q⟩|⟨j,_,e,_⟩
      ·have:=q y hy
       unfold bM at this;unfold bR at hm;have hyr:=hl y hy;obtain⟨_,y1,_⟩:=aj.1 hyr;unfold inn at this;rw[jh] at hm;rw[hm,Bool.and_true,decide_eq_false_iff_not] at this;omega
      ·rw[e];omega
    have hsz:=db n hn;have hp:=aD (n+1)
    rcases List.mem_append.1 hb with hb|hb
    ·obtain⟨h1,h2,h3,h4,h5⟩:=ih a (n+1) (ng hr hn) b hb
     exact⟨h1,by omega,h3,by omega,h5⟩
    ·obtain⟨h1,h2,h3,h4,h5⟩:=ih _ (n+1) (m8 hr hn) b hb
     exact⟨h1,by omega,by omega,by omega,h5⟩
theorem t8{bits:Int}(L:List (Int×Int)):∀ (s:Option (Int×Int)) (b:Int×Int),L.foldl (aX bits) s=some b->(b∈L/\b.2<=bits)\/s=some b:=by
 induction L with
 | nil=>intro s b h;exact .inr h
 | cons c r ih =>
  intro s b h;rw[List.foldl_cons] at h;rcases ih _ b h with⟨h1,h2⟩|h1
  ·exact .inl ⟨List.mem_cons_of_mem _ h1,h2⟩
  ·unfold aX at h1;split at h1
   ·rename_i hc;split at h1
    ·simp at h1;subst h1;exact .inl ⟨List.mem_cons_self,hc⟩
    ·split at h1
     ·simp at h1;subst h1;exact .inl ⟨List.mem_cons_self,hc⟩
     ·exact .inr h1
   ·exact .inr h1
structure a8(s:Bk):Prop where
 pr:∀ h,h∈s.pools->0<=h.a/\h.a<4294967296/\rt h.a h.n=true
 nr:∀ h,h∈s.nets->0<=h.a/\h.a<4294967296/\rt h.a h.n=true/\22<=h.n
 po:∀ h,h∈s.pools->ag h.o.data.toList=true
 no:∀ h,h∈s.nets->ag h.o.data.toList=true
 lo:∀ h,h∈s.leases->ag h.o.data.toList=true
 pp:s.pools.Pairwise fun x y=>x.a+sz x.n<=y.a
 np:s.nets.Pairwise fun x y=>x.a+sz x.n<=y.a
 lp:s.leases.Pairwise fun x y=>x.a<y.a
 ni:∀ h,h∈s.nets->∃ p,p∈s.pools/\inn h.a h.n p.a p.n=true
 li:∀ l,l∈s.leases->∃ h,h∈s.nets/\dh h.a h.n<=l.a/\l.a<=dr h.a h.n
theorem px:a8 bk0:=⟨by simp[bk0],by simp[bk0],by simp[bk0],by simp[bk0],by simp[bk0],by simp[bk0],by simp[bk0],by simp[bk0],by simp[bk0],by simp[bk0]⟩
theorem DG{l:List Hd}(h:l.Pairwise fun x y=>x.a+sz x.n<=y.a):l.Pairwise fun x y=>x.a<=y.a:=h.imp fun {x y} q=>by have:=aD x.n;omega
theorem FB{l:List Ls}(h:l.Pairwise fun x y=>x.a<y.a):l.Pairwise fun x y=>x.a<=y.a:=h.imp fun {x y} q=>by omega
theorem nb{l:List Hd}{x:Hd}(hl:∀ h,h∈l->rt h.a h.n=true)(hx:rt x.a x.n=true)(hp:l.Pairwise fun x y=>x.a+sz x.n<=y.a)(ha:aU l x.a x.n=false):(cm l x).Pairwise fun x y=>x.a+sz x.n<=y.a:=by
 have hz:=fun y:Hd=>aD y.n
 have hm:∀ y,y∈l->x.a+sz x.n<=y.a\/y.a+sz y.n<=x.a:=fun y hy=>by
  have h1:bR x.a x.n y=false:=by
   unfold aU at ha;simpa using List.any_eq_false.1 ha y hy
  exact(nk (hl y hy) hx).1 h1
 refine qH _ Hd.a x l (DG hp) hp (fun y hy hlt=>?_) (fun y hy hle=>?_)
 ·rcases hm y hy with h|h
  ·have:=hz x;omega
  ·exact h
 ·rcases hm y hy with h|h
  ·exact h
  ·have:=hz y;omega
theorem eo{l:List Hd}{a n:Int}(h:¬ah l a n<0):(l.getD (ah l a n).toNat hd0)∈l/\(l.getD (ah l a n).toNat hd0).a=a/\(l.getD (ah l a n).toNat hd0).n=n:=by
 unfold ah at *
 rcases aV (isH a n) l hd0 with⟨e,_⟩|⟨k,hk,e,hp,_⟩
 ·rw[e] at h;omega
 ·rw[e,Int.toNat_natCast];unfold isH at hp;simp only[Bool.and_eq_true,decide_eq_true_eq] at hp
  refine⟨?_,hp.1,hp.2⟩
  rw[List.getD_eq_getElem?_getD,List.getElem?_eq_getElem hk];exact List.getElem_mem hk
theorem fV{l:List Hd}{a n:Int}(h:¬aR l a n<0):(l.getD (aR l a n).toNat hd0)∈l/\inn a n (l.getD (aR l a n).toNat hd0).a (l.getD (aR l a n).toNat hd0).n=true:=by
 unfold aR at *
 rcases aV (bM a n) l hd0 with⟨e,_⟩|⟨k,hk,e,hp,_⟩
 ·rw[e] at h;omega
 ·rw[e,Int.toNat_natCast];refine⟨?_,hp⟩
  rw[List.getD_eq_getElem?_getD,List.getElem?_eq_getElem hk];exact List.getElem_mem hk
theorem gF{l:List Ls}(hp:l.Pairwise fun x y=>x.a<y.a)(a:Int):dp l a=true ↔ ∃ x,x∈l/\x.a=a:=by
 unfold dp;rw[Bool.and_eq_true,decide_eq_true_eq,decide_eq_true_eq];constructor
 ·rintro⟨h1,h2⟩
  refine⟨_,?_,h2⟩
  rw[List.getD_eq_getElem?_getD,List.getElem?_eq_getElem h1];exact List.getElem_mem h1
 ·rintro⟨x,hx,rfl⟩
  obtain⟨c1,c2⟩:=oa Ls.a x.a l (FB hp)
  have hc:bO l x.a=l.countP fun y=>decide (y.a<x.a):=rfl
  rw[<- hc] at c1 c2;have hxd:x∈l.drop (bO l x.a):=by
   have:x∈l.take (bO l x.a)++l.drop (bO l x.a):=by rw[List.take_append_drop];exact hx
   rcases List.mem_append.1 this with q|q
   ·have:=c1 x q;omega
   ·exact q
  have hlen:bO l x.a<l.length:=by
   rcases Nat.lt_or_ge (bO l x.a) l.length with q|q
   ·exact q
   ·rw[List.drop_eq_nil_of_le q] at hxd;simp at hxd
  refine⟨hlen,?_⟩
  rw[List.drop_eq_getElem_cons hlen] at hxd;have hpd:(l.drop (bO l x.a)).Pairwise fun x y=>x.a<y.a:=List.Pairwise.sublist (List.drop_sublist _ _) hp
  rw[List.drop_eq_getElem_cons hlen,List.pairwise_cons] at hpd;rw[List.getD_eq_getElem?_getD,List.getElem?_eq_getElem hlen,Option.getD_some];rcases List.mem_cons.1 hxd with q|q
  ·rw[<- q]
  ·have h1:=hpd.1 x q;have h2:=c2 _ (by rw[List.drop_eq_getElem_cons hlen];exact List.mem_cons_self)
   omega
theorem sS(last:Int):∀ (L:List Ls) (x y:Int),x<=last->L.Pairwise (fun a b=>a.a<b.a)->(∀ l,l∈L->x<=l.a)->bP last x L=some y->x<=y/\y<=last/\∀ l,l∈L->l.a≠y:=by
 intro L;induction L with
 | nil=>intro x y hx _ _ h;simp[bP] at h;subst h;exact⟨Int.le_refl _,hx,by simp⟩
 | cons l r ih =>
  intro x y hx hp hlo h;rw[List.pairwise_cons] at hp;unfold bP at h;split at h
  ·rename_i hne;simp at h;subst h
   refine⟨Int.le_refl _,hx,fun z hz=>?_⟩
   rcases List.mem_cons.1 hz with rfl|hz
   ·exact hne
   ·have:=hp.1 z hz;have:=hlo l List.mem_cons_self;omega
  ·rename_i he;simp only[ne_eq,Decidable.not_not] at he
   split at h
   ·cases h
   ·obtain⟨h1,h2,h3⟩:=ih (x+1) y (by omega) hp.2 (fun z hz=>by have:=hp.1 z hz;omega) h
    refine⟨by omega,h2,fun z hz=>?_⟩
    rcases List.mem_cons.1 hz with rfl|hz
    ·omega
    ·exact h3 z hz
theorem j9{a n x:Int}(h:dh a n<=x)(h2:x<=dr a n):a<=x/\x<a+sz n:=by
 unfold dh dr lst at *
 split at h<;>split at h2<;>omega
theorem uX{a n:Int}(hr:rt a n=true):dh a n<=dr a n:=by
 obtain⟨n0,n1,_⟩:=aj.1 hr;unfold dh dr lst;split
 ·have h1:=db n (by omega)
  have h2:=FG (n:=n+1) (by omega)
  omega
 ·have:=aD n;omega
theorem jd{a n x:Int}(hr:rt a n=true)(h:a<=x)(h2:x<a+sz n):inn x 32 a n=true:=by
 obtain⟨n0,n1,_⟩:=aj.1 hr;exact(ee jZ hr).2 ⟨n1,h,by rw[Br];omega⟩
theorem v7{s:Bk}{l:Ln}(G:a8 s)(ha:0<=l.a/\l.a<4294967296)(hr:rt l.a l.n=true)(ho:ag l.o.data.toList=true):a8 (cy s l).1:=by
 unfold cy;split
 ·exact G
 split
 ·exact G
 split
 ·exact G
 rename_i h1 h2 h3;exact⟨fun h hh=>by rcases fa.1 hh with rfl|hh;exact⟨ha.1,ha.2,hr⟩;exact G.pr h hh,G.nr,fun h hh=>by rcases fa.1 hh with rfl|hh;exact ho;exact G.po h hh,G.no,G.lo,
  nb (fun h hh=>(G.pr h hh).2.2) hr G.pp (by simpa using h2),G.np,G.lp,fun h hh=>by obtain⟨p,hp,q⟩:=G.ni h hh;exact⟨p,fa.2 (.inr hp),q⟩,G.li⟩
theorem vX{s:Bk}{l:Ln}(G:a8 s):a8 (cR s l).1:=by
 unfold cR;split
 ·exact G
 split
 ·exact G
 split
 ·exact G
 rename_i h1 h2 h3;obtain⟨hm,hma,hmn⟩:=eo h1;have hsub:=jJ s.pools (ah s.pools l.a l.n).toNat
 refine⟨fun h hh=>G.pr h (hsub.mem hh),G.nr,fun h hh=>G.po h (hsub.mem hh),G.no,G.lo,G.pp.sublist hsub,G.np,G.lp,fun h hh=>?_,G.li⟩
 obtain⟨p,hp,q⟩:=G.ni h hh;rcases uG (k:=(ah s.pools l.a l.n).toNat) hd0 hp with e|e
 ·exfalso
  apply h3
  intro hn;rw[e,hma,hmn] at q;have:h∈af s.nets l.a l.n:=List.mem_filter.2 ⟨hh,q⟩
  rw[hn] at this;simp at this
 ·exact⟨p,e,q⟩
theorem k9{l:List Hd}{x y:Hd}(hp:l.Pairwise fun x y=>x.a+sz x.n<=y.a)(hx:x∈l)(hy:y∈l):x=y\/x.a+sz x.n<=y.a\/y.a+sz y.n<=x.a:=by
 obtain⟨i,hi,rfl⟩:=List.mem_iff_getElem.1 hx;obtain⟨j,hj,rfl⟩:=List.mem_iff_getElem.1 hy;rw[List.pairwise_iff_getElem] at hp;rcases Nat.lt_trichotomy i j with h|h|h
 ·exact .inr (.inl (hp i j hi hj h))
 ·subst h;exact .inl rfl
 ·exact .inr (.inr (hp j i hj hi h))
theorem lK{s:Bk}{a n:Int}{h:Hd}:h∈af s.nets a n ↔ h∈s.nets/\inn h.a h.n a n=true:=by unfold af;rw[List.mem_filter]
theorem mZ{s:Bk}{x:Hd}(G:a8 s)(ha:0<=x.a/\x.a<4294967296)(hr:rt x.a x.n=true)(hn:22<=x.n)(ho:ag x.o.data.toList=true)(hany:aU s.nets x.a x.n=false)(hi:∃ p,p∈s.pools/\inn x.a x.n p.a p.n=true):a8 { s with nets:=cm s.nets x } :=
 ⟨G.pr,fun h hh=>by rcases fa.1 hh with rfl|hh;exact⟨ha.1,ha.2,hr,hn⟩;exact G.nr h hh,G.po,fun h hh=>by rcases fa.1 hh with rfl|hh;exact ho;exact G.no h hh,G.lo,G.pp,
  nb (fun h hh=>(G.nr h hh).2.2.1) hr G.np hany,G.lp,fun h hh=>by rcases fa.1 hh with rfl|hh;exact hi;exact G.ni h hh,
  fun h hh=>by obtain⟨p,hp,q⟩:=G.li h hh;exact⟨p,fa.2 (.inr hp),q⟩⟩
theorem jS{s:Bk}{l:Ln}{b:Int×Int}(G:a8 s)(hg:l.g<=32)(h1:¬ah s.pools l.a l.n<0)(hb:dN (aM 33 (af s.nets l.a l.n) l.a l.n) l.g=some b):
  rt b.1 l.g=true/\0<=b.1/\b.1<4294967296/\aU s.nets b.1 l.g=false/\∃ p,p∈s.pools/\inn b.1 l.g p.a p.n=true:=by
 obtain⟨hm,hma,hmn⟩:=eo h1;obtain⟨p,hpe⟩:∃ p,p=s.pools.getD (ah s.pools l.a l.n).toNat hd0:=⟨_,rfl⟩
 rw[<- hpe] at hm hma hmn;obtain⟨p0,p1,pr⟩:=G.pr p hm;rw[hma,hmn] at pr;rw[hma] at p0 p1;obtain⟨n0,n1,an⟩:=aj.1 pr;rcases t8 _ _ _ hb with⟨q1,q2⟩|q
 ·obtain⟨r1,r2,r3,r4,r5⟩:=i8 _ (fun h hh=>(G.nr h (lK.1 hh).1).2.2.1) 33 l.a l.n pr b q1
  have rg:rt b.1 l.g=true:=DD r1 q2 hg
  have hsz:=uU q2 hg;have hend:=gC l.a l.n n0 n1 p0 p1 an;have hpg:=aD l.g;have hin:inn b.1 l.g l.a l.n=true:=(ee rg pr).2 ⟨by omega,r3,by omega⟩
  refine⟨rg,by omega,by omega,?_,⟨p,hm,by rw[hma,hmn];exact hin⟩⟩
  unfold aU;refine List.any_eq_false.2 fun y hy=>?_
  obtain⟨y0,y1,yr,y22⟩:=G.nr y hy;have:bR b.1 l.g y=false:=by
   unfold bR;refine(nk yr rg).2 ?_
   by_cases hy2:inn y.a y.n l.a l.n=true
   ·have hn:bR b.1 b.2 y=false:=by
     unfold aU at r5;simpa using List.any_eq_false.1 r5 y (lK.2 ⟨hy,hy2⟩)
    rcases (nk yr r1).1 hn with q|q
    ·exact .inl (by omega)
    ·exact .inr q
   ·obtain⟨p',hp',hq'⟩:=G.ni y hy;obtain⟨z0,z1,zr⟩:=G.pr p' hp';obtain⟨w1,w2,w3⟩:=(ee yr zr).1 hq'
    rcases k9 G.pp hm hp' with e|e|e
    ·rw[<- e,hma,hmn] at hq';exact absurd hq' hy2
    ·rw[hma,hmn] at e;exact .inl (by omega)
    ·rw[hma] at e;exact .inr (by omega)
  rw[this];decide
 ·cases q
theorem ze{s:Bk}{l:Ln}(G:a8 s)(hg:l.g<=32)(ho:ag l.o.data.toList=true):a8 (dH s l).1:=by
 unfold dH;split
 ·exact G
 split
 ·exact G
 rename_i h1 h2;rcases hb:dN (aM 33 (af s.nets l.a l.n) l.a l.n) l.g with _|b
 ·exact G
 ·simp only[]
  split
  ·exact G
  ·obtain⟨r1,r2,r3,r4,r5⟩:=jS G hg h1 hb;exact mZ (x:=⟨b.1,l.g,l.o⟩) G ⟨r2,r3⟩ r1 (by show 22<=l.g;omega) ho r4 r5
theorem sH{s:Bk}{l:Ln}(G:a8 s)(ha:0<=l.a/\l.a<4294967296)(hr:rt l.a l.n=true)(ho:ag l.o.data.toList=true):a8 (bI s l).1:=by
 unfold bI;split
 ·exact G
 split
 ·exact G
 split
 ·exact G
 split
 ·exact G
 rename_i h1 h2 h3 h4;obtain⟨hm,hi⟩:=fV h2;exact mZ (x:=⟨l.a,l.n,l.o⟩) G ha hr (by show 22<=l.n;omega) ho (by simpa using h3) ⟨_,hm,hi⟩
theorem vY{s:Bk}{l:Ln}(G:a8 s):a8 (cS s l).1:=by
 unfold cS;split
 ·exact G
 split
 ·exact G
 split
 ·exact G
 rename_i h1 h2 h3;obtain⟨hm,hma,hmn⟩:=eo h1;have hsub:=jJ s.nets (ah s.nets l.a l.n).toNat
 refine⟨G.pr,fun h hh=>G.nr h (hsub.mem hh),G.po,fun h hh=>G.no h (hsub.mem hh),G.lo,G.pp,G.np.sublist hsub,G.lp,fun h hh=>G.ni h (hsub.mem hh),fun x hx=>?_⟩
 obtain⟨h,hh,q1,q2⟩:=G.li x hx;rcases uG (k:=(ah s.nets l.a l.n).toNat) hd0 hh with e|e
 ·exfalso
  apply h3
  intro hn;obtain⟨_,_,hr,_⟩:=G.nr h hh;obtain⟨u1,u2⟩:=j9 q1 q2;have hin:=jd hr u1 u2;rw[e,hma,hmn] at hin;have:x∈aw s.leases l.a l.n:=List.mem_filter.2 ⟨hx,hin⟩
  rw[hn] at this;simp at this
 ·exact⟨h,e,q1,q2⟩
theorem ko{s:Bk}{x:Ls}(G:a8 s)(ho:ag x.o.data.toList=true)(hno:∀ y,y∈s.leases->y.a≠x.a)(hi:∃ h,h∈s.nets/\dh h.a h.n<=x.a/\x.a<=dr h.a h.n):a8 { s with leases:=dR s.leases x } :=
 ⟨G.pr,G.nr,G.po,G.no,fun h hh=>by rcases qy.1 hh with rfl|hh;exact ho;exact G.lo h hh,G.pp,G.np,
  qH _ Ls.a x s.leases (FB G.lp) G.lp (fun y hy q=>q) (fun y hy q=>by have:=hno y hy;omega),G.ni,
  fun h hh=>by rcases qy.1 hh with rfl|hh;exact hi;exact G.li h hh⟩
theorem BG{s:Bk}{h:Hd}{y:Ls}(G:a8 s)(hh:h∈s.nets)(hy:y∈s.leases)(hi:inn y.a 32 h.a h.n=true):dh h.a h.n<=y.a/\y.a<=dr h.a h.n:=by
 obtain⟨_,_,hr,_⟩:=G.nr h hh;obtain⟨_,i2,i3⟩:=(ee jZ hr).1 hi
 rw[Br] at i3;obtain⟨h',hh',q1,q2⟩:=G.li y hy;obtain⟨u1,u2⟩:=j9 q1 q2;rcases k9 G.np hh hh' with e|e|e
 ·rw[e];exact⟨q1,q2⟩
 ·omega
 ·omega
theorem ga{s:Bk}{h:Hd}{d:Int}(G:a8 s)(hh:h∈s.nets)(hl:du s.leases h.a h.n=some d):dh h.a h.n<=d/\d<=dr h.a h.n/\∀ y,y∈s.leases->y.a≠d:=by
 obtain⟨_,_,hr,_⟩:=G.nr h hh;unfold du at hl;have hm:∀ l,l∈aw s.leases h.a h.n ↔ l∈s.leases/\inn l.a 32 h.a h.n=true:=fun l=>by unfold aw;rw[List.mem_filter]
 obtain⟨h1,h2,h3⟩:=sS (dr h.a h.n) (aw s.leases h.a h.n) (dh h.a h.n) d (uX hr) (G.lp.sublist List.filter_sublist) (fun l q=>(BG G hh ((hm l).1 q).1 ((hm l).1 q).2).1) hl
 refine⟨h1,h2,fun y hy e=>?_⟩
 obtain⟨u1,u2⟩:=j9 h1 h2;rw[<- e] at u1 u2;exact h3 y ((hm y).2 ⟨hy,jd hr u1 u2⟩) e
theorem sI{s:Bk}{l:Ln}(G:a8 s)(ho:ag l.o.data.toList=true):a8 (bU s l).1:=by
 unfold bU;split
 ·exact G
 rename_i h1;obtain⟨hm,hma,hmn⟩:=eo h1;rcases hb:du s.leases l.a l.n with _|d
 ·exact G
 ·simp only[]
  split
  ·exact G
  ·obtain⟨p,hpe⟩:∃ p,p=s.nets.getD (ah s.nets l.a l.n).toNat hd0:=⟨_,rfl⟩
   rw[<- hpe] at hm hma hmn;rw[<- hma,<- hmn] at hb;obtain⟨r1,r2,r3⟩:=ga G hm hb;exact ko (x:=⟨d,l.o⟩) G ho r3 ⟨p,hm,r1,r2⟩
theorem wg{s:Bk}{l:Ln}(G:a8 s)(ho:ag l.o.data.toList=true):a8 (cA s l).1:=by
 unfold cA;split
 ·exact G
 split
 ·exact G
 split
 ·exact G
 split
 ·exact G
 rename_i h1 h2 h3 h4;obtain⟨hm,hi⟩:=fV h1;have h5:=Int.not_lt.1 (fun q=>h2 (.inl q))
 have h6:=Int.not_lt.1 (fun q=>h2 (.inr q))
 refine ko (x:=⟨l.d,l.o⟩) G ho (fun y hy e=>?_) ⟨_,hm,h5,h6⟩
 exact h3 ((gF G.lp l.d).2 ⟨y,hy,e⟩)
theorem vZ{s:Bk}{l:Ln}(G:a8 s):a8 (cU s l).1:=by
 unfold cU;split
 ·split
  ·exact G
  ·have hsub:=jJ s.leases (bO s.leases l.d)
   exact⟨G.pr,G.nr,G.po,G.no,fun h hh=>G.lo h (hsub.mem hh),G.pp,G.np,G.lp.sublist hsub,G.ni,fun h hh=>G.li h (hsub.mem hh)⟩
 ·exact G
def Eh(l:Ln):Prop:=0<=l.a/\l.a<4294967296/\rt l.a l.n=true/\l.g<=32/\(l.v<8->ag l.o.data.toList=true)
theorem uv{s:Bk}{l:Ln}(G:a8 s)(h:Eh l):a8 (aH s l).1:=by
 obtain⟨h1,h2,h3,h4,h5⟩:=h;unfold aH;split
 ·rename_i e;exact v7 G ⟨h1,h2⟩ h3 (h5 (by omega))
 ·exact vX G
 ·rename_i e;exact ze G h4 (h5 (by omega))
 ·rename_i e;exact sH G ⟨h1,h2⟩ h3 (h5 (by omega))
 ·exact vY G
 ·rename_i e;exact sI G (h5 (by omega))
 ·rename_i e;exact wg G (h5 (by omega))
 ·exact vZ G
 all_goals exact G
def ri(a n b m:Int):Bool:=decide (b<=a)&&decide (lst a n<=lst b m)
theorem tF{a n b m:Int}:ri a n b m=true ↔ b<=a/\a+sz n<=b+sz m:=by unfold ri lst;simp
theorem DI{m n:Int}(h0:0<=m)(h1:n<=32)(h:sz n<=sz m)(hm:m<=32):m<=n:=by
 rcases Int.lt_or_le n m with q|q
 ·exfalso
  have h2:=uU (m:=n+1) (n:=m) (by omega) hm
  have h3:=db n (by omega)
  have h4:=aD (n+1)
  omega
 ·exact q
theorem fd{a n b m:Int}(hr:rt a n=true)(hc:rt b m=true):ri a n b m=inn a n b m:=by
 rcases e:inn a n b m with _|_
 ·rcases e2:ri a n b m with _|_
  ·rfl
  ·obtain⟨h1,h2⟩:=tF.1 e2;obtain⟨n0,n1,_⟩:=aj.1 hr;obtain⟨m0,m1,_⟩:=aj.1 hc;have:=(ee hr hc).2 ⟨DI m0 n1 (by omega) m1,h1,h2⟩
   rw[e] at this;cases this
 ·obtain⟨_,h1,h2⟩:=(ee hr hc).1 e
  exact tF.2 ⟨h1,h2⟩
theorem eL{a n b m:Int}(hr:rt a n=true)(hc:rt b m=true)(h:mm a n b m=true)(hnm:n<=m):a<=b/\b+sz m<=a+sz n:=by
 have:inn b m a n=true:=by unfold inn;rw[jh,h,decide_eq_true hnm];rfl
 exact((ee hc hr).1 this).2
theorem dj{N:List Hd}{a n:Int}:aU N a n=true ↔ ∃ h,h∈N/\mm h.a h.n a n=true:=by
 unfold aU;rw[List.any_eq_true];rfl
theorem yd{N:List Hd}(hN:∀ h,h∈N->rt h.a h.n=true){a n b m:Int}(hr:rt a n=true)(hc:rt b m=true)(h1:b<=a)(h2:a+sz n<=b+sz m)(h:aU N a n=true):aU N b m=true:=by
 obtain⟨x,hx,hm⟩:=dj.1 h;obtain⟨q1,q2⟩:=(df (hN x hx) hr).1 hm
 exact dj.2 ⟨x,hx,(df (hN x hx) hc).2 ⟨by omega,by omega⟩⟩
theorem iJ{c m:Int}(hr:rt c m=true)(h:1<=m):rt (par c m) (m-1)=true/\par c m<=c/\c+sz m<=par c m+sz (m-1)/\(par c m=c\/c=par c m+sz m):=by
 obtain⟨m0,m1,hm⟩:=aj.1 hr;have hp:=kV m m1;have hs:=aD m;refine⟨Ar c m h m1,?_⟩
 rcases jV c m m1 hm with⟨e,_⟩|⟨e,_⟩<;>rw[e]<;>omega
def Fr(N:List Hd)(a n:Int)(c:Int×Int):Prop:=rt c.1 c.2=true/\n<=c.2/\a<=c.1/\c.1+sz c.2<=a+sz n/\aU N c.1 c.2=false/\(c=(a,n)\/(n<c.2/\aU N (par c.1 c.2) (c.2-1)=true))
theorem vR(N:List Hd)(hN:∀ h,h∈N->rt h.a h.n=true):∀ (k:Nat) (a n:Int),rt a n=true->32-n<k->∀ c,c∈aM k N a n ↔ Fr N a n c:=by
 intro k;induction k with
 | zero=>intro a n hr hk;obtain⟨_,n1,_⟩:=aj.1 hr;omega
 | succ k ih =>
  intro a n hr hk c;obtain⟨n0,n1,an⟩:=aj.1 hr;unfold aM;rcases ha:aU N a n with _|_
  ·simp only[Bool.not_false,if_true,List.mem_singleton]
   constructor
   ·rintro rfl
    exact⟨hr,Int.le_refl _,Int.le_refl _,Int.le_refl _,ha,.inl rfl⟩
   ·rintro⟨h1,h2,h3,h4,h5,h6|⟨h6,h7⟩⟩
    ·exact h6
    ·exfalso
     obtain⟨p1,p2,p3,_⟩:=iJ h1 (by omega)
     have hz:=aD c.2;have hm:mm a n (par c.1 c.2) (c.2-1)=true:=(df hr p1).2 ⟨by omega,by omega⟩
     obtain⟨q1,q2⟩:=eL hr p1 hm (by omega)
     rw[yd hN p1 hr q1 q2 h7] at ha;cases ha
  ·simp only[Bool.not_true,Bool.false_eq_true,if_false]
   by_cases hs:0<=aR N a n
   ·rw[if_pos hs];simp only[List.not_mem_nil,false_iff]
    rintro⟨h1,h2,h3,h4,h5,_⟩
    obtain⟨q1,q2⟩:=fV (l:=N) (a:=a) (n:=n) (by omega)
    have hx:=hN _ q1;obtain⟨_,q3,q4⟩:=(ee hr hx).1 q2
    have hz:=aD c.2;have:=dj.2 ⟨_,q1,(df hx h1).2 ⟨by omega,by omega⟩⟩
    rw[h5] at this;cases this
   ·rw[if_neg hs];have hn:n<32:=by
     rcases Int.lt_or_le n 32 with q|q
     ·exact q
     ·exfalso
      obtain⟨y,hy,hm⟩:=dj.1 ha;refine hs ?_
      unfold aR;rcases aV (bM a n) N hd0 with⟨_,q2⟩|⟨j,_,e,_⟩
      ·have:=q2 y hy
       unfold bM inn at this;obtain⟨_,y1,_⟩:=aj.1 (hN y hy)
       rw[jh] at hm;rw[hm,Bool.and_true,decide_eq_false_iff_not] at this;omega
      ·rw[e];omega
    have hsz:=db n hn;have hp:=aD (n+1)
    have rl:=ng hr hn;have rh:=m8 hr hn;rw[List.mem_append,ih a (n+1) rl (by omega) c,ih (a+sz (n+1)) (n+1) rh (by omega) c]
    constructor
    ·rintro (⟨h1,h2,h3,h4,h5,h6⟩|⟨h1,h2,h3,h4,h5,h6⟩)
     ·refine⟨h1,by omega,h3,by omega,h5,.inr ⟨by omega,?_⟩⟩
      rcases h6 with rfl|⟨_,h7⟩
      ·show aU N (par a (n+1)) (n+1-1)=true
       rw[sY hr hn,show n+1-1=n by omega];exact ha
      ·exact h7
     ·refine⟨h1,by omega,by omega,by omega,h5,.inr ⟨by omega,?_⟩⟩
      rcases h6 with rfl|⟨_,h7⟩
      ·show aU N (par (a+sz (n+1)) (n+1)) (n+1-1)=true
       rw[sJ hr hn,show n+1-1=n by omega];exact ha
      ·exact h7
    ·rintro⟨h1,h2,h3,h4,h5,h6⟩
     have h7:n<c.2/\aU N (par c.1 c.2) (c.2-1)=true:=by
      rcases h6 with rfl|h6
      ·rw[ha] at h5;cases h5
      ·exact h6
     obtain⟨c0,c1,_⟩:=aj.1 h1;have hz:=aD c.2;have fin:∀ b,rt b (n+1)=true->mm b (n+1) c.1 c.2=true->Fr N b (n+1) c:=fun b hb hm=>by
      obtain⟨q1,q2⟩:=eL hb h1 hm (by omega)
      refine⟨h1,by omega,q1,q2,h5,?_⟩
      by_cases e:c.2=n+1
      ·left
       rw[e] at q2;exact Prod.ext (by show c.1=b;omega) e
      ·exact .inr ⟨by omega,h7.2⟩
     rcases Int.lt_or_le c.1 (a+sz (n+1)) with q|q
     ·exact .inl (fin a rl ((df rl h1).2 ⟨by omega,by omega⟩))
     ·exact .inr (fin _ rh ((df rh h1).2 ⟨by omega,by omega⟩))
theorem vS(N:List Hd)(hN:∀ h,h∈N->rt h.a h.n=true):∀ (k:Nat) (a n:Int),rt a n=true->(aM k N a n).Pairwise fun x y=>x.1<y.1:=by
 intro k;induction k with
 | zero=>intro a n _;simp[aM]
 | succ k ih =>
  intro a n hr;unfold aM;split
  ·simp
  ·rename_i h;split
   ·simp
   ·rename_i hs;obtain⟨n0,n1,an⟩:=aj.1 hr;by_cases hn:n<32
    ·rw[List.pairwise_append];refine⟨ih a (n+1) (ng hr hn),ih _ _ (m8 hr hn),fun x hx y hy=>?_⟩
     obtain⟨_,_,_,x4,_⟩:=i8 N hN k a (n+1) (ng hr hn) x hx
     obtain⟨_,_,y3,_,_⟩:=i8 N hN k _ (n+1) (m8 hr hn) y hy
     have:=aD x.2
     omega
    ·exfalso
     obtain⟨y,hy,hm⟩:=dj.1 (show aU N a n=true by simpa using h)
     refine hs ?_
     unfold aR;rcases aV (bM a n) N hd0 with⟨_,q2⟩|⟨j,_,e,_⟩
     ·have:=q2 y hy
      unfold bM inn at this;obtain⟨_,y1,_⟩:=aj.1 (hN y hy)
      rw[jh] at hm;rw[hm,Bool.and_true,decide_eq_false_iff_not] at this;omega
     ·rw[e];omega
def oZ(P:Int×Int->Prop):Option (Int×Int)->Prop
 | none=>∀ c,¬P c
 | some d=>P d/\∀ c,P c->c.2<d.2\/(c.2=d.2/\d.1<=c.1)
theorem zz{P Q:Int×Int->Prop}{o o':Option (Int×Int)}(h:oZ P o)(h':oZ Q o')(e:∀ c,P c ↔ Q c):o=o':=by
 cases o with
 | none =>
  cases o' with
  | none=>rfl
  | some d=>exact absurd ((e d).2 h'.1) (h d)
 | some c =>
  cases o' with
  | none=>exact absurd ((e c).1 h.1) (h' c)
  | some d =>
   have h1:=h.2 d ((e d).2 h'.1)
   have h2:=h'.2 c ((e c).1 h.1)
   have:c=d:=Prod.ext (by omega) (by omega)
   rw[this]
theorem B7(bits:Int):∀ (L:List (Int×Int)) (P:Int×Int->Prop) (s:Option (Int×Int)),L.Pairwise (fun x y=>x.1<y.1)->(∀ c,P c->∀ d,d∈L->c.1<d.1)->oZ P s->oZ (fun c=>P c\/(c∈L/\c.2<=bits)) (L.foldl (aX bits) s):=by
 intro L;induction L with
 | nil =>
  intro P s _ _ h
  cases s with
  | none=>intro c q;rcases q with q|q;exact h c q;simp at q
  | some d=>exact⟨.inl h.1,fun c q=>by rcases q with q|q;exact h.2 c q;simp at q⟩
 | cons b r ih =>
  intro P s hs hP h;rw[List.foldl_cons];have hs2:=List.pairwise_cons.1 hs;have key:oZ (fun c=>P c\/(c=b/\b.2<=bits)) (aX bits s b):=by
   unfold aX;by_cases hb:b.2<=bits
   ·rw[if_pos hb]
    cases s with
    | none=>exact⟨.inr ⟨rfl,hb⟩,fun c q=>by rcases q with q|⟨rfl,_⟩;exact absurd q (h c);exact .inr ⟨rfl,Int.le_refl _⟩⟩
    | some d =>
     dsimp only;by_cases hd:d.2<b.2
     ·rw[if_pos hd];refine⟨.inr ⟨rfl,hb⟩,fun c q=>?_⟩
      rcases q with q|⟨rfl,_⟩
      ·have:=h.2 c q;omega
      ·exact .inr ⟨rfl,Int.le_refl _⟩
     ·rw[if_neg hd];refine⟨.inl h.1,fun c q=>?_⟩
      rcases q with q|⟨rfl,_⟩
      ·exact h.2 c q
      ·have:=hP d h.1 c sM;omega
   ·rw[if_neg hb]
    cases s with
    | none=>intro c q;rcases q with q|⟨_,q⟩;exact h c q;exact hb q
    | some d=>exact⟨.inl h.1,fun c q=>by rcases q with q|⟨_,q⟩;exact h.2 c q;exact absurd q hb⟩
  have:=ih (fun c=>P c\/(c=b/\b.2<=bits)) (aX bits s b) hs2.2 (fun c q d hd=>by
   rcases q with q|⟨rfl,_⟩
   ·exact hP c q d (List.mem_cons_of_mem _ hd)
   ·exact hs2.1 d hd) key
  revert this
  have e:∀ c,((P c\/(c=b/\b.2<=bits))\/(c∈r/\c.2<=bits)) ↔ (P c\/(c∈b::r/\c.2<=bits)):=fun c=>by
   rw[List.mem_cons];constructor
   ·rintro ((q|⟨rfl,q⟩)|⟨q,q2⟩)
    ·exact .inl q
    ·exact .inr ⟨.inl rfl,q⟩
    ·exact .inr ⟨.inr q,q2⟩
   ·rintro (q|⟨rfl|q,q2⟩)
    ·exact .inl (.inl q)
    ·exact .inl (.inr ⟨rfl,q2⟩)
    ·exact .inr ⟨q,q2⟩
  cases r.foldl (aX bits) (aX bits s b) with
  | none=>exact fun q c k=>q c ((e c).2 k)
  | some d=>exact fun q=>⟨(e d).1 q.1,fun c k=>q.2 c ((e c).2 k)⟩
def cZ(nets:List Hd)(bits:Int)(s:Option (Int×Int))(c:Int×Int):Option (Int×Int) :=
 if aU nets c.1 c.2=true\/bits<c.2 then s else match s with|none=>some c|some d=>if d.2<c.2\/(c.2=d.2/\c.1<d.1) then some c else some d
theorem yk(nets:List Hd)(bits:Int):∀ (L:List (Int×Int)) (P:Int×Int->Prop) (s:Option (Int×Int)),oZ P s->oZ (fun c=>P c\/(c∈L/\aU nets c.1 c.2=false/\c.2<=bits)) (L.foldl (cZ nets bits) s):=by
 intro L;induction L with
 | nil =>
  intro P s h
  cases s with
  | none=>intro c q;rcases q with q|q;exact h c q;simp at q
  | some d=>exact⟨.inl h.1,fun c q=>by rcases q with q|q;exact h.2 c q;simp at q⟩
 | cons b r ih =>
  intro P s h;rw[List.foldl_cons];have key:oZ (fun c=>P c\/(c=b/\aU nets b.1 b.2=false/\b.2<=bits)) (cZ nets bits s b):=by
   unfold cZ;by_cases hb:aU nets b.1 b.2=true\/bits<b.2
   ·rw[if_pos hb];have no:¬(aU nets b.1 b.2=false/\b.2<=bits):=fun ⟨q1,q2⟩=>by
     rcases hb with hb|hb
     ·rw[q1] at hb;cases hb
     ·omega
    cases s with
    | none=>intro c q;rcases q with q|⟨_,q⟩;exact h c q;exact no q
    | some d=>exact⟨.inl h.1,fun c q=>by rcases q with q|⟨_,q⟩;exact h.2 c q;exact absurd q no⟩
   ·rw[if_neg hb];have yes:aU nets b.1 b.2=false/\b.2<=bits:=by
     rcases q:aU nets b.1 b.2 with _|_
     ·exact⟨rfl,by rcases Int.lt_or_le bits b.2 with k|k;exact absurd (.inr k) hb;exact k⟩
     ·exact absurd (.inl q) hb
    cases s with
    | none=>exact⟨.inr ⟨rfl,yes⟩,fun c q=>by rcases q with q|⟨rfl,_⟩;exact absurd q (h c);exact .inr ⟨rfl,Int.le_refl _⟩⟩
    | some d =>
     dsimp only;by_cases hd:d.2<b.2\/(b.2=d.2/\b.1<d.1)
     ·rw[if_pos hd];refine⟨.inr ⟨rfl,yes⟩,fun c q=>?_⟩
      rcases q with q|⟨rfl,_⟩
      ·have:=h.2 c q;omega
      ·exact .inr ⟨rfl,Int.le_refl _⟩
     ·rw[if_neg hd];refine⟨.inl h.1,fun c q=>?_⟩
      rcases q with q|⟨rfl,_⟩
      ·exact h.2 c q
      ·omega
  have:=ih (fun c=>P c\/(c=b/\aU nets b.1 b.2=false/\b.2<=bits)) _ key
  revert this
  have e:∀ c,((P c\/(c=b/\aU nets b.1 b.2=false/\b.2<=bits))\/(c∈r/\aU nets c.1 c.2=false/\c.2<=bits)) ↔ (P c\/(c∈b::r/\aU nets c.1 c.2=false/\c.2<=bits)):=fun c=>by
   rw[List.mem_cons];constructor
   ·rintro ((q|⟨rfl,q⟩)|⟨q,q2⟩)
    ·exact .inl q
    ·exact .inr ⟨.inl rfl,q⟩
    ·exact .inr ⟨.inr q,q2⟩
   ·rintro (q|⟨rfl|q,q2⟩)
    ·exact .inl (.inl q)
    ·exact .inl (.inr ⟨rfl,q2⟩)
    ·exact .inr ⟨q,q2⟩
  cases r.foldl (cZ nets bits) (cZ nets bits s b) with
  | none=>exact fun q c k=>q c ((e c).2 k)
  | some d=>exact fun q=>⟨(e d).1 q.1,fun c k=>q.2 c ((e c).2 k)⟩
def eD:Nat->Int->Int->List (Int×Int)
 | 0,_,_=>[]
 | k+1,b,m=>(bud b m,m)::eD k (par b m) (m-1)
def dG(nets:List Hd)(a n:Int):List (Int×Int):=(a,n)::nets.flatMap fun h=>if ri h.a h.n a n=true then eD (h.n-n).toNat h.a h.n else []
def anc(b i:Int):Int:=b / sz i*sz i
theorem rN{b i:Int}:anc b i<=b/\b<anc b i+sz i:=by
 have hs:=aD i;have h1:=Int.emod_nonneg b (show sz i≠0 by omega)
 have h2:=Int.emod_lt_of_pos b hs;have h3:=Int.emod_add_mul_ediv b (sz i)
 unfold anc;rw[Int.mul_comm];omega
theorem rO{b i:Int}(h0:0<=i)(h1:i<=32):rt (anc b i) i=true:=aj.2 ⟨h0,h1,by unfold anc;exact Int.mul_emod_left _ _⟩
theorem ph{b m:Int}(hr:rt b m=true):anc b m=b:=by
 obtain⟨_,_,h⟩:=aj.1 hr;have h3:=Int.emod_add_mul_ediv b (sz m)
 unfold anc;rw[Int.mul_comm];omega
theorem tX{b m i:Int}(hi:i<=m-1)(h1:m-1<=32):anc (par b m) i=anc b i:=by
 obtain⟨q,hq,hp⟩:=oR i (m-1) hi h1
 unfold anc par;rw[hq,<- Int.ediv_ediv_of_nonneg (Int.le_of_lt (aD _)),<- Int.ediv_ediv_of_nonneg (Int.le_of_lt (aD _)),Int.mul_ediv_cancel _ (by have:=aD (m-1);omega)]
theorem jD:∀ (k:Nat) (b m:Int),rt b m=true->(k:Int)<=m->∀ c,c∈eD k b m ↔ ∃ i,m-k<i/\i<=m/\c=(bud (anc b i) i,i):=by
 intro k;induction k with
 | zero=>intro b m _ _ c;simp[eD];intro i h1 h2;omega
 | succ k ih =>
  intro b m hr hk c;obtain⟨m0,m1,_⟩:=aj.1 hr;have hp:=(iJ hr (by omega)).1
  simp only[eD,List.mem_cons]
  rw[ih (par b m) (m-1) hp (by omega) c]
  constructor
  ·rintro (rfl|⟨i,h1,h2,rfl⟩)
   ·exact⟨m,by omega,Int.le_refl _,by rw[ph hr]⟩
   ·exact⟨i,by omega,by omega,by rw[tX h2 (by omega)]⟩
  ·rintro⟨i,h1,h2,rfl⟩
   by_cases e:i=m
   ·subst e;left;rw[ph hr]
   ·right;exact⟨i,by omega,by omega,by rw[tX (by omega) (by omega)]⟩
theorem rU{x i:Int}(hr:rt x i=true)(h:1<=i):rt (bud x i) i=true/\par (bud x i) i=par x i/\bud (bud x i) i=x/\par x i<=bud x i/\bud x i+sz i<=par x i+sz (i-1)/\(bud x i+sz i<=x\/x+sz i<=bud x i):=by
 obtain⟨i0,i1,_⟩:=aj.1 hr;obtain⟨p1,p2,p3,p4⟩:=iJ hr h;have e1:i-1+1=i:=by omega
 have l1:=ng p1 (by omega)
 have l2:=m8 p1 (by omega)
 have l3:=sY p1 (by omega)
 have l4:=sJ p1 (by omega)
 have l5:=Fc p1 (by omega)
 have l6:=Ey p1 (by omega)
 rw[e1] at l1 l2 l3 l4 l5 l6;have hs:=kV i i1;have hp:=aD i;generalize par x i=p at *
 rcases p4 with rfl|rfl
 ·rw[l5];exact⟨l2,l4,l6,by omega,by omega,.inr (by omega)⟩
 ·rw[l6];exact⟨l1,l3,l5,by omega,by omega,.inl (by omega)⟩
theorem yx{nets:List Hd}{a n:Int}(hN:∀ h,h∈nets->rt h.a h.n=true)(hr:rt a n=true)(hin:∀ h,h∈nets->mm h.a h.n a n=true->inn h.a h.n a n=true)(c:Int×Int):
  (c∈dG nets a n/\aU nets c.1 c.2=false) ↔ Fr (af nets a n) a n c:=by
 obtain⟨n0,n1,_⟩:=aj.1 hr;have sub:∀ {h:Hd},h∈af nets a n ↔ h∈nets/\inn h.a h.n a n=true:=fun {h}=>by unfold af;rw[List.mem_filter]
 have any_eq:∀ b m,rt b m=true->a<=b->b+sz m<=a+sz n->aU nets b m=aU (af nets a n) b m:=fun b m hb h1 h2=>by
  rcases e:aU (af nets a n) b m with _|_
  ·rcases e2:aU nets b m with _|_
   ·rfl
   ·obtain⟨x,hx,hm⟩:=dj.1 e2;obtain⟨q1,q2⟩:=(df (hN x hx) hb).1 hm
    have:=dj.2 ⟨x,sub.2 ⟨hx,hin x hx ((df (hN x hx) hr).2 ⟨by omega,by omega⟩)⟩,hm⟩
    rw[e] at this;cases this
  ·obtain⟨x,hx,hm⟩:=dj.1 e;exact dj.2 ⟨x,(sub.1 hx).1,hm⟩
 constructor
 ·rintro⟨hc,hf⟩
  unfold dG at hc;rcases List.mem_cons.1 hc with rfl|hc
  ·rw[any_eq a n hr (Int.le_refl _) (Int.le_refl _)] at hf;exact⟨hr,Int.le_refl _,Int.le_refl _,Int.le_refl _,hf,.inl rfl⟩
  ·obtain⟨h,hh,hc⟩:=List.mem_flatMap.1 hc;by_cases hq:ri h.a h.n a n=true
   ·rw[if_pos hq] at hc;have hhr:=hN h hh;obtain⟨h0,h1,_⟩:=aj.1 hhr;have hi:inn h.a h.n a n=true:=by rw[<- fd hhr hr];exact hq
    obtain⟨i1,i2,i3⟩:=(ee hhr hr).1 hi
    obtain⟨i,j1,j2,rfl⟩:=(jD _ h.a h.n hhr (by omega) c).1 hc
    have ra:=rO (b:=h.a) (i:=i) (by omega) (by omega)
    obtain⟨a1,a2⟩:=rN (b:=h.a) (i:=i)
    obtain⟨b1,b2,b3,b4,b5,b6⟩:=rU ra (by omega)
    obtain⟨p1,p2,p3,_⟩:=iJ ra (by omega)
    have hs:=aD h.n;have hsi:=aD i;have hm0:mm (anc h.a i) i h.a h.n=true:=(df ra hhr).2 ⟨by omega,by omega⟩
    obtain⟨k1,k2⟩:=eL ra hhr hm0 j2;have hm:mm a n (par (anc h.a i) i) (i-1)=true:=(df hr p1).2 ⟨by omega,by omega⟩
    obtain⟨q1,q2⟩:=eL hr p1 hm (by omega)
    have hz:=aD (i-1)
    dsimp only at hf ⊢
    refine⟨b1,by show n<=i;omega,by show a<=bud _ i;omega,by show bud _ i+sz i<=_;omega,?_,.inr ⟨by show n<i;omega,?_⟩⟩
    ·show aU _ (bud (anc h.a i) i) i=false
     rw[<- any_eq _ _ b1 (by omega) (by omega)];exact hf
    ·show aU _ (par (bud (anc h.a i) i) i) (i-1)=true
     rw[b2];exact dj.2 ⟨h,sub.2 ⟨hh,hi⟩,(df hhr p1).2 ⟨by omega,by omega⟩⟩
   ·rw[if_neg hq] at hc;simp at hc
 ·rintro⟨h1,h2,h3,h4,h5,h6⟩
  refine⟨?_,by rw[any_eq _ _ h1 h3 h4];exact h5⟩
  unfold dG;rcases h6 with rfl|⟨h6,h7⟩
  ·exact List.mem_cons_self
  ·obtain⟨c0,c1,_⟩:=aj.1 h1;obtain⟨h,hh,hm⟩:=dj.1 h7;obtain⟨hn1,hi⟩:=sub.1 hh;have hhr:=hN h hn1;obtain⟨g0,g1,_⟩:=aj.1 hhr;obtain⟨p1,p2,p3,_⟩:=iJ h1 (by omega)
   obtain⟨b1,b2,b3,b4,b5,b6⟩:=rU h1 (by omega)
   have hs:=aD h.n;have hsc:=aD c.2;have hno:mm h.a h.n c.1 c.2=false:=by
    rcases q:mm h.a h.n c.1 c.2 with _|_
    ·rfl
    ·have:=dj.2 ⟨h,hh,q⟩;rw[h5] at this;cases this
   have hno2:=(nk hhr h1).1 hno
   obtain⟨m1,m2⟩:=(df hhr p1).1 hm
   have hle:c.2-1<h.n:=by
    rcases Int.lt_or_le (c.2-1) h.n with q|q
    ·exact q
    ·exfalso
     obtain⟨k1,k2⟩:=eL hhr p1 hm q;omega
   obtain⟨k1,k2⟩:=eL p1 hhr (by rw[jh];exact hm) (by omega)
   have hsp:=kV c.2 c1;have hmb:mm (bud c.1 c.2) c.2 h.a h.n=true:=(df b1 hhr).2 ⟨by omega,by omega⟩
   obtain⟨q1,q2⟩:=eL b1 hhr hmb (by omega)
   have ea:anc h.a c.2=bud c.1 c.2:=by
    have r1:=rO (b:=h.a) (i:=c.2) (by omega) c1
    obtain⟨s1,s2⟩:=rN (b:=h.a) (i:=c.2)
    have t1:=eL r1 b1 ((df r1 b1).2 ⟨by omega,by omega⟩) (Int.le_refl _)
    omega
   obtain⟨i1,i2,i3⟩:=(ee hhr hr).1 hi
   refine List.mem_cons_of_mem _ (List.mem_flatMap.2 ⟨h,hn1,?_⟩)
   rw[if_pos (by rw[fd hhr hr];exact hi)]
   refine(jD _ h.a h.n hhr (by omega) c).2 ⟨c.2,by omega,by omega,?_⟩
   rw[ea,b3]
theorem vP{nets:List Hd}{a n bits:Int}(hN:∀ h,h∈nets->rt h.a h.n=true)(hr:rt a n=true)(hin:∀ h,h∈nets->mm h.a h.n a n=true->inn h.a h.n a n=true):
  (dG nets a n).foldl (cZ nets bits) none=dN (aM 33 (af nets a n) a n) bits:=by
 obtain⟨n0,n1,_⟩:=aj.1 hr;have hN2:∀ h,h∈af nets a n->rt h.a h.n=true:=fun h hh=>by unfold af at hh;exact hN h (List.mem_filter.1 hh).1
 have h1:=yk nets bits (dG nets a n) (fun _=>False) none (fun c q=>q)
 have h2:=B7 bits (aM 33 (af nets a n) a n) (fun _=>False) none (vS _ hN2 33 a n hr) (fun c q=>q.elim) (fun c q=>q)
 refine zz h1 h2 (fun c=>?_)
 rw[vR _ hN2 33 a n hr (by omega) c,<- yx hN hr hin c]
 constructor
 ·rintro (q|⟨q1,q2,q3⟩)
  ·exact q.elim
  ·exact .inr ⟨⟨q1,q2⟩,q3⟩
 ·rintro (q|⟨⟨q1,q2⟩,q3⟩)
  ·exact q.elim
  ·exact .inr ⟨q1,q2,q3⟩
end Go.Proofs.YtjnhhnbgjjkkjaaGreatDoor
