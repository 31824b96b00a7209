/-
  TextPlain, BkPlain, BkGood
-/
import Derived.Lib.ItoaNum
import Derived.Lib.AtoiAll
import Derived.Lib.Split
import Derived.Lib.Join
import Derived.Lib.IndexMore
import Derived.Test.YtjnhhnbgjjkkjaaGreatDoorBasePAA
namespace Go.Proofs.YtjnhhnbgjjkkjaaGreatDoor
open Go.RowKit
set_option linter.unusedVariables false
set_option linter.unusedSimpArgs false
def dec (n:Nat):List UInt8:=Lib.decDigits n
def val (l:List UInt8):Nat:=l.foldl (fun a c=>10*a+(c.toNat-48)) 0
theorem val_snoc (l:List UInt8) (c:UInt8):val (l++[c])=10*val l+(c.toNat-48):=by simp[val]
theorem digit_val (d:Nat) (h:d<10):(UInt8.ofNat (48+d)).toNat-48=d:=by
  rw[UInt8.toNat_ofNat_of_lt' (by simp[UInt8.size];omega)];omega
theorem val_dec (n:Nat):val (dec n)=n:=by
  induction n using Nat.strongRecOn with
  | ind n ih =>
    unfold dec;rw[Lib.decDigits];split
    . rename_i h;have:=digit_val n h
      simp[val];omega
    . rename_i h;have e:=ih (n / 10) (by omega)
      unfold dec at e;rw[val_snoc,e,digit_val _ (by omega)];omega
theorem dec_inj {a b:Nat} (h:dec a=dec b):a=b:=by rw[<- val_dec a,<- val_dec b,h]
def dec3 (n:Nat):List UInt8 :=
  if n<10 then [UInt8.ofNat (48+n)] else if n<100 then [UInt8.ofNat (48+n / 10),UInt8.ofNat (48+n%10)]
  else [UInt8.ofNat (48+n / 100),UInt8.ofNat (48+n / 10%10),UInt8.ofNat (48+n%10)]
theorem dec_3 (n:Nat) (h:n<1000):dec n=dec3 n:=by
  unfold dec dec3;by_cases h1:n<10
  . rw[if_pos h1,Lib.decDigits_one h1]
  . rw[if_neg h1];by_cases h2:n<100
    . rw[if_pos h2,Lib.decDigits_two h1 h2]
    . rw[if_neg h2,Lib.decDigits,dif_neg h1,Lib.decDigits_two (by omega) (by omega)]
      simp[Nat.div_div_eq_div_mul]
theorem atoi_fin:∀ n:Fin 256,Lib.atoiAll (dec3 n)=.ok ((n:Nat):Int):=by decide +kernel
theorem atoi_dec (n:Nat) (h:n<256):Lib.atoiAll (dec n)=.ok (n:Int):=by rw[dec_3 n (by omega)];exact atoi_fin ⟨n,h⟩
def num (l:List UInt8) (most:Nat):Option Nat:=(List.range (most+1)).find? fun n=>dec n==l
theorem num_some {l:List UInt8} {most n:Nat}:num l most=some n ↔ n<=most/\dec n=l:=by
  unfold num;constructor
  . intro h;have h1:=List.find?_some h
    have h2:=List.mem_of_find?_eq_some h
    simp at h1 h2;exact⟨by omega,h1⟩
  . rintro⟨h1,rfl⟩
    rcases e:(List.range (most+1)).find? (fun m=>dec m==dec n) with _|m
    . have:=List.find?_eq_none.1 e n (by simp;omega)
      simp at this
    . have:=List.find?_some e
      simp at this;rw[dec_inj this]
theorem num_none {l:List UInt8} {most:Nat}:num l most=none ↔ ∀ n,n<=most->dec n≠l:=by
  constructor
  . intro h n hn e;rw[num_some.2 ⟨hn,e⟩] at h;cases h
  . intro h;rcases e:num l most with _|n
    . rfl
    . exact absurd (num_some.1 e).2 (h n (num_some.1 e).1)
theorem num_of_atoi {l:List UInt8} {most:Nat} (hm:most<=255) {v:Int} (h:Lib.atoiAll l=.ok v) (h0:0<=v) (h1:v<=most) (e:Lib.itoa v=l):num l most=some v.toNat:=by
  refine num_some.2 ⟨by omega,?_⟩
  unfold Lib.itoa at e;rw[if_neg (by omega)] at e
  exact e
theorem num_off {l:List UInt8} {most:Nat} (hm:most<=255) (h:∀ n:Nat,n<=most->Lib.atoiAll l=.ok (n:Int)->Lib.itoa n≠l):num l most=none:=by
  refine num_none.2 fun n hn e=>?_
  have ha:=atoi_dec n (by omega)
  rw[e] at ha;refine h n hn ha ?_
  unfold Lib.itoa;rw[if_neg (by omega)]
  simpa[dec] using e
def cutStep (c:UInt8) (s:List (List UInt8)×List UInt8) (x:UInt8):List (List UInt8)×List UInt8:=if x=c then (s.1++[s.2],[]) else (s.1,s.2++[x])
def cutAll (c:UInt8) (s:List (List UInt8)×List UInt8) (l:List UInt8):List (List UInt8)×List UInt8:=l.foldl (cutStep c) s
def parts (c:UInt8) (l:List UInt8):List (List UInt8):=(cutAll c ([],[]) l).1++[(cutAll c ([],[]) l).2]
theorem cutAll_front (c:UInt8) (l:List UInt8):∀ (F:List (List UInt8)) (cur:List UInt8),(cutAll c (F,cur) l).1=F++(cutAll c ([],cur) l).1/\(cutAll c (F,cur) l).2=(cutAll c ([],cur) l).2:=by
  induction l with
  | nil=>intro F cur;simp[cutAll]
  | cons x r ih =>
    intro F cur;simp only[cutAll,List.foldl_cons,cutStep]
    split
    . have h1:=ih (F++[cur]) []
      have h2:=ih ([]++[cur]) []
      simp only[cutAll] at h1 h2
      rw[h1.1,h1.2,h2.1,h2.2];simp
    . exact ih F (cur++[x])
theorem cutAll_none (c:UInt8) (l:List UInt8) (h:c∉l):∀ (F:List (List UInt8)) (cur:List UInt8),cutAll c (F,cur) l=(F,cur++l):=by
  induction l with
  | nil=>intro F cur;simp[cutAll]
  | cons x r ih =>
    intro F cur;have hx:¬x=c:=fun e=>h (by simp[e])
    have hr:c∉r:=fun e=>h (by simp[e])
    have:=ih hr F (cur++[x])
    simp only[cutAll,List.foldl_cons,cutStep,if_neg hx] at this ⊢
    rw[this];simp
theorem parts_none (c:UInt8) (l:List UInt8) (h:c∉l):parts c l=[l]:=by
  unfold parts;rw[cutAll_none c l h];simp
theorem parts_cons (c:UInt8) (a b:List UInt8) (h:c∉a):parts c (a++c::b)=a::parts c b:=by
  have e:cutAll c ([],[]) (a++c::b)=cutAll c ([a],[]) b:=by
    have:=cutAll_none c a h [] []
    simp only[cutAll] at this ⊢
    rw[List.foldl_append,this,List.foldl_cons,cutStep,if_pos rfl];simp
  have h1:=cutAll_front c b [a] []
  unfold parts;rw[e,h1.1,h1.2];simp
theorem parts_pos (c:UInt8) (l:List UInt8):1<=(parts c l).length:=by unfold parts;simp
theorem first_cut (c:UInt8) (l:List UInt8):c∉l\/∃ a b,l=a++c::b/\c∉a:=by
  induction l with
  | nil=>exact .inl (by simp)
  | cons x r ih =>
    by_cases hx:x=c
    . exact .inr ⟨[],r,by simp[hx],by simp⟩
    . rcases ih with h|⟨a,b,e,h⟩
      . exact .inl (by simp;exact⟨fun e=>hx e.symm,h⟩)
      . exact .inr ⟨x::a,b,by simp[e],by simp;exact⟨fun e=>hx e.symm,h⟩⟩
theorem dec_no (c:UInt8) (hc:c.toNat<48\/57<c.toNat) (n:Nat):c∉dec n:=by
  induction n using Nat.strongRecOn with
  | ind n ih =>
    have hd:∀ d,d<10->c≠UInt8.ofNat (48+d):=by
      intro d hd e;have:=congrArg UInt8.toNat e
      rw[UInt8.toNat_ofNat_of_lt' (by simp[UInt8.size];omega)] at this
      omega
    unfold dec;rw[Lib.decDigits];split
    . rename_i h;rw[List.mem_singleton];exact hd n h
    . rename_i h;have:=ih (n / 10) (by omega)
      unfold dec at this;rw[List.mem_append,List.mem_singleton];exact fun e=>e.elim this (hd _ (by omega))
def four (p0 p1 p2 p3:List UInt8):Option Nat :=
  match num p0 255,num p1 255,num p2 255,num p3 255 with
  | some a,some b,some c,some d=>some (((a*256+b)*256+c)*256+d)
  | _,_,_,_=>none
def addr (l:List UInt8):Option Nat :=
  match parts 46 l with
  | [p0,p1,p2,p3]=>four p0 p1 p2 p3
  | _=>none
def rd (l:List UInt8):Option (Int×Int) :=
  match parts 47 l with
  | [x,y]=>match addr x,num y 32 with
    | some a,some n=>if rt a n then some ((a:Int),(n:Int)) else none
    | _,_=>none
  | _=>none
def dot (a:Nat):List UInt8:=dec (a / 16777216)++46::(dec (a / 65536%256)++46::(dec (a / 256%256)++46::dec (a%256)))
def wr (a n:Nat):List UInt8:=dot a++47::dec n
structure Hd where
  a:Int
  n:Int
  o:ByteArray
structure Ls where
  a:Int
  o:ByteArray
structure Tk where
  t:ByteArray
  l:ByteArray
  r:ByteArray
structure Bk where
  pools:List Hd
  nets:List Hd
  leases:List Ls
  toks:List Tk
structure Ln where
  v:Nat
  t:ByteArray
  o:ByteArray
  a:Int
  n:Int
  d:Int
  g:Int
def hd0:Hd:=⟨0,0,⟨#[]⟩⟩
def ls0:Ls:=⟨0,⟨#[]⟩⟩
def tk0:Tk:=⟨⟨#[]⟩,⟨#[]⟩,⟨#[]⟩⟩
def ln0 (v:Nat):Ln:=⟨v,⟨#[]⟩,⟨#[]⟩,0,0,0,0⟩
def bk0:Bk:=⟨[],[],[],[]⟩
def fi {α:Type} (p:α->Bool):List α->Int
  | []=>-1
  | x::r=>if p x then 0 else if fi p r<0 then -1 else fi p r+1
theorem fi_miss {α:Type} (p:α->Bool) (l:List α) (h:∀ x,x∈l->p x=false):fi p l=-1:=by
  induction l with
  | nil=>rfl
  | cons x r ih =>
    have e:=ih (fun y hy=>h y (List.mem_cons_of_mem _ hy))
    simp[fi,h x (List.mem_cons_self),e]
theorem fi_hit {α:Type} (p:α->Bool) (l:List α) (d:α) (k:Nat) (hk:k<l.length) (h:∀ j,j<k->p (l.getD j d)=false) (hp:p (l.getD k d)=true):fi p l=k:=by
  induction l generalizing k with
  | nil=>simp at hk
  | cons x r ih =>
    cases k with
    | zero=>simp at hp;simp[fi,hp]
    | succ k =>
      have h0:p x=false:=by simpa using h 0 (by omega)
      have e:=ih k (by simpa using hk) (fun j hj=>by simpa using h (j+1) (by omega)) (by simpa using hp)
      have h2:¬((k:Int)<0):=by omega
      simp only[fi,h0,e,h2,if_false,Bool.false_eq_true];omega
theorem fi_cases {α:Type} (p:α->Bool) (l:List α) (d:α):(fi p l=-1/\∀ x,x∈l->p x=false)\/∃ k:Nat,k<l.length/\fi p l=k/\p (l.getD k d)=true/\∀ j,j<k->p (l.getD j d)=false:=by
  induction l with
  | nil=>exact .inl ⟨rfl,by simp⟩
  | cons x r ih =>
    rcases hx:p x with _|_
    . rcases ih with⟨e,h⟩|⟨k,hk,e,hp,h⟩
      . exact .inl ⟨by simp[fi,hx,e],by intro y hy;rcases List.mem_cons.1 hy with rfl|hy;exact hx;exact h y hy⟩
      . refine .inr ⟨k+1,by simpa using hk,?_,by simpa using hp,?_⟩
        . have h2:¬((k:Int)<0):=by omega
          simp only[fi,hx,e,h2,if_false,Bool.false_eq_true];omega
        . intro j hj
          cases j with
          | zero=>simpa using hx
          | succ j=>simpa using h j (by omega)
    . exact .inr ⟨0,by simp,by simp[fi,hx],by simpa using hx,by omega⟩
def isH (a n:Int) (h:Hd):Bool:=decide (h.a=a)&&decide (h.n=n)
def inn (a n b m:Int):Bool:=decide (m<=n)&&mm a n b m
def meetsH (a n:Int) (h:Hd):Bool:=mm h.a h.n a n
def spansH (a n:Int) (h:Hd):Bool:=inn a n h.a h.n
def findH (l:List Hd) (a n:Int):Int:=fi (isH a n) l
def spanH (l:List Hd) (a n:Int):Int:=fi (spansH a n) l
def anyH (l:List Hd) (a n:Int):Bool:=l.any (meetsH a n)
def cntH (l:List Hd) (a:Int):Nat:=l.countP fun h=>decide (h.a<a)
def insH (l:List Hd) (h:Hd):List Hd:=l.take (cntH l h.a)++h::l.drop (cntH l h.a)
def delAt {α:Type} (l:List α) (k:Nat):List α:=l.take k++l.drop (k+1)
def netsOf (nets:List Hd) (a n:Int):List Hd:=nets.filter fun h=>inn h.a h.n a n
def leasesOf (ls:List Ls) (a n:Int):List Ls:=ls.filter fun l=>inn l.a 32 a n
def cntL (l:List Ls) (a:Int):Nat:=l.countP fun x=>decide (x.a<a)
def hasL (l:List Ls) (a:Int):Bool:=decide (cntL l a<l.length)&&decide ((l.getD (cntL l a) ls0).a=a)
def insL (l:List Ls) (x:Ls):List Ls:=l.take (cntL l x.a)++x::l.drop (cntL l x.a)
def frees:Nat->List Hd->Int->Int->List (Int×Int)
  | 0,_,_,_=>[]
  | k+1,l,a,n=>if !anyH l a n then [(a,n)] else if 0<=spanH l a n then [] else frees k l a (n+1)++frees k l (a+sz (n+1)) (n+1)
def bestStep (bits:Int) (s:Option (Int×Int)) (b:Int×Int):Option (Int×Int) :=
  if b.2<=bits then (match s with|none=>some b|some c=>if c.2<b.2 then some b else some c) else s
def best (l:List (Int×Int)) (bits:Int):Option (Int×Int):=l.foldl (bestStep bits) none
def useA (a n:Int):Int:=if n<=30 then a+1 else a
def useZ (a n:Int):Int:=if n<=30 then lst a n-1 else lst a n
def leastGo (last:Int):Int->List Ls->Option Int
  | x,[]=>some x
  | x,l::r=>if l.a≠x then some x else if x=last then none else leastGo last (x+1) r
def least (ls:List Ls) (a n:Int):Option Int:=leastGo (useZ a n) (useA a n) (leasesOf ls a n)
structure An where
  e:Nat
  s:List ByteArray
def ref (e:Nat):An:=⟨e,[]⟩
def okA:An:=⟨0,[]⟩
def tell1 (s:ByteArray):An:=⟨0,[s]⟩
def wordsT:List (List UInt8):=[[79,75],[69,82,82],[76,73,78,69],[84,79,75,69,78],[82,65,78,71,69],[79,86,69,82,76,65,80],[76,73,77,73,84],[80,79,79,76],[79,87,78,69,82],[66,85,83,89],[70,85,76,76],[78,69,84],[65,68,68,82],[84,65,75,69,78]]
def anText (x:An):List UInt8:=if x.e=0 then [79,75]++x.s.flatMap (fun t=>32::t.data.toList) else [69,82,82,32]++wordsT.getD x.e []
def bText (a n:Int):List UInt8:=wr a.toNat n.toNat
def hText (h:Hd):List UInt8:=bText h.a h.n++61::h.o.data.toList
def lText (l:Ls):List UInt8:=dot l.a.toNat++61::l.o.data.toList
def isName (l:List UInt8):Bool:=decide (0<l.length)&&decide (l.length<=8)&&l.all fun c=>(decide (97<=c.toNat)&&decide (c.toNat<=122))||(decide (48<=c.toNat)&&decide (c.toNat<=57))
def form (v:Nat):List Nat :=
  if v=2 then [1,2,3,5] else if v=6\/v=7 then [1,2,4] else if v<8 then [1,2,3] else if v=8 then [] else [3]
def verbT:List (List UInt8):=[[80,79,79,76],[68,82,79,80],[78,69,84],[66,76,79,67,75],[70,82,69,69],[76,69,65,83,69],[84,65,75,69],[71,73,86,69],[80,79,79,76,83],[78,69,84,83],[85,83,69,68]]
def rdPart (l:Ln) (p:Nat) (w:List UInt8):Option Ln :=
  if p=1 then (if isName w then some { l with t:=⟨w.toArray⟩ } else none)
  else if p=2 then (if isName w then some { l with o:=⟨w.toArray⟩ } else none)
  else if p=3 then (match rd w with|some b=>some { l with a:=b.1,n:=b.2 }|none=>none)
  else if p=4 then (match addr w with|some d=>some { l with d:=d }|none=>none)
  else if p=5 then (match num w 32 with|some g=>some { l with g:=g }|none=>none)
  else none
def rdParts:Ln->List Nat->List (List UInt8)->Option Ln
  | l,[],[]=>some l
  | l,p::ps,w::ws=>match rdPart l p w with|some l'=>rdParts l' ps ws|none=>none
  | _,_,_=>none
def rdLine (s:List UInt8):Option Ln :=
  if s.length<=100 then
    match parts 32 s with
    | w::ws=>if fi (fun v=>v==w) verbT<0 then none else rdParts (ln0 (fi (fun v=>v==w) verbT).toNat) (form (fi (fun v=>v==w) verbT).toNat) ws
    | []=>none
  else none
def doPool (s:Bk) (l:Ln):Bk×An :=
  if l.n<8\/30<l.n then (s,ref 4) else if anyH s.pools l.a l.n then (s,ref 5) else if 6<=s.pools.length then (s,ref 6)
  else ({ s with pools:=insH s.pools ⟨l.a,l.n,l.o⟩ },okA)
def doDrop (s:Bk) (l:Ln):Bk×An :=
  if findH s.pools l.a l.n<0 then (s,ref 7) else if (s.pools.getD (findH s.pools l.a l.n).toNat hd0).o≠l.o then (s,ref 8)
  else if netsOf s.nets l.a l.n≠[] then (s,ref 9) else ({ s with pools:=delAt s.pools (findH s.pools l.a l.n).toNat },okA)
def doNet (s:Bk) (l:Ln):Bk×An :=
  if findH s.pools l.a l.n<0 then (s,ref 7) else if l.g<22\/l.g<l.n then (s,ref 4)
  else match best (frees 33 (netsOf s.nets l.a l.n) l.a l.n) l.g with
    | none=>(s,ref 10)
    | some b=>if 24<=s.nets.length then (s,ref 6) else ({ s with nets:=insH s.nets ⟨b.1,l.g,l.o⟩ },tell1 ⟨(bText b.1 l.g).toArray⟩)
def doBlock (s:Bk) (l:Ln):Bk×An :=
  if l.n<22 then (s,ref 4) else if spanH s.pools l.a l.n<0 then (s,ref 7) else if anyH s.nets l.a l.n then (s,ref 5)
  else if 24<=s.nets.length then (s,ref 6) else ({ s with nets:=insH s.nets ⟨l.a,l.n,l.o⟩ },okA)
def doFree (s:Bk) (l:Ln):Bk×An :=
  if findH s.nets l.a l.n<0 then (s,ref 11) else if (s.nets.getD (findH s.nets l.a l.n).toNat hd0).o≠l.o then (s,ref 8)
  else if leasesOf s.leases l.a l.n≠[] then (s,ref 9) else ({ s with nets:=delAt s.nets (findH s.nets l.a l.n).toNat },okA)
def doLease (s:Bk) (l:Ln):Bk×An :=
  if findH s.nets l.a l.n<0 then (s,ref 11)
  else match least s.leases l.a l.n with
    | none=>(s,ref 10)
    | some d=>if 40<=s.leases.length then (s,ref 6) else ({ s with leases:=insL s.leases ⟨d,l.o⟩ },tell1 ⟨(dot d.toNat).toArray⟩)
def doTake (s:Bk) (l:Ln):Bk×An :=
  if spanH s.nets l.d 32<0 then (s,ref 11)
  else if l.d<useA (s.nets.getD (spanH s.nets l.d 32).toNat hd0).a (s.nets.getD (spanH s.nets l.d 32).toNat hd0).n\/useZ (s.nets.getD (spanH s.nets l.d 32).toNat hd0).a (s.nets.getD (spanH s.nets l.d 32).toNat hd0).n<l.d then (s,ref 12)
  else if hasL s.leases l.d then (s,ref 13) else if 40<=s.leases.length then (s,ref 6) else ({ s with leases:=insL s.leases ⟨l.d,l.o⟩ },okA)
def doGive (s:Bk) (l:Ln):Bk×An :=
  if hasL s.leases l.d then (if (s.leases.getD (cntL s.leases l.d) ls0).o≠l.o then (s,ref 8) else ({ s with leases:=delAt s.leases (cntL s.leases l.d) },okA)) else (s,ref 12)
def doNets (s:Bk) (l:Ln):An:=if findH s.pools l.a l.n<0 then ref 7 else ⟨0,(netsOf s.nets l.a l.n).map fun h=>⟨(hText h).toArray⟩⟩
def doUsed (s:Bk) (l:Ln):An:=if findH s.nets l.a l.n<0 then ref 11 else ⟨0,(leasesOf s.leases l.a l.n).map fun h=>⟨(lText h).toArray⟩⟩
def doLn (s:Bk) (l:Ln):Bk×An :=
  match l.v with
  | 0=>doPool s l
  | 1=>doDrop s l
  | 2=>doNet s l
  | 3=>doBlock s l
  | 4=>doFree s l
  | 5=>doLease s l
  | 6=>doTake s l
  | 7=>doGive s l
  | 8=>(s,⟨0,s.pools.map fun h=>⟨(hText h).toArray⟩⟩)
  | 9=>(s,doNets s l)
  | 10=>(s,doUsed s l)
  | _=>(s,ref 2)
def findT (l:List Tk) (t:ByteArray):Option Tk:=(l.filter fun x=>decide (x.t=t)).head?
def addT (l:List Tk) (x:Tk):List Tk:=(if 8<=l.length then l.drop 1 else l)++[x]
def doAll (s:Bk) (line:ByteArray):Bk×ByteArray :=
  match rdLine line.data.toList with
  | none=>(s,⟨(anText (ref 2)).toArray⟩)
  | some l =>
    if l.v<8 then
      match findT s.toks l.t with
      | some x=>if x.l≠line then (s,⟨(anText (ref 3)).toArray⟩) else (s,x.r)
      | none =>
        let y:=doLn s l
        if y.2.e=0 then ({ y.1 with toks:=addT y.1.toks ⟨l.t,line,⟨(anText y.2).toArray⟩⟩ },⟨(anText y.2).toArray⟩) else (y.1,⟨(anText y.2).toArray⟩)
    else ((doLn s l).1,⟨(anText (doLn s l).2).toArray⟩)
theorem cut_srt {α:Type} (f:α->Int) (a:Int) (l:List α) (h:l.Pairwise (fun x y=>f x<=f y)) :
    (∀ y,y∈l.take (l.countP fun y=>decide (f y<a))->f y<a)/\(∀ y,y∈l.drop (l.countP fun y=>decide (f y<a))->a<=f y):=by
  induction l with
  | nil=>simp
  | cons x r ih =>
    rw[List.pairwise_cons] at h;by_cases hx:f x<a
    . have:=ih h.2
      rw[List.countP_cons_of_pos (by simpa using hx)]
      simp only[List.take_succ_cons,List.drop_succ_cons,List.mem_cons]
      exact⟨fun y hy=>hy.elim (fun e=>e ▸ hx) (this.1 y),this.2⟩
    . have h0:r.countP (fun y=>decide (f y<a))=0:=List.countP_eq_zero.2 (fun y hy=>by have:=h.1 y hy;simp;omega)
      rw[List.countP_cons_of_neg (by simpa using hx),h0]
      simp only[List.take_zero,List.drop_zero,List.mem_cons,List.not_mem_nil,false_imp_iff,implies_true,true_and]
      intro y hy;rcases hy with rfl|hy
      . omega
      . have:=h.1 y hy;omega
theorem pair_ins {α:Type} (R:α->α->Prop) (f:α->Int) (x:α) (l:List α) (hs:l.Pairwise (fun a b=>f a<=f b)) (h:l.Pairwise R) (h1:∀ y,y∈l->f y<f x->R y x) (h2:∀ y,y∈l->f x<=f y->R x y) :
    (l.take (l.countP fun y=>decide (f y<f x))++x::l.drop (l.countP fun y=>decide (f y<f x))).Pairwise R:=by
  obtain⟨c1,c2⟩:=cut_srt f (f x) l hs
  have h3:(l.take (l.countP fun y=>decide (f y<f x))++l.drop (l.countP fun y=>decide (f y<f x))).Pairwise R:=by rw[List.take_append_drop];exact h
  rw[List.pairwise_append] at h3 ⊢;refine⟨h3.1,List.pairwise_cons.2 ⟨fun y hy=>h2 y (List.mem_of_mem_drop hy) (c2 y hy),h3.2.1⟩,fun y hy z hz=>?_⟩
  rcases List.mem_cons.1 hz with rfl|hz
  . exact h1 y (List.mem_of_mem_take hy) (c1 y hy)
  . exact h3.2.2 y hy z hz
theorem mem_insT {α:Type} {l:List α} {c:Nat} {x y:α}:y∈l.take c++x::l.drop c ↔ y=x\/y∈l:=by
  rw[List.mem_append,List.mem_cons];have e:y∈l ↔ y∈l.take c\/y∈l.drop c:=by rw[<- List.mem_append,List.take_append_drop]
  rw[e];constructor
  . rintro (h|h|h)
    . exact .inr (.inl h)
    . exact .inl h
    . exact .inr (.inr h)
  . rintro (h|h|h)
    . exact .inr (.inl h)
    . exact .inl h
    . exact .inr (.inr h)
theorem mem_insH {l:List Hd} {x y:Hd}:y∈insH l x ↔ y=x\/y∈l:=mem_insT
theorem mem_insL {l:List Ls} {x y:Ls}:y∈insL l x ↔ y=x\/y∈l:=mem_insT
theorem delAt_sub {α:Type} (l:List α) (k:Nat):List.Sublist (delAt l k) l:=by
  unfold delAt;rw[show l.drop (k+1)=(l.drop k).drop 1 by rw[List.drop_drop]]
  have:=List.Sublist.append (List.Sublist.refl (l.take k)) (List.drop_sublist 1 (l.drop k))
  rwa [List.take_append_drop] at this
theorem mem_del {α:Type} {l:List α} {k:Nat} (d:α) {y:α} (h:y∈l):y=l.getD k d\/y∈delAt l k:=by
  unfold delAt;obtain⟨i,hi,rfl⟩:=List.mem_iff_getElem.1 h;by_cases e:i=k
  . subst e;exact .inl (by simp[List.getD_eq_getElem?_getD,hi])
  . refine .inr (List.mem_append.2 ?_)
    by_cases hlt:i<k
    . exact .inl (List.mem_iff_getElem.2 ⟨i,by simp;omega,by simp⟩)
    . exact .inr (List.mem_iff_getElem.2 ⟨i-(k+1),by simp;omega,by simp;congr 1;omega⟩)
theorem sz_mono {m n:Int} (h:m<=n) (h1:n<=32):sz n<=sz m:=by
  obtain⟨q,e,hq⟩:=sz_dvd m n h h1;have:=sz_pos n
  rw[e];have:sz n*1<=sz n*q:=Int.mul_le_mul_of_nonneg_left (by omega) (by omega)
  omega
theorem sz_two {n:Int} (h:n<32):2<=sz n:=by have:=sz_succ n h;have:=sz_pos (n+1);omega
theorem mm_yes {a n b m:Int} (hr:rt a n=true) (hc:rt b m=true):mm a n b m=true ↔ a<b+sz m/\b<a+sz n:=by
  rw[mm_lohi a n b m hr hc];simp
theorem mm_no {a n b m:Int} (hr:rt a n=true) (hc:rt b m=true):mm a n b m=false ↔ b+sz m<=a\/a+sz n<=b:=by
  rw[mm_lohi a n b m hr hc];simp;omega
theorem inn_in {a n b m:Int} (hr:rt a n=true) (hc:rt b m=true):inn a n b m=true ↔ m<=n/\b<=a/\a+sz n<=b+sz m:=by
  obtain⟨n0,n1,an⟩:=rt_iff.1 hr;obtain⟨m0,m1,bm⟩:=rt_iff.1 hc;unfold inn;rw[Bool.and_eq_true,decide_eq_true_eq,mm_yes hr hc];have hp:=sz_pos n;have hpm:=sz_pos m;constructor
  . rintro⟨h,h1,h2⟩
    have bn:=mod_down b m n h n1 bm;obtain⟨q,e,_⟩:=sz_dvd m n h n1;have bn2:(b+sz m)%sz n=0:=by rw[e,Int.add_mul_emod_self_left];exact bn
    have h3:b<=a:=step_le b a (sz n) hp bn an h2
    have h4:a+sz n<=b+sz m:=by
      have an2:(a+sz n)%sz n=0:=by rw[Int.add_emod_right];exact an
      exact step_le _ _ (sz n) hp an2 bn2 (by omega)
    exact⟨h,h3,h4⟩
  . rintro⟨h,h1,h2⟩
    exact⟨h,by omega,by omega⟩
theorem rt_less {a n m:Int} (hr:rt a n=true) (h:n<=m) (h1:m<=32):rt a m=true:=by
  obtain⟨n0,n1,an⟩:=rt_iff.1 hr;exact rt_iff.2 ⟨by omega,h1,mod_down a n m h h1 an⟩
theorem rt_one {a:Int}:rt a 32=true:=rt_iff.2 ⟨by omega,by omega,by rw[sz_32];omega⟩
theorem frees_in (l:List Hd) (hl:∀ h,h∈l->rt h.a h.n=true) (k:Nat):∀ a n,rt a n=true->∀ b,b∈frees k l a n->rt b.1 b.2=true/\n<=b.2/\a<=b.1/\b.1+sz b.2<=a+sz n/\anyH l b.1 b.2=false:=by
  induction k with
  | zero=>intro a n _ b hb;simp[frees] at hb
  | succ k ih =>
    intro a n hr b hb;unfold frees at hb;split at hb
    . rename_i h;rw[List.mem_singleton] at hb;subst hb;exact⟨hr,Int.le_refl _,Int.le_refl _,Int.le_refl _,by simpa using h⟩
    . rename_i h;split at hb
      . simp at hb
      . rename_i hs;obtain⟨n0,n1,an⟩:=rt_iff.1 hr;have hn:n<32:=by
          rcases Int.lt_or_le n 32 with q|q
          . exact q
          . exfalso
            have hn32:n=32:=by omega
            simp only[Bool.not_eq_true',Bool.not_eq_false] at h
            unfold anyH at h;obtain⟨y,hy,hm⟩:=List.any_eq_true.1 h;refine hs ?_
            unfold spanH;rcases fi_cases (spansH a n) l hd0 with⟨_,q⟩|⟨j,_,e,_⟩
            . have:=q y hy
              unfold spansH at this;unfold meetsH at hm;have hyr:=hl y hy;obtain⟨_,y1,_⟩:=rt_iff.1 hyr;unfold inn at this;rw[mm_comm] at hm;rw[hm,Bool.and_true,decide_eq_false_iff_not] at this;omega
            . rw[e];omega
        have hsz:=sz_succ n hn;have hp:=sz_pos (n+1)
        rcases List.mem_append.1 hb with hb|hb
        . obtain⟨h1,h2,h3,h4,h5⟩:=ih a (n+1) (lo_rt hr hn) b hb
          exact⟨h1,by omega,h3,by omega,h5⟩
        . obtain⟨h1,h2,h3,h4,h5⟩:=ih _ (n+1) (hi_rt hr hn) b hb
          exact⟨h1,by omega,by omega,by omega,h5⟩
theorem best_in {bits:Int} (L:List (Int×Int)):∀ (s:Option (Int×Int)) (b:Int×Int),L.foldl (bestStep bits) s=some b->(b∈L/\b.2<=bits)\/s=some b:=by
  induction L with
  | nil=>intro s b h;exact .inr h
  | cons c r ih =>
    intro s b h;rw[List.foldl_cons] at h;rcases ih _ b h with⟨h1,h2⟩|h1
    . exact .inl ⟨List.mem_cons_of_mem _ h1,h2⟩
    . unfold bestStep at h1;split at h1
      . rename_i hc;split at h1
        . simp at h1;subst h1;exact .inl ⟨List.mem_cons_self,hc⟩
        . split at h1
          . simp at h1;subst h1;exact .inl ⟨List.mem_cons_self,hc⟩
          . exact .inr h1
      . exact .inr h1
structure Good (s:Bk):Prop where
  pr:∀ h,h∈s.pools->0<=h.a/\h.a<4294967296/\rt h.a h.n=true
  nr:∀ h,h∈s.nets->0<=h.a/\h.a<4294967296/\rt h.a h.n=true/\22<=h.n
  po:∀ h,h∈s.pools->isName h.o.data.toList=true
  no:∀ h,h∈s.nets->isName h.o.data.toList=true
  lo:∀ h,h∈s.leases->isName h.o.data.toList=true
  pp:s.pools.Pairwise fun x y=>x.a+sz x.n<=y.a
  np:s.nets.Pairwise fun x y=>x.a+sz x.n<=y.a
  lp:s.leases.Pairwise fun x y=>x.a<y.a
  ni:∀ h,h∈s.nets->∃ p,p∈s.pools/\inn h.a h.n p.a p.n=true
  li:∀ l,l∈s.leases->∃ h,h∈s.nets/\useA h.a h.n<=l.a/\l.a<=useZ h.a h.n
theorem bk0_good:Good bk0:=⟨by simp[bk0],by simp[bk0],by simp[bk0],by simp[bk0],by simp[bk0],by simp[bk0],by simp[bk0],by simp[bk0],by simp[bk0],by simp[bk0]⟩
theorem srtH {l:List Hd} (h:l.Pairwise fun x y=>x.a+sz x.n<=y.a):l.Pairwise fun x y=>x.a<=y.a:=h.imp fun {x y} q=>by have:=sz_pos x.n;omega
theorem srtL {l:List Ls} (h:l.Pairwise fun x y=>x.a<y.a):l.Pairwise fun x y=>x.a<=y.a:=h.imp fun {x y} q=>by omega
theorem ins_apart {l:List Hd} {x:Hd} (hl:∀ h,h∈l->rt h.a h.n=true) (hx:rt x.a x.n=true) (hp:l.Pairwise fun x y=>x.a+sz x.n<=y.a) (ha:anyH l x.a x.n=false):(insH l x).Pairwise fun x y=>x.a+sz x.n<=y.a:=by
  have hz:=fun y:Hd=>sz_pos y.n
  have hm:∀ y,y∈l->x.a+sz x.n<=y.a\/y.a+sz y.n<=x.a:=fun y hy=>by
    have h1:meetsH x.a x.n y=false:=by
      unfold anyH at ha;simpa using List.any_eq_false.1 ha y hy
    exact(mm_no (hl y hy) hx).1 h1
  refine pair_ins _ Hd.a x l (srtH hp) hp (fun y hy hlt=>?_) (fun y hy hle=>?_)
  . rcases hm y hy with h|h
    . have:=hz x;omega
    . exact h
  . rcases hm y hy with h|h
    . exact h
    . have:=hz y;omega
theorem findH_at {l:List Hd} {a n:Int} (h:¬findH l a n<0):(l.getD (findH l a n).toNat hd0)∈l/\(l.getD (findH l a n).toNat hd0).a=a/\(l.getD (findH l a n).toNat hd0).n=n:=by
  unfold findH at *
  rcases fi_cases (isH a n) l hd0 with⟨e,_⟩|⟨k,hk,e,hp,_⟩
  . rw[e] at h;omega
  . rw[e,Int.toNat_natCast];unfold isH at hp;simp only[Bool.and_eq_true,decide_eq_true_eq] at hp
    refine⟨?_,hp.1,hp.2⟩
    rw[List.getD_eq_getElem?_getD,List.getElem?_eq_getElem hk];exact List.getElem_mem hk
theorem spanH_at {l:List Hd} {a n:Int} (h:¬spanH l a n<0):(l.getD (spanH l a n).toNat hd0)∈l/\inn a n (l.getD (spanH l a n).toNat hd0).a (l.getD (spanH l a n).toNat hd0).n=true:=by
  unfold spanH at *
  rcases fi_cases (spansH a n) l hd0 with⟨e,_⟩|⟨k,hk,e,hp,_⟩
  . rw[e] at h;omega
  . rw[e,Int.toNat_natCast];refine⟨?_,hp⟩
    rw[List.getD_eq_getElem?_getD,List.getElem?_eq_getElem hk];exact List.getElem_mem hk
theorem hasL_iff {l:List Ls} (hp:l.Pairwise fun x y=>x.a<y.a) (a:Int):hasL l a=true ↔ ∃ x,x∈l/\x.a=a:=by
  unfold hasL;rw[Bool.and_eq_true,decide_eq_true_eq,decide_eq_true_eq];constructor
  . rintro⟨h1,h2⟩
    refine⟨_,?_,h2⟩
    rw[List.getD_eq_getElem?_getD,List.getElem?_eq_getElem h1];exact List.getElem_mem h1
  . rintro⟨x,hx,rfl⟩
    obtain⟨c1,c2⟩:=cut_srt Ls.a x.a l (srtL hp)
    have hc:cntL l x.a=l.countP fun y=>decide (y.a<x.a):=rfl
    rw[<- hc] at c1 c2;have hxd:x∈l.drop (cntL l x.a):=by
      have:x∈l.take (cntL l x.a)++l.drop (cntL l x.a):=by rw[List.take_append_drop];exact hx
      rcases List.mem_append.1 this with q|q
      . have:=c1 x q;omega
      . exact q
    have hlen:cntL l x.a<l.length:=by
      rcases Nat.lt_or_ge (cntL l x.a) l.length with q|q
      . exact q
      . rw[List.drop_eq_nil_of_le q] at hxd;simp at hxd
    refine⟨hlen,?_⟩
    rw[List.drop_eq_getElem_cons hlen] at hxd;have hpd:(l.drop (cntL l x.a)).Pairwise fun x y=>x.a<y.a:=List.Pairwise.sublist (List.drop_sublist _ _) hp
    rw[List.drop_eq_getElem_cons hlen,List.pairwise_cons] at hpd;rw[List.getD_eq_getElem?_getD,List.getElem?_eq_getElem hlen,Option.getD_some];rcases List.mem_cons.1 hxd with q|q
    . rw[<- q]
    . have h1:=hpd.1 x q;have h2:=c2 _ (by rw[List.drop_eq_getElem_cons hlen];exact List.mem_cons_self)
      omega
theorem leastGo_in (last:Int):∀ (L:List Ls) (x y:Int),x<=last->L.Pairwise (fun a b=>a.a<b.a)->(∀ l,l∈L->x<=l.a)->leastGo last x L=some y->x<=y/\y<=last/\∀ l,l∈L->l.a≠y:=by
  intro L;induction L with
  | nil=>intro x y hx _ _ h;simp[leastGo] at h;subst h;exact⟨Int.le_refl _,hx,by simp⟩
  | cons l r ih =>
    intro x y hx hp hlo h;rw[List.pairwise_cons] at hp;unfold leastGo at h;split at h
    . rename_i hne;simp at h;subst h
      refine⟨Int.le_refl _,hx,fun z hz=>?_⟩
      rcases List.mem_cons.1 hz with rfl|hz
      . exact hne
      . have:=hp.1 z hz;have:=hlo l List.mem_cons_self;omega
    . rename_i he;simp only[ne_eq,Decidable.not_not] at he
      split at h
      . cases h
      . obtain⟨h1,h2,h3⟩:=ih (x+1) y (by omega) hp.2 (fun z hz=>by have:=hp.1 z hz;omega) h
        refine⟨by omega,h2,fun z hz=>?_⟩
        rcases List.mem_cons.1 hz with rfl|hz
        . omega
        . exact h3 z hz
theorem use_in {a n x:Int} (h:useA a n<=x) (h2:x<=useZ a n):a<=x/\x<a+sz n:=by
  unfold useA useZ lst at *
  split at h<;>split at h2<;>omega
theorem use_lez {a n:Int} (hr:rt a n=true):useA a n<=useZ a n:=by
  obtain⟨n0,n1,_⟩:=rt_iff.1 hr;unfold useA useZ lst;split
  . have h1:=sz_succ n (by omega)
    have h2:=sz_two (n:=n+1) (by omega)
    omega
  . have:=sz_pos n;omega
theorem inn_use {a n x:Int} (hr:rt a n=true) (h:a<=x) (h2:x<a+sz n):inn x 32 a n=true:=by
  obtain⟨n0,n1,_⟩:=rt_iff.1 hr;exact(inn_in rt_one hr).2 ⟨n1,h,by rw[sz_32];omega⟩
theorem good_pool {s:Bk} {l:Ln} (G:Good s) (ha:0<=l.a/\l.a<4294967296) (hr:rt l.a l.n=true) (ho:isName l.o.data.toList=true):Good (doPool s l).1:=by
  unfold doPool;split
  . exact G
  split
  . exact G
  split
  . exact G
  rename_i h1 h2 h3;exact⟨fun h hh=>by rcases mem_insH.1 hh with rfl|hh;exact⟨ha.1,ha.2,hr⟩;exact G.pr h hh,G.nr,fun h hh=>by rcases mem_insH.1 hh with rfl|hh;exact ho;exact G.po h hh,G.no,G.lo,
    ins_apart (fun h hh=>(G.pr h hh).2.2) hr G.pp (by simpa using h2),G.np,G.lp,fun h hh=>by obtain⟨p,hp,q⟩:=G.ni h hh;exact⟨p,mem_insH.2 (.inr hp),q⟩,G.li⟩
theorem good_drop {s:Bk} {l:Ln} (G:Good s):Good (doDrop s l).1:=by
  unfold doDrop;split
  . exact G
  split
  . exact G
  split
  . exact G
  rename_i h1 h2 h3;obtain⟨hm,hma,hmn⟩:=findH_at h1;have hsub:=delAt_sub s.pools (findH s.pools l.a l.n).toNat
  refine⟨fun h hh=>G.pr h (hsub.mem hh),G.nr,fun h hh=>G.po h (hsub.mem hh),G.no,G.lo,G.pp.sublist hsub,G.np,G.lp,fun h hh=>?_,G.li⟩
  obtain⟨p,hp,q⟩:=G.ni h hh;rcases mem_del (k:=(findH s.pools l.a l.n).toNat) hd0 hp with e|e
  . exfalso
    apply h3
    intro hn;rw[e,hma,hmn] at q;have:h∈netsOf s.nets l.a l.n:=List.mem_filter.2 ⟨hh,q⟩
    rw[hn] at this;simp at this
  . exact⟨p,e,q⟩
theorem apart_of {l:List Hd} {x y:Hd} (hp:l.Pairwise fun x y=>x.a+sz x.n<=y.a) (hx:x∈l) (hy:y∈l):x=y\/x.a+sz x.n<=y.a\/y.a+sz y.n<=x.a:=by
  obtain⟨i,hi,rfl⟩:=List.mem_iff_getElem.1 hx;obtain⟨j,hj,rfl⟩:=List.mem_iff_getElem.1 hy;rw[List.pairwise_iff_getElem] at hp;rcases Nat.lt_trichotomy i j with h|h|h
  . exact .inr (.inl (hp i j hi hj h))
  . subst h;exact .inl rfl
  . exact .inr (.inr (hp j i hj hi h))
theorem netsOf_mem {s:Bk} {a n:Int} {h:Hd}:h∈netsOf s.nets a n ↔ h∈s.nets/\inn h.a h.n a n=true:=by unfold netsOf;rw[List.mem_filter]
theorem good_nets {s:Bk} {x:Hd} (G:Good s) (ha:0<=x.a/\x.a<4294967296) (hr:rt x.a x.n=true) (hn:22<=x.n) (ho:isName x.o.data.toList=true) (hany:anyH s.nets x.a x.n=false) (hi:∃ p,p∈s.pools/\inn x.a x.n p.a p.n=true):Good { s with nets:=insH s.nets x } :=
  ⟨G.pr,fun h hh=>by rcases mem_insH.1 hh with rfl|hh;exact⟨ha.1,ha.2,hr,hn⟩;exact G.nr h hh,G.po,fun h hh=>by rcases mem_insH.1 hh with rfl|hh;exact ho;exact G.no h hh,G.lo,G.pp,
    ins_apart (fun h hh=>(G.nr h hh).2.2.1) hr G.np hany,G.lp,fun h hh=>by rcases mem_insH.1 hh with rfl|hh;exact hi;exact G.ni h hh,
    fun h hh=>by obtain⟨p,hp,q⟩:=G.li h hh;exact⟨p,mem_insH.2 (.inr hp),q⟩⟩
theorem net_apart {s:Bk} {l:Ln} {b:Int×Int} (G:Good s) (hg:l.g<=32) (h1:¬findH s.pools l.a l.n<0) (hb:best (frees 33 (netsOf s.nets l.a l.n) l.a l.n) l.g=some b) :
    rt b.1 l.g=true/\0<=b.1/\b.1<4294967296/\anyH s.nets b.1 l.g=false/\∃ p,p∈s.pools/\inn b.1 l.g p.a p.n=true:=by
  obtain⟨hm,hma,hmn⟩:=findH_at h1;obtain⟨p,hpe⟩:∃ p,p=s.pools.getD (findH s.pools l.a l.n).toNat hd0:=⟨_,rfl⟩
  rw[<- hpe] at hm hma hmn;obtain⟨p0,p1,pr⟩:=G.pr p hm;rw[hma,hmn] at pr;rw[hma] at p0 p1;obtain⟨n0,n1,an⟩:=rt_iff.1 pr;rcases best_in _ _ _ hb with⟨q1,q2⟩|q
  . obtain⟨r1,r2,r3,r4,r5⟩:=frees_in _ (fun h hh=>(G.nr h (netsOf_mem.1 hh).1).2.2.1) 33 l.a l.n pr b q1
    have rg:rt b.1 l.g=true:=rt_less r1 q2 hg
    have hsz:=sz_mono q2 hg;have hend:=end_le l.a l.n n0 n1 p0 p1 an;have hpg:=sz_pos l.g;have hin:inn b.1 l.g l.a l.n=true:=(inn_in rg pr).2 ⟨by omega,r3,by omega⟩
    refine⟨rg,by omega,by omega,?_,⟨p,hm,by rw[hma,hmn];exact hin⟩⟩
    unfold anyH;refine List.any_eq_false.2 fun y hy=>?_
    obtain⟨y0,y1,yr,y22⟩:=G.nr y hy;have:meetsH b.1 l.g y=false:=by
      unfold meetsH;refine(mm_no yr rg).2 ?_
      by_cases hy2:inn y.a y.n l.a l.n=true
      . have hn:meetsH b.1 b.2 y=false:=by
          unfold anyH at r5;simpa using List.any_eq_false.1 r5 y (netsOf_mem.2 ⟨hy,hy2⟩)
        rcases (mm_no yr r1).1 hn with q|q
        . exact .inl (by omega)
        . exact .inr q
      . obtain⟨p',hp',hq'⟩:=G.ni y hy;obtain⟨z0,z1,zr⟩:=G.pr p' hp';obtain⟨w1,w2,w3⟩:=(inn_in yr zr).1 hq'
        rcases apart_of G.pp hm hp' with e|e|e
        . rw[<- e,hma,hmn] at hq';exact absurd hq' hy2
        . rw[hma,hmn] at e;exact .inl (by omega)
        . rw[hma] at e;exact .inr (by omega)
    rw[this];decide
  . cases q
theorem good_net {s:Bk} {l:Ln} (G:Good s) (hg:l.g<=32) (ho:isName l.o.data.toList=true):Good (doNet s l).1:=by
  unfold doNet;split
  . exact G
  split
  . exact G
  rename_i h1 h2;rcases hb:best (frees 33 (netsOf s.nets l.a l.n) l.a l.n) l.g with _|b
  . exact G
  . simp only[]
    split
    . exact G
    . obtain⟨r1,r2,r3,r4,r5⟩:=net_apart G hg h1 hb;exact good_nets (x:=⟨b.1,l.g,l.o⟩) G ⟨r2,r3⟩ r1 (by show 22<=l.g;omega) ho r4 r5
theorem good_block {s:Bk} {l:Ln} (G:Good s) (ha:0<=l.a/\l.a<4294967296) (hr:rt l.a l.n=true) (ho:isName l.o.data.toList=true):Good (doBlock s l).1:=by
  unfold doBlock;split
  . exact G
  split
  . exact G
  split
  . exact G
  split
  . exact G
  rename_i h1 h2 h3 h4;obtain⟨hm,hi⟩:=spanH_at h2;exact good_nets (x:=⟨l.a,l.n,l.o⟩) G ha hr (by show 22<=l.n;omega) ho (by simpa using h3) ⟨_,hm,hi⟩
theorem good_free {s:Bk} {l:Ln} (G:Good s):Good (doFree s l).1:=by
  unfold doFree;split
  . exact G
  split
  . exact G
  split
  . exact G
  rename_i h1 h2 h3;obtain⟨hm,hma,hmn⟩:=findH_at h1;have hsub:=delAt_sub s.nets (findH s.nets l.a l.n).toNat
  refine⟨G.pr,fun h hh=>G.nr h (hsub.mem hh),G.po,fun h hh=>G.no h (hsub.mem hh),G.lo,G.pp,G.np.sublist hsub,G.lp,fun h hh=>G.ni h (hsub.mem hh),fun x hx=>?_⟩
  obtain⟨h,hh,q1,q2⟩:=G.li x hx;rcases mem_del (k:=(findH s.nets l.a l.n).toNat) hd0 hh with e|e
  . exfalso
    apply h3
    intro hn;obtain⟨_,_,hr,_⟩:=G.nr h hh;obtain⟨u1,u2⟩:=use_in q1 q2;have hin:=inn_use hr u1 u2;rw[e,hma,hmn] at hin;have:x∈leasesOf s.leases l.a l.n:=List.mem_filter.2 ⟨hx,hin⟩
    rw[hn] at this;simp at this
  . exact⟨h,e,q1,q2⟩
theorem good_leases {s:Bk} {x:Ls} (G:Good s) (ho:isName x.o.data.toList=true) (hno:∀ y,y∈s.leases->y.a≠x.a) (hi:∃ h,h∈s.nets/\useA h.a h.n<=x.a/\x.a<=useZ h.a h.n):Good { s with leases:=insL s.leases x } :=
  ⟨G.pr,G.nr,G.po,G.no,fun h hh=>by rcases mem_insL.1 hh with rfl|hh;exact ho;exact G.lo h hh,G.pp,G.np,
    pair_ins _ Ls.a x s.leases (srtL G.lp) G.lp (fun y hy q=>q) (fun y hy q=>by have:=hno y hy;omega),G.ni,
    fun h hh=>by rcases mem_insL.1 hh with rfl|hh;exact hi;exact G.li h hh⟩
theorem use_of {s:Bk} {h:Hd} {y:Ls} (G:Good s) (hh:h∈s.nets) (hy:y∈s.leases) (hi:inn y.a 32 h.a h.n=true):useA h.a h.n<=y.a/\y.a<=useZ h.a h.n:=by
  obtain⟨_,_,hr,_⟩:=G.nr h hh;obtain⟨_,i2,i3⟩:=(inn_in rt_one hr).1 hi
  rw[sz_32] at i3;obtain⟨h',hh',q1,q2⟩:=G.li y hy;obtain⟨u1,u2⟩:=use_in q1 q2;rcases apart_of G.np hh hh' with e|e|e
  . rw[e];exact⟨q1,q2⟩
  . omega
  . omega
theorem least_free {s:Bk} {h:Hd} {d:Int} (G:Good s) (hh:h∈s.nets) (hl:least s.leases h.a h.n=some d):useA h.a h.n<=d/\d<=useZ h.a h.n/\∀ y,y∈s.leases->y.a≠d:=by
  obtain⟨_,_,hr,_⟩:=G.nr h hh;unfold least at hl;have hm:∀ l,l∈leasesOf s.leases h.a h.n ↔ l∈s.leases/\inn l.a 32 h.a h.n=true:=fun l=>by unfold leasesOf;rw[List.mem_filter]
  obtain⟨h1,h2,h3⟩:=leastGo_in (useZ h.a h.n) (leasesOf s.leases h.a h.n) (useA h.a h.n) d (use_lez hr) (G.lp.sublist List.filter_sublist) (fun l q=>(use_of G hh ((hm l).1 q).1 ((hm l).1 q).2).1) hl
  refine⟨h1,h2,fun y hy e=>?_⟩
  obtain⟨u1,u2⟩:=use_in h1 h2;rw[<- e] at u1 u2;exact h3 y ((hm y).2 ⟨hy,inn_use hr u1 u2⟩) e
theorem good_lease {s:Bk} {l:Ln} (G:Good s) (ho:isName l.o.data.toList=true):Good (doLease s l).1:=by
  unfold doLease;split
  . exact G
  rename_i h1;obtain⟨hm,hma,hmn⟩:=findH_at h1;rcases hb:least s.leases l.a l.n with _|d
  . exact G
  . simp only[]
    split
    . exact G
    . obtain⟨p,hpe⟩:∃ p,p=s.nets.getD (findH s.nets l.a l.n).toNat hd0:=⟨_,rfl⟩
      rw[<- hpe] at hm hma hmn;rw[<- hma,<- hmn] at hb;obtain⟨r1,r2,r3⟩:=least_free G hm hb;exact good_leases (x:=⟨d,l.o⟩) G ho r3 ⟨p,hm,r1,r2⟩
theorem good_take {s:Bk} {l:Ln} (G:Good s) (ho:isName l.o.data.toList=true):Good (doTake s l).1:=by
  unfold doTake;split
  . exact G
  split
  . exact G
  split
  . exact G
  split
  . exact G
  rename_i h1 h2 h3 h4;obtain⟨hm,hi⟩:=spanH_at h1;have h5:=Int.not_lt.1 (fun q=>h2 (.inl q))
  have h6:=Int.not_lt.1 (fun q=>h2 (.inr q))
  refine good_leases (x:=⟨l.d,l.o⟩) G ho (fun y hy e=>?_) ⟨_,hm,h5,h6⟩
  exact h3 ((hasL_iff G.lp l.d).2 ⟨y,hy,e⟩)
theorem good_give {s:Bk} {l:Ln} (G:Good s):Good (doGive s l).1:=by
  unfold doGive;split
  . split
    . exact G
    . have hsub:=delAt_sub s.leases (cntL s.leases l.d)
      exact⟨G.pr,G.nr,G.po,G.no,fun h hh=>G.lo h (hsub.mem hh),G.pp,G.np,G.lp.sublist hsub,G.ni,fun h hh=>G.li h (hsub.mem hh)⟩
  . exact G
def LnGd (l:Ln):Prop:=0<=l.a/\l.a<4294967296/\rt l.a l.n=true/\l.g<=32/\(l.v<8->isName l.o.data.toList=true)
theorem good_ln {s:Bk} {l:Ln} (G:Good s) (h:LnGd l):Good (doLn s l).1:=by
  obtain⟨h1,h2,h3,h4,h5⟩:=h;unfold doLn;split
  . rename_i e;exact good_pool G ⟨h1,h2⟩ h3 (h5 (by omega))
  . exact good_drop G
  . rename_i e;exact good_net G h4 (h5 (by omega))
  . rename_i e;exact good_block G ⟨h1,h2⟩ h3 (h5 (by omega))
  . exact good_free G
  . rename_i e;exact good_lease G (h5 (by omega))
  . rename_i e;exact good_take G (h5 (by omega))
  . exact good_give G
  all_goals exact G
end Go.Proofs.YtjnhhnbgjjkkjaaGreatDoor
