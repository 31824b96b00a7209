import Derived.PlainAid
import Derived.Test.YtjnhhnbgjjkkjaaGreatDoorRePAB
import Derived.Test.YtjnhhnbgjjkkjaaGreatDoorRePAC
set_option linter.all false
set_option maxRecDepth 100000
set_option maxHeartbeats 2000000
namespace Go.Proofs.YtjnhhnbgjjkkjaaGreatDoor
open Go.ChangeShapes Go.WideShapes Go.ChangeAt Go.RowKit Go.Proofs.Tryz
def bs(l:Lu):Bz:=⟨l.toArray⟩
def one(b:Int):Bz:=ByteArray.empty.push (UInt8.ofNat b.toNat)
theorem ti(b:Int):one b=bs [UInt8.ofNat b.toNat]:=rfl
theorem pH(b:Int)(w:World):
  (convert 106 9 (.slice (some (Nw w 0)) 1 1)).run prog (w.alloc (.cells #[.int .u8 b] 5))=.ok (.string (one b)) (w.alloc (.cells #[.int .u8 b] 5)):=by
 rw[run_convert_bytes_string _ _ _ 5 _ _ _ underlying106 underlying5 underlying9];have hl:=run_loadCells_list (P:=prog) (w.alloc (.cells #[.int .u8 b] 5)) (Nw w 0) [.int .u8 b] (fun j v hj=>by
  match j,hj with
  | 0,hj=>simp at hj;subst hj;simp[Addr.add]
  | j+1,hj=>simp at hj)
 exact run_bytesToString _ _ 1 1 [b] (by simpa using hl)
theorem gj{a b:Bz}(h:a=b):Ending.returned (.string a)=.returned (.string b):=by rw[h]
theorem aN(l:Lu):(bs l).size=l.length:=by simp[bs,ByteArray.size]
theorem Al(b:Int):(one b).size=1:=by rw[ti,aN];rfl
theorem En(a b:Bz)(h:a.size+b.size<=9223372036854775807):¬9223372036854775807<a.size+b.size:=by omega
theorem Cq(n:Nat):(dec n).length<=n+1:=by
 induction n using Nat.strongRecOn with
 | ind n ih =>
  unfold dec;rw[Lib.decDigits];split
  ·simp
  ·have:=ih (n / 10) om
   unfold dec at this;simp;omega
theorem dZ(a b:Lu):bs a++bs b=bs (a++b):=by
 apply ByteArray.ext;simp[bs]
theorem bN(l:Lu):(bs l).data.toList=l:=by simp[bs]
theorem D6(s:Bz):bs s.data.toList=s:=by cases s;simp[bs]
theorem vz(x:Int)(h0:0<=x)(h1:x<10):one (48+x%10)=bs (dec x.toNat):=by
 rw[ti,dec,Lib.decDigits_one om,show (48+x%10).toNat=48+x.toNat by omega]
theorem Co(x:Int)(h0:0<=x)(h1:¬x<10):bs (dec (x / 10).toNat)++one (48+x%10)=bs (dec x.toNat):=by
 rw[ti,dZ];congr 1
 unfold dec;have e:Lib.decDigits x.toNat=Lib.decDigits (x.toNat / 10)++[UInt8.ofNat (48+x.toNat%10)]:=by rw[Lib.decDigits,dif_neg om]
 rw[e,show (x / 10).toNat=x.toNat / 10 by omega,show (48+x%10).toNat=48+x.toNat%10 by omega]
theorem qM(k:Nat):∀ (x:Int) (w:World),0<=x->x<k->x<=4294967296 ->
  Cr prog 224 #[I6 x] w (.string (bs (dec x.toNat))):=by
 induction k with
 | zero=>intro x w h0 h;omega
 | succ k ih =>
  intro x w h0 h hk;obtain⟨IH,H⟩:Hid (∀ (x:Int) (w:World),0<=x->x<k->x<=4294967296 ->
  Cr prog 224 #[I6 x] w (.string (bs (dec x.toNat))))/\Hid (x<(k+1:Nat)):=⟨ih,h⟩
  clear h ih;have hcv:=pH (48+x%10)
  by_cases h1:x<10
  ·go_enter func224,ntmps224
   go_wp2;go_ret;exact⟨gj (vz x h0 h1),upB⟩
  ·have hsz:=En (bs (dec (x / 10).toNat)) (one (48+x%10)) (by rw[aN,Al];have:=Cq (x / 10).toNat;omega)
   go_enter func224,ntmps224
   go_wp2_with (go_at_call 224;refine(IH.o _ _ om (by have:=H.o;omega) om).mono ?_;rintro e w1 ⟨rfl,hb1⟩)
   go_ret;exact⟨gj (Co x h0 om),(by have hq:=hb1.mono (B':=w.heap.size) byO;have hq2:=Below.trans (B:=w.heap.size) (a:=w) upB hq;clear hq;exact upB)⟩
theorem fx(x:Int)(w:World)(h0:0<=x)(h1:x<=4294967296):Cr prog 224 #[I6 x] w (.string (bs (dec x.toNat))) :=
 qM (x.toNat+1) x w h0 om h1
def cY(l:Lu)(most:Nat):Int:=match num l most with|some n=>(n:Int)|none=>-1
theorem gT(l:Lu):(bs l).toList=l:=by rw[Lib.toList_data,bN]
theorem hit{k m:Int}{s:Bz}(hk0:0<=k)(hk1:k<=m)(h:((bs (dec k.toNat)).toList==s.toList)=true):k=cY s.data.toList m.toNat:=by
 rw[gT,Lib.toList_data,beq_iff_eq] at h;unfold cY;rw[bA.2 ⟨show k.toNat<=m.toNat by omega,h⟩]
 show k=(k.toNat:Int)
 omega
theorem G7{k:Int}{s:Bz}(hk0:0<=k)(hall:∀ n:Nat,(n:Int)<k->dec n≠s.data.toList)(h:((bs (dec k.toNat)).toList==s.toList)=false):∀ n:Nat,(n:Int)<k+1->dec n≠s.data.toList:=by
 rw[gT,Lib.toList_data,beq_eq_false_iff_ne] at h;intro n hn;by_cases e:(n:Int)<k
 ·exact hall n e
 ·have:n=k.toNat:=by omega
  rw[this];exact h
theorem Ge{k m:Int}{s:Bz}(hm:0<=m)(hk:m<k)(hall:∀ n:Nat,(n:Int)<k->dec n≠s.data.toList):(-1:Int)=cY s.data.toList m.toNat:=by
 unfold cY;rw[lM.2 fun n hn=>hall n om]
theorem fy(s:Bz)(m:Int)(w:World)(h0:0<=m)(h1:m<=255):Cr prog 185 #[.string s,I6 m] w (I6 (cY s.data.toList m.toNat)):=by
 go_enter func185,ntmps185
 go_wp2;go_loopw [5] (fun i wr=>∃ k:Int,0<=k/\k<=m+1/\i=I6 k/\Bl w wr/\Hid (∀ n:Nat,(n:Int)<k->dec n≠s.data.toList)) (fun i _=>(m+1-intOf i).toNat)
 case atStart=>exact⟨0,by omega,by omega,rfl,Below.refl _ _,fun n hn=>by omega⟩
 case round =>
  obtain⟨k,hk0,hk1,rfl,hb,hall⟩:=hrel;by_cases hlt:k<=m
  ·go_wp2_with (go_at_call 224;refine(fx _ _ hk0 om).mono ?_;rintro e w1 ⟨rfl,hb1⟩)
   ·go_ret;exact⟨cM (hit hk0 hlt ‹_›),hb.trans (hb1.mono hb.size)⟩
   ·go_roundw
    case rel=>exact⟨k+1,by omega,by omega,rfl,hb.trans (hb1.mono hb.size),G7 hk0 hall.o ‹_›⟩
    case measure=>simp[intOf];omega
  ·go_wp2;go_ret;exact⟨cM (Ge h0 om hall.o),hb⟩
def tl(a:Nat):Nat->Lu
 | 0=>dec (a%256)
 | k+1=>dec (a / 256^(k+1)%256)++46::tl a k
theorem fH(n:Nat)(h:n<1000):(dec n).length<=3:=by
 rw[pJ n h];unfold sa;split
 ·simp
 ·split<;>simp
theorem oT(a k:Nat):(tl a k).length<=4*k+3:=by
 induction k with
 | zero=>exact fH _ om
 | succ k ih =>
  have:=fH (a / 256^(k+1)%256) om
  simp only[tl,List.length_append,List.length_cons];omega
theorem oS(a:Nat)(h:a<4294967296):tl a 3=dot a:=by
 simp only[tl,dot]
 rw[show a / 256^(2+1)%256=a / 16777216 by omega,show a / 256^(1+1)%256=a / 65536%256 by omega,show a / 256^(0+1)%256=a / 256%256 by omega]
theorem DN(a x:Int)(st:Bz)(k:Nat)(h0:0<=a)(hx:x=a / 256^k)(hs:st=bs (tl a.toNat k)):
  x / 256=a / 256^(k+1)/\bs (dec (x / 256%256).toNat)++(⟨#[46]⟩:Bz)++st=bs (tl a.toNat (k+1)):=by
 have e:x / 256=a / 256^(k+1):=by rw[hx,Int.pow_succ,Int.ediv_ediv_of_nonneg (Int.pow_nonneg dE)]
 refine⟨e,?_⟩
 have e2:(x / 256%256).toNat=a.toNat / 256^(k+1)%256:=by
  rw[e];have ha:a=(a.toNat:Int):=by omega
  have hp:((256:Int)^(k+1))=((256^(k+1):Nat):Int):=by simp
  rw[ha,hp,<- Int.natCast_ediv];simp only[Int.toNat_natCast]
  omega
 rw[e2,hs,show (⟨#[46]⟩:Bz)=bs [46] from rfl,dZ,dZ];simp[tl]
theorem tW(a n:Nat):bs (dot a)++(⟨#[47]⟩:Bz)++bs (dec n)=bs (wr a n):=by
 rw[show (⟨#[47]⟩:Bz)=bs [47] from rfl,dZ,dZ];simp[wr]
theorem iK(a:Int)(w:World)(h0:0<=a)(h1:a<4294967296):Cr prog 222 #[U3 a] w (.string (bs (dot a.toNat))):=by
 go_enter func222,ntmps222
 go_wp2_with (go_at_call 224;refine(fx _ _ om om).mono ?_;rintro e w1 ⟨rfl,hb1⟩)
 go_loopw [3,4,5] (fun m t i wr=>∃ (k:Nat) (x:Int) (st:Bz),k<=3/\0<=x/\x<=4294967295/\m=I6 x/\t=.string st/\i=I6 k/\Hid (x=a / 256^k/\st=bs (tl a.toNat k))/\Bl w wr) (fun _ _ i _=>3-(intOf i).toNat)
 case atStart=>exact⟨0,a,_,by omega,h0,by omega,rfl,rfl,rfl,⟨by simp,by simp only[tl];congr 2;omega⟩,hb1⟩
 case round =>
  obtain⟨k,x,st,hk,hx0,hx1,rfl,rfl,rfl,H,hb⟩:=hrel;have hst:st.size<=100:=by rw[H.o.2,aN];have:=oT a.toNat k;omega
  by_cases hlt:k<3
  ·have hd:(bs (dec (x / 256%256).toNat)).size<=3:=by rw[aN];exact fH _ om
   go_wp2_with (go_at_call 224;refine(fx _ _ om om).mono ?_;rintro e w2 ⟨rfl,hb2⟩)
   go_roundw
   case rel=>exact⟨k+1,x / 256,_,by omega,by omega,by omega,rfl,rfl,by go_num,DN a x st k h0 H.o.1 H.o.2,hb.trans (hb2.mono hb.size)⟩
   case measure=>simp[intOf];omega
  ·obtain rfl:k=3:=by omega
   go_wp2;go_ret;exact⟨gj (by rw[H.o.2,oS _ om]),hb⟩
theorem nM(a n:Int)(w:World)(h0:0<=a)(h1:a<4294967296)(n0:0<=n)(n1:n<=32):Cr prog 221 #[.agg #[U3 a,I6 n]] w (.string (bs (wr a.toNat n.toNat))):=by
 have hd:(bs (dot a.toNat)).size<=100:=by rw[aN,<- oS _ om];have:=oT a.toNat 3;omega
 have hn:(bs (dec n.toNat)).size<=3:=by rw[aN];exact fH _ om
 have hq:Hid (bs (dot a.toNat)++(⟨#[47]⟩:Bz)++bs (dec n.toNat)=bs (wr a.toNat n.toNat)):=tW _ _
 go_enter func221,ntmps221
 go_wp2_with (first|(go_at_call 222;refine Mo (iK _ _ h0 h1) fun w1 hb1=>?_;obtain⟨hc,hf⟩:=aS hb1;have hk0:w1.cell? (Nw w 0)=some (U3 a):=(by simp[hc,go_sem]);have hk1:w1.cell? (Nw w 1)=some (I6 n):=(by simp[hc,go_sem]);have hz0:w.heap.size<w1.heap.size:=(by have:=hb1.size;(try simp at this);omega);clear hc hf)|(go_at_call 224;refine(fx _ _ n0 om).mono ?_;rintro e w2 ⟨rfl,hb2⟩))
 go_ret;exact⟨gj hq.o,(by have hq:=hb1.mono (B':=w.heap.size) byO;have hq2:=Below.trans (B:=w.heap.size) (a:=w) upB hq;clear hq;have hq3:=Below.trans (B:=w.heap.size) (a:=w) upB (hb2.mono (B':=w.heap.size) byO);clear hq2;exact upB)⟩
end Go.Proofs.YtjnhhnbgjjkkjaaGreatDoor
