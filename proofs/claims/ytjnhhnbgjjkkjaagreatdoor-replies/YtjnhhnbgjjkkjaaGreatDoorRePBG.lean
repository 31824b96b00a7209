import Derived.Test.YtjnhhnbgjjkkjaaGreatDoorRePBE
set_option linter.all false
set_option maxRecDepth 100000
set_option maxHeartbeats 2000000
namespace Go.Proofs.YtjnhhnbgjjkkjaaGreatDoor
section
open Go.ChangeShapes Go.WideShapes Go.ChangeAt Go.RowKit Go.Proofs.Tryz
def aB(l:Lu):Int:=match dv l with|some a=>(a:Int)|none=>0
def aOk(l:Lu):Bool:=(dv l).isSome
theorem rK{l:Lu}(h:dv l=none):aB l=0/\aOk l=false:=by simp[aB,aOk,h]
theorem xQ{l:Lu}{a:Nat}(h:dv l=some a):aB l=a/\aOk l=true:=by simp[aB,aOk,h]
theorem ve{l:Lu}(h:(ax 46 l).length≠4):dv l=none:=by
 rcases fo l with⟨_,e⟩|⟨a,e,_⟩
 ·exact e
 ·have:=pg h;omega
theorem ma(s:Bz)(w:World)(E:Env w)(hs:s.size<=2097152):Calls prog 199 #[.string s,.string ⟨#[46]⟩,I6 5] w fun e w'=>∃ (n cap:Nat) (P:Nat->Bz),
   e=.returned (.slice (some (Nw w 0)) n cap)/\n<=cap/\cap<=5/\(n=4 ↔ (ax 46 s.data.toList).length=4)/\(n=4->∀ j,j<4->w'.cell? (Nw w j)=some (.string (P j))/\P j=bs ((ax 46 s.data.toList).getD j []))/\w.heap.size<w'.heap.size/\Bl w w':=by
 obtain⟨m,hm⟩:=E.mx;refine(Tryz.strings_SplitN s ⟨#[46]⟩ 5 m w om hm dE om om).mono ?_
 rintro e w' ⟨rfl,rfl⟩
 have hd:=Lib.splitB_data ⟨#[46]⟩ 0 (min 5 (s.size+1)-1) s
 have hlen:=Lib.splitB_length_le ⟨#[46]⟩ 0 (min 5 (s.size+1)-1) s
 obtain⟨L,hL⟩:∃ L,L=Lib.splitB ⟨#[46]⟩ 0 (min 5 (s.size+1)-1) s:=⟨_,rfl⟩
 rw[<- hL] at hd hlen ⊢;rw[show (⟨#[46]⟩:Bz).data.toList=[46] from rfl,Lib.size_eq s] at hd;obtain⟨f1,f2⟩:=tK s.data.toList;rw[<- hd] at f1 f2;refine⟨L.length,_,fun j=>L.getD j ByteArray.empty,rfl,by omega,by omega,by simpa using f1,?_,by simp,(Below.refl _ _).alloc (Nat.le_refl _) _⟩
 intro h4 j hj;have hj':j<L.length:=by omega
 refine⟨?_,?_⟩
 ·rw[World.cell?_alloc_at _ _ _ _ rfl];unfold Lib.cellsOf;simp[List.getElem?_append,hj',List.getD,List.getElem?_eq_getElem hj']
 ·rw[<- f2 (f1.1 (by simpa using h4))]
  simp[List.getD,List.getElem?_eq_getElem hj']
  exact(D6 _).symm
theorem FA(a x:Int)(h0:0<=a)(h1:a<16777216)(x0:0<=x)(x1:x<=255):bits .or .u32 (a*256) x=256*a+x:=by
 rw[u32_or (a*256) x om om x0 om,nat_join 8 _ _ om om];omega
theorem Ei{l:Lu}{a:Int}{k:Nat}(ha:a=acc (fun j=>cY ((ax 46 l).getD j []) 255) k)(hk:k<4)(h:∀ j,j<k->num ((ax 46 l).getD j []) 255≠none):a<16777216:=by
 have hbd:=xS (fun j=>cY ((ax 46 l).getD j []) 255) k om (fun j hj=>by
  rcases ei ((ax 46 l).getD j []) 255 with⟨_,e⟩|⟨n,e,h',_⟩
  ·exact absurd e (h j hj)
  ·simp only[e];omega)
 have hpw:(256:Int)^k<=16777216:=by
  have:k=0\/k=1\/k=2\/k=3:=by omega
  rcases this with rfl|rfl|rfl|rfl<;>decide
 rw[ha];omega
theorem AG(s:Bz)(w:World)(E0:Env w)(hs:s.size<=2097152):Cr prog 144 #[.string s] w (.tuple #[U3 (aB s.data.toList),.bool (aOk s.data.toList)]):=by
 have E:Hid (Env w):=E0
 clear E0;by_cases h4:(ax 46 s.data.toList).length=4
 ·go_enter func144,ntmps144
  go_wp2_with (go_at_call 199;refine(ma s _ E.o hs).mono ?_;rintro e w1 ⟨n,cap,P,rfl,hnc,hcap,hn4,hcell,hsz1,hb1⟩;obtain rfl:=hn4.2 h4;have HX:Hid (∀ j,j<4->w1.cell? (Nw w j)=some (.string (P j))/\P j=bs ((ax 46 s.data.toList).getD j [])):=hcell rfl;clear hcell hn4)
  go_loopw [5,17] (fun t i wr=>∃ (k:Nat) (a:Int),k<=4/\0<=a/\a<4294967296/\i=I6 k/\t=U3 a/\Bl w1 wr/\Hid (a=acc (fun j=>cY ((ax 46 s.data.toList).getD j []) 255) k/\(∀ j,j<k->num ((ax 46 s.data.toList).getD j []) 255≠none))) (fun _ i _=>4-(intOf i).toNat)
  case atStart=>exact⟨0,0,by omega,by omega,by omega,rfl,rfl,Below.refl _ _,rfl,fun j hj=>by omega⟩
  case round =>
   obtain⟨k,a,hk,a0,a1,rfl,rfl,hb,H⟩:=hrel;by_cases hlt:k<4
   ·have ha2:a<16777216:=Ei H.o.1 hlt H.o.2
    have hce:wr.cell? (Nw w k)=some (.string (P k)):=gw hb hsz1 (HX.o k hlt).1
    have E1:Hid (Env wr):=(E.o.mono hb1).mono hb
    have hPs:(P k).size<=2097152:=by
     rw[(HX.o k hlt).2,aN];have:=jk 46 s.data.toList k
     have:=Lib.size_eq s
     omega
    have hPd:(P k).data.toList=(ax 46 s.data.toList).getD k []:=by rw[(HX.o k hlt).2,bN]
    rcases hnum:num ((ax 46 s.data.toList).getD k []) 255 with _|n
    ·have hn:Hid (Cr prog 200 #[.string (P k),I6 255] wr (.tuple #[I6 0,.bool false])):=by
      have h:=tH (P k) 255 wr E1.o hPs om om
      rw[hPd] at h;obtain⟨q1,q2⟩:=jR hnum;rw[show (255:Int).toNat=255 from rfl,q1,q2] at h;exact h
     have hno:Hid (dv s.data.toList=none):=by
      rcases fo s.data.toList with⟨_,e⟩|⟨x,e,_⟩
      ·exact e
      ·have:=o9 h4 hlt hnum;omega
     clear hnum hPd;go_wp2_with (go_at_call 200;refine hn.o.mono ?_;rintro e w2 ⟨rfl,hb2⟩)
     go_ret2
     obtain⟨q1,q2⟩:=rK hno.o;rw[q1,q2];exact⟨rfl,(hb1.trans (hb.mono (Nat.le_of_lt hsz1))).trans (hb2.mono (Nat.le_trans (Nat.le_of_lt hsz1) hb.size))⟩
    ·have hnx:n<=255:=(bA.1 hnum).1
     obtain⟨x,hx⟩:∃ x:Int,x=n:=⟨_,rfl⟩
     have x0:0<=x:=by omega
     have x1:x<=255:=by omega
     have hn:Hid (Cr prog 200 #[.string (P k),I6 255] wr (.tuple #[I6 x,.bool true])):=by
      have h:=tH (P k) 255 wr E1.o hPs om om
      rw[hPd] at h;obtain⟨q1,q2⟩:=td hnum;rw[show (255:Int).toNat=255 from rfl,q1,q2,<- hx] at h;exact h
     have H2:Hid (256*a+x=acc (fun j=>cY ((ax 46 s.data.toList).getD j []) 255) (k+1)/\(∀ j,j<k+1->num ((ax 46 s.data.toList).getD j []) 255≠none)):=by
      refine⟨?_,fun j hj=>?_⟩
      ·rw[acc,<- H.o.1];simp only[cY,hnum];omega
      ·by_cases e:j<k
       ·exact H.o.2 j e
       ·obtain rfl:j=k:=by omega
        rw[hnum];simp
     have hor:=FA a x a0 ha2 x0 x1;clear hnum hPd hx hnx H;go_wp2_with (go_at_call 200;refine hn.o.mono ?_;rintro e w2 ⟨rfl,hb2⟩)
     go_roundw
     case rel=>exact⟨k+1,256*a+x,by omega,by omega,by omega,by go_num,rfl,hb.trans (hb2.mono hb.size),H2⟩
     case measure=>simp[intOf];omega
   ·obtain rfl:k=4:=by omega
    go_wp2;go_ret2
    have hg:=mD h4 H.o.2;rw[<- H.o.1] at hg;have hs4:dv s.data.toList=some a.toNat:=by
     rcases fo s.data.toList with⟨e,_⟩|⟨x,e,e2⟩
     ·omega
     ·rw[e2];congr 1;omega
    obtain⟨q1,q2⟩:=xQ hs4;rw[q1,q2,show ((a.toNat:Nat):Int)=a by omega]
    exact⟨rfl,hb1.trans (hb.mono (Nat.le_of_lt hsz1))⟩
 ·obtain⟨q1,q2⟩:=rK (ve h4)
  rw[q1,q2];clear q1 q2;go_enter func144,ntmps144
  go_wp2_with (go_at_call 199;refine(ma s _ E.o hs).mono ?_;rintro e w1 ⟨n,cap,P,rfl,hnc,hcap,hn4,hcell,hsz1,hb1⟩;have hne:((n:Int)==4)=false:=(by simp;intro e;exact h4 (hn4.1 om));clear hcell hn4)
  go_ret2
  exact⟨rfl,hb1⟩
theorem iC{w w':World}(h:∃ n,w'=w.drewN n):Bl w w':=by
 obtain⟨n,rfl⟩:=h;exact below_drewN (Below.refl _ _) n
theorem uc(s:Bz)(w:World)(E:Env w)(hs:s.size<=2097152)(a b:Lu)(f:Bool)(h:Lib.cut s.data.toList [47]=(a,b,f)):Cr prog 87 #[.string s,.string ⟨#[47]⟩] w (.tuple #[.string (bs a),.string (bs b),.bool f]):=by
 obtain⟨m,hm⟩:=E.mx;refine(Tryz.strings_Cut s ⟨#[47]⟩ m w om hm).mono ?_
 rintro e w' ⟨rfl,hd⟩
 rw[show (⟨#[47]⟩:Bz).data.toList=[47] from rfl,h];exact⟨rfl,iC hd⟩
theorem tA{l:Lu}(h:47∉l):rd l=none:=tB (by rw[cE 47 l h];simp)
theorem AJ{a b:Lu}(h:47∉a):rd (a++47::b)=(match dv a,num b 32 with
  | some x,some n=>if rt x n then some ((x:Int),(n:Int)) else none
  | _,_=>none):=by
 rcases eR 47 b with hb|⟨c,d,rfl,hc⟩
 ·have hp:ax 47 (a++47::b)=[a,b]:=by rw[bC 47 a b h,cE 47 b hb]
  unfold rd;rw[hp];rfl
 ·have hn:num (c++47::d) 32=none:=lM.2 fun n hn e=>by
   have:=lx 47 dE n
   rw[e] at this;simp at this
  rw[hn];have hoff:rd (a++47::(c++47::d))=none:=tB (by
   rw[bC 47 a _ h,bC 47 c d hc];have:=dJ 47 d
   rw[List.length_cons,List.length_cons];omega)
  rw[hoff]
  cases dv a<;>rfl
theorem rT(s:Bz)(w:World)(t0 t1:Bz)(f okA okN:Bool)(x y:Int)(E:Hid (Env w))
  (cc:Hid (∀ w,Env w->Cr prog 87 #[.string s,.string ⟨#[47]⟩] w (.tuple #[.string t0,.string t1,.bool f])))
  (ca:Hid (∀ w,Env w->Cr prog 144 #[.string t0] w (.tuple #[U3 x,.bool okA])))
  (cn:Hid (∀ w,Env w->Cr prog 145 #[.string t1] w (.tuple #[I6 y,.bool okN]))) (h:f=false) :
  Cr prog 143 #[.string s] w (.tuple #[.agg #[U3 (0),I6 (0)],I6 (1)]):=by
 go_enter func143,ntmps143
 go_wp2_with (first|(go_at_call 87;refine Mo (cc.o _ (E.o.mono upB)) fun w1 hb1=>?_;obtain⟨hc,hf⟩:=aS hb1;have c1_0_0:w1.cell? (Nw w 0)=some (U3 0):=((hc _ _ byO).trans byC);have f1_0_0:w1.frozen? (Nw w 0)=false:=((hf _ _ byO).trans byF);have c1_0_1:w1.cell? (Nw w 1)=some (I6 0):=((hc _ _ byO).trans byC);have f1_0_1:w1.frozen? (Nw w 1)=false:=((hf _ _ byO).trans byF);have z1_0:w.heap.size<w1.heap.size:=(by have:=hb1.size;(try simp at this);omega);clear hc hf;have E1:Hid (Env w1):=(E.o.mono upB).mono hb1)|(go_at_call 144;refine Mo (ca.o _ E1.o) fun w2 hb2=>?_;obtain⟨hc,hf⟩:=aS hb2;have c2_0_0:w2.cell? (Nw w 0)=some (U3 0):=((hc _ _ byO).trans byC);have f2_0_0:w2.frozen? (Nw w 0)=false:=((hf _ _ byO).trans byF);have c2_0_1:w2.cell? (Nw w 1)=some (I6 0):=((hc _ _ byO).trans byC);have f2_0_1:w2.frozen? (Nw w 1)=false:=((hf _ _ byO).trans byF);have z2_0:w.heap.size<w2.heap.size:=(by have:=hb2.size;(try simp at this);omega);clear hc hf;have E2:Hid (Env w2):=E1.o.mono hb2;clear c1_0_0 c1_0_1 f1_0_0 f1_0_1 z1_0)|(go_at_call 145;refine Mo (cn.o _ E2.o) fun w3 hb3=>?_;obtain⟨hc,hf⟩:=aS hb3;have c3_0_0:w3.cell? (Nw w 0)=some (U3 0):=((hc _ _ byO).trans byC);have f3_0_0:w3.frozen? (Nw w 0)=false:=((hf _ _ byO).trans byF);have c3_0_1:w3.cell? (Nw w 1)=some (I6 0):=((hc _ _ byO).trans byC);have f3_0_1:w3.frozen? (Nw w 1)=false:=((hf _ _ byO).trans byF);have z3_0:w.heap.size<w3.heap.size:=(by have:=hb3.size;(try simp at this);omega);clear hc hf;clear c2_0_0 c2_0_1 f2_0_0 f2_0_1 z2_0))
 exact bodyPost_ret (v:=.tuple #[.agg #[U3 (0),I6 (0)],I6 (1)]) (by simp[results,results143,go_sem,c3_0_0,c3_0_1,f3_0_0,f3_0_1,World.cell?_alloc_lt,z3_0,Nat.lt_succ_of_lt z3_0]) rfl ⟨rfl,(by have hq:=hb1.mono (B':=w.heap.size) byO;have hq2:=Below.trans (B:=w.heap.size) (a:=w) upB hq;clear hq;have s1:=hq2.size;have hq3:=Below.trans (B:=w.heap.size) (a:=w) upB (hb2.mono (B':=w.heap.size) byO);have s2:=hq3.size;clear hq2;have hq4:=Below.trans (B:=w.heap.size) (a:=w) upB (hb3.mono (B':=w.heap.size) byO);have s3:=hq4.size;clear hq3;exact upB)⟩
theorem rS(s:Bz)(w:World)(t0 t1:Bz)(f okA okN:Bool)(x y:Int)(E:Hid (Env w))
  (cc:Hid (∀ w,Env w->Cr prog 87 #[.string s,.string ⟨#[47]⟩] w (.tuple #[.string t0,.string t1,.bool f])))
  (ca:Hid (∀ w,Env w->Cr prog 144 #[.string t0] w (.tuple #[U3 x,.bool okA])))
  (cn:Hid (∀ w,Env w->Cr prog 145 #[.string t1] w (.tuple #[I6 y,.bool okN]))) (h:f=true) (ha:okA=false) :
  Cr prog 143 #[.string s] w (.tuple #[.agg #[U3 (0),I6 (0)],I6 (1)]):=by
 go_enter func143,ntmps143
 go_wp2_with (first|(go_at_call 87;refine Mo (cc.o _ (E.o.mono upB)) fun w1 hb1=>?_;obtain⟨hc,hf⟩:=aS hb1;have c1_0_0:w1.cell? (Nw w 0)=some (U3 0):=((hc _ _ byO).trans byC);have f1_0_0:w1.frozen? (Nw w 0)=false:=((hf _ _ byO).trans byF);have c1_0_1:w1.cell? (Nw w 1)=some (I6 0):=((hc _ _ byO).trans byC);have f1_0_1:w1.frozen? (Nw w 1)=false:=((hf _ _ byO).trans byF);have z1_0:w.heap.size<w1.heap.size:=(by have:=hb1.size;(try simp at this);omega);clear hc hf;have E1:Hid (Env w1):=(E.o.mono upB).mono hb1)|(go_at_call 144;refine Mo (ca.o _ E1.o) fun w2 hb2=>?_;obtain⟨hc,hf⟩:=aS hb2;have c2_0_0:w2.cell? (Nw w 0)=some (U3 0):=((hc _ _ byO).trans byC);have f2_0_0:w2.frozen? (Nw w 0)=false:=((hf _ _ byO).trans byF);have c2_0_1:w2.cell? (Nw w 1)=some (I6 0):=((hc _ _ byO).trans byC);have f2_0_1:w2.frozen? (Nw w 1)=false:=((hf _ _ byO).trans byF);have z2_0:w.heap.size<w2.heap.size:=(by have:=hb2.size;(try simp at this);omega);clear hc hf;have E2:Hid (Env w2):=E1.o.mono hb2;clear c1_0_0 c1_0_1 f1_0_0 f1_0_1 z1_0)|(go_at_call 145;refine Mo (cn.o _ E2.o) fun w3 hb3=>?_;obtain⟨hc,hf⟩:=aS hb3;have c3_0_0:w3.cell? (Nw w 0)=some (U3 0):=((hc _ _ byO).trans byC);have f3_0_0:w3.frozen? (Nw w 0)=false:=((hf _ _ byO).trans byF);have c3_0_1:w3.cell? (Nw w 1)=some (I6 0):=((hc _ _ byO).trans byC);have f3_0_1:w3.frozen? (Nw w 1)=false:=((hf _ _ byO).trans byF);have z3_0:w.heap.size<w3.heap.size:=(by have:=hb3.size;(try simp at this);omega);clear hc hf;clear c2_0_0 c2_0_1 f2_0_0 f2_0_1 z2_0))
 exact bodyPost_ret (v:=.tuple #[.agg #[U3 (0),I6 (0)],I6 (1)]) (by simp[results,results143,go_sem,c3_0_0,c3_0_1,f3_0_0,f3_0_1,World.cell?_alloc_lt,z3_0,Nat.lt_succ_of_lt z3_0]) rfl ⟨rfl,(by have hq:=hb1.mono (B':=w.heap.size) byO;have hq2:=Below.trans (B:=w.heap.size) (a:=w) upB hq;clear hq;have s1:=hq2.size;have hq3:=Below.trans (B:=w.heap.size) (a:=w) upB (hb2.mono (B':=w.heap.size) byO);have s2:=hq3.size;clear hq2;have hq4:=Below.trans (B:=w.heap.size) (a:=w) upB (hb3.mono (B':=w.heap.size) byO);have s3:=hq4.size;clear hq3;exact upB)⟩
theorem vq(s:Bz)(w:World)(t0 t1:Bz)(f okA okN:Bool)(x y:Int)(E:Hid (Env w))
  (cc:Hid (∀ w,Env w->Cr prog 87 #[.string s,.string ⟨#[47]⟩] w (.tuple #[.string t0,.string t1,.bool f])))
  (ca:Hid (∀ w,Env w->Cr prog 144 #[.string t0] w (.tuple #[U3 x,.bool okA])))
  (cn:Hid (∀ w,Env w->Cr prog 145 #[.string t1] w (.tuple #[I6 y,.bool okN]))) (h:f=true) (ha:okA=true) (hn:okN=false) :
  Cr prog 143 #[.string s] w (.tuple #[.agg #[U3 (0),I6 (0)],I6 (1)]):=by
 go_enter func143,ntmps143
 go_wp2_with (first|(go_at_call 87;refine Mo (cc.o _ (E.o.mono upB)) fun w1 hb1=>?_;obtain⟨hc,hf⟩:=aS hb1;have c1_0_0:w1.cell? (Nw w 0)=some (U3 0):=((hc _ _ byO).trans byC);have f1_0_0:w1.frozen? (Nw w 0)=false:=((hf _ _ byO).trans byF);have c1_0_1:w1.cell? (Nw w 1)=some (I6 0):=((hc _ _ byO).trans byC);have f1_0_1:w1.frozen? (Nw w 1)=false:=((hf _ _ byO).trans byF);have z1_0:w.heap.size<w1.heap.size:=(by have:=hb1.size;(try simp at this);omega);clear hc hf;have E1:Hid (Env w1):=(E.o.mono upB).mono hb1)|(go_at_call 144;refine Mo (ca.o _ E1.o) fun w2 hb2=>?_;obtain⟨hc,hf⟩:=aS hb2;have c2_0_0:w2.cell? (Nw w 0)=some (U3 0):=((hc _ _ byO).trans byC);have f2_0_0:w2.frozen? (Nw w 0)=false:=((hf _ _ byO).trans byF);have c2_0_1:w2.cell? (Nw w 1)=some (I6 0):=((hc _ _ byO).trans byC);have f2_0_1:w2.frozen? (Nw w 1)=false:=((hf _ _ byO).trans byF);have z2_0:w.heap.size<w2.heap.size:=(by have:=hb2.size;(try simp at this);omega);clear hc hf;have E2:Hid (Env w2):=E1.o.mono hb2;clear c1_0_0 c1_0_1 f1_0_0 f1_0_1 z1_0)|(go_at_call 145;refine Mo (cn.o _ E2.o) fun w3 hb3=>?_;obtain⟨hc,hf⟩:=aS hb3;have c3_0_0:w3.cell? (Nw w 0)=some (U3 0):=((hc _ _ byO).trans byC);have f3_0_0:w3.frozen? (Nw w 0)=false:=((hf _ _ byO).trans byF);have c3_0_1:w3.cell? (Nw w 1)=some (I6 0):=((hc _ _ byO).trans byC);have f3_0_1:w3.frozen? (Nw w 1)=false:=((hf _ _ byO).trans byF);have z3_0:w.heap.size<w3.heap.size:=(by have:=hb3.size;(try simp at this);omega);clear hc hf;clear c2_0_0 c2_0_1 f2_0_0 f2_0_1 z2_0))
 exact bodyPost_ret (v:=.tuple #[.agg #[U3 (0),I6 (0)],I6 (1)]) (by simp[results,results143,go_sem,c3_0_0,c3_0_1,f3_0_0,f3_0_1,World.cell?_alloc_lt,z3_0,Nat.lt_succ_of_lt z3_0]) rfl ⟨rfl,(by have hq:=hb1.mono (B':=w.heap.size) byO;have hq2:=Below.trans (B:=w.heap.size) (a:=w) upB hq;clear hq;have s1:=hq2.size;have hq3:=Below.trans (B:=w.heap.size) (a:=w) upB (hb2.mono (B':=w.heap.size) byO);have s2:=hq3.size;clear hq2;have hq4:=Below.trans (B:=w.heap.size) (a:=w) upB (hb3.mono (B':=w.heap.size) byO);have s3:=hq4.size;clear hq3;exact upB)⟩
theorem vo(s:Bz)(w:World)(t0 t1:Bz)(f okA okN:Bool)(x y:Int)(E:Hid (Env w))
  (cc:Hid (∀ w,Env w->Cr prog 87 #[.string s,.string ⟨#[47]⟩] w (.tuple #[.string t0,.string t1,.bool f])))
  (ca:Hid (∀ w,Env w->Cr prog 144 #[.string t0] w (.tuple #[U3 x,.bool okA])))
  (cn:Hid (∀ w,Env w->Cr prog 145 #[.string t1] w (.tuple #[I6 y,.bool okN]))) (h:f=true) (ha:okA=true) (hn:okN=true) (x0:0<=x) (x1:x<4294967296) (hr:rt x y=false) :
  Cr prog 143 #[.string s] w (.tuple #[.agg #[U3 (0),I6 (0)],I6 (1)]):=by
 go_enter func143,ntmps143
 go_wp2_with (first|(go_at_call 87;refine Mo (cc.o _ (E.o.mono upB)) fun w1 hb1=>?_;obtain⟨hc,hf⟩:=aS hb1;have c1_0_0:w1.cell? (Nw w 0)=some (U3 0):=((hc _ _ byO).trans byC);have f1_0_0:w1.frozen? (Nw w 0)=false:=((hf _ _ byO).trans byF);have c1_0_1:w1.cell? (Nw w 1)=some (I6 0):=((hc _ _ byO).trans byC);have f1_0_1:w1.frozen? (Nw w 1)=false:=((hf _ _ byO).trans byF);have z1_0:w.heap.size<w1.heap.size:=(by have:=hb1.size;(try simp at this);omega);clear hc hf;have E1:Hid (Env w1):=(E.o.mono upB).mono hb1)|(go_at_call 144;refine Mo (ca.o _ E1.o) fun w2 hb2=>?_;obtain⟨hc,hf⟩:=aS hb2;have c2_0_0:w2.cell? (Nw w 0)=some (U3 0):=((hc _ _ byO).trans byC);have f2_0_0:w2.frozen? (Nw w 0)=false:=((hf _ _ byO).trans byF);have c2_0_1:w2.cell? (Nw w 1)=some (I6 0):=((hc _ _ byO).trans byC);have f2_0_1:w2.frozen? (Nw w 1)=false:=((hf _ _ byO).trans byF);have z2_0:w.heap.size<w2.heap.size:=(by have:=hb2.size;(try simp at this);omega);clear hc hf;have E2:Hid (Env w2):=E1.o.mono hb2;clear c1_0_0 c1_0_1 f1_0_0 f1_0_1 z1_0)|(go_at_call 145;refine Mo (cn.o _ E2.o) fun w3 hb3=>?_;obtain⟨hc,hf⟩:=aS hb3;have c3_0_0:w3.cell? (Nw w 0)=some (U3 0):=((hc _ _ byO).trans byC);have f3_0_0:w3.frozen? (Nw w 0)=false:=((hf _ _ byO).trans byF);have c3_0_1:w3.cell? (Nw w 1)=some (I6 0):=((hc _ _ byO).trans byC);have f3_0_1:w3.frozen? (Nw w 1)=false:=((hf _ _ byO).trans byF);have z3_0:w.heap.size<w3.heap.size:=(by have:=hb3.size;(try simp at this);omega);clear hc hf;clear c2_0_0 c2_0_1 f2_0_0 f2_0_1 z2_0)|(go_at_call 198;refine Mo (cQ _ _ _ x0 x1) fun w4 hb4=>?_;obtain⟨hc,hf⟩:=aS hb4;have c4_0_0:w4.cell? (Nw w 0)=some (U3 0):=((hc _ _ byO).trans byC);have f4_0_0:w4.frozen? (Nw w 0)=false:=((hf _ _ byO).trans byF);have c4_0_1:w4.cell? (Nw w 1)=some (I6 0):=((hc _ _ byO).trans byC);have f4_0_1:w4.frozen? (Nw w 1)=false:=((hf _ _ byO).trans byF);have c4_1_0:w4.cell? (Nw w3 0)=some (U3 x):=((hc _ _ byO).trans byC);have c4_1_1:w4.cell? (Nw w3 1)=some (I6 y):=((hc _ _ byO).trans byC);have z4_0:w.heap.size<w4.heap.size:=(by have:=hb4.size;(try simp at this);omega);have z4_1:w3.heap.size<w4.heap.size:=(by have:=hb4.size;(try simp at this);omega);clear hc hf;clear c3_0_0 c3_0_1 f3_0_0 f3_0_1 z3_0))
 exact bodyPost_ret (v:=.tuple #[.agg #[U3 (0),I6 (0)],I6 (1)]) (by simp[results,results143,go_sem,c4_0_0,c4_0_1,f4_0_0,f4_0_1,World.cell?_alloc_lt,z4_0,Nat.lt_succ_of_lt z4_0]) rfl ⟨rfl,(by have hq:=hb1.mono (B':=w.heap.size) byO;have hq2:=Below.trans (B:=w.heap.size) (a:=w) upB hq;clear hq;have s1:=hq2.size;have hq3:=Below.trans (B:=w.heap.size) (a:=w) upB (hb2.mono (B':=w.heap.size) byO);have s2:=hq3.size;clear hq2;have hq4:=Below.trans (B:=w.heap.size) (a:=w) upB (hb3.mono (B':=w.heap.size) byO);have s3:=hq4.size;clear hq3;have hq5:=Below.trans (B:=w.heap.size) (a:=w) upB (hb4.mono (B':=w.heap.size) byO);have s4:=hq5.size;clear hq4;exact upB)⟩
theorem yt(s:Bz)(w:World)(t0 t1:Bz)(f okA okN:Bool)(x y:Int)(E:Hid (Env w))
  (cc:Hid (∀ w,Env w->Cr prog 87 #[.string s,.string ⟨#[47]⟩] w (.tuple #[.string t0,.string t1,.bool f])))
  (ca:Hid (∀ w,Env w->Cr prog 144 #[.string t0] w (.tuple #[U3 x,.bool okA])))
  (cn:Hid (∀ w,Env w->Cr prog 145 #[.string t1] w (.tuple #[I6 y,.bool okN]))) (h:f=true) (ha:okA=true) (hn:okN=true) (x0:0<=x) (x1:x<4294967296) (hr:rt x y=true) :
  Cr prog 143 #[.string s] w (.tuple #[.agg #[U3 (x),I6 (y)],I6 (0)]):=by
 go_enter func143,ntmps143
 go_wp2_with (first|(go_at_call 87;refine Mo (cc.o _ (E.o.mono upB)) fun w1 hb1=>?_;obtain⟨hc,hf⟩:=aS hb1;have c1_0_0:w1.cell? (Nw w 0)=some (U3 0):=((hc _ _ byO).trans byC);have f1_0_0:w1.frozen? (Nw w 0)=false:=((hf _ _ byO).trans byF);have c1_0_1:w1.cell? (Nw w 1)=some (I6 0):=((hc _ _ byO).trans byC);have f1_0_1:w1.frozen? (Nw w 1)=false:=((hf _ _ byO).trans byF);have z1_0:w.heap.size<w1.heap.size:=(by have:=hb1.size;(try simp at this);omega);clear hc hf;have E1:Hid (Env w1):=(E.o.mono upB).mono hb1)|(go_at_call 144;refine Mo (ca.o _ E1.o) fun w2 hb2=>?_;obtain⟨hc,hf⟩:=aS hb2;have c2_0_0:w2.cell? (Nw w 0)=some (U3 0):=((hc _ _ byO).trans byC);have f2_0_0:w2.frozen? (Nw w 0)=false:=((hf _ _ byO).trans byF);have c2_0_1:w2.cell? (Nw w 1)=some (I6 0):=((hc _ _ byO).trans byC);have f2_0_1:w2.frozen? (Nw w 1)=false:=((hf _ _ byO).trans byF);have z2_0:w.heap.size<w2.heap.size:=(by have:=hb2.size;(try simp at this);omega);clear hc hf;have E2:Hid (Env w2):=E1.o.mono hb2;clear c1_0_0 c1_0_1 f1_0_0 f1_0_1 z1_0)|(go_at_call 145;refine Mo (cn.o _ E2.o) fun w3 hb3=>?_;obtain⟨hc,hf⟩:=aS hb3;have c3_0_0:w3.cell? (Nw w 0)=some (U3 0):=((hc _ _ byO).trans byC);have f3_0_0:w3.frozen? (Nw w 0)=false:=((hf _ _ byO).trans byF);have c3_0_1:w3.cell? (Nw w 1)=some (I6 0):=((hc _ _ byO).trans byC);have f3_0_1:w3.frozen? (Nw w 1)=false:=((hf _ _ byO).trans byF);have z3_0:w.heap.size<w3.heap.size:=(by have:=hb3.size;(try simp at this);omega);clear hc hf;clear c2_0_0 c2_0_1 f2_0_0 f2_0_1 z2_0)|(go_at_call 198;refine Mo (cQ _ _ _ x0 x1) fun w4 hb4=>?_;obtain⟨hc,hf⟩:=aS hb4;have c4_0_0:w4.cell? (Nw w 0)=some (U3 0):=((hc _ _ byO).trans byC);have f4_0_0:w4.frozen? (Nw w 0)=false:=((hf _ _ byO).trans byF);have c4_0_1:w4.cell? (Nw w 1)=some (I6 0):=((hc _ _ byO).trans byC);have f4_0_1:w4.frozen? (Nw w 1)=false:=((hf _ _ byO).trans byF);have c4_1_0:w4.cell? (Nw w3 0)=some (U3 x):=((hc _ _ byO).trans byC);have c4_1_1:w4.cell? (Nw w3 1)=some (I6 y):=((hc _ _ byO).trans byC);have z4_0:w.heap.size<w4.heap.size:=(by have:=hb4.size;(try simp at this);omega);have z4_1:w3.heap.size<w4.heap.size:=(by have:=hb4.size;(try simp at this);omega);clear hc hf;clear c3_0_0 c3_0_1 f3_0_0 f3_0_1 z3_0))
 exact bodyPost_ret (v:=.tuple #[.agg #[U3 (x),I6 (y)],I6 (0)]) (by simp[results,results143,go_sem,c4_0_0,c4_0_1,f4_0_0,f4_0_1,World.cell?_alloc_lt,z4_0,Nat.lt_succ_of_lt z4_0]) rfl ⟨rfl,(by have hq:=hb1.mono (B':=w.heap.size) byO;have hq2:=Below.trans (B:=w.heap.size) (a:=w) upB hq;clear hq;have s1:=hq2.size;have hq3:=Below.trans (B:=w.heap.size) (a:=w) upB (hb2.mono (B':=w.heap.size) byO);have s2:=hq3.size;clear hq2;have hq4:=Below.trans (B:=w.heap.size) (a:=w) upB (hb3.mono (B':=w.heap.size) byO);have s3:=hq4.size;clear hq3;have hq5:=Below.trans (B:=w.heap.size) (a:=w) upB (hb4.mono (B':=w.heap.size) byO);have s4:=hq5.size;clear hq4;exact upB)⟩
theorem vm(s:Bz)(w:World)(E:Env w)(hs:s.size<=2097152):Cr prog 143 #[.string s] w (.tuple #[.agg #[U3 (rdB s.data.toList),I6 (rdN s.data.toList)],I6 (rdE s.data.toList)]):=by
 have hl:=Lib.size_eq s;have ca:∀ l:Lu,l.length<=s.size->∀ w,Env w->Cr prog 144 #[.string (bs l)] w (.tuple #[U3 (aB l),.bool (aOk l)]):=fun l h w E=>by
  have:=AG (bs l) w E (by rw[aN];omega)
  rw[bN] at this;exact this
 have cn:∀ l:Lu,l.length<=s.size->∀ w,Env w->Cr prog 145 #[.string (bs l)] w (.tuple #[I6 (nB l 32),.bool (nOk l 32)]):=fun l h w E=>by
  have:=nF (bs l) w E (by rw[aN];omega)
  rw[bN] at this;exact this
 rcases eR 47 s.data.toList with h|⟨a,b,hab,h⟩
 ·obtain⟨q1,q2,q3⟩:=cW (tA h)
  rw[q1,q2,q3];exact rT s w _ _ _ _ _ _ _ E (fun w E=>uc s w E hs _ _ _ (r9 47 _ h)) (ca _ om) (cn _ sM) rfl
 ·have hrd:=AJ (b:=b) h
  rw[<- hab] at hrd;have la:a.length<=s.size:=by rw[hl,hab];simp
  have lb:b.length<=s.size:=by rw[hl,hab];simp;omega
  have cc:∀ w,Env w->Cr prog 87 #[.string s,.string ⟨#[47]⟩] w (.tuple #[.string (bs a),.string (bs b),.bool true]):=fun w E=>uc s w E hs _ _ _ (by rw[hab];exact r8 47 a b h)
  have ca:=ca a la;have cn:=cn b lb;rcases ea:dv a with _|x
  ·rw[ea] at hrd;obtain⟨q1,q2,q3⟩:=cW hrd;rw[q1,q2,q3];exact rS s w _ _ _ _ _ _ _ E cc ca cn rfl (rK ea).2
  ·have hx:=gS ea;obtain⟨r1,r2⟩:=xQ ea;rw[r1,r2] at ca;rcases en:num b 32 with _|n
   ·rw[ea,en] at hrd;obtain⟨q1,q2,q3⟩:=cW hrd;rw[q1,q2,q3];exact vq s w _ _ _ _ _ _ _ E cc ca cn rfl rfl (jR en).2
   ·rw[ea,en] at hrd;obtain⟨r3,r4⟩:=td en;rw[r3,r4] at cn;rcases hr:rt (x:Int) (n:Int) with _|_
    ·simp only[hr] at hrd
     obtain⟨q1,q2,q3⟩:=cW hrd;rw[q1,q2,q3];exact vo s w _ _ _ _ _ _ _ E cc ca cn rfl rfl rfl om om hr
    ·simp only[hr] at hrd
     obtain⟨q1,q2,q3⟩:=gi hrd;rw[q1,q2,q3];exact yt s w _ _ _ _ _ _ _ E cc ca cn rfl rfl rfl om om hr
theorem xq(c:UInt8)(n:Nat):∀ l:Lu,l.length<=n->Lib.splitK [c] 0 (Lib.count l [c]) l=ax c l:=by
 induction n with
 | zero =>
  intro l hl;obtain rfl:l=[]:=List.eq_nil_of_length_eq_zero om
  rw[Lib.count_miss (jc c [] sM),cE c [] sM];rfl
 | succ n ih =>
  intro l hl;rcases eR c l with h|⟨a,b,rfl,h⟩
  ·rw[Lib.count_miss (jc c l h),cE c l h];rfl
  ·have hc:=Lib.count_hit (s:=a++c::b) (sub:=[c]) sM (jb c a b h)
   have hd:(a++c::b).drop (a.length+[c].length)=b:=by simp[List.drop_append]
   rw[hd] at hc;rw[hc,Nat.add_comm,q8 c _ a b h,ih b (by simp at hl;omega),bC c a b h]
theorem xu(s:Bz)(w:World)(E:Env w)(hs:s.size<=2097152):Calls prog 58 #[.string s,.string ⟨#[32]⟩] w fun e w'=>∃ L:List Bz,L.map (fun x=>x.data.toList)=ax 32 s.data.toList/\e=.returned (.slice (some (Nw w 0)) L.length L.length)/\w'=w.alloc (.cells (L.map Value.string).toArray 9):=by
 obtain⟨m,hm⟩:=E.mx;refine(Tryz.strings_Split s ⟨#[32]⟩ m w om hm dE).mono ?_
 rintro e w' ⟨rfl,rfl⟩
 have hlen:=Lib.splitB_all ⟨#[32]⟩ dE 0 _ s rfl
 have hd:=Lib.splitB_data ⟨#[32]⟩ 0 (Lib.countB s ⟨#[32]⟩) s
 have ha:=xq 32 _ s.data.toList (Nat.le_refl _)
 exact⟨Lib.splitB ⟨#[32]⟩ 0 (Lib.countB s ⟨#[32]⟩) s,hd.trans ha,by rw[hlen],rfl⟩
end
section
open Go.RowKit
def sG(c:UInt8):List (Lu)->Lu
 | []=>[]
 | [p]=>p
 | p::r=>p++c::sG c r
theorem iG(c:UInt8)(n:Nat):∀ l:Lu,l.length<=n->sG c (ax c l)=l:=by
 induction n with
 | zero =>
  intro l hl;obtain rfl:l=[]:=List.eq_nil_of_length_eq_zero om
  rfl
 | succ n ih =>
  intro l hl;rcases eR c l with h|⟨a,b,rfl,h⟩
  ·rw[cE c l h];rfl
  ·rw[bC c a b h];have hb:=ih b (by simp at hl;omega)
   have hp:=dJ c b;rcases e:ax c b with _|⟨q,r⟩
   ·rw[e] at hp;simp at hp
   ·rw[e] at hb;show a++c::sG c (q::r)=_
    rw[hb]
theorem vM{p0 p1 p2 p3:Lu}{a:Nat}(h:four p0 p1 p2 p3=some a):sG 46 [p0,p1,p2,p3]=dot a:=by
 unfold four at h;split at h
 ·rename_i a0 a1 a2 a3 e0 e1 e2 e3;obtain⟨h0,rfl⟩:=bA.1 e0;obtain⟨h1,rfl⟩:=bA.1 e1;obtain⟨h2,rfl⟩:=bA.1 e2;obtain⟨h3,rfl⟩:=bA.1 e3;simp at h;subst h;unfold dot;rw[show (((a0*256+a1)*256+a2)*256+a3) / 16777216=a0 by omega,show (((a0*256+a1)*256+a2)*256+a3) / 65536%256=a1 by omega,show (((a0*256+a1)*256+a2)*256+a3) / 256%256=a2 by omega,show (((a0*256+a1)*256+a2)*256+a3)%256=a3 by omega]
  rfl
 ·cases h
theorem mF{l:Lu}{a:Nat}(h:dv l=some a):l=dot a:=by
 have hg:=iG 46 l.length l (Nat.le_refl _)
 unfold dv at h;split at h
 ·rename_i p0 p1 p2 p3 e;rw[e] at hg;rw[<- hg];exact vM h
 ·cases h
theorem oB{l:Lu}{a n:Int}(h:rd l=some (a,n)):l=wr a.toNat n.toNat/\rt a n=true/\0<=a/\a<4294967296/\0<=n/\n<=32:=by
 have hg:=iG 47 l.length l (Nat.le_refl _)
 unfold rd at h;split at h
 ·rename_i x y e;split at h
  ·rename_i A N ea en;split at h
   ·rename_i hr;simp at h;obtain⟨rfl,rfl⟩:=h;have h1:=mF ea;have h2:=gS ea;obtain⟨h3,h4⟩:=bA.1 en;rw[e] at hg;refine⟨?_,hr,by omega,by omega,by omega,by omega⟩
    rw[<- hg];show x++47::y=_
    rw[h1,<- h4];simp[wr]
   ·cases h
  ·cases h
 ·cases h
theorem ly(c:UInt8)(hc:c.toNat<46\/c.toNat=47\/57<c.toNat)(a:Nat):c∉dot a:=by
 have h:=fun n=>lx c om n
 have h46:c≠46:=fun e=>by rw[e] at hc;revert hc;decide
 unfold dot;simp only[List.mem_append,List.mem_cons]
 intro e;rcases e with e|e|e|e|e|e|e
 ·exact h _ e
 ·exact h46 e
 ·exact h _ e
 ·exact h46 e
 ·exact h _ e
 ·exact h46 e
 ·exact h _ e
theorem jj(n m:Nat)(h:n<=m):num (dec n) m=some n:=bA.2 ⟨h,rfl⟩
theorem pd(a:Nat)(h:a<4294967296):dv (dot a)=some a:=by
 have hd:=fun n=>lx 46 dE n
 have hp:ax 46 (dot a)=[dec (a / 16777216),dec (a / 65536%256),dec (a / 256%256),dec (a%256)]:=by
  unfold dot;rw[bC 46 _ _ (hd _),bC 46 _ _ (hd _),bC 46 _ _ (hd _),cE 46 _ (hd _)]
 unfold dv;rw[hp];simp only[four]
 rw[jj _ _ om,jj _ _ om,jj _ _ om,jj _ _ om];simp only[Option.some.injEq]
 omega
theorem Gs{a n:Int}(h0:0<=a)(h1:a<4294967296)(hr:rt a n=true):rd (wr a.toNat n.toNat)=some (a,n):=by
 obtain⟨n0,n1,_⟩:=aj.1 hr;have hc:=AJ (b:=dec n.toNat) (ly 47 dE a.toNat)
 unfold wr;rw[hc,pd _ om,jj _ _ om];simp only[]
 rw[show ((a.toNat:Nat):Int)=a by omega,show ((n.toNat:Nat):Int)=n by omega,if_pos hr]
def fW(k:Nat):Lu:=aY.getD k []
theorem BJ:∀ k:Fin 11,fi (fun v=>v==fW k) aY=((k:Nat):Int):=by decide +kernel
theorem DS(k:Nat)(h:k<11):fi (fun v=>v==fW k) aY=(k:Int):=BJ ⟨k,h⟩
theorem BK:∀ k:Fin 11,(32:UInt8)∉fW k/\(fW k).length<=5:=by decide +kernel
theorem uZ(k:Nat)(h:k<11):(32:UInt8)∉fW k/\(fW k).length<=5:=BK ⟨k,h⟩
theorem gJ{l:Lu}(h:ag l=true):0<l.length/\l.length<=8/\∀ c,c∈l->(97<=c.toNat/\c.toNat<=122)\/(48<=c.toNat/\c.toNat<=57):=by
 unfold ag at h;simp only[Bool.and_eq_true,decide_eq_true_eq,List.all_eq_true,Bool.or_eq_true] at h
 exact⟨h.1.1,h.1.2,h.2⟩
theorem g9{l:Lu}(h:ag l=true):(32:UInt8)∉l:=fun q=>by
 have:=(gJ h).2.2 32 q
 revert this;decide
theorem iY{n:Nat}(h:n<1000):1<=(dec n).length/\(dec n).length<=3:=by
 rw[pJ n h];unfold sa
 split
 ·simp
 ·split<;>simp
theorem fI(a:Nat)(h:a<4294967296):7<=(dot a).length/\(dot a).length<=15:=by
 have h0:=iY (n:=a / 16777216) om
 have h1:=iY (n:=a / 65536%256) om
 have h2:=iY (n:=a / 256%256) om
 have h3:=iY (n:=a%256) om
 unfold dot;simp only[List.length_append,List.length_cons]
 omega
theorem yM{n:Nat}(h:n<100):(dec n).length<=2:=by
 rw[pJ n om];unfold sa
 split
 ·simp
 ·simp
theorem oW(a n:Nat)(h:a<4294967296)(hn:n<=32):(wr a n).length<=18:=by
 have h0:=fI a h;have h1:=yM (n:=n) om
 unfold wr;simp only[List.length_append,List.length_cons]
 omega
theorem BQ(c:UInt8)(hc:c.toNat<46\/57<c.toNat)(a n:Nat):c∉wr a n:=by
 unfold wr;intro q;rcases List.mem_append.1 q with q|q
 ·exact ly c om a q
 ·rcases List.mem_cons.1 q with q|q
  ·rw[q] at hc;revert hc;decide
  ·exact lx c om n q
theorem uJ{v t o x:Lu}(hv:(32:UInt8)∉v)(ht:(32:UInt8)∉t)(ho:(32:UInt8)∉o)(hx:(32:UInt8)∉x):ax 32 (v++32::(t++32::(o++32::x)))=[v,t,o,x]:=by
 rw[bC 32 _ _ hv,bC 32 _ _ ht,bC 32 _ _ ho,cE 32 _ hx]
theorem nH{s:Lu}{k:Nat}{ws:List (Lu)}(hs:s.length<=100)(hk:k<11)(hp:ax 32 s=fW k::ws):aE s=aq (ln0 k) (form k) ws:=by
 unfold aE;rw[if_pos hs,hp];simp only[]
 rw[DS k hk,if_neg om,Int.toNat_natCast]
def lnB(k:Nat)(t o:Lu)(a n:Int):Ln:=⟨k,⟨t.toArray⟩,⟨o.toArray⟩,a,n,0,0⟩
theorem lU{k:Nat}{t o:Lu}{a n:Int}(hk:k=0\/k=1\/k=3\/k=4\/k=5)(ht:ag t=true)(ho:ag o=true)(h0:0<=a)(h1:a<4294967296)(hr:rt a n=true):
  aE (fW k++32::(t++32::(o++32::wr a.toNat n.toNat)))=some (lnB k t o a n):=by
 obtain⟨n0,n1,_⟩:=aj.1 hr;obtain⟨v1,v2⟩:=uZ k om;obtain⟨_,t2,_⟩:=gJ ht;obtain⟨_,o2,_⟩:=gJ ho;have hl:=oW a.toNat n.toNat om om;have hp:=uJ v1 (g9 ht) (g9 ho) (BQ 32 dE a.toNat n.toNat)
 rw[nH (by simp only[List.length_append,List.length_cons];omega) om hp]
 have hf:form k=[1,2,3]:=by rcases hk with rfl|rfl|rfl|rfl|rfl<;>rfl
 rw[hf];simp only[aq,aQ,ht,ho,Gs h0 h1 hr,if_pos,if_true,Nat.reduceEqDiff,if_false,ite_true]
 rfl
theorem wX{k:Nat}{t o:Lu}{d:Nat}(hk:k=6\/k=7)(ht:ag t=true)(ho:ag o=true)(h1:d<4294967296):
  aE (fW k++32::(t++32::(o++32::dot d)))=some { lnB k t o 0 0 with d:=d }:=by
 obtain⟨v1,v2⟩:=uZ k om;obtain⟨_,t2,_⟩:=gJ ht;obtain⟨_,o2,_⟩:=gJ ho;have hl:=fI d h1;have hp:=uJ v1 (g9 ht) (g9 ho) (ly 32 dE d)
 rw[nH (by simp only[List.length_append,List.length_cons];omega) om hp]
 have hf:form k=[1,2,4]:=by rcases hk with rfl|rfl<;>rfl
 rw[hf];simp only[aq,aQ,ht,ho,pd d h1,if_pos,if_true,Nat.reduceEqDiff,if_false,ite_true]
 rfl
theorem lN:∀ (w:Lu) (l:List (Lu)),(32:UInt8)∉w->(∀ x,x∈l->(32:UInt8)∉x)->ax 32 (w++l.flatMap (fun t=>32::t))=w::l
 | w,[],hw,_=>by simp[cE 32 w hw]
 | w,x::r,hw,h=>by
  rw[List.flatMap_cons,List.cons_append,bC 32 w _ hw,lN x r (h x sM) (fun y hy=>h y (by simp[hy]))]
theorem zf{h:Hd}(ho:ag h.o.data.toList=true):(32:UInt8)∉bJ h:=by
 unfold bJ cF;intro q;rcases List.mem_append.1 q with q|q
 ·exact BQ 32 dE _ _ q
 ·rcases List.mem_cons.1 q with q|q
  ·revert q;decide
  ·exact g9 ho q
theorem zC{h:Ls}(ho:ag h.o.data.toList=true):(32:UInt8)∉dt h:=by
 unfold dt;intro q;rcases List.mem_append.1 q with q|q
 ·exact ly 32 dE _ q
 ·rcases List.mem_cons.1 q with q|q
  ·revert q;decide
  ·exact g9 ho q
def vh(L:List (Lu)):Lu:=[79,75]++L.flatMap (fun t=>32::t)
def Fp(s:Bk):Lu:=vh (s.pools.map bJ)
def Gk(s:Bk)(p:Hd):Lu:=vh ((af s.nets p.a p.n).map bJ)
def Ec(s:Bk)(h:Hd):Lu:=vh ((aw s.leases h.a h.n).map dt)
def kH(s:Bk)(p:Hd):List (Lu):=Gk s p::(af s.nets p.a p.n).map (Ec s)
def gQ(s:Bk):List (Lu):=Fp s::s.pools.flatMap (kH s)
theorem nD(L:List (Lu))(h:∀ x,x∈L->(32:UInt8)∉x):ax 32 (vh L)=[79,75]::L:=lN [79,75] L dE h
theorem tY{L M:List (Lu)}(hL:∀ x,x∈L->(32:UInt8)∉x)(hM:∀ x,x∈M->(32:UInt8)∉x)(e:vh L=vh M):L.length=M.length:=by
 have h1:=nD L hL;rw[e,nD M hM] at h1;simp at h1;rw[h1]
theorem zh{l:List Hd}(h:∀ x,x∈l->ag x.o.data.toList=true):∀ x,x∈l.map bJ->(32:UInt8)∉x:=fun x hx=>by
 obtain⟨y,hy,rfl⟩:=List.mem_map.1 hx;exact zf (h y hy)
theorem zD{l:List Ls}(h:∀ x,x∈l->ag x.o.data.toList=true):∀ x,x∈l.map dt->(32:UInt8)∉x:=fun x hx=>by
 obtain⟨y,hy,rfl⟩:=List.mem_map.1 hx;exact zC (h y hy)
theorem je{l:List Ls}{a n:Int}{x:Ls}(h:x∈aw l a n):x∈l:=(List.mem_filter.1 h).1
theorem CB{α β:Type}(f g:α->List β)(l:List α)(h:∀ x,x∈l->(f x).length<=(g x).length)(hx:∃ x,x∈l/\(f x).length<(g x).length):(l.flatMap f).length<(l.flatMap g).length:=by
 have hle:∀ r:List α,(∀ x,x∈r->(f x).length<=(g x).length)->(r.flatMap f).length<=(r.flatMap g).length:=by
  intro r;induction r with
  | nil=>intro _;simp
  | cons y q ih =>
   intro h;have h1:=h y sM
   have h2:=ih (fun x hx=>h x (by simp[hx]))
   simp only[List.flatMap_cons,List.length_append];omega
 induction l with
 | nil=>obtain⟨x,hx,_⟩:=hx;simp at hx
 | cons y q ih =>
  have h1:=h y sM
  have h2:=hle q (fun x hx=>h x (by simp[hx]))
  simp only[List.flatMap_cons,List.length_append]
  obtain⟨x,hx,hlt⟩:=hx;rcases List.mem_cons.1 hx with rfl|hx
  ·omega
  ·have:=ih (fun x hx=>h x (by simp[hx])) ⟨x,hx,hlt⟩;omega
theorem CA{α β:Type}(f g:α->List β)(l:List α)(h:∀ x,x∈l->(f x).length=(g x).length)(e:l.flatMap f=l.flatMap g):∀ x,x∈l->f x=g x:=by
 induction l with
 | nil=>intro x hx;simp at hx
 | cons y q ih =>
  simp only[List.flatMap_cons] at e
  obtain⟨e1,e2⟩:=List.append_inj e (h y sM)
  intro x hx;rcases List.mem_cons.1 hx with rfl|hx
  ·exact e1
  ·exact ih (fun x hx=>h x (by simp[hx])) e2 x hx
theorem lC{α:Type}(p:α->Bool)(l:List α)(c:Nat)(x:α):((l.take c++x::l.drop c).filter p).length=(l.filter p).length+(if p x then 1 else 0):=by
 conv=>rhs;rw[<- List.take_append_drop c l]
 rw[List.filter_append,List.filter_append,List.filter_cons];split<;>simp<;>omega
theorem lA{α:Type}(p:α->Bool)(l:List α)(k:Nat)(d:α)(h:k<l.length):((aA l k).filter p).length+(if p (l.getD k d) then 1 else 0)=(l.filter p).length:=by
 unfold aA;conv=>rhs;rw[<- List.take_append_drop k l,List.drop_eq_getElem_cons h]
 rw[List.filter_append,List.filter_append,List.filter_cons,List.getD_eq_getElem?_getD,List.getElem?_eq_getElem h,Option.getD_some];split<;>simp<;>omega
theorem eW(s:Bk)(p:Hd):(kH s p).length=1+(af s.nets p.a p.n).length:=by unfold kH;simp;omega
theorem j6{s s':Bk}(hp:s'.pools=s.pools){x:Hd}(hn:∀ a n,(af s'.nets a n).length=(af s.nets a n).length+(if inn x.a x.n a n then 1 else 0))(hi:∃ p,p∈s.pools/\inn x.a x.n p.a p.n=true):gQ s'≠gQ s:=by
 intro e;have:=congrArg List.length e
 unfold gQ at this;rw[hp,List.length_cons,List.length_cons] at this;have hlt:=CB (kH s) (kH s') s.pools (fun p hp=>by rw[eW,eW,hn];omega) (by
  obtain⟨p,hp,hi⟩:=hi;exact⟨p,hp,by rw[eW,eW,hn,if_pos hi];omega⟩)
 omega
theorem gM{s s':Bk}(G:a8 s)(G':a8 s')(hp:s'.pools=s.pools)(hn:s'.nets=s.nets){h:Hd}(hh:h∈s.nets)(hl:(aw s'.leases h.a h.n).length≠(aw s.leases h.a h.n).length):gQ s'≠gQ s:=by
 intro e;unfold gQ at e;rw[hp,List.cons.injEq] at e;obtain⟨p,hpp,hi⟩:=G.ni h hh;have h1:=CA (kH s') (kH s) s.pools (fun p hp=>by rw[eW,eW,hn]) e.2 p hpp
 unfold kH at h1;rw[hn,List.cons.injEq] at h1;have h2:=List.map_inj_left.1 h1.2 h (List.mem_filter.2 ⟨hh,hi⟩)
 unfold Ec at h2;have h3:=tY (zD fun x hx=>G'.lo x (je hx)) (zD fun x hx=>G.lo x (je hx)) h2
 simp at h3;exact hl h3
theorem l9{s s':Bk}(G:a8 s)(G':a8 s')(h:s'.pools.length≠s.pools.length):gQ s'≠gQ s:=by
 intro e;unfold gQ at e;rw[List.cons.injEq] at e;have h3:=tY (zh G'.po) (zh G.po) e.1
 simp at h3;exact h h3
theorem wh(l:List Hd)(x:Hd):(cm l x).length=l.length+1:=by unfold cm;simp;omega
theorem sd{α:Type}(l:List α)(k:Nat)(h:k<l.length):(aA l k).length+1=l.length:=by unfold aA;simp;omega
theorem pO{l:List Hd}{a n:Int}(h:¬ah l a n<0):(ah l a n).toNat<l.length:=by
 unfold ah at *
 rcases aV (isH a n) l hd0 with⟨e,_⟩|⟨k,hk,e,hp,_⟩
 ·rw[e] at h;omega
 ·rw[e,Int.toNat_natCast];exact hk
theorem qi(l:List Hd)(x:Hd)(a n:Int):(af (cm l x) a n).length=(af l a n).length+(if inn x.a x.n a n then 1 else 0):=lC _ _ _ _
theorem lF(l:List Ls)(x:Ls)(a n:Int):(aw (dR l x) a n).length=(aw l a n).length+(if inn x.a 32 a n then 1 else 0):=lC _ _ _ _
theorem zP{s:Bk}{l:Ln}(G:a8 s)(hg:Eh l)(hv:l.v<8):((aH s l).2.e≠0/\(aH s l).1=s)\/((aH s l).2.e=0/\gQ (aH s l).1≠gQ s):=by
 have G':=uv G hg;obtain⟨a0,a1,ar,g1,ho⟩:=hg;have hc:l.v=0\/l.v=1\/l.v=2\/l.v=3\/l.v=4\/l.v=5\/l.v=6\/l.v=7:=by omega
 rcases hc with e|e|e|e|e|e|e|e
 ·have hd:aH s l=cy s l:=by unfold aH;rw[e];rfl
  rw[hd] at G' ⊢;revert G';unfold cy
  split
  ·intro _;exact .inl ⟨by simp[ref],rfl⟩
  split
  ·intro _;exact .inl ⟨by simp[ref],rfl⟩
  split
  ·intro _;exact .inl ⟨by simp[ref],rfl⟩
  ·intro G';exact .inr ⟨rfl,l9 G G' (by show (cm s.pools _).length≠_;rw[wh];omega)⟩
 ·have hd:aH s l=cR s l:=by unfold aH;rw[e];rfl
  rw[hd] at G' ⊢;revert G';unfold cR
  split
  ·intro _;exact .inl ⟨by simp[ref],rfl⟩
  split
  ·intro _;exact .inl ⟨by simp[ref],rfl⟩
  split
  ·intro _;exact .inl ⟨by simp[ref],rfl⟩
  ·rename_i h1 _ _;intro G';exact .inr ⟨rfl,l9 G G' (by have:=sd s.pools _ (pO h1);show (aA s.pools _).length≠_;omega)⟩
 ·have hd:aH s l=dH s l:=by unfold aH;rw[e];rfl
  rw[hd] at G' ⊢;unfold dH;split
  ·exact .inl ⟨by simp[ref],rfl⟩
  split
  ·exact .inl ⟨by simp[ref],rfl⟩
  rename_i h1 h2;rcases hb:dN (aM 33 (af s.nets l.a l.n) l.a l.n) l.g with _|b
  ·exact .inl ⟨by simp[ref],rfl⟩
  ·dsimp only;split
   ·exact .inl ⟨by simp[ref],rfl⟩
   ·obtain⟨r1,r2,r3,r4,r5⟩:=jS G g1 h1 hb;exact .inr ⟨rfl,j6 (x:=⟨b.1,l.g,l.o⟩) rfl (fun a n=>qi _ _ a n) r5⟩
 ·have hd:aH s l=bI s l:=by unfold aH;rw[e];rfl
  rw[hd] at G' ⊢;unfold bI;split
  ·exact .inl ⟨by simp[ref],rfl⟩
  split
  ·exact .inl ⟨by simp[ref],rfl⟩
  split
  ·exact .inl ⟨by simp[ref],rfl⟩
  split
  ·exact .inl ⟨by simp[ref],rfl⟩
  rename_i h1 h2 h3 h4;obtain⟨hm,hi⟩:=fV h2;exact .inr ⟨rfl,j6 (x:=⟨l.a,l.n,l.o⟩) rfl (fun a n=>qi _ _ a n) ⟨_,hm,hi⟩⟩
 ·have hd:aH s l=cS s l:=by unfold aH;rw[e];rfl
  rw[hd] at G' ⊢;unfold cS;split
  ·exact .inl ⟨by simp[ref],rfl⟩
  split
  ·exact .inl ⟨by simp[ref],rfl⟩
  split
  ·exact .inl ⟨by simp[ref],rfl⟩
  rename_i h1 h2 h3;obtain⟨hm,hma,hmn⟩:=eo h1;refine .inr ⟨rfl,fun q=>?_⟩
  refine j6 (s:={ s with nets:=aA s.nets (ah s.nets l.a l.n).toNat }) (s':=s) (x:=s.nets.getD (ah s.nets l.a l.n).toNat hd0) rfl (fun a n=>?_) (G.ni _ hm) q.symm
  exact(lA (fun h=>inn h.a h.n a n) s.nets _ hd0 (pO h1)).symm
 ·have hd:aH s l=bU s l:=by unfold aH;rw[e];rfl
  rw[hd] at G' ⊢;revert G';unfold bU
  split
  ·intro _;exact .inl ⟨by simp[ref],rfl⟩
  rename_i h1;rcases hb:du s.leases l.a l.n with _|d
  ·intro _;exact .inl ⟨by simp[ref],rfl⟩
  ·dsimp only;split
   ·intro _;exact .inl ⟨by simp[ref],rfl⟩
   ·intro G';obtain⟨hm,hma,hmn⟩:=eo h1;obtain⟨p,hpe⟩:∃ p,p=s.nets.getD (ah s.nets l.a l.n).toNat hd0:=⟨_,rfl⟩
    rw[<- hpe] at hm hma hmn;rw[<- hma,<- hmn] at hb;obtain⟨r1,r2,r3⟩:=ga G hm hb;obtain⟨u1,u2⟩:=j9 r1 r2;refine .inr ⟨rfl,gM G G' rfl rfl hm ?_⟩
    show (aw (dR s.leases ⟨d,l.o⟩) p.a p.n).length≠_
    rw[lF,if_pos (jd (G.nr p hm).2.2.1 u1 u2)];omega
 ·have hd:aH s l=cA s l:=by unfold aH;rw[e];rfl
  rw[hd] at G' ⊢;revert G';unfold cA
  split
  ·intro _;exact .inl ⟨by simp[ref],rfl⟩
  split
  ·intro _;exact .inl ⟨by simp[ref],rfl⟩
  split
  ·intro _;exact .inl ⟨by simp[ref],rfl⟩
  split
  ·intro _;exact .inl ⟨by simp[ref],rfl⟩
  rename_i h1 h2 h3 h4;intro G';obtain⟨hm,hi⟩:=fV h1;refine .inr ⟨rfl,gM G G' rfl rfl hm ?_⟩
  show (aw (dR s.leases ⟨l.d,l.o⟩) _ _).length≠_
  rw[lF,if_pos hi];omega
 ·have hd:aH s l=cU s l:=by unfold aH;rw[e];rfl
  rw[hd] at G' ⊢;revert G';unfold cU
  split
  ·rename_i h1;split
   ·intro _;exact .inl ⟨by simp[ref],rfl⟩
   ·intro G';have hk:bO s.leases l.d<s.leases.length/\(s.leases.getD (bO s.leases l.d) ls0).a=l.d:=by
     unfold dp at h1;simpa using h1
    have hmem:s.leases.getD (bO s.leases l.d) ls0∈s.leases:=by
     rw[List.getD_eq_getElem?_getD,List.getElem?_eq_getElem hk.1];exact List.getElem_mem hk.1
    obtain⟨h,hh,q1,q2⟩:=G.li _ hmem;obtain⟨u1,u2⟩:=j9 q1 q2;refine .inr ⟨rfl,gM G G' rfl rfl hh ?_⟩
    have:=lA (fun y:Ls=>inn y.a 32 h.a h.n) s.leases _ ls0 hk.1
    rw[if_pos (jd (G.nr h hh).2.2.1 u1 u2)] at this;show (aw (aA s.leases (bO s.leases l.d)) h.a h.n).length≠(aw s.leases h.a h.n).length
    unfold aw;omega
  ·intro _;exact .inl ⟨by simp[ref],rfl⟩
theorem AH{l l':Ln}{p:Nat}{w:Lu}(h:aQ l p w=some l'):l'.v=l.v/\(p=2->ag l'.o.data.toList=true)/\(p≠2->l'.o=l.o)/\(p=1->l'.t=⟨w.toArray⟩)/\(p≠1->l'.t=l.t)/\(p=1->ag w=true):=by
 unfold aQ at h;split at h
 ·split at h
  ·rename_i e hn;cases h;exact⟨rfl,fun q=>by omega,fun _=>rfl,fun _=>rfl,fun q=>absurd e q,fun _=>hn⟩
  ·cases h
 ·split at h
  ·split at h
   ·rename_i e1 e hn
    cases h;exact⟨rfl,fun _=>by simpa using hn,fun q=>absurd e q,fun q=>absurd q e1,fun _=>rfl,fun q=>absurd q e1⟩
   ·cases h
  ·rename_i e1 e2;split at h
   ·split at h
    ·cases h;exact⟨rfl,fun q=>absurd q e2,fun _=>rfl,fun q=>absurd q e1,fun _=>rfl,fun q=>absurd q e1⟩
    ·cases h
   ·split at h
    ·split at h
     ·cases h;exact⟨rfl,fun q=>absurd q e2,fun _=>rfl,fun q=>absurd q e1,fun _=>rfl,fun q=>absurd q e1⟩
     ·cases h
    ·split at h
     ·split at h
      ·cases h;exact⟨rfl,fun q=>absurd q e2,fun _=>rfl,fun q=>absurd q e1,fun _=>rfl,fun q=>absurd q e1⟩
      ·cases h
     ·cases h
theorem nI:∀ (ps:List Nat) (ws:List (Lu)) (l l':Ln),aq l ps ws=some l'->l'.v=l.v/\((ag l.o.data.toList=true\/2∈ps)->ag l'.o.data.toList=true)/\(1∉ps->l'.t=l.t)
 | [],[],l,l',h=>by simp[aq] at h;subst h;exact⟨rfl,fun q=>q.elim id sM,fun _=>rfl⟩
 | [],_::_,l,l',h=>by simp[aq] at h
 | _::_,[],l,l',h=>by simp[aq] at h
 | p::ps,w::ws,l,l',h=>by
  rw[aq] at h;split at h
  ·rename_i l2 e;obtain⟨a1,a2,a3,a4,a5,_⟩:=AH e;obtain⟨b1,b2,b3⟩:=nI ps ws l2 l' h;refine⟨b1.trans a1,fun q=>b2 ?_,fun q=>?_⟩
   ·by_cases hp:p=2
    ·exact .inl (a2 hp)
    ·rcases q with q|q
     ·rw[a3 hp];exact .inl q
     ·rcases List.mem_cons.1 q with q|q
      ·exact absurd q.symm hp
      ·exact .inr q
   ·simp only[List.mem_cons,not_or] at q
    rw[b3 q.2,a5 (fun e=>q.1 e.symm)]
  ·cases h
theorem yY{k:Nat}(h:k<8):∃ ps,form k=1::2::ps/\1∉ps:=by
 have hc:k=0\/k=1\/k=2\/k=3\/k=4\/k=5\/k=6\/k=7:=by omega
 rcases hc with rfl|rfl|rfl|rfl|rfl|rfl|rfl|rfl<;>exact⟨_,rfl,by decide⟩
theorem wS{l l':Ln}{p:Nat}{w:Lu}(hL:0<=l.a/\l.a<4294967296/\rt l.a l.n=true/\l.g<=32)(h:aQ l p w=some l'):0<=l'.a/\l'.a<4294967296/\rt l'.a l'.n=true/\l'.g<=32:=by
 unfold aQ at h;split at h
 ·split at h
  ·cases h;exact hL
  ·cases h
 ·split at h
  ·split at h
   ·cases h;exact hL
   ·cases h
  ·split at h
   ·split at h
    ·rename_i b e
     cases h;have hb:=oB (a:=b.1) (n:=b.2) e
     exact⟨hb.2.2.1,hb.2.2.2.1,hb.2.1,hL.2.2.2⟩
    ·cases h
   ·split at h
    ·split at h
     ·cases h;exact hL
     ·cases h
    ·split at h
     ·split at h
      ·rename_i g e
       cases h;have hb:=(bA.1 e).1
       exact⟨hL.1,hL.2.1,hL.2.2.1,by dsimp only;omega⟩
      ·cases h
     ·cases h
theorem lQ:∀ (ps:List Nat) (ws:List (Lu)) (l l':Ln),(0<=l.a/\l.a<4294967296/\rt l.a l.n=true/\l.g<=32)->aq l ps ws=some l'->0<=l'.a/\l'.a<4294967296/\rt l'.a l'.n=true/\l'.g<=32
 | [],[],l,l',hL,h=>by simp[aq] at h;subst h;exact hL
 | [],_::_,l,l',hL,h=>by simp[aq] at h
 | _::_,[],l,l',hL,h=>by simp[aq] at h
 | p::ps,w::ws,l,l',hL,h=>by
  rw[aq] at h;split at h
  ·rename_i l2 e;exact lQ ps ws l2 l' (wS hL e) h
  ·cases h
theorem nG{s:Lu}{l:Ln}(h:aE s=some l):Eh l:=by
 unfold aE at h;split at h
 ·split at h
  ·rename_i w ws e;split at h
   ·cases h
   ·have h1:=lQ _ _ _ _ ⟨Int.le_refl _,by simp[ln0],aj.2 ⟨by simp[ln0],by simp[ln0],by simp[ln0]⟩,by simp[ln0]⟩ h
    obtain⟨h2,h3,_⟩:=nI _ _ _ _ h;refine⟨h1.1,h1.2.1,h1.2.2.1,h1.2.2.2,fun hv=>h3 (.inr ?_)⟩
    obtain⟨ps,e,_⟩:=yY hv;rw[h2] at e;show 2∈form (ln0 (fi (fun v=>v==w) aY).toNat).v
    rw[e];simp
  ·cases h
 ·cases h
def iz(k:Nat)(t o r:Lu):Lu:=fW k++32::(t++32::(o++32::r))
def byt(l:Lu):Bz:=⟨l.toArray⟩
theorem yv(l:Lu):(byt l).data.toList=l:=rfl
theorem o8{l:List Tk}{x y:Tk}(h:y∈dM l x):y∈l\/y=x:=by
 unfold dM at h;rcases List.mem_append.1 h with h|h
 ·split at h
  ·exact .inl (List.mem_of_mem_drop h)
  ·exact .inl h
 ·exact .inr (by simpa using h)
theorem aJ{α:Type}{l:List α}(d:α){k:Nat}(hk:k<l.length):l.getD k d∈l:=by
 rw[List.getD_eq_getElem?_getD,List.getElem?_eq_getElem hk];exact List.getElem_mem hk
theorem BD{a n:Int}(h0:0<=a)(h1:a<4294967296)(hr:rt a n=true):a<=dh a n/\dr a n<=a+sz n-1/\a+sz n<=4294967296:=by
 obtain⟨r1,r2,r3⟩:=aj.1 hr;have e:a+sz n<=4294967296:=by
  obtain⟨m,hm,_⟩:=rq n r1 r2;have hs:=aD n;have h2:a=sz n*(a / sz n):=by have:=Int.mul_ediv_add_emod a (sz n);omega
  have h3:a / sz n<m:=by
   rcases Int.lt_or_le (a / sz n) m with q|q
   ·exact q
   ·exfalso
    have:=Int.mul_le_mul_of_nonneg_left q (Int.le_of_lt hs)
    omega
  have h4:sz n*(a / sz n+1)<=sz n*m:=Int.mul_le_mul_of_nonneg_left om (Int.le_of_lt hs)
  rw[Int.mul_add,Int.mul_one] at h4;omega
 unfold dh dr lst;split<;>exact⟨by omega,by omega,e⟩
def xT:Lu:=[120]
def qX(h:Hd):Lu:=iz 0 xT h.o.data.toList (cF h.a h.n)
def tI(h:Hd):Lu:=iz 3 xT h.o.data.toList (cF h.a h.n)
def qW(l:Ls):Lu:=iz 6 xT l.o.data.toList (dot l.a.toNat)
def fR(x:Tk):Lu:=x.l.data.toList++61::x.r.data.toList
def b7(s:Bk):List (Lu):=s.pools.map qX++s.nets.map tI++s.leases.map qW
def ey(s:Bk):List (Lu):=b7 s++s.toks.map fR
def cr(s:Bk):Lu:=(ey s).flatMap fun r=>r++[10]
def dw(r:Lu):Lu:=r.takeWhile fun c=>c != 61
def kI(r:Lu):Lu:=r.drop ((dw r).length+1)
def mj(r:Lu):Bool:=decide ((dw r).length<r.length)
def bQ(s:Bk)(r:Lu):Option Bk :=
 match aE (dw r) with
 | none=>none
 | some l =>
  if l.v<8 then
   (if mj r then some { s with toks:=dM s.toks ⟨l.t,byt (dw r),byt (kI r)⟩ }
       else if (aH s l).2.e=0 then some (aH s l).1 else none)
  else none
def bF:Bk->List (Lu)->Option Bk
 | s,[]=>some s
 | s,r::rs=>match bQ s r with|none=>none|some s'=>bF s' rs
theorem fE(a b:List (Lu)):∀ s s',bF s a=some s'->bF s (a++b)=bF s' b:=by
 induction a with
 | nil=>intro s s' h;cases h;rfl
 | cons r a ih =>
  intro s s' h;simp only[bF,List.cons_append] at h ⊢
  rcases e:bQ s r with _|s1
  ·rw[e] at h;cases h
  ·rw[e] at h;exact ih s1 s' h
theorem BB{α:Type}{p:α->Bool}:∀ {l:List α},(∀ x,x∈l->p x=true)->l.takeWhile p=l
 | [],_=>rfl
 | x::r,h=>by rw[List.takeWhile_cons_of_pos (h x sM),BB fun y hy=>h y (by simp[hy])]
theorem eS{r:Lu}(h:(61:UInt8)∉r):dw r=r/\mj r=false:=by
 have e:dw r=r:=by
  unfold dw;exact BB fun c hc=>by simp;rintro rfl;exact h hc
 exact⟨e,by unfold mj;rw[e];simp⟩
theorem uK{a b:Lu}(h:(61:UInt8)∉a):dw (a++61::b)=a/\kI (a++61::b)=b/\mj (a++61::b)=true:=by
 have e:dw (a++61::b)=a:=by
  unfold dw;rw[List.takeWhile_append_of_pos (by intro c hc;simp;rintro rfl;exact h hc),List.takeWhile_cons_of_neg sM]
  simp
 refine⟨e,?_,?_⟩
 ·unfold kI;rw[e];simp
 ·unfold mj;rw[e];simp
theorem rW(c:UInt8)(hc:c.toNat<32\/c=61){k:Nat}(hk:k<8){t o r:Lu}(ht:ag t=true)(ho:ag o=true)(hr:c∉r):c∉iz k t o r:=by
 have hv:∀ k:Fin 8,∀ x,x∈fW k->65<=x.toNat/\x.toNat<=90:=by decide +kernel
 have hn:∀ {t:Lu},ag t=true->c∉t:=fun {t} h q=>by
  unfold ag at h;rw[Bool.and_eq_true] at h;have:=List.all_eq_true.1 h.2 c q
  simp at this;rcases hc with e|rfl
  ·omega
  ·simp at this
 have h32:c≠32:=by rcases hc with e|rfl;rintro rfl;simp at e;decide
 unfold iz;simp only[List.mem_append,List.mem_cons,not_or]
 refine⟨fun q=>?_,h32,hn ht,h32,hn ho,h32,hr⟩
 have:=hv ⟨k,hk⟩ c q
 rcases hc with e|rfl
 ·omega
 ·simp at this
theorem ig:ag xT=true:=by decide
theorem D5(c:UInt8)(hc:c.toNat<32\/c=61)(a n:Int):c∉cF a n:=by
 refine BQ c ?_ a.toNat n.toNat
 rcases hc with e|rfl
 ·omega
 ·exact .inr dE
theorem Gd(c:UInt8)(hc:c.toNat<32\/c=61)(d:Nat):c∉dot d:=by
 refine ly c ?_ d
 rcases hc with e|rfl
 ·omega
 ·exact .inr (.inr dE)
theorem Cl(l:List Hd)(a:Int)(h:∀ y,y∈l->y.a<a):fk l a=l.length:=by
 unfold fk;exact List.countP_eq_length.2 fun y hy=>by simpa using h y hy
theorem uC(l:List Hd)(x:Hd)(h:∀ y,y∈l->y.a<x.a):cm l x=l++[x]:=by
 unfold cm;rw[Cl l x.a h,List.take_length,List.drop_length]
theorem zp(l:List Ls)(x:Ls)(h:∀ y,y∈l->y.a<x.a):dR l x=l++[x]/\dp l x.a=false:=by
 have e:bO l x.a=l.length:=by unfold bO;exact List.countP_eq_length.2 fun y hy=>by simpa using h y hy
 refine⟨?_,?_⟩
 ·unfold dR;rw[e,List.take_length,List.drop_length]
 ·unfold dp;rw[e];simp
theorem jU{α:Type}{R:α->α->Prop}{l:List α}{x:α}{r:List α}(h:(l++x::r).Pairwise R):∀ y,y∈l->R y x:=fun y hy=>(List.pairwise_append.1 h).2.2 y hy x sM
theorem qF(o:Bz):(⟨o.data.toList.toArray⟩:Bz)=o:=by cases o;simp
theorem pk{l:List Hd}{x:Hd}(hl:∀ y,y∈l->rt y.a y.n=true)(hx:rt x.a x.n=true)(h:∀ y,y∈l->y.a+sz y.n<=x.a):aU l x.a x.n=false:=by
 unfold aU;refine List.any_eq_false.2 fun y hy=>?_
 have h1:bR x.a x.n y=false:=(nk (hl y hy) hx).2 (.inr (h y hy))
 simp[h1]
theorem xw{s:Bk}(G:a8 s)(h30:∀ h,h∈s.pools->8<=h.n/\h.n<=30)(h6:s.pools.length<=6){l r:List Hd}{x:Hd}(e:s.pools=l++x::r):bQ ⟨l,[],[],[]⟩ (qX x)=some ⟨l++[x],[],[],[]⟩:=by
 have hx:x∈s.pools:=by rw[e];simp
 obtain⟨a0,a1,ar⟩:=G.pr x hx;have hno:(61:UInt8)∉qX x:=rW 61 (.inr rfl) om ig (G.po x hx) (D5 61 (.inr rfl) _ _)
 have hp:=jU (e ▸ G.pp)
 have hrd:aE (qX x)=some (lnB 0 xT x.o.data.toList x.a x.n):=lU (.inl rfl) ig (G.po x hx) a0 a1 ar
 unfold bQ;rw[(eS hno).1,(eS hno).2,hrd];have hl:l.length+1<=6:=by have:=congrArg List.length e;simp at this;omega
 have hd:cy ⟨l,[],[],[]⟩ (lnB 0 xT x.o.data.toList x.a x.n)=(⟨l++[x],[],[],[]⟩,okA):=by
  unfold cy lnB;dsimp only;rw[if_neg (by have:=h30 x hx;omega),if_neg (by rw[pk (fun y hy=>(G.pr y (by rw[e];simp[hy])).2.2) ar hp];simp),if_neg om]
  rw[qF,uC l x (fun y hy=>by have:=hp y hy;have:=aD y.n;omega)]
 show (if (lnB 0 xT x.o.data.toList x.a x.n).v<8 then (if false=true then _ else if (aH _ (lnB 0 xT x.o.data.toList x.a x.n)).2.e=0 then some (aH _ (lnB 0 xT x.o.data.toList x.a x.n)).1 else none) else none)=_
 rw[show aH ⟨l,[],[],[]⟩ (lnB 0 xT x.o.data.toList x.a x.n)=cy ⟨l,[],[],[]⟩ (lnB 0 xT x.o.data.toList x.a x.n) from rfl,hd];rfl
theorem nO{l:List Hd}{a n:Int}(h:∃ p,p∈l/\inn a n p.a p.n=true):¬aR l a n<0:=by
 obtain⟨p,hp,hi⟩:=h;unfold aR;rcases aV (bM a n) l hd0 with⟨_,q⟩|⟨k,_,e,_⟩
 ·have:=q p hp
  unfold bM at this;rw[hi] at this;cases this
 ·rw[e];omega
theorem Be{s:Bk}(G:a8 s)(h24:s.nets.length<=24){l r:List Hd}{x:Hd}(e:s.nets=l++x::r):bQ ⟨s.pools,l,[],[]⟩ (tI x)=some ⟨s.pools,l++[x],[],[]⟩:=by
 have hx:x∈s.nets:=by rw[e];simp
 obtain⟨a0,a1,ar,an⟩:=G.nr x hx;have hno:(61:UInt8)∉tI x:=rW 61 (.inr rfl) om ig (G.no x hx) (D5 61 (.inr rfl) _ _)
 have hp:=jU (e ▸ G.np)
 have hrd:aE (tI x)=some (lnB 3 xT x.o.data.toList x.a x.n):=lU (.inr (.inr (.inl rfl))) ig (G.no x hx) a0 a1 ar
 unfold bQ;rw[(eS hno).1,(eS hno).2,hrd];have hl:l.length+1<=24:=by have:=congrArg List.length e;simp at this;omega
 have hd:bI ⟨s.pools,l,[],[]⟩ (lnB 3 xT x.o.data.toList x.a x.n)=(⟨s.pools,l++[x],[],[]⟩,okA):=by
  unfold bI lnB;dsimp only;rw[if_neg om,if_neg (nO (G.ni x hx)),if_neg (by rw[pk (fun y hy=>(G.nr y (by rw[e];simp[hy])).2.2.1) ar hp];simp),if_neg om]
  rw[qF,uC l x (fun y hy=>by have:=hp y hy;have:=aD y.n;omega)]
 show (if (lnB 3 xT x.o.data.toList x.a x.n).v<8 then (if false=true then _ else if (aH _ (lnB 3 xT x.o.data.toList x.a x.n)).2.e=0 then some (aH _ (lnB 3 xT x.o.data.toList x.a x.n)).1 else none) else none)=_
 rw[show aH ⟨s.pools,l,[],[]⟩ (lnB 3 xT x.o.data.toList x.a x.n)=bI ⟨s.pools,l,[],[]⟩ (lnB 3 xT x.o.data.toList x.a x.n) from rfl,hd];rfl
theorem zH{s:Bk}(G:a8 s){x:Ls}(hx:x∈s.leases):0<=x.a/\x.a<4294967296:=by
 obtain⟨h,hh,h1,h2⟩:=G.li x hx;obtain⟨g0,g1,gr,_⟩:=G.nr h hh;have:=BD g0 g1 gr
 omega
theorem tL{s:Bk}(G:a8 s)(h40:s.leases.length<=40){l r:List Ls}{x:Ls}(e:s.leases=l++x::r):bQ ⟨s.pools,s.nets,l,[]⟩ (qW x)=some ⟨s.pools,s.nets,l++[x],[]⟩:=by
 have hx:x∈s.leases:=by rw[e];simp
 obtain⟨a0,a1⟩:=zH G hx;have hno:(61:UInt8)∉qW x:=rW 61 (.inr rfl) om ig (G.lo x hx) (Gd 61 (.inr rfl) _)
 have hp:=jU (e ▸ G.lp)
 have hrd:aE (qW x)=some { lnB 6 xT x.o.data.toList 0 0 with d:=x.a }:=by
  have h:=wX (k:=6) (t:=xT) (o:=x.o.data.toList) (d:=x.a.toNat) (.inl rfl) ig (G.lo x hx) om
  rw[show ((x.a.toNat:Nat):Int)=x.a by omega] at h
  exact h
 unfold bQ;rw[(eS hno).1,(eS hno).2,hrd];have hl:l.length+1<=40:=by have:=congrArg List.length e;simp at this;omega
 have hsp:¬aR s.nets x.a 32<0:=by
  obtain⟨h,hh,h1,h2⟩:=G.li x hx;obtain⟨g0,g1,gr,_⟩:=G.nr h hh;have hb:=BD g0 g1 gr;exact nO ⟨h,hh,jd gr om om⟩
 obtain⟨sm,si⟩:=fV hsp;have hu:=BG G sm hx si;obtain⟨i1,i2⟩:=zp l x hp;have hd:cA ⟨s.pools,s.nets,l,[]⟩ { lnB 6 xT x.o.data.toList 0 0 with d:=x.a }=(⟨s.pools,s.nets,l++[x],[]⟩,okA):=by
  unfold cA lnB;dsimp only;rw[if_neg hsp,if_neg om,if_neg (by rw[i2];simp),if_neg om,qF,i1]
 show (if ({ lnB 6 xT x.o.data.toList 0 0 with d:=x.a }:Ln).v<8 then (if false=true then _ else if (aH _ { lnB 6 xT x.o.data.toList 0 0 with d:=x.a }).2.e=0 then some (aH _ { lnB 6 xT x.o.data.toList 0 0 with d:=x.a }).1 else none) else none)=_
 rw[show aH ⟨s.pools,s.nets,l,[]⟩ { lnB 6 xT x.o.data.toList 0 0 with d:=x.a }=cA ⟨s.pools,s.nets,l,[]⟩ { lnB 6 xT x.o.data.toList 0 0 with d:=x.a } from rfl,hd];rfl
def xP(x:Tk):Prop:=(∃ l,aE x.l.data.toList=some l/\l.v<8/\l.t=x.t)/\(61:UInt8)∉x.l.data.toList/\(10:UInt8)∉x.l.data.toList/\(0:UInt8)∉x.l.data.toList/\(10:UInt8)∉x.r.data.toList/\(0:UInt8)∉x.r.data.toList/\x.l.size<=100/\x.r.size<=40
theorem Bj{s:Bk}{x:Tk}(h:xP x)(h8:s.toks.length<8):bQ s (fR x)=some { s with toks:=s.toks++[x] }:=by
 obtain⟨⟨l,h1,h2,h3⟩,h4,_⟩:=h;obtain⟨c1,c2,c3⟩:=uK (b:=x.r.data.toList) h4
 unfold bQ fR;rw[c1,c2,c3,h1];dsimp only;rw[if_pos h2,if_pos rfl];have e:dM s.toks ⟨l.t,byt x.l.data.toList,byt x.r.data.toList⟩=s.toks++[x]:=by
  unfold dM;rw[if_neg om,h3];have e1:byt x.l.data.toList=x.l:=qF _
  have e2:byt x.r.data.toList=x.r:=qF _
  rw[e1,e2]
 rw[e]
theorem zd{s:Bk}(G:a8 s)(h30:∀ h,h∈s.pools->8<=h.n/\h.n<=30)(h6:s.pools.length<=6):∀ (r l:List Hd),s.pools=l++r->bF ⟨l,[],[],[]⟩ (r.map qX)=some ⟨s.pools,[],[],[]⟩:=by
 intro r;induction r with
 | nil=>intro l e;rw[List.append_nil] at e;subst e;rfl
 | cons x r ih =>
  intro l e;simp only[List.map_cons,bF,xw G h30 h6 e]
  exact ih (l++[x]) (by rw[e];simp)
theorem CH{s:Bk}(G:a8 s)(h24:s.nets.length<=24):∀ (r l:List Hd),s.nets=l++r->bF ⟨s.pools,l,[],[]⟩ (r.map tI)=some ⟨s.pools,s.nets,[],[]⟩:=by
 intro r;induction r with
 | nil=>intro l e;rw[List.append_nil] at e;subst e;rfl
 | cons x r ih =>
  intro l e;simp only[List.map_cons,bF,Be G h24 e]
  exact ih (l++[x]) (by rw[e];simp)
theorem vW{s:Bk}(G:a8 s)(h40:s.leases.length<=40):∀ (r l:List Ls),s.leases=l++r->bF ⟨s.pools,s.nets,l,[]⟩ (r.map qW)=some ⟨s.pools,s.nets,s.leases,[]⟩:=by
 intro r;induction r with
 | nil=>intro l e;rw[List.append_nil] at e;subst e;rfl
 | cons x r ih =>
  intro l e;simp only[List.map_cons,bF,tL G h40 e]
  exact ih (l++[x]) (by rw[e];simp)
theorem CI{p n:List Hd}{q:List Ls}:∀ (r l:List Tk),(∀ x,x∈r->xP x)->l.length+r.length<=8->bF ⟨p,n,q,l⟩ (r.map fR)=some ⟨p,n,q,l++r⟩:=by
 intro r;induction r with
 | nil=>intro l _ _;simp[bF]
 | cons x r ih =>
  intro l h h8;simp at h8;simp only[List.map_cons,bF,Bj (s:=⟨p,n,q,l⟩) (h x sM) (by show l.length<8;omega)]
  have:=ih (l++[x]) (fun y hy=>h y (by simp[hy])) (by simp;omega)
  rw[this];simp
theorem xg{s:Bk}(G:a8 s)(h30:∀ h,h∈s.pools->8<=h.n/\h.n<=30)(h6:s.pools.length<=6)(h24:s.nets.length<=24)(h40:s.leases.length<=40)(h8:s.toks.length<=8)(hT:∀ x,x∈s.toks->xP x):bF bk0 (ey s)=some s:=by
 unfold ey b7;show bF ⟨[],[],[],[]⟩ _=_
 rw[List.append_assoc,List.append_assoc,fE _ _ _ _ (zd G h30 h6 s.pools [] rfl),fE _ _ _ _ (CH G h24 s.nets [] rfl),fE _ _ _ _ (vW G h40 s.leases [] rfl)];exact CI s.toks [] hT (by simpa using h8)
end
end Go.Proofs.YtjnhhnbgjjkkjaaGreatDoor
