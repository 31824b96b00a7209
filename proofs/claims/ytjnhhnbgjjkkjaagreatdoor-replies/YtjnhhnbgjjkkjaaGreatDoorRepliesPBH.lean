/-
  TextCodeB, TextCodeC, BkSp, TextBack, BkRd, BkTold, BkNm, BkAg, BkSr, SnA
-/
import Derived.Test.YtjnhhnbgjjkkjaaGreatDoorRepliesPBF
set_option linter.unusedVariables false
set_option linter.unusedSimpArgs false
set_option maxRecDepth 100000
set_option maxHeartbeats 2000000
namespace Go.Proofs.YtjnhhnbgjjkkjaaGreatDoor
section
open Go.ChangeShapes Go.WideShapes Go.ChangeAt Go.RowKit Go.Proofs.Tryz
def aB(l:Lu):Int:=match dr l with|some a=>(a:Int)|none=>0
def aOk(l:Lu):Bool:=(dr l).isSome
theorem tA{l:Lu}(h:dr l=none):aB l=0/\aOk l=false:=by simp[aB,aOk,h]
theorem zl{l:Lu}{a:Nat}(h:dr l=some a):aB l=a/\aOk l=true:=by simp[aB,aOk,h]
theorem wt{l:Lu}(h:(aw 46 l).length≠4):dr l=none:=by
 rcases fc l with⟨_,e⟩|⟨a,e,_⟩
 ·exact e
 ·have:=oS h;omega
theorem lq(s:Ba)(w:World)(E:Env w)(hs:s.size<=2097152):Calls prog 199 #[.string s,.string ⟨#[46]⟩,.int .i64 5] w fun e w'=>∃ (n cap:Nat) (P:Nat->Ba),
   e=.returned (.slice (some (At w.heap.size 0)) n cap)/\n<=cap/\cap<=5/\(n=4 ↔ (aw 46 s.data.toList).length=4)/\(n=4->∀ j,j<4->w'.cell? (At w.heap.size j)=some (.string (P j))/\P j=bs ((aw 46 s.data.toList).getD j []))/\w.heap.size<w'.heap.size/\Bl w w':=by
 obtain⟨m,hm⟩:=E.mx;refine(Tryz.strings_SplitN s ⟨#[46]⟩ 5 m w om hm (by decide) om om).mono ?_
 rintro e w' ⟨rfl,rfl⟩
 have hd:=Lib.splitB_data ⟨#[46]⟩ 0 (min 5 (s.size+1)-1) s
 have hlen:=Lib.splitB_length_le ⟨#[46]⟩ 0 (min 5 (s.size+1)-1) s
 obtain⟨L,hL⟩:∃ L,L=Lib.splitB ⟨#[46]⟩ 0 (min 5 (s.size+1)-1) s:=⟨_,rfl⟩
 rw[<- hL] at hd hlen ⊢;rw[show (⟨#[46]⟩:Ba).data.toList=[46] from rfl,Lib.size_eq s] at hd;obtain⟨f1,f2⟩:=ta s.data.toList;rw[<- hd] at f1 f2;refine⟨L.length,_,fun j=>L.getD j ByteArray.empty,rfl,by omega,by omega,by simpa using f1,?_,by simp,(Below.refl _ _).alloc (Nat.le_refl _) _⟩
 intro h4 j hj;have hj':j<L.length:=by omega
 refine⟨?_,?_⟩
 ·rw[World.cell?_alloc_at _ _ _ _ rfl];unfold Lib.cellsOf;simp[List.getElem?_append,hj',List.getD,List.getElem?_eq_getElem hj']
 ·rw[<- f2 (f1.1 (by simpa using h4))]
  simp[List.getD,List.getElem?_eq_getElem hj']
  exact(Dz _).symm
theorem Fk(a x:Int)(h0:0<=a)(h1:a<16777216)(x0:0<=x)(x1:x<=255):bits .or .u32 (a*256) x=256*a+x:=by
 rw[u32_or (a*256) x om om x0 om,nat_join 8 _ _ om om];omega
theorem EZ{l:Lu}{a:Int}{k:Nat}(ha:a=acc (fun j=>cU ((aw 46 l).getD j []) 255) k)(hk:k<4)(h:∀ j,j<k->num ((aw 46 l).getD j []) 255≠none):a<16777216:=by
 have hbd:=xp (fun j=>cU ((aw 46 l).getD j []) 255) k om (fun j hj=>by
  rcases dY ((aw 46 l).getD j []) 255 with⟨_,e⟩|⟨n,e,h',_⟩
  ·exact absurd e (h j hj)
  ·simp only[e];omega)
 have hpw:(256:Int)^k<=16777216:=by
  have:k=0\/k=1\/k=2\/k=3:=by omega
  rcases this with rfl|rfl|rfl|rfl<;>decide
 rw[ha];omega
theorem yS(s:Ba)(w:World)(E0:Env w)(hs:s.size<=2097152):Cr prog 144 #[.string s] w (.tuple #[.int .u32 (aB s.data.toList),.bool (aOk s.data.toList)]):=by
 have E:Hid (Env w):=E0
 clear E0;by_cases h4:(aw 46 s.data.toList).length=4
 ·go_enter func144,ntmps144
  go_wp2_with (go_at_call 199;refine(lq s _ E.o hs).mono ?_;rintro e w1 ⟨n,cap,P,rfl,hnc,hcap,hn4,hcell,hsz1,hb1⟩;obtain rfl:=hn4.2 h4;have HX:Hid (∀ j,j<4->w1.cell? (At w.heap.size j)=some (.string (P j))/\P j=bs ((aw 46 s.data.toList).getD j [])):=hcell rfl;clear hcell hn4)
  go_loopw [5,17] (fun t i wr=>∃ (k:Nat) (a:Int),k<=4/\0<=a/\a<4294967296/\i=.int .i64 k/\t=.int .u32 a/\Bl w1 wr/\Hid (a=acc (fun j=>cU ((aw 46 s.data.toList).getD j []) 255) k/\(∀ j,j<k->num ((aw 46 s.data.toList).getD j []) 255≠none))) (fun _ i _=>4-(intOf i).toNat)
  case atStart=>exact⟨0,0,by omega,by omega,by omega,rfl,rfl,Below.refl _ _,rfl,fun j hj=>by omega⟩
  case round =>
   obtain⟨k,a,hk,a0,a1,rfl,rfl,hb,H⟩:=hrel;by_cases hlt:k<4
   ·have ha2:a<16777216:=EZ H.o.1 hlt H.o.2
    have hce:wr.cell? (At w.heap.size k)=some (.string (P k)):=gt hb hsz1 (HX.o k hlt).1
    have E1:Hid (Env wr):=(E.o.mono hb1).mono hb
    have hPs:(P k).size<=2097152:=by
     rw[(HX.o k hlt).2,aM];have:=iV 46 s.data.toList k
     have:=Lib.size_eq s
     omega
    have hPd:(P k).data.toList=(aw 46 s.data.toList).getD k []:=by rw[(HX.o k hlt).2,bN]
    rcases hnum:num ((aw 46 s.data.toList).getD k []) 255 with _|n
    ·have hn:Hid (Cr prog 200 #[.string (P k),.int .i64 255] wr (.tuple #[.int .i64 0,.bool false])):=by
      have h:=sI (P k) 255 wr E1.o hPs om om
      rw[hPd] at h;obtain⟨q1,q2⟩:=jq hnum;rw[show (255:Int).toNat=255 from rfl,q1,q2] at h;exact h
     have hno:Hid (dr s.data.toList=none):=by
      rcases fc s.data.toList with⟨_,e⟩|⟨x,e,_⟩
      ·exact e
      ·have:=pE h4 hlt hnum;omega
     clear hnum hPd;go_wp2_with (go_at_call 200;refine hn.o.mono ?_;rintro e w2 ⟨rfl,hb2⟩)
     go_ret2
     obtain⟨q1,q2⟩:=tA hno.o;rw[q1,q2];exact⟨rfl,(hb1.trans (hb.mono (Nat.le_of_lt hsz1))).trans (hb2.mono (Nat.le_trans (Nat.le_of_lt hsz1) hb.size))⟩
    ·have hnx:n<=255:=(br.1 hnum).1
     obtain⟨x,hx⟩:∃ x:Int,x=n:=⟨_,rfl⟩
     have x0:0<=x:=by omega
     have x1:x<=255:=by omega
     have hn:Hid (Cr prog 200 #[.string (P k),.int .i64 255] wr (.tuple #[.int .i64 x,.bool true])):=by
      have h:=sI (P k) 255 wr E1.o hPs om om
      rw[hPd] at h;obtain⟨q1,q2⟩:=rE hnum;rw[show (255:Int).toNat=255 from rfl,q1,q2,<- hx] at h;exact h
     have H2:Hid (256*a+x=acc (fun j=>cU ((aw 46 s.data.toList).getD j []) 255) (k+1)/\(∀ j,j<k+1->num ((aw 46 s.data.toList).getD j []) 255≠none)):=by
      refine⟨?_,fun j hj=>?_⟩
      ·rw[acc,<- H.o.1];simp only[cU,hnum];omega
      ·by_cases e:j<k
       ·exact H.o.2 j e
       ·obtain rfl:j=k:=by omega
        rw[hnum];simp
     have hor:=Fk a x a0 ha2 x0 x1;clear hnum hPd hx hnx H;go_wp2_with (go_at_call 200;refine hn.o.mono ?_;rintro e w2 ⟨rfl,hb2⟩)
     go_roundw
     case rel=>exact⟨k+1,256*a+x,by omega,by omega,by omega,by go_num,rfl,hb.trans (hb2.mono hb.size),H2⟩
     case measure=>simp[intOf];omega
   ·obtain rfl:k=4:=by omega
    go_wp2;go_ret2
    have hg:=nq h4 H.o.2;rw[<- H.o.1] at hg;have hs4:dr s.data.toList=some a.toNat:=by
     rcases fc s.data.toList with⟨e,_⟩|⟨x,e,e2⟩
     ·omega
     ·rw[e2];congr 1;omega
    obtain⟨q1,q2⟩:=zl hs4;rw[q1,q2,show ((a.toNat:Nat):Int)=a by omega]
    exact⟨rfl,hb1.trans (hb.mono (Nat.le_of_lt hsz1))⟩
 ·obtain⟨q1,q2⟩:=tA (wt h4)
  rw[q1,q2];clear q1 q2;go_enter func144,ntmps144
  go_wp2_with (go_at_call 199;refine(lq s _ E.o hs).mono ?_;rintro e w1 ⟨n,cap,P,rfl,hnc,hcap,hn4,hcell,hsz1,hb1⟩;have hne:((n:Int)==4)=false:=(by simp;intro e;exact h4 (hn4.1 om));clear hcell hn4)
  go_ret2
  exact⟨rfl,hb1⟩
theorem ix{w w':World}(h:∃ n,w'=w.drewN n):Bl w w':=by
 obtain⟨n,rfl⟩:=h;exact below_drewN (Below.refl _ _) n
theorem uE(s:Ba)(w:World)(E:Env w)(hs:s.size<=2097152)(a b:Lu)(f:Bool)(h:Lib.cut s.data.toList [47]=(a,b,f)):Cr prog 87 #[.string s,.string ⟨#[47]⟩] w (.tuple #[.string (bs a),.string (bs b),.bool f]):=by
 obtain⟨m,hm⟩:=E.mx;refine(Tryz.strings_Cut s ⟨#[47]⟩ m w om hm).mono ?_
 rintro e w' ⟨rfl,hd⟩
 rw[show (⟨#[47]⟩:Ba).data.toList=[47] from rfl,h];exact⟨rfl,ix hd⟩
theorem rJ{l:Lu}(h:47∉l):rd l=none:=sY (by rw[cB 47 l h];simp)
theorem yi{a b:Lu}(h:47∉a):rd (a++47::b)=(match dr a,num b 32 with
  | some x,some n=>if rt x n then some ((x:Int),(n:Int)) else none
  | _,_=>none):=by
 rcases eO 47 b with hb|⟨c,d,rfl,hc⟩
 ·have hp:aw 47 (a++47::b)=[a,b]:=by rw[bB 47 a b h,cB 47 b hb]
  unfold rd;rw[hp];rfl
 ·have hn:num (c++47::d) 32=none:=lz.2 fun n hn e=>by
   have:=lU 47 (by decide) n
   rw[e] at this;simp at this
  rw[hn];have hoff:rd (a++47::(c++47::d))=none:=sY (by
   rw[bB 47 a _ h,bB 47 c d hc];have:=dE 47 d
   rw[List.length_cons,List.length_cons];omega)
  rw[hoff]
  cases dr a<;>rfl
theorem su(s:Ba)(w:World)(t0 t1:Ba)(f okA okN:Bool)(x y:Int)(E:Hid (Env w))
  (cc:Hid (∀ w,Env w->Cr prog 87 #[.string s,.string ⟨#[47]⟩] w (.tuple #[.string t0,.string t1,.bool f])))
  (ca:Hid (∀ w,Env w->Cr prog 144 #[.string t0] w (.tuple #[.int .u32 x,.bool okA])))
  (cn:Hid (∀ w,Env w->Cr prog 145 #[.string t1] w (.tuple #[.int .i64 y,.bool okN]))) (h:f=false) :
  Cr prog 143 #[.string s] w (.tuple #[.agg #[.int .u32 (0),.int .i64 (0)],.int .i64 (1)]):=by
 go_enter func143,ntmps143
 go_wp2_with (first|(go_at_call 87;refine(cc.o _ (E.o.mono upB)).mono ?_;rintro e w1 ⟨rfl,hb1⟩;obtain⟨hc,hf⟩:=aR hb1;have c1_0_0:w1.cell? (At w.heap.size 0)=some (.int .u32 0):=((hc _ _ byO).trans byC);have f1_0_0:w1.frozen? (At w.heap.size 0)=false:=((hf _ _ byO).trans byF);have c1_0_1:w1.cell? (At w.heap.size 1)=some (.int .i64 0):=((hc _ _ byO).trans byC);have f1_0_1:w1.frozen? (At w.heap.size 1)=false:=((hf _ _ byO).trans byF);have z1_0:w.heap.size<w1.heap.size:=(by have:=hb1.size;(try simp at this);omega);clear hc hf;have E1:Hid (Env w1):=(E.o.mono upB).mono hb1)|(go_at_call 144;refine(ca.o _ E1.o).mono ?_;rintro e w2 ⟨rfl,hb2⟩;obtain⟨hc,hf⟩:=aR hb2;have c2_0_0:w2.cell? (At w.heap.size 0)=some (.int .u32 0):=((hc _ _ byO).trans byC);have f2_0_0:w2.frozen? (At w.heap.size 0)=false:=((hf _ _ byO).trans byF);have c2_0_1:w2.cell? (At w.heap.size 1)=some (.int .i64 0):=((hc _ _ byO).trans byC);have f2_0_1:w2.frozen? (At w.heap.size 1)=false:=((hf _ _ byO).trans byF);have z2_0:w.heap.size<w2.heap.size:=(by have:=hb2.size;(try simp at this);omega);clear hc hf;have E2:Hid (Env w2):=E1.o.mono hb2;clear c1_0_0 c1_0_1 f1_0_0 f1_0_1 z1_0)|(go_at_call 145;refine(cn.o _ E2.o).mono ?_;rintro e w3 ⟨rfl,hb3⟩;obtain⟨hc,hf⟩:=aR hb3;have c3_0_0:w3.cell? (At w.heap.size 0)=some (.int .u32 0):=((hc _ _ byO).trans byC);have f3_0_0:w3.frozen? (At w.heap.size 0)=false:=((hf _ _ byO).trans byF);have c3_0_1:w3.cell? (At w.heap.size 1)=some (.int .i64 0):=((hc _ _ byO).trans byC);have f3_0_1:w3.frozen? (At w.heap.size 1)=false:=((hf _ _ byO).trans byF);have z3_0:w.heap.size<w3.heap.size:=(by have:=hb3.size;(try simp at this);omega);clear hc hf;clear c2_0_0 c2_0_1 f2_0_0 f2_0_1 z2_0))
 exact bodyPost_ret (v:=.tuple #[.agg #[.int .u32 (0),.int .i64 (0)],.int .i64 (1)]) (by simp[results,results143,go_sem,c3_0_0,c3_0_1,f3_0_0,f3_0_1,World.cell?_alloc_lt,z3_0,Nat.lt_succ_of_lt z3_0]) rfl ⟨rfl,(by have hq:=hb1.mono (B':=w.heap.size) byO;have hq2:=Below.trans (B:=w.heap.size) (a:=w) upB hq;clear hq;have s1:=hq2.size;have hq3:=Below.trans (B:=w.heap.size) (a:=w) upB (hb2.mono (B':=w.heap.size) byO);have s2:=hq3.size;clear hq2;have hq4:=Below.trans (B:=w.heap.size) (a:=w) upB (hb3.mono (B':=w.heap.size) byO);have s3:=hq4.size;clear hq3;exact upB)⟩
theorem rG(s:Ba)(w:World)(t0 t1:Ba)(f okA okN:Bool)(x y:Int)(E:Hid (Env w))
  (cc:Hid (∀ w,Env w->Cr prog 87 #[.string s,.string ⟨#[47]⟩] w (.tuple #[.string t0,.string t1,.bool f])))
  (ca:Hid (∀ w,Env w->Cr prog 144 #[.string t0] w (.tuple #[.int .u32 x,.bool okA])))
  (cn:Hid (∀ w,Env w->Cr prog 145 #[.string t1] w (.tuple #[.int .i64 y,.bool okN]))) (h:f=true) (ha:okA=false) :
  Cr prog 143 #[.string s] w (.tuple #[.agg #[.int .u32 (0),.int .i64 (0)],.int .i64 (1)]):=by
 go_enter func143,ntmps143
 go_wp2_with (first|(go_at_call 87;refine(cc.o _ (E.o.mono upB)).mono ?_;rintro e w1 ⟨rfl,hb1⟩;obtain⟨hc,hf⟩:=aR hb1;have c1_0_0:w1.cell? (At w.heap.size 0)=some (.int .u32 0):=((hc _ _ byO).trans byC);have f1_0_0:w1.frozen? (At w.heap.size 0)=false:=((hf _ _ byO).trans byF);have c1_0_1:w1.cell? (At w.heap.size 1)=some (.int .i64 0):=((hc _ _ byO).trans byC);have f1_0_1:w1.frozen? (At w.heap.size 1)=false:=((hf _ _ byO).trans byF);have z1_0:w.heap.size<w1.heap.size:=(by have:=hb1.size;(try simp at this);omega);clear hc hf;have E1:Hid (Env w1):=(E.o.mono upB).mono hb1)|(go_at_call 144;refine(ca.o _ E1.o).mono ?_;rintro e w2 ⟨rfl,hb2⟩;obtain⟨hc,hf⟩:=aR hb2;have c2_0_0:w2.cell? (At w.heap.size 0)=some (.int .u32 0):=((hc _ _ byO).trans byC);have f2_0_0:w2.frozen? (At w.heap.size 0)=false:=((hf _ _ byO).trans byF);have c2_0_1:w2.cell? (At w.heap.size 1)=some (.int .i64 0):=((hc _ _ byO).trans byC);have f2_0_1:w2.frozen? (At w.heap.size 1)=false:=((hf _ _ byO).trans byF);have z2_0:w.heap.size<w2.heap.size:=(by have:=hb2.size;(try simp at this);omega);clear hc hf;have E2:Hid (Env w2):=E1.o.mono hb2;clear c1_0_0 c1_0_1 f1_0_0 f1_0_1 z1_0)|(go_at_call 145;refine(cn.o _ E2.o).mono ?_;rintro e w3 ⟨rfl,hb3⟩;obtain⟨hc,hf⟩:=aR hb3;have c3_0_0:w3.cell? (At w.heap.size 0)=some (.int .u32 0):=((hc _ _ byO).trans byC);have f3_0_0:w3.frozen? (At w.heap.size 0)=false:=((hf _ _ byO).trans byF);have c3_0_1:w3.cell? (At w.heap.size 1)=some (.int .i64 0):=((hc _ _ byO).trans byC);have f3_0_1:w3.frozen? (At w.heap.size 1)=false:=((hf _ _ byO).trans byF);have z3_0:w.heap.size<w3.heap.size:=(by have:=hb3.size;(try simp at this);omega);clear hc hf;clear c2_0_0 c2_0_1 f2_0_0 f2_0_1 z2_0))
 exact bodyPost_ret (v:=.tuple #[.agg #[.int .u32 (0),.int .i64 (0)],.int .i64 (1)]) (by simp[results,results143,go_sem,c3_0_0,c3_0_1,f3_0_0,f3_0_1,World.cell?_alloc_lt,z3_0,Nat.lt_succ_of_lt z3_0]) rfl ⟨rfl,(by have hq:=hb1.mono (B':=w.heap.size) byO;have hq2:=Below.trans (B:=w.heap.size) (a:=w) upB hq;clear hq;have s1:=hq2.size;have hq3:=Below.trans (B:=w.heap.size) (a:=w) upB (hb2.mono (B':=w.heap.size) byO);have s2:=hq3.size;clear hq2;have hq4:=Below.trans (B:=w.heap.size) (a:=w) upB (hb3.mono (B':=w.heap.size) byO);have s3:=hq4.size;clear hq3;exact upB)⟩
theorem xi(s:Ba)(w:World)(t0 t1:Ba)(f okA okN:Bool)(x y:Int)(E:Hid (Env w))
  (cc:Hid (∀ w,Env w->Cr prog 87 #[.string s,.string ⟨#[47]⟩] w (.tuple #[.string t0,.string t1,.bool f])))
  (ca:Hid (∀ w,Env w->Cr prog 144 #[.string t0] w (.tuple #[.int .u32 x,.bool okA])))
  (cn:Hid (∀ w,Env w->Cr prog 145 #[.string t1] w (.tuple #[.int .i64 y,.bool okN]))) (h:f=true) (ha:okA=true) (hn:okN=false) :
  Cr prog 143 #[.string s] w (.tuple #[.agg #[.int .u32 (0),.int .i64 (0)],.int .i64 (1)]):=by
 go_enter func143,ntmps143
 go_wp2_with (first|(go_at_call 87;refine(cc.o _ (E.o.mono upB)).mono ?_;rintro e w1 ⟨rfl,hb1⟩;obtain⟨hc,hf⟩:=aR hb1;have c1_0_0:w1.cell? (At w.heap.size 0)=some (.int .u32 0):=((hc _ _ byO).trans byC);have f1_0_0:w1.frozen? (At w.heap.size 0)=false:=((hf _ _ byO).trans byF);have c1_0_1:w1.cell? (At w.heap.size 1)=some (.int .i64 0):=((hc _ _ byO).trans byC);have f1_0_1:w1.frozen? (At w.heap.size 1)=false:=((hf _ _ byO).trans byF);have z1_0:w.heap.size<w1.heap.size:=(by have:=hb1.size;(try simp at this);omega);clear hc hf;have E1:Hid (Env w1):=(E.o.mono upB).mono hb1)|(go_at_call 144;refine(ca.o _ E1.o).mono ?_;rintro e w2 ⟨rfl,hb2⟩;obtain⟨hc,hf⟩:=aR hb2;have c2_0_0:w2.cell? (At w.heap.size 0)=some (.int .u32 0):=((hc _ _ byO).trans byC);have f2_0_0:w2.frozen? (At w.heap.size 0)=false:=((hf _ _ byO).trans byF);have c2_0_1:w2.cell? (At w.heap.size 1)=some (.int .i64 0):=((hc _ _ byO).trans byC);have f2_0_1:w2.frozen? (At w.heap.size 1)=false:=((hf _ _ byO).trans byF);have z2_0:w.heap.size<w2.heap.size:=(by have:=hb2.size;(try simp at this);omega);clear hc hf;have E2:Hid (Env w2):=E1.o.mono hb2;clear c1_0_0 c1_0_1 f1_0_0 f1_0_1 z1_0)|(go_at_call 145;refine(cn.o _ E2.o).mono ?_;rintro e w3 ⟨rfl,hb3⟩;obtain⟨hc,hf⟩:=aR hb3;have c3_0_0:w3.cell? (At w.heap.size 0)=some (.int .u32 0):=((hc _ _ byO).trans byC);have f3_0_0:w3.frozen? (At w.heap.size 0)=false:=((hf _ _ byO).trans byF);have c3_0_1:w3.cell? (At w.heap.size 1)=some (.int .i64 0):=((hc _ _ byO).trans byC);have f3_0_1:w3.frozen? (At w.heap.size 1)=false:=((hf _ _ byO).trans byF);have z3_0:w.heap.size<w3.heap.size:=(by have:=hb3.size;(try simp at this);omega);clear hc hf;clear c2_0_0 c2_0_1 f2_0_0 f2_0_1 z2_0))
 exact bodyPost_ret (v:=.tuple #[.agg #[.int .u32 (0),.int .i64 (0)],.int .i64 (1)]) (by simp[results,results143,go_sem,c3_0_0,c3_0_1,f3_0_0,f3_0_1,World.cell?_alloc_lt,z3_0,Nat.lt_succ_of_lt z3_0]) rfl ⟨rfl,(by have hq:=hb1.mono (B':=w.heap.size) byO;have hq2:=Below.trans (B:=w.heap.size) (a:=w) upB hq;clear hq;have s1:=hq2.size;have hq3:=Below.trans (B:=w.heap.size) (a:=w) upB (hb2.mono (B':=w.heap.size) byO);have s2:=hq3.size;clear hq2;have hq4:=Below.trans (B:=w.heap.size) (a:=w) upB (hb3.mono (B':=w.heap.size) byO);have s3:=hq4.size;clear hq3;exact upB)⟩
theorem vc(s:Ba)(w:World)(t0 t1:Ba)(f okA okN:Bool)(x y:Int)(E:Hid (Env w))
  (cc:Hid (∀ w,Env w->Cr prog 87 #[.string s,.string ⟨#[47]⟩] w (.tuple #[.string t0,.string t1,.bool f])))
  (ca:Hid (∀ w,Env w->Cr prog 144 #[.string t0] w (.tuple #[.int .u32 x,.bool okA])))
  (cn:Hid (∀ w,Env w->Cr prog 145 #[.string t1] w (.tuple #[.int .i64 y,.bool okN]))) (h:f=true) (ha:okA=true) (hn:okN=true) (x0:0<=x) (x1:x<4294967296) (hr:rt x y=false) :
  Cr prog 143 #[.string s] w (.tuple #[.agg #[.int .u32 (0),.int .i64 (0)],.int .i64 (1)]):=by
 go_enter func143,ntmps143
 go_wp2_with (first|(go_at_call 87;refine(cc.o _ (E.o.mono upB)).mono ?_;rintro e w1 ⟨rfl,hb1⟩;obtain⟨hc,hf⟩:=aR hb1;have c1_0_0:w1.cell? (At w.heap.size 0)=some (.int .u32 0):=((hc _ _ byO).trans byC);have f1_0_0:w1.frozen? (At w.heap.size 0)=false:=((hf _ _ byO).trans byF);have c1_0_1:w1.cell? (At w.heap.size 1)=some (.int .i64 0):=((hc _ _ byO).trans byC);have f1_0_1:w1.frozen? (At w.heap.size 1)=false:=((hf _ _ byO).trans byF);have z1_0:w.heap.size<w1.heap.size:=(by have:=hb1.size;(try simp at this);omega);clear hc hf;have E1:Hid (Env w1):=(E.o.mono upB).mono hb1)|(go_at_call 144;refine(ca.o _ E1.o).mono ?_;rintro e w2 ⟨rfl,hb2⟩;obtain⟨hc,hf⟩:=aR hb2;have c2_0_0:w2.cell? (At w.heap.size 0)=some (.int .u32 0):=((hc _ _ byO).trans byC);have f2_0_0:w2.frozen? (At w.heap.size 0)=false:=((hf _ _ byO).trans byF);have c2_0_1:w2.cell? (At w.heap.size 1)=some (.int .i64 0):=((hc _ _ byO).trans byC);have f2_0_1:w2.frozen? (At w.heap.size 1)=false:=((hf _ _ byO).trans byF);have z2_0:w.heap.size<w2.heap.size:=(by have:=hb2.size;(try simp at this);omega);clear hc hf;have E2:Hid (Env w2):=E1.o.mono hb2;clear c1_0_0 c1_0_1 f1_0_0 f1_0_1 z1_0)|(go_at_call 145;refine(cn.o _ E2.o).mono ?_;rintro e w3 ⟨rfl,hb3⟩;obtain⟨hc,hf⟩:=aR hb3;have c3_0_0:w3.cell? (At w.heap.size 0)=some (.int .u32 0):=((hc _ _ byO).trans byC);have f3_0_0:w3.frozen? (At w.heap.size 0)=false:=((hf _ _ byO).trans byF);have c3_0_1:w3.cell? (At w.heap.size 1)=some (.int .i64 0):=((hc _ _ byO).trans byC);have f3_0_1:w3.frozen? (At w.heap.size 1)=false:=((hf _ _ byO).trans byF);have z3_0:w.heap.size<w3.heap.size:=(by have:=hb3.size;(try simp at this);omega);clear hc hf;clear c2_0_0 c2_0_1 f2_0_0 f2_0_1 z2_0)|(go_at_call 198;refine(cI _ _ _ x0 x1).mono ?_;rintro e w4 ⟨rfl,hb4⟩;obtain⟨hc,hf⟩:=aR hb4;have c4_0_0:w4.cell? (At w.heap.size 0)=some (.int .u32 0):=((hc _ _ byO).trans byC);have f4_0_0:w4.frozen? (At w.heap.size 0)=false:=((hf _ _ byO).trans byF);have c4_0_1:w4.cell? (At w.heap.size 1)=some (.int .i64 0):=((hc _ _ byO).trans byC);have f4_0_1:w4.frozen? (At w.heap.size 1)=false:=((hf _ _ byO).trans byF);have c4_1_0:w4.cell? (At w3.heap.size 0)=some (.int .u32 x):=((hc _ _ byO).trans byC);have c4_1_1:w4.cell? (At w3.heap.size 1)=some (.int .i64 y):=((hc _ _ byO).trans byC);have z4_0:w.heap.size<w4.heap.size:=(by have:=hb4.size;(try simp at this);omega);have z4_1:w3.heap.size<w4.heap.size:=(by have:=hb4.size;(try simp at this);omega);clear hc hf;clear c3_0_0 c3_0_1 f3_0_0 f3_0_1 z3_0))
 exact bodyPost_ret (v:=.tuple #[.agg #[.int .u32 (0),.int .i64 (0)],.int .i64 (1)]) (by simp[results,results143,go_sem,c4_0_0,c4_0_1,f4_0_0,f4_0_1,World.cell?_alloc_lt,z4_0,Nat.lt_succ_of_lt z4_0]) rfl ⟨rfl,(by have hq:=hb1.mono (B':=w.heap.size) byO;have hq2:=Below.trans (B:=w.heap.size) (a:=w) upB hq;clear hq;have s1:=hq2.size;have hq3:=Below.trans (B:=w.heap.size) (a:=w) upB (hb2.mono (B':=w.heap.size) byO);have s2:=hq3.size;clear hq2;have hq4:=Below.trans (B:=w.heap.size) (a:=w) upB (hb3.mono (B':=w.heap.size) byO);have s3:=hq4.size;clear hq3;have hq5:=Below.trans (B:=w.heap.size) (a:=w) upB (hb4.mono (B':=w.heap.size) byO);have s4:=hq5.size;clear hq4;exact upB)⟩
theorem yA(s:Ba)(w:World)(t0 t1:Ba)(f okA okN:Bool)(x y:Int)(E:Hid (Env w))
  (cc:Hid (∀ w,Env w->Cr prog 87 #[.string s,.string ⟨#[47]⟩] w (.tuple #[.string t0,.string t1,.bool f])))
  (ca:Hid (∀ w,Env w->Cr prog 144 #[.string t0] w (.tuple #[.int .u32 x,.bool okA])))
  (cn:Hid (∀ w,Env w->Cr prog 145 #[.string t1] w (.tuple #[.int .i64 y,.bool okN]))) (h:f=true) (ha:okA=true) (hn:okN=true) (x0:0<=x) (x1:x<4294967296) (hr:rt x y=true) :
  Cr prog 143 #[.string s] w (.tuple #[.agg #[.int .u32 (x),.int .i64 (y)],.int .i64 (0)]):=by
 go_enter func143,ntmps143
 go_wp2_with (first|(go_at_call 87;refine(cc.o _ (E.o.mono upB)).mono ?_;rintro e w1 ⟨rfl,hb1⟩;obtain⟨hc,hf⟩:=aR hb1;have c1_0_0:w1.cell? (At w.heap.size 0)=some (.int .u32 0):=((hc _ _ byO).trans byC);have f1_0_0:w1.frozen? (At w.heap.size 0)=false:=((hf _ _ byO).trans byF);have c1_0_1:w1.cell? (At w.heap.size 1)=some (.int .i64 0):=((hc _ _ byO).trans byC);have f1_0_1:w1.frozen? (At w.heap.size 1)=false:=((hf _ _ byO).trans byF);have z1_0:w.heap.size<w1.heap.size:=(by have:=hb1.size;(try simp at this);omega);clear hc hf;have E1:Hid (Env w1):=(E.o.mono upB).mono hb1)|(go_at_call 144;refine(ca.o _ E1.o).mono ?_;rintro e w2 ⟨rfl,hb2⟩;obtain⟨hc,hf⟩:=aR hb2;have c2_0_0:w2.cell? (At w.heap.size 0)=some (.int .u32 0):=((hc _ _ byO).trans byC);have f2_0_0:w2.frozen? (At w.heap.size 0)=false:=((hf _ _ byO).trans byF);have c2_0_1:w2.cell? (At w.heap.size 1)=some (.int .i64 0):=((hc _ _ byO).trans byC);have f2_0_1:w2.frozen? (At w.heap.size 1)=false:=((hf _ _ byO).trans byF);have z2_0:w.heap.size<w2.heap.size:=(by have:=hb2.size;(try simp at this);omega);clear hc hf;have E2:Hid (Env w2):=E1.o.mono hb2;clear c1_0_0 c1_0_1 f1_0_0 f1_0_1 z1_0)|(go_at_call 145;refine(cn.o _ E2.o).mono ?_;rintro e w3 ⟨rfl,hb3⟩;obtain⟨hc,hf⟩:=aR hb3;have c3_0_0:w3.cell? (At w.heap.size 0)=some (.int .u32 0):=((hc _ _ byO).trans byC);have f3_0_0:w3.frozen? (At w.heap.size 0)=false:=((hf _ _ byO).trans byF);have c3_0_1:w3.cell? (At w.heap.size 1)=some (.int .i64 0):=((hc _ _ byO).trans byC);have f3_0_1:w3.frozen? (At w.heap.size 1)=false:=((hf _ _ byO).trans byF);have z3_0:w.heap.size<w3.heap.size:=(by have:=hb3.size;(try simp at this);omega);clear hc hf;clear c2_0_0 c2_0_1 f2_0_0 f2_0_1 z2_0)|(go_at_call 198;refine(cI _ _ _ x0 x1).mono ?_;rintro e w4 ⟨rfl,hb4⟩;obtain⟨hc,hf⟩:=aR hb4;have c4_0_0:w4.cell? (At w.heap.size 0)=some (.int .u32 0):=((hc _ _ byO).trans byC);have f4_0_0:w4.frozen? (At w.heap.size 0)=false:=((hf _ _ byO).trans byF);have c4_0_1:w4.cell? (At w.heap.size 1)=some (.int .i64 0):=((hc _ _ byO).trans byC);have f4_0_1:w4.frozen? (At w.heap.size 1)=false:=((hf _ _ byO).trans byF);have c4_1_0:w4.cell? (At w3.heap.size 0)=some (.int .u32 x):=((hc _ _ byO).trans byC);have c4_1_1:w4.cell? (At w3.heap.size 1)=some (.int .i64 y):=((hc _ _ byO).trans byC);have z4_0:w.heap.size<w4.heap.size:=(by have:=hb4.size;(try simp at this);omega);have z4_1:w3.heap.size<w4.heap.size:=(by have:=hb4.size;(try simp at this);omega);clear hc hf;clear c3_0_0 c3_0_1 f3_0_0 f3_0_1 z3_0))
 exact bodyPost_ret (v:=.tuple #[.agg #[.int .u32 (x),.int .i64 (y)],.int .i64 (0)]) (by simp[results,results143,go_sem,c4_0_0,c4_0_1,f4_0_0,f4_0_1,World.cell?_alloc_lt,z4_0,Nat.lt_succ_of_lt z4_0]) rfl ⟨rfl,(by have hq:=hb1.mono (B':=w.heap.size) byO;have hq2:=Below.trans (B:=w.heap.size) (a:=w) upB hq;clear hq;have s1:=hq2.size;have hq3:=Below.trans (B:=w.heap.size) (a:=w) upB (hb2.mono (B':=w.heap.size) byO);have s2:=hq3.size;clear hq2;have hq4:=Below.trans (B:=w.heap.size) (a:=w) upB (hb3.mono (B':=w.heap.size) byO);have s3:=hq4.size;clear hq3;have hq5:=Below.trans (B:=w.heap.size) (a:=w) upB (hb4.mono (B':=w.heap.size) byO);have s4:=hq5.size;clear hq4;exact upB)⟩
theorem vM(s:Ba)(w:World)(E:Env w)(hs:s.size<=2097152):Cr prog 143 #[.string s] w (.tuple #[.agg #[.int .u32 (rdB s.data.toList),.int .i64 (rdN s.data.toList)],.int .i64 (rdE s.data.toList)]):=by
 have hl:=Lib.size_eq s;have ca:∀ l:Lu,l.length<=s.size->∀ w,Env w->Cr prog 144 #[.string (bs l)] w (.tuple #[.int .u32 (aB l),.bool (aOk l)]):=fun l h w E=>by
  have:=yS (bs l) w E (by rw[aM];omega)
  rw[bN] at this;exact this
 have cn:∀ l:Lu,l.length<=s.size->∀ w,Env w->Cr prog 145 #[.string (bs l)] w (.tuple #[.int .i64 (nB l 32),.bool (nOk l 32)]):=fun l h w E=>by
  have:=mN (bs l) w E (by rw[aM];omega)
  rw[bN] at this;exact this
 rcases eO 47 s.data.toList with h|⟨a,b,hab,h⟩
 ·obtain⟨q1,q2,q3⟩:=cR (rJ h)
  rw[q1,q2,q3];exact su s w _ _ _ _ _ _ _ E (fun w E=>uE s w E hs _ _ _ (r7 47 _ h)) (ca _ om) (cn _ (by simp)) rfl
 ·have hrd:=yi (b:=b) h
  rw[<- hab] at hrd;have la:a.length<=s.size:=by rw[hl,hab];simp
  have lb:b.length<=s.size:=by rw[hl,hab];simp;omega
  have cc:∀ w,Env w->Cr prog 87 #[.string s,.string ⟨#[47]⟩] w (.tuple #[.string (bs a),.string (bs b),.bool true]):=fun w E=>uE s w E hs _ _ _ (by rw[hab];exact rZ 47 a b h)
  have ca:=ca a la;have cn:=cn b lb;rcases ea:dr a with _|x
  ·rw[ea] at hrd;obtain⟨q1,q2,q3⟩:=cR hrd;rw[q1,q2,q3];exact rG s w _ _ _ _ _ _ _ E cc ca cn rfl (tA ea).2
  ·have hx:=gO ea;obtain⟨r1,r2⟩:=zl ea;rw[r1,r2] at ca;rcases en:num b 32 with _|n
   ·rw[ea,en] at hrd;obtain⟨q1,q2,q3⟩:=cR hrd;rw[q1,q2,q3];exact xi s w _ _ _ _ _ _ _ E cc ca cn rfl rfl (jq en).2
   ·rw[ea,en] at hrd;obtain⟨r3,r4⟩:=rE en;rw[r3,r4] at cn;rcases hr:rt (x:Int) (n:Int) with _|_
    ·simp only[hr] at hrd
     obtain⟨q1,q2,q3⟩:=cR hrd;rw[q1,q2,q3];exact vc s w _ _ _ _ _ _ _ E cc ca cn rfl rfl rfl om om hr
    ·simp only[hr] at hrd
     obtain⟨q1,q2,q3⟩:=fZ hrd;rw[q1,q2,q3];exact yA s w _ _ _ _ _ _ _ E cc ca cn rfl rfl rfl om om hr
theorem vE(c:UInt8)(n:Nat):∀ l:Lu,l.length<=n->Lib.splitK [c] 0 (Lib.count l [c]) l=aw c l:=by
 induction n with
 | zero =>
  intro l hl;obtain rfl:l=[]:=List.eq_nil_of_length_eq_zero om
  rw[Lib.count_miss (iS c [] (by simp)),cB c [] (by simp)];rfl
 | succ n ih =>
  intro l hl;rcases eO c l with h|⟨a,b,rfl,h⟩
  ·rw[Lib.count_miss (iS c l h),cB c l h];rfl
  ·have hc:=Lib.count_hit (s:=a++c::b) (sub:=[c]) (by simp) (iR c a b h)
   have hd:(a++c::b).drop (a.length+[c].length)=b:=by simp[List.drop_append]
   rw[hd] at hc;rw[hc,Nat.add_comm,pG c _ a b h,ih b (by simp at hl;omega),bB c a b h]
theorem wM(s:Ba)(w:World)(E:Env w)(hs:s.size<=2097152):Calls prog 58 #[.string s,.string ⟨#[32]⟩] w fun e w'=>∃ L:List Ba,L.map (fun x=>x.data.toList)=aw 32 s.data.toList/\e=.returned (.slice (some (At w.heap.size 0)) L.length L.length)/\w'=w.alloc (.cells (L.map Value.string).toArray 9):=by
 obtain⟨m,hm⟩:=E.mx;refine(Tryz.strings_Split s ⟨#[32]⟩ m w om hm (by decide)).mono ?_
 rintro e w' ⟨rfl,rfl⟩
 have hlen:=Lib.splitB_all ⟨#[32]⟩ (by decide) 0 _ s rfl
 have hd:=Lib.splitB_data ⟨#[32]⟩ 0 (Lib.countB s ⟨#[32]⟩) s
 have ha:=vE 32 _ s.data.toList (Nat.le_refl _)
 exact⟨Lib.splitB ⟨#[32]⟩ 0 (Lib.countB s ⟨#[32]⟩) s,hd.trans ha,by rw[hlen],rfl⟩
end
section
open Go.RowKit
def qY(c:UInt8):List (Lu)->Lu
 | []=>[]
 | [p]=>p
 | p::r=>p++c::qY c r
theorem iu(c:UInt8)(n:Nat):∀ l:Lu,l.length<=n->qY c (aw c l)=l:=by
 induction n with
 | zero =>
  intro l hl;obtain rfl:l=[]:=List.eq_nil_of_length_eq_zero om
  rfl
 | succ n ih =>
  intro l hl;rcases eO c l with h|⟨a,b,rfl,h⟩
  ·rw[cB c l h];rfl
  ·rw[bB c a b h];have hb:=ih b (by simp at hl;omega)
   have hp:=dE c b;rcases e:aw c b with _|⟨q,r⟩
   ·rw[e] at hp;simp at hp
   ·rw[e] at hb;show a++c::qY c (q::r)=_
    rw[hb]
theorem wJ{p0 p1 p2 p3:Lu}{a:Nat}(h:four p0 p1 p2 p3=some a):qY 46 [p0,p1,p2,p3]=dot a:=by
 unfold four at h;split at h
 ·rename_i a0 a1 a2 a3 e0 e1 e2 e3;obtain⟨h0,rfl⟩:=br.1 e0;obtain⟨h1,rfl⟩:=br.1 e1;obtain⟨h2,rfl⟩:=br.1 e2;obtain⟨h3,rfl⟩:=br.1 e3;simp at h;subst h;unfold dot;rw[show (((a0*256+a1)*256+a2)*256+a3) / 16777216=a0 by omega,show (((a0*256+a1)*256+a2)*256+a3) / 65536%256=a1 by omega,show (((a0*256+a1)*256+a2)*256+a3) / 256%256=a2 by omega,show (((a0*256+a1)*256+a2)*256+a3)%256=a3 by omega]
  rfl
 ·cases h
theorem mW{l:Lu}{a:Nat}(h:dr l=some a):l=dot a:=by
 have hg:=iu 46 l.length l (Nat.le_refl _)
 unfold dr at h;split at h
 ·rename_i p0 p1 p2 p3 e;rw[e] at hg;rw[<- hg];exact wJ h
 ·cases h
theorem nP{l:Lu}{a n:Int}(h:rd l=some (a,n)):l=wr a.toNat n.toNat/\rt a n=true/\0<=a/\a<4294967296/\0<=n/\n<=32:=by
 have hg:=iu 47 l.length l (Nat.le_refl _)
 unfold rd at h;split at h
 ·rename_i x y e;split at h
  ·rename_i A N ea en;split at h
   ·rename_i hr;simp at h;obtain⟨rfl,rfl⟩:=h;have h1:=mW ea;have h2:=gO ea;obtain⟨h3,h4⟩:=br.1 en;rw[e] at hg;refine⟨?_,hr,by omega,by omega,by omega,by omega⟩
    rw[<- hg];show x++47::y=_
    rw[h1,<- h4];simp[wr]
   ·cases h
  ·cases h
 ·cases h
theorem kT(c:UInt8)(hc:c.toNat<46\/c.toNat=47\/57<c.toNat)(a:Nat):c∉dot a:=by
 have h:=fun n=>lU c om n
 have h46:c≠46:=fun e=>by rw[e] at hc;revert hc;decide
 unfold dot;simp only[List.mem_append,List.mem_cons]
 intro e;rcases e with e|e|e|e|e|e|e
 ·exact h _ e
 ·exact h46 e
 ·exact h _ e
 ·exact h46 e
 ·exact h _ e
 ·exact h46 e
 ·exact h _ e
theorem iZ(n m:Nat)(h:n<=m):num (dec n) m=some n:=br.2 ⟨h,rfl⟩
theorem qU(a:Nat)(h:a<4294967296):dr (dot a)=some a:=by
 have hd:=fun n=>lU 46 (by decide) n
 have hp:aw 46 (dot a)=[dec (a / 16777216),dec (a / 65536%256),dec (a / 256%256),dec (a%256)]:=by
  unfold dot;rw[bB 46 _ _ (hd _),bB 46 _ _ (hd _),bB 46 _ _ (hd _),cB 46 _ (hd _)]
 unfold dr;rw[hp];simp only[four]
 rw[iZ _ _ om,iZ _ _ om,iZ _ _ om,iZ _ _ om];simp only[Option.some.injEq]
 omega
theorem FE{a n:Int}(h0:0<=a)(h1:a<4294967296)(hr:rt a n=true):rd (wr a.toNat n.toNat)=some (a,n):=by
 obtain⟨n0,n1,_⟩:=ah.1 hr;have hc:=yi (b:=dec n.toNat) (kT 47 (by decide) a.toNat)
 unfold wr;rw[hc,qU _ om,iZ _ _ om];simp only[]
 rw[show ((a.toNat:Nat):Int)=a by omega,show ((n.toNat:Nat):Int)=n by omega,if_pos hr]
def fP(k:Nat):Lu:=aX.getD k []
theorem zR:∀ k:Fin 11,fi (fun v=>v==fP k) aX=((k:Nat):Int):=by decide +kernel
theorem CZ(k:Nat)(h:k<11):fi (fun v=>v==fP k) aX=(k:Int):=zR ⟨k,h⟩
theorem xU:∀ k:Fin 11,(32:UInt8)∉fP k/\(fP k).length<=5:=by decide +kernel
theorem uu(k:Nat)(h:k<11):(32:UInt8)∉fP k/\(fP k).length<=5:=xU ⟨k,h⟩
theorem gE{l:Lu}(h:ag l=true):0<l.length/\l.length<=8/\∀ c,c∈l->(97<=c.toNat/\c.toNat<=122)\/(48<=c.toNat/\c.toNat<=57):=by
 unfold ag at h;simp only[Bool.and_eq_true,decide_eq_true_eq,List.all_eq_true,Bool.or_eq_true] at h
 exact⟨h.1.1,h.1.2,h.2⟩
theorem gZ{l:Lu}(h:ag l=true):(32:UInt8)∉l:=fun q=>by
 have:=(gE h).2.2 32 q
 revert this;decide
theorem jd{n:Nat}(h:n<1000):1<=(dec n).length/\(dec n).length<=3:=by
 rw[pm n h];unfold sN
 split
 ·simp
 ·split<;>simp
theorem fQ(a:Nat)(h:a<4294967296):7<=(dot a).length/\(dot a).length<=15:=by
 have h0:=jd (n:=a / 16777216) om
 have h1:=jd (n:=a / 65536%256) om
 have h2:=jd (n:=a / 256%256) om
 have h3:=jd (n:=a%256) om
 unfold dot;simp only[List.length_append,List.length_cons]
 omega
theorem yC{n:Nat}(h:n<100):(dec n).length<=2:=by
 rw[pm n om];unfold sN
 split
 ·simp
 ·simp
theorem oi(a n:Nat)(h:a<4294967296)(hn:n<=32):(wr a n).length<=18:=by
 have h0:=fQ a h;have h1:=yC (n:=n) om
 unfold wr;simp only[List.length_append,List.length_cons]
 omega
theorem AU(c:UInt8)(hc:c.toNat<46\/57<c.toNat)(a n:Nat):c∉wr a n:=by
 unfold wr;intro q;rcases List.mem_append.1 q with q|q
 ·exact kT c om a q
 ·rcases List.mem_cons.1 q with q|q
  ·rw[q] at hc;revert hc;decide
  ·exact lU c om n q
theorem uj{v t o x:Lu}(hv:(32:UInt8)∉v)(ht:(32:UInt8)∉t)(ho:(32:UInt8)∉o)(hx:(32:UInt8)∉x):aw 32 (v++32::(t++32::(o++32::x)))=[v,t,o,x]:=by
 rw[bB 32 _ _ hv,bB 32 _ _ ht,bB 32 _ _ ho,cB 32 _ hx]
theorem mg{s:Lu}{k:Nat}{ws:List (Lu)}(hs:s.length<=100)(hk:k<11)(hp:aw 32 s=fP k::ws):aD s=am (ln0 k) (form k) ws:=by
 unfold aD;rw[if_pos hs,hp];simp only[]
 rw[CZ k hk,if_neg om,Int.toNat_natCast]
def lnB(k:Nat)(t o:Lu)(a n:Int):Ln:=⟨k,⟨t.toArray⟩,⟨o.toArray⟩,a,n,0,0⟩
theorem kM{k:Nat}{t o:Lu}{a n:Int}(hk:k=0\/k=1\/k=3\/k=4\/k=5)(ht:ag t=true)(ho:ag o=true)(h0:0<=a)(h1:a<4294967296)(hr:rt a n=true):
  aD (fP k++32::(t++32::(o++32::wr a.toNat n.toNat)))=some (lnB k t o a n):=by
 obtain⟨n0,n1,_⟩:=ah.1 hr;obtain⟨v1,v2⟩:=uu k om;obtain⟨_,t2,_⟩:=gE ht;obtain⟨_,o2,_⟩:=gE ho;have hl:=oi a.toNat n.toNat om om;have hp:=uj v1 (gZ ht) (gZ ho) (AU 32 (by decide) a.toNat n.toNat)
 rw[mg (by simp only[List.length_append,List.length_cons];omega) om hp]
 have hf:form k=[1,2,3]:=by rcases hk with rfl|rfl|rfl|rfl|rfl<;>rfl
 rw[hf];simp only[am,aP,ht,ho,FE h0 h1 hr,if_pos,if_true,Nat.reduceEqDiff,if_false,ite_true]
 rfl
theorem vJ{k:Nat}{t o:Lu}{d:Nat}(hk:k=6\/k=7)(ht:ag t=true)(ho:ag o=true)(h1:d<4294967296):
  aD (fP k++32::(t++32::(o++32::dot d)))=some { lnB k t o 0 0 with d:=d }:=by
 obtain⟨v1,v2⟩:=uu k om;obtain⟨_,t2,_⟩:=gE ht;obtain⟨_,o2,_⟩:=gE ho;have hl:=fQ d h1;have hp:=uj v1 (gZ ht) (gZ ho) (kT 32 (by decide) d)
 rw[mg (by simp only[List.length_append,List.length_cons];omega) om hp]
 have hf:form k=[1,2,4]:=by rcases hk with rfl|rfl<;>rfl
 rw[hf];simp only[am,aP,ht,ho,qU d h1,if_pos,if_true,Nat.reduceEqDiff,if_false,ite_true]
 rfl
theorem kQ:∀ (w:Lu) (l:List (Lu)),(32:UInt8)∉w->(∀ x,x∈l->(32:UInt8)∉x)->aw 32 (w++l.flatMap (fun t=>32::t))=w::l
 | w,[],hw,_=>by simp[cB 32 w hw]
 | w,x::r,hw,h=>by
  rw[List.flatMap_cons,List.cons_append,bB 32 w _ hw,kQ x r (h x (by simp)) (fun y hy=>h y (by simp[hy]))]
theorem A6{h:Hd}(ho:ag h.o.data.toList=true):(32:UInt8)∉bH h:=by
 unfold bH cC;intro q;rcases List.mem_append.1 q with q|q
 ·exact AU 32 (by decide) _ _ q
 ·rcases List.mem_cons.1 q with q|q
  ·revert q;decide
  ·exact gZ ho q
theorem xo{h:Ls}(ho:ag h.o.data.toList=true):(32:UInt8)∉dp h:=by
 unfold dp;intro q;rcases List.mem_append.1 q with q|q
 ·exact kT 32 (by decide) _ q
 ·rcases List.mem_cons.1 q with q|q
  ·revert q;decide
  ·exact gZ ho q
def vK(L:List (Lu)):Lu:=[79,75]++L.flatMap (fun t=>32::t)
def EH(s:Bk):Lu:=vK (s.pools.map bH)
def Fp(s:Bk)(p:Hd):Lu:=vK ((af s.nets p.a p.n).map bH)
def Dw(s:Bk)(h:Hd):Lu:=vK ((av s.leases h.a h.n).map dp)
def kc(s:Bk)(p:Hd):List (Lu):=Fp s p::(af s.nets p.a p.n).map (Dw s)
def gF(s:Bk):List (Lu):=EH s::s.pools.flatMap (kc s)
theorem ns(L:List (Lu))(h:∀ x,x∈L->(32:UInt8)∉x):aw 32 (vK L)=[79,75]::L:=kQ [79,75] L (by decide) h
theorem tI{L M:List (Lu)}(hL:∀ x,x∈L->(32:UInt8)∉x)(hM:∀ x,x∈M->(32:UInt8)∉x)(e:vK L=vK M):L.length=M.length:=by
 have h1:=ns L hL;rw[e,ns M hM] at h1;simp at h1;rw[h1]
theorem Bd{l:List Hd}(h:∀ x,x∈l->ag x.o.data.toList=true):∀ x,x∈l.map bH->(32:UInt8)∉x:=fun x hx=>by
 obtain⟨y,hy,rfl⟩:=List.mem_map.1 hx;exact A6 (h y hy)
theorem xR{l:List Ls}(h:∀ x,x∈l->ag x.o.data.toList=true):∀ x,x∈l.map dp->(32:UInt8)∉x:=fun x hx=>by
 obtain⟨y,hy,rfl⟩:=List.mem_map.1 hx;exact xo (h y hy)
theorem iX{l:List Ls}{a n:Int}{x:Ls}(h:x∈av l a n):x∈l:=(List.mem_filter.1 h).1
theorem CV{α β:Type}(f g:α->List β)(l:List α)(h:∀ x,x∈l->(f x).length<=(g x).length)(hx:∃ x,x∈l/\(f x).length<(g x).length):(l.flatMap f).length<(l.flatMap g).length:=by
 have hle:∀ r:List α,(∀ x,x∈r->(f x).length<=(g x).length)->(r.flatMap f).length<=(r.flatMap g).length:=by
  intro r;induction r with
  | nil=>intro _;simp
  | cons y q ih =>
   intro h;have h1:=h y (by simp)
   have h2:=ih (fun x hx=>h x (by simp[hx]))
   simp only[List.flatMap_cons,List.length_append];omega
 induction l with
 | nil=>obtain⟨x,hx,_⟩:=hx;simp at hx
 | cons y q ih =>
  have h1:=h y (by simp)
  have h2:=hle q (fun x hx=>h x (by simp[hx]))
  simp only[List.flatMap_cons,List.length_append]
  obtain⟨x,hx,hlt⟩:=hx;rcases List.mem_cons.1 hx with rfl|hx
  ·omega
  ·have:=ih (fun x hx=>h x (by simp[hx])) ⟨x,hx,hlt⟩;omega
theorem BL{α β:Type}(f g:α->List β)(l:List α)(h:∀ x,x∈l->(f x).length=(g x).length)(e:l.flatMap f=l.flatMap g):∀ x,x∈l->f x=g x:=by
 induction l with
 | nil=>intro x hx;simp at hx
 | cons y q ih =>
  simp only[List.flatMap_cons] at e
  obtain⟨e1,e2⟩:=List.append_inj e (h y (by simp))
  intro x hx;rcases List.mem_cons.1 hx with rfl|hx
  ·exact e1
  ·exact ih (fun x hx=>h x (by simp[hx])) e2 x hx
theorem le{α:Type}(p:α->Bool)(l:List α)(c:Nat)(x:α):((l.take c++x::l.drop c).filter p).length=(l.filter p).length+(if p x then 1 else 0):=by
 conv=>rhs;rw[<- List.take_append_drop c l]
 rw[List.filter_append,List.filter_append,List.filter_cons];split<;>simp<;>omega
theorem lE{α:Type}(p:α->Bool)(l:List α)(k:Nat)(d:α)(h:k<l.length):((az l k).filter p).length+(if p (l.getD k d) then 1 else 0)=(l.filter p).length:=by
 unfold az;conv=>rhs;rw[<- List.take_append_drop k l,List.drop_eq_getElem_cons h]
 rw[List.filter_append,List.filter_append,List.filter_cons,List.getD_eq_getElem?_getD,List.getElem?_eq_getElem h,Option.getD_some];split<;>simp<;>omega
theorem eK(s:Bk)(p:Hd):(kc s p).length=1+(af s.nets p.a p.n).length:=by unfold kc;simp;omega
theorem ju{s s':Bk}(hp:s'.pools=s.pools){x:Hd}(hn:∀ a n,(af s'.nets a n).length=(af s.nets a n).length+(if inn x.a x.n a n then 1 else 0))(hi:∃ p,p∈s.pools/\inn x.a x.n p.a p.n=true):gF s'≠gF s:=by
 intro e;have:=congrArg List.length e
 unfold gF at this;rw[hp,List.length_cons,List.length_cons] at this;have hlt:=CV (kc s) (kc s') s.pools (fun p hp=>by rw[eK,eK,hn];omega) (by
  obtain⟨p,hp,hi⟩:=hi;exact⟨p,hp,by rw[eK,eK,hn,if_pos hi];omega⟩)
 omega
theorem gH{s s':Bk}(G:a7 s)(G':a7 s')(hp:s'.pools=s.pools)(hn:s'.nets=s.nets){h:Hd}(hh:h∈s.nets)(hl:(av s'.leases h.a h.n).length≠(av s.leases h.a h.n).length):gF s'≠gF s:=by
 intro e;unfold gF at e;rw[hp,List.cons.injEq] at e;obtain⟨p,hpp,hi⟩:=G.ni h hh;have h1:=BL (kc s') (kc s) s.pools (fun p hp=>by rw[eK,eK,hn]) e.2 p hpp
 unfold kc at h1;rw[hn,List.cons.injEq] at h1;have h2:=List.map_inj_left.1 h1.2 h (List.mem_filter.2 ⟨hh,hi⟩)
 unfold Dw at h2;have h3:=tI (xR fun x hx=>G'.lo x (iX hx)) (xR fun x hx=>G.lo x (iX hx)) h2
 simp at h3;exact hl h3
theorem kW{s s':Bk}(G:a7 s)(G':a7 s')(h:s'.pools.length≠s.pools.length):gF s'≠gF s:=by
 intro e;unfold gF at e;rw[List.cons.injEq] at e;have h3:=tI (Bd G'.po) (Bd G.po) e.1
 simp at h3;exact h h3
theorem wG(l:List Hd)(x:Hd):(b9 l x).length=l.length+1:=by unfold b9;simp;omega
theorem sk{α:Type}(l:List α)(k:Nat)(h:k<l.length):(az l k).length+1=l.length:=by unfold az;simp;omega
theorem qS{l:List Hd}{a n:Int}(h:¬aj l a n<0):(aj l a n).toNat<l.length:=by
 unfold aj at *
 rcases aV (isH a n) l hd0 with⟨e,_⟩|⟨k,hk,e,hp,_⟩
 ·rw[e] at h;omega
 ·rw[e,Int.toNat_natCast];exact hk
theorem qM(l:List Hd)(x:Hd)(a n:Int):(af (b9 l x) a n).length=(af l a n).length+(if inn x.a x.n a n then 1 else 0):=le _ _ _ _
theorem lO(l:List Ls)(x:Ls)(a n:Int):(av (dN l x) a n).length=(av l a n).length+(if inn x.a 32 a n then 1 else 0):=le _ _ _ _
theorem zB{s:Bk}{l:Ln}(G:a7 s)(hg:ET l)(hv:l.v<8):((aG s l).2.e≠0/\(aG s l).1=s)\/((aG s l).2.e=0/\gF (aG s l).1≠gF s):=by
 have G':=uv G hg;obtain⟨a0,a1,ar,g1,ho⟩:=hg;have hc:l.v=0\/l.v=1\/l.v=2\/l.v=3\/l.v=4\/l.v=5\/l.v=6\/l.v=7:=by omega
 rcases hc with e|e|e|e|e|e|e|e
 ·have hd:aG s l=cr s l:=by unfold aG;rw[e];rfl
  rw[hd] at G' ⊢;revert G';unfold cr
  split
  ·intro _;exact .inl ⟨by simp[ref],rfl⟩
  split
  ·intro _;exact .inl ⟨by simp[ref],rfl⟩
  split
  ·intro _;exact .inl ⟨by simp[ref],rfl⟩
  ·intro G';exact .inr ⟨rfl,kW G G' (by show (b9 s.pools _).length≠_;rw[wG];omega)⟩
 ·have hd:aG s l=cP s l:=by unfold aG;rw[e];rfl
  rw[hd] at G' ⊢;revert G';unfold cP
  split
  ·intro _;exact .inl ⟨by simp[ref],rfl⟩
  split
  ·intro _;exact .inl ⟨by simp[ref],rfl⟩
  split
  ·intro _;exact .inl ⟨by simp[ref],rfl⟩
  ·rename_i h1 _ _;intro G';exact .inr ⟨rfl,kW G G' (by have:=sk s.pools _ (qS h1);show (az s.pools _).length≠_;omega)⟩
 ·have hd:aG s l=dC s l:=by unfold aG;rw[e];rfl
  rw[hd] at G' ⊢;unfold dC;split
  ·exact .inl ⟨by simp[ref],rfl⟩
  split
  ·exact .inl ⟨by simp[ref],rfl⟩
  rename_i h1 h2;rcases hb:dL (aL 33 (af s.nets l.a l.n) l.a l.n) l.g with _|b
  ·exact .inl ⟨by simp[ref],rfl⟩
  ·dsimp only;split
   ·exact .inl ⟨by simp[ref],rfl⟩
   ·obtain⟨r1,r2,r3,r4,r5⟩:=jR G g1 h1 hb;exact .inr ⟨rfl,ju (x:=⟨b.1,l.g,l.o⟩) rfl (fun a n=>qM _ _ a n) r5⟩
 ·have hd:aG s l=bG s l:=by unfold aG;rw[e];rfl
  rw[hd] at G' ⊢;unfold bG;split
  ·exact .inl ⟨by simp[ref],rfl⟩
  split
  ·exact .inl ⟨by simp[ref],rfl⟩
  split
  ·exact .inl ⟨by simp[ref],rfl⟩
  split
  ·exact .inl ⟨by simp[ref],rfl⟩
  rename_i h1 h2 h3 h4;obtain⟨hm,hi⟩:=fB h2;exact .inr ⟨rfl,ju (x:=⟨l.a,l.n,l.o⟩) rfl (fun a n=>qM _ _ a n) ⟨_,hm,hi⟩⟩
 ·have hd:aG s l=cQ s l:=by unfold aG;rw[e];rfl
  rw[hd] at G' ⊢;unfold cQ;split
  ·exact .inl ⟨by simp[ref],rfl⟩
  split
  ·exact .inl ⟨by simp[ref],rfl⟩
  split
  ·exact .inl ⟨by simp[ref],rfl⟩
  rename_i h1 h2 h3;obtain⟨hm,hma,hmn⟩:=eb h1;refine .inr ⟨rfl,fun q=>?_⟩
  refine ju (s:={ s with nets:=az s.nets (aj s.nets l.a l.n).toNat }) (s':=s) (x:=s.nets.getD (aj s.nets l.a l.n).toNat hd0) rfl (fun a n=>?_) (G.ni _ hm) q.symm
  exact(lE (fun h=>inn h.a h.n a n) s.nets _ hd0 (qS h1)).symm
 ·have hd:aG s l=bS s l:=by unfold aG;rw[e];rfl
  rw[hd] at G' ⊢;revert G';unfold bS
  split
  ·intro _;exact .inl ⟨by simp[ref],rfl⟩
  rename_i h1;rcases hb:dm s.leases l.a l.n with _|d
  ·intro _;exact .inl ⟨by simp[ref],rfl⟩
  ·dsimp only;split
   ·intro _;exact .inl ⟨by simp[ref],rfl⟩
   ·intro G';obtain⟨hm,hma,hmn⟩:=eb h1;obtain⟨p,hpe⟩:∃ p,p=s.nets.getD (aj s.nets l.a l.n).toNat hd0:=⟨_,rfl⟩
    rw[<- hpe] at hm hma hmn;rw[<- hma,<- hmn] at hb;obtain⟨r1,r2,r3⟩:=fR G hm hb;obtain⟨u1,u2⟩:=jy r1 r2;refine .inr ⟨rfl,gH G G' rfl rfl hm ?_⟩
    show (av (dN s.leases ⟨d,l.o⟩) p.a p.n).length≠_
    rw[lO,if_pos (jk (G.nr p hm).2.2.1 u1 u2)];omega
 ·have hd:aG s l=cu s l:=by unfold aG;rw[e];rfl
  rw[hd] at G' ⊢;revert G';unfold cu
  split
  ·intro _;exact .inl ⟨by simp[ref],rfl⟩
  split
  ·intro _;exact .inl ⟨by simp[ref],rfl⟩
  split
  ·intro _;exact .inl ⟨by simp[ref],rfl⟩
  split
  ·intro _;exact .inl ⟨by simp[ref],rfl⟩
  rename_i h1 h2 h3 h4;intro G';obtain⟨hm,hi⟩:=fB h1;refine .inr ⟨rfl,gH G G' rfl rfl hm ?_⟩
  show (av (dN s.leases ⟨l.d,l.o⟩) _ _).length≠_
  rw[lO,if_pos hi];omega
 ·have hd:aG s l=cO s l:=by unfold aG;rw[e];rfl
  rw[hd] at G' ⊢;revert G';unfold cO
  split
  ·rename_i h1;split
   ·intro _;exact .inl ⟨by simp[ref],rfl⟩
   ·intro G';have hk:bL s.leases l.d<s.leases.length/\(s.leases.getD (bL s.leases l.d) ls0).a=l.d:=by
     unfold dh at h1;simpa using h1
    have hmem:s.leases.getD (bL s.leases l.d) ls0∈s.leases:=by
     rw[List.getD_eq_getElem?_getD,List.getElem?_eq_getElem hk.1];exact List.getElem_mem hk.1
    obtain⟨h,hh,q1,q2⟩:=G.li _ hmem;obtain⟨u1,u2⟩:=jy q1 q2;refine .inr ⟨rfl,gH G G' rfl rfl hh ?_⟩
    have:=lE (fun y:Ls=>inn y.a 32 h.a h.n) s.leases _ ls0 hk.1
    rw[if_pos (jk (G.nr h hh).2.2.1 u1 u2)] at this;show (av (az s.leases (bL s.leases l.d)) h.a h.n).length≠(av s.leases h.a h.n).length
    unfold av;omega
  ·intro _;exact .inl ⟨by simp[ref],rfl⟩
theorem zi{l l':Ln}{p:Nat}{w:Lu}(h:aP l p w=some l'):l'.v=l.v/\(p=2->ag l'.o.data.toList=true)/\(p≠2->l'.o=l.o)/\(p=1->l'.t=⟨w.toArray⟩)/\(p≠1->l'.t=l.t)/\(p=1->ag w=true):=by
 unfold aP at h;split at h
 ·split at h
  ·rename_i e hn;cases h;exact⟨rfl,fun q=>by omega,fun _=>rfl,fun _=>rfl,fun q=>absurd e q,fun _=>hn⟩
  ·cases h
 ·split at h
  ·split at h
   ·rename_i e1 e hn
    cases h;exact⟨rfl,fun _=>by simpa using hn,fun q=>absurd e q,fun q=>absurd q e1,fun _=>rfl,fun q=>absurd q e1⟩
   ·cases h
  ·rename_i e1 e2;split at h
   ·split at h
    ·cases h;exact⟨rfl,fun q=>absurd q e2,fun _=>rfl,fun q=>absurd q e1,fun _=>rfl,fun q=>absurd q e1⟩
    ·cases h
   ·split at h
    ·split at h
     ·cases h;exact⟨rfl,fun q=>absurd q e2,fun _=>rfl,fun q=>absurd q e1,fun _=>rfl,fun q=>absurd q e1⟩
     ·cases h
    ·split at h
     ·split at h
      ·cases h;exact⟨rfl,fun q=>absurd q e2,fun _=>rfl,fun q=>absurd q e1,fun _=>rfl,fun q=>absurd q e1⟩
      ·cases h
     ·cases h
theorem mX:∀ (ps:List Nat) (ws:List (Lu)) (l l':Ln),am l ps ws=some l'->l'.v=l.v/\((ag l.o.data.toList=true\/2∈ps)->ag l'.o.data.toList=true)/\(1∉ps->l'.t=l.t)
 | [],[],l,l',h=>by simp[am] at h;subst h;exact⟨rfl,fun q=>q.elim id (by simp),fun _=>rfl⟩
 | [],_::_,l,l',h=>by simp[am] at h
 | _::_,[],l,l',h=>by simp[am] at h
 | p::ps,w::ws,l,l',h=>by
  rw[am] at h;split at h
  ·rename_i l2 e;obtain⟨a1,a2,a3,a4,a5,_⟩:=zi e;obtain⟨b1,b2,b3⟩:=mX ps ws l2 l' h;refine⟨b1.trans a1,fun q=>b2 ?_,fun q=>?_⟩
   ·by_cases hp:p=2
    ·exact .inl (a2 hp)
    ·rcases q with q|q
     ·rw[a3 hp];exact .inl q
     ·rcases List.mem_cons.1 q with q|q
      ·exact absurd q.symm hp
      ·exact .inr q
   ·simp only[List.mem_cons,not_or] at q
    rw[b3 q.2,a5 (fun e=>q.1 e.symm)]
  ·cases h
theorem zM{k:Nat}(h:k<8):∃ ps,form k=1::2::ps/\1∉ps:=by
 have hc:k=0\/k=1\/k=2\/k=3\/k=4\/k=5\/k=6\/k=7:=by omega
 rcases hc with rfl|rfl|rfl|rfl|rfl|rfl|rfl|rfl<;>exact⟨_,rfl,by decide⟩
theorem wm{l l':Ln}{p:Nat}{w:Lu}(hL:0<=l.a/\l.a<4294967296/\rt l.a l.n=true/\l.g<=32)(h:aP l p w=some l'):0<=l'.a/\l'.a<4294967296/\rt l'.a l'.n=true/\l'.g<=32:=by
 unfold aP at h;split at h
 ·split at h
  ·cases h;exact hL
  ·cases h
 ·split at h
  ·split at h
   ·cases h;exact hL
   ·cases h
  ·split at h
   ·split at h
    ·rename_i b e
     cases h;have hb:=nP (a:=b.1) (n:=b.2) e
     exact⟨hb.2.2.1,hb.2.2.2.1,hb.2.1,hL.2.2.2⟩
    ·cases h
   ·split at h
    ·split at h
     ·cases h;exact hL
     ·cases h
    ·split at h
     ·split at h
      ·rename_i g e
       cases h;have hb:=(br.1 e).1
       exact⟨hL.1,hL.2.1,hL.2.2.1,by dsimp only;omega⟩
      ·cases h
     ·cases h
theorem kL:∀ (ps:List Nat) (ws:List (Lu)) (l l':Ln),(0<=l.a/\l.a<4294967296/\rt l.a l.n=true/\l.g<=32)->am l ps ws=some l'->0<=l'.a/\l'.a<4294967296/\rt l'.a l'.n=true/\l'.g<=32
 | [],[],l,l',hL,h=>by simp[am] at h;subst h;exact hL
 | [],_::_,l,l',hL,h=>by simp[am] at h
 | _::_,[],l,l',hL,h=>by simp[am] at h
 | p::ps,w::ws,l,l',hL,h=>by
  rw[am] at h;split at h
  ·rename_i l2 e;exact kL ps ws l2 l' (wm hL e) h
  ·cases h
theorem nb{s:Lu}{l:Ln}(h:aD s=some l):ET l:=by
 unfold aD at h;split at h
 ·split at h
  ·rename_i w ws e;split at h
   ·cases h
   ·have h1:=kL _ _ _ _ ⟨Int.le_refl _,by simp[ln0],ah.2 ⟨by simp[ln0],by simp[ln0],by simp[ln0]⟩,by simp[ln0]⟩ h
    obtain⟨h2,h3,_⟩:=mX _ _ _ _ h;refine⟨h1.1,h1.2.1,h1.2.2.1,h1.2.2.2,fun hv=>h3 (.inr ?_)⟩
    obtain⟨ps,e,_⟩:=zM hv;rw[h2] at e;show 2∈form (ln0 (fi (fun v=>v==w) aX).toNat).v
    rw[e];simp
  ·cases h
 ·cases h
def iq(k:Nat)(t o r:Lu):Lu:=fP k++32::(t++32::(o++32::r))
def byt(l:Lu):Ba:=⟨l.toArray⟩
theorem yq(l:Lu):(byt l).data.toList=l:=rfl
theorem oW{l:List Tk}{x y:Tk}(h:y∈dH l x):y∈l\/y=x:=by
 unfold dH at h;rcases List.mem_append.1 h with h|h
 ·split at h
  ·exact .inl (List.mem_of_mem_drop h)
  ·exact .inl h
 ·exact .inr (by simpa using h)
theorem aI{α:Type}{l:List α}(d:α){k:Nat}(hk:k<l.length):l.getD k d∈l:=by
 rw[List.getD_eq_getElem?_getD,List.getElem?_eq_getElem hk];exact List.getElem_mem hk
theorem yD{a n:Int}(h0:0<=a)(h1:a<4294967296)(hr:rt a n=true):a<=db a n/\dg a n<=a+sz n-1/\a+sz n<=4294967296:=by
 obtain⟨r1,r2,r3⟩:=ah.1 hr;have e:a+sz n<=4294967296:=by
  obtain⟨m,hm,_⟩:=qP n r1 r2;have hs:=aC n;have h2:a=sz n*(a / sz n):=by have:=Int.mul_ediv_add_emod a (sz n);omega
  have h3:a / sz n<m:=by
   rcases Int.lt_or_le (a / sz n) m with q|q
   ·exact q
   ·exfalso
    have:=Int.mul_le_mul_of_nonneg_left q (Int.le_of_lt hs)
    omega
  have h4:sz n*(a / sz n+1)<=sz n*m:=Int.mul_le_mul_of_nonneg_left om (Int.le_of_lt hs)
  rw[Int.mul_add,Int.mul_one] at h4;omega
 unfold db dg lst;split<;>exact⟨by omega,by omega,e⟩
def xT:Lu:=[120]
def pT(h:Hd):Lu:=iq 0 xT h.o.data.toList (cC h.a h.n)
def sj(h:Hd):Lu:=iq 3 xT h.o.data.toList (cC h.a h.n)
def oV(l:Ls):Lu:=iq 6 xT l.o.data.toList (dot l.a.toNat)
def fF(x:Tk):Lu:=x.l.data.toList++61::x.r.data.toList
def bW(s:Bk):List (Lu):=s.pools.map pT++s.nets.map sj++s.leases.map oV
def eh(s:Bk):List (Lu):=bW s++s.toks.map fF
def cd(s:Bk):Lu:=(eh s).flatMap fun r=>r++[10]
def dq(r:Lu):Lu:=r.takeWhile fun c=>c != 61
def kw(r:Lu):Lu:=r.drop ((dq r).length+1)
def ma(r:Lu):Bool:=decide ((dq r).length<r.length)
def bM(s:Bk)(r:Lu):Option Bk :=
 match aD (dq r) with
 | none=>none
 | some l =>
  if l.v<8 then
   (if ma r then some { s with toks:=dH s.toks ⟨l.t,byt (dq r),byt (kw r)⟩ }
       else if (aG s l).2.e=0 then some (aG s l).1 else none)
  else none
def bE:Bk->List (Lu)->Option Bk
 | s,[]=>some s
 | s,r::rs=>match bM s r with|none=>none|some s'=>bE s' rs
theorem fk(a b:List (Lu)):∀ s s',bE s a=some s'->bE s (a++b)=bE s' b:=by
 induction a with
 | nil=>intro s s' h;cases h;rfl
 | cons r a ih =>
  intro s s' h;simp only[bE,List.cons_append] at h ⊢
  rcases e:bM s r with _|s1
  ·rw[e] at h;cases h
  ·rw[e] at h;exact ih s1 s' h
theorem xH{α:Type}{p:α->Bool}:∀ {l:List α},(∀ x,x∈l->p x=true)->l.takeWhile p=l
 | [],_=>rfl
 | x::r,h=>by rw[List.takeWhile_cons_of_pos (h x (by simp)),xH fun y hy=>h y (by simp[hy])]
theorem eL{r:Lu}(h:(61:UInt8)∉r):dq r=r/\ma r=false:=by
 have e:dq r=r:=by
  unfold dq;exact xH fun c hc=>by simp;rintro rfl;exact h hc
 exact⟨e,by unfold ma;rw[e];simp⟩
theorem tK{a b:Lu}(h:(61:UInt8)∉a):dq (a++61::b)=a/\kw (a++61::b)=b/\ma (a++61::b)=true:=by
 have e:dq (a++61::b)=a:=by
  unfold dq;rw[List.takeWhile_append_of_pos (by intro c hc;simp;rintro rfl;exact h hc),List.takeWhile_cons_of_neg (by simp)]
  simp
 refine⟨e,?_,?_⟩
 ·unfold kw;rw[e];simp
 ·unfold ma;rw[e];simp
theorem sC(c:UInt8)(hc:c.toNat<32\/c=61){k:Nat}(hk:k<8){t o r:Lu}(ht:ag t=true)(ho:ag o=true)(hr:c∉r):c∉iq k t o r:=by
 have hv:∀ k:Fin 8,∀ x,x∈fP k->65<=x.toNat/\x.toNat<=90:=by decide +kernel
 have hn:∀ {t:Lu},ag t=true->c∉t:=fun {t} h q=>by
  unfold ag at h;rw[Bool.and_eq_true] at h;have:=List.all_eq_true.1 h.2 c q
  simp at this;rcases hc with e|rfl
  ·omega
  ·simp at this
 have h32:c≠32:=by rcases hc with e|rfl;rintro rfl;simp at e;decide
 unfold iq;simp only[List.mem_append,List.mem_cons,not_or]
 refine⟨fun q=>?_,h32,hn ht,h32,hn ho,h32,hr⟩
 have:=hv ⟨k,hk⟩ c q
 rcases hc with e|rfl
 ·omega
 ·simp at this
theorem gK:ag xT=true:=by decide
theorem DI(c:UInt8)(hc:c.toNat<32\/c=61)(a n:Int):c∉cC a n:=by
 refine AU c ?_ a.toNat n.toNat
 rcases hc with e|rfl
 ·omega
 ·exact .inr (by decide)
theorem F9(c:UInt8)(hc:c.toNat<32\/c=61)(d:Nat):c∉dot d:=by
 refine kT c ?_ d
 rcases hc with e|rfl
 ·omega
 ·exact .inr (.inr (by decide))
theorem BS(l:List Hd)(a:Int)(h:∀ y,y∈l->y.a<a):fa l a=l.length:=by
 unfold fa;exact List.countP_eq_length.2 fun y hy=>by simpa using h y hy
theorem uc(l:List Hd)(x:Hd)(h:∀ y,y∈l->y.a<x.a):b9 l x=l++[x]:=by
 unfold b9;rw[BS l x.a h,List.take_length,List.drop_length]
theorem xO(l:List Ls)(x:Ls)(h:∀ y,y∈l->y.a<x.a):dN l x=l++[x]/\dh l x.a=false:=by
 have e:bL l x.a=l.length:=by unfold bL;exact List.countP_eq_length.2 fun y hy=>by simpa using h y hy
 refine⟨?_,?_⟩
 ·unfold dN;rw[e,List.take_length,List.drop_length]
 ·unfold dh;rw[e];simp
theorem js{α:Type}{R:α->α->Prop}{l:List α}{x:α}{r:List α}(h:(l++x::r).Pairwise R):∀ y,y∈l->R y x:=fun y hy=>(List.pairwise_append.1 h).2.2 y hy x (by simp)
theorem oH(o:Ba):(⟨o.data.toList.toArray⟩:Ba)=o:=by cases o;simp
theorem qJ{l:List Hd}{x:Hd}(hl:∀ y,y∈l->rt y.a y.n=true)(hx:rt x.a x.n=true)(h:∀ y,y∈l->y.a+sz y.n<=x.a):aU l x.a x.n=false:=by
 unfold aU;refine List.any_eq_false.2 fun y hy=>?_
 have h1:bP x.a x.n y=false:=(ms (hl y hy) hx).2 (.inr (h y hy))
 simp[h1]
theorem uV{s:Bk}(G:a7 s)(h30:∀ h,h∈s.pools->8<=h.n/\h.n<=30)(h6:s.pools.length<=6){l r:List Hd}{x:Hd}(e:s.pools=l++x::r):bM ⟨l,[],[],[]⟩ (pT x)=some ⟨l++[x],[],[],[]⟩:=by
 have hx:x∈s.pools:=by rw[e];simp
 obtain⟨a0,a1,ar⟩:=G.pr x hx;have hno:(61:UInt8)∉pT x:=sC 61 (.inr rfl) om gK (G.po x hx) (DI 61 (.inr rfl) _ _)
 have hp:=js (e ▸ G.pp)
 have hrd:aD (pT x)=some (lnB 0 xT x.o.data.toList x.a x.n):=kM (.inl rfl) gK (G.po x hx) a0 a1 ar
 unfold bM;rw[(eL hno).1,(eL hno).2,hrd];have hl:l.length+1<=6:=by have:=congrArg List.length e;simp at this;omega
 have hd:cr ⟨l,[],[],[]⟩ (lnB 0 xT x.o.data.toList x.a x.n)=(⟨l++[x],[],[],[]⟩,okA):=by
  unfold cr lnB;dsimp only;rw[if_neg (by have:=h30 x hx;omega),if_neg (by rw[qJ (fun y hy=>(G.pr y (by rw[e];simp[hy])).2.2) ar hp];simp),if_neg om]
  rw[oH,uc l x (fun y hy=>by have:=hp y hy;have:=aC y.n;omega)]
 show (if (lnB 0 xT x.o.data.toList x.a x.n).v<8 then (if false=true then _ else if (aG _ (lnB 0 xT x.o.data.toList x.a x.n)).2.e=0 then some (aG _ (lnB 0 xT x.o.data.toList x.a x.n)).1 else none) else none)=_
 rw[show aG ⟨l,[],[],[]⟩ (lnB 0 xT x.o.data.toList x.a x.n)=cr ⟨l,[],[],[]⟩ (lnB 0 xT x.o.data.toList x.a x.n) from rfl,hd];rfl
theorem me{l:List Hd}{a n:Int}(h:∃ p,p∈l/\inn a n p.a p.n=true):¬aQ l a n<0:=by
 obtain⟨p,hp,hi⟩:=h;unfold aQ;rcases aV (bK a n) l hd0 with⟨_,q⟩|⟨k,_,e,_⟩
 ·have:=q p hp
  unfold bK at this;rw[hi] at this;cases this
 ·rw[e];omega
theorem zh{s:Bk}(G:a7 s)(h24:s.nets.length<=24){l r:List Hd}{x:Hd}(e:s.nets=l++x::r):bM ⟨s.pools,l,[],[]⟩ (sj x)=some ⟨s.pools,l++[x],[],[]⟩:=by
 have hx:x∈s.nets:=by rw[e];simp
 obtain⟨a0,a1,ar,an⟩:=G.nr x hx;have hno:(61:UInt8)∉sj x:=sC 61 (.inr rfl) om gK (G.no x hx) (DI 61 (.inr rfl) _ _)
 have hp:=js (e ▸ G.np)
 have hrd:aD (sj x)=some (lnB 3 xT x.o.data.toList x.a x.n):=kM (.inr (.inr (.inl rfl))) gK (G.no x hx) a0 a1 ar
 unfold bM;rw[(eL hno).1,(eL hno).2,hrd];have hl:l.length+1<=24:=by have:=congrArg List.length e;simp at this;omega
 have hd:bG ⟨s.pools,l,[],[]⟩ (lnB 3 xT x.o.data.toList x.a x.n)=(⟨s.pools,l++[x],[],[]⟩,okA):=by
  unfold bG lnB;dsimp only;rw[if_neg om,if_neg (me (G.ni x hx)),if_neg (by rw[qJ (fun y hy=>(G.nr y (by rw[e];simp[hy])).2.2.1) ar hp];simp),if_neg om]
  rw[oH,uc l x (fun y hy=>by have:=hp y hy;have:=aC y.n;omega)]
 show (if (lnB 3 xT x.o.data.toList x.a x.n).v<8 then (if false=true then _ else if (aG _ (lnB 3 xT x.o.data.toList x.a x.n)).2.e=0 then some (aG _ (lnB 3 xT x.o.data.toList x.a x.n)).1 else none) else none)=_
 rw[show aG ⟨s.pools,l,[],[]⟩ (lnB 3 xT x.o.data.toList x.a x.n)=bG ⟨s.pools,l,[],[]⟩ (lnB 3 xT x.o.data.toList x.a x.n) from rfl,hd];rfl
theorem AO{s:Bk}(G:a7 s){x:Ls}(hx:x∈s.leases):0<=x.a/\x.a<4294967296:=by
 obtain⟨h,hh,h1,h2⟩:=G.li x hx;obtain⟨g0,g1,gr,_⟩:=G.nr h hh;have:=yD g0 g1 gr
 omega
theorem sa{s:Bk}(G:a7 s)(h40:s.leases.length<=40){l r:List Ls}{x:Ls}(e:s.leases=l++x::r):bM ⟨s.pools,s.nets,l,[]⟩ (oV x)=some ⟨s.pools,s.nets,l++[x],[]⟩:=by
 have hx:x∈s.leases:=by rw[e];simp
 obtain⟨a0,a1⟩:=AO G hx;have hno:(61:UInt8)∉oV x:=sC 61 (.inr rfl) om gK (G.lo x hx) (F9 61 (.inr rfl) _)
 have hp:=js (e ▸ G.lp)
 have hrd:aD (oV x)=some { lnB 6 xT x.o.data.toList 0 0 with d:=x.a }:=by
  have h:=vJ (k:=6) (t:=xT) (o:=x.o.data.toList) (d:=x.a.toNat) (.inl rfl) gK (G.lo x hx) om
  rw[show ((x.a.toNat:Nat):Int)=x.a by omega] at h
  exact h
 unfold bM;rw[(eL hno).1,(eL hno).2,hrd];have hl:l.length+1<=40:=by have:=congrArg List.length e;simp at this;omega
 have hsp:¬aQ s.nets x.a 32<0:=by
  obtain⟨h,hh,h1,h2⟩:=G.li x hx;obtain⟨g0,g1,gr,_⟩:=G.nr h hh;have hb:=yD g0 g1 gr;exact me ⟨h,hh,jk gr om om⟩
 obtain⟨sm,si⟩:=fB hsp;have hu:=ze G sm hx si;obtain⟨i1,i2⟩:=xO l x hp;have hd:cu ⟨s.pools,s.nets,l,[]⟩ { lnB 6 xT x.o.data.toList 0 0 with d:=x.a }=(⟨s.pools,s.nets,l++[x],[]⟩,okA):=by
  unfold cu lnB;dsimp only;rw[if_neg hsp,if_neg om,if_neg (by rw[i2];simp),if_neg om,oH,i1]
 show (if ({ lnB 6 xT x.o.data.toList 0 0 with d:=x.a }:Ln).v<8 then (if false=true then _ else if (aG _ { lnB 6 xT x.o.data.toList 0 0 with d:=x.a }).2.e=0 then some (aG _ { lnB 6 xT x.o.data.toList 0 0 with d:=x.a }).1 else none) else none)=_
 rw[show aG ⟨s.pools,s.nets,l,[]⟩ { lnB 6 xT x.o.data.toList 0 0 with d:=x.a }=cu ⟨s.pools,s.nets,l,[]⟩ { lnB 6 xT x.o.data.toList 0 0 with d:=x.a } from rfl,hd];rfl
def xW(x:Tk):Prop:=(∃ l,aD x.l.data.toList=some l/\l.v<8/\l.t=x.t)/\(61:UInt8)∉x.l.data.toList/\(10:UInt8)∉x.l.data.toList/\(0:UInt8)∉x.l.data.toList/\(10:UInt8)∉x.r.data.toList/\(0:UInt8)∉x.r.data.toList/\x.l.size<=100/\x.r.size<=40
theorem y7{s:Bk}{x:Tk}(h:xW x)(h8:s.toks.length<8):bM s (fF x)=some { s with toks:=s.toks++[x] }:=by
 obtain⟨⟨l,h1,h2,h3⟩,h4,_⟩:=h;obtain⟨c1,c2,c3⟩:=tK (b:=x.r.data.toList) h4
 unfold bM fF;rw[c1,c2,c3,h1];dsimp only;rw[if_pos h2,if_pos rfl];have e:dH s.toks ⟨l.t,byt x.l.data.toList,byt x.r.data.toList⟩=s.toks++[x]:=by
  unfold dH;rw[if_neg om,h3];have e1:byt x.l.data.toList=x.l:=oH _
  have e2:byt x.r.data.toList=x.r:=oH _
  rw[e1,e2]
 rw[e]
theorem AQ{s:Bk}(G:a7 s)(h30:∀ h,h∈s.pools->8<=h.n/\h.n<=30)(h6:s.pools.length<=6):∀ (r l:List Hd),s.pools=l++r->bE ⟨l,[],[],[]⟩ (r.map pT)=some ⟨s.pools,[],[],[]⟩:=by
 intro r;induction r with
 | nil=>intro l e;rw[List.append_nil] at e;subst e;rfl
 | cons x r ih =>
  intro l e;simp only[List.map_cons,bE,uV G h30 h6 e]
  exact ih (l++[x]) (by rw[e];simp)
theorem CH{s:Bk}(G:a7 s)(h24:s.nets.length<=24):∀ (r l:List Hd),s.nets=l++r->bE ⟨s.pools,l,[],[]⟩ (r.map sj)=some ⟨s.pools,s.nets,[],[]⟩:=by
 intro r;induction r with
 | nil=>intro l e;rw[List.append_nil] at e;subst e;rfl
 | cons x r ih =>
  intro l e;simp only[List.map_cons,bE,zh G h24 e]
  exact ih (l++[x]) (by rw[e];simp)
theorem w8{s:Bk}(G:a7 s)(h40:s.leases.length<=40):∀ (r l:List Ls),s.leases=l++r->bE ⟨s.pools,s.nets,l,[]⟩ (r.map oV)=some ⟨s.pools,s.nets,s.leases,[]⟩:=by
 intro r;induction r with
 | nil=>intro l e;rw[List.append_nil] at e;subst e;rfl
 | cons x r ih =>
  intro l e;simp only[List.map_cons,bE,sa G h40 e]
  exact ih (l++[x]) (by rw[e];simp)
theorem Ce{p n:List Hd}{q:List Ls}:∀ (r l:List Tk),(∀ x,x∈r->xW x)->l.length+r.length<=8->bE ⟨p,n,q,l⟩ (r.map fF)=some ⟨p,n,q,l++r⟩:=by
 intro r;induction r with
 | nil=>intro l _ _;simp[bE]
 | cons x r ih =>
  intro l h h8;simp at h8;simp only[List.map_cons,bE,y7 (s:=⟨p,n,q,l⟩) (h x (by simp)) (by show l.length<8;omega)]
  have:=ih (l++[x]) (fun y hy=>h y (by simp[hy])) (by simp;omega)
  rw[this];simp
theorem wg{s:Bk}(G:a7 s)(h30:∀ h,h∈s.pools->8<=h.n/\h.n<=30)(h6:s.pools.length<=6)(h24:s.nets.length<=24)(h40:s.leases.length<=40)(h8:s.toks.length<=8)(hT:∀ x,x∈s.toks->xW x):bE bk0 (eh s)=some s:=by
 unfold eh bW;show bE ⟨[],[],[],[]⟩ _=_
 rw[List.append_assoc,List.append_assoc,fk _ _ _ _ (AQ G h30 h6 s.pools [] rfl),fk _ _ _ _ (CH G h24 s.nets [] rfl),fk _ _ _ _ (w8 G h40 s.leases [] rfl)];exact Ce s.toks [] hT (by simpa using h8)
end
end Go.Proofs.YtjnhhnbgjjkkjaaGreatDoor
