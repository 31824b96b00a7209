/-
  TextCodeB, TextCodeC, BkSp, TextBack, BkRd, BkTold, BkNm, BkAg, BkSr, SnA, BkFill, BkFillB, BkLease
-/
import Derived.Test.YtjnhhnbgjjkkjaaGreatDoorBesidesPAA
import Derived.Test.YtjnhhnbgjjkkjaaGreatDoorBesidesPAY
import Derived.Test.YtjnhhnbgjjkkjaaGreatDoorBesidesPAX
import Derived.Test.YtjnhhnbgjjkkjaaGreatDoorBesidesPAD
import Derived.Test.YtjnhhnbgjjkkjaaGreatDoorBesidesPAC
namespace Go.Proofs.YtjnhhnbgjjkkjaaGreatDoor
open Go.ChangeShapes Go.WideShapes Go.ChangeAt Go.RowKit
set_option linter.unusedVariables false
set_option linter.unusedSimpArgs false
def aB (l:List UInt8):Int:=match addr l with|some a=>(a:Int)|none=>0
def aOk (l:List UInt8):Bool:=(addr l).isSome
theorem a_none {l:List UInt8} (h:addr l=none):aB l=0/\aOk l=false:=by simp[aB,aOk,h]
theorem a_some {l:List UInt8} {a:Nat} (h:addr l=some a):aB l=a/\aOk l=true:=by simp[aB,aOk,h]
theorem addr_off' {l:List UInt8} (h:(parts 46 l).length≠4):addr l=none:=by
  rcases addrI_cases l with⟨_,e⟩|⟨a,e,_⟩
  . exact e
  . have:=addr_off h;omega
theorem splitn_any (s:ByteArray) (w:World) (E:Env w) (hs:s.size<=2097152) :
    Calls Tryz.prog 199 #[.string s,.string ⟨#[46]⟩,.int .i64 5] w fun e w'=>∃ (n cap:Nat) (P:Nat->ByteArray),
      e=.returned (.slice (some ⟨w.heap.size,0,none⟩) n cap)/\n<=cap/\cap<=5/\(n=4 ↔ (parts 46 s.data.toList).length=4)/\(n=4->∀ j,j<4->w'.cell? ⟨w.heap.size,j,none⟩=some (.string (P j))/\P j=bs ((parts 46 s.data.toList).getD j []))/\w.heap.size<w'.heap.size/\Below w.heap.size w w':=by
  obtain⟨m,hm⟩:=E.mx;refine(Tryz.strings_SplitN s ⟨#[46]⟩ 5 m w om hm (by decide) om om).mono ?_
  rintro e w' ⟨rfl,rfl⟩
  have hd:=Lib.splitB_data ⟨#[46]⟩ 0 (min 5 (s.size+1)-1) s
  have hlen:=Lib.splitB_length_le ⟨#[46]⟩ 0 (min 5 (s.size+1)-1) s
  obtain⟨L,hL⟩:∃ L,L=Lib.splitB ⟨#[46]⟩ 0 (min 5 (s.size+1)-1) s:=⟨_,rfl⟩
  rw[<- hL] at hd hlen ⊢;rw[show (⟨#[46]⟩:ByteArray).data.toList=[46] from rfl,Lib.size_eq s] at hd;obtain⟨f1,f2⟩:=split_five s.data.toList;rw[<- hd] at f1 f2;refine⟨L.length,_,fun j=>L.getD j ByteArray.empty,rfl,by omega,by omega,by simpa using f1,?_,by simp,(Below.refl _ _).alloc (Nat.le_refl _) _⟩
  intro h4 j hj;have hj':j<L.length:=by omega
  refine⟨?_,?_⟩
  . rw[World.cell?_alloc_at _ _ _ _ rfl];unfold Lib.cellsOf;simp[List.getElem?_append,hj',List.getD,List.getElem?_eq_getElem hj']
  . rw[<- f2 (f1.1 (by simpa using h4))]
    simp[List.getD,List.getElem?_eq_getElem hj']
    exact(bs_of _).symm
theorem shl_or (a x:Int) (h0:0<=a) (h1:a<16777216) (x0:0<=x) (x1:x<=255):bits .or .u32 (a*256) x=256*a+x:=by
  rw[u32_or (a*256) x om om x0 om,nat_join 8 _ _ om om];omega
theorem acc_lt {l:List UInt8} {a:Int} {k:Nat} (ha:a=acc (fun j=>numI ((parts 46 l).getD j []) 255) k) (hk:k<4) (h:∀ j,j<k->num ((parts 46 l).getD j []) 255≠none):a<16777216:=by
  have hbd:=acc_bd (fun j=>numI ((parts 46 l).getD j []) 255) k om (fun j hj=>by
    rcases numI_cases ((parts 46 l).getD j []) 255 with⟨_,e⟩|⟨n,e,h',_⟩
    . exact absurd e (h j hj)
    . simp only[e];omega)
  have hpw:(256:Int)^k<=16777216:=by
    have:k=0\/k=1\/k=2\/k=3:=by omega
    rcases this with rfl|rfl|rfl|rfl<;>decide
  rw[ha];omega
set_option maxRecDepth 1000000 in
set_option maxHeartbeats 1000000 in
theorem ra_any (s:ByteArray) (w:World) (E0:Env w) (hs:s.size<=2097152) :
    Calls Tryz.prog 144 #[.string s] w fun e w'=>e=.returned (.tuple #[.int .u32 (aB s.data.toList),.bool (aOk s.data.toList)])/\Below w.heap.size w w':=by
  have E:Hid (Env w):=E0
  clear E0;by_cases h4:(parts 46 s.data.toList).length=4
  . go_enter Tryz.func144,Tryz.ntmps144
    go_wp2_with (go_at_call 199;refine(splitn_any s _ E.out hs).mono ?_;rintro e w1 ⟨n,cap,P,rfl,hnc,hcap,hn4,hcell,hsz1,hb1⟩;obtain rfl:=hn4.2 h4;have HX:Hid (∀ j,j<4->w1.cell? ⟨w.heap.size,j,none⟩=some (.string (P j))/\P j=bs ((parts 46 s.data.toList).getD j [])):=hcell rfl;clear hcell hn4)
    go_loopw [5,17] (fun t i wr=>∃ (k:Nat) (a:Int),k<=4/\0<=a/\a<4294967296/\i=.int .i64 k/\t=.int .u32 a/\Below w1.heap.size w1 wr/\Hid (a=acc (fun j=>numI ((parts 46 s.data.toList).getD j []) 255) k/\(∀ j,j<k->num ((parts 46 s.data.toList).getD j []) 255≠none))) (fun _ i _=>4-(intOf i).toNat)
    case atStart=>exact⟨0,0,by omega,by omega,by omega,rfl,rfl,Below.refl _ _,rfl,fun j hj=>by omega⟩
    case round =>
      obtain⟨k,a,hk,a0,a1,rfl,rfl,hb,H⟩:=hrel;by_cases hlt:k<4
      . have ha2:a<16777216:=acc_lt H.out.1 hlt H.out.2
        have hce:wr.cell? ⟨w.heap.size,k,none⟩=some (.string (P k)):=bcell' hb hsz1 (HX.out k hlt).1
        have E1:Hid (Env wr):=(E.out.mono hb1).mono hb
        have hPs:(P k).size<=2097152:=by
          rw[(HX.out k hlt).2,bs_size];have:=part_len 46 s.data.toList k
          have:=Lib.size_eq s
          omega
        have hPd:(P k).data.toList=(parts 46 s.data.toList).getD k []:=by rw[(HX.out k hlt).2,bs_data]
        rcases hnum:num ((parts 46 s.data.toList).getD k []) 255 with _|n
        . have hn:Hid (Calls Tryz.prog 200 #[.string (P k),.int .i64 255] wr fun e w'=>e=.returned (.tuple #[.int .i64 0,.bool false])/\Below wr.heap.size wr w'):=by
            have h:=rn_any (P k) 255 wr E1.out hPs om om
            rw[hPd] at h;obtain⟨q1,q2⟩:=n_none hnum;rw[show (255:Int).toNat=255 from rfl,q1,q2] at h;exact h
          have hno:Hid (addr s.data.toList=none):=by
            rcases addrI_cases s.data.toList with⟨_,e⟩|⟨x,e,_⟩
            . exact e
            . have:=addr_bad h4 hlt hnum;omega
          clear hnum hPd;go_wp2_with (go_at_call 200;refine hn.out.mono ?_;rintro e w2 ⟨rfl,hb2⟩)
          go_ret2
          obtain⟨q1,q2⟩:=a_none hno.out;rw[q1,q2];exact⟨rfl,(hb1.trans (hb.mono (Nat.le_of_lt hsz1))).trans (hb2.mono (Nat.le_trans (Nat.le_of_lt hsz1) hb.size))⟩
        . have hnx:n<=255:=(num_some.1 hnum).1
          obtain⟨x,hx⟩:∃ x:Int,x=n:=⟨_,rfl⟩
          have x0:0<=x:=by omega
          have x1:x<=255:=by omega
          have hn:Hid (Calls Tryz.prog 200 #[.string (P k),.int .i64 255] wr fun e w'=>e=.returned (.tuple #[.int .i64 x,.bool true])/\Below wr.heap.size wr w'):=by
            have h:=rn_any (P k) 255 wr E1.out hPs om om
            rw[hPd] at h;obtain⟨q1,q2⟩:=n_some hnum;rw[show (255:Int).toNat=255 from rfl,q1,q2,<- hx] at h;exact h
          have H2:Hid (256*a+x=acc (fun j=>numI ((parts 46 s.data.toList).getD j []) 255) (k+1)/\(∀ j,j<k+1->num ((parts 46 s.data.toList).getD j []) 255≠none)):=by
            refine⟨?_,fun j hj=>?_⟩
            . rw[acc,<- H.out.1];simp only[numI,hnum];omega
            . by_cases e:j<k
              . exact H.out.2 j e
              . obtain rfl:j=k:=by omega
                rw[hnum];simp
          have hor:=shl_or a x a0 ha2 x0 x1;clear hnum hPd hx hnx H;go_wp2_with (go_at_call 200;refine hn.out.mono ?_;rintro e w2 ⟨rfl,hb2⟩)
          go_roundw
          case rel=>exact⟨k+1,256*a+x,by omega,by omega,by omega,by go_num,rfl,hb.trans (hb2.mono hb.size),H2⟩
          case measure=>simp[intOf];omega
      . obtain rfl:k=4:=by omega
        go_wp2;go_ret2
        have hg:=addr_good h4 H.out.2;rw[<- H.out.1] at hg;have hs4:addr s.data.toList=some a.toNat:=by
          rcases addrI_cases s.data.toList with⟨e,_⟩|⟨x,e,e2⟩
          . omega
          . rw[e2];congr 1;omega
        obtain⟨q1,q2⟩:=a_some hs4;rw[q1,q2,show ((a.toNat:Nat):Int)=a by omega]
        exact⟨rfl,hb1.trans (hb.mono (Nat.le_of_lt hsz1))⟩
  . obtain⟨q1,q2⟩:=a_none (addr_off' h4)
    rw[q1,q2];clear q1 q2;go_enter Tryz.func144,Tryz.ntmps144
    go_wp2_with (go_at_call 199;refine(splitn_any s _ E.out hs).mono ?_;rintro e w1 ⟨n,cap,P,rfl,hnc,hcap,hn4,hcell,hsz1,hb1⟩;have hne:((n:Int)==4)=false:=(by simp;intro e;exact h4 (hn4.1 om));clear hcell hn4)
    go_ret2
    exact⟨rfl,hb1⟩
theorem drew_below {w w':World} (h:∃ n,w'=w.drewN n):Below w.heap.size w w':=by
  obtain⟨n,rfl⟩:=h;exact below_drewN (Below.refl _ _) n
theorem cut_any (s:ByteArray) (w:World) (E:Env w) (hs:s.size<=2097152) (a b:List UInt8) (f:Bool) (h:Lib.cut s.data.toList [47]=(a,b,f)) :
    Calls Tryz.prog 87 #[.string s,.string ⟨#[47]⟩] w fun e w'=>e=.returned (.tuple #[.string (bs a),.string (bs b),.bool f])/\Below w.heap.size w w':=by
  obtain⟨m,hm⟩:=E.mx;refine(Tryz.strings_Cut s ⟨#[47]⟩ m w om hm).mono ?_
  rintro e w' ⟨rfl,hd⟩
  rw[show (⟨#[47]⟩:ByteArray).data.toList=[47] from rfl,h];exact⟨rfl,drew_below hd⟩
theorem rd_noslash {l:List UInt8} (h:47∉l):rd l=none:=rd_off (by rw[parts_none 47 l h];simp)
theorem rd_cut {a b:List UInt8} (h:47∉a):rd (a++47::b)=(match addr a,num b 32 with
    | some x,some n=>if rt x n then some ((x:Int),(n:Int)) else none
    | _,_=>none):=by
  rcases first_cut 47 b with hb|⟨c,d,rfl,hc⟩
  . have hp:parts 47 (a++47::b)=[a,b]:=by rw[parts_cons 47 a b h,parts_none 47 b hb]
    unfold rd;rw[hp];rfl
  . have hn:num (c++47::d) 32=none:=num_none.2 fun n hn e=>by
      have:=dec_no 47 (by decide) n
      rw[e] at this;simp at this
    rw[hn];have hoff:rd (a++47::(c++47::d))=none:=rd_off (by
      rw[parts_cons 47 a _ h,parts_cons 47 c d hc];have:=parts_pos 47 d
      rw[List.length_cons,List.length_cons];omega)
    rw[hoff]
    cases addr a<;>rfl
set_option maxRecDepth 1000000 in
set_option maxHeartbeats 1000000 in
theorem bread_none (s:ByteArray) (w:World) (t0 t1:ByteArray) (f okA okN:Bool) (x y:Int) (E:Hid (Env w))
    (cc:Hid (∀ w,Env w->Calls Tryz.prog 87 #[.string s,.string ⟨#[47]⟩] w fun e w'=>e=.returned (.tuple #[.string t0,.string t1,.bool f])/\Below w.heap.size w w'))
    (ca:Hid (∀ w,Env w->Calls Tryz.prog 144 #[.string t0] w fun e w'=>e=.returned (.tuple #[.int .u32 x,.bool okA])/\Below w.heap.size w w'))
    (cn:Hid (∀ w,Env w->Calls Tryz.prog 145 #[.string t1] w fun e w'=>e=.returned (.tuple #[.int .i64 y,.bool okN])/\Below w.heap.size w w')) (h:f=false) :
    Calls Tryz.prog 143 #[.string s] w fun e w'=>e=.returned (.tuple #[.agg #[.int .u32 (0),.int .i64 (0)],.int .i64 (1)])/\Below w.heap.size w w':=by
  go_enter Tryz.func143,Tryz.ntmps143
  go_wp2_with (first|(go_at_call 87;refine(cc.out _ (E.out.mono upB)).mono ?_;rintro e w1 ⟨rfl,hb1⟩;obtain⟨hc,hf⟩:=bcell hb1;have c1_0_0:w1.cell? ⟨w.heap.size,0,none⟩=some (.int .u32 0):=((hc _ _ byO).trans byC);have f1_0_0:w1.frozen? ⟨w.heap.size,0,none⟩=false:=((hf _ _ byO).trans byF);have c1_0_1:w1.cell? ⟨w.heap.size,1,none⟩=some (.int .i64 0):=((hc _ _ byO).trans byC);have f1_0_1:w1.frozen? ⟨w.heap.size,1,none⟩=false:=((hf _ _ byO).trans byF);have z1_0:w.heap.size<w1.heap.size:=(by have:=hb1.size;(try simp at this);omega);clear hc hf;have E1:Hid (Env w1):=(E.out.mono upB).mono hb1)|(go_at_call 144;refine(ca.out _ E1.out).mono ?_;rintro e w2 ⟨rfl,hb2⟩;obtain⟨hc,hf⟩:=bcell hb2;have c2_0_0:w2.cell? ⟨w.heap.size,0,none⟩=some (.int .u32 0):=((hc _ _ byO).trans byC);have f2_0_0:w2.frozen? ⟨w.heap.size,0,none⟩=false:=((hf _ _ byO).trans byF);have c2_0_1:w2.cell? ⟨w.heap.size,1,none⟩=some (.int .i64 0):=((hc _ _ byO).trans byC);have f2_0_1:w2.frozen? ⟨w.heap.size,1,none⟩=false:=((hf _ _ byO).trans byF);have z2_0:w.heap.size<w2.heap.size:=(by have:=hb2.size;(try simp at this);omega);clear hc hf;have E2:Hid (Env w2):=E1.out.mono hb2;clear c1_0_0 c1_0_1 f1_0_0 f1_0_1 z1_0)|(go_at_call 145;refine(cn.out _ E2.out).mono ?_;rintro e w3 ⟨rfl,hb3⟩;obtain⟨hc,hf⟩:=bcell hb3;have c3_0_0:w3.cell? ⟨w.heap.size,0,none⟩=some (.int .u32 0):=((hc _ _ byO).trans byC);have f3_0_0:w3.frozen? ⟨w.heap.size,0,none⟩=false:=((hf _ _ byO).trans byF);have c3_0_1:w3.cell? ⟨w.heap.size,1,none⟩=some (.int .i64 0):=((hc _ _ byO).trans byC);have f3_0_1:w3.frozen? ⟨w.heap.size,1,none⟩=false:=((hf _ _ byO).trans byF);have z3_0:w.heap.size<w3.heap.size:=(by have:=hb3.size;(try simp at this);omega);clear hc hf;clear c2_0_0 c2_0_1 f2_0_0 f2_0_1 z2_0))
  exact bodyPost_ret (v:=.tuple #[.agg #[.int .u32 (0),.int .i64 (0)],.int .i64 (1)]) (by simp[results,Tryz.results143,go_sem,c3_0_0,c3_0_1,f3_0_0,f3_0_1,World.cell?_alloc_lt,z3_0,Nat.lt_succ_of_lt z3_0]) rfl ⟨rfl,(by have hq:=hb1.mono (B':=w.heap.size) byO;have hq2:=Below.trans (B:=w.heap.size) (a:=w) upB hq;clear hq;have s1:=hq2.size;have hq3:=Below.trans (B:=w.heap.size) (a:=w) upB (hb2.mono (B':=w.heap.size) byO);have s2:=hq3.size;clear hq2;have hq4:=Below.trans (B:=w.heap.size) (a:=w) upB (hb3.mono (B':=w.heap.size) byO);have s3:=hq4.size;clear hq3;exact upB)⟩
set_option maxRecDepth 1000000 in
set_option maxHeartbeats 1000000 in
theorem bread_addr (s:ByteArray) (w:World) (t0 t1:ByteArray) (f okA okN:Bool) (x y:Int) (E:Hid (Env w))
    (cc:Hid (∀ w,Env w->Calls Tryz.prog 87 #[.string s,.string ⟨#[47]⟩] w fun e w'=>e=.returned (.tuple #[.string t0,.string t1,.bool f])/\Below w.heap.size w w'))
    (ca:Hid (∀ w,Env w->Calls Tryz.prog 144 #[.string t0] w fun e w'=>e=.returned (.tuple #[.int .u32 x,.bool okA])/\Below w.heap.size w w'))
    (cn:Hid (∀ w,Env w->Calls Tryz.prog 145 #[.string t1] w fun e w'=>e=.returned (.tuple #[.int .i64 y,.bool okN])/\Below w.heap.size w w')) (h:f=true) (ha:okA=false) :
    Calls Tryz.prog 143 #[.string s] w fun e w'=>e=.returned (.tuple #[.agg #[.int .u32 (0),.int .i64 (0)],.int .i64 (1)])/\Below w.heap.size w w':=by
  go_enter Tryz.func143,Tryz.ntmps143
  go_wp2_with (first|(go_at_call 87;refine(cc.out _ (E.out.mono upB)).mono ?_;rintro e w1 ⟨rfl,hb1⟩;obtain⟨hc,hf⟩:=bcell hb1;have c1_0_0:w1.cell? ⟨w.heap.size,0,none⟩=some (.int .u32 0):=((hc _ _ byO).trans byC);have f1_0_0:w1.frozen? ⟨w.heap.size,0,none⟩=false:=((hf _ _ byO).trans byF);have c1_0_1:w1.cell? ⟨w.heap.size,1,none⟩=some (.int .i64 0):=((hc _ _ byO).trans byC);have f1_0_1:w1.frozen? ⟨w.heap.size,1,none⟩=false:=((hf _ _ byO).trans byF);have z1_0:w.heap.size<w1.heap.size:=(by have:=hb1.size;(try simp at this);omega);clear hc hf;have E1:Hid (Env w1):=(E.out.mono upB).mono hb1)|(go_at_call 144;refine(ca.out _ E1.out).mono ?_;rintro e w2 ⟨rfl,hb2⟩;obtain⟨hc,hf⟩:=bcell hb2;have c2_0_0:w2.cell? ⟨w.heap.size,0,none⟩=some (.int .u32 0):=((hc _ _ byO).trans byC);have f2_0_0:w2.frozen? ⟨w.heap.size,0,none⟩=false:=((hf _ _ byO).trans byF);have c2_0_1:w2.cell? ⟨w.heap.size,1,none⟩=some (.int .i64 0):=((hc _ _ byO).trans byC);have f2_0_1:w2.frozen? ⟨w.heap.size,1,none⟩=false:=((hf _ _ byO).trans byF);have z2_0:w.heap.size<w2.heap.size:=(by have:=hb2.size;(try simp at this);omega);clear hc hf;have E2:Hid (Env w2):=E1.out.mono hb2;clear c1_0_0 c1_0_1 f1_0_0 f1_0_1 z1_0)|(go_at_call 145;refine(cn.out _ E2.out).mono ?_;rintro e w3 ⟨rfl,hb3⟩;obtain⟨hc,hf⟩:=bcell hb3;have c3_0_0:w3.cell? ⟨w.heap.size,0,none⟩=some (.int .u32 0):=((hc _ _ byO).trans byC);have f3_0_0:w3.frozen? ⟨w.heap.size,0,none⟩=false:=((hf _ _ byO).trans byF);have c3_0_1:w3.cell? ⟨w.heap.size,1,none⟩=some (.int .i64 0):=((hc _ _ byO).trans byC);have f3_0_1:w3.frozen? ⟨w.heap.size,1,none⟩=false:=((hf _ _ byO).trans byF);have z3_0:w.heap.size<w3.heap.size:=(by have:=hb3.size;(try simp at this);omega);clear hc hf;clear c2_0_0 c2_0_1 f2_0_0 f2_0_1 z2_0))
  exact bodyPost_ret (v:=.tuple #[.agg #[.int .u32 (0),.int .i64 (0)],.int .i64 (1)]) (by simp[results,Tryz.results143,go_sem,c3_0_0,c3_0_1,f3_0_0,f3_0_1,World.cell?_alloc_lt,z3_0,Nat.lt_succ_of_lt z3_0]) rfl ⟨rfl,(by have hq:=hb1.mono (B':=w.heap.size) byO;have hq2:=Below.trans (B:=w.heap.size) (a:=w) upB hq;clear hq;have s1:=hq2.size;have hq3:=Below.trans (B:=w.heap.size) (a:=w) upB (hb2.mono (B':=w.heap.size) byO);have s2:=hq3.size;clear hq2;have hq4:=Below.trans (B:=w.heap.size) (a:=w) upB (hb3.mono (B':=w.heap.size) byO);have s3:=hq4.size;clear hq3;exact upB)⟩
set_option maxRecDepth 1000000 in
set_option maxHeartbeats 1000000 in
theorem bread_num (s:ByteArray) (w:World) (t0 t1:ByteArray) (f okA okN:Bool) (x y:Int) (E:Hid (Env w))
    (cc:Hid (∀ w,Env w->Calls Tryz.prog 87 #[.string s,.string ⟨#[47]⟩] w fun e w'=>e=.returned (.tuple #[.string t0,.string t1,.bool f])/\Below w.heap.size w w'))
    (ca:Hid (∀ w,Env w->Calls Tryz.prog 144 #[.string t0] w fun e w'=>e=.returned (.tuple #[.int .u32 x,.bool okA])/\Below w.heap.size w w'))
    (cn:Hid (∀ w,Env w->Calls Tryz.prog 145 #[.string t1] w fun e w'=>e=.returned (.tuple #[.int .i64 y,.bool okN])/\Below w.heap.size w w')) (h:f=true) (ha:okA=true) (hn:okN=false) :
    Calls Tryz.prog 143 #[.string s] w fun e w'=>e=.returned (.tuple #[.agg #[.int .u32 (0),.int .i64 (0)],.int .i64 (1)])/\Below w.heap.size w w':=by
  go_enter Tryz.func143,Tryz.ntmps143
  go_wp2_with (first|(go_at_call 87;refine(cc.out _ (E.out.mono upB)).mono ?_;rintro e w1 ⟨rfl,hb1⟩;obtain⟨hc,hf⟩:=bcell hb1;have c1_0_0:w1.cell? ⟨w.heap.size,0,none⟩=some (.int .u32 0):=((hc _ _ byO).trans byC);have f1_0_0:w1.frozen? ⟨w.heap.size,0,none⟩=false:=((hf _ _ byO).trans byF);have c1_0_1:w1.cell? ⟨w.heap.size,1,none⟩=some (.int .i64 0):=((hc _ _ byO).trans byC);have f1_0_1:w1.frozen? ⟨w.heap.size,1,none⟩=false:=((hf _ _ byO).trans byF);have z1_0:w.heap.size<w1.heap.size:=(by have:=hb1.size;(try simp at this);omega);clear hc hf;have E1:Hid (Env w1):=(E.out.mono upB).mono hb1)|(go_at_call 144;refine(ca.out _ E1.out).mono ?_;rintro e w2 ⟨rfl,hb2⟩;obtain⟨hc,hf⟩:=bcell hb2;have c2_0_0:w2.cell? ⟨w.heap.size,0,none⟩=some (.int .u32 0):=((hc _ _ byO).trans byC);have f2_0_0:w2.frozen? ⟨w.heap.size,0,none⟩=false:=((hf _ _ byO).trans byF);have c2_0_1:w2.cell? ⟨w.heap.size,1,none⟩=some (.int .i64 0):=((hc _ _ byO).trans byC);have f2_0_1:w2.frozen? ⟨w.heap.size,1,none⟩=false:=((hf _ _ byO).trans byF);have z2_0:w.heap.size<w2.heap.size:=(by have:=hb2.size;(try simp at this);omega);clear hc hf;have E2:Hid (Env w2):=E1.out.mono hb2;clear c1_0_0 c1_0_1 f1_0_0 f1_0_1 z1_0)|(go_at_call 145;refine(cn.out _ E2.out).mono ?_;rintro e w3 ⟨rfl,hb3⟩;obtain⟨hc,hf⟩:=bcell hb3;have c3_0_0:w3.cell? ⟨w.heap.size,0,none⟩=some (.int .u32 0):=((hc _ _ byO).trans byC);have f3_0_0:w3.frozen? ⟨w.heap.size,0,none⟩=false:=((hf _ _ byO).trans byF);have c3_0_1:w3.cell? ⟨w.heap.size,1,none⟩=some (.int .i64 0):=((hc _ _ byO).trans byC);have f3_0_1:w3.frozen? ⟨w.heap.size,1,none⟩=false:=((hf _ _ byO).trans byF);have z3_0:w.heap.size<w3.heap.size:=(by have:=hb3.size;(try simp at this);omega);clear hc hf;clear c2_0_0 c2_0_1 f2_0_0 f2_0_1 z2_0))
  exact bodyPost_ret (v:=.tuple #[.agg #[.int .u32 (0),.int .i64 (0)],.int .i64 (1)]) (by simp[results,Tryz.results143,go_sem,c3_0_0,c3_0_1,f3_0_0,f3_0_1,World.cell?_alloc_lt,z3_0,Nat.lt_succ_of_lt z3_0]) rfl ⟨rfl,(by have hq:=hb1.mono (B':=w.heap.size) byO;have hq2:=Below.trans (B:=w.heap.size) (a:=w) upB hq;clear hq;have s1:=hq2.size;have hq3:=Below.trans (B:=w.heap.size) (a:=w) upB (hb2.mono (B':=w.heap.size) byO);have s2:=hq3.size;clear hq2;have hq4:=Below.trans (B:=w.heap.size) (a:=w) upB (hb3.mono (B':=w.heap.size) byO);have s3:=hq4.size;clear hq3;exact upB)⟩
set_option maxRecDepth 1000000 in
set_option maxHeartbeats 1000000 in
theorem bread_not (s:ByteArray) (w:World) (t0 t1:ByteArray) (f okA okN:Bool) (x y:Int) (E:Hid (Env w))
    (cc:Hid (∀ w,Env w->Calls Tryz.prog 87 #[.string s,.string ⟨#[47]⟩] w fun e w'=>e=.returned (.tuple #[.string t0,.string t1,.bool f])/\Below w.heap.size w w'))
    (ca:Hid (∀ w,Env w->Calls Tryz.prog 144 #[.string t0] w fun e w'=>e=.returned (.tuple #[.int .u32 x,.bool okA])/\Below w.heap.size w w'))
    (cn:Hid (∀ w,Env w->Calls Tryz.prog 145 #[.string t1] w fun e w'=>e=.returned (.tuple #[.int .i64 y,.bool okN])/\Below w.heap.size w w')) (h:f=true) (ha:okA=true) (hn:okN=true) (x0:0<=x) (x1:x<4294967296) (hr:rt x y=false) :
    Calls Tryz.prog 143 #[.string s] w fun e w'=>e=.returned (.tuple #[.agg #[.int .u32 (0),.int .i64 (0)],.int .i64 (1)])/\Below w.heap.size w w':=by
  go_enter Tryz.func143,Tryz.ntmps143
  go_wp2_with (first|(go_at_call 87;refine(cc.out _ (E.out.mono upB)).mono ?_;rintro e w1 ⟨rfl,hb1⟩;obtain⟨hc,hf⟩:=bcell hb1;have c1_0_0:w1.cell? ⟨w.heap.size,0,none⟩=some (.int .u32 0):=((hc _ _ byO).trans byC);have f1_0_0:w1.frozen? ⟨w.heap.size,0,none⟩=false:=((hf _ _ byO).trans byF);have c1_0_1:w1.cell? ⟨w.heap.size,1,none⟩=some (.int .i64 0):=((hc _ _ byO).trans byC);have f1_0_1:w1.frozen? ⟨w.heap.size,1,none⟩=false:=((hf _ _ byO).trans byF);have z1_0:w.heap.size<w1.heap.size:=(by have:=hb1.size;(try simp at this);omega);clear hc hf;have E1:Hid (Env w1):=(E.out.mono upB).mono hb1)|(go_at_call 144;refine(ca.out _ E1.out).mono ?_;rintro e w2 ⟨rfl,hb2⟩;obtain⟨hc,hf⟩:=bcell hb2;have c2_0_0:w2.cell? ⟨w.heap.size,0,none⟩=some (.int .u32 0):=((hc _ _ byO).trans byC);have f2_0_0:w2.frozen? ⟨w.heap.size,0,none⟩=false:=((hf _ _ byO).trans byF);have c2_0_1:w2.cell? ⟨w.heap.size,1,none⟩=some (.int .i64 0):=((hc _ _ byO).trans byC);have f2_0_1:w2.frozen? ⟨w.heap.size,1,none⟩=false:=((hf _ _ byO).trans byF);have z2_0:w.heap.size<w2.heap.size:=(by have:=hb2.size;(try simp at this);omega);clear hc hf;have E2:Hid (Env w2):=E1.out.mono hb2;clear c1_0_0 c1_0_1 f1_0_0 f1_0_1 z1_0)|(go_at_call 145;refine(cn.out _ E2.out).mono ?_;rintro e w3 ⟨rfl,hb3⟩;obtain⟨hc,hf⟩:=bcell hb3;have c3_0_0:w3.cell? ⟨w.heap.size,0,none⟩=some (.int .u32 0):=((hc _ _ byO).trans byC);have f3_0_0:w3.frozen? ⟨w.heap.size,0,none⟩=false:=((hf _ _ byO).trans byF);have c3_0_1:w3.cell? ⟨w.heap.size,1,none⟩=some (.int .i64 0):=((hc _ _ byO).trans byC);have f3_0_1:w3.frozen? ⟨w.heap.size,1,none⟩=false:=((hf _ _ byO).trans byF);have z3_0:w.heap.size<w3.heap.size:=(by have:=hb3.size;(try simp at this);omega);clear hc hf;clear c2_0_0 c2_0_1 f2_0_0 f2_0_1 z2_0)|(go_at_call 198;refine(right_any _ _ _ x0 x1).mono ?_;rintro e w4 ⟨rfl,hb4⟩;obtain⟨hc,hf⟩:=bcell hb4;have c4_0_0:w4.cell? ⟨w.heap.size,0,none⟩=some (.int .u32 0):=((hc _ _ byO).trans byC);have f4_0_0:w4.frozen? ⟨w.heap.size,0,none⟩=false:=((hf _ _ byO).trans byF);have c4_0_1:w4.cell? ⟨w.heap.size,1,none⟩=some (.int .i64 0):=((hc _ _ byO).trans byC);have f4_0_1:w4.frozen? ⟨w.heap.size,1,none⟩=false:=((hf _ _ byO).trans byF);have c4_1_0:w4.cell? ⟨w3.heap.size,0,none⟩=some (.int .u32 x):=((hc _ _ byO).trans byC);have c4_1_1:w4.cell? ⟨w3.heap.size,1,none⟩=some (.int .i64 y):=((hc _ _ byO).trans byC);have z4_0:w.heap.size<w4.heap.size:=(by have:=hb4.size;(try simp at this);omega);have z4_1:w3.heap.size<w4.heap.size:=(by have:=hb4.size;(try simp at this);omega);clear hc hf;clear c3_0_0 c3_0_1 f3_0_0 f3_0_1 z3_0))
  exact bodyPost_ret (v:=.tuple #[.agg #[.int .u32 (0),.int .i64 (0)],.int .i64 (1)]) (by simp[results,Tryz.results143,go_sem,c4_0_0,c4_0_1,f4_0_0,f4_0_1,World.cell?_alloc_lt,z4_0,Nat.lt_succ_of_lt z4_0]) rfl ⟨rfl,(by have hq:=hb1.mono (B':=w.heap.size) byO;have hq2:=Below.trans (B:=w.heap.size) (a:=w) upB hq;clear hq;have s1:=hq2.size;have hq3:=Below.trans (B:=w.heap.size) (a:=w) upB (hb2.mono (B':=w.heap.size) byO);have s2:=hq3.size;clear hq2;have hq4:=Below.trans (B:=w.heap.size) (a:=w) upB (hb3.mono (B':=w.heap.size) byO);have s3:=hq4.size;clear hq3;have hq5:=Below.trans (B:=w.heap.size) (a:=w) upB (hb4.mono (B':=w.heap.size) byO);have s4:=hq5.size;clear hq4;exact upB)⟩
set_option maxRecDepth 1000000 in
set_option maxHeartbeats 1000000 in
theorem bread_ok (s:ByteArray) (w:World) (t0 t1:ByteArray) (f okA okN:Bool) (x y:Int) (E:Hid (Env w))
    (cc:Hid (∀ w,Env w->Calls Tryz.prog 87 #[.string s,.string ⟨#[47]⟩] w fun e w'=>e=.returned (.tuple #[.string t0,.string t1,.bool f])/\Below w.heap.size w w'))
    (ca:Hid (∀ w,Env w->Calls Tryz.prog 144 #[.string t0] w fun e w'=>e=.returned (.tuple #[.int .u32 x,.bool okA])/\Below w.heap.size w w'))
    (cn:Hid (∀ w,Env w->Calls Tryz.prog 145 #[.string t1] w fun e w'=>e=.returned (.tuple #[.int .i64 y,.bool okN])/\Below w.heap.size w w')) (h:f=true) (ha:okA=true) (hn:okN=true) (x0:0<=x) (x1:x<4294967296) (hr:rt x y=true) :
    Calls Tryz.prog 143 #[.string s] w fun e w'=>e=.returned (.tuple #[.agg #[.int .u32 (x),.int .i64 (y)],.int .i64 (0)])/\Below w.heap.size w w':=by
  go_enter Tryz.func143,Tryz.ntmps143
  go_wp2_with (first|(go_at_call 87;refine(cc.out _ (E.out.mono upB)).mono ?_;rintro e w1 ⟨rfl,hb1⟩;obtain⟨hc,hf⟩:=bcell hb1;have c1_0_0:w1.cell? ⟨w.heap.size,0,none⟩=some (.int .u32 0):=((hc _ _ byO).trans byC);have f1_0_0:w1.frozen? ⟨w.heap.size,0,none⟩=false:=((hf _ _ byO).trans byF);have c1_0_1:w1.cell? ⟨w.heap.size,1,none⟩=some (.int .i64 0):=((hc _ _ byO).trans byC);have f1_0_1:w1.frozen? ⟨w.heap.size,1,none⟩=false:=((hf _ _ byO).trans byF);have z1_0:w.heap.size<w1.heap.size:=(by have:=hb1.size;(try simp at this);omega);clear hc hf;have E1:Hid (Env w1):=(E.out.mono upB).mono hb1)|(go_at_call 144;refine(ca.out _ E1.out).mono ?_;rintro e w2 ⟨rfl,hb2⟩;obtain⟨hc,hf⟩:=bcell hb2;have c2_0_0:w2.cell? ⟨w.heap.size,0,none⟩=some (.int .u32 0):=((hc _ _ byO).trans byC);have f2_0_0:w2.frozen? ⟨w.heap.size,0,none⟩=false:=((hf _ _ byO).trans byF);have c2_0_1:w2.cell? ⟨w.heap.size,1,none⟩=some (.int .i64 0):=((hc _ _ byO).trans byC);have f2_0_1:w2.frozen? ⟨w.heap.size,1,none⟩=false:=((hf _ _ byO).trans byF);have z2_0:w.heap.size<w2.heap.size:=(by have:=hb2.size;(try simp at this);omega);clear hc hf;have E2:Hid (Env w2):=E1.out.mono hb2;clear c1_0_0 c1_0_1 f1_0_0 f1_0_1 z1_0)|(go_at_call 145;refine(cn.out _ E2.out).mono ?_;rintro e w3 ⟨rfl,hb3⟩;obtain⟨hc,hf⟩:=bcell hb3;have c3_0_0:w3.cell? ⟨w.heap.size,0,none⟩=some (.int .u32 0):=((hc _ _ byO).trans byC);have f3_0_0:w3.frozen? ⟨w.heap.size,0,none⟩=false:=((hf _ _ byO).trans byF);have c3_0_1:w3.cell? ⟨w.heap.size,1,none⟩=some (.int .i64 0):=((hc _ _ byO).trans byC);have f3_0_1:w3.frozen? ⟨w.heap.size,1,none⟩=false:=((hf _ _ byO).trans byF);have z3_0:w.heap.size<w3.heap.size:=(by have:=hb3.size;(try simp at this);omega);clear hc hf;clear c2_0_0 c2_0_1 f2_0_0 f2_0_1 z2_0)|(go_at_call 198;refine(right_any _ _ _ x0 x1).mono ?_;rintro e w4 ⟨rfl,hb4⟩;obtain⟨hc,hf⟩:=bcell hb4;have c4_0_0:w4.cell? ⟨w.heap.size,0,none⟩=some (.int .u32 0):=((hc _ _ byO).trans byC);have f4_0_0:w4.frozen? ⟨w.heap.size,0,none⟩=false:=((hf _ _ byO).trans byF);have c4_0_1:w4.cell? ⟨w.heap.size,1,none⟩=some (.int .i64 0):=((hc _ _ byO).trans byC);have f4_0_1:w4.frozen? ⟨w.heap.size,1,none⟩=false:=((hf _ _ byO).trans byF);have c4_1_0:w4.cell? ⟨w3.heap.size,0,none⟩=some (.int .u32 x):=((hc _ _ byO).trans byC);have c4_1_1:w4.cell? ⟨w3.heap.size,1,none⟩=some (.int .i64 y):=((hc _ _ byO).trans byC);have z4_0:w.heap.size<w4.heap.size:=(by have:=hb4.size;(try simp at this);omega);have z4_1:w3.heap.size<w4.heap.size:=(by have:=hb4.size;(try simp at this);omega);clear hc hf;clear c3_0_0 c3_0_1 f3_0_0 f3_0_1 z3_0))
  exact bodyPost_ret (v:=.tuple #[.agg #[.int .u32 (x),.int .i64 (y)],.int .i64 (0)]) (by simp[results,Tryz.results143,go_sem,c4_0_0,c4_0_1,f4_0_0,f4_0_1,World.cell?_alloc_lt,z4_0,Nat.lt_succ_of_lt z4_0]) rfl ⟨rfl,(by have hq:=hb1.mono (B':=w.heap.size) byO;have hq2:=Below.trans (B:=w.heap.size) (a:=w) upB hq;clear hq;have s1:=hq2.size;have hq3:=Below.trans (B:=w.heap.size) (a:=w) upB (hb2.mono (B':=w.heap.size) byO);have s2:=hq3.size;clear hq2;have hq4:=Below.trans (B:=w.heap.size) (a:=w) upB (hb3.mono (B':=w.heap.size) byO);have s3:=hq4.size;clear hq3;have hq5:=Below.trans (B:=w.heap.size) (a:=w) upB (hb4.mono (B':=w.heap.size) byO);have s4:=hq5.size;clear hq4;exact upB)⟩
theorem bread_any (s:ByteArray) (w:World) (E:Env w) (hs:s.size<=2097152) :
    Calls Tryz.prog 143 #[.string s] w fun e w'=>e=.returned (.tuple #[.agg #[.int .u32 (rdB s.data.toList),.int .i64 (rdN s.data.toList)],.int .i64 (rdE s.data.toList)])/\Below w.heap.size w w':=by
  have hl:=Lib.size_eq s;have ca:∀ l:List UInt8,l.length<=s.size->∀ w,Env w->Calls Tryz.prog 144 #[.string (bs l)] w fun e w'=>e=.returned (.tuple #[.int .u32 (aB l),.bool (aOk l)])/\Below w.heap.size w w':=fun l h w E=>by
    have:=ra_any (bs l) w E (by rw[bs_size];omega)
    rw[bs_data] at this;exact this
  have cn:∀ l:List UInt8,l.length<=s.size->∀ w,Env w->Calls Tryz.prog 145 #[.string (bs l)] w fun e w'=>e=.returned (.tuple #[.int .i64 (nB l 32),.bool (nOk l 32)])/\Below w.heap.size w w':=fun l h w E=>by
    have:=rbits_any (bs l) w E (by rw[bs_size];omega)
    rw[bs_data] at this;exact this
  rcases first_cut 47 s.data.toList with h|⟨a,b,hab,h⟩
  . obtain⟨q1,q2,q3⟩:=rd_none (rd_noslash h)
    rw[q1,q2,q3];exact bread_none s w _ _ _ _ _ _ _ E (fun w E=>cut_any s w E hs _ _ _ (cut_no 47 _ h)) (ca _ om) (cn _ (by simp)) rfl
  . have hrd:=rd_cut (b:=b) h
    rw[<- hab] at hrd;have la:a.length<=s.size:=by rw[hl,hab];simp
    have lb:b.length<=s.size:=by rw[hl,hab];simp;omega
    have cc:∀ w,Env w->Calls Tryz.prog 87 #[.string s,.string ⟨#[47]⟩] w fun e w'=>e=.returned (.tuple #[.string (bs a),.string (bs b),.bool true])/\Below w.heap.size w w':=fun w E=>cut_any s w E hs _ _ _ (by rw[hab];exact cut_at 47 a b h)
    have ca:=ca a la;have cn:=cn b lb;rcases ea:addr a with _|x
    . rw[ea] at hrd;obtain⟨q1,q2,q3⟩:=rd_none hrd;rw[q1,q2,q3];exact bread_addr s w _ _ _ _ _ _ _ E cc ca cn rfl (a_none ea).2
    . have hx:=addr_lt ea;obtain⟨r1,r2⟩:=a_some ea;rw[r1,r2] at ca;rcases en:num b 32 with _|n
      . rw[ea,en] at hrd;obtain⟨q1,q2,q3⟩:=rd_none hrd;rw[q1,q2,q3];exact bread_num s w _ _ _ _ _ _ _ E cc ca cn rfl rfl (n_none en).2
      . rw[ea,en] at hrd;obtain⟨r3,r4⟩:=n_some en;rw[r3,r4] at cn;rcases hr:rt (x:Int) (n:Int) with _|_
        . simp only[hr] at hrd
          obtain⟨q1,q2,q3⟩:=rd_none hrd;rw[q1,q2,q3];exact bread_not s w _ _ _ _ _ _ _ E cc ca cn rfl rfl rfl om om hr
        . simp only[hr] at hrd
          obtain⟨q1,q2,q3⟩:=rd_some hrd;rw[q1,q2,q3];exact bread_ok s w _ _ _ _ _ _ _ E cc ca cn rfl rfl rfl om om hr
theorem split_all (c:UInt8) (n:Nat):∀ l:List UInt8,l.length<=n->Lib.splitK [c] 0 (Lib.count l [c]) l=parts c l:=by
  induction n with
  | zero =>
    intro l hl;obtain rfl:l=[]:=List.eq_nil_of_length_eq_zero om
    rw[Lib.count_miss (index_no c [] (by simp)),parts_none c [] (by simp)];rfl
  | succ n ih =>
    intro l hl;rcases first_cut c l with h|⟨a,b,rfl,h⟩
    . rw[Lib.count_miss (index_no c l h),parts_none c l h];rfl
    . have hc:=Lib.count_hit (s:=a++c::b) (sub:=[c]) (by simp) (index_at c a b h)
      have hd:(a++c::b).drop (a.length+[c].length)=b:=by simp[List.drop_append]
      rw[hd] at hc;rw[hc,Nat.add_comm,split_at c _ a b h,ih b (by simp at hl;omega),parts_cons c a b h]
theorem split_any (s:ByteArray) (w:World) (E:Env w) (hs:s.size<=2097152) :
    Calls Tryz.prog 58 #[.string s,.string ⟨#[32]⟩] w fun e w'=>∃ L:List ByteArray,L.map (fun x=>x.data.toList)=parts 32 s.data.toList/\e=.returned (.slice (some ⟨w.heap.size,0,none⟩) L.length L.length)/\w'=w.alloc (.cells (L.map Value.string).toArray 9):=by
  obtain⟨m,hm⟩:=E.mx;refine(Tryz.strings_Split s ⟨#[32]⟩ m w om hm (by decide)).mono ?_
  rintro e w' ⟨rfl,rfl⟩
  have hlen:=Lib.splitB_all ⟨#[32]⟩ (by decide) 0 _ s rfl
  have hd:=Lib.splitB_data ⟨#[32]⟩ 0 (Lib.countB s ⟨#[32]⟩) s
  have ha:=split_all 32 _ s.data.toList (Nat.le_refl _)
  exact⟨Lib.splitB ⟨#[32]⟩ 0 (Lib.countB s ⟨#[32]⟩) s,hd.trans ha,by rw[hlen],rfl⟩
end Go.Proofs.YtjnhhnbgjjkkjaaGreatDoor
namespace Go.Proofs.YtjnhhnbgjjkkjaaGreatDoor
open Go.RowKit
set_option linter.unusedVariables false
set_option linter.unusedSimpArgs false
def glue (c:UInt8):List (List UInt8)->List UInt8
  | []=>[]
  | [p]=>p
  | p::r=>p++c::glue c r
theorem glue_parts (c:UInt8) (n:Nat):∀ l:List UInt8,l.length<=n->glue c (parts c l)=l:=by
  induction n with
  | zero =>
    intro l hl;obtain rfl:l=[]:=List.eq_nil_of_length_eq_zero om
    rfl
  | succ n ih =>
    intro l hl;rcases first_cut c l with h|⟨a,b,rfl,h⟩
    . rw[parts_none c l h];rfl
    . rw[parts_cons c a b h];have hb:=ih b (by simp at hl;omega)
      have hp:=parts_pos c b;rcases e:parts c b with _|⟨q,r⟩
      . rw[e] at hp;simp at hp
      . rw[e] at hb;show a++c::glue c (q::r)=_
        rw[hb]
theorem four_text {p0 p1 p2 p3:List UInt8} {a:Nat} (h:four p0 p1 p2 p3=some a):glue 46 [p0,p1,p2,p3]=dot a:=by
  unfold four at h;split at h
  . rename_i a0 a1 a2 a3 e0 e1 e2 e3;obtain⟨h0,rfl⟩:=num_some.1 e0;obtain⟨h1,rfl⟩:=num_some.1 e1;obtain⟨h2,rfl⟩:=num_some.1 e2;obtain⟨h3,rfl⟩:=num_some.1 e3;simp at h;subst h;unfold dot;rw[show (((a0*256+a1)*256+a2)*256+a3) / 16777216=a0 by omega,show (((a0*256+a1)*256+a2)*256+a3) / 65536%256=a1 by omega,show (((a0*256+a1)*256+a2)*256+a3) / 256%256=a2 by omega,show (((a0*256+a1)*256+a2)*256+a3)%256=a3 by omega]
    rfl
  . cases h
theorem addr_text {l:List UInt8} {a:Nat} (h:addr l=some a):l=dot a:=by
  have hg:=glue_parts 46 l.length l (Nat.le_refl _)
  unfold addr at h;split at h
  . rename_i p0 p1 p2 p3 e;rw[e] at hg;rw[<- hg];exact four_text h
  . cases h
theorem rd_text {l:List UInt8} {a n:Int} (h:rd l=some (a,n)):l=wr a.toNat n.toNat/\rt a n=true/\0<=a/\a<4294967296/\0<=n/\n<=32:=by
  have hg:=glue_parts 47 l.length l (Nat.le_refl _)
  unfold rd at h;split at h
  . rename_i x y e;split at h
    . rename_i A N ea en;split at h
      . rename_i hr;simp at h;obtain⟨rfl,rfl⟩:=h;have h1:=addr_text ea;have h2:=addr_lt ea;obtain⟨h3,h4⟩:=num_some.1 en;rw[e] at hg;refine⟨?_,hr,by omega,by omega,by omega,by omega⟩
        rw[<- hg];show x++47::y=_
        rw[h1,<- h4];simp[wr]
      . cases h
    . cases h
  . cases h
theorem dot_no (c:UInt8) (hc:c.toNat<46\/c.toNat=47\/57<c.toNat) (a:Nat):c∉dot a:=by
  have h:=fun n=>dec_no c om n
  have h46:c≠46:=fun e=>by rw[e] at hc;revert hc;decide
  unfold dot;simp only[List.mem_append,List.mem_cons]
  intro e;rcases e with e|e|e|e|e|e|e
  . exact h _ e
  . exact h46 e
  . exact h _ e
  . exact h46 e
  . exact h _ e
  . exact h46 e
  . exact h _ e
theorem num_dec (n m:Nat) (h:n<=m):num (dec n) m=some n:=num_some.2 ⟨h,rfl⟩
theorem addr_dot (a:Nat) (h:a<4294967296):addr (dot a)=some a:=by
  have hd:=fun n=>dec_no 46 (by decide) n
  have hp:parts 46 (dot a)=[dec (a / 16777216),dec (a / 65536%256),dec (a / 256%256),dec (a%256)]:=by
    unfold dot;rw[parts_cons 46 _ _ (hd _),parts_cons 46 _ _ (hd _),parts_cons 46 _ _ (hd _),parts_none 46 _ (hd _)]
  unfold addr;rw[hp];simp only[four]
  rw[num_dec _ _ om,num_dec _ _ om,num_dec _ _ om,num_dec _ _ om];simp only[Option.some.injEq]
  omega
theorem rd_wr {a n:Int} (h0:0<=a) (h1:a<4294967296) (hr:rt a n=true):rd (wr a.toNat n.toNat)=some (a,n):=by
  obtain⟨n0,n1,_⟩:=rt_iff.1 hr;have hc:=rd_cut (b:=dec n.toNat) (dot_no 47 (by decide) a.toNat)
  unfold wr;rw[hc,addr_dot _ om,num_dec _ _ om];simp only[]
  rw[show ((a.toNat:Nat):Int)=a by omega,show ((n.toNat:Nat):Int)=n by omega,if_pos hr]
def verb (k:Nat):List UInt8:=verbT.getD k []
theorem verb_fin:∀ k:Fin 11,fi (fun v=>v==verb k) verbT=((k:Nat):Int):=by decide +kernel
theorem verb_fi (k:Nat) (h:k<11):fi (fun v=>v==verb k) verbT=(k:Int):=verb_fin ⟨k,h⟩
theorem verb_nof:∀ k:Fin 11,(32:UInt8)∉verb k/\(verb k).length<=5:=by decide +kernel
theorem verb_no (k:Nat) (h:k<11):(32:UInt8)∉verb k/\(verb k).length<=5:=verb_nof ⟨k,h⟩
theorem name_all {l:List UInt8} (h:isName l=true):0<l.length/\l.length<=8/\∀ c,c∈l->(97<=c.toNat/\c.toNat<=122)\/(48<=c.toNat/\c.toNat<=57):=by
  unfold isName at h;simp only[Bool.and_eq_true,decide_eq_true_eq,List.all_eq_true,Bool.or_eq_true] at h
  exact⟨h.1.1,h.1.2,h.2⟩
theorem name_no {l:List UInt8} (h:isName l=true):(32:UInt8)∉l:=fun q=>by
  have:=(name_all h).2.2 32 q
  revert this;decide
theorem dec_lenB {n:Nat} (h:n<1000):1<=(dec n).length/\(dec n).length<=3:=by
  rw[dec_3 n h];unfold dec3
  split
  . simp
  . split<;>simp
theorem dot_lenB (a:Nat) (h:a<4294967296):7<=(dot a).length/\(dot a).length<=15:=by
  have h0:=dec_lenB (n:=a / 16777216) om
  have h1:=dec_lenB (n:=a / 65536%256) om
  have h2:=dec_lenB (n:=a / 256%256) om
  have h3:=dec_lenB (n:=a%256) om
  unfold dot;simp only[List.length_append,List.length_cons]
  omega
theorem dec_len2 {n:Nat} (h:n<100):(dec n).length<=2:=by
  rw[dec_3 n om];unfold dec3
  split
  . simp
  . simp
theorem wr_len (a n:Nat) (h:a<4294967296) (hn:n<=32):(wr a n).length<=18:=by
  have h0:=dot_lenB a h;have h1:=dec_len2 (n:=n) om
  unfold wr;simp only[List.length_append,List.length_cons]
  omega
theorem wr_no (c:UInt8) (hc:c.toNat<46\/57<c.toNat) (a n:Nat):c∉wr a n:=by
  unfold wr;intro q;rcases List.mem_append.1 q with q|q
  . exact dot_no c om a q
  . rcases List.mem_cons.1 q with q|q
    . rw[q] at hc;revert hc;decide
    . exact dec_no c om n q
theorem parts_4 {v t o x:List UInt8} (hv:(32:UInt8)∉v) (ht:(32:UInt8)∉t) (ho:(32:UInt8)∉o) (hx:(32:UInt8)∉x):parts 32 (v++32::(t++32::(o++32::x)))=[v,t,o,x]:=by
  rw[parts_cons 32 _ _ hv,parts_cons 32 _ _ ht,parts_cons 32 _ _ ho,parts_none 32 _ hx]
theorem rdLine_of {s:List UInt8} {k:Nat} {ws:List (List UInt8)} (hs:s.length<=100) (hk:k<11) (hp:parts 32 s=verb k::ws):rdLine s=rdParts (ln0 k) (form k) ws:=by
  unfold rdLine;rw[if_pos hs,hp];simp only[]
  rw[verb_fi k hk,if_neg om,Int.toNat_natCast]
def lnB (k:Nat) (t o:List UInt8) (a n:Int):Ln:=⟨k,⟨t.toArray⟩,⟨o.toArray⟩,a,n,0,0⟩
theorem read_block {k:Nat} {t o:List UInt8} {a n:Int} (hk:k=0\/k=1\/k=3\/k=4\/k=5) (ht:isName t=true) (ho:isName o=true) (h0:0<=a) (h1:a<4294967296) (hr:rt a n=true) :
    rdLine (verb k++32::(t++32::(o++32::wr a.toNat n.toNat)))=some (lnB k t o a n):=by
  obtain⟨n0,n1,_⟩:=rt_iff.1 hr;obtain⟨v1,v2⟩:=verb_no k om;obtain⟨_,t2,_⟩:=name_all ht;obtain⟨_,o2,_⟩:=name_all ho;have hl:=wr_len a.toNat n.toNat om om;have hp:=parts_4 v1 (name_no ht) (name_no ho) (wr_no 32 (by decide) a.toNat n.toNat)
  rw[rdLine_of (by simp only[List.length_append,List.length_cons];omega) om hp]
  have hf:form k=[1,2,3]:=by rcases hk with rfl|rfl|rfl|rfl|rfl<;>rfl
  rw[hf];simp only[rdParts,rdPart,ht,ho,rd_wr h0 h1 hr,if_pos,if_true,Nat.reduceEqDiff,if_false,ite_true]
  rfl
theorem read_addr {k:Nat} {t o:List UInt8} {d:Nat} (hk:k=6\/k=7) (ht:isName t=true) (ho:isName o=true) (h1:d<4294967296) :
    rdLine (verb k++32::(t++32::(o++32::dot d)))=some { lnB k t o 0 0 with d:=d }:=by
  obtain⟨v1,v2⟩:=verb_no k om;obtain⟨_,t2,_⟩:=name_all ht;obtain⟨_,o2,_⟩:=name_all ho;have hl:=dot_lenB d h1;have hp:=parts_4 v1 (name_no ht) (name_no ho) (dot_no 32 (by decide) d)
  rw[rdLine_of (by simp only[List.length_append,List.length_cons];omega) om hp]
  have hf:form k=[1,2,4]:=by rcases hk with rfl|rfl<;>rfl
  rw[hf];simp only[rdParts,rdPart,ht,ho,addr_dot d h1,if_pos,if_true,Nat.reduceEqDiff,if_false,ite_true]
  rfl
theorem read_ask {k:Nat} {a n:Int} (hk:k=9\/k=10) (h0:0<=a) (h1:a<4294967296) (hr:rt a n=true) :
    rdLine (verb k++32::wr a.toNat n.toNat)=some (lnB k [] [] a n):=by
  obtain⟨n0,n1,_⟩:=rt_iff.1 hr;obtain⟨v1,v2⟩:=verb_no k om;have hl:=wr_len a.toNat n.toNat om om;have hp:parts 32 (verb k++32::wr a.toNat n.toNat)=[verb k,wr a.toNat n.toNat]:=by
    rw[parts_cons 32 _ _ v1,parts_none 32 _ (wr_no 32 (by decide) a.toNat n.toNat)]
  rw[rdLine_of (by simp only[List.length_append,List.length_cons];omega) om hp]
  have hf:form k=[3]:=by rcases hk with rfl|rfl<;>rfl
  rw[hf];simp only[rdParts,rdPart,rd_wr h0 h1 hr,if_pos,if_true,Nat.reduceEqDiff,if_false,ite_true]
  rfl
theorem read_pools:rdLine (verb 8)=some (ln0 8):=by
  obtain⟨v1,v2⟩:=verb_no 8 om;rw[rdLine_of om om (parts_none 32 _ v1)];rfl
theorem parts_told:∀ (w:List UInt8) (l:List (List UInt8)),(32:UInt8)∉w->(∀ x,x∈l->(32:UInt8)∉x)->parts 32 (w++l.flatMap (fun t=>32::t))=w::l
  | w,[],hw,_=>by simp[parts_none 32 w hw]
  | w,x::r,hw,h=>by
    rw[List.flatMap_cons,List.cons_append,parts_cons 32 w _ hw,parts_told x r (h x (by simp)) (fun y hy=>h y (by simp[hy]))]
theorem hText_no {h:Hd} (ho:isName h.o.data.toList=true):(32:UInt8)∉hText h:=by
  unfold hText bText;intro q;rcases List.mem_append.1 q with q|q
  . exact wr_no 32 (by decide) _ _ q
  . rcases List.mem_cons.1 q with q|q
    . revert q;decide
    . exact name_no ho q
theorem lText_no {h:Ls} (ho:isName h.o.data.toList=true):(32:UInt8)∉lText h:=by
  unfold lText;intro q;rcases List.mem_append.1 q with q|q
  . exact dot_no 32 (by decide) _ q
  . rcases List.mem_cons.1 q with q|q
    . revert q;decide
    . exact name_no ho q
def ansT (L:List (List UInt8)):List UInt8:=[79,75]++L.flatMap (fun t=>32::t)
def poolsT (s:Bk):List UInt8:=ansT (s.pools.map hText)
def netsT (s:Bk) (p:Hd):List UInt8:=ansT ((netsOf s.nets p.a p.n).map hText)
def usedT (s:Bk) (h:Hd):List UInt8:=ansT ((leasesOf s.leases h.a h.n).map lText)
def toldP (s:Bk) (p:Hd):List (List UInt8):=netsT s p::(netsOf s.nets p.a p.n).map (usedT s)
def toldS (s:Bk):List (List UInt8):=poolsT s::s.pools.flatMap (toldP s)
theorem anText_ok {α:Type} (f:α->List UInt8) (L:List α):anText ⟨0,L.map fun h=>⟨(f h).toArray⟩⟩=ansT (L.map f):=by
  unfold anText ansT;simp only[if_true]
  congr 1
  induction L with
  | nil=>rfl
  | cons x r ih=>simp only[List.map_cons,List.flatMap_cons];rw[ih]
theorem parts_ans (L:List (List UInt8)) (h:∀ x,x∈L->(32:UInt8)∉x):parts 32 (ansT L)=[79,75]::L:=parts_told [79,75] L (by decide) h
theorem ans_len {L M:List (List UInt8)} (hL:∀ x,x∈L->(32:UInt8)∉x) (hM:∀ x,x∈M->(32:UInt8)∉x) (e:ansT L=ansT M):L.length=M.length:=by
  have h1:=parts_ans L hL;rw[e,parts_ans M hM] at h1;simp at h1;rw[h1]
theorem hTs_no {l:List Hd} (h:∀ x,x∈l->isName x.o.data.toList=true):∀ x,x∈l.map hText->(32:UInt8)∉x:=fun x hx=>by
  obtain⟨y,hy,rfl⟩:=List.mem_map.1 hx;exact hText_no (h y hy)
theorem lTs_no {l:List Ls} (h:∀ x,x∈l->isName x.o.data.toList=true):∀ x,x∈l.map lText->(32:UInt8)∉x:=fun x hx=>by
  obtain⟨y,hy,rfl⟩:=List.mem_map.1 hx;exact lText_no (h y hy)
theorem netsOf_sub {l:List Hd} {a n:Int} {x:Hd} (h:x∈netsOf l a n):x∈l:=(List.mem_filter.1 h).1
theorem leasesOf_sub {l:List Ls} {a n:Int} {x:Ls} (h:x∈leasesOf l a n):x∈l:=(List.mem_filter.1 h).1
theorem flat_lt {α β:Type} (f g:α->List β) (l:List α) (h:∀ x,x∈l->(f x).length<=(g x).length) (hx:∃ x,x∈l/\(f x).length<(g x).length):(l.flatMap f).length<(l.flatMap g).length:=by
  have hle:∀ r:List α,(∀ x,x∈r->(f x).length<=(g x).length)->(r.flatMap f).length<=(r.flatMap g).length:=by
    intro r;induction r with
    | nil=>intro _;simp
    | cons y q ih =>
      intro h;have h1:=h y (by simp)
      have h2:=ih (fun x hx=>h x (by simp[hx]))
      simp only[List.flatMap_cons,List.length_append];omega
  induction l with
  | nil=>obtain⟨x,hx,_⟩:=hx;simp at hx
  | cons y q ih =>
    have h1:=h y (by simp)
    have h2:=hle q (fun x hx=>h x (by simp[hx]))
    simp only[List.flatMap_cons,List.length_append]
    obtain⟨x,hx,hlt⟩:=hx;rcases List.mem_cons.1 hx with rfl|hx
    . omega
    . have:=ih (fun x hx=>h x (by simp[hx])) ⟨x,hx,hlt⟩;omega
theorem flat_eq {α β:Type} (f g:α->List β) (l:List α) (h:∀ x,x∈l->(f x).length=(g x).length) (e:l.flatMap f=l.flatMap g):∀ x,x∈l->f x=g x:=by
  induction l with
  | nil=>intro x hx;simp at hx
  | cons y q ih =>
    simp only[List.flatMap_cons] at e
    obtain⟨e1,e2⟩:=List.append_inj e (h y (by simp))
    intro x hx;rcases List.mem_cons.1 hx with rfl|hx
    . exact e1
    . exact ih (fun x hx=>h x (by simp[hx])) e2 x hx
theorem filter_ins {α:Type} (p:α->Bool) (l:List α) (c:Nat) (x:α):((l.take c++x::l.drop c).filter p).length=(l.filter p).length+(if p x then 1 else 0):=by
  conv=>rhs;rw[<- List.take_append_drop c l]
  rw[List.filter_append,List.filter_append,List.filter_cons];split<;>simp<;>omega
theorem filter_del {α:Type} (p:α->Bool) (l:List α) (k:Nat) (d:α) (h:k<l.length):((delAt l k).filter p).length+(if p (l.getD k d) then 1 else 0)=(l.filter p).length:=by
  unfold delAt;conv=>rhs;rw[<- List.take_append_drop k l,List.drop_eq_getElem_cons h]
  rw[List.filter_append,List.filter_append,List.filter_cons,List.getD_eq_getElem?_getD,List.getElem?_eq_getElem h,Option.getD_some];split<;>simp<;>omega
theorem toldP_len (s:Bk) (p:Hd):(toldP s p).length=1+(netsOf s.nets p.a p.n).length:=by unfold toldP;simp;omega
theorem shows_net {s s':Bk} (hp:s'.pools=s.pools) {x:Hd} (hn:∀ a n,(netsOf s'.nets a n).length=(netsOf s.nets a n).length+(if inn x.a x.n a n then 1 else 0)) (hi:∃ p,p∈s.pools/\inn x.a x.n p.a p.n=true):toldS s'≠toldS s:=by
  intro e;have:=congrArg List.length e
  unfold toldS at this;rw[hp,List.length_cons,List.length_cons] at this;have hlt:=flat_lt (toldP s) (toldP s') s.pools (fun p hp=>by rw[toldP_len,toldP_len,hn];omega) (by
    obtain⟨p,hp,hi⟩:=hi;exact⟨p,hp,by rw[toldP_len,toldP_len,hn,if_pos hi];omega⟩)
  omega
theorem shows_lease {s s':Bk} (G:Good s) (G':Good s') (hp:s'.pools=s.pools) (hn:s'.nets=s.nets) {h:Hd} (hh:h∈s.nets) (hl:(leasesOf s'.leases h.a h.n).length≠(leasesOf s.leases h.a h.n).length):toldS s'≠toldS s:=by
  intro e;unfold toldS at e;rw[hp,List.cons.injEq] at e;obtain⟨p,hpp,hi⟩:=G.ni h hh;have h1:=flat_eq (toldP s') (toldP s) s.pools (fun p hp=>by rw[toldP_len,toldP_len,hn]) e.2 p hpp
  unfold toldP at h1;rw[hn,List.cons.injEq] at h1;have h2:=List.map_inj_left.1 h1.2 h (List.mem_filter.2 ⟨hh,hi⟩)
  unfold usedT at h2;have h3:=ans_len (lTs_no fun x hx=>G'.lo x (leasesOf_sub hx)) (lTs_no fun x hx=>G.lo x (leasesOf_sub hx)) h2
  simp at h3;exact hl h3
theorem shows_pool {s s':Bk} (G:Good s) (G':Good s') (h:s'.pools.length≠s.pools.length):toldS s'≠toldS s:=by
  intro e;unfold toldS at e;rw[List.cons.injEq] at e;have h3:=ans_len (hTs_no G'.po) (hTs_no G.po) e.1
  simp at h3;exact h h3
theorem insH_lenT (l:List Hd) (x:Hd):(insH l x).length=l.length+1:=by unfold insH;simp;omega
theorem delAt_lenT {α:Type} (l:List α) (k:Nat) (h:k<l.length):(delAt l k).length+1=l.length:=by unfold delAt;simp;omega
theorem findH_lt {l:List Hd} {a n:Int} (h:¬findH l a n<0):(findH l a n).toNat<l.length:=by
  unfold findH at *
  rcases fi_cases (isH a n) l hd0 with⟨e,_⟩|⟨k,hk,e,hp,_⟩
  . rw[e] at h;omega
  . rw[e,Int.toNat_natCast];exact hk
theorem ins_nets (l:List Hd) (x:Hd) (a n:Int):(netsOf (insH l x) a n).length=(netsOf l a n).length+(if inn x.a x.n a n then 1 else 0):=filter_ins _ _ _ _
theorem ins_leases (l:List Ls) (x:Ls) (a n:Int):(leasesOf (insL l x) a n).length=(leasesOf l a n).length+(if inn x.a 32 a n then 1 else 0):=filter_ins _ _ _ _
theorem ln_shows {s:Bk} {l:Ln} (G:Good s) (hg:LnGd l) (hv:l.v<8):((doLn s l).2.e≠0/\(doLn s l).1=s)\/((doLn s l).2.e=0/\toldS (doLn s l).1≠toldS s):=by
  have G':=good_ln G hg;obtain⟨a0,a1,ar,g1,ho⟩:=hg;have hc:l.v=0\/l.v=1\/l.v=2\/l.v=3\/l.v=4\/l.v=5\/l.v=6\/l.v=7:=by omega
  rcases hc with e|e|e|e|e|e|e|e
  . have hd:doLn s l=doPool s l:=by unfold doLn;rw[e];rfl
    rw[hd] at G' ⊢;revert G';unfold doPool
    split
    . intro _;exact .inl ⟨by simp[ref],rfl⟩
    split
    . intro _;exact .inl ⟨by simp[ref],rfl⟩
    split
    . intro _;exact .inl ⟨by simp[ref],rfl⟩
    . intro G';exact .inr ⟨rfl,shows_pool G G' (by show (insH s.pools _).length≠_;rw[insH_lenT];omega)⟩
  . have hd:doLn s l=doDrop s l:=by unfold doLn;rw[e];rfl
    rw[hd] at G' ⊢;revert G';unfold doDrop
    split
    . intro _;exact .inl ⟨by simp[ref],rfl⟩
    split
    . intro _;exact .inl ⟨by simp[ref],rfl⟩
    split
    . intro _;exact .inl ⟨by simp[ref],rfl⟩
    . rename_i h1 _ _;intro G';exact .inr ⟨rfl,shows_pool G G' (by have:=delAt_lenT s.pools _ (findH_lt h1);show (delAt s.pools _).length≠_;omega)⟩
  . have hd:doLn s l=doNet s l:=by unfold doLn;rw[e];rfl
    rw[hd] at G' ⊢;unfold doNet;split
    . exact .inl ⟨by simp[ref],rfl⟩
    split
    . exact .inl ⟨by simp[ref],rfl⟩
    rename_i h1 h2;rcases hb:best (frees 33 (netsOf s.nets l.a l.n) l.a l.n) l.g with _|b
    . exact .inl ⟨by simp[ref],rfl⟩
    . dsimp only;split
      . exact .inl ⟨by simp[ref],rfl⟩
      . obtain⟨r1,r2,r3,r4,r5⟩:=net_apart G g1 h1 hb;exact .inr ⟨rfl,shows_net (x:=⟨b.1,l.g,l.o⟩) rfl (fun a n=>ins_nets _ _ a n) r5⟩
  . have hd:doLn s l=doBlock s l:=by unfold doLn;rw[e];rfl
    rw[hd] at G' ⊢;unfold doBlock;split
    . exact .inl ⟨by simp[ref],rfl⟩
    split
    . exact .inl ⟨by simp[ref],rfl⟩
    split
    . exact .inl ⟨by simp[ref],rfl⟩
    split
    . exact .inl ⟨by simp[ref],rfl⟩
    rename_i h1 h2 h3 h4;obtain⟨hm,hi⟩:=spanH_at h2;exact .inr ⟨rfl,shows_net (x:=⟨l.a,l.n,l.o⟩) rfl (fun a n=>ins_nets _ _ a n) ⟨_,hm,hi⟩⟩
  . have hd:doLn s l=doFree s l:=by unfold doLn;rw[e];rfl
    rw[hd] at G' ⊢;unfold doFree;split
    . exact .inl ⟨by simp[ref],rfl⟩
    split
    . exact .inl ⟨by simp[ref],rfl⟩
    split
    . exact .inl ⟨by simp[ref],rfl⟩
    rename_i h1 h2 h3;obtain⟨hm,hma,hmn⟩:=findH_at h1;refine .inr ⟨rfl,fun q=>?_⟩
    refine shows_net (s:={ s with nets:=delAt s.nets (findH s.nets l.a l.n).toNat }) (s':=s) (x:=s.nets.getD (findH s.nets l.a l.n).toNat hd0) rfl (fun a n=>?_) (G.ni _ hm) q.symm
    exact(filter_del (fun h=>inn h.a h.n a n) s.nets _ hd0 (findH_lt h1)).symm
  . have hd:doLn s l=doLease s l:=by unfold doLn;rw[e];rfl
    rw[hd] at G' ⊢;revert G';unfold doLease
    split
    . intro _;exact .inl ⟨by simp[ref],rfl⟩
    rename_i h1;rcases hb:least s.leases l.a l.n with _|d
    . intro _;exact .inl ⟨by simp[ref],rfl⟩
    . dsimp only;split
      . intro _;exact .inl ⟨by simp[ref],rfl⟩
      . intro G';obtain⟨hm,hma,hmn⟩:=findH_at h1;obtain⟨p,hpe⟩:∃ p,p=s.nets.getD (findH s.nets l.a l.n).toNat hd0:=⟨_,rfl⟩
        rw[<- hpe] at hm hma hmn;rw[<- hma,<- hmn] at hb;obtain⟨r1,r2,r3⟩:=least_free G hm hb;obtain⟨u1,u2⟩:=use_in r1 r2;refine .inr ⟨rfl,shows_lease G G' rfl rfl hm ?_⟩
        show (leasesOf (insL s.leases ⟨d,l.o⟩) p.a p.n).length≠_
        rw[ins_leases,if_pos (inn_use (G.nr p hm).2.2.1 u1 u2)];omega
  . have hd:doLn s l=doTake s l:=by unfold doLn;rw[e];rfl
    rw[hd] at G' ⊢;revert G';unfold doTake
    split
    . intro _;exact .inl ⟨by simp[ref],rfl⟩
    split
    . intro _;exact .inl ⟨by simp[ref],rfl⟩
    split
    . intro _;exact .inl ⟨by simp[ref],rfl⟩
    split
    . intro _;exact .inl ⟨by simp[ref],rfl⟩
    rename_i h1 h2 h3 h4;intro G';obtain⟨hm,hi⟩:=spanH_at h1;refine .inr ⟨rfl,shows_lease G G' rfl rfl hm ?_⟩
    show (leasesOf (insL s.leases ⟨l.d,l.o⟩) _ _).length≠_
    rw[ins_leases,if_pos hi];omega
  . have hd:doLn s l=doGive s l:=by unfold doLn;rw[e];rfl
    rw[hd] at G' ⊢;revert G';unfold doGive
    split
    . rename_i h1;split
      . intro _;exact .inl ⟨by simp[ref],rfl⟩
      . intro G';have hk:cntL s.leases l.d<s.leases.length/\(s.leases.getD (cntL s.leases l.d) ls0).a=l.d:=by
          unfold hasL at h1;simpa using h1
        have hmem:s.leases.getD (cntL s.leases l.d) ls0∈s.leases:=by
          rw[List.getD_eq_getElem?_getD,List.getElem?_eq_getElem hk.1];exact List.getElem_mem hk.1
        obtain⟨h,hh,q1,q2⟩:=G.li _ hmem;obtain⟨u1,u2⟩:=use_in q1 q2;refine .inr ⟨rfl,shows_lease G G' rfl rfl hh ?_⟩
        have:=filter_del (fun y:Ls=>inn y.a 32 h.a h.n) s.leases _ ls0 hk.1
        rw[if_pos (inn_use (G.nr h hh).2.2.1 u1 u2)] at this;show (leasesOf (delAt s.leases (cntL s.leases l.d)) h.a h.n).length≠(leasesOf s.leases h.a h.n).length
        unfold leasesOf;omega
    . intro _;exact .inl ⟨by simp[ref],rfl⟩
theorem rdPart_o {l l':Ln} {p:Nat} {w:List UInt8} (h:rdPart l p w=some l'):l'.v=l.v/\(p=2->isName l'.o.data.toList=true)/\(p≠2->l'.o=l.o)/\(p=1->l'.t=⟨w.toArray⟩)/\(p≠1->l'.t=l.t)/\(p=1->isName w=true):=by
  unfold rdPart at h;split at h
  . split at h
    . rename_i e hn;cases h;exact⟨rfl,fun q=>by omega,fun _=>rfl,fun _=>rfl,fun q=>absurd e q,fun _=>hn⟩
    . cases h
  . split at h
    . split at h
      . rename_i e1 e hn
        cases h;exact⟨rfl,fun _=>by simpa using hn,fun q=>absurd e q,fun q=>absurd q e1,fun _=>rfl,fun q=>absurd q e1⟩
      . cases h
    . rename_i e1 e2;split at h
      . split at h
        . cases h;exact⟨rfl,fun q=>absurd q e2,fun _=>rfl,fun q=>absurd q e1,fun _=>rfl,fun q=>absurd q e1⟩
        . cases h
      . split at h
        . split at h
          . cases h;exact⟨rfl,fun q=>absurd q e2,fun _=>rfl,fun q=>absurd q e1,fun _=>rfl,fun q=>absurd q e1⟩
          . cases h
        . split at h
          . split at h
            . cases h;exact⟨rfl,fun q=>absurd q e2,fun _=>rfl,fun q=>absurd q e1,fun _=>rfl,fun q=>absurd q e1⟩
            . cases h
          . cases h
theorem rdParts_v:∀ (ps:List Nat) (ws:List (List UInt8)) (l l':Ln),rdParts l ps ws=some l'->l'.v=l.v/\((isName l.o.data.toList=true\/2∈ps)->isName l'.o.data.toList=true)/\(1∉ps->l'.t=l.t)
  | [],[],l,l',h=>by simp[rdParts] at h;subst h;exact⟨rfl,fun q=>q.elim id (by simp),fun _=>rfl⟩
  | [],_::_,l,l',h=>by simp[rdParts] at h
  | _::_,[],l,l',h=>by simp[rdParts] at h
  | p::ps,w::ws,l,l',h=>by
    rw[rdParts] at h;split at h
    . rename_i l2 e;obtain⟨a1,a2,a3,a4,a5,_⟩:=rdPart_o e;obtain⟨b1,b2,b3⟩:=rdParts_v ps ws l2 l' h;refine⟨b1.trans a1,fun q=>b2 ?_,fun q=>?_⟩
      . by_cases hp:p=2
        . exact .inl (a2 hp)
        . rcases q with q|q
          . rw[a3 hp];exact .inl q
          . rcases List.mem_cons.1 q with q|q
            . exact absurd q.symm hp
            . exact .inr q
      . simp only[List.mem_cons,not_or] at q
        rw[b3 q.2,a5 (fun e=>q.1 e.symm)]
    . cases h
theorem form_cmd {k:Nat} (h:k<8):∃ ps,form k=1::2::ps/\1∉ps:=by
  have hc:k=0\/k=1\/k=2\/k=3\/k=4\/k=5\/k=6\/k=7:=by omega
  rcases hc with rfl|rfl|rfl|rfl|rfl|rfl|rfl|rfl<;>exact⟨_,rfl,by decide⟩
theorem rdPart_gd {l l':Ln} {p:Nat} {w:List UInt8} (hL:0<=l.a/\l.a<4294967296/\rt l.a l.n=true/\l.g<=32) (h:rdPart l p w=some l'):0<=l'.a/\l'.a<4294967296/\rt l'.a l'.n=true/\l'.g<=32:=by
  unfold rdPart at h;split at h
  . split at h
    . cases h;exact hL
    . cases h
  . split at h
    . split at h
      . cases h;exact hL
      . cases h
    . split at h
      . split at h
        . rename_i b e
          cases h;have hb:=rd_text (a:=b.1) (n:=b.2) e
          exact⟨hb.2.2.1,hb.2.2.2.1,hb.2.1,hL.2.2.2⟩
        . cases h
      . split at h
        . split at h
          . cases h;exact hL
          . cases h
        . split at h
          . split at h
            . rename_i g e
              cases h;have hb:=(num_some.1 e).1
              exact⟨hL.1,hL.2.1,hL.2.2.1,by dsimp only;omega⟩
            . cases h
          . cases h
theorem rdParts_gd:∀ (ps:List Nat) (ws:List (List UInt8)) (l l':Ln),(0<=l.a/\l.a<4294967296/\rt l.a l.n=true/\l.g<=32)->rdParts l ps ws=some l'->0<=l'.a/\l'.a<4294967296/\rt l'.a l'.n=true/\l'.g<=32
  | [],[],l,l',hL,h=>by simp[rdParts] at h;subst h;exact hL
  | [],_::_,l,l',hL,h=>by simp[rdParts] at h
  | _::_,[],l,l',hL,h=>by simp[rdParts] at h
  | p::ps,w::ws,l,l',hL,h=>by
    rw[rdParts] at h;split at h
    . rename_i l2 e;exact rdParts_gd ps ws l2 l' (rdPart_gd hL e) h
    . cases h
theorem rdLine_gd {s:List UInt8} {l:Ln} (h:rdLine s=some l):LnGd l:=by
  unfold rdLine at h;split at h
  . split at h
    . rename_i w ws e;split at h
      . cases h
      . have h1:=rdParts_gd _ _ _ _ ⟨Int.le_refl _,by simp[ln0],rt_iff.2 ⟨by simp[ln0],by simp[ln0],by simp[ln0]⟩,by simp[ln0]⟩ h
        obtain⟨h2,h3,_⟩:=rdParts_v _ _ _ _ h;refine⟨h1.1,h1.2.1,h1.2.2.1,h1.2.2.2,fun hv=>h3 (.inr ?_)⟩
        obtain⟨ps,e,_⟩:=form_cmd hv;rw[h2] at e;show 2∈form (ln0 (fi (fun v=>v==w) verbT).toNat).v
        rw[e];simp
    . cases h
  . cases h
def dig36 (d:Nat):UInt8:=if d<10 then UInt8.ofNat (48+d) else UInt8.ofNat (87+d)
def b36f:Nat->Nat->List UInt8
  | 0,_=>[]
  | f+1,n=>(if n / 36=0 then [] else b36f f (n / 36))++[dig36 (n%36)]
def b36 (n:Nat):List UInt8:=b36f (n+1) n
def val36 (l:List UInt8):Nat:=l.foldl (fun a c=>36*a+(if c.toNat<58 then c.toNat-48 else c.toNat-87)) 0
theorem dig36_val:∀ d:Fin 36,(if (dig36 d).toNat<58 then (dig36 d).toNat-48 else (dig36 d).toNat-87)=(d:Nat):=by decide +kernel
theorem val36_snoc (l:List UInt8) (c:UInt8):val36 (l++[c])=36*val36 l+(if c.toNat<58 then c.toNat-48 else c.toNat-87):=by simp[val36]
theorem val36_f (f:Nat):∀ n,n<f->val36 (b36f f n)=n:=by
  induction f with
  | zero=>intro n h;omega
  | succ f ih =>
    intro n h;unfold b36f;rw[val36_snoc,dig36_val ⟨n%36,by omega⟩]
    show 36*_+n%36=n
    split
    . simp[val36];omega
    . rw[ih (n / 36) om];omega
theorem b36f_more (f:Nat):∀ n g,n<f->f<=g->b36f g n=b36f f n:=by
  induction f with
  | zero=>intro n g h;omega
  | succ f ih =>
    intro n g h hg;obtain⟨g,rfl⟩:∃ q,g=q+1:=⟨g-1,by omega⟩
    unfold b36f;split
    . rfl
    . rw[ih (n / 36) g om om]
theorem b36_eq (n:Nat):b36 n=(if n / 36=0 then [] else b36 (n / 36))++[dig36 (n%36)]:=by
  unfold b36;conv=>lhs;unfold b36f
  split
  . rfl
  . rw[b36f_more (n / 36+1) (n / 36) n om om]
theorem b36_len (n:Nat) (k:Nat):n<36^k->(b36 n).length<=k+1:=by
  induction k generalizing n with
  | zero=>intro h;rw[b36_eq,if_pos om];simp
  | succ k ih =>
    intro h;rw[b36_eq];split
    . simp
    . have:=ih (n / 36) (by rw[Nat.pow_succ] at h;omega)
      simp;omega
def cmdL (k:Nat) (t o r:List UInt8):List UInt8:=verb k++32::(t++32::(o++32::r))
def byt (l:List UInt8):ByteArray:=⟨l.toArray⟩
theorem byt_data (l:List UInt8):(byt l).data.toList=l:=rfl
theorem findT_at {pre post:List Tk} {X:Tk} (h:∀ y,y∈pre->y.t≠X.t):findT (pre++X::post) X.t=some X:=by
  unfold findT;have hf:pre.filter (fun x=>decide (x.t=X.t))=[]:=List.filter_eq_nil_iff.2 (fun y hy=>by simpa using h y hy)
  rw[List.filter_append,List.filter_cons_of_pos (by simp),hf]
  simp
theorem ask_verb {k:Nat} (hk:k<11) {r:List UInt8} {l:Ln} (h:rdLine (verb k++32::r)=some l):l.v=k:=by
  have hs:(verb k++32::r).length<=100:=by
    unfold rdLine at h;split at h
    . assumption
    . cases h
  rw[rdLine_of hs hk (parts_cons 32 _ _ (verb_no k hk).1)] at h;exact(rdParts_v _ _ _ _ h).1.trans rfl
theorem addT_mem {l:List Tk} {x y:Tk} (h:y∈addT l x):y∈l\/y=x:=by
  unfold addT at h;rcases List.mem_append.1 h with h|h
  . split at h
    . exact .inl (List.mem_of_mem_drop h)
    . exact .inl h
  . exact .inr (by simpa using h)
theorem getD_mem {α:Type} {l:List α} (d:α) {k:Nat} (hk:k<l.length):l.getD k d∈l:=by
  rw[List.getD_eq_getElem?_getD,List.getElem?_eq_getElem hk];exact List.getElem_mem hk
theorem use_bd {a n:Int} (h0:0<=a) (h1:a<4294967296) (hr:rt a n=true):a<=useA a n/\useZ a n<=a+sz n-1/\a+sz n<=4294967296:=by
  obtain⟨r1,r2,r3⟩:=rt_iff.1 hr;have e:a+sz n<=4294967296:=by
    obtain⟨m,hm,_⟩:=sz_whole n r1 r2;have hs:=sz_pos n;have h2:a=sz n*(a / sz n):=by have:=Int.mul_ediv_add_emod a (sz n);omega
    have h3:a / sz n<m:=by
      rcases Int.lt_or_le (a / sz n) m with q|q
      . exact q
      . exfalso
        have:=Int.mul_le_mul_of_nonneg_left q (Int.le_of_lt hs)
        omega
    have h4:sz n*(a / sz n+1)<=sz n*m:=Int.mul_le_mul_of_nonneg_left om (Int.le_of_lt hs)
    rw[Int.mul_add,Int.mul_one] at h4;omega
  unfold useA useZ lst;split<;>exact⟨by omega,by omega,e⟩
def xT:List UInt8:=[120]
def rowP (h:Hd):List UInt8:=cmdL 0 xT h.o.data.toList (bText h.a h.n)
def rowN (h:Hd):List UInt8:=cmdL 3 xT h.o.data.toList (bText h.a h.n)
def rowL (l:Ls):List UInt8:=cmdL 6 xT l.o.data.toList (dot l.a.toNat)
def rowT (x:Tk):List UInt8:=x.l.data.toList++61::x.r.data.toList
def rowsC (s:Bk):List (List UInt8):=s.pools.map rowP++s.nets.map rowN++s.leases.map rowL
def rowsS (s:Bk):List (List UInt8):=rowsC s++s.toks.map rowT
def snapT (s:Bk):List UInt8:=(rowsS s).flatMap fun r=>r++[10]
def cutA (r:List UInt8):List UInt8:=r.takeWhile fun c=>c != 61
def cutB (r:List UInt8):List UInt8:=r.drop ((cutA r).length+1)
def cutF (r:List UInt8):Bool:=decide ((cutA r).length<r.length)
def rowStep (s:Bk) (r:List UInt8):Option Bk :=
  match rdLine (cutA r) with
  | none=>none
  | some l =>
    if l.v<8 then
      (if cutF r then some { s with toks:=addT s.toks ⟨l.t,byt (cutA r),byt (cutB r)⟩ }
       else if (doLn s l).2.e=0 then some (doLn s l).1 else none)
    else none
def rowsGo:Bk->List (List UInt8)->Option Bk
  | s,[]=>some s
  | s,r::rs=>match rowStep s r with|none=>none|some s'=>rowsGo s' rs
theorem rowsGo_append (a b:List (List UInt8)):∀ s s',rowsGo s a=some s'->rowsGo s (a++b)=rowsGo s' b:=by
  induction a with
  | nil=>intro s s' h;cases h;rfl
  | cons r a ih =>
    intro s s' h;simp only[rowsGo,List.cons_append] at h ⊢
    rcases e:rowStep s r with _|s1
    . rw[e] at h;cases h
    . rw[e] at h;exact ih s1 s' h
theorem tw_all {α:Type} {p:α->Bool}:∀ {l:List α},(∀ x,x∈l->p x=true)->l.takeWhile p=l
  | [],_=>rfl
  | x::r,h=>by rw[List.takeWhile_cons_of_pos (h x (by simp)),tw_all fun y hy=>h y (by simp[hy])]
theorem rcut_none {r:List UInt8} (h:(61:UInt8)∉r):cutA r=r/\cutF r=false:=by
  have e:cutA r=r:=by
    unfold cutA;exact tw_all fun c hc=>by simp;rintro rfl;exact h hc
  exact⟨e,by unfold cutF;rw[e];simp⟩
theorem rcut_at {a b:List UInt8} (h:(61:UInt8)∉a):cutA (a++61::b)=a/\cutB (a++61::b)=b/\cutF (a++61::b)=true:=by
  have e:cutA (a++61::b)=a:=by
    unfold cutA;rw[List.takeWhile_append_of_pos (by intro c hc;simp;rintro rfl;exact h hc),List.takeWhile_cons_of_neg (by simp)]
    simp
  refine⟨e,?_,?_⟩
  . unfold cutB;rw[e];simp
  . unfold cutF;rw[e];simp
theorem cmd_no (c:UInt8) (hc:c.toNat<32\/c=61) {k:Nat} (hk:k<8) {t o r:List UInt8} (ht:isName t=true) (ho:isName o=true) (hr:c∉r):c∉cmdL k t o r:=by
  have hv:∀ k:Fin 8,∀ x,x∈verb k->65<=x.toNat/\x.toNat<=90:=by decide +kernel
  have hn:∀ {t:List UInt8},isName t=true->c∉t:=fun {t} h q=>by
    unfold isName at h;rw[Bool.and_eq_true] at h;have:=List.all_eq_true.1 h.2 c q
    simp at this;rcases hc with e|rfl
    . omega
    . simp at this
  have h32:c≠32:=by rcases hc with e|rfl;rintro rfl;simp at e;decide
  unfold cmdL;simp only[List.mem_append,List.mem_cons,not_or]
  refine⟨fun q=>?_,h32,hn ht,h32,hn ho,h32,hr⟩
  have:=hv ⟨k,hk⟩ c q
  rcases hc with e|rfl
  . omega
  . simp at this
theorem xT_name:isName xT=true:=by decide
theorem bT_no (c:UInt8) (hc:c.toNat<32\/c=61) (a n:Int):c∉bText a n:=by
  refine wr_no c ?_ a.toNat n.toNat
  rcases hc with e|rfl
  . omega
  . exact .inr (by decide)
theorem dt_no (c:UInt8) (hc:c.toNat<32\/c=61) (d:Nat):c∉dot d:=by
  refine dot_no c ?_ d
  rcases hc with e|rfl
  . omega
  . exact .inr (.inr (by decide))
theorem cnt_all (l:List Hd) (a:Int) (h:∀ y,y∈l->y.a<a):cntH l a=l.length:=by
  unfold cntH;exact List.countP_eq_length.2 fun y hy=>by simpa using h y hy
theorem ins_end (l:List Hd) (x:Hd) (h:∀ y,y∈l->y.a<x.a):insH l x=l++[x]:=by
  unfold insH;rw[cnt_all l x.a h,List.take_length,List.drop_length]
theorem insL_end (l:List Ls) (x:Ls) (h:∀ y,y∈l->y.a<x.a):insL l x=l++[x]/\hasL l x.a=false:=by
  have e:cntL l x.a=l.length:=by unfold cntL;exact List.countP_eq_length.2 fun y hy=>by simpa using h y hy
  refine⟨?_,?_⟩
  . unfold insL;rw[e,List.take_length,List.drop_length]
  . unfold hasL;rw[e];simp
theorem pair_last {α:Type} {R:α->α->Prop} {l:List α} {x:α} {r:List α} (h:(l++x::r).Pairwise R):∀ y,y∈l->R y x:=fun y hy=>(List.pairwise_append.1 h).2.2 y hy x (by simp)
theorem o_byt (o:ByteArray):(⟨o.data.toList.toArray⟩:ByteArray)=o:=by cases o;simp
theorem any_none {l:List Hd} {x:Hd} (hl:∀ y,y∈l->rt y.a y.n=true) (hx:rt x.a x.n=true) (h:∀ y,y∈l->y.a+sz y.n<=x.a):anyH l x.a x.n=false:=by
  unfold anyH;refine List.any_eq_false.2 fun y hy=>?_
  have h1:meetsH x.a x.n y=false:=(mm_no (hl y hy) hx).2 (.inr (h y hy))
  simp[h1]
theorem srow_pool {s:Bk} (G:Good s) (h30:∀ h,h∈s.pools->8<=h.n/\h.n<=30) (h6:s.pools.length<=6) {l r:List Hd} {x:Hd} (e:s.pools=l++x::r):rowStep ⟨l,[],[],[]⟩ (rowP x)=some ⟨l++[x],[],[],[]⟩:=by
  have hx:x∈s.pools:=by rw[e];simp
  obtain⟨a0,a1,ar⟩:=G.pr x hx;have hno:(61:UInt8)∉rowP x:=cmd_no 61 (.inr rfl) om xT_name (G.po x hx) (bT_no 61 (.inr rfl) _ _)
  have hp:=pair_last (e ▸ G.pp)
  have hrd:rdLine (rowP x)=some (lnB 0 xT x.o.data.toList x.a x.n):=read_block (.inl rfl) xT_name (G.po x hx) a0 a1 ar
  unfold rowStep;rw[(rcut_none hno).1,(rcut_none hno).2,hrd];have hl:l.length+1<=6:=by have:=congrArg List.length e;simp at this;omega
  have hd:doPool ⟨l,[],[],[]⟩ (lnB 0 xT x.o.data.toList x.a x.n)=(⟨l++[x],[],[],[]⟩,okA):=by
    unfold doPool lnB;dsimp only;rw[if_neg (by have:=h30 x hx;omega),if_neg (by rw[any_none (fun y hy=>(G.pr y (by rw[e];simp[hy])).2.2) ar hp];simp),if_neg om]
    rw[o_byt,ins_end l x (fun y hy=>by have:=hp y hy;have:=sz_pos y.n;omega)]
  show (if (lnB 0 xT x.o.data.toList x.a x.n).v<8 then (if false=true then _ else if (doLn _ (lnB 0 xT x.o.data.toList x.a x.n)).2.e=0 then some (doLn _ (lnB 0 xT x.o.data.toList x.a x.n)).1 else none) else none)=_
  rw[show doLn ⟨l,[],[],[]⟩ (lnB 0 xT x.o.data.toList x.a x.n)=doPool ⟨l,[],[],[]⟩ (lnB 0 xT x.o.data.toList x.a x.n) from rfl,hd];rfl
theorem span_some {l:List Hd} {a n:Int} (h:∃ p,p∈l/\inn a n p.a p.n=true):¬spanH l a n<0:=by
  obtain⟨p,hp,hi⟩:=h;unfold spanH;rcases fi_cases (spansH a n) l hd0 with⟨_,q⟩|⟨k,_,e,_⟩
  . have:=q p hp
    unfold spansH at this;rw[hi] at this;cases this
  . rw[e];omega
theorem srow_net {s:Bk} (G:Good s) (h24:s.nets.length<=24) {l r:List Hd} {x:Hd} (e:s.nets=l++x::r):rowStep ⟨s.pools,l,[],[]⟩ (rowN x)=some ⟨s.pools,l++[x],[],[]⟩:=by
  have hx:x∈s.nets:=by rw[e];simp
  obtain⟨a0,a1,ar,an⟩:=G.nr x hx;have hno:(61:UInt8)∉rowN x:=cmd_no 61 (.inr rfl) om xT_name (G.no x hx) (bT_no 61 (.inr rfl) _ _)
  have hp:=pair_last (e ▸ G.np)
  have hrd:rdLine (rowN x)=some (lnB 3 xT x.o.data.toList x.a x.n):=read_block (.inr (.inr (.inl rfl))) xT_name (G.no x hx) a0 a1 ar
  unfold rowStep;rw[(rcut_none hno).1,(rcut_none hno).2,hrd];have hl:l.length+1<=24:=by have:=congrArg List.length e;simp at this;omega
  have hd:doBlock ⟨s.pools,l,[],[]⟩ (lnB 3 xT x.o.data.toList x.a x.n)=(⟨s.pools,l++[x],[],[]⟩,okA):=by
    unfold doBlock lnB;dsimp only;rw[if_neg om,if_neg (span_some (G.ni x hx)),if_neg (by rw[any_none (fun y hy=>(G.nr y (by rw[e];simp[hy])).2.2.1) ar hp];simp),if_neg om]
    rw[o_byt,ins_end l x (fun y hy=>by have:=hp y hy;have:=sz_pos y.n;omega)]
  show (if (lnB 3 xT x.o.data.toList x.a x.n).v<8 then (if false=true then _ else if (doLn _ (lnB 3 xT x.o.data.toList x.a x.n)).2.e=0 then some (doLn _ (lnB 3 xT x.o.data.toList x.a x.n)).1 else none) else none)=_
  rw[show doLn ⟨s.pools,l,[],[]⟩ (lnB 3 xT x.o.data.toList x.a x.n)=doBlock ⟨s.pools,l,[],[]⟩ (lnB 3 xT x.o.data.toList x.a x.n) from rfl,hd];rfl
theorem lease_bd {s:Bk} (G:Good s) {x:Ls} (hx:x∈s.leases):0<=x.a/\x.a<4294967296:=by
  obtain⟨h,hh,h1,h2⟩:=G.li x hx;obtain⟨g0,g1,gr,_⟩:=G.nr h hh;have:=use_bd g0 g1 gr
  omega
theorem step_lease {s:Bk} (G:Good s) (h40:s.leases.length<=40) {l r:List Ls} {x:Ls} (e:s.leases=l++x::r):rowStep ⟨s.pools,s.nets,l,[]⟩ (rowL x)=some ⟨s.pools,s.nets,l++[x],[]⟩:=by
  have hx:x∈s.leases:=by rw[e];simp
  obtain⟨a0,a1⟩:=lease_bd G hx;have hno:(61:UInt8)∉rowL x:=cmd_no 61 (.inr rfl) om xT_name (G.lo x hx) (dt_no 61 (.inr rfl) _)
  have hp:=pair_last (e ▸ G.lp)
  have hrd:rdLine (rowL x)=some { lnB 6 xT x.o.data.toList 0 0 with d:=x.a }:=by
    have h:=read_addr (k:=6) (t:=xT) (o:=x.o.data.toList) (d:=x.a.toNat) (.inl rfl) xT_name (G.lo x hx) om
    rw[show ((x.a.toNat:Nat):Int)=x.a by omega] at h
    exact h
  unfold rowStep;rw[(rcut_none hno).1,(rcut_none hno).2,hrd];have hl:l.length+1<=40:=by have:=congrArg List.length e;simp at this;omega
  have hsp:¬spanH s.nets x.a 32<0:=by
    obtain⟨h,hh,h1,h2⟩:=G.li x hx;obtain⟨g0,g1,gr,_⟩:=G.nr h hh;have hb:=use_bd g0 g1 gr;exact span_some ⟨h,hh,inn_use gr om om⟩
  obtain⟨sm,si⟩:=spanH_at hsp;have hu:=use_of G sm hx si;obtain⟨i1,i2⟩:=insL_end l x hp;have hd:doTake ⟨s.pools,s.nets,l,[]⟩ { lnB 6 xT x.o.data.toList 0 0 with d:=x.a }=(⟨s.pools,s.nets,l++[x],[]⟩,okA):=by
    unfold doTake lnB;dsimp only;rw[if_neg hsp,if_neg om,if_neg (by rw[i2];simp),if_neg om,o_byt,i1]
  show (if ({ lnB 6 xT x.o.data.toList 0 0 with d:=x.a }:Ln).v<8 then (if false=true then _ else if (doLn _ { lnB 6 xT x.o.data.toList 0 0 with d:=x.a }).2.e=0 then some (doLn _ { lnB 6 xT x.o.data.toList 0 0 with d:=x.a }).1 else none) else none)=_
  rw[show doLn ⟨s.pools,s.nets,l,[]⟩ { lnB 6 xT x.o.data.toList 0 0 with d:=x.a }=doTake ⟨s.pools,s.nets,l,[]⟩ { lnB 6 xT x.o.data.toList 0 0 with d:=x.a } from rfl,hd];rfl
def TkOk (x:Tk):Prop:=(∃ l,rdLine x.l.data.toList=some l/\l.v<8/\l.t=x.t)/\(61:UInt8)∉x.l.data.toList/\(10:UInt8)∉x.l.data.toList/\(0:UInt8)∉x.l.data.toList/\(10:UInt8)∉x.r.data.toList/\(0:UInt8)∉x.r.data.toList/\x.l.size<=100/\x.r.size<=40
theorem step_tok {s:Bk} {x:Tk} (h:TkOk x) (h8:s.toks.length<8):rowStep s (rowT x)=some { s with toks:=s.toks++[x] }:=by
  obtain⟨⟨l,h1,h2,h3⟩,h4,_⟩:=h;obtain⟨c1,c2,c3⟩:=rcut_at (b:=x.r.data.toList) h4
  unfold rowStep rowT;rw[c1,c2,c3,h1];dsimp only;rw[if_pos h2,if_pos rfl];have e:addT s.toks ⟨l.t,byt x.l.data.toList,byt x.r.data.toList⟩=s.toks++[x]:=by
    unfold addT;rw[if_neg om,h3];have e1:byt x.l.data.toList=x.l:=o_byt _
    have e2:byt x.r.data.toList=x.r:=o_byt _
    rw[e1,e2]
  rw[e]
theorem go_pools {s:Bk} (G:Good s) (h30:∀ h,h∈s.pools->8<=h.n/\h.n<=30) (h6:s.pools.length<=6):∀ (r l:List Hd),s.pools=l++r->rowsGo ⟨l,[],[],[]⟩ (r.map rowP)=some ⟨s.pools,[],[],[]⟩:=by
  intro r;induction r with
  | nil=>intro l e;rw[List.append_nil] at e;subst e;rfl
  | cons x r ih =>
    intro l e;simp only[List.map_cons,rowsGo,srow_pool G h30 h6 e]
    exact ih (l++[x]) (by rw[e];simp)
theorem go_nets {s:Bk} (G:Good s) (h24:s.nets.length<=24):∀ (r l:List Hd),s.nets=l++r->rowsGo ⟨s.pools,l,[],[]⟩ (r.map rowN)=some ⟨s.pools,s.nets,[],[]⟩:=by
  intro r;induction r with
  | nil=>intro l e;rw[List.append_nil] at e;subst e;rfl
  | cons x r ih =>
    intro l e;simp only[List.map_cons,rowsGo,srow_net G h24 e]
    exact ih (l++[x]) (by rw[e];simp)
theorem go_leases {s:Bk} (G:Good s) (h40:s.leases.length<=40):∀ (r l:List Ls),s.leases=l++r->rowsGo ⟨s.pools,s.nets,l,[]⟩ (r.map rowL)=some ⟨s.pools,s.nets,s.leases,[]⟩:=by
  intro r;induction r with
  | nil=>intro l e;rw[List.append_nil] at e;subst e;rfl
  | cons x r ih =>
    intro l e;simp only[List.map_cons,rowsGo,step_lease G h40 e]
    exact ih (l++[x]) (by rw[e];simp)
theorem go_toks {p n:List Hd} {q:List Ls}:∀ (r l:List Tk),(∀ x,x∈r->TkOk x)->l.length+r.length<=8->rowsGo ⟨p,n,q,l⟩ (r.map rowT)=some ⟨p,n,q,l++r⟩:=by
  intro r;induction r with
  | nil=>intro l _ _;simp[rowsGo]
  | cons x r ih =>
    intro l h h8;simp at h8;simp only[List.map_cons,rowsGo,step_tok (s:=⟨p,n,q,l⟩) (h x (by simp)) (by show l.length<8;omega)]
    have:=ih (l++[x]) (fun y hy=>h y (by simp[hy])) (by simp;omega)
    rw[this];simp
theorem rows_back {s:Bk} (G:Good s) (h30:∀ h,h∈s.pools->8<=h.n/\h.n<=30) (h6:s.pools.length<=6) (h24:s.nets.length<=24) (h40:s.leases.length<=40) (h8:s.toks.length<=8) (hT:∀ x,x∈s.toks->TkOk x):rowsGo bk0 (rowsS s)=some s:=by
  unfold rowsS rowsC;show rowsGo ⟨[],[],[],[]⟩ _=_
  rw[List.append_assoc,List.append_assoc,rowsGo_append _ _ _ _ (go_pools G h30 h6 s.pools [] rfl),rowsGo_append _ _ _ _ (go_nets G h24 s.nets [] rfl),rowsGo_append _ _ _ _ (go_leases G h40 s.leases [] rfl)];exact go_toks s.toks [] hT (by simpa using h8)
def B0:Int:=167772160
def annT:List UInt8:=[97,110,110]
def bobT:List UInt8:=[98,111,98]
def cyT:List UInt8:=[99,121]
def own3 (k:Nat):List UInt8:=if k%3=0 then annT else if k%3=1 then bobT else cyT
end Go.Proofs.YtjnhhnbgjjkkjaaGreatDoor
