/-
  TextCodeB, TextCodeC, TextBack, BkRd, BkFill, BkFillB, BkFy, BkSp, BkTold
-/
import Derived.Test.YtjnhhnbgjjkkjaaGreatDoorBasePAA
import Derived.Test.YtjnhhnbgjjkkjaaGreatDoorBasePAG
import Derived.Test.YtjnhhnbgjjkkjaaGreatDoorBasePAF
import Derived.Test.YtjnhhnbgjjkkjaaGreatDoorBasePAE
import Derived.Test.YtjnhhnbgjjkkjaaGreatDoorBasePAB
namespace Go.Proofs.YtjnhhnbgjjkkjaaGreatDoor
open Go.ChangeShapes Go.WideShapes Go.ChangeAt Go.RowKit
set_option linter.unusedVariables false
set_option linter.unusedSimpArgs false
def aB (l:List UInt8):Int:=match addr l with|some a=>(a:Int)|none=>0
def aOk (l:List UInt8):Bool:=(addr l).isSome
theorem a_none {l:List UInt8} (h:addr l=none):aB l=0/\aOk l=false:=by simp[aB,aOk,h]
theorem a_some {l:List UInt8} {a:Nat} (h:addr l=some a):aB l=a/\aOk l=true:=by simp[aB,aOk,h]
theorem addr_off' {l:List UInt8} (h:(parts 46 l).length≠4):addr l=none:=by
  rcases addrI_cases l with⟨_,e⟩|⟨a,e,_⟩
  . exact e
  . have:=addr_off h;omega
theorem splitn_any (s:ByteArray) (w:World) (E:Env w) (hs:s.size<=2097152) :
    Calls Tryz.prog 199 #[.string s,.string ⟨#[46]⟩,.int .i64 5] w fun e w'=>∃ (n cap:Nat) (P:Nat->ByteArray),
      e=.returned (.slice (some ⟨w.heap.size,0,none⟩) n cap)/\n<=cap/\cap<=5/\(n=4 ↔ (parts 46 s.data.toList).length=4)/\(n=4->∀ j,j<4->w'.cell? ⟨w.heap.size,j,none⟩=some (.string (P j))/\P j=bs ((parts 46 s.data.toList).getD j []))/\w.heap.size<w'.heap.size/\Below w.heap.size w w':=by
  obtain⟨m,hm⟩:=E.mx;refine(Tryz.strings_SplitN s ⟨#[46]⟩ 5 m w (om) hm (by decide) (om) (om)).mono ?_
  rintro e w' ⟨rfl,rfl⟩
  have hd:=Lib.splitB_data ⟨#[46]⟩ 0 (min 5 (s.size+1)-1) s
  have hlen:=Lib.splitB_length_le ⟨#[46]⟩ 0 (min 5 (s.size+1)-1) s
  obtain⟨L,hL⟩:∃ L,L=Lib.splitB ⟨#[46]⟩ 0 (min 5 (s.size+1)-1) s:=⟨_,rfl⟩
  rw[<- hL] at hd hlen ⊢;rw[show (⟨#[46]⟩:ByteArray).data.toList=[46] from rfl,Lib.size_eq s] at hd;obtain⟨f1,f2⟩:=split_five s.data.toList;rw[<- hd] at f1 f2;refine⟨L.length,_,fun j=>L.getD j ByteArray.empty,rfl,by omega,by omega,by simpa using f1,?_,by simp,(Below.refl _ _).alloc (Nat.le_refl _) _⟩
  intro h4 j hj;have hj':j<L.length:=by omega
  refine⟨?_,?_⟩
  . rw[World.cell?_alloc_at _ _ _ _ rfl];unfold Lib.cellsOf;simp[List.getElem?_append,hj',List.getD,List.getElem?_eq_getElem hj']
  . rw[<- f2 (f1.1 (by simpa using h4))]
    simp[List.getD,List.getElem?_eq_getElem hj']
    exact(bs_of _).symm
theorem shl_or (a x:Int) (h0:0<=a) (h1:a<16777216) (x0:0<=x) (x1:x<=255):bits .or .u32 (a*256) x=256*a+x:=by
  rw[u32_or (a*256) x (om) (om) x0 (om),nat_join 8 _ _ (om) (om)];omega
theorem acc_lt {l:List UInt8} {a:Int} {k:Nat} (ha:a=acc (fun j=>numI ((parts 46 l).getD j []) 255) k) (hk:k<4) (h:∀ j,j<k->num ((parts 46 l).getD j []) 255≠none):a<16777216:=by
  have hbd:=acc_bd (fun j=>numI ((parts 46 l).getD j []) 255) k (om) (fun j hj=>by
    rcases numI_cases ((parts 46 l).getD j []) 255 with⟨_,e⟩|⟨n,e,h',_⟩
    . exact absurd e (h j hj)
    . simp only[e];omega)
  have hpw:(256:Int)^k<=16777216:=by
    have:k=0\/k=1\/k=2\/k=3:=by omega
    rcases this with rfl|rfl|rfl|rfl<;>decide
  rw[ha];omega
set_option maxRecDepth 1000000 in
set_option maxHeartbeats 1000000 in
theorem ra_any (s:ByteArray) (w:World) (E0:Env w) (hs:s.size<=2097152) :
    Calls Tryz.prog 144 #[.string s] w fun e w'=>e=.returned (.tuple #[.int .u32 (aB s.data.toList),.bool (aOk s.data.toList)])/\Below w.heap.size w w':=by
  have E:Hid (Env w):=E0
  clear E0;by_cases h4:(parts 46 s.data.toList).length=4
  . go_enter Tryz.func144,Tryz.ntmps144
    go_wp2_with (go_at_call 199;refine(splitn_any s _ E.out hs).mono ?_;rintro e w1 ⟨n,cap,P,rfl,hnc,hcap,hn4,hcell,hsz1,hb1⟩;obtain rfl:=hn4.2 h4;have HX:Hid (∀ j,j<4->w1.cell? ⟨w.heap.size,j,none⟩=some (.string (P j))/\P j=bs ((parts 46 s.data.toList).getD j [])):=hcell rfl;clear hcell hn4)
    go_loopw [5,17] (fun t i wr=>∃ (k:Nat) (a:Int),k<=4/\0<=a/\a<4294967296/\i=.int .i64 k/\t=.int .u32 a/\Below w1.heap.size w1 wr/\Hid (a=acc (fun j=>numI ((parts 46 s.data.toList).getD j []) 255) k/\(∀ j,j<k->num ((parts 46 s.data.toList).getD j []) 255≠none))) (fun _ i _=>4-(intOf i).toNat)
    case atStart=>exact⟨0,0,by omega,by omega,by omega,rfl,rfl,Below.refl _ _,rfl,fun j hj=>by omega⟩
    case round =>
      obtain⟨k,a,hk,a0,a1,rfl,rfl,hb,H⟩:=hrel;by_cases hlt:k<4
      . have ha2:a<16777216:=acc_lt H.out.1 hlt H.out.2
        have hce:wr.cell? ⟨w.heap.size,k,none⟩=some (.string (P k)):=bcell' hb hsz1 (HX.out k hlt).1
        have E1:Hid (Env wr):=(E.out.mono hb1).mono hb
        have hPs:(P k).size<=2097152:=by
          rw[(HX.out k hlt).2,bs_size];have:=part_len 46 s.data.toList k
          have:=Lib.size_eq s
          omega
        have hPd:(P k).data.toList=(parts 46 s.data.toList).getD k []:=by rw[(HX.out k hlt).2,bs_data]
        rcases hnum:num ((parts 46 s.data.toList).getD k []) 255 with _|n
        . have hn:Hid (Calls Tryz.prog 200 #[.string (P k),.int .i64 255] wr fun e w'=>e=.returned (.tuple #[.int .i64 0,.bool false])/\Below wr.heap.size wr w'):=by
            have h:=rn_any (P k) 255 wr E1.out hPs (om) (om)
            rw[hPd] at h;obtain⟨q1,q2⟩:=n_none hnum;rw[show (255:Int).toNat=255 from rfl,q1,q2] at h;exact h
          have hno:Hid (addr s.data.toList=none):=by
            rcases addrI_cases s.data.toList with⟨_,e⟩|⟨x,e,_⟩
            . exact e
            . have:=addr_bad h4 hlt hnum;omega
          clear hnum hPd;go_wp2_with (go_at_call 200;refine hn.out.mono ?_;rintro e w2 ⟨rfl,hb2⟩)
          go_ret2
          obtain⟨q1,q2⟩:=a_none hno.out;rw[q1,q2];exact⟨rfl,(hb1.trans (hb.mono (Nat.le_of_lt hsz1))).trans (hb2.mono (Nat.le_trans (Nat.le_of_lt hsz1) hb.size))⟩
        . have hnx:n<=255:=(num_some.1 hnum).1
          obtain⟨x,hx⟩:∃ x:Int,x=n:=⟨_,rfl⟩
          have x0:0<=x:=by omega
          have x1:x<=255:=by omega
          have hn:Hid (Calls Tryz.prog 200 #[.string (P k),.int .i64 255] wr fun e w'=>e=.returned (.tuple #[.int .i64 x,.bool true])/\Below wr.heap.size wr w'):=by
            have h:=rn_any (P k) 255 wr E1.out hPs (om) (om)
            rw[hPd] at h;obtain⟨q1,q2⟩:=n_some hnum;rw[show (255:Int).toNat=255 from rfl,q1,q2,<- hx] at h;exact h
          have H2:Hid (256*a+x=acc (fun j=>numI ((parts 46 s.data.toList).getD j []) 255) (k+1)/\(∀ j,j<k+1->num ((parts 46 s.data.toList).getD j []) 255≠none)):=by
            refine⟨?_,fun j hj=>?_⟩
            . rw[acc,<- H.out.1];simp only[numI,hnum];omega
            . by_cases e:j<k
              . exact H.out.2 j e
              . obtain rfl:j=k:=by omega
                rw[hnum];simp
          have hor:=shl_or a x a0 ha2 x0 x1;clear hnum hPd hx hnx H;go_wp2_with (go_at_call 200;refine hn.out.mono ?_;rintro e w2 ⟨rfl,hb2⟩)
          go_roundw
          case rel=>exact⟨k+1,256*a+x,by omega,by omega,by omega,by go_num,rfl,hb.trans (hb2.mono hb.size),H2⟩
          case measure=>simp[intOf];omega
      . obtain rfl:k=4:=by omega
        go_wp2;go_ret2
        have hg:=addr_good h4 H.out.2;rw[<- H.out.1] at hg;have hs4:addr s.data.toList=some a.toNat:=by
          rcases addrI_cases s.data.toList with⟨e,_⟩|⟨x,e,e2⟩
          . omega
          . rw[e2];congr 1;omega
        obtain⟨q1,q2⟩:=a_some hs4;rw[q1,q2,show ((a.toNat:Nat):Int)=a by omega]
        exact⟨rfl,hb1.trans (hb.mono (Nat.le_of_lt hsz1))⟩
  . obtain⟨q1,q2⟩:=a_none (addr_off' h4)
    rw[q1,q2];clear q1 q2;go_enter Tryz.func144,Tryz.ntmps144
    go_wp2_with (go_at_call 199;refine(splitn_any s _ E.out hs).mono ?_;rintro e w1 ⟨n,cap,P,rfl,hnc,hcap,hn4,hcell,hsz1,hb1⟩;have hne:((n:Int)==4)=false:=(by simp;intro e;exact h4 (hn4.1 (om)));clear hcell hn4)
    go_ret2
    exact⟨rfl,hb1⟩
theorem drew_below {w w':World} (h:∃ n,w'=w.drewN n):Below w.heap.size w w':=by
  obtain⟨n,rfl⟩:=h;exact below_drewN (Below.refl _ _) n
theorem cut_any (s:ByteArray) (w:World) (E:Env w) (hs:s.size<=2097152) (a b:List UInt8) (f:Bool) (h:Lib.cut s.data.toList [47]=(a,b,f)) :
    Calls Tryz.prog 87 #[.string s,.string ⟨#[47]⟩] w fun e w'=>e=.returned (.tuple #[.string (bs a),.string (bs b),.bool f])/\Below w.heap.size w w':=by
  obtain⟨m,hm⟩:=E.mx;refine(Tryz.strings_Cut s ⟨#[47]⟩ m w (om) hm).mono ?_
  rintro e w' ⟨rfl,hd⟩
  rw[show (⟨#[47]⟩:ByteArray).data.toList=[47] from rfl,h];exact⟨rfl,drew_below hd⟩
theorem rd_noslash {l:List UInt8} (h:47∉l):rd l=none:=rd_off (by rw[parts_none 47 l h];simp)
theorem rd_cut {a b:List UInt8} (h:47∉a):rd (a++47::b)=(match addr a,num b 32 with
    | some x,some n=>if rt x n then some ((x:Int),(n:Int)) else none
    | _,_=>none):=by
  rcases first_cut 47 b with hb|⟨c,d,rfl,hc⟩
  . have hp:parts 47 (a++47::b)=[a,b]:=by rw[parts_cons 47 a b h,parts_none 47 b hb]
    unfold rd;rw[hp];rfl
  . have hn:num (c++47::d) 32=none:=num_none.2 fun n hn e=>by
      have:=dec_no 47 (by decide) n
      rw[e] at this;simp at this
    rw[hn];have hoff:rd (a++47::(c++47::d))=none:=rd_off (by
      rw[parts_cons 47 a _ h,parts_cons 47 c d hc];have:=parts_pos 47 d
      rw[List.length_cons,List.length_cons];omega)
    rw[hoff]
    cases addr a<;>rfl
set_option maxRecDepth 1000000 in
set_option maxHeartbeats 1000000 in
theorem bread_none (s:ByteArray) (w:World) (t0 t1:ByteArray) (f okA okN:Bool) (x y:Int) (E:Hid (Env w))
    (cc:Hid (∀ w,Env w->Calls Tryz.prog 87 #[.string s,.string ⟨#[47]⟩] w fun e w'=>e=.returned (.tuple #[.string t0,.string t1,.bool f])/\Below w.heap.size w w'))
    (ca:Hid (∀ w,Env w->Calls Tryz.prog 144 #[.string t0] w fun e w'=>e=.returned (.tuple #[.int .u32 x,.bool okA])/\Below w.heap.size w w'))
    (cn:Hid (∀ w,Env w->Calls Tryz.prog 145 #[.string t1] w fun e w'=>e=.returned (.tuple #[.int .i64 y,.bool okN])/\Below w.heap.size w w')) (h:f=false) :
    Calls Tryz.prog 143 #[.string s] w fun e w'=>e=.returned (.tuple #[.agg #[.int .u32 (0),.int .i64 (0)],.int .i64 (1)])/\Below w.heap.size w w':=by
  go_enter Tryz.func143,Tryz.ntmps143
  go_wp2_with (first|(go_at_call 87;refine(cc.out _ (E.out.mono (upB))).mono ?_;rintro e w1 ⟨rfl,hb1⟩;obtain⟨hc,hf⟩:=bcell hb1;have c1_0_0:w1.cell? ⟨w.heap.size,0,none⟩=some (.int .u32 0):=((hc _ _ (byO)).trans (byC));have f1_0_0:w1.frozen? ⟨w.heap.size,0,none⟩=false:=((hf _ _ (byO)).trans (byF));have c1_0_1:w1.cell? ⟨w.heap.size,1,none⟩=some (.int .i64 0):=((hc _ _ (byO)).trans (byC));have f1_0_1:w1.frozen? ⟨w.heap.size,1,none⟩=false:=((hf _ _ (byO)).trans (byF));have z1_0:w.heap.size<w1.heap.size:=(by have:=hb1.size;(try simp at this);omega);clear hc hf;have E1:Hid (Env w1):=(E.out.mono (upB)).mono hb1)|(go_at_call 144;refine(ca.out _ E1.out).mono ?_;rintro e w2 ⟨rfl,hb2⟩;obtain⟨hc,hf⟩:=bcell hb2;have c2_0_0:w2.cell? ⟨w.heap.size,0,none⟩=some (.int .u32 0):=((hc _ _ (byO)).trans (byC));have f2_0_0:w2.frozen? ⟨w.heap.size,0,none⟩=false:=((hf _ _ (byO)).trans (byF));have c2_0_1:w2.cell? ⟨w.heap.size,1,none⟩=some (.int .i64 0):=((hc _ _ (byO)).trans (byC));have f2_0_1:w2.frozen? ⟨w.heap.size,1,none⟩=false:=((hf _ _ (byO)).trans (byF));have z2_0:w.heap.size<w2.heap.size:=(by have:=hb2.size;(try simp at this);omega);clear hc hf;have E2:Hid (Env w2):=E1.out.mono hb2;clear c1_0_0 c1_0_1 f1_0_0 f1_0_1 z1_0)|(go_at_call 145;refine(cn.out _ E2.out).mono ?_;rintro e w3 ⟨rfl,hb3⟩;obtain⟨hc,hf⟩:=bcell hb3;have c3_0_0:w3.cell? ⟨w.heap.size,0,none⟩=some (.int .u32 0):=((hc _ _ (byO)).trans (byC));have f3_0_0:w3.frozen? ⟨w.heap.size,0,none⟩=false:=((hf _ _ (byO)).trans (byF));have c3_0_1:w3.cell? ⟨w.heap.size,1,none⟩=some (.int .i64 0):=((hc _ _ (byO)).trans (byC));have f3_0_1:w3.frozen? ⟨w.heap.size,1,none⟩=false:=((hf _ _ (byO)).trans (byF));have z3_0:w.heap.size<w3.heap.size:=(by have:=hb3.size;(try simp at this);omega);clear hc hf;clear c2_0_0 c2_0_1 f2_0_0 f2_0_1 z2_0))
  exact bodyPost_ret (v:=.tuple #[.agg #[.int .u32 (0),.int .i64 (0)],.int .i64 (1)]) (by simp[results,Tryz.results143,go_sem,c3_0_0,c3_0_1,f3_0_0,f3_0_1,World.cell?_alloc_lt,z3_0,Nat.lt_succ_of_lt z3_0]) rfl ⟨rfl,(by have hq:=hb1.mono (B':=w.heap.size) (byO);have hq2:=Below.trans (B:=w.heap.size) (a:=w) (upB) hq;clear hq;have s1:=hq2.size;have hq3:=Below.trans (B:=w.heap.size) (a:=w) (upB) (hb2.mono (B':=w.heap.size) (byO));have s2:=hq3.size;clear hq2;have hq4:=Below.trans (B:=w.heap.size) (a:=w) (upB) (hb3.mono (B':=w.heap.size) (byO));have s3:=hq4.size;clear hq3;exact upB)⟩
set_option maxRecDepth 1000000 in
set_option maxHeartbeats 1000000 in
theorem bread_addr (s:ByteArray) (w:World) (t0 t1:ByteArray) (f okA okN:Bool) (x y:Int) (E:Hid (Env w))
    (cc:Hid (∀ w,Env w->Calls Tryz.prog 87 #[.string s,.string ⟨#[47]⟩] w fun e w'=>e=.returned (.tuple #[.string t0,.string t1,.bool f])/\Below w.heap.size w w'))
    (ca:Hid (∀ w,Env w->Calls Tryz.prog 144 #[.string t0] w fun e w'=>e=.returned (.tuple #[.int .u32 x,.bool okA])/\Below w.heap.size w w'))
    (cn:Hid (∀ w,Env w->Calls Tryz.prog 145 #[.string t1] w fun e w'=>e=.returned (.tuple #[.int .i64 y,.bool okN])/\Below w.heap.size w w')) (h:f=true) (ha:okA=false) :
    Calls Tryz.prog 143 #[.string s] w fun e w'=>e=.returned (.tuple #[.agg #[.int .u32 (0),.int .i64 (0)],.int .i64 (1)])/\Below w.heap.size w w':=by
  go_enter Tryz.func143,Tryz.ntmps143
  go_wp2_with (first|(go_at_call 87;refine(cc.out _ (E.out.mono (upB))).mono ?_;rintro e w1 ⟨rfl,hb1⟩;obtain⟨hc,hf⟩:=bcell hb1;have c1_0_0:w1.cell? ⟨w.heap.size,0,none⟩=some (.int .u32 0):=((hc _ _ (byO)).trans (byC));have f1_0_0:w1.frozen? ⟨w.heap.size,0,none⟩=false:=((hf _ _ (byO)).trans (byF));have c1_0_1:w1.cell? ⟨w.heap.size,1,none⟩=some (.int .i64 0):=((hc _ _ (byO)).trans (byC));have f1_0_1:w1.frozen? ⟨w.heap.size,1,none⟩=false:=((hf _ _ (byO)).trans (byF));have z1_0:w.heap.size<w1.heap.size:=(by have:=hb1.size;(try simp at this);omega);clear hc hf;have E1:Hid (Env w1):=(E.out.mono (upB)).mono hb1)|(go_at_call 144;refine(ca.out _ E1.out).mono ?_;rintro e w2 ⟨rfl,hb2⟩;obtain⟨hc,hf⟩:=bcell hb2;have c2_0_0:w2.cell? ⟨w.heap.size,0,none⟩=some (.int .u32 0):=((hc _ _ (byO)).trans (byC));have f2_0_0:w2.frozen? ⟨w.heap.size,0,none⟩=false:=((hf _ _ (byO)).trans (byF));have c2_0_1:w2.cell? ⟨w.heap.size,1,none⟩=some (.int .i64 0):=((hc _ _ (byO)).trans (byC));have f2_0_1:w2.frozen? ⟨w.heap.size,1,none⟩=false:=((hf _ _ (byO)).trans (byF));have z2_0:w.heap.size<w2.heap.size:=(by have:=hb2.size;(try simp at this);omega);clear hc hf;have E2:Hid (Env w2):=E1.out.mono hb2;clear c1_0_0 c1_0_1 f1_0_0 f1_0_1 z1_0)|(go_at_call 145;refine(cn.out _ E2.out).mono ?_;rintro e w3 ⟨rfl,hb3⟩;obtain⟨hc,hf⟩:=bcell hb3;have c3_0_0:w3.cell? ⟨w.heap.size,0,none⟩=some (.int .u32 0):=((hc _ _ (byO)).trans (byC));have f3_0_0:w3.frozen? ⟨w.heap.size,0,none⟩=false:=((hf _ _ (byO)).trans (byF));have c3_0_1:w3.cell? ⟨w.heap.size,1,none⟩=some (.int .i64 0):=((hc _ _ (byO)).trans (byC));have f3_0_1:w3.frozen? ⟨w.heap.size,1,none⟩=false:=((hf _ _ (byO)).trans (byF));have z3_0:w.heap.size<w3.heap.size:=(by have:=hb3.size;(try simp at this);omega);clear hc hf;clear c2_0_0 c2_0_1 f2_0_0 f2_0_1 z2_0))
  exact bodyPost_ret (v:=.tuple #[.agg #[.int .u32 (0),.int .i64 (0)],.int .i64 (1)]) (by simp[results,Tryz.results143,go_sem,c3_0_0,c3_0_1,f3_0_0,f3_0_1,World.cell?_alloc_lt,z3_0,Nat.lt_succ_of_lt z3_0]) rfl ⟨rfl,(by have hq:=hb1.mono (B':=w.heap.size) (byO);have hq2:=Below.trans (B:=w.heap.size) (a:=w) (upB) hq;clear hq;have s1:=hq2.size;have hq3:=Below.trans (B:=w.heap.size) (a:=w) (upB) (hb2.mono (B':=w.heap.size) (byO));have s2:=hq3.size;clear hq2;have hq4:=Below.trans (B:=w.heap.size) (a:=w) (upB) (hb3.mono (B':=w.heap.size) (byO));have s3:=hq4.size;clear hq3;exact upB)⟩
set_option maxRecDepth 1000000 in
set_option maxHeartbeats 1000000 in
theorem bread_num (s:ByteArray) (w:World) (t0 t1:ByteArray) (f okA okN:Bool) (x y:Int) (E:Hid (Env w))
    (cc:Hid (∀ w,Env w->Calls Tryz.prog 87 #[.string s,.string ⟨#[47]⟩] w fun e w'=>e=.returned (.tuple #[.string t0,.string t1,.bool f])/\Below w.heap.size w w'))
    (ca:Hid (∀ w,Env w->Calls Tryz.prog 144 #[.string t0] w fun e w'=>e=.returned (.tuple #[.int .u32 x,.bool okA])/\Below w.heap.size w w'))
    (cn:Hid (∀ w,Env w->Calls Tryz.prog 145 #[.string t1] w fun e w'=>e=.returned (.tuple #[.int .i64 y,.bool okN])/\Below w.heap.size w w')) (h:f=true) (ha:okA=true) (hn:okN=false) :
    Calls Tryz.prog 143 #[.string s] w fun e w'=>e=.returned (.tuple #[.agg #[.int .u32 (0),.int .i64 (0)],.int .i64 (1)])/\Below w.heap.size w w':=by
  go_enter Tryz.func143,Tryz.ntmps143
  go_wp2_with (first|(go_at_call 87;refine(cc.out _ (E.out.mono (upB))).mono ?_;rintro e w1 ⟨rfl,hb1⟩;obtain⟨hc,hf⟩:=bcell hb1;have c1_0_0:w1.cell? ⟨w.heap.size,0,none⟩=some (.int .u32 0):=((hc _ _ (byO)).trans (byC));have f1_0_0:w1.frozen? ⟨w.heap.size,0,none⟩=false:=((hf _ _ (byO)).trans (byF));have c1_0_1:w1.cell? ⟨w.heap.size,1,none⟩=some (.int .i64 0):=((hc _ _ (byO)).trans (byC));have f1_0_1:w1.frozen? ⟨w.heap.size,1,none⟩=false:=((hf _ _ (byO)).trans (byF));have z1_0:w.heap.size<w1.heap.size:=(by have:=hb1.size;(try simp at this);omega);clear hc hf;have E1:Hid (Env w1):=(E.out.mono (upB)).mono hb1)|(go_at_call 144;refine(ca.out _ E1.out).mono ?_;rintro e w2 ⟨rfl,hb2⟩;obtain⟨hc,hf⟩:=bcell hb2;have c2_0_0:w2.cell? ⟨w.heap.size,0,none⟩=some (.int .u32 0):=((hc _ _ (byO)).trans (byC));have f2_0_0:w2.frozen? ⟨w.heap.size,0,none⟩=false:=((hf _ _ (byO)).trans (byF));have c2_0_1:w2.cell? ⟨w.heap.size,1,none⟩=some (.int .i64 0):=((hc _ _ (byO)).trans (byC));have f2_0_1:w2.frozen? ⟨w.heap.size,1,none⟩=false:=((hf _ _ (byO)).trans (byF));have z2_0:w.heap.size<w2.heap.size:=(by have:=hb2.size;(try simp at this);omega);clear hc hf;have E2:Hid (Env w2):=E1.out.mono hb2;clear c1_0_0 c1_0_1 f1_0_0 f1_0_1 z1_0)|(go_at_call 145;refine(cn.out _ E2.out).mono ?_;rintro e w3 ⟨rfl,hb3⟩;obtain⟨hc,hf⟩:=bcell hb3;have c3_0_0:w3.cell? ⟨w.heap.size,0,none⟩=some (.int .u32 0):=((hc _ _ (byO)).trans (byC));have f3_0_0:w3.frozen? ⟨w.heap.size,0,none⟩=false:=((hf _ _ (byO)).trans (byF));have c3_0_1:w3.cell? ⟨w.heap.size,1,none⟩=some (.int .i64 0):=((hc _ _ (byO)).trans (byC));have f3_0_1:w3.frozen? ⟨w.heap.size,1,none⟩=false:=((hf _ _ (byO)).trans (byF));have z3_0:w.heap.size<w3.heap.size:=(by have:=hb3.size;(try simp at this);omega);clear hc hf;clear c2_0_0 c2_0_1 f2_0_0 f2_0_1 z2_0))
  exact bodyPost_ret (v:=.tuple #[.agg #[.int .u32 (0),.int .i64 (0)],.int .i64 (1)]) (by simp[results,Tryz.results143,go_sem,c3_0_0,c3_0_1,f3_0_0,f3_0_1,World.cell?_alloc_lt,z3_0,Nat.lt_succ_of_lt z3_0]) rfl ⟨rfl,(by have hq:=hb1.mono (B':=w.heap.size) (byO);have hq2:=Below.trans (B:=w.heap.size) (a:=w) (upB) hq;clear hq;have s1:=hq2.size;have hq3:=Below.trans (B:=w.heap.size) (a:=w) (upB) (hb2.mono (B':=w.heap.size) (byO));have s2:=hq3.size;clear hq2;have hq4:=Below.trans (B:=w.heap.size) (a:=w) (upB) (hb3.mono (B':=w.heap.size) (byO));have s3:=hq4.size;clear hq3;exact upB)⟩
set_option maxRecDepth 1000000 in
set_option maxHeartbeats 1000000 in
theorem bread_not (s:ByteArray) (w:World) (t0 t1:ByteArray) (f okA okN:Bool) (x y:Int) (E:Hid (Env w))
    (cc:Hid (∀ w,Env w->Calls Tryz.prog 87 #[.string s,.string ⟨#[47]⟩] w fun e w'=>e=.returned (.tuple #[.string t0,.string t1,.bool f])/\Below w.heap.size w w'))
    (ca:Hid (∀ w,Env w->Calls Tryz.prog 144 #[.string t0] w fun e w'=>e=.returned (.tuple #[.int .u32 x,.bool okA])/\Below w.heap.size w w'))
    (cn:Hid (∀ w,Env w->Calls Tryz.prog 145 #[.string t1] w fun e w'=>e=.returned (.tuple #[.int .i64 y,.bool okN])/\Below w.heap.size w w')) (h:f=true) (ha:okA=true) (hn:okN=true) (x0:0<=x) (x1:x<4294967296) (hr:rt x y=false) :
    Calls Tryz.prog 143 #[.string s] w fun e w'=>e=.returned (.tuple #[.agg #[.int .u32 (0),.int .i64 (0)],.int .i64 (1)])/\Below w.heap.size w w':=by
  go_enter Tryz.func143,Tryz.ntmps143
  go_wp2_with (first|(go_at_call 87;refine(cc.out _ (E.out.mono (upB))).mono ?_;rintro e w1 ⟨rfl,hb1⟩;obtain⟨hc,hf⟩:=bcell hb1;have c1_0_0:w1.cell? ⟨w.heap.size,0,none⟩=some (.int .u32 0):=((hc _ _ (byO)).trans (byC));have f1_0_0:w1.frozen? ⟨w.heap.size,0,none⟩=false:=((hf _ _ (byO)).trans (byF));have c1_0_1:w1.cell? ⟨w.heap.size,1,none⟩=some (.int .i64 0):=((hc _ _ (byO)).trans (byC));have f1_0_1:w1.frozen? ⟨w.heap.size,1,none⟩=false:=((hf _ _ (byO)).trans (byF));have z1_0:w.heap.size<w1.heap.size:=(by have:=hb1.size;(try simp at this);omega);clear hc hf;have E1:Hid (Env w1):=(E.out.mono (upB)).mono hb1)|(go_at_call 144;refine(ca.out _ E1.out).mono ?_;rintro e w2 ⟨rfl,hb2⟩;obtain⟨hc,hf⟩:=bcell hb2;have c2_0_0:w2.cell? ⟨w.heap.size,0,none⟩=some (.int .u32 0):=((hc _ _ (byO)).trans (byC));have f2_0_0:w2.frozen? ⟨w.heap.size,0,none⟩=false:=((hf _ _ (byO)).trans (byF));have c2_0_1:w2.cell? ⟨w.heap.size,1,none⟩=some (.int .i64 0):=((hc _ _ (byO)).trans (byC));have f2_0_1:w2.frozen? ⟨w.heap.size,1,none⟩=false:=((hf _ _ (byO)).trans (byF));have z2_0:w.heap.size<w2.heap.size:=(by have:=hb2.size;(try simp at this);omega);clear hc hf;have E2:Hid (Env w2):=E1.out.mono hb2;clear c1_0_0 c1_0_1 f1_0_0 f1_0_1 z1_0)|(go_at_call 145;refine(cn.out _ E2.out).mono ?_;rintro e w3 ⟨rfl,hb3⟩;obtain⟨hc,hf⟩:=bcell hb3;have c3_0_0:w3.cell? ⟨w.heap.size,0,none⟩=some (.int .u32 0):=((hc _ _ (byO)).trans (byC));have f3_0_0:w3.frozen? ⟨w.heap.size,0,none⟩=false:=((hf _ _ (byO)).trans (byF));have c3_0_1:w3.cell? ⟨w.heap.size,1,none⟩=some (.int .i64 0):=((hc _ _ (byO)).trans (byC));have f3_0_1:w3.frozen? ⟨w.heap.size,1,none⟩=false:=((hf _ _ (byO)).trans (byF));have z3_0:w.heap.size<w3.heap.size:=(by have:=hb3.size;(try simp at this);omega);clear hc hf;clear c2_0_0 c2_0_1 f2_0_0 f2_0_1 z2_0)|(go_at_call 198;refine(right_any _ _ _ x0 x1).mono ?_;rintro e w4 ⟨rfl,hb4⟩;obtain⟨hc,hf⟩:=bcell hb4;have c4_0_0:w4.cell? ⟨w.heap.size,0,none⟩=some (.int .u32 0):=((hc _ _ (byO)).trans (byC));have f4_0_0:w4.frozen? ⟨w.heap.size,0,none⟩=false:=((hf _ _ (byO)).trans (byF));have c4_0_1:w4.cell? ⟨w.heap.size,1,none⟩=some (.int .i64 0):=((hc _ _ (byO)).trans (byC));have f4_0_1:w4.frozen? ⟨w.heap.size,1,none⟩=false:=((hf _ _ (byO)).trans (byF));have c4_1_0:w4.cell? ⟨w3.heap.size,0,none⟩=some (.int .u32 x):=((hc _ _ (byO)).trans (byC));have c4_1_1:w4.cell? ⟨w3.heap.size,1,none⟩=some (.int .i64 y):=((hc _ _ (byO)).trans (byC));have z4_0:w.heap.size<w4.heap.size:=(by have:=hb4.size;(try simp at this);omega);have z4_1:w3.heap.size<w4.heap.size:=(by have:=hb4.size;(try simp at this);omega);clear hc hf;clear c3_0_0 c3_0_1 f3_0_0 f3_0_1 z3_0))
  exact bodyPost_ret (v:=.tuple #[.agg #[.int .u32 (0),.int .i64 (0)],.int .i64 (1)]) (by simp[results,Tryz.results143,go_sem,c4_0_0,c4_0_1,f4_0_0,f4_0_1,World.cell?_alloc_lt,z4_0,Nat.lt_succ_of_lt z4_0]) rfl ⟨rfl,(by have hq:=hb1.mono (B':=w.heap.size) (byO);have hq2:=Below.trans (B:=w.heap.size) (a:=w) (upB) hq;clear hq;have s1:=hq2.size;have hq3:=Below.trans (B:=w.heap.size) (a:=w) (upB) (hb2.mono (B':=w.heap.size) (byO));have s2:=hq3.size;clear hq2;have hq4:=Below.trans (B:=w.heap.size) (a:=w) (upB) (hb3.mono (B':=w.heap.size) (byO));have s3:=hq4.size;clear hq3;have hq5:=Below.trans (B:=w.heap.size) (a:=w) (upB) (hb4.mono (B':=w.heap.size) (byO));have s4:=hq5.size;clear hq4;exact upB)⟩
set_option maxRecDepth 1000000 in
set_option maxHeartbeats 1000000 in
theorem bread_ok (s:ByteArray) (w:World) (t0 t1:ByteArray) (f okA okN:Bool) (x y:Int) (E:Hid (Env w))
    (cc:Hid (∀ w,Env w->Calls Tryz.prog 87 #[.string s,.string ⟨#[47]⟩] w fun e w'=>e=.returned (.tuple #[.string t0,.string t1,.bool f])/\Below w.heap.size w w'))
    (ca:Hid (∀ w,Env w->Calls Tryz.prog 144 #[.string t0] w fun e w'=>e=.returned (.tuple #[.int .u32 x,.bool okA])/\Below w.heap.size w w'))
    (cn:Hid (∀ w,Env w->Calls Tryz.prog 145 #[.string t1] w fun e w'=>e=.returned (.tuple #[.int .i64 y,.bool okN])/\Below w.heap.size w w')) (h:f=true) (ha:okA=true) (hn:okN=true) (x0:0<=x) (x1:x<4294967296) (hr:rt x y=true) :
    Calls Tryz.prog 143 #[.string s] w fun e w'=>e=.returned (.tuple #[.agg #[.int .u32 (x),.int .i64 (y)],.int .i64 (0)])/\Below w.heap.size w w':=by
  go_enter Tryz.func143,Tryz.ntmps143
  go_wp2_with (first|(go_at_call 87;refine(cc.out _ (E.out.mono (upB))).mono ?_;rintro e w1 ⟨rfl,hb1⟩;obtain⟨hc,hf⟩:=bcell hb1;have c1_0_0:w1.cell? ⟨w.heap.size,0,none⟩=some (.int .u32 0):=((hc _ _ (byO)).trans (byC));have f1_0_0:w1.frozen? ⟨w.heap.size,0,none⟩=false:=((hf _ _ (byO)).trans (byF));have c1_0_1:w1.cell? ⟨w.heap.size,1,none⟩=some (.int .i64 0):=((hc _ _ (byO)).trans (byC));have f1_0_1:w1.frozen? ⟨w.heap.size,1,none⟩=false:=((hf _ _ (byO)).trans (byF));have z1_0:w.heap.size<w1.heap.size:=(by have:=hb1.size;(try simp at this);omega);clear hc hf;have E1:Hid (Env w1):=(E.out.mono (upB)).mono hb1)|(go_at_call 144;refine(ca.out _ E1.out).mono ?_;rintro e w2 ⟨rfl,hb2⟩;obtain⟨hc,hf⟩:=bcell hb2;have c2_0_0:w2.cell? ⟨w.heap.size,0,none⟩=some (.int .u32 0):=((hc _ _ (byO)).trans (byC));have f2_0_0:w2.frozen? ⟨w.heap.size,0,none⟩=false:=((hf _ _ (byO)).trans (byF));have c2_0_1:w2.cell? ⟨w.heap.size,1,none⟩=some (.int .i64 0):=((hc _ _ (byO)).trans (byC));have f2_0_1:w2.frozen? ⟨w.heap.size,1,none⟩=false:=((hf _ _ (byO)).trans (byF));have z2_0:w.heap.size<w2.heap.size:=(by have:=hb2.size;(try simp at this);omega);clear hc hf;have E2:Hid (Env w2):=E1.out.mono hb2;clear c1_0_0 c1_0_1 f1_0_0 f1_0_1 z1_0)|(go_at_call 145;refine(cn.out _ E2.out).mono ?_;rintro e w3 ⟨rfl,hb3⟩;obtain⟨hc,hf⟩:=bcell hb3;have c3_0_0:w3.cell? ⟨w.heap.size,0,none⟩=some (.int .u32 0):=((hc _ _ (byO)).trans (byC));have f3_0_0:w3.frozen? ⟨w.heap.size,0,none⟩=false:=((hf _ _ (byO)).trans (byF));have c3_0_1:w3.cell? ⟨w.heap.size,1,none⟩=some (.int .i64 0):=((hc _ _ (byO)).trans (byC));have f3_0_1:w3.frozen? ⟨w.heap.size,1,none⟩=false:=((hf _ _ (byO)).trans (byF));have z3_0:w.heap.size<w3.heap.size:=(by have:=hb3.size;(try simp at this);omega);clear hc hf;clear c2_0_0 c2_0_1 f2_0_0 f2_0_1 z2_0)|(go_at_call 198;refine(right_any _ _ _ x0 x1).mono ?_;rintro e w4 ⟨rfl,hb4⟩;obtain⟨hc,hf⟩:=bcell hb4;have c4_0_0:w4.cell? ⟨w.heap.size,0,none⟩=some (.int .u32 0):=((hc _ _ (byO)).trans (byC));have f4_0_0:w4.frozen? ⟨w.heap.size,0,none⟩=false:=((hf _ _ (byO)).trans (byF));have c4_0_1:w4.cell? ⟨w.heap.size,1,none⟩=some (.int .i64 0):=((hc _ _ (byO)).trans (byC));have f4_0_1:w4.frozen? ⟨w.heap.size,1,none⟩=false:=((hf _ _ (byO)).trans (byF));have c4_1_0:w4.cell? ⟨w3.heap.size,0,none⟩=some (.int .u32 x):=((hc _ _ (byO)).trans (byC));have c4_1_1:w4.cell? ⟨w3.heap.size,1,none⟩=some (.int .i64 y):=((hc _ _ (byO)).trans (byC));have z4_0:w.heap.size<w4.heap.size:=(by have:=hb4.size;(try simp at this);omega);have z4_1:w3.heap.size<w4.heap.size:=(by have:=hb4.size;(try simp at this);omega);clear hc hf;clear c3_0_0 c3_0_1 f3_0_0 f3_0_1 z3_0))
  exact bodyPost_ret (v:=.tuple #[.agg #[.int .u32 (x),.int .i64 (y)],.int .i64 (0)]) (by simp[results,Tryz.results143,go_sem,c4_0_0,c4_0_1,f4_0_0,f4_0_1,World.cell?_alloc_lt,z4_0,Nat.lt_succ_of_lt z4_0]) rfl ⟨rfl,(by have hq:=hb1.mono (B':=w.heap.size) (byO);have hq2:=Below.trans (B:=w.heap.size) (a:=w) (upB) hq;clear hq;have s1:=hq2.size;have hq3:=Below.trans (B:=w.heap.size) (a:=w) (upB) (hb2.mono (B':=w.heap.size) (byO));have s2:=hq3.size;clear hq2;have hq4:=Below.trans (B:=w.heap.size) (a:=w) (upB) (hb3.mono (B':=w.heap.size) (byO));have s3:=hq4.size;clear hq3;have hq5:=Below.trans (B:=w.heap.size) (a:=w) (upB) (hb4.mono (B':=w.heap.size) (byO));have s4:=hq5.size;clear hq4;exact upB)⟩
theorem bread_any (s:ByteArray) (w:World) (E:Env w) (hs:s.size<=2097152) :
    Calls Tryz.prog 143 #[.string s] w fun e w'=>e=.returned (.tuple #[.agg #[.int .u32 (rdB s.data.toList),.int .i64 (rdN s.data.toList)],.int .i64 (rdE s.data.toList)])/\Below w.heap.size w w':=by
  have hl:=Lib.size_eq s;have ca:∀ l:List UInt8,l.length<=s.size->∀ w,Env w->Calls Tryz.prog 144 #[.string (bs l)] w fun e w'=>e=.returned (.tuple #[.int .u32 (aB l),.bool (aOk l)])/\Below w.heap.size w w':=fun l h w E=>by
    have:=ra_any (bs l) w E (by rw[bs_size];omega)
    rw[bs_data] at this;exact this
  have cn:∀ l:List UInt8,l.length<=s.size->∀ w,Env w->Calls Tryz.prog 145 #[.string (bs l)] w fun e w'=>e=.returned (.tuple #[.int .i64 (nB l 32),.bool (nOk l 32)])/\Below w.heap.size w w':=fun l h w E=>by
    have:=rbits_any (bs l) w E (by rw[bs_size];omega)
    rw[bs_data] at this;exact this
  rcases first_cut 47 s.data.toList with h|⟨a,b,hab,h⟩
  . obtain⟨q1,q2,q3⟩:=rd_none (rd_noslash h)
    rw[q1,q2,q3];exact bread_none s w _ _ _ _ _ _ _ E (fun w E=>cut_any s w E hs _ _ _ (cut_no 47 _ h)) (ca _ (om)) (cn _ (by simp)) rfl
  . have hrd:=rd_cut (b:=b) h
    rw[<- hab] at hrd;have la:a.length<=s.size:=by rw[hl,hab];simp
    have lb:b.length<=s.size:=by rw[hl,hab];simp;omega
    have cc:∀ w,Env w->Calls Tryz.prog 87 #[.string s,.string ⟨#[47]⟩] w fun e w'=>e=.returned (.tuple #[.string (bs a),.string (bs b),.bool true])/\Below w.heap.size w w':=fun w E=>cut_any s w E hs _ _ _ (by rw[hab];exact cut_at 47 a b h)
    have ca:=ca a la;have cn:=cn b lb;rcases ea:addr a with _|x
    . rw[ea] at hrd;obtain⟨q1,q2,q3⟩:=rd_none hrd;rw[q1,q2,q3];exact bread_addr s w _ _ _ _ _ _ _ E cc ca cn rfl (a_none ea).2
    . have hx:=addr_lt ea;obtain⟨r1,r2⟩:=a_some ea;rw[r1,r2] at ca;rcases en:num b 32 with _|n
      . rw[ea,en] at hrd;obtain⟨q1,q2,q3⟩:=rd_none hrd;rw[q1,q2,q3];exact bread_num s w _ _ _ _ _ _ _ E cc ca cn rfl rfl (n_none en).2
      . rw[ea,en] at hrd;obtain⟨r3,r4⟩:=n_some en;rw[r3,r4] at cn;rcases hr:rt (x:Int) (n:Int) with _|_
        . simp only[hr] at hrd
          obtain⟨q1,q2,q3⟩:=rd_none hrd;rw[q1,q2,q3];exact bread_not s w _ _ _ _ _ _ _ E cc ca cn rfl rfl rfl (om) (om) hr
        . simp only[hr] at hrd
          obtain⟨q1,q2,q3⟩:=rd_some hrd;rw[q1,q2,q3];exact bread_ok s w _ _ _ _ _ _ _ E cc ca cn rfl rfl rfl (om) (om) hr
end Go.Proofs.YtjnhhnbgjjkkjaaGreatDoor
namespace Go.Proofs.YtjnhhnbgjjkkjaaGreatDoor
open Go.RowKit
set_option linter.unusedVariables false
set_option linter.unusedSimpArgs false
def glue (c:UInt8):List (List UInt8)->List UInt8
  | []=>[]
  | [p]=>p
  | p::r=>p++c::glue c r
theorem glue_parts (c:UInt8) (n:Nat):∀ l:List UInt8,l.length<=n->glue c (parts c l)=l:=by
  induction n with
  | zero =>
    intro l hl;obtain rfl:l=[]:=List.eq_nil_of_length_eq_zero (om)
    rfl
  | succ n ih =>
    intro l hl;rcases first_cut c l with h|⟨a,b,rfl,h⟩
    . rw[parts_none c l h];rfl
    . rw[parts_cons c a b h];have hb:=ih b (by simp at hl;omega)
      have hp:=parts_pos c b;rcases e:parts c b with _|⟨q,r⟩
      . rw[e] at hp;simp at hp
      . rw[e] at hb;show a++c::glue c (q::r)=_
        rw[hb]
theorem four_text {p0 p1 p2 p3:List UInt8} {a:Nat} (h:four p0 p1 p2 p3=some a):glue 46 [p0,p1,p2,p3]=dot a:=by
  unfold four at h;split at h
  . rename_i a0 a1 a2 a3 e0 e1 e2 e3;obtain⟨h0,rfl⟩:=num_some.1 e0;obtain⟨h1,rfl⟩:=num_some.1 e1;obtain⟨h2,rfl⟩:=num_some.1 e2;obtain⟨h3,rfl⟩:=num_some.1 e3;simp at h;subst h;unfold dot;rw[show (((a0*256+a1)*256+a2)*256+a3) / 16777216=a0 by omega,show (((a0*256+a1)*256+a2)*256+a3) / 65536%256=a1 by omega,show (((a0*256+a1)*256+a2)*256+a3) / 256%256=a2 by omega,show (((a0*256+a1)*256+a2)*256+a3)%256=a3 by omega]
    rfl
  . cases h
theorem addr_text {l:List UInt8} {a:Nat} (h:addr l=some a):l=dot a:=by
  have hg:=glue_parts 46 l.length l (Nat.le_refl _)
  unfold addr at h;split at h
  . rename_i p0 p1 p2 p3 e;rw[e] at hg;rw[<- hg];exact four_text h
  . cases h
theorem rd_text {l:List UInt8} {a n:Int} (h:rd l=some (a,n)):l=wr a.toNat n.toNat/\rt a n=true/\0<=a/\a<4294967296/\0<=n/\n<=32:=by
  have hg:=glue_parts 47 l.length l (Nat.le_refl _)
  unfold rd at h;split at h
  . rename_i x y e;split at h
    . rename_i A N ea en;split at h
      . rename_i hr;simp at h;obtain⟨rfl,rfl⟩:=h;have h1:=addr_text ea;have h2:=addr_lt ea;obtain⟨h3,h4⟩:=num_some.1 en;rw[e] at hg;refine⟨?_,hr,by omega,by omega,by omega,by omega⟩
        rw[<- hg];show x++47::y=_
        rw[h1,<- h4];simp[wr]
      . cases h
    . cases h
  . cases h
theorem dot_no (c:UInt8) (hc:c.toNat<46\/c.toNat=47\/57<c.toNat) (a:Nat):c∉dot a:=by
  have h:=fun n=>dec_no c (om) n
  have h46:c≠46:=fun e=>by rw[e] at hc;revert hc;decide
  unfold dot;simp only[List.mem_append,List.mem_cons]
  intro e;rcases e with e|e|e|e|e|e|e
  . exact h _ e
  . exact h46 e
  . exact h _ e
  . exact h46 e
  . exact h _ e
  . exact h46 e
  . exact h _ e
theorem num_dec (n m:Nat) (h:n<=m):num (dec n) m=some n:=num_some.2 ⟨h,rfl⟩
theorem addr_dot (a:Nat) (h:a<4294967296):addr (dot a)=some a:=by
  have hd:=fun n=>dec_no 46 (by decide) n
  have hp:parts 46 (dot a)=[dec (a / 16777216),dec (a / 65536%256),dec (a / 256%256),dec (a%256)]:=by
    unfold dot;rw[parts_cons 46 _ _ (hd _),parts_cons 46 _ _ (hd _),parts_cons 46 _ _ (hd _),parts_none 46 _ (hd _)]
  unfold addr;rw[hp];simp only[four]
  rw[num_dec _ _ (om),num_dec _ _ (om),num_dec _ _ (om),num_dec _ _ (om)];simp only[Option.some.injEq]
  omega
theorem rd_wr {a n:Int} (h0:0<=a) (h1:a<4294967296) (hr:rt a n=true):rd (wr a.toNat n.toNat)=some (a,n):=by
  obtain⟨n0,n1,_⟩:=rt_iff.1 hr;have hc:=rd_cut (b:=dec n.toNat) (dot_no 47 (by decide) a.toNat)
  unfold wr;rw[hc,addr_dot _ (om),num_dec _ _ (om)];simp only[]
  rw[show ((a.toNat:Nat):Int)=a by omega,show ((n.toNat:Nat):Int)=n by omega,if_pos hr]
def verb (k:Nat):List UInt8:=verbT.getD k []
theorem verb_fin:∀ k:Fin 11,fi (fun v=>v==verb k) verbT=((k:Nat):Int):=by decide +kernel
theorem verb_fi (k:Nat) (h:k<11):fi (fun v=>v==verb k) verbT=(k:Int):=verb_fin ⟨k,h⟩
theorem verb_nof:∀ k:Fin 11,(32:UInt8)∉verb k/\(verb k).length<=5:=by decide +kernel
theorem verb_no (k:Nat) (h:k<11):(32:UInt8)∉verb k/\(verb k).length<=5:=verb_nof ⟨k,h⟩
theorem name_all {l:List UInt8} (h:isName l=true):0<l.length/\l.length<=8/\∀ c,c∈l->(97<=c.toNat/\c.toNat<=122)\/(48<=c.toNat/\c.toNat<=57):=by
  unfold isName at h;simp only[Bool.and_eq_true,decide_eq_true_eq,List.all_eq_true,Bool.or_eq_true] at h
  exact⟨h.1.1,h.1.2,h.2⟩
theorem name_no {l:List UInt8} (h:isName l=true):(32:UInt8)∉l:=fun q=>by
  have:=(name_all h).2.2 32 q
  revert this;decide
theorem dec_lenB {n:Nat} (h:n<1000):1<=(dec n).length/\(dec n).length<=3:=by
  rw[dec_3 n h];unfold dec3
  split
  . simp
  . split<;>simp
theorem dot_lenB (a:Nat) (h:a<4294967296):7<=(dot a).length/\(dot a).length<=15:=by
  have h0:=dec_lenB (n:=a / 16777216) (om)
  have h1:=dec_lenB (n:=a / 65536%256) (om)
  have h2:=dec_lenB (n:=a / 256%256) (om)
  have h3:=dec_lenB (n:=a%256) (om)
  unfold dot;simp only[List.length_append,List.length_cons]
  omega
theorem dec_len2 {n:Nat} (h:n<100):(dec n).length<=2:=by
  rw[dec_3 n (om)];unfold dec3
  split
  . simp
  . simp
theorem wr_len (a n:Nat) (h:a<4294967296) (hn:n<=32):(wr a n).length<=18:=by
  have h0:=dot_lenB a h;have h1:=dec_len2 (n:=n) (om)
  unfold wr;simp only[List.length_append,List.length_cons]
  omega
theorem wr_no (c:UInt8) (hc:c.toNat<46\/57<c.toNat) (a n:Nat):c∉wr a n:=by
  unfold wr;intro q;rcases List.mem_append.1 q with q|q
  . exact dot_no c (om) a q
  . rcases List.mem_cons.1 q with q|q
    . rw[q] at hc;revert hc;decide
    . exact dec_no c (om) n q
theorem parts_4 {v t o x:List UInt8} (hv:(32:UInt8)∉v) (ht:(32:UInt8)∉t) (ho:(32:UInt8)∉o) (hx:(32:UInt8)∉x):parts 32 (v++32::(t++32::(o++32::x)))=[v,t,o,x]:=by
  rw[parts_cons 32 _ _ hv,parts_cons 32 _ _ ht,parts_cons 32 _ _ ho,parts_none 32 _ hx]
theorem parts_5 {v t o x y:List UInt8} (hv:(32:UInt8)∉v) (ht:(32:UInt8)∉t) (ho:(32:UInt8)∉o) (hx:(32:UInt8)∉x) (hy:(32:UInt8)∉y):parts 32 (v++32::(t++32::(o++32::(x++32::y))))=[v,t,o,x,y]:=by
  rw[parts_cons 32 _ _ hv,parts_cons 32 _ _ ht,parts_cons 32 _ _ ho,parts_cons 32 _ _ hx,parts_none 32 _ hy]
theorem rdLine_of {s:List UInt8} {k:Nat} {ws:List (List UInt8)} (hs:s.length<=100) (hk:k<11) (hp:parts 32 s=verb k::ws):rdLine s=rdParts (ln0 k) (form k) ws:=by
  unfold rdLine;rw[if_pos hs,hp];simp only[]
  rw[verb_fi k hk,if_neg (om),Int.toNat_natCast]
def lnB (k:Nat) (t o:List UInt8) (a n:Int):Ln:=⟨k,⟨t.toArray⟩,⟨o.toArray⟩,a,n,0,0⟩
theorem read_block {k:Nat} {t o:List UInt8} {a n:Int} (hk:k=0\/k=1\/k=3\/k=4\/k=5) (ht:isName t=true) (ho:isName o=true) (h0:0<=a) (h1:a<4294967296) (hr:rt a n=true) :
    rdLine (verb k++32::(t++32::(o++32::wr a.toNat n.toNat)))=some (lnB k t o a n):=by
  obtain⟨n0,n1,_⟩:=rt_iff.1 hr;obtain⟨v1,v2⟩:=verb_no k (om)
  obtain⟨_,t2,_⟩:=name_all ht;obtain⟨_,o2,_⟩:=name_all ho;have hl:=wr_len a.toNat n.toNat (om) (om)
  have hp:=parts_4 v1 (name_no ht) (name_no ho) (wr_no 32 (by decide) a.toNat n.toNat)
  rw[rdLine_of (by simp only[List.length_append,List.length_cons];omega) (om) hp]
  have hf:form k=[1,2,3]:=by rcases hk with rfl|rfl|rfl|rfl|rfl<;>rfl
  rw[hf];simp only[rdParts,rdPart,ht,ho,rd_wr h0 h1 hr,if_pos,if_true,Nat.reduceEqDiff,if_false,ite_true]
  rfl
theorem read_net {t o:List UInt8} {a n:Int} {g:Nat} (ht:isName t=true) (ho:isName o=true) (h0:0<=a) (h1:a<4294967296) (hr:rt a n=true) (hg:g<=32) :
    rdLine (verb 2++32::(t++32::(o++32::(wr a.toNat n.toNat++32::dec g))))=some { lnB 2 t o a n with g:=g }:=by
  obtain⟨n0,n1,_⟩:=rt_iff.1 hr;obtain⟨v1,v2⟩:=verb_no 2 (om)
  obtain⟨_,t2,_⟩:=name_all ht;obtain⟨_,o2,_⟩:=name_all ho;have hl:=wr_len a.toNat n.toNat (om) (om)
  have hd:=dec_len2 (n:=g) (om)
  have hp:=parts_5 v1 (name_no ht) (name_no ho) (wr_no 32 (by decide) a.toNat n.toNat) (dec_no 32 (by decide) g)
  rw[rdLine_of (by simp only[List.length_append,List.length_cons];omega) (om) hp]
  have hf:form 2=[1,2,3,5]:=rfl
  rw[hf];simp only[rdParts,rdPart,ht,ho,rd_wr h0 h1 hr,num_dec g 32 hg,if_pos,if_true,Nat.reduceEqDiff,if_false,ite_true]
  rfl
theorem read_addr {k:Nat} {t o:List UInt8} {d:Nat} (hk:k=6\/k=7) (ht:isName t=true) (ho:isName o=true) (h1:d<4294967296) :
    rdLine (verb k++32::(t++32::(o++32::dot d)))=some { lnB k t o 0 0 with d:=d }:=by
  obtain⟨v1,v2⟩:=verb_no k (om)
  obtain⟨_,t2,_⟩:=name_all ht;obtain⟨_,o2,_⟩:=name_all ho;have hl:=dot_lenB d h1;have hp:=parts_4 v1 (name_no ht) (name_no ho) (dot_no 32 (by decide) d)
  rw[rdLine_of (by simp only[List.length_append,List.length_cons];omega) (om) hp]
  have hf:form k=[1,2,4]:=by rcases hk with rfl|rfl<;>rfl
  rw[hf];simp only[rdParts,rdPart,ht,ho,addr_dot d h1,if_pos,if_true,Nat.reduceEqDiff,if_false,ite_true]
  rfl
theorem read_ask {k:Nat} {a n:Int} (hk:k=9\/k=10) (h0:0<=a) (h1:a<4294967296) (hr:rt a n=true) :
    rdLine (verb k++32::wr a.toNat n.toNat)=some (lnB k [] [] a n):=by
  obtain⟨n0,n1,_⟩:=rt_iff.1 hr;obtain⟨v1,v2⟩:=verb_no k (om)
  have hl:=wr_len a.toNat n.toNat (om) (om)
  have hp:parts 32 (verb k++32::wr a.toNat n.toNat)=[verb k,wr a.toNat n.toNat]:=by
    rw[parts_cons 32 _ _ v1,parts_none 32 _ (wr_no 32 (by decide) a.toNat n.toNat)]
  rw[rdLine_of (by simp only[List.length_append,List.length_cons];omega) (om) hp]
  have hf:form k=[3]:=by rcases hk with rfl|rfl<;>rfl
  rw[hf];simp only[rdParts,rdPart,rd_wr h0 h1 hr,if_pos,if_true,Nat.reduceEqDiff,if_false,ite_true]
  rfl
theorem read_pools:rdLine (verb 8)=some (ln0 8):=by
  obtain⟨v1,v2⟩:=verb_no 8 (om)
  rw[rdLine_of (om) (om) (parts_none 32 _ v1)];rfl
theorem parts_told:∀ (w:List UInt8) (l:List (List UInt8)),(32:UInt8)∉w->(∀ x,x∈l->(32:UInt8)∉x)->parts 32 (w++l.flatMap (fun t=>32::t))=w::l
  | w,[],hw,_=>by simp[parts_none 32 w hw]
  | w,x::r,hw,h=>by
    rw[List.flatMap_cons,List.cons_append,parts_cons 32 w _ hw,parts_told x r (h x (by simp)) (fun y hy=>h y (by simp[hy]))]
theorem hText_no {h:Hd} (ho:isName h.o.data.toList=true):(32:UInt8)∉hText h:=by
  unfold hText bText;intro q;rcases List.mem_append.1 q with q|q
  . exact wr_no 32 (by decide) _ _ q
  . rcases List.mem_cons.1 q with q|q
    . revert q;decide
    . exact name_no ho q
theorem lText_no {h:Ls} (ho:isName h.o.data.toList=true):(32:UInt8)∉lText h:=by
  unfold lText;intro q;rcases List.mem_append.1 q with q|q
  . exact dot_no 32 (by decide) _ q
  . rcases List.mem_cons.1 q with q|q
    . revert q;decide
    . exact name_no ho q
def B0:Int:=167772160
def annT:List UInt8:=[97,110,110]
def bobT:List UInt8:=[98,111,98]
def cyT:List UInt8:=[99,121]
def bA (l:List UInt8):ByteArray:=⟨l.toArray⟩
def nat (m:Int) (i:Nat):List Hd:=(List.range i).map fun (j:Nat)=>(⟨B0+(j:Int)*sz m,m,bA annT⟩:Hd)
def fP (n:Int):List Hd:=[⟨B0,n,bA annT⟩]
def fitN (n m:Int):Nat:=2^(m-n).toNat
def fullB (n m:Int) (l:List Hd):Option (Int×Int):=best (frees 33 (netsOf l B0 n) B0 n) m
def has1 (o:Option (Int×Int)) (a:Int):Bool:=match o with|some b=>decide (b.1=a)|none=>false
def eqH (x y:Hd):Bool:=decide (x.a=y.a)&&decide (x.n=y.n)&&decide (x.o=y.o)
def eqHs:List Hd->List Hd->Bool
  | [],[]=>true
  | x::r,y::q=>eqH x y&&eqHs r q
  | _,_=>false
theorem eqH_eq {x y:Hd} (h:eqH x y=true):x=y:=by
  unfold eqH at h;simp only[Bool.and_eq_true,decide_eq_true_eq] at h
  cases x;cases y;simp_all
theorem eqHs_eq:∀ {l q:List Hd},eqHs l q=true->l=q
  | [],[],_=>rfl
  | [],_::_,h=>by simp[eqHs] at h
  | _::_,[],h=>by simp[eqHs] at h
  | x::r,y::q,h=>by
    simp only[eqHs,Bool.and_eq_true] at h
    rw[eqH_eq h.1,eqHs_eq h.2]
def chkNet (n m:Int) (i:Nat):Bool:=has1 (fullB n m (nat m i)) (B0+(i:Int)*sz m)&&eqHs (insH (nat m i) ⟨B0+(i:Int)*sz m,m,bA annT⟩) (nat m (i+1))&&decide ((nat m i).length<24)
def chkBack (n m:Int) (k:Nat):Bool :=
  decide (findH (nat m (fitN n m)) (B0+(k:Int)*sz m) m=(k:Int))&&decide (((nat m (fitN n m)).getD k hd0).o=bA annT) &&
  has1 (fullB n m (delAt (nat m (fitN n m)) k)) (B0+(k:Int)*sz m)&&decide ((delAt (nat m (fitN n m)) k).length<24) &&
  (fullB n m (insH (delAt (nat m (fitN n m)) k) ⟨B0+(k:Int)*sz m,m,bA bobT⟩)).isNone
def chkAll (n m:Int):Bool:=(List.range (fitN n m)).all (fun i=>chkNet n m i&&chkBack n m i)&&(fullB n m (nat m (fitN n m))).isNone&&decide (findH (fP n) B0 n=0)&&decide (fitN n m<=16)
def mOf (n d:Nat):Int:=if 32<n+d then 32 else ((n+d:Nat):Int)
set_option maxRecDepth 100000 in
theorem chk_fin:∀ n:Fin 9,∀ d:Fin 5,chkAll ((22+(n:Nat):Nat):Int) (mOf (22+(n:Nat)) d)=true:=by decide +kernel
theorem has1_some {o:Option (Int×Int)} {a:Int} (h:has1 o a=true):∃ b,o=some b/\b.1=a:=by
  unfold has1 at h;split at h
  . rename_i b;exact⟨b,rfl,by simpa using h⟩
  . cases h
structure Fl (n m:Int):Prop where
  net:∀ i,i<fitN n m->(∃ b,fullB n m (nat m i)=some b/\b.1=B0+(i:Int)*sz m)/\insH (nat m i) ⟨B0+(i:Int)*sz m,m,bA annT⟩=nat m (i+1)/\(nat m i).length<24
  back:∀ k,k<fitN n m->findH (nat m (fitN n m)) (B0+(k:Int)*sz m) m=(k:Int)/\((nat m (fitN n m)).getD k hd0).o=bA annT/\(∃ b,fullB n m (delAt (nat m (fitN n m)) k)=some b/\b.1=B0+(k:Int)*sz m)/\(delAt (nat m (fitN n m)) k).length<24/\fullB n m (insH (delAt (nat m (fitN n m)) k) ⟨B0+(k:Int)*sz m,m,bA bobT⟩)=none
  full:fullB n m (nat m (fitN n m))=none
  pool:findH (fP n) B0 n=0
  le:fitN n m<=16
theorem fl_of {n m:Int} (h:chkAll n m=true):Fl n m:=by
  unfold chkAll at h;simp only[Bool.and_eq_true,decide_eq_true_eq,List.all_eq_true,List.mem_range,Option.isNone_iff_eq_none] at h
  obtain⟨⟨⟨h1,h2⟩,h3⟩,h4⟩:=h;refine⟨fun i hi=>?_,fun k hk=>?_,h2,h3,h4⟩
  . have:=(h1 i hi).1
    unfold chkNet at this;simp only[Bool.and_eq_true,decide_eq_true_eq] at this
    exact⟨has1_some this.1.1,eqHs_eq this.1.2,this.2⟩
  . have:=(h1 k hk).2
    unfold chkBack at this;simp only[Bool.and_eq_true,decide_eq_true_eq,Option.isNone_iff_eq_none] at this
    obtain⟨⟨⟨⟨q1,q2⟩,q3⟩,q4⟩,q5⟩:=this;exact⟨q1,q2,has1_some q3,q4,q5⟩
theorem fl_any (n d:Nat) (hn:22<=n) (hn2:n<=30) (hd:d<5):Fl (n:Int) (mOf n d):=by
  have h:=chk_fin ⟨n-22,by omega⟩ ⟨d,hd⟩
  simp only[show 22+(n-22)=n by omega] at h
  exact fl_of h
theorem doAll_new {s:Bk} {line:ByteArray} {l:Ln} (hr:rdLine line.data.toList=some l) (hv:l.v<8) (ht:findT s.toks l.t=none) {s':Bk} {a:An} (hd:doLn s l=(s',a)) :
    doAll s line=(if a.e=0 then { s' with toks:=addT s'.toks ⟨l.t,line,bA (anText a)⟩ } else s',bA (anText a)):=by
  unfold doAll;rw[hr];simp only[]
  rw[if_pos hv,ht];simp only[]
  rw[hd];split
  . rfl
  . rfl
theorem findT_none {l:List Tk} {t:ByteArray} (h:∀ x,x∈l->x.t≠t):findT l t=none:=by
  unfold findT;rw[List.filter_eq_nil_iff.2 (fun x hx=>by simpa using h x hx)]
  rfl
theorem mem_addT {l:List Tk} {x y:Tk} (h:y∈addT l x):y=x\/y∈l:=by
  unfold addT at h;rcases List.mem_append.1 h with h|h
  . split at h
    . exact .inr (List.mem_of_mem_drop h)
    . exact .inr h
  . exact .inl (by simpa using h)
theorem B0_rt (n:Int) (h0:8<=n) (h1:n<=32):rt B0 n=true:=by
  have:∀ k:Fin 25,rt B0 ((8+(k:Nat):Nat):Int)=true:=by decide +kernel
  have h:=this ⟨(n-8).toNat,by omega⟩
  rwa [show (((8+((n-8).toNat)):Nat):Int)=n by omega] at h
theorem fill_pool (n:Int) (h0:8<=n) (h1:n<=30) (t:List UInt8) (T:List Tk):doLn ⟨[],[],[],T⟩ (lnB 0 t annT B0 n)=(⟨fP n,[],[],T⟩,okA):=by
  show doPool _ _=_
  unfold doPool lnB;dsimp only;rw[if_neg (om)];rfl
theorem fill_net {n m:Int} (F:Fl n m) (hm:22<=m) (hnm:n<=m) (i:Nat) (hi:i<fitN n m) (t:List UInt8) (T:List Tk):doLn ⟨fP n,nat m i,[],T⟩ { lnB 2 t annT B0 n with g:=m }=(⟨fP n,nat m (i+1),[],T⟩,tell1 (bA (bText (B0+(i:Int)*sz m) m))):=by
  obtain⟨⟨b,h1,h2⟩,h3,h4⟩:=F.net i hi;show doNet _ _=_
  unfold doNet lnB;dsimp only;unfold fullB at h1;rw[F.pool,if_neg (om),if_neg (om),h1];dsimp only;rw[if_neg (om),h2];show (Bk.mk _ (insH (nat m i) ⟨B0+(i:Int)*sz m,m,bA annT⟩) _ _,_)=_
  rw[h3];rfl
theorem fill_full {n m:Int} (hp:findH (fP n) B0 n=0) (hm:22<=m) (hnm:n<=m) {N:List Hd} (h:fullB n m N=none) (t o:List UInt8) (T:List Tk):doLn ⟨fP n,N,[],T⟩ { lnB 2 t o B0 n with g:=m }=(⟨fP n,N,[],T⟩,ref 10):=by
  show doNet _ _=_
  unfold doNet lnB;dsimp only;unfold fullB at h;rw[hp,if_neg (om),if_neg (om),h]
theorem fill_free {n m:Int} (F:Fl n m) (k:Nat) (hk:k<fitN n m) (t:List UInt8) (T:List Tk):doLn ⟨fP n,nat m (fitN n m),[],T⟩ (lnB 4 t annT (B0+(k:Int)*sz m) m)=(⟨fP n,delAt (nat m (fitN n m)) k,[],T⟩,okA):=by
  obtain⟨h1,h2,_⟩:=F.back k hk;show doFree _ _=_
  unfold doFree lnB;dsimp only;rw[h1,if_neg (om),Int.toNat_natCast,h2];simp[leasesOf,bA]
theorem fill_again {n m:Int} (F:Fl n m) (hm:22<=m) (hnm:n<=m) (k:Nat) (hk:k<fitN n m) (t:List UInt8) (T:List Tk):doLn ⟨fP n,delAt (nat m (fitN n m)) k,[],T⟩ { lnB 2 t bobT B0 n with g:=m }=(⟨fP n,insH (delAt (nat m (fitN n m)) k) ⟨B0+(k:Int)*sz m,m,bA bobT⟩,[],T⟩,tell1 (bA (bText (B0+(k:Int)*sz m) m))):=by
  obtain⟨_,_,⟨b,h1,h2⟩,h3,_⟩:=F.back k hk;show doNet _ _=_
  unfold doNet lnB;dsimp only;unfold fullB at h1;rw[F.pool,if_neg (om),if_neg (om),h1];dsimp only;rw[if_neg (om),h2];rfl
theorem dot10:dot 167772160=[49,48,46,48,46,48,46,48]:=by
  have h:∀ k,k<256->dec k=dec3 k:=fun k hk=>dec_3 k (om)
  show dec 10++46::(dec 0++46::(dec 0++46::dec 0))=_
  rw[h 10 (by decide),h 0 (by decide)]
  decide
theorem b0_nat:B0.toNat=167772160:=by decide
theorem wr10 (n:Nat):wr B0.toNat n=[49,48,46,48,46,48,46,48,47]++dec n:=by unfold wr;rw[b0_nat,dot10];rfl
theorem tok_ne {a b:List UInt8} (h:a≠b):(⟨a.toArray⟩:ByteArray)≠⟨b.toArray⟩:=fun e=>h (by simpa using congrArg (fun x:ByteArray=>x.data.toList) e)
theorem name_n:∀ i:Fin 32,isName (110::dec3 i)=true/\isName (108::dec3 i)=true:=by decide +kernel
theorem nameN (i:Nat) (h:i<32):isName (110::dec i)=true:=by rw[dec_3 i (om)];exact(name_n ⟨i,h⟩).1
theorem nameL (i:Nat) (h:i<32):isName (108::dec i)=true:=by rw[dec_3 i (om)];exact(name_n ⟨i,h⟩).2
def okB:ByteArray:=⟨#[79,75]⟩
theorem ok_text:bA (anText okA)=okB:=by decide
theorem full_text:bA (anText (ref 10))=(⟨#[69,82,82,32,70,85,76,76]⟩:ByteArray):=by decide
theorem tell_text (t:List UInt8):bA (anText (tell1 (bA t)))=bs ([79,75,32]++t):=by
  unfold bA anText tell1 bs;simp
def AtN (n m:Int) (i:Nat) (s:Bk):Prop:=∃ T,s=⟨fP n,nat m i,[],T⟩/\∀ x,x∈T->x.t=bA [112]\/∃ j,j<i/\x.t=bA (110::dec j)
theorem step_pool {n:Nat} (h0:22<=n) (h1:n<=30) (m:Int):∃ s,doAll bk0 (bs ([80,79,79,76,32,112,32,97,110,110,32]++([49,48,46,48,46,48,46,48,47]++dec n)))=(s,okB)/\AtN n m 0 s:=by
  have hr:rdLine (bs ([80,79,79,76,32,112,32,97,110,110,32]++([49,48,46,48,46,48,46,48,47]++dec n))).data.toList=some (lnB 0 [112] annT B0 n):=by
    rw[bs_data];have:=read_block (k:=0) (t:=[112]) (o:=annT) (a:=B0) (n:=n) (om) (by decide) (by decide) (by decide) (by decide) (B0_rt n (om) (om))
    rw[Int.toNat_natCast,wr10] at this;exact this
  have hd:=doAll_new (s:=bk0) hr (by show 0<8;omega) rfl (fill_pool n (om) (om) [112] [])
  rw[if_pos (show okA.e=0 from rfl)] at hd;refine⟨_,hd.trans (by rw[ok_text];rfl),_,rfl,fun x hx=>?_⟩
  simp[addT] at hx
  exact .inl (by rw[hx];rfl)
theorem step_net {n m:Nat} (F:Fl (n:Int) (m:Int)) (h0:22<=n) (h1:n<=30) (hm:m<=32) (hnm:n<=m) {i:Nat} (hi:i<fitN n m) (hi2:i<32) {s:Bk} (hs:AtN n m i s) :
    ∃ s',doAll s (bs ([78,69,84,32,110]++dec i++[32,97,110,110,32]++([49,48,46,48,46,48,46,48,47]++dec n)++[32]++dec m))=(s',bs ([79,75,32]++wr (B0+(i:Int)*sz m).toNat m))/\AtN n m (i+1) s':=by
  obtain⟨T,rfl,hT⟩:=hs;have hr:rdLine (bs ([78,69,84,32,110]++dec i++[32,97,110,110,32]++([49,48,46,48,46,48,46,48,47]++dec n)++[32]++dec m)).data.toList=some { lnB 2 (110::dec i) annT B0 n with g:=m }:=by
    rw[bs_data];have:=read_net (t:=110::dec i) (o:=annT) (a:=B0) (n:=n) (g:=m) (nameN i hi2) (by decide) (by decide) (by decide) (B0_rt n (om) (om)) hm
    rw[Int.toNat_natCast,wr10] at this;rw[<- this];simp[verb,verbT,annT]
  have ht:findT T (bA (110::dec i))=none:=findT_none fun x hx=>by
    rcases hT x hx with e|⟨j,hj,e⟩
    . rw[e];exact tok_ne (by simp)
    . rw[e];exact tok_ne (fun q=>by have:=dec_inj (List.cons.inj q).2;omega)
  have hd:=doAll_new (s:=⟨fP n,nat m i,[],T⟩) hr (by show 2<8;omega) ht (fill_net F (om) (om) i hi (110::dec i) T)
  rw[if_pos (show (tell1 (bA (bText (B0+(i:Int)*sz m) m))).e=0 from rfl)] at hd;refine⟨_,hd.trans (by rw[tell_text];rfl),_,rfl,fun x hx=>?_⟩
  rcases mem_addT hx with e|e
  . exact .inr ⟨i,by omega,by rw[e];rfl⟩
  . rcases hT x e with q|⟨j,hj,q⟩
    . exact .inl q
    . exact .inr ⟨j,by omega,q⟩
theorem step_full {n m:Nat} (hp:findH (fP n) B0 n=0) (h0:22<=n) (h1:n<=30) (hm:m<=32) (hnm:n<=m) {N:List Hd} (hN:fullB n m N=none) {T:List Tk} {t o:List UInt8} (hnt:isName t=true) (hno:isName o=true) (ht:∀ x,x∈T->x.t≠bA t) {line:List UInt8} (hl:line=verb 2++32::(t++32::(o++32::(wr B0.toNat n++32::dec m)))) :
    doAll ⟨fP n,N,[],T⟩ (bs line)=(⟨fP n,N,[],T⟩,(⟨#[69,82,82,32,70,85,76,76]⟩:ByteArray)):=by
  have hr:rdLine (bs line).data.toList=some { lnB 2 t o B0 n with g:=m }:=by
    rw[bs_data,hl];have:=read_net (t:=t) (o:=o) (a:=B0) (n:=n) (g:=m) hnt hno (by decide) (by decide) (B0_rt n (om) (om)) hm
    rwa [Int.toNat_natCast] at this
  have hd:=doAll_new (s:=⟨fP n,N,[],T⟩) hr (by show 2<8;omega) (findT_none ht) (fill_full hp (om) (om) hN t o T)
  rw[hd,full_text];rfl
end Go.Proofs.YtjnhhnbgjjkkjaaGreatDoor
namespace Go.Proofs.YtjnhhnbgjjkkjaaGreatDoor
open Go.ChangeShapes Go.WideShapes Go.ChangeAt Go.RowKit
set_option linter.unusedVariables false
set_option linter.unusedSimpArgs false
theorem split_all (c:UInt8) (n:Nat):∀ l:List UInt8,l.length<=n->Lib.splitK [c] 0 (Lib.count l [c]) l=parts c l:=by
  induction n with
  | zero =>
    intro l hl;obtain rfl:l=[]:=List.eq_nil_of_length_eq_zero (om)
    rw[Lib.count_miss (index_no c [] (by simp)),parts_none c [] (by simp)];rfl
  | succ n ih =>
    intro l hl;rcases first_cut c l with h|⟨a,b,rfl,h⟩
    . rw[Lib.count_miss (index_no c l h),parts_none c l h];rfl
    . have hc:=Lib.count_hit (s:=a++c::b) (sub:=[c]) (by simp) (index_at c a b h)
      have hd:(a++c::b).drop (a.length+[c].length)=b:=by simp[List.drop_append]
      rw[hd] at hc;rw[hc,Nat.add_comm,split_at c _ a b h,ih b (by simp at hl;omega),parts_cons c a b h]
theorem split_any (s:ByteArray) (w:World) (E:Env w) (hs:s.size<=2097152) :
    Calls Tryz.prog 58 #[.string s,.string ⟨#[32]⟩] w fun e w'=>∃ L:List ByteArray,L.map (fun x=>x.data.toList)=parts 32 s.data.toList/\e=.returned (.slice (some ⟨w.heap.size,0,none⟩) L.length L.length)/\w'=w.alloc (.cells (L.map Value.string).toArray 9):=by
  obtain⟨m,hm⟩:=E.mx;refine(Tryz.strings_Split s ⟨#[32]⟩ m w (om) hm (by decide)).mono ?_
  rintro e w' ⟨rfl,rfl⟩
  have hlen:=Lib.splitB_all ⟨#[32]⟩ (by decide) 0 _ s rfl
  have hd:=Lib.splitB_data ⟨#[32]⟩ 0 (Lib.countB s ⟨#[32]⟩) s
  have ha:=split_all 32 _ s.data.toList (Nat.le_refl _)
  exact⟨Lib.splitB ⟨#[32]⟩ 0 (Lib.countB s ⟨#[32]⟩) s,hd.trans ha,by rw[hlen],rfl⟩
end Go.Proofs.YtjnhhnbgjjkkjaaGreatDoor
namespace Go.Proofs.YtjnhhnbgjjkkjaaGreatDoor
open Go.RowKit
set_option linter.unusedVariables false
set_option linter.unusedSimpArgs false
def ansT (L:List (List UInt8)):List UInt8:=[79,75]++L.flatMap (fun t=>32::t)
def poolsT (s:Bk):List UInt8:=ansT (s.pools.map hText)
def netsT (s:Bk) (p:Hd):List UInt8:=ansT ((netsOf s.nets p.a p.n).map hText)
def usedT (s:Bk) (h:Hd):List UInt8:=ansT ((leasesOf s.leases h.a h.n).map lText)
def toldP (s:Bk) (p:Hd):List (List UInt8):=netsT s p::(netsOf s.nets p.a p.n).map (usedT s)
def toldS (s:Bk):List (List UInt8):=poolsT s::s.pools.flatMap (toldP s)
theorem anText_ok {α:Type} (f:α->List UInt8) (L:List α):anText ⟨0,L.map fun h=>⟨(f h).toArray⟩⟩=ansT (L.map f):=by
  unfold anText ansT;simp only[if_true]
  congr 1
  induction L with
  | nil=>rfl
  | cons x r ih=>simp only[List.map_cons,List.flatMap_cons];rw[ih]
theorem parts_ans (L:List (List UInt8)) (h:∀ x,x∈L->(32:UInt8)∉x):parts 32 (ansT L)=[79,75]::L:=parts_told [79,75] L (by decide) h
theorem ans_len {L M:List (List UInt8)} (hL:∀ x,x∈L->(32:UInt8)∉x) (hM:∀ x,x∈M->(32:UInt8)∉x) (e:ansT L=ansT M):L.length=M.length:=by
  have h1:=parts_ans L hL;rw[e,parts_ans M hM] at h1;simp at h1;rw[h1]
theorem hTs_no {l:List Hd} (h:∀ x,x∈l->isName x.o.data.toList=true):∀ x,x∈l.map hText->(32:UInt8)∉x:=fun x hx=>by
  obtain⟨y,hy,rfl⟩:=List.mem_map.1 hx;exact hText_no (h y hy)
theorem lTs_no {l:List Ls} (h:∀ x,x∈l->isName x.o.data.toList=true):∀ x,x∈l.map lText->(32:UInt8)∉x:=fun x hx=>by
  obtain⟨y,hy,rfl⟩:=List.mem_map.1 hx;exact lText_no (h y hy)
theorem netsOf_sub {l:List Hd} {a n:Int} {x:Hd} (h:x∈netsOf l a n):x∈l:=(List.mem_filter.1 h).1
theorem leasesOf_sub {l:List Ls} {a n:Int} {x:Ls} (h:x∈leasesOf l a n):x∈l:=(List.mem_filter.1 h).1
theorem flat_lt {α β:Type} (f g:α->List β) (l:List α) (h:∀ x,x∈l->(f x).length<=(g x).length) (hx:∃ x,x∈l/\(f x).length<(g x).length):(l.flatMap f).length<(l.flatMap g).length:=by
  have hle:∀ r:List α,(∀ x,x∈r->(f x).length<=(g x).length)->(r.flatMap f).length<=(r.flatMap g).length:=by
    intro r;induction r with
    | nil=>intro _;simp
    | cons y q ih =>
      intro h;have h1:=h y (by simp)
      have h2:=ih (fun x hx=>h x (by simp[hx]))
      simp only[List.flatMap_cons,List.length_append];omega
  induction l with
  | nil=>obtain⟨x,hx,_⟩:=hx;simp at hx
  | cons y q ih =>
    have h1:=h y (by simp)
    have h2:=hle q (fun x hx=>h x (by simp[hx]))
    simp only[List.flatMap_cons,List.length_append]
    obtain⟨x,hx,hlt⟩:=hx;rcases List.mem_cons.1 hx with rfl|hx
    . omega
    . have:=ih (fun x hx=>h x (by simp[hx])) ⟨x,hx,hlt⟩;omega
theorem flat_eq {α β:Type} (f g:α->List β) (l:List α) (h:∀ x,x∈l->(f x).length=(g x).length) (e:l.flatMap f=l.flatMap g):∀ x,x∈l->f x=g x:=by
  induction l with
  | nil=>intro x hx;simp at hx
  | cons y q ih =>
    simp only[List.flatMap_cons] at e
    obtain⟨e1,e2⟩:=List.append_inj e (h y (by simp))
    intro x hx;rcases List.mem_cons.1 hx with rfl|hx
    . exact e1
    . exact ih (fun x hx=>h x (by simp[hx])) e2 x hx
theorem filter_ins {α:Type} (p:α->Bool) (l:List α) (c:Nat) (x:α):((l.take c++x::l.drop c).filter p).length=(l.filter p).length+(if p x then 1 else 0):=by
  conv=>rhs;rw[<- List.take_append_drop c l]
  rw[List.filter_append,List.filter_append,List.filter_cons];split<;>simp<;>omega
theorem filter_del {α:Type} (p:α->Bool) (l:List α) (k:Nat) (d:α) (h:k<l.length):((delAt l k).filter p).length+(if p (l.getD k d) then 1 else 0)=(l.filter p).length:=by
  unfold delAt;conv=>rhs;rw[<- List.take_append_drop k l,List.drop_eq_getElem_cons h]
  rw[List.filter_append,List.filter_append,List.filter_cons,List.getD_eq_getElem?_getD,List.getElem?_eq_getElem h,Option.getD_some];split<;>simp<;>omega
theorem toldP_len (s:Bk) (p:Hd):(toldP s p).length=1+(netsOf s.nets p.a p.n).length:=by unfold toldP;simp;omega
theorem shows_net {s s':Bk} (hp:s'.pools=s.pools) {x:Hd} (hn:∀ a n,(netsOf s'.nets a n).length=(netsOf s.nets a n).length+(if inn x.a x.n a n then 1 else 0)) (hi:∃ p,p∈s.pools/\inn x.a x.n p.a p.n=true):toldS s'≠toldS s:=by
  intro e;have:=congrArg List.length e
  unfold toldS at this;rw[hp,List.length_cons,List.length_cons] at this;have hlt:=flat_lt (toldP s) (toldP s') s.pools (fun p hp=>by rw[toldP_len,toldP_len,hn];omega) (by
    obtain⟨p,hp,hi⟩:=hi;exact⟨p,hp,by rw[toldP_len,toldP_len,hn,if_pos hi];omega⟩)
  omega
theorem shows_lease {s s':Bk} (G:Good s) (G':Good s') (hp:s'.pools=s.pools) (hn:s'.nets=s.nets) {h:Hd} (hh:h∈s.nets) (hl:(leasesOf s'.leases h.a h.n).length≠(leasesOf s.leases h.a h.n).length):toldS s'≠toldS s:=by
  intro e;unfold toldS at e;rw[hp,List.cons.injEq] at e;obtain⟨p,hpp,hi⟩:=G.ni h hh;have h1:=flat_eq (toldP s') (toldP s) s.pools (fun p hp=>by rw[toldP_len,toldP_len,hn]) e.2 p hpp
  unfold toldP at h1;rw[hn,List.cons.injEq] at h1;have h2:=List.map_inj_left.1 h1.2 h (List.mem_filter.2 ⟨hh,hi⟩)
  unfold usedT at h2;have h3:=ans_len (lTs_no fun x hx=>G'.lo x (leasesOf_sub hx)) (lTs_no fun x hx=>G.lo x (leasesOf_sub hx)) h2
  simp at h3;exact hl h3
theorem shows_pool {s s':Bk} (G:Good s) (G':Good s') (h:s'.pools.length≠s.pools.length):toldS s'≠toldS s:=by
  intro e;unfold toldS at e;rw[List.cons.injEq] at e;have h3:=ans_len (hTs_no G'.po) (hTs_no G.po) e.1
  simp at h3;exact h h3
theorem insH_lenT (l:List Hd) (x:Hd):(insH l x).length=l.length+1:=by unfold insH;simp;omega
theorem delAt_lenT {α:Type} (l:List α) (k:Nat) (h:k<l.length):(delAt l k).length+1=l.length:=by unfold delAt;simp;omega
theorem findH_lt {l:List Hd} {a n:Int} (h:¬findH l a n<0):(findH l a n).toNat<l.length:=by
  unfold findH at *
  rcases fi_cases (isH a n) l hd0 with⟨e,_⟩|⟨k,hk,e,hp,_⟩
  . rw[e] at h;omega
  . rw[e,Int.toNat_natCast];exact hk
theorem ins_nets (l:List Hd) (x:Hd) (a n:Int):(netsOf (insH l x) a n).length=(netsOf l a n).length+(if inn x.a x.n a n then 1 else 0):=filter_ins _ _ _ _
theorem ins_leases (l:List Ls) (x:Ls) (a n:Int):(leasesOf (insL l x) a n).length=(leasesOf l a n).length+(if inn x.a 32 a n then 1 else 0):=filter_ins _ _ _ _
theorem ln_shows {s:Bk} {l:Ln} (G:Good s) (hg:LnGd l) (hv:l.v<8):((doLn s l).2.e≠0/\(doLn s l).1=s)\/((doLn s l).2.e=0/\toldS (doLn s l).1≠toldS s):=by
  have G':=good_ln G hg;obtain⟨a0,a1,ar,g1,ho⟩:=hg;have hc:l.v=0\/l.v=1\/l.v=2\/l.v=3\/l.v=4\/l.v=5\/l.v=6\/l.v=7:=by omega
  rcases hc with e|e|e|e|e|e|e|e
  . have hd:doLn s l=doPool s l:=by unfold doLn;rw[e];rfl
    rw[hd] at G' ⊢;revert G';unfold doPool
    split
    . intro _;exact .inl ⟨by simp[ref],rfl⟩
    split
    . intro _;exact .inl ⟨by simp[ref],rfl⟩
    split
    . intro _;exact .inl ⟨by simp[ref],rfl⟩
    . intro G';exact .inr ⟨rfl,shows_pool G G' (by show (insH s.pools _).length≠_;rw[insH_lenT];omega)⟩
  . have hd:doLn s l=doDrop s l:=by unfold doLn;rw[e];rfl
    rw[hd] at G' ⊢;revert G';unfold doDrop
    split
    . intro _;exact .inl ⟨by simp[ref],rfl⟩
    split
    . intro _;exact .inl ⟨by simp[ref],rfl⟩
    split
    . intro _;exact .inl ⟨by simp[ref],rfl⟩
    . rename_i h1 _ _;intro G';exact .inr ⟨rfl,shows_pool G G' (by have:=delAt_lenT s.pools _ (findH_lt h1);show (delAt s.pools _).length≠_;omega)⟩
  . have hd:doLn s l=doNet s l:=by unfold doLn;rw[e];rfl
    rw[hd] at G' ⊢;unfold doNet;split
    . exact .inl ⟨by simp[ref],rfl⟩
    split
    . exact .inl ⟨by simp[ref],rfl⟩
    rename_i h1 h2;rcases hb:best (frees 33 (netsOf s.nets l.a l.n) l.a l.n) l.g with _|b
    . exact .inl ⟨by simp[ref],rfl⟩
    . dsimp only;split
      . exact .inl ⟨by simp[ref],rfl⟩
      . obtain⟨r1,r2,r3,r4,r5⟩:=net_apart G g1 h1 hb;exact .inr ⟨rfl,shows_net (x:=⟨b.1,l.g,l.o⟩) rfl (fun a n=>ins_nets _ _ a n) r5⟩
  . have hd:doLn s l=doBlock s l:=by unfold doLn;rw[e];rfl
    rw[hd] at G' ⊢;unfold doBlock;split
    . exact .inl ⟨by simp[ref],rfl⟩
    split
    . exact .inl ⟨by simp[ref],rfl⟩
    split
    . exact .inl ⟨by simp[ref],rfl⟩
    split
    . exact .inl ⟨by simp[ref],rfl⟩
    rename_i h1 h2 h3 h4;obtain⟨hm,hi⟩:=spanH_at h2;exact .inr ⟨rfl,shows_net (x:=⟨l.a,l.n,l.o⟩) rfl (fun a n=>ins_nets _ _ a n) ⟨_,hm,hi⟩⟩
  . have hd:doLn s l=doFree s l:=by unfold doLn;rw[e];rfl
    rw[hd] at G' ⊢;unfold doFree;split
    . exact .inl ⟨by simp[ref],rfl⟩
    split
    . exact .inl ⟨by simp[ref],rfl⟩
    split
    . exact .inl ⟨by simp[ref],rfl⟩
    rename_i h1 h2 h3;obtain⟨hm,hma,hmn⟩:=findH_at h1;refine .inr ⟨rfl,fun q=>?_⟩
    refine shows_net (s:={ s with nets:=delAt s.nets (findH s.nets l.a l.n).toNat }) (s':=s) (x:=s.nets.getD (findH s.nets l.a l.n).toNat hd0) rfl (fun a n=>?_) (G.ni _ hm) q.symm
    exact(filter_del (fun h=>inn h.a h.n a n) s.nets _ hd0 (findH_lt h1)).symm
  . have hd:doLn s l=doLease s l:=by unfold doLn;rw[e];rfl
    rw[hd] at G' ⊢;revert G';unfold doLease
    split
    . intro _;exact .inl ⟨by simp[ref],rfl⟩
    rename_i h1;rcases hb:least s.leases l.a l.n with _|d
    . intro _;exact .inl ⟨by simp[ref],rfl⟩
    . dsimp only;split
      . intro _;exact .inl ⟨by simp[ref],rfl⟩
      . intro G';obtain⟨hm,hma,hmn⟩:=findH_at h1;obtain⟨p,hpe⟩:∃ p,p=s.nets.getD (findH s.nets l.a l.n).toNat hd0:=⟨_,rfl⟩
        rw[<- hpe] at hm hma hmn;rw[<- hma,<- hmn] at hb;obtain⟨r1,r2,r3⟩:=least_free G hm hb;obtain⟨u1,u2⟩:=use_in r1 r2;refine .inr ⟨rfl,shows_lease G G' rfl rfl hm ?_⟩
        show (leasesOf (insL s.leases ⟨d,l.o⟩) p.a p.n).length≠_
        rw[ins_leases,if_pos (inn_use (G.nr p hm).2.2.1 u1 u2)];omega
  . have hd:doLn s l=doTake s l:=by unfold doLn;rw[e];rfl
    rw[hd] at G' ⊢;revert G';unfold doTake
    split
    . intro _;exact .inl ⟨by simp[ref],rfl⟩
    split
    . intro _;exact .inl ⟨by simp[ref],rfl⟩
    split
    . intro _;exact .inl ⟨by simp[ref],rfl⟩
    split
    . intro _;exact .inl ⟨by simp[ref],rfl⟩
    rename_i h1 h2 h3 h4;intro G';obtain⟨hm,hi⟩:=spanH_at h1;refine .inr ⟨rfl,shows_lease G G' rfl rfl hm ?_⟩
    show (leasesOf (insL s.leases ⟨l.d,l.o⟩) _ _).length≠_
    rw[ins_leases,if_pos hi];omega
  . have hd:doLn s l=doGive s l:=by unfold doLn;rw[e];rfl
    rw[hd] at G' ⊢;revert G';unfold doGive
    split
    . rename_i h1;split
      . intro _;exact .inl ⟨by simp[ref],rfl⟩
      . intro G';have hk:cntL s.leases l.d<s.leases.length/\(s.leases.getD (cntL s.leases l.d) ls0).a=l.d:=by
          unfold hasL at h1;simpa using h1
        have hmem:s.leases.getD (cntL s.leases l.d) ls0∈s.leases:=by
          rw[List.getD_eq_getElem?_getD,List.getElem?_eq_getElem hk.1];exact List.getElem_mem hk.1
        obtain⟨h,hh,q1,q2⟩:=G.li _ hmem;obtain⟨u1,u2⟩:=use_in q1 q2;refine .inr ⟨rfl,shows_lease G G' rfl rfl hh ?_⟩
        have:=filter_del (fun y:Ls=>inn y.a 32 h.a h.n) s.leases _ ls0 hk.1
        rw[if_pos (inn_use (G.nr h hh).2.2.1 u1 u2)] at this;show (leasesOf (delAt s.leases (cntL s.leases l.d)) h.a h.n).length≠(leasesOf s.leases h.a h.n).length
        unfold leasesOf;omega
    . intro _;exact .inl ⟨by simp[ref],rfl⟩
end Go.Proofs.YtjnhhnbgjjkkjaaGreatDoor
