/-
  BkRk
-/
import Derived.Test.YtjnhhnbgjjkkjaaGreatDoorBasePAA
import Derived.Test.YtjnhhnbgjjkkjaaGreatDoorOrderedPAB
import Derived.Test.YtjnhhnbgjjkkjaaGreatDoorBasePAK
namespace Go.Proofs.YtjnhhnbgjjkkjaaGreatDoor
open Go.ChangeShapes Go.WideShapes Go.ChangeAt Go.RowKit
set_option linter.unusedVariables false
set_option linter.unusedSimpArgs false
def Rds:List UInt8->Nat->List UInt8->Nat->Nat->Nat->Prop
  | [],A,seg,D,a,n=>D=4/\A=a/\seg=dec n
  | c::r,A,seg,D,a,n=>if c=46\/c=47 then (∃ m,m<=255/\seg=dec m/\D<=3/\(c=47 ↔ D=3)/\A<=16777215/\Rds r (256*A+m) [] (D+1) a n) else Rds r A (seg++[c]) D a n
theorem rds_go {x r:List UInt8} {A D a n:Nat} (hx:(46:UInt8)∉x/\(47:UInt8)∉x):∀ seg,Rds r A (seg++x) D a n->Rds (x++r) A seg D a n:=by
  induction x with
  | nil=>intro seg h;simpa using h
  | cons c x ih =>
    intro seg h;simp only[List.mem_cons,not_or] at hx
    rw[List.cons_append,Rds,if_neg (by rintro (e|e);exact hx.1.1 e.symm;exact hx.2.1 e.symm)]
    exact ih ⟨hx.1.2,hx.2.2⟩ _ (by simpa using h)
theorem dec_sep (m:Nat):(46:UInt8)∉dec m/\(47:UInt8)∉dec m:=⟨dec_no 46 (by decide) m,dec_no 47 (by decide) m⟩
theorem rds_dot {r:List UInt8} {A m D a n:Nat} (hm:m<=255) (hA:A<=16777215) (hD:D<3) (h:Rds r (256*A+m) [] (D+1) a n):Rds (dec m++46::r) A [] D a n:=by
  refine rds_go (dec_sep m) [] ?_
  rw[Rds,if_pos (.inl rfl)];exact⟨m,hm,by simp,by omega,by constructor<;>intro q<;>first|(simp at q)|omega,hA,h⟩
theorem rds_wr (a n:Nat) (h:a<4294967296) (hn:n<=32):Rds (wr a n) 0 [] 0 a n:=by
  unfold wr dot;simp only[List.append_assoc,List.cons_append]
  refine rds_dot (om) (om) (om) ?_
  refine rds_dot (om) (om) (om) ?_
  refine rds_dot (om) (om) (om) ?_
  refine rds_go (dec_sep _) [] ?_
  rw[Rds,if_pos (.inr rfl)];refine⟨a%256,by omega,by simp,by omega,by simp,by omega,?_⟩
  have e:256*(256*(256*(256*0+a / 16777216)+a / 65536%256)+a / 256%256)+a%256=a:=by omega
  rw[e];have h2:Rds ([]:List UInt8) a ([]++dec n) 4 a n:=⟨rfl,rfl,by simp⟩
  have h3:=rds_go (r:=[]) (dec_sep n) [] h2
  simpa using h3
set_option maxRecDepth 100000 in
set_option maxHeartbeats 1000000 in
theorem kread_at (s:ByteArray) (a n:Nat) (w:World) (ha:a<4294967296) (hn:n<=32) (hz:s.size<=100) (hR:Hid (Rds s.data.toList 0 [] 0 a n)) (hr:(a:Int)%sz n=0) (hp:0<sz (n:Int)) :
    Calls Tryz.prog 44 #[.string s] w fun e w'=>e=.returned (.tuple #[.agg #[.int .u32 a,.int .i64 n],.bool true])/\Below w.heap.size w w':=by
  have HNa:Hid (∀ (m:Nat) W,m<=255->Calls Tryz.prog 80 #[.string (bs (dec m)),.int .i64 255] W fun e w'=>e=.returned (.int .i64 m)/\Below W.heap.size W w'):=fun m W h1=>knum_any m 255 W (om) h1 (om)
  have HNb:Hid (∀ W,Calls Tryz.prog 80 #[.string (bs (dec n)),.int .i64 32] W fun e w'=>e=.returned (.int .i64 n)/\Below W.heap.size W w'):=fun W=>knum_any n 32 W (om) hn (om)
  have HSz:Hid (∀ W,Calls Tryz.prog 23 #[.int .i64 n] W fun e w'=>e=.returned (.int .i64 (sz n))/\w'=W):=fun W=>ksize_any n W (om) (om)
  have hsl:Hid (s.data.toList.length=s.size):=Lib.size_eq s
  go_enter Tryz.func44,Tryz.ntmps44
  go_wp2;go_loopw [4,5,6,7] (fun va vf vd vi wr=>∃ (A F D i:Nat) (pre seg rest:List UInt8),va=.int .i64 A/\vf=.int .i64 F/\vd=.int .i64 D/\vi=.int .i64 i/\s.data.toList=pre++(seg++rest)/\F=pre.length/\i=F+seg.length/\Rds rest A seg D a n/\Below w.heap.size w wr/\Blk wr w.heap.size #[.int .u32 0,.int .i64 0] 80) (fun _ _ _ i _=>s.size-(intOf i).toNat)
  case atStart=>exact⟨0,0,0,0,[],[],s.data.toList,rfl,rfl,rfl,rfl,by simp,rfl,rfl,hR.out,Below.alloc (Below.refl _ _) (Nat.le_refl _) _,Blk.new _ _ _⟩
  case round =>
    obtain⟨A,F,D,i,pre,seg,rest,rfl,rfl,rfl,rfl,hs,hF,hi,hq,hb,hk⟩:=hrel;have hl:=congrArg List.length hs;rw[hsl.out] at hl;simp only[List.length_append] at hl
    replace hb:Hid _:=hb;replace hk:Hid (Blk wr w.heap.size #[.int .u32 0,.int .i64 0] 80):=hk;rcases rest with _|⟨c,r⟩
    . obtain⟨rfl,rfl,rfl⟩:=hq;have hie:i=s.size:=by simp at hl;omega
      have hext:s.extract F s.size=bs (dec n):=by
        rw[ext_bs,hs,List.take_of_length_le (by rw[<- hs,hsl.out];omega)]
        simp[hF]
      have hfl:F<=s.size:=by omega
      replace hs:Hid _:=hs;replace hF:Hid _:=hF;replace hi:Hid _:=hi;clear hl;subst hie;have hu:IntKind.u32.wrap (A:Int)=A:=by simp[IntKind.wrap,IntKind.signed,IntKind.bits];omega
      have hn0:¬(n:Int)<0:=by omega
      have hz0:¬sz (n:Int)=0:=by omega
      have htm:(A:Int).tmod (sz n)=0:=by rw[Int.tmod_eq_emod_of_nonneg (om)];exact hr
      go_wp2_with (first
        | (go_at_call 80;refine(HNb.out _).mono ?_;rintro e w1 ⟨rfl,hq1⟩;replace hq1:Hid _:=hq1;have K1:=hk.out.below hq1.out;have c0:=K1.cell 0;have c1:=K1.cell 1;have f0:=K1.frozen 0;have f1:=K1.frozen 1;have z0:=K1.lt;simp only[List.getElem?_toArray,List.getElem?_cons_zero,List.getElem?_cons_succ] at c0 c1;replace K1:Hid _:=K1)
        | (go_at_call 23;refine(HSz.out _).mono ?_;rintro e w2 ⟨rfl,rfl⟩))
      exact bodyPost_ret (v:=.tuple #[.agg #[.int .u32 (A:Int),.int .i64 (n:Int)],.bool true]) (by simp[results,Tryz.results44,go_sem,c0,c1,f0,f1,World.cell?_alloc_lt,z0,Nat.lt_succ_of_lt z0]) rfl ⟨rfl,(by have hB:=hb.out.trans (hq1.out.mono hb.out.size);exact upB)⟩
    . have hlt:i<s.size:=by simp at hl;omega
      have hc:s[i]=c:=by
        have:s[i]=s.data.toList[i]'(by rw[hsl.out];exact hlt):=rfl
        rw[this];simp only[hs]
        rw[List.getElem_append_right (om),List.getElem_append_right (om)];simp[hi,hF]
      rw[Rds] at hq;by_cases hsep:c=46\/c=47
      . rw[if_pos hsep] at hq;obtain⟨m,hm,rfl,hD,hiff,hA,hq⟩:=hq;have hext:s.extract F i=bs (dec m):=by
          rw[ext_bs,hs,<- List.append_assoc,List.take_append_of_le_length (by simp;omega),List.take_of_length_le (by simp;omega)]
          simp[hF]
        have hnext:s.data.toList=(pre++(dec m++[c]))++([]++r):=by rw[hs];simp
        have hFl:F<=i:=by omega
        have hiF:Hid (i+1=(pre++(dec m++[c])).length):=(by simp;omega:i+1=(pre++(dec m++[c])).length)
        clear hF hi hl;replace hs:Hid _:=hs;replace hnext:Hid _:=hnext;replace hq:Hid _:=hq;have hm0:¬(m:Int)<0:=by omega
        have ew1:IntKind.i64.wrap (256*(A:Int))=256*A:=wrap_small _ (om) (om)
        have ew2:IntKind.i64.wrap (256*(A:Int)+m)=256*A+m:=wrap_small _ (om) (om)
        have ew3:IntKind.i64.wrap ((D:Int)+1)=D+1:=wrap_small _ (om) (om)
        rcases hsep with rfl|rfl
        . have e1:((s[i].toNat:Nat):Int)=46:=by rw[hc];rfl
          have hD3:((D:Int)==3)=false:=by
            have:¬D=3:=fun q=>by have:=hiff.2 q;simp at this
            simp;omega
          go_wp2_with (go_at_call 80;refine(HNa.out m _ hm).mono ?_;rintro e w1 ⟨rfl,hq1⟩;replace hq1:Hid _:=hq1)
          go_roundw
          case rel=>exact⟨256*A+m,i+1,D+1,i+1,_,[],r,by simp,by simp,by simp,by go_num,hnext.out,hiF.out,by simp,hq.out,hb.out.trans (hq1.out.mono hb.out.size),hk.out.below hq1.out⟩
          case measure=>simp[intOf];omega
        . have e1:((s[i].toNat:Nat):Int)=47:=by rw[hc];rfl
          obtain rfl:D=3:=hiff.1 rfl
          go_wp2_with (go_at_call 80;refine(HNa.out m _ hm).mono ?_;rintro e w1 ⟨rfl,hq1⟩;replace hq1:Hid _:=hq1)
          go_roundw
          case rel=>exact⟨256*A+m,i+1,3+1,i+1,_,[],r,by simp,by simp,by simp,by go_num,hnext.out,hiF.out,by simp,hq.out,hb.out.trans (hq1.out.mono hb.out.size),hk.out.below hq1.out⟩
          case measure=>simp[intOf];omega
      . rw[if_neg hsep] at hq;have hnext:s.data.toList=pre++((seg++[c])++r):=by rw[hs];simp
        replace hnext:Hid _:=hnext;have hiF:Hid (i+1=F+(seg++[c]).length):=(by simp;omega:i+1=F+(seg++[c]).length)
        replace hF:Hid _:=hF;clear hi hl;replace hs:Hid _:=hs;replace hq:Hid _:=hq;have e1:¬((s[i].toNat:Nat):Int)=46:=by
          rw[hc];intro q;exact hsep (.inl (UInt8.toNat_inj.1 (by rw[show (46:UInt8).toNat=46 from rfl];omega)))
        have e2:¬((s[i].toNat:Nat):Int)=47:=by
          rw[hc];intro q;exact hsep (.inr (UInt8.toNat_inj.1 (by rw[show (47:UInt8).toNat=47 from rfl];omega)))
        have e3:(((s[i].toNat:Nat):Int)==46)=false:=by simp only[beq_eq_false_iff_ne];exact e1
        have e4:(((s[i].toNat:Nat):Int)==47)=false:=by simp only[beq_eq_false_iff_ne];exact e2
        have e5:(((s[i].toNat:Nat):Int) != 46)=true:=by simp only[bne,e3,Bool.not_false]
        have e6:(((s[i].toNat:Nat):Int) != 47)=true:=by simp only[bne,e4,Bool.not_false]
        clear hc;go_wp2;go_roundw
        case rel=>exact⟨A,F,D,i+1,pre,seg++[c],r,rfl,rfl,rfl,by go_num,hnext.out,hF.out,hiF.out,hq.out,hb.out,hk.out⟩
        case measure=>simp[intOf];omega
theorem kread_any (a n:Int) (w:World) (h0:0<=a) (h1:a<4294967296) (hr:rt a n=true) :
    Calls Tryz.prog 44 #[.string (bs (bText a n))] w fun e w'=>e=.returned (.tuple #[.agg #[.int .u32 a,.int .i64 n],.bool true])/\Below w.heap.size w w':=by
  obtain⟨r1,r2,r3⟩:=rt_iff.1 hr;have h:=kread_at (bs (bText a n)) a.toNat n.toNat w (om) (om) (by rw[bs_size];have:=wr_len a.toNat n.toNat (om) (om);unfold bText;omega) (by rw[bs_data];exact rds_wr a.toNat n.toNat (om) (om)) (by rw[Int.toNat_of_nonneg h0,Int.toNat_of_nonneg r1];exact r3) (sz_pos _)
  rw[Int.toNat_of_nonneg h0,Int.toNat_of_nonneg r1] at h;exact h
end Go.Proofs.YtjnhhnbgjjkkjaaGreatDoor
