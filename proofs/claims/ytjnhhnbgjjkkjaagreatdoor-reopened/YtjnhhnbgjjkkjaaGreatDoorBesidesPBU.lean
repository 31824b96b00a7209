/-
  BkFn
-/
import Derived.Lib.SlicesS
import Derived.Test.YtjnhhnbgjjkkjaaGreatDoorBesidesPAA
import Derived.Test.YtjnhhnbgjjkkjaaGreatDoorBesidesPAD
import Derived.Test.YtjnhhnbgjjkkjaaGreatDoorBesidesPBA
namespace Go.Proofs.YtjnhhnbgjjkkjaaGreatDoor
open Go.ChangeShapes Go.WideShapes Go.ChangeAt Go.RowKit
set_option linter.unusedVariables false
set_option linter.unusedSimpArgs false
def digs36:List UInt8:=[48,49,50,51,52,53,54,55,56,57,97,98,99,100,101,102,103,104,105,106,107,108,109,110,111,112,113,114,115,116,117,118,119,120,121,122]
theorem digs_fin:∀ d:Fin 36,(digs36.drop d).take 1=[dig36 d]:=by decide +kernel
theorem digs_at (d:Nat) (h:d<36):(bs digs36).extract d (d+1)=bs [dig36 d]:=by
  have h1:(digs36.drop d).take 1=[dig36 d]:=digs_fin ⟨d,h⟩
  rw[ext_bs,bs_data,List.drop_take,show d+1-d=1 by omega,h1]
set_option maxRecDepth 1000000 in
set_option maxHeartbeats 1000000 in
theorem name_any (hd:ByteArray) (x:Int) (w:World) (h0:0<=x) (h1:x<=4294967296) (hh:hd.size<=8) :
    Calls Tryz.prog 15 #[.string hd,.int .i64 x] w fun e w'=>e=.returned (.string (hd++bs (b36 x.toNat)))/\Below w.heap.size w w':=by
  go_enter Tryz.func15,Tryz.ntmps15
  go_wp2;go_loopw [1,5] (fun n t wr=>∃ (m:Int) (l:List UInt8) (st:ByteArray),0<=m/\m<=4294967296/\st.size<=100/\n=.int .i64 m/\t=.string st/\Hid (st=bs l/\b36 x.toNat=b36 m.toNat++l)/\Below w.heap.size w wr) (fun n _ _=>(intOf n).toNat)
  case atStart=>exact⟨x,[],⟨#[]⟩,h0,h1,Nat.zero_le _,rfl,rfl,⟨rfl,by simp⟩,Below.refl _ _⟩
  case round =>
    obtain⟨m,l,st,m0,m1,hst,rfl,rfl,H,hb⟩:=hrel;obtain⟨d,hd36,hmod⟩:∃ d:Nat,d<36/\m%36=(d:Int):=⟨(m%36).toNat,by omega,by omega⟩
    obtain⟨q,hdiv⟩:∃ q:Nat,m / 36=(q:Int):=⟨(m / 36).toNat,by omega⟩
    obtain⟨g,hg⟩:∃ g,g=bs [dig36 d]:=⟨_,rfl⟩
    have hdg:(⟨#[48,49,50,51,52,53,54,55,56,57,97,98,99,100,101,102,103,104,105,106,107,108,109,110,111,112,113,114,115,116,117,118,119,120,121,122]⟩:ByteArray).extract d (d+1)=g:=by rw[hg];exact digs_at d hd36
    have hgs:g.size<=1:=by rw[hg,bs_size];exact Nat.le_refl 1
    have hme:m.toNat / 36=q/\m.toNat%36=d:=by omega
    have HB36:Hid (b36 m.toNat=(if q=0 then [] else b36 q)++[dig36 d]):=by have h:=b36_eq m.toNat;rw[hme.1,hme.2] at h;exact h
    have HLN:Hid ((bs [dig36 d]++st).size<=100):=by
      have hlen:=b36_len x.toNat 7 (Nat.lt_of_le_of_lt (show x.toNat<=4294967296 by omega) (by decide))
      have h2:=H.out.2;rw[HB36.out] at h2;have h3:=congrArg List.length h2;rw[H.out.1,bs_append,bs_size];have h4:[dig36 d].length=1:=rfl
      rw[List.length_append] at h3;rw[List.length_append];show [dig36 d].length+l.length<=100
      omega
    have HG:Hid (g=bs [dig36 d]):=hg
    have i1:(0:Int)<=(d:Int):=by omega
    have i2:(d:Int)<=(d:Int)+1:=by omega
    have i3:(d:Int)+1<=36:=by omega
    clear hg hme;by_cases hq0:q=0
    . have hq:((q:Int)==0)=true:=by rw[hq0];rfl
      have HQ:Hid (q=0):=hq0
      clear hq0;go_wp2;go_ret;refine⟨?_,hb⟩
      have e:g++st=bs (b36 x.toNat):=by rw[HG.out,H.out.1,bs_append,H.out.2,HB36.out,if_pos HQ.out];simp
      exact congrArg Ending.returned (congrArg Value.string (by rw[<- e]))
    . have hq:((q:Int)==0)=false:=beq_eq_false_iff_ne.2 om
      have HQ:Hid (¬q=0):=hq0
      have hqm:(q:Int)<m:=by omega
      clear hq0;go_wp2;go_roundw
      case rel=>exact⟨(q:Int),dig36 d::l,g++st,by omega,by omega,by rw[HG.out];exact HLN.out,by rw[hdiv],rfl,⟨by rw[HG.out,H.out.1,bs_append];rfl,by rw[H.out.2,HB36.out,if_neg HQ.out,Int.toNat_natCast];simp⟩,hb⟩
      case measure=>simp[intOf];omega
end Go.Proofs.YtjnhhnbgjjkkjaaGreatDoor
