import Derived.Test.YtjnhhnbgjjkkjaaGreatDoorRePBH
set_option linter.all false
set_option maxRecDepth 100000
set_option maxHeartbeats 2000000
namespace Go.Proofs.YtjnhhnbgjjkkjaaGreatDoor
open Go.RowKit Go.Shelf Go.Proofs.Tryz
attribute [local go_sem] Oper.semAt_some
def bE(rows:List (Lu))(j:Nat):Lu:=(rows.drop j).flatMap fun r=>r++[10]
theorem AR(rows:List (Lu))(j:Nat)(h:j<rows.length):bE rows j=rows.getD j []++10::bE rows (j+1):=by
 unfold bE;rw[List.drop_eq_getElem_cons h,List.flatMap_cons,List.getD_eq_getElem?_getD,List.getElem?_eq_getElem h];simp
theorem xa(rows:List (Lu)):bE rows rows.length=[]:=by unfold bE;simp
theorem Gf(a b:Lu)(h:(10:UInt8)∉a):Lib.indexByte (a++10::b) 10=a.length:=by
 rw[<- Lib.index_one];exact jb 10 a b h
theorem Cf(a b:Lu):(bs (a++10::b)).extract 0 (a.length+1)=bs (a++[10]):=by
 apply ByteArray.ext
 apply Array.ext'
 simp[bs,ByteArray.data_extract,List.take_append,List.take_of_length_le (show a.length<=a.length+1 by omega)]
theorem Ce(a b:Lu):(bs (a++10::b)).extract (a.length+1) (a.length+1+b.length)=bs b:=by
 apply ByteArray.ext
 apply Array.ext'
 have h:(a++10::b).drop (a.length+1)=b:=by rw[<- List.drop_drop];simp
 simp[bs,ByteArray.data_extract,h]
def xB(sb:Nat)(W:World):Nat:=match W.cell? (At sb 0) with|some (.string t)=>t.size|_=>0
theorem zM(n:Nat)(hn:1<=n)(l sb:Nat)(rows:List (Lu))(hr:Hid (∀ r,r∈rows->(10:UInt8)∉r))(hlen:Hid (∀ j,(bE rows j).length<=100000))(J:Nat->World->Prop)(X:World->Prop)(W1:World)
  (hs:Hid (∀ j W,J j W->W.cell? (At sb 0)=some (.string (bs (bE rows j)))/\W.frozen? (At sb 0)=false))
  (hY:Hid (∀ j W,J j W->j<rows.length->YieldAt Fence.wide (n-1) prog l #[.string (bs (rows.getD j []++[10]))] (W.setCell (At sb 0) (.string (bs (bE rows (j+1))))).drew fun e V=>(e=.returned (.bool true)/\J (j+1) V)\/(e=.returned (.bool false)/\X V)))
  (h0:J 0 W1) :
  CallsIn Fence.wide n prog 129 #[.func (.yield l) #[] #[],Pq sb] W1 fun e V=>(∃ v,e=.returned v)/\(J rows.length V\/X V):=by
 have HIB:Hid (∀ (t:Bz) W,Calls prog 130 #[.string t,.int .u8 10] W fun e w'=>e=.returned (I6 (Lib.indexByte t.data.toList 10))/\w'=W):=fun t W=>Tryz.strings_IndexByte t 10 W
 refine callsIn_of_wp func129 rfl trivial ?_ rfl
 simp only[ntmps129,List.size_toArray,List.length_cons,List.length_nil,Nat.reduceAdd,Nat.reduceSub,Array.replicate_succ,Array.replicate_zero,List.push_toArray,List.append_toArray,List.nil_append,List.cons_append]
 gi_wp2
 gi_loopw [3,4] (fun _ _ wr=>∃ j:Nat,j<=rows.length/\Hid (J j wr)) (fun _ _ wr=>xB sb wr)
 case atStart=>exact⟨0,Nat.zero_le _,h0⟩
 case round =>
  obtain⟨j,hj,HJ⟩:=hrel;obtain⟨c0,f0⟩:=hs.o j wr HJ.o;by_cases hlt:j<rows.length
  ·have hY1:=hY.o j wr HJ.o hlt;have e1:=AR rows j hlt;have hib:Lib.indexByte (bE rows j) 10=((rows.getD j []).length:Int):=by rw[e1];exact Gf _ _ (hr.o _ (by first|exact aJ rows [] j hlt|exact aJ [] hlt))
   have hz:(bs (bE rows j)).size=(rows.getD j []).length+1+(bE rows (j+1)).length:=by rw[aN,e1];simp;omega
   have hm:(rows.getD j []).length+1+(bE rows (j+1)).length<=100000:=by rw[<- hz,aN];exact hlen.o j
   have hx1:(bs (bE rows j)).extract 0 ((rows.getD j []).length+1)=bs (rows.getD j []++[10]):=by
    rw[e1];exact Cf _ _
   have hx2:(bs (bE rows j)).extract ((rows.getD j []).length+1) ((rows.getD j []).length+1+(bE rows (j+1)).length)=bs (bE rows (j+1)):=by
    rw[e1];exact Ce _ _
   have hIB:=fun W=>HIB.o (bs (bE rows j)) W
   rw[show (bs (bE rows j)).data.toList=bE rows j from rfl,hib] at hIB;generalize (rows.getD j []).length=m at *
   obtain⟨k,hkk⟩:∃ k,k=(bE rows (j+1)).length:=⟨_,rfl⟩
   rw[<- hkk] at hz hm hx2;replace hkk:=hkk.symm
   generalize bs (bE rows j)=t at *
   generalize bs (rows.getD j []++[10])=t1 at *
   obtain⟨t2,ht2⟩:∃ t2,t2=bs (bE rows (j+1)):=⟨_,rfl⟩
   rw[<- ht2] at hY1 hx2;have hk2:(bs (bE rows (j+1))).size=k:=by rw[aN];exact hkk
   replace hIB:Hid (∀ W,Calls prog 130 #[.string t,.int .u8 10] W fun e w'=>e=.returned (I6 (m:Int))/\w'=W):=hIB
   obtain⟨fn,tmps,assign,body,hy,hR⟩:=hY1;have hk0:0<t.size:=by omega
   have hkz:(0:Int)<(t.size:Int):=by omega
   have hm0:(0:Int)<=(m:Int):=by omega
   have hw1:IntKind.i64.wrap ((m:Int)+1)=(m:Int)+1:=dD _ om om
   have hb1:(m:Int)+1<=(t.size:Int):=by omega
   have hsz:xB sb wr=t.size:=by unfold xB;rw[c0]
   have hs3:Hid (∀ W,J (j+1) W->xB sb W<xB sb wr):=fun W hW=>by
    rw[hsz];unfold xB;rw[(hs.o _ _ hW).1];show (bs (bE rows (j+1))).size<t.size;omega
   clear e1 hib hlen hr hY hsz ht2 hk2 hkk;gi_wp2_with (refine⟨trivial,?_⟩;gi_at_call 130;refine(callsIn_wide.2 (hIB.o _)).mono ?_;rintro e w5 ⟨rfl,hw5⟩;subst hw5)
   gi_region
   gi_wp2
   refine hR.mono ?_
   rintro e W3 (⟨rfl,hJ3⟩|⟨rfl,hX3⟩)
   ·have HJ3:Hid (J (j+1) W3):=hJ3
    clear hJ3;gi_wp2
    go_roundw
    case rel=>exact⟨j+1,by omega,HJ3.o⟩
    case measure=>exact hs3.o _ HJ3.o
   ·gi_wp2
    refine bodyPost_ret (results_none rfl _ _ _) rfl ?_
    exact⟨⟨_,rfl⟩,.inr hX3⟩
  ·obtain rfl:j=rows.length:=by omega
   rw[xa] at c0;have c0':wr.cell? (At sb 0)=some (.string ⟨#[]⟩):=c0
   clear c0;gi_wp2
   go_end0
   exact⟨⟨_,rfl⟩,.inl HJ.o⟩
end Go.Proofs.YtjnhhnbgjjkkjaaGreatDoor
