import Derived.Deep.OwnRows
import Derived.Test.YtjnhhnbgjjkkjaaGreatDoorRePAM
set_option linter.all false
set_option maxRecDepth 100000
set_option maxHeartbeats 2000000
namespace Go.Proofs.YtjnhhnbgjjkkjaaGreatDoor
open Go.ChangeShapes Go.WideShapes Go.ChangeAt Go.RowKit Go.Proofs.Tryz
def zb(n:Nat):Bz:=bs (List.replicate n 0)
def bT(l:List (Int×Bz))(s:Int):Bz:=match l.find? (fun c=>c.1==s) with|some c=>c.2|none=>zb 64
def cAt(l:List (Int×Bz))(j:Nat):Int×Bz:=l.getD j (0,ByteArray.empty)
def my(w:World)(v:Value)(l:List (Int×Bz)):Prop :=
 ∃ a cap,v=.slice a l.length cap/\l.length<=cap/\cap<=maxLen/\(l≠[]->∃ g,a=some (At g 0)/\g<w.heap.size/\∀ j,j<l.length->w.cell? (At g (j*2))=some (I6 (cAt l j).1)/\w.cell? (At g (j*2+1))=some (.string (cAt l j).2))
theorem xV(H j:Nat):((At H 0):Addr).add j=⟨H,j,none⟩:=by
 simp only[Addr.add];split<;>simp_all
theorem zS{l:List (Int×Bz)}{k:Nat}{s:Int}(hk:k<l.length)(hno:∀ j,j<k->(cAt l j).1≠s)(hs:(cAt l k).1=s):(cAt l k).2=bT l s:=by
 have hf:l.find? (fun c=>c.1==s)=some (cAt l k):=by
  rw[List.find?_eq_some_iff_getElem];refine⟨by simpa using hs,k,hk,by simp[cAt,List.getD,List.getElem?_eq_getElem hk],fun j hj=>?_⟩
  have:=hno j hj
  simp only[cAt,List.getD,List.getElem?_eq_getElem (show j<l.length by omega),Option.getD_some] at this
  simpa using this
 unfold bT;rw[hf]
theorem wu{l:List (Int×Bz)}{s:Int}(hno:∀ j,j<l.length->(cAt l j).1≠s):zb 64=bT l s:=by
 have hf:l.find? (fun c=>c.1==s)=none:=by
  rw[List.find?_eq_none];intro c hc;obtain⟨j,hj,rfl⟩:=List.getElem_of_mem hc;have:=hno j hj
  simp only[cAt,List.getD,List.getElem?_eq_getElem hj,Option.getD_some] at this
  simpa using this
 unfold bT;rw[hf]
theorem D8:(prog.info? 5).map (fun i=>(i.zero,i.size,i.bytes))=some (some (.int .u8 0),1,1):=by kernel_rfl
theorem mQ(n:Nat)(w:World):
  (convert 106 9 (.slice (some (Nw w 0)) n n)).run prog (w.alloc (.cells (madeCells #[.int .u8 0] n) 5))=.ok (.string (zb n)) (w.alloc (.cells (madeCells #[.int .u8 0] n) 5)):=by
 have h:=run_convert_bytes_back (P:=prog) (w.alloc (.cells (madeCells #[.int .u8 0] n) 5)) 106 9 5 (Nw w 0) n (List.replicate n 0) underlying106 underlying5 underlying9 (fun j hj=>by
  simp only[List.length_replicate] at hj
  rw[xV,World.cell?_alloc_at _ _ _ _ rfl];simp[madeCells,hj,Nat.mod_one])
 simpa[zb,bs] using h
theorem CF(v:Value)(l:List (Int×Bz))(s:Int)(w:World)(hl:l.length<=2097152)(hr:my w v l):Cr prog 49 #[v,I6 s] w (.string (bT l s)):=by
 have hmk:∀ w,(Instr.makeSlice 106 (I6 64) (I6 64)).run prog w=.ok (.slice (some (Nw w 0)) 64 64) (w.alloc (.cells (madeCells #[.int .u8 0] 64) 5)):=fun w=>run_make_row' (P:=prog) 106 5 (.int .u8 0) 1 underlying106 D8 rfl .i64 .i64 64 om om w
 have hcv:=mQ 64;have HR:Hid (my w v l):=hr
 obtain⟨a,cap,rfl,h1,h2,h3⟩:=hr;unfold maxLen at h2;have H3:Hid (l≠[]->∃ g,a=some (At g 0)/\g<w.heap.size/\∀ j,j<l.length->w.cell? (At g (j*2))=some (I6 (cAt l j).1)/\w.cell? (At g (j*2+1))=some (.string (cAt l j).2)):=h3
 clear h3;go_enter func49,ntmps49
 go_wp2;go_loopw [9] (fun i wr=>∃ k:Nat,k<=l.length/\i=I6 k/\Bl w wr/\Hid (∀ j,j<k->(cAt l j).1≠s)) (fun i _=>l.length-(intOf i).toNat)
 case atStart=>exact⟨0,by omega,rfl,Below.refl _ _,fun j hj=>by omega⟩
 case round =>
  obtain⟨k,hk,rfl,hb,hno⟩:=hrel;by_cases hlt:k<l.length
  ·obtain⟨g,rfl,hg,hc⟩:=H3.o (by intro e;rw[e] at hlt;simp at hlt)
   have c0:=(hb.cell (p:=At g (k*2)) hg).trans (hc k hlt).1
   have c1:=(hb.cell (p:=At g (k*2+1)) hg).trans (hc k hlt).2
   clear hc;by_cases hs:(cAt l k).1=s
   ·have hs':((cAt l k).1==s)=true:=by simpa using hs
    have hlk:=zS hlt hno.o hs;have HL:Hid ((cAt l k).2=bT l s):=hlk
    clear hs hlk;generalize (cAt l k).1=x at c0 hs'
    go_wp2;go_ret;exact⟨gj HL.o,Below.alloc hb hb.size _⟩
   ·have hs':((cAt l k).1==s)=false:=by simpa using hs
    have hno2:Hid (∀ j,j<k+1->(cAt l j).1≠s):=fun j hj=>by
     by_cases e:j<k
     ·exact hno.o j e
     ·obtain rfl:j=k:=by omega
      exact hs
    clear hs hno;generalize (cAt l k).1=x at c0 hs'
    go_wp2;go_roundw
    case rel=>exact⟨k+1,by omega,by go_num,Below.alloc hb hb.size _,hno2⟩
    case measure=>simp[intOf];omega
  ·have hlk:=wu (l:=l) (s:=s) (fun j hj=>hno.o j om)
   have HL:Hid (zb 64=bT l s):=hlk
   clear hlk;go_wp2;go_ret;exact⟨gj HL.o,Below.alloc hb hb.size _⟩
def rep(c x:Int×Bz):Int×Bz:=if x.1=c.1 then c else x
def has(l:List (Int×Bz))(c:Int×Bz):Bool:=l.any (fun x=>x.1==c.1)
def cG(l:List (Int×Bz))(c:Int×Bz):List (Int×Bz):=if has l c then l.map (rep c) else l.map (rep c)++[c]
def cvs(l:List (Int×Bz)):List Value:=l.flatMap fun c=>[I6 c.1,.string c.2]
theorem yK(l:List (Int×Bz))(c:Int×Bz):cvs l++[I6 c.1,.string c.2]=cvs (l++[c]):=by simp[cvs]
theorem Eu(l:List (Int×Bz))(j:Nat)(hj:j<l.length):(cvs l)[j*2]?=some (I6 (cAt l j).1)/\(cvs l)[j*2+1]?=some (.string (cAt l j).2):=by
 induction l generalizing j with
 | nil=>simp at hj
 | cons c r ih =>
  cases j with
  | zero=>simp[cvs,cAt]
  | succ j =>
   have:=ih j (by simpa using hj)
   have e:cvs (c::r)=I6 c.1::.string c.2::cvs r:=rfl
   rw[e,show (j+1)*2=j*2+2 by omega,show j*2+2+1=j*2+1+2 by omega]
   simpa[cAt] using this
theorem D9:(prog.info? 114).map (fun i=>(i.zero,i.size,i.bytes))=some (some (.agg #[I6 0,.string ByteArray.empty]),2,24):=by kernel_rfl
theorem mq{w:World}{base:Nat}{e:TypeId}{v:Value}{l:List (Int×Bz)}(h:w.ownsRow base e 2 v l.length (cvs l)):my w v l:=by
 have h0:=h;obtain⟨_,⟨rfl,hn⟩|⟨g,cap,cur,rfl,hg,hblk,hc,hm,hsz,htk⟩⟩:=h
 ·exact⟨none,0,by rw[hn],by omega,by unfold maxLen;omega,fun hl=>absurd (List.eq_nil_of_length_eq_zero hn) hl⟩
 ·refine⟨_,cap,rfl,hc,hm,fun _=>⟨g,rfl,(Array.getElem?_eq_some_iff.1 hblk).1,fun j hj=>?_⟩⟩
  rw[h0.cellAt (j*2) om,h0.cellAt (j*2+1) om];exact Eu l j hj
theorem ir(l:List (Int×Bz))(k:Nat)(hk:k<l.length):l.take (k+1)=l.take k++[cAt l k]:=by
 rw[List.take_add_one,List.getElem?_eq_getElem hk];simp[cAt,List.getD,List.getElem?_eq_getElem hk]
def pre(l:List (Int×Bz))(c:Int×Bz)(k:Nat):List (Int×Bz):=(l.take k).map (rep c)
def fnd(l:List (Int×Bz))(c:Int×Bz)(k:Nat):Bool:=has (l.take k) c
theorem Di(l:List (Int×Bz))(c:Int×Bz):cG l c=if fnd l c l.length then pre l c l.length else pre l c l.length++[c]:=by simp[cG,fnd,pre]
theorem Dh{l:List (Int×Bz)}{c:Int×Bz}{k:Nat}(hk:k<=l.length):(pre l c k).length=k:=by simp[pre,hk]
theorem Dk{l:List (Int×Bz)}{c:Int×Bz}{k:Nat}(hk:k<l.length)(hs:(cAt l k).1=c.1):
  pre l c (k+1)=pre l c k++[c]/\fnd l c (k+1)=true:=by
 unfold pre fnd;rw[ir l k hk];constructor
 ·simp[rep,hs]
 ·simp[has,hs]
theorem AF{l:List (Int×Bz)}{c:Int×Bz}{k:Nat}(hk:k<l.length)(hs:(cAt l k).1≠c.1):
  pre l c (k+1)=pre l c k++[cAt l k]/\fnd l c (k+1)=fnd l c k:=by
 unfold pre fnd;rw[ir l k hk];constructor
 ·simp[rep,hs]
 ·simp[has,hs]
theorem jH(l:List (Int×Bz))(a:Int)(b:Bz):cvs l++[I6 a,.string b]=cvs (l++[(a,b)]):=by simp[cvs]
theorem kz{w:World}{base base':Nat}{e:TypeId}{size:Nat}{v:Value}{n:Nat}{xs:List Value}(h:w.ownsRow base e size v n xs)(hb:base'<=base):w.ownsRow base' e size v n xs:=by
 obtain⟨h1,h2|⟨g,cap,cur,hv,hg,r⟩⟩:=h
 ·exact⟨h1,.inl h2⟩
 ·exact⟨h1,.inr ⟨g,cap,cur,hv,by omega,r⟩⟩
theorem ji{w:World}{h:Nat}{a:Int}{b:Bz}(h0:w.cell? (At h 0)=some (I6 a))(h1:w.cell? (At h 1)=some (.string b)):
  ∀ j u,[Value.int .i64 a,Value.string b][j]?=some u->w.cell? (((At h 0):Addr).add j)=some u:=by
 intro j u hj;rw[xV];match j,hj with
 | 0,hj=>simp at hj;subst hj;exact h0
 | 1,hj=>simp at hj;subst hj;exact h1
theorem kX(a:Int)(b:Bz):∀ u∈[Value.int .i64 a,Value.string b],u.oneCell'=true:=by
 intro u hu;simp at hu;rcases hu with rfl|rfl<;>rfl
theorem Dj(v:Value)(l:List (Int×Bz))(s:Int)(d:Bz)(w:World)(hl:l.length<=2097152)(hr:my w v l):Calls prog 50 #[v,.agg #[I6 s,.string d]] w fun e w'=>∃ v',e=.returned v'/\w'.ownsRow w.heap.size 114 2 v' (cG l (s,d)).length (cvs (cG l (s,d)))/\Bl w w':=by
 obtain⟨i0,hi,hz0,hz1,hz2⟩:=info_parts D9;obtain⟨a,cap,rfl,h1,h2,h3⟩:=hr;unfold maxLen at h2;have H3:Hid (l≠[]->∃ g,a=some (At g 0)/\g<w.heap.size/\∀ j,j<l.length->w.cell? (At g (j*2))=some (I6 (cAt l j).1)/\w.cell? (At g (j*2+1))=some (.string (cAt l j).2)):=h3
 clear h3;go_enter func50,ntmps50
 go_wp2_with (first
  | (at_make;refine wpList_make_own _ rfl _ _ 110 rfl (w.heap.size+1) 114 i0 _ 2 underlying110 hi hz0 hz1 _ _ _ (l.length+1) rfl rfl om ?b2 ?b3 ?b4 ?_)
  | go_in)
 case b2=>rw[hz2];omega
 case b3=>unfold maxLen;omega
 case b4=>simp
 intro w1 hown1 hgrow1;have hb1:Below (w.heap.size+1) (w.alloc (.cells #[I6 s,.string d] 114)) w1:=(Below.refl _ _).grown hgrow1 sM (fun _ h=>by cases h)
 have hs1:=hb1.size;simp at hs1;have k0:w1.cell? (Nw w 0)=some (I6 s):=by rw[hb1.cell (p:=Nw w 0) sM];simp[go_sem]
 have k1:w1.cell? (Nw w 1)=some (.string d):=by rw[hb1.cell (p:=Nw w 1) sM];simp[go_sem]
 have H4:Hid (l≠[]->∃ g,a=some (At g 0)/\g<w.heap.size/\∀ j,j<l.length->w1.cell? (At g (j*2))=some (I6 (cAt l j).1)/\w1.cell? (At g (j*2+1))=some (.string (cAt l j).2)):=fun hl=>by
  obtain⟨g,e,hg,hc⟩:=H3.o hl;refine⟨g,e,hg,fun j hj=>?_⟩
  rw[hb1.cell (p:=At g (j*2)) (by simp;omega),hb1.cell (p:=At g (j*2+1)) (by simp;omega),World.cell?_alloc_lt _ _ _ hg,World.cell?_alloc_lt _ _ _ hg]
  exact hc j hj
 have HB:Hid (Bl w w1):=((Below.refl _ _).alloc (Nat.le_refl _) _).trans (hb1.mono om)
 clear H3 hb1 hgrow1;go_wp2;go_loopw [5,6,15] (fun o f i wr=>∃ k:Nat,k<=l.length/\i=I6 k/\f=.bool (fnd l (s,d) k)/\Below (w.heap.size+1) w1 wr/\wr.ownsRow (w.heap.size+1) 114 2 o k (cvs (pre l (s,d) k))) (fun _ _ i _=>l.length-(intOf i).toNat)
 case atStart=>exact⟨0,by omega,rfl,by simp[fnd,has],Below.refl _ _,by simpa[cvs,pre] using hown1⟩
 case round =>
  obtain⟨k,hk,rfl,rfl,hb,hown⟩:=hrel;have hsr:=hb.size;have r0:=(hb.cell (p:=Nw w 0) sM).trans k0
  have r1:=(hb.cell (p:=Nw w 1) sM).trans k1
  have rz:w.heap.size<wr.heap.size:=by omega
  by_cases hlt:k<l.length
  ·obtain⟨g,rfl,hg,hc⟩:=H4.o (by intro e;rw[e] at hlt;simp at hlt)
   have c0:=(hb.cell (p:=At g (k*2)) (by simp;omega)).trans (hc k hlt).1
   have c1:=(hb.cell (p:=At g (k*2+1)) (by simp;omega)).trans (hc k hlt).2
   clear hc;by_cases hs:(cAt l k).1=s
   ·have hs':((cAt l k).1==s)=true:=by simpa using hs
    have hlk:=Dk (c:=(s,d)) hlt hs
    have HL:Hid (pre l (s,d) (k+1)=pre l (s,d) k++[(s,d)]/\fnd l (s,d) (k+1)=true):=hlk
    clear hs hlk;generalize (cAt l k).1=x at c0 hs'
    generalize (cAt l k).2=y at c1
    go_wp2_with (first
     | (at_builtin;refine wpList_append_own _ rfl _ _ 110 rfl (w.heap.size+1) 114 i0 _ 2 24 underlying110 hi hz0 hz1 hz2 rfl dE _ _ _ rfl ((hown.alloc _).alloc _) (At (wr.heap.size+1) 0) 1 1 [I6 s,.string d] rfl rfl ?c1 ?c2 ?c3 ?c4 ?c5 ?_)
     | go_in)
    case c1=>exact ji (by simp[go_sem]) (by simp[go_sem])
    case c2=>exact kX _ _
    case c3=>unfold maxLen;omega
    case c4=>omega
    case c5=>simp;omega
    intro v' w2 hown2 hgrow2 _;rw[jH,<- HL.o.1] at hown2;have hb2:Below (w.heap.size+1) w1 w2:=((hb.alloc om _).alloc (by simp;omega) _).grown hgrow2 (by simp;omega) (fun r hr=>(hown.lt r hr).1)
    clear hgrow2 hown c0 c1 r0 r1;go_wp2;go_roundw
    case rel=>exact⟨k+1,by omega,by go_num,by rw[HL.o.2],hb2,hown2⟩
    case measure=>simp[intOf];omega
   ·have hs':((cAt l k).1==s)=false:=by simpa using hs
    have hlk:=AF (c:=(s,d)) hlt hs
    have HL:Hid (pre l (s,d) (k+1)=pre l (s,d) k++[((cAt l k).1,(cAt l k).2)]/\fnd l (s,d) (k+1)=fnd l (s,d) k):=hlk
    clear hs hlk;generalize (cAt l k).1=x at c0 hs' HL
    generalize (cAt l k).2=y at c1 HL
    go_wp2_with (first
     | (at_builtin;refine wpList_append_own _ rfl _ _ 110 rfl (w.heap.size+1) 114 i0 _ 2 24 underlying110 hi hz0 hz1 hz2 rfl dE _ _ _ rfl ((hown.alloc _).alloc _) (At (wr.heap.size+1) 0) 1 1 [I6 x,.string y] rfl rfl ?c1 ?c2 ?c3 ?c4 ?c5 ?_)
     | go_in)
    case c1=>exact ji (by simp[go_sem]) (by simp[go_sem])
    case c2=>exact kX _ _
    case c3=>unfold maxLen;omega
    case c4=>omega
    case c5=>simp;omega
    intro v' w2 hown2 hgrow2 _;rw[jH,<- HL.o.1] at hown2;have hb2:Below (w.heap.size+1) w1 w2:=((hb.alloc om _).alloc (by simp;omega) _).grown hgrow2 (by simp;omega) (fun r hr=>(hown.lt r hr).1)
    clear hgrow2 hown c0 c1 r0 r1;go_wp2;go_roundw
    case rel=>exact⟨k+1,by omega,by go_num,by rw[HL.o.2],hb2,hown2⟩
    case measure=>simp[intOf];omega
  ·obtain rfl:k=l.length:=by omega
   have hpl:=Di l (s,d)
   have hln:(pre l (s,d) l.length).length=l.length:=Dh (Nat.le_refl _)
   rcases hf:fnd l (s,d) l.length with _|_
   ·have HP:Hid (cG l (s,d)=pre l (s,d) l.length++[(s,d)]):=by rw[hpl,hf];rfl
    have HN:Hid ((pre l (s,d) l.length).length=l.length):=hln
    clear hpl hln;go_wp2_with (first
     | (at_builtin;refine wpList_append_own _ rfl _ _ 110 rfl (w.heap.size+1) 114 i0 _ 2 24 underlying110 hi hz0 hz1 hz2 rfl dE _ _ _ rfl ((hown.alloc _)) (Nw wr 0) 1 1 [I6 s,.string d] rfl rfl ?c1 ?c2 ?c3 ?c4 ?c5 ?_)
     | go_in)
    case c1=>exact ji (by simp[go_sem]) (by simp[go_sem])
    case c2=>exact kX _ _
    case c3=>unfold maxLen;omega
    case c4=>omega
    case c5=>simp;omega
    intro v' w2 hown2 hgrow2 _;rw[jH,<- HP.o] at hown2;have hown3:w2.ownsRow w.heap.size 114 2 v' (cG l (s,d)).length (cvs (cG l (s,d))):=by
     have e:(cG l (s,d)).length=l.length+1:=by rw[HP.o,List.length_append,HN.o];rfl
     rw[e];exact kz hown2 om
    have hb2:Bl w w2:=HB.o.trans (((hb.alloc om _).grown hgrow2 (by simp;omega) (fun r hr=>(hown.lt r hr).1)).mono om)
    clear hgrow2 hown hown2 r0 r1;go_wp2;go_ret;exact⟨_,rfl,hown3,hb2⟩
   ·have HP:Hid (cG l (s,d)=pre l (s,d) l.length):=by rw[hpl,hf];rfl
    have hown3:wr.ownsRow w.heap.size 114 2 u5 (cG l (s,d)).length (cvs (cG l (s,d))):=by
     have e:(cG l (s,d)).length=l.length:=by rw[HP.o];exact hln
     rw[e,HP.o];exact kz hown om
    have hb2:Bl w wr:=HB.o.trans (hb.mono om)
    clear hpl hln hown r0 r1;go_wp2;go_ret;exact⟨_,rfl,hown3,hb2⟩
end Go.Proofs.YtjnhhnbgjjkkjaaGreatDoor
