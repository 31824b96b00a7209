import Derived.Deep.DeepHandedRow
import Derived.Stop.LaidErr
import Derived.Lay
import Derived.Test.YtjnhhnbgjjkkjaaGreatDoorCards
import Derived.Test.YtjnhhnbgjjkkjaaGreatDoorTie
import Derived.Test.YtjnhhnbgjjkkjaaGreatDoorRePBE
set_option linter.all false
set_option maxRecDepth 100000
set_option maxHeartbeats 2000000
namespace Go.Proofs.YtjnhhnbgjjkkjaaGreatDoor
open Go.ChangeShapes Go.WideShapes Go.ChangeAt Go.RowKit Go.Proofs.Tryz
def iI:List (String×DataW Unit):=[("math/bits.deBruijn32tab",Rows.laid_math_bits_deBruijn32tab),("math/bits.deBruijn64tab",Rows.laid_math_bits_deBruijn64tab),("internal/strconv.uint64pow10",Rows.laid_internal_strconv_uint64pow10),("unicode/utf8.acceptRanges",Rows.laid_unicode_utf8_acceptRanges),("strconv.ErrRange",Rows.laid_strconv_ErrRange),("strconv.ErrSyntax",Rows.laid_strconv_ErrSyntax),("acre/answers.words",Rows.laid_acre_answers_words),("acre/lines.forms",Rows.laid_acre_lines_forms),("unicode/utf8.first",Rows.laid_unicode_utf8_first)]
theorem own:ownKnob prog.godebug=none:=by kernel_rfl
theorem Hf:(prog.globals[6]?).map (·.type)=some 141:=by kernel_rfl
theorem He:(prog.globals[7]?).map (·.type)=some 141:=by kernel_rfl
theorem Hg:(prog.globals[5]?).map (·.type)=some 318:=by kernel_rfl
theorem yy:prog.cellsOf 318=20:=by kernel_rfl
theorem yz:prog.cellsOf 302=1:=by kernel_rfl
theorem pF:prog.cellsOf 331=1:=by kernel_rfl
theorem iW:prog.cellsOf 9=1:=by kernel_rfl
theorem GJ:(Rows.laid_internal_strconv_uint64pow10:DataW Unit)=Lib.tabData .u64 Lib.pow10Tab:=by kernel_rfl
theorem kc{W:World}{n:String}{g:Nat}{cs:Array Value}(hg:prog.globalNamed n=some g)(h:W.var? prog n=some cs):g<W.heap.size:=by
 unfold World.var? at h
 simp only[hg,Option.bind_some] at h
 rcases Nat.lt_or_ge g W.heap.size with e|e
 ·exact e
 ·rw[Array.getElem?_eq_none e] at h;cases h
theorem GI : "*" ++ "errors.errorString" = "*errors.errorString" := by decide
theorem A0 (u:TypeId) (h:prog.typeName? 3 u=some "*errors.errorString"):u=329 :=
 typeName_ptr_named (nm := "errors.errorString") (by rw[GI];kernel_rfl) (by kernel_rfl) dE u (by rw[GI];exact h)
theorem sD:prog.globalNamed "acre/answers.words" = some 1:=by kernel_rfl
theorem sC:prog.globalNamed "acre/lines.forms" = some 0:=by kernel_rfl
theorem gBr:prog.globalNamed "math/bits.deBruijn64tab" = some 9:=by kernel_rfl
theorem FI:(prog.globals[1]?).map (·.type)=some 136:=by kernel_rfl
theorem FH:(prog.globals[0]?).map (·.type)=some 135:=by kernel_rfl
theorem FZ:prog.cellsOf 134=5:=by kernel_rfl
theorem F7:prog.cellsOf 131=1:=by kernel_rfl
theorem Em:prog.cellsOf 132=4:=by kernel_rfl
section
variable {H:Type} {enc:TypeId×Value->H} {w:World} {base:Nat} {sp:Nat->Bool} {held:Bool}
theorem oO(cs:List Value)(a b j:Nat)(hj:j<b):((cs.drop a).take b)[j]?=cs[a+j]?:=by
 rw[List.getElem?_take,if_pos hj,List.getElem?_drop]
theorem Ak{cs:List Value}{a:Nat}{v:Value}(h:(cs.drop a).take 1=[v]):cs[a]?=some v:=by
 have:=congrArg (·[0]?) h
 rw[oO cs a 1 0 om] at this;simpa using this
theorem Bo{fuel:Nat}{cs:List Value}{a:Nat}{l:Lu}{p:List MemPlace}(h:DataW.trod enc prog w base sp held fuel 9 ((cs.drop a).take 1)=some (.lit (.string l),p)):cs[a]?=some (.string ⟨l.toArray⟩):=by
 obtain⟨s,hc,hx,_⟩:=DataW.trod_string underlying9 h;have e:l=s.data.toList:=by simpa using congrArg Prod.fst hx
 rw[Ak hc,e]
theorem EJ{fuel:Nat}{cs:List Value}{a:Nat}{z:Int}{p:List MemPlace}(h:DataW.trod enc prog w base sp held fuel 131 ((cs.drop a).take 1)=some (.lit (.int .i64 z),p)):cs[a]?=some (.int .i64 z):=by
 obtain⟨n,hc,hx,_⟩:=DataW.trod_int underlying131 h;have e:z=n:=by simpa using congrArg Prod.fst hx
 rw[Ak hc,e]
theorem rH{fuel:Nat}{cs:List Value}{L:List (Lu)}{p:List MemPlace}(h:DataW.trod enc prog w base sp held fuel 136 cs=some (.agg (L.map fun l=>.lit (.string l)),p))(i:Nat)(hi:i<14)(l:Lu)(hl:L[i]?=some l):cs[i]?=some (.string ⟨l.toArray⟩):=by
 obtain⟨xs,m,rfl,hx,_,hxl,hxs⟩:=DataW.trod_array underlying136 h;have h1:=hxs i hi;rw[iW,Nat.mul_one] at h1;have h2:L.map (fun l=>(DataW.lit (.string l):DataW H))=xs.map (·.1):=by simpa using congrArg Prod.fst hx
 have h3:(xs.map (·.1))[i]?=some (DataW.lit (.string l)):=by rw[<- h2];simp[hl]
 rw[List.getElem?_map] at h3;rcases hxi:xs[i]? with _|y
 ·rw[hxi] at h3;cases h3
 ·rw[hxi] at h1 h3;obtain⟨y1,y2⟩:=y;have e:y1=DataW.lit (.string l):=by simpa using h3
  rw[e] at h1;exact Bo h1
theorem ml{fuel:Nat}{cs:List Value}{a:Nat}{l:Lu}{z0 z1 z2 z3:Int}{p:List MemPlace}(h:DataW.trod enc prog w base sp held fuel 134 ((cs.drop a).take 5)=some (.agg [.lit (.string l),.agg [.lit (.int .i64 z0),.lit (.int .i64 z1),.lit (.int .i64 z2),.lit (.int .i64 z3)]],p)):
  cs[a]?=some (.string ⟨l.toArray⟩)/\cs[a+1]?=some (.int .i64 z0)/\cs[a+2]?=some (.int .i64 z1)/\cs[a+3]?=some (.int .i64 z2)/\cs[a+4]?=some (.int .i64 z3):=by
 obtain⟨xs,m,rfl,hx,_,hxl,hxs⟩:=DataW.trod_struct underlying134 h;have hx1:[DataW.lit (.string l),.agg [.lit (.int .i64 z0),.lit (.int .i64 z1),.lit (.int .i64 z2),.lit (.int .i64 z3)]]=xs.map (·.1):=by simpa using congrArg Prod.fst hx
 obtain⟨x0,x1,rfl⟩:∃ x0 x1,xs=[x0,x1]:=by
  rcases xs with _|⟨x0,_|⟨x1,_|⟨x2,r⟩⟩⟩
  ·simp at hx1
  ·simp at hx1
  ·exact⟨x0,x1,rfl⟩
  ·simp at hx1
 simp only[List.map_cons,List.map_nil,List.cons.injEq,and_true] at hx1
 have f0:DataW.trod enc prog w base sp held m 9 ((((cs.drop a).take 5).drop 0).take (prog.cellsOf 9))=some x0:=hxs 0 _ rfl
 have f1:DataW.trod enc prog w base sp held m 132 ((((cs.drop a).take 5).drop 1).take (prog.cellsOf 132))=some x1:=hxs 1 _ rfl
 rw[iW] at f0;rw[Em] at f1;obtain⟨y0,q0⟩:=x0;obtain⟨y1,q1⟩:=x1;simp only at hx1
 rw[<- hx1.1] at f0;rw[<- hx1.2] at f1;have s0:=Bo f0;rw[oO cs a 5 0 om] at s0;obtain⟨us,m2,e2,hu,_,hul,hus⟩:=DataW.trod_array underlying132 f1;have hu1:[DataW.lit (.int .i64 z0),.lit (.int .i64 z1),.lit (.int .i64 z2),.lit (.int .i64 z3)]=us.map (·.1):=by simpa using congrArg Prod.fst hu
 have hget:∀ j z,j<4->([z0,z1,z2,z3]:List Int)[j]?=some z->cs[a+1+j]?=some (.int .i64 z):=fun j z hj hz=>by
  have h1:=hus j hj;rw[F7,Nat.mul_one] at h1;have h3:(us.map (·.1))[j]?=some (DataW.lit (.int .i64 z)):=by
   rw[<- hu1];have:([z0,z1,z2,z3]:List Int).map (fun z=>(DataW.lit (.int .i64 z):DataW H))=[DataW.lit (.int .i64 z0),.lit (.int .i64 z1),.lit (.int .i64 z2),.lit (.int .i64 z3)]:=rfl
   rw[<- this,List.getElem?_map,hz];rfl
  rw[List.getElem?_map] at h3;rcases hxi:us[j]? with _|y
  ·rw[hxi] at h3;cases h3
  ·rw[hxi] at h1 h3;obtain⟨y1,y2⟩:=y;have e:y1=DataW.lit (.int .i64 z):=by simpa using h3
   rw[e] at h1;have h4:=EJ h1;rw[oO _ 1 4 j hj,oO cs a 5 (1+j) om] at h4;rw[show a+1+j=a+(1+j) by omega];exact h4
 exact⟨s0,hget 0 z0 om rfl,hget 1 z1 om rfl,hget 2 z2 om rfl,hget 3 z3 om rfl⟩
end
theorem jP{W:World}{nm:String}{d:DataW Unit}{rest:List (String×DataW Unit)}{g:Nat}{t:TypeId}(hg:prog.globalNamed nm=some g)(ht:(prog.globals[g]?).map (·.type)=some t)(h:laidMet prog ((nm,d)::rest) W):
  ∃ cs fuel p,W.var? prog nm=some cs/\DataW.trod (fun _=>()) prog W 0 (fun _=>true) false fuel t cs.toList=some (d,p):=by
 obtain⟨ps,⟨g',t',cs,fuel,p,q,hg',ht',hvar,hd,_,_⟩,_⟩:=h;obtain rfl:=Option.some.inj (hg.symm.trans hg')
 obtain rfl:=Option.some.inj (ht.symm.trans ht')
 exact⟨cs,fuel,p,hvar,hd⟩
theorem tBr:(prog.globals[9]?).map (·.type)=some 333:=by kernel_rfl
def su:List (Lu×Int×Int×Int×Int):=[([80,79,79,76],1,2,3,0),([68,82,79,80],1,2,3,0),([78,69,84],1,2,3,5),([66,76,79,67,75],1,2,3,0),([70,82,69,69],1,2,3,0),([76,69,65,83,69],1,2,3,0),([84,65,75,69],1,2,4,0),([71,73,86,69],1,2,4,0),([80,79,79,76,83],0,0,0,0),([78,69,84,83],3,0,0,0),([85,83,69,68],3,0,0,0)]
theorem CC:(Rows.laid_acre_lines_forms:DataW Unit)=.agg (su.map fun f=>.agg [.lit (.string f.1),.agg [.lit (.int .i64 f.2.1),.lit (.int .i64 f.2.2.1),.lit (.int .i64 f.2.2.2.1),.lit (.int .i64 f.2.2.2.2)]]):=by kernel_rfl
theorem DU:(Rows.laid_acre_answers_words:DataW Unit)=.agg (gm.map fun l=>.lit (.string l)):=by kernel_rfl
theorem sv(k:Nat)(hk:k<11):∃ f,su[k]?=some f/\cB[k*5]?=some (.string ⟨f.1.toArray⟩)/\cB[k*5+1]?=some (.int .i64 f.2.1)/\cB[k*5+2]?=some (.int .i64 f.2.2.1)/\cB[k*5+3]?=some (.int .i64 f.2.2.2.1)/\cB[k*5+4]?=some (.int .i64 f.2.2.2.2):=by
 have hc:k=0\/k=1\/k=2\/k=3\/k=4\/k=5\/k=6\/k=7\/k=8\/k=9\/k=10:=by omega
 rcases hc with rfl|rfl|rfl|rfl|rfl|rfl|rfl|rfl|rfl|rfl|rfl<;>exact⟨_,rfl,rfl,rfl,rfl,rfl,rfl⟩
theorem pM{W:World}(h:laidMetH prog iI W)(hsh:W.ShapedOpen prog):di W/\10<=W.heap.size:=by
 rw[MakeChecks.laidMetH_plain _ _ _ (by kernel_rfl)] at h
 obtain⟨csb,_,_,hvb,_⟩:=jP gBr tBr h.tail;have h2:=h.tail.tail;have ht:Lib.TabIs prog W "internal/strconv.uint64pow10" .u64 Lib.pow10Tab:=by
  have h3:=h2;rw[GJ] at h3;exact Lib.tabIs_of_head y9 Hg underlying318 underlying302 yz yy h3
 obtain⟨a1,s1,hv1,_,_,_⟩:=laid_sentinel h2.tail.tail y7 He underlying141 A0 underlying329 underlying331 rfl rfl underlying9 pF iW;obtain⟨a2,s2,hv2,_,_,_⟩:=laid_sentinel h2.tail.tail.tail y8 Hf underlying141 A0 underlying329 underlying331 rfl rfl underlying9 pF iW;have h4:=h2.tail.tail.tail.tail;obtain⟨cw,fw,pw,hvw,hdw⟩:=jP sD FI h4;obtain⟨cf,ff,pf,hvf,hdf⟩:=jP sC FH h4.tail;rw[DU] at hdw;rw[CC] at hdf;obtain⟨m,hm⟩:=Tryz.laysM147.s1_3 W hsh;have hb:=kc gBr hvb;refine⟨⟨⟨⟨block_lt_of_cell hm,kc y8 hv2,kc y7 hv1,kc y9 ht⟩,⟨m,hm⟩,⟨_,_,hv2⟩,⟨_,_,hv1⟩,ht⟩,kc sD hvw,kc sC hvf,fun i v hi=>?_,fun i v hi=>?_⟩,hb⟩
 ·have hi14:i<14:=by
   rcases Nat.lt_or_ge i 14 with q|q
   ·exact q
   ·rw[Array.getElem?_eq_none (by exact q)] at hi;cases hi
  obtain⟨l,hl⟩:∃ l,gm[i]?=some l:=⟨gm[i]'(by exact hi14),List.getElem?_eq_getElem _⟩
  have h5:=rH hdw i hi14 l hl;have h6:tU[i]?=some (.string ⟨l.toArray⟩):=by
   have hc:i=0\/i=1\/i=2\/i=3\/i=4\/i=5\/i=6\/i=7\/i=8\/i=9\/i=10\/i=11\/i=12\/i=13:=by omega
   rcases hc with rfl|rfl|rfl|rfl|rfl|rfl|rfl|rfl|rfl|rfl|rfl|rfl|rfl|rfl<;>(cases hl;rfl)
  rw[h6] at hi;rw[World.var?_cell sD hvw i,<- hi,<- h5];simp
 ·have hi55:i<55:=by
   rcases Nat.lt_or_ge i 55 with q|q
   ·exact q
   ·rw[Array.getElem?_eq_none (by exact q)] at hi;cases hi
  obtain⟨xs,mm,rfl,hx,_,hxl,hxs⟩:=DataW.trod_array underlying135 hdf;obtain⟨f,hf,c0,c1,c2,c3,c4⟩:=sv (i / 5) om
  have h1:=hxs (i / 5) om
  rw[FZ] at h1;have hx1:su.map (fun f=>(DataW.agg [.lit (.string f.1),.agg [.lit (.int .i64 f.2.1),.lit (.int .i64 f.2.2.1),.lit (.int .i64 f.2.2.2.1),.lit (.int .i64 f.2.2.2.2)]]:DataW Unit))=xs.map (·.1):=by simpa using congrArg Prod.fst hx
  have h3:(xs.map (·.1))[i / 5]?=some (DataW.agg [.lit (.string f.1),.agg [.lit (.int .i64 f.2.1),.lit (.int .i64 f.2.2.1),.lit (.int .i64 f.2.2.2.1),.lit (.int .i64 f.2.2.2.2)]]):=by rw[<- hx1,List.getElem?_map,hf];rfl
  rw[List.getElem?_map] at h3;rcases hxi:xs[i / 5]? with _|y
  ·rw[hxi] at h3;cases h3
  ·rw[hxi] at h1 h3;obtain⟨y1,y2⟩:=y;have e:y1=_:=Option.some.inj h3
   rw[e] at h1;obtain⟨k0,k1,k2,k3,k4⟩:=ml h1;rw[World.var?_cell sC hvf i];have hr:i=i / 5*5\/i=i / 5*5+1\/i=i / 5*5+2\/i=i / 5*5+3\/i=i / 5*5+4:=by omega
   rcases hr with q|q|q|q|q
   ·rw[q] at hi ⊢;rw[c0] at hi;rw[<- hi,<- k0];simp
   ·rw[q] at hi ⊢;rw[c1] at hi;rw[<- hi,<- k1];simp
   ·rw[q] at hi ⊢;rw[c2] at hi;rw[<- hi,<- k2];simp
   ·rw[q] at hi ⊢;rw[c3] at hi;rw[<- hi,<- k3];simp
   ·rw[q] at hi ⊢;rw[c4] at hi;rw[<- hi,<- k4];simp
theorem zE(os:Os)(args:Array Value):laidMetH prog iI ((World.laidAll prog os iI).forCall (fun _ _=>0) ⟨#[],args,[]⟩).memory:=by
 rw[MakeChecks.laidMetH_plain _ _ _ (by kernel_rfl)]
 exact laidMet_laidAll _ (by kernel_rfl) (by kernel_rfl)
end Go.Proofs.YtjnhhnbgjjkkjaaGreatDoor
