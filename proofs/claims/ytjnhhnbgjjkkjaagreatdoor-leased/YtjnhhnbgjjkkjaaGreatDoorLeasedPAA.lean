/-
  BkLs, BkLw, BkLx, LeasedWalk
-/
import Derived.Test.YtjnhhnbgjjkkjaaGreatDoorBasePAA
import Derived.Test.YtjnhhnbgjjkkjaaGreatDoorBasePAI
import Derived.Test.YtjnhhnbgjjkkjaaGreatDoorBasePAH
import Derived.Test.YtjnhhnbgjjkkjaaGreatDoorBasePBS
import Derived.Test.YtjnhhnbgjjkkjaaGreatDoorBasePAE
namespace Go.Proofs.YtjnhhnbgjjkkjaaGreatDoor
open Go.RowKit
set_option linter.unusedVariables false
set_option linter.unusedSimpArgs false
def tokX (T:List Tk) (c:UInt8) (f:Nat) (more:List (List UInt8)):Prop:=∀ x,x∈T->(∃ j,j<f/\x.t=bA (c::dec j))\/∃ t,t∈more/\x.t=bA t
theorem tokX_ne {T:List Tk} {c:UInt8} {f:Nat} {more:List (List UInt8)} (h:tokX T c f more) {t:List UInt8} (h2:∀ j,j<f->t≠c::dec j) (h3:t∉more):∀ x,x∈T->x.t≠bA t:=fun x hx=>by
  rcases h x hx with⟨j,hj,e⟩|⟨u,hu,e⟩
  . rw[e];exact tok_ne (fun q=>h2 j hj q.symm)
  . rw[e];exact tok_ne (fun q=>h3 (q ▸ hu))
theorem tokX_add {T:List Tk} {c:UInt8} {f:Nat} {more:List (List UInt8)} (h:tokX T c f more) (y:Tk) {t:List UInt8} (hy:y.t=bA t):tokX (addT T y) c f (t::more):=fun x hx=>by
  rcases mem_addT hx with e|e
  . exact .inr ⟨t,by simp,by rw[e];exact hy⟩
  . rcases h x e with q|⟨u,hu,q⟩
    . exact .inl q
    . exact .inr ⟨u,by simp[hu],q⟩
theorem tokX_next {T:List Tk} {c:UInt8} {f:Nat} {more:List (List UInt8)} (h:tokX T c f more) (y:Tk) (hy:y.t=bA (c::dec f)):tokX (addT T y) c (f+1) more:=fun x hx=>by
  rcases mem_addT hx with e|e
  . exact .inl ⟨f,by omega,by rw[e];exact hy⟩
  . rcases h x e with⟨j,hj,q⟩|q
    . exact .inl ⟨j,by omega,q⟩
    . exact .inr q
theorem own3_name (k:Nat):isName (own3 k)=true:=by
  unfold own3;split
  . decide
  split<;>decide
theorem own3_mod (k:Nat):own3 (k%3)=own3 k:=by unfold own3;rw[Nat.mod_mod]
theorem taken_text:bA (anText (ref 13))=(⟨#[69,82,82,32,84,65,75,69,78]⟩:ByteArray):=by decide
theorem owner_text:bA (anText (ref 8))=(⟨#[69,82,82,32,79,87,78,69,82]⟩:ByteArray):=by decide
theorem busy_text:bA (anText (ref 9))=(⟨#[69,82,82,32,66,85,83,89]⟩:ByteArray):=by decide
theorem all_ref {s:Bk} {line:List UInt8} {l:Ln} {k:Nat} (hr:rdLine line=some l) (hv:l.v<8) (ht:∀ x,x∈s.toks->x.t≠l.t) (hk:¬k=0) (hd:doLn s l=(s,ref k)):doAll s (bs line)=(s,bA (anText (ref k))):=by
  have h:=doAll_new (s:=s) (line:=bs line) (by rw[bs_data];exact hr) hv (findT_none ht) hd
  rw[if_neg (show ¬(ref k).e=0 from hk)] at h;exact h
theorem all_done {s s':Bk} {line:List UInt8} {l:Ln} {a:An} (hr:rdLine line=some l) (hv:l.v<8) (ht:∀ x,x∈s.toks->x.t≠l.t) (hk:a.e=0) (hd:doLn s l=(s',a)):doAll s (bs line)=({ s' with toks:=addT s'.toks ⟨l.t,bs line,bA (anText a)⟩ },bA (anText a)):=by
  have h:=doAll_new (s:=s) (line:=bs line) (by rw[bs_data];exact hr) hv (findT_none ht) hd
  rw[if_pos hk] at h;exact h
def AtL (n:Int) (i:Nat) (s:Bk):Prop:=∃ T,s=⟨fP 24,lN n,lsn n i,T⟩/\tokX T 108 i [[98],[112]]
theorem l_pool:∃ T,doAll bk0 (bs [80,79,79,76,32,112,32,97,110,110,32,49,48,46,48,46,48,46,48,47,50,52])=(⟨fP 24,[],[],T⟩,okB)/\tokX T 108 0 [[112]]:=by
  have hr:rdLine [80,79,79,76,32,112,32,97,110,110,32,49,48,46,48,46,48,46,48,47,50,52]=some (lnB 0 [112] annT B0 24):=by
    have:=read_block (k:=0) (t:=[112]) (o:=annT) (a:=B0) (n:=24) (om) (by decide) (by decide) (by decide) (by decide) (B0_rt 24 (om) (om))
    rw[show (24:Int).toNat=24 from rfl,wr10,dec_3 24 (om)] at this;exact this
  have hd:=all_done (s:=bk0) hr (by show 0<8;omega) (by simp[bk0]) rfl (fill_pool 24 (om) (om) [112] [])
  rw[ok_text] at hd;refine⟨_,hd,fun x hx=>?_⟩
  rcases mem_addT hx with e|e
  . exact .inr ⟨[112],by simp,by rw[e];rfl⟩
  . simp at e
theorem wrB {n:Nat} (h0:8<=n) (hm:n<=32) {k:Nat} (hk:k=0\/k=1\/k=3\/k=4\/k=5) {t o:List UInt8} (ht:isName t=true) (ho:isName o=true):rdLine (verb k++32::(t++32::(o++32::([49,48,46,48,46,48,46,48,47]++dec n))))=some (lnB k t o B0 n):=by
  have:=read_block (k:=k) (t:=t) (o:=o) (a:=B0) (n:=n) hk ht ho (by decide) (by decide) (B0_rt n (om) (om))
  rwa [Int.toNat_natCast,wr10] at this
theorem l_block {n:Nat} (L:Le (n:Int)) (h0:27<=n) (hm:n<=32) {T:List Tk} (hT:tokX T 108 0 [[112]]):∃ s,doAll ⟨fP 24,[],[],T⟩ (bs ([66,76,79,67,75,32,98,32,97,110,110,32]++([49,48,46,48,46,48,46,48,47]++dec n)))=(s,okB)/\AtL n 0 s:=by
  have hr:=wrB (n:=n) (om) hm (k:=3) (t:=[98]) (o:=annT) (om) (by decide) (by decide)
  have hd:=all_done (s:=⟨fP 24,[],[],T⟩) hr (by show 3<8;omega) (tokX_ne hT (fun j hj=>by omega) (by decide)) rfl (lease_block L (om) [98] T)
  rw[ok_text] at hd;exact⟨_,hd,_,rfl,tokX_add hT _ rfl⟩
theorem l_one {n:Nat} (L:Le (n:Int)) (h0:27<=n) (hm:n<=32) {i:Nat} (hi:i<fitL n) {s:Bk} (hs:AtL n i s) :
    ∃ s',doAll s (bs ([76,69,65,83,69,32,108]++dec i++[32]++own3 i++[32]++([49,48,46,48,46,48,46,48,47]++dec n)))=(s',bs ([79,75,32]++dot (fst1 n+(i:Int)).toNat))/\AtL n (i+1) s':=by
  obtain⟨T,rfl,hT⟩:=hs;have hle:=L.le;have hr:=wrB (n:=n) (om) hm (k:=5) (t:=108::dec i) (o:=own3 i) (om) (nameL i (om)) (own3_name i)
  have hl:[76,69,65,83,69,32,108]++dec i++[32]++own3 i++[32]++([49,48,46,48,46,48,46,48,47]++dec n)=verb 5++32::((108::dec i)++32::(own3 i++32::([49,48,46,48,46,48,46,48,47]++dec n))):=by simp[verb,verbT]
  rw[hl];have hd:=all_done (s:=⟨fP 24,lN n,lsn n i,T⟩) hr (by show 5<8;omega) (tokX_ne hT (fun j hj q=>by have:=dec_inj (List.cons.inj q).2;omega) (by simp)) rfl (lease_one L i hi (108::dec i) T)
  rw[tell_text] at hd;exact⟨_,hd,_,rfl,tokX_next hT _ rfl⟩
theorem l_rest {n:Nat} (L:Le (n:Int)) (h0:27<=n) (hm:n<=32) {s:Bk} (hs:AtL n (fitL n) s) {k:Nat} (hk:k<fitL n) (o:List UInt8) (ho:isName o=true) :
    doAll s (bs ([76,69,65,83,69,32,102,32,97,110,110,32]++([49,48,46,48,46,48,46,48,47]++dec n)))=(s,(⟨#[69,82,82,32,70,85,76,76]⟩:ByteArray)) /\
    doAll s (bs ([84,65,75,69,32,103,32,97,110,110,32]++dot (fst1 n+(k:Int)).toNat))=(s,(⟨#[69,82,82,32,84,65,75,69,78]⟩:ByteArray)) /\
    (o≠own3 k->doAll s (bs ([71,73,86,69,32,104,32]++o++[32]++dot (fst1 n+(k:Int)).toNat))=(s,(⟨#[69,82,82,32,79,87,78,69,82]⟩:ByteArray))) /\
    (o=own3 k->∃ sG sI,doAll s (bs ([71,73,86,69,32,104,32]++o++[32]++dot (fst1 n+(k:Int)).toNat))=(sG,okB) /\
      doAll sG (bs ([76,69,65,83,69,32,105,32,98,111,98,32]++([49,48,46,48,46,48,46,48,47]++dec n)))=(sI,bs ([79,75,32]++dot (fst1 n+(k:Int)).toNat)) /\
      doAll sI (bs ([70,82,69,69,32,106,32,97,110,110,32]++([49,48,46,48,46,48,46,48,47]++dec n)))=(sI,(⟨#[69,82,82,32,66,85,83,89]⟩:ByteArray))):=by
  obtain⟨T,rfl,hT⟩:=hs;have hle:=L.le;have hf:0<=fst1 n+(k:Int)/\fst1 n+(k:Int)<4294967296:=by unfold fst1 B0;split<;>omega
  have hne:∀ c:UInt8,c≠108->∀ j:Nat,[c]≠108::dec j:=fun c hc j q=>hc (List.cons.inj q).1
  have hcast:((fst1 n+(k:Int)).toNat:Int)=fst1 n+(k:Int):=by omega
  have rF:=wrB (n:=n) (om) hm (k:=5) (t:=[102]) (o:=annT) (om) (by decide) (by decide)
  have rT:=read_addr (k:=6) (t:=[103]) (o:=annT) (d:=(fst1 n+(k:Int)).toNat) (om) (by decide) (by decide) (om)
  have rG:=read_addr (k:=7) (t:=[104]) (o:=o) (d:=(fst1 n+(k:Int)).toNat) (om) (by decide) ho (om)
  have rI:=wrB (n:=n) (om) hm (k:=5) (t:=[105]) (o:=bobT) (om) (by decide) (by decide)
  have rJ:=wrB (n:=n) (om) hm (k:=4) (t:=[106]) (o:=annT) (om) (by decide) (by decide)
  rw[hcast] at rT rG;have hgl:[71,73,86,69,32,104,32]++o++[32]++dot (fst1 n+(k:Int)).toNat=verb 7++32::([104]++32::(o++32::dot (fst1 n+(k:Int)).toNat)):=by simp[verb,verbT]
  have d1:=all_ref (s:=⟨fP 24,lN n,lsn n (fitL n),T⟩) rF (by show 5<8;omega) (tokX_ne hT (fun j _=>hne 102 (by decide) j) (by decide)) (om) (lease_fullL L [102] annT T)
  have d2:=all_ref (s:=⟨fP 24,lN n,lsn n (fitL n),T⟩) rT (by show 6<8;omega) (tokX_ne hT (fun j _=>hne 103 (by decide) j) (by decide)) (om) (lease_taken L k hk [103] annT T)
  rw[full_text] at d1;rw[taken_text] at d2;refine⟨d1,d2,fun q=>?_,fun q=>?_⟩
  . have d3:=all_ref (s:=⟨fP 24,lN n,lsn n (fitL n),T⟩) rG (by show 7<8;omega) (tokX_ne hT (fun j _=>hne 104 (by decide) j) (by decide)) (om) (lease_owner L k hk [104] o T q)
    rw[owner_text] at d3;rw[hgl];exact d3
  . subst q;have d3:=all_done (s:=⟨fP 24,lN n,lsn n (fitL n),T⟩) rG (by show 7<8;omega) (tokX_ne hT (fun j _=>hne 104 (by decide) j) (by decide)) rfl (lease_give L k hk [104] T)
    rw[ok_text] at d3;obtain⟨y1,hy1⟩:∃ y:Tk,y=⟨({ lnB 7 [104] (own3 k) 0 0 with d:=fst1 n+(k:Int) }:Ln).t,bs (verb 7++32::([104]++32::(own3 k++32::dot (fst1 n+(k:Int)).toNat))),okB⟩:=⟨_,rfl⟩
    rw[<- hy1] at d3;have hT1:=tokX_add hT y1 (t:=[104]) (by rw[hy1];rfl)
    have d4:=all_done (s:=⟨fP 24,lN n,delAt (lsn n (fitL n)) k,addT T y1⟩) rI (by show 5<8;omega) (tokX_ne hT1 (fun j _=>hne 105 (by decide) j) (by decide)) rfl (lease_again L k hk [105] (addT T y1))
    rw[tell_text] at d4;obtain⟨y2,hy2⟩:∃ y:Tk,y=⟨(lnB 5 [105] bobT B0 n).t,bs (verb 5++32::([105]++32::(bobT++32::([49,48,46,48,46,48,46,48,47]++dec n)))),bs ([79,75,32]++dot (fst1 n+(k:Int)).toNat)⟩:=⟨_,rfl⟩
    rw[<- hy2] at d4;have hT2:=tokX_add hT1 y2 (t:=[105]) (by rw[hy2];rfl)
    have d5:=all_ref (s:=⟨fP 24,lN n,insL (delAt (lsn n (fitL n)) k) ⟨fst1 n+(k:Int),bA bobT⟩,addT (addT T y1) y2⟩) rJ (by show 4<8;omega) (tokX_ne hT2 (fun j _=>hne 106 (by decide) j) (by decide)) (om) (lease_busy L k hk [106] _)
    rw[busy_text] at d5;exact⟨_,_,by rw[hgl];exact d3,d4,d5⟩
end Go.Proofs.YtjnhhnbgjjkkjaaGreatDoor
namespace Go.Proofs.YtjnhhnbgjjkkjaaGreatDoor
open Go.Conc Go.ChangeShapes Go.WideShapes Go.ChangeAt Go.RowKit
set_option linter.unusedVariables false
set_option linter.unusedSimpArgs false
set_option maxRecDepth 100000 in
set_option maxHeartbeats 800000 in
theorem leased_a (bits which who:Int) (n fit k:Nat) (SZ:Int) (D OW:Int->ByteArray) (AA:Int->ByteArray) (st:Nat->Bk) (sP sF sT sG sI sJ:Bk) (w:World) (hn:27<=n/\n<=32) (hn30:(n:Int)<=30) (hSZ:SZ-2=(fit:Int)) (hown:OW who=OW k)
    (hp1:pk bits 6=(n:Int)-27) (hp3:pk which fit=k) (hk:k<fit) (hf:fit<=30) (hf1:1<=fit) (hSb:0<=SZ/\SZ<=32)
    (hD:∀ j,(D j).size<=3) (hA:∀ a,(AA a).size<=15) (hO:∀ a,(OW a).size<=3)
    (HO:Hid (Calls Tryz.prog 11 #[] w fun e w'=>∃ x d,e=.returned (.tuple #[.pointer (some ⟨x,0,none⟩),.pointer (some ⟨d,0,none⟩)])/\HB w (fun _=>False) x bk0 w'/\Below w.heap.size w w'))
    (HP:Hid (∀ (c k:Int) W,(k=6\/k=fit)->(c=bits\/c=which)->Calls Tryz.prog 20 #[.int .i64 c,.int .i64 k] W fun e w'=>e=.returned (.int .i64 (pk c k))/\Below W.heap.size W w'))
    (HG:Hid (∀ (j:Int) W,0<=j->j<=32->Calls Tryz.prog 21 #[.int .i64 j] W fun e w'=>e=.returned (.string (D j))/\Below W.heap.size W w'))
    (HZ:Hid (∀ W,Calls Tryz.prog 23 #[.int .i64 n] W fun e w'=>e=.returned (.int .i64 SZ)/\Below W.heap.size W w'))
    (HW:Hid (∀ (j:Int) W,(j=who\/(0<=j/\j<=32))->Calls Tryz.prog 24 #[.int .i64 j] W fun e w'=>e=.returned (.string (OW j))/\Below W.heap.size W w'))
    (HA:Hid (∀ (a:Int) W,0<=a->a<4294967296->Calls Tryz.prog 22 #[.int .u32 a] W fun e w'=>e=.returned (.string (AA a))/\Below W.heap.size W w'))
    (H0:Hid (∀ x W,HB w (fun _=>False) x bk0 W->Calls Tryz.prog 16 #[.pointer (some ⟨x,0,none⟩),.string ((⟨#[80,79,79,76,32,112,32,97,110,110,32,49,48,46,48,46,48,46,48,47,50,52]⟩:ByteArray))] W fun e w'=>e=.returned (.string (⟨#[79,75]⟩:ByteArray))/\HB w (fun _=>False) x sP w'))
    (HB0:Hid (∀ x W,HB w (fun _=>False) x sP W->Calls Tryz.prog 16 #[.pointer (some ⟨x,0,none⟩),.string ((⟨#[66,76,79,67,75,32,98,32,97,110,110,32]⟩:ByteArray)++((⟨#[49,48,46,48,46,48,46,48,47]⟩:ByteArray)++D n))] W fun e w'=>e=.returned (.string (⟨#[79,75]⟩:ByteArray))/\HB w (fun _=>False) x (st 0) w'))
    (HN:Hid (∀ (i:Nat) (hi:i<fit) x W,HB w (fun _=>False) x (st i) W->Calls Tryz.prog 16 #[.pointer (some ⟨x,0,none⟩),.string ((⟨#[76,69,65,83,69,32,108]⟩:ByteArray)++D i++(⟨#[32]⟩:ByteArray)++OW i++(⟨#[32]⟩:ByteArray)++((⟨#[49,48,46,48,46,48,46,48,47]⟩:ByteArray)++D n))] W fun e w'=>e=.returned (.string ((⟨#[79,75,32]⟩:ByteArray)++AA (167772161+(i:Int))))/\HB w (fun _=>False) x (st (i+1)) w'))
    (HF:Hid (∀ x W,HB w (fun _=>False) x (st fit) W->Calls Tryz.prog 16 #[.pointer (some ⟨x,0,none⟩),.string ((⟨#[76,69,65,83,69,32,102,32,97,110,110,32]⟩:ByteArray)++((⟨#[49,48,46,48,46,48,46,48,47]⟩:ByteArray)++D n))] W fun e w'=>e=.returned (.string (⟨#[69,82,82,32,70,85,76,76]⟩:ByteArray))/\HB w (fun _=>False) x sF w'))
    (HT:Hid (∀ x W,HB w (fun _=>False) x sF W->Calls Tryz.prog 16 #[.pointer (some ⟨x,0,none⟩),.string ((⟨#[84,65,75,69,32,103,32,97,110,110,32]⟩:ByteArray)++AA (167772161+(k:Int)))] W fun e w'=>e=.returned (.string (⟨#[69,82,82,32,84,65,75,69,78]⟩:ByteArray))/\HB w (fun _=>False) x sT w'))
    (HV:Hid (∀ x W,HB w (fun _=>False) x sT W->Calls Tryz.prog 16 #[.pointer (some ⟨x,0,none⟩),.string ((⟨#[71,73,86,69,32,104,32]⟩:ByteArray)++OW who++(⟨#[32]⟩:ByteArray)++AA (167772161+(k:Int)))] W fun e w'=>e=.returned (.string (⟨#[79,75]⟩:ByteArray))/\HB w (fun _=>False) x sG w'))
    (HI:Hid (∀ x W,HB w (fun _=>False) x sG W->Calls Tryz.prog 16 #[.pointer (some ⟨x,0,none⟩),.string ((⟨#[76,69,65,83,69,32,105,32,98,111,98,32]⟩:ByteArray)++((⟨#[49,48,46,48,46,48,46,48,47]⟩:ByteArray)++D n))] W fun e w'=>e=.returned (.string ((⟨#[79,75,32]⟩:ByteArray)++AA (167772161+(k:Int))))/\HB w (fun _=>False) x sI w'))
    (HJ:Hid (∀ x W,HB w (fun _=>False) x sI W->Calls Tryz.prog 16 #[.pointer (some ⟨x,0,none⟩),.string ((⟨#[70,82,69,69,32,106,32,97,110,110,32]⟩:ByteArray)++((⟨#[49,48,46,48,46,48,46,48,47]⟩:ByteArray)++D n))] W fun e w'=>e=.returned (.string (⟨#[69,82,82,32,66,85,83,89]⟩:ByteArray))/\HB w (fun _=>False) x sJ w'))
 :
    Calls Tryz.prog 6 #[.int .i64 bits,.int .i64 which,.int .i64 who] w fun e w'=>e=.returned (.bool true)/\Below w.heap.size w w':=by
  have hDn:=hD n;have hOw:=hO who;have e1:(27:Int)+((n:Int)-27)=n:=by omega
  have hqe:((OW who).toList==(OW k).toList)=true:=(Lib.bytes_beq_iff _ _).2 hown
  replace hown:Hid _:=hown;go_enter Tryz.func6,Tryz.ntmps6
  go_wp2_with (first|(go_at_call 11;refine HO.out.mono ?_;rintro e wN ⟨x,dd,rfl,HBC,hq⟩;replace HBC:Hid (HB w (fun _=>False) x bk0 wN):=HBC;clear hq)|(go_at_call 20;refine(HP.out _ _ _ (by simp) (by simp)).mono ?_;rintro e wN ⟨rfl,hq⟩;replace HBC:Hid (HB w (fun _=>False) x _ wN):=HB.below (by repeat' (first|with_reducible exact HBC.out|with_reducible apply HB.drew|with_reducible apply HB.alloc)) hq;clear hq)|(go_at_call 21;refine(HG.out _ _ (om) (om)).mono ?_;rintro e wN ⟨rfl,hq⟩;replace HBC:Hid (HB w (fun _=>False) x _ wN):=HB.below (by repeat' (first|with_reducible exact HBC.out|with_reducible apply HB.drew|with_reducible apply HB.alloc)) hq;clear hq)|(go_at_call 23;refine(HZ.out _).mono ?_;rintro e wN ⟨rfl,hq⟩;replace HBC:Hid (HB w (fun _=>False) x _ wN):=HB.below (by repeat' (first|with_reducible exact HBC.out|with_reducible apply HB.drew|with_reducible apply HB.alloc)) hq;clear hq)|(go_at_call 16;have hst:HB w (fun _=>False) x bk0 _:=HBC.out;clear hst;refine(H0.out x _ (by repeat' (first|with_reducible exact HBC.out|with_reducible apply HB.drew|with_reducible apply HB.alloc))).mono ?_;rintro e wN ⟨rfl,hq⟩;replace HBC:Hid (HB w (fun _=>False) x _ wN):=hq;clear hq)|(go_at_call 16;have hst:HB w (fun _=>False) x sP _:=HBC.out;clear hst;refine(HB0.out x _ (by repeat' (first|with_reducible exact HBC.out|with_reducible apply HB.drew|with_reducible apply HB.alloc))).mono ?_;rintro e wN ⟨rfl,hq⟩;replace HBC:Hid (HB w (fun _=>False) x _ wN):=hq;clear hq))
  clear e1 hp1 hn30 hSZ hSb;go_loopw [15,16] (fun ok i wr=>∃ j:Nat,j<=fit/\ok=.bool true/\i=.int .i64 j/\Hid (HB w (fun _=>False) x (st j) wr)) (fun _ i _=>(fit-intOf i).toNat)
  case atStart=>exact⟨0,by omega,rfl,rfl,HBC.out⟩
  case round =>
    clear HBC;obtain⟨j,hjf,rfl,rfl,HBC⟩:=hrel;by_cases hlt:j<fit
    . have hlt2:(j:Int)<(fit:Int):=by omega
      have HNj:Hid _:=HN.out j hlt
      have hDj:=hD j;have hOj:=hO j;have hAj:=hA (167772161+(j:Int))
      clear hqe;go_wp2_with (first|(go_at_call 21;refine(HG.out _ _ (om) (om)).mono ?_;rintro e wN ⟨rfl,hq⟩;replace HBC:Hid (HB w (fun _=>False) x _ wN):=HB.below (by repeat' (first|with_reducible exact HBC.out|with_reducible apply HB.drew|with_reducible apply HB.alloc)) hq;clear hq)|(go_at_call 24;refine(HW.out _ _ (.inr ⟨by omega,by omega⟩)).mono ?_;rintro e wN ⟨rfl,hq⟩;replace HBC:Hid (HB w (fun _=>False) x _ wN):=HB.below (by repeat' (first|with_reducible exact HBC.out|with_reducible apply HB.drew|with_reducible apply HB.alloc)) hq;clear hq)|(go_at_call 22;refine(HA.out _ _ (om) (om)).mono ?_;rintro e wN ⟨rfl,hq⟩;replace HBC:Hid (HB w (fun _=>False) x _ wN):=HB.below (by repeat' (first|with_reducible exact HBC.out|with_reducible apply HB.drew|with_reducible apply HB.alloc)) hq;clear hq)|(go_at_call 16;have hst:HB w (fun _=>False) x (st j) _:=HBC.out;clear hst;refine(HNj.out x _ (by repeat' (first|with_reducible exact HBC.out|with_reducible apply HB.drew|with_reducible apply HB.alloc))).mono ?_;rintro e wN ⟨rfl,hq⟩;replace HBC:Hid (HB w (fun _=>False) x _ wN):=hq;clear hq))
      go_roundw
      case rel=>exact⟨j+1,by omega,rfl,by simp,HBC.out⟩
      case measure=>simp[intOf];omega
    . obtain rfl:j=fit:=by omega
      have hlt2:¬(j:Int)<(j:Int):=by omega
      have hAj:=hA (167772161+(k:Int))
      go_wp2_with (first|(go_at_call 20;refine(HP.out _ _ _ (by simp) (by simp)).mono ?_;rintro e wN ⟨rfl,hq⟩;replace HBC:Hid (HB w (fun _=>False) x _ wN):=HB.below (by repeat' (first|with_reducible exact HBC.out|with_reducible apply HB.drew|with_reducible apply HB.alloc)) hq;clear hq)|(go_at_call 22;refine(HA.out _ _ (om) (om)).mono ?_;rintro e wN ⟨rfl,hq⟩;replace HBC:Hid (HB w (fun _=>False) x _ wN):=HB.below (by repeat' (first|with_reducible exact HBC.out|with_reducible apply HB.drew|with_reducible apply HB.alloc)) hq;clear hq)|(go_at_call 24;refine(HW.out _ _ (by first|exact .inl rfl|exact .inr ⟨by omega,by omega⟩)).mono ?_;rintro e wN ⟨rfl,hq⟩;replace HBC:Hid (HB w (fun _=>False) x _ wN):=HB.below (by repeat' (first|with_reducible exact HBC.out|with_reducible apply HB.drew|with_reducible apply HB.alloc)) hq;clear hq)|(go_at_call 16;have hst:HB w (fun _=>False) x (st j) _:=HBC.out;clear hst;refine(HF.out x _ (by repeat' (first|with_reducible exact HBC.out|with_reducible apply HB.drew|with_reducible apply HB.alloc))).mono ?_;rintro e wN ⟨rfl,hq⟩;replace HBC:Hid (HB w (fun _=>False) x _ wN):=hq;clear hq)|(go_at_call 16;have hst:HB w (fun _=>False) x sF _:=HBC.out;clear hst;refine(HT.out x _ (by repeat' (first|with_reducible exact HBC.out|with_reducible apply HB.drew|with_reducible apply HB.alloc))).mono ?_;rintro e wN ⟨rfl,hq⟩;replace HBC:Hid (HB w (fun _=>False) x _ wN):=hq;clear hq)|(go_at_call 16;have hst:HB w (fun _=>False) x sT _:=HBC.out;clear hst;refine(HV.out x _ (by repeat' (first|with_reducible exact HBC.out|with_reducible apply HB.drew|with_reducible apply HB.alloc))).mono ?_;rintro e wN ⟨rfl,hq⟩;replace HBC:Hid (HB w (fun _=>False) x _ wN):=hq;clear hq)|(go_at_call 16;have hst:HB w (fun _=>False) x sG _:=HBC.out;clear hst;refine(HI.out x _ (by repeat' (first|with_reducible exact HBC.out|with_reducible apply HB.drew|with_reducible apply HB.alloc))).mono ?_;rintro e wN ⟨rfl,hq⟩;replace HBC:Hid (HB w (fun _=>False) x _ wN):=hq;clear hq)|(go_at_call 16;have hst:HB w (fun _=>False) x sI _:=HBC.out;clear hst;refine(HJ.out x _ (by repeat' (first|with_reducible exact HBC.out|with_reducible apply HB.drew|with_reducible apply HB.alloc))).mono ?_;rintro e wN ⟨rfl,hq⟩;replace HBC:Hid (HB w (fun _=>False) x _ wN):=hq;clear hq))
      go_ret;exact⟨rfl,HBC.out.low⟩
set_option maxRecDepth 100000 in
set_option maxHeartbeats 800000 in
theorem leased_b (bits which who:Int) (n fit k:Nat) (SZ:Int) (D OW:Int->ByteArray) (AA:Int->ByteArray) (st:Nat->Bk) (sP sF sT sG sI sJ:Bk) (w:World) (hn:27<=n/\n<=32) (hn30:(n:Int)<=30) (hSZ:SZ-2=(fit:Int)) (hown:OW who≠OW k)
    (hp1:pk bits 6=(n:Int)-27) (hp3:pk which fit=k) (hk:k<fit) (hf:fit<=30) (hf1:1<=fit) (hSb:0<=SZ/\SZ<=32)
    (hD:∀ j,(D j).size<=3) (hA:∀ a,(AA a).size<=15) (hO:∀ a,(OW a).size<=3)
    (HO:Hid (Calls Tryz.prog 11 #[] w fun e w'=>∃ x d,e=.returned (.tuple #[.pointer (some ⟨x,0,none⟩),.pointer (some ⟨d,0,none⟩)])/\HB w (fun _=>False) x bk0 w'/\Below w.heap.size w w'))
    (HP:Hid (∀ (c k:Int) W,(k=6\/k=fit)->(c=bits\/c=which)->Calls Tryz.prog 20 #[.int .i64 c,.int .i64 k] W fun e w'=>e=.returned (.int .i64 (pk c k))/\Below W.heap.size W w'))
    (HG:Hid (∀ (j:Int) W,0<=j->j<=32->Calls Tryz.prog 21 #[.int .i64 j] W fun e w'=>e=.returned (.string (D j))/\Below W.heap.size W w'))
    (HZ:Hid (∀ W,Calls Tryz.prog 23 #[.int .i64 n] W fun e w'=>e=.returned (.int .i64 SZ)/\Below W.heap.size W w'))
    (HW:Hid (∀ (j:Int) W,(j=who\/(0<=j/\j<=32))->Calls Tryz.prog 24 #[.int .i64 j] W fun e w'=>e=.returned (.string (OW j))/\Below W.heap.size W w'))
    (HA:Hid (∀ (a:Int) W,0<=a->a<4294967296->Calls Tryz.prog 22 #[.int .u32 a] W fun e w'=>e=.returned (.string (AA a))/\Below W.heap.size W w'))
    (H0:Hid (∀ x W,HB w (fun _=>False) x bk0 W->Calls Tryz.prog 16 #[.pointer (some ⟨x,0,none⟩),.string ((⟨#[80,79,79,76,32,112,32,97,110,110,32,49,48,46,48,46,48,46,48,47,50,52]⟩:ByteArray))] W fun e w'=>e=.returned (.string (⟨#[79,75]⟩:ByteArray))/\HB w (fun _=>False) x sP w'))
    (HB0:Hid (∀ x W,HB w (fun _=>False) x sP W->Calls Tryz.prog 16 #[.pointer (some ⟨x,0,none⟩),.string ((⟨#[66,76,79,67,75,32,98,32,97,110,110,32]⟩:ByteArray)++((⟨#[49,48,46,48,46,48,46,48,47]⟩:ByteArray)++D n))] W fun e w'=>e=.returned (.string (⟨#[79,75]⟩:ByteArray))/\HB w (fun _=>False) x (st 0) w'))
    (HN:Hid (∀ (i:Nat) (hi:i<fit) x W,HB w (fun _=>False) x (st i) W->Calls Tryz.prog 16 #[.pointer (some ⟨x,0,none⟩),.string ((⟨#[76,69,65,83,69,32,108]⟩:ByteArray)++D i++(⟨#[32]⟩:ByteArray)++OW i++(⟨#[32]⟩:ByteArray)++((⟨#[49,48,46,48,46,48,46,48,47]⟩:ByteArray)++D n))] W fun e w'=>e=.returned (.string ((⟨#[79,75,32]⟩:ByteArray)++AA (167772161+(i:Int))))/\HB w (fun _=>False) x (st (i+1)) w'))
    (HF:Hid (∀ x W,HB w (fun _=>False) x (st fit) W->Calls Tryz.prog 16 #[.pointer (some ⟨x,0,none⟩),.string ((⟨#[76,69,65,83,69,32,102,32,97,110,110,32]⟩:ByteArray)++((⟨#[49,48,46,48,46,48,46,48,47]⟩:ByteArray)++D n))] W fun e w'=>e=.returned (.string (⟨#[69,82,82,32,70,85,76,76]⟩:ByteArray))/\HB w (fun _=>False) x sF w'))
    (HT:Hid (∀ x W,HB w (fun _=>False) x sF W->Calls Tryz.prog 16 #[.pointer (some ⟨x,0,none⟩),.string ((⟨#[84,65,75,69,32,103,32,97,110,110,32]⟩:ByteArray)++AA (167772161+(k:Int)))] W fun e w'=>e=.returned (.string (⟨#[69,82,82,32,84,65,75,69,78]⟩:ByteArray))/\HB w (fun _=>False) x sT w'))
    (HV:Hid (∀ x W,HB w (fun _=>False) x sT W->Calls Tryz.prog 16 #[.pointer (some ⟨x,0,none⟩),.string ((⟨#[71,73,86,69,32,104,32]⟩:ByteArray)++OW who++(⟨#[32]⟩:ByteArray)++AA (167772161+(k:Int)))] W fun e w'=>e=.returned (.string (⟨#[69,82,82,32,79,87,78,69,82]⟩:ByteArray))/\HB w (fun _=>False) x sG w'))
 :
    Calls Tryz.prog 6 #[.int .i64 bits,.int .i64 which,.int .i64 who] w fun e w'=>e=.returned (.bool true)/\Below w.heap.size w w':=by
  have hDn:=hD n;have hOw:=hO who;have e1:(27:Int)+((n:Int)-27)=n:=by omega
  have hqe:((OW who).toList==(OW k).toList)=false:=(Lib.bytes_beq_false_iff _ _).2 hown
  replace hown:Hid _:=hown;go_enter Tryz.func6,Tryz.ntmps6
  go_wp2_with (first|(go_at_call 11;refine HO.out.mono ?_;rintro e wN ⟨x,dd,rfl,HBC,hq⟩;replace HBC:Hid (HB w (fun _=>False) x bk0 wN):=HBC;clear hq)|(go_at_call 20;refine(HP.out _ _ _ (by simp) (by simp)).mono ?_;rintro e wN ⟨rfl,hq⟩;replace HBC:Hid (HB w (fun _=>False) x _ wN):=HB.below (by repeat' (first|with_reducible exact HBC.out|with_reducible apply HB.drew|with_reducible apply HB.alloc)) hq;clear hq)|(go_at_call 21;refine(HG.out _ _ (om) (om)).mono ?_;rintro e wN ⟨rfl,hq⟩;replace HBC:Hid (HB w (fun _=>False) x _ wN):=HB.below (by repeat' (first|with_reducible exact HBC.out|with_reducible apply HB.drew|with_reducible apply HB.alloc)) hq;clear hq)|(go_at_call 23;refine(HZ.out _).mono ?_;rintro e wN ⟨rfl,hq⟩;replace HBC:Hid (HB w (fun _=>False) x _ wN):=HB.below (by repeat' (first|with_reducible exact HBC.out|with_reducible apply HB.drew|with_reducible apply HB.alloc)) hq;clear hq)|(go_at_call 16;have hst:HB w (fun _=>False) x bk0 _:=HBC.out;clear hst;refine(H0.out x _ (by repeat' (first|with_reducible exact HBC.out|with_reducible apply HB.drew|with_reducible apply HB.alloc))).mono ?_;rintro e wN ⟨rfl,hq⟩;replace HBC:Hid (HB w (fun _=>False) x _ wN):=hq;clear hq)|(go_at_call 16;have hst:HB w (fun _=>False) x sP _:=HBC.out;clear hst;refine(HB0.out x _ (by repeat' (first|with_reducible exact HBC.out|with_reducible apply HB.drew|with_reducible apply HB.alloc))).mono ?_;rintro e wN ⟨rfl,hq⟩;replace HBC:Hid (HB w (fun _=>False) x _ wN):=hq;clear hq))
  clear e1 hp1 hn30 hSZ hSb;go_loopw [15,16] (fun ok i wr=>∃ j:Nat,j<=fit/\ok=.bool true/\i=.int .i64 j/\Hid (HB w (fun _=>False) x (st j) wr)) (fun _ i _=>(fit-intOf i).toNat)
  case atStart=>exact⟨0,by omega,rfl,rfl,HBC.out⟩
  case round =>
    clear HBC;obtain⟨j,hjf,rfl,rfl,HBC⟩:=hrel;by_cases hlt:j<fit
    . have hlt2:(j:Int)<(fit:Int):=by omega
      have HNj:Hid _:=HN.out j hlt
      have hDj:=hD j;have hOj:=hO j;have hAj:=hA (167772161+(j:Int))
      clear hqe;go_wp2_with (first|(go_at_call 21;refine(HG.out _ _ (om) (om)).mono ?_;rintro e wN ⟨rfl,hq⟩;replace HBC:Hid (HB w (fun _=>False) x _ wN):=HB.below (by repeat' (first|with_reducible exact HBC.out|with_reducible apply HB.drew|with_reducible apply HB.alloc)) hq;clear hq)|(go_at_call 24;refine(HW.out _ _ (.inr ⟨by omega,by omega⟩)).mono ?_;rintro e wN ⟨rfl,hq⟩;replace HBC:Hid (HB w (fun _=>False) x _ wN):=HB.below (by repeat' (first|with_reducible exact HBC.out|with_reducible apply HB.drew|with_reducible apply HB.alloc)) hq;clear hq)|(go_at_call 22;refine(HA.out _ _ (om) (om)).mono ?_;rintro e wN ⟨rfl,hq⟩;replace HBC:Hid (HB w (fun _=>False) x _ wN):=HB.below (by repeat' (first|with_reducible exact HBC.out|with_reducible apply HB.drew|with_reducible apply HB.alloc)) hq;clear hq)|(go_at_call 16;have hst:HB w (fun _=>False) x (st j) _:=HBC.out;clear hst;refine(HNj.out x _ (by repeat' (first|with_reducible exact HBC.out|with_reducible apply HB.drew|with_reducible apply HB.alloc))).mono ?_;rintro e wN ⟨rfl,hq⟩;replace HBC:Hid (HB w (fun _=>False) x _ wN):=hq;clear hq))
      go_roundw
      case rel=>exact⟨j+1,by omega,rfl,by simp,HBC.out⟩
      case measure=>simp[intOf];omega
    . obtain rfl:j=fit:=by omega
      have hlt2:¬(j:Int)<(j:Int):=by omega
      have hAj:=hA (167772161+(k:Int))
      go_wp2_with (first|(go_at_call 20;refine(HP.out _ _ _ (by simp) (by simp)).mono ?_;rintro e wN ⟨rfl,hq⟩;replace HBC:Hid (HB w (fun _=>False) x _ wN):=HB.below (by repeat' (first|with_reducible exact HBC.out|with_reducible apply HB.drew|with_reducible apply HB.alloc)) hq;clear hq)|(go_at_call 22;refine(HA.out _ _ (om) (om)).mono ?_;rintro e wN ⟨rfl,hq⟩;replace HBC:Hid (HB w (fun _=>False) x _ wN):=HB.below (by repeat' (first|with_reducible exact HBC.out|with_reducible apply HB.drew|with_reducible apply HB.alloc)) hq;clear hq)|(go_at_call 24;refine(HW.out _ _ (by first|exact .inl rfl|exact .inr ⟨by omega,by omega⟩)).mono ?_;rintro e wN ⟨rfl,hq⟩;replace HBC:Hid (HB w (fun _=>False) x _ wN):=HB.below (by repeat' (first|with_reducible exact HBC.out|with_reducible apply HB.drew|with_reducible apply HB.alloc)) hq;clear hq)|(go_at_call 16;have hst:HB w (fun _=>False) x (st j) _:=HBC.out;clear hst;refine(HF.out x _ (by repeat' (first|with_reducible exact HBC.out|with_reducible apply HB.drew|with_reducible apply HB.alloc))).mono ?_;rintro e wN ⟨rfl,hq⟩;replace HBC:Hid (HB w (fun _=>False) x _ wN):=hq;clear hq)|(go_at_call 16;have hst:HB w (fun _=>False) x sF _:=HBC.out;clear hst;refine(HT.out x _ (by repeat' (first|with_reducible exact HBC.out|with_reducible apply HB.drew|with_reducible apply HB.alloc))).mono ?_;rintro e wN ⟨rfl,hq⟩;replace HBC:Hid (HB w (fun _=>False) x _ wN):=hq;clear hq)|(go_at_call 16;have hst:HB w (fun _=>False) x sT _:=HBC.out;clear hst;refine(HV.out x _ (by repeat' (first|with_reducible exact HBC.out|with_reducible apply HB.drew|with_reducible apply HB.alloc))).mono ?_;rintro e wN ⟨rfl,hq⟩;replace HBC:Hid (HB w (fun _=>False) x _ wN):=hq;clear hq))
      go_ret;exact⟨rfl,HBC.out.low⟩
set_option maxRecDepth 100000 in
set_option maxHeartbeats 800000 in
theorem leased_c (bits which who:Int) (n fit k:Nat) (SZ:Int) (D OW:Int->ByteArray) (AA:Int->ByteArray) (st:Nat->Bk) (sP sF sT sG sI sJ:Bk) (w:World) (hn:27<=n/\n<=32) (hn30:¬(n:Int)<=30) (hSZ:SZ=(fit:Int)) (hown:OW who=OW k)
    (hp1:pk bits 6=(n:Int)-27) (hp3:pk which fit=k) (hk:k<fit) (hf:fit<=30) (hf1:1<=fit) (hSb:0<=SZ/\SZ<=32)
    (hD:∀ j,(D j).size<=3) (hA:∀ a,(AA a).size<=15) (hO:∀ a,(OW a).size<=3)
    (HO:Hid (Calls Tryz.prog 11 #[] w fun e w'=>∃ x d,e=.returned (.tuple #[.pointer (some ⟨x,0,none⟩),.pointer (some ⟨d,0,none⟩)])/\HB w (fun _=>False) x bk0 w'/\Below w.heap.size w w'))
    (HP:Hid (∀ (c k:Int) W,(k=6\/k=fit)->(c=bits\/c=which)->Calls Tryz.prog 20 #[.int .i64 c,.int .i64 k] W fun e w'=>e=.returned (.int .i64 (pk c k))/\Below W.heap.size W w'))
    (HG:Hid (∀ (j:Int) W,0<=j->j<=32->Calls Tryz.prog 21 #[.int .i64 j] W fun e w'=>e=.returned (.string (D j))/\Below W.heap.size W w'))
    (HZ:Hid (∀ W,Calls Tryz.prog 23 #[.int .i64 n] W fun e w'=>e=.returned (.int .i64 SZ)/\Below W.heap.size W w'))
    (HW:Hid (∀ (j:Int) W,(j=who\/(0<=j/\j<=32))->Calls Tryz.prog 24 #[.int .i64 j] W fun e w'=>e=.returned (.string (OW j))/\Below W.heap.size W w'))
    (HA:Hid (∀ (a:Int) W,0<=a->a<4294967296->Calls Tryz.prog 22 #[.int .u32 a] W fun e w'=>e=.returned (.string (AA a))/\Below W.heap.size W w'))
    (H0:Hid (∀ x W,HB w (fun _=>False) x bk0 W->Calls Tryz.prog 16 #[.pointer (some ⟨x,0,none⟩),.string ((⟨#[80,79,79,76,32,112,32,97,110,110,32,49,48,46,48,46,48,46,48,47,50,52]⟩:ByteArray))] W fun e w'=>e=.returned (.string (⟨#[79,75]⟩:ByteArray))/\HB w (fun _=>False) x sP w'))
    (HB0:Hid (∀ x W,HB w (fun _=>False) x sP W->Calls Tryz.prog 16 #[.pointer (some ⟨x,0,none⟩),.string ((⟨#[66,76,79,67,75,32,98,32,97,110,110,32]⟩:ByteArray)++((⟨#[49,48,46,48,46,48,46,48,47]⟩:ByteArray)++D n))] W fun e w'=>e=.returned (.string (⟨#[79,75]⟩:ByteArray))/\HB w (fun _=>False) x (st 0) w'))
    (HN:Hid (∀ (i:Nat) (hi:i<fit) x W,HB w (fun _=>False) x (st i) W->Calls Tryz.prog 16 #[.pointer (some ⟨x,0,none⟩),.string ((⟨#[76,69,65,83,69,32,108]⟩:ByteArray)++D i++(⟨#[32]⟩:ByteArray)++OW i++(⟨#[32]⟩:ByteArray)++((⟨#[49,48,46,48,46,48,46,48,47]⟩:ByteArray)++D n))] W fun e w'=>e=.returned (.string ((⟨#[79,75,32]⟩:ByteArray)++AA (167772160+(i:Int))))/\HB w (fun _=>False) x (st (i+1)) w'))
    (HF:Hid (∀ x W,HB w (fun _=>False) x (st fit) W->Calls Tryz.prog 16 #[.pointer (some ⟨x,0,none⟩),.string ((⟨#[76,69,65,83,69,32,102,32,97,110,110,32]⟩:ByteArray)++((⟨#[49,48,46,48,46,48,46,48,47]⟩:ByteArray)++D n))] W fun e w'=>e=.returned (.string (⟨#[69,82,82,32,70,85,76,76]⟩:ByteArray))/\HB w (fun _=>False) x sF w'))
    (HT:Hid (∀ x W,HB w (fun _=>False) x sF W->Calls Tryz.prog 16 #[.pointer (some ⟨x,0,none⟩),.string ((⟨#[84,65,75,69,32,103,32,97,110,110,32]⟩:ByteArray)++AA (167772160+(k:Int)))] W fun e w'=>e=.returned (.string (⟨#[69,82,82,32,84,65,75,69,78]⟩:ByteArray))/\HB w (fun _=>False) x sT w'))
    (HV:Hid (∀ x W,HB w (fun _=>False) x sT W->Calls Tryz.prog 16 #[.pointer (some ⟨x,0,none⟩),.string ((⟨#[71,73,86,69,32,104,32]⟩:ByteArray)++OW who++(⟨#[32]⟩:ByteArray)++AA (167772160+(k:Int)))] W fun e w'=>e=.returned (.string (⟨#[79,75]⟩:ByteArray))/\HB w (fun _=>False) x sG w'))
    (HI:Hid (∀ x W,HB w (fun _=>False) x sG W->Calls Tryz.prog 16 #[.pointer (some ⟨x,0,none⟩),.string ((⟨#[76,69,65,83,69,32,105,32,98,111,98,32]⟩:ByteArray)++((⟨#[49,48,46,48,46,48,46,48,47]⟩:ByteArray)++D n))] W fun e w'=>e=.returned (.string ((⟨#[79,75,32]⟩:ByteArray)++AA (167772160+(k:Int))))/\HB w (fun _=>False) x sI w'))
    (HJ:Hid (∀ x W,HB w (fun _=>False) x sI W->Calls Tryz.prog 16 #[.pointer (some ⟨x,0,none⟩),.string ((⟨#[70,82,69,69,32,106,32,97,110,110,32]⟩:ByteArray)++((⟨#[49,48,46,48,46,48,46,48,47]⟩:ByteArray)++D n))] W fun e w'=>e=.returned (.string (⟨#[69,82,82,32,66,85,83,89]⟩:ByteArray))/\HB w (fun _=>False) x sJ w'))
 :
    Calls Tryz.prog 6 #[.int .i64 bits,.int .i64 which,.int .i64 who] w fun e w'=>e=.returned (.bool true)/\Below w.heap.size w w':=by
  have hDn:=hD n;have hOw:=hO who;have e1:(27:Int)+((n:Int)-27)=n:=by omega
  have hqe:((OW who).toList==(OW k).toList)=true:=(Lib.bytes_beq_iff _ _).2 hown
  replace hown:Hid _:=hown;go_enter Tryz.func6,Tryz.ntmps6
  go_wp2_with (first|(go_at_call 11;refine HO.out.mono ?_;rintro e wN ⟨x,dd,rfl,HBC,hq⟩;replace HBC:Hid (HB w (fun _=>False) x bk0 wN):=HBC;clear hq)|(go_at_call 20;refine(HP.out _ _ _ (by simp) (by simp)).mono ?_;rintro e wN ⟨rfl,hq⟩;replace HBC:Hid (HB w (fun _=>False) x _ wN):=HB.below (by repeat' (first|with_reducible exact HBC.out|with_reducible apply HB.drew|with_reducible apply HB.alloc)) hq;clear hq)|(go_at_call 21;refine(HG.out _ _ (om) (om)).mono ?_;rintro e wN ⟨rfl,hq⟩;replace HBC:Hid (HB w (fun _=>False) x _ wN):=HB.below (by repeat' (first|with_reducible exact HBC.out|with_reducible apply HB.drew|with_reducible apply HB.alloc)) hq;clear hq)|(go_at_call 23;refine(HZ.out _).mono ?_;rintro e wN ⟨rfl,hq⟩;replace HBC:Hid (HB w (fun _=>False) x _ wN):=HB.below (by repeat' (first|with_reducible exact HBC.out|with_reducible apply HB.drew|with_reducible apply HB.alloc)) hq;clear hq)|(go_at_call 16;have hst:HB w (fun _=>False) x bk0 _:=HBC.out;clear hst;refine(H0.out x _ (by repeat' (first|with_reducible exact HBC.out|with_reducible apply HB.drew|with_reducible apply HB.alloc))).mono ?_;rintro e wN ⟨rfl,hq⟩;replace HBC:Hid (HB w (fun _=>False) x _ wN):=hq;clear hq)|(go_at_call 16;have hst:HB w (fun _=>False) x sP _:=HBC.out;clear hst;refine(HB0.out x _ (by repeat' (first|with_reducible exact HBC.out|with_reducible apply HB.drew|with_reducible apply HB.alloc))).mono ?_;rintro e wN ⟨rfl,hq⟩;replace HBC:Hid (HB w (fun _=>False) x _ wN):=hq;clear hq))
  clear e1 hp1 hn30 hSZ hSb;go_loopw [15,16] (fun ok i wr=>∃ j:Nat,j<=fit/\ok=.bool true/\i=.int .i64 j/\Hid (HB w (fun _=>False) x (st j) wr)) (fun _ i _=>(fit-intOf i).toNat)
  case atStart=>exact⟨0,by omega,rfl,rfl,HBC.out⟩
  case round =>
    clear HBC;obtain⟨j,hjf,rfl,rfl,HBC⟩:=hrel;by_cases hlt:j<fit
    . have hlt2:(j:Int)<(fit:Int):=by omega
      have HNj:Hid _:=HN.out j hlt
      have hDj:=hD j;have hOj:=hO j;have hAj:=hA (167772160+(j:Int))
      clear hqe;go_wp2_with (first|(go_at_call 21;refine(HG.out _ _ (om) (om)).mono ?_;rintro e wN ⟨rfl,hq⟩;replace HBC:Hid (HB w (fun _=>False) x _ wN):=HB.below (by repeat' (first|with_reducible exact HBC.out|with_reducible apply HB.drew|with_reducible apply HB.alloc)) hq;clear hq)|(go_at_call 24;refine(HW.out _ _ (.inr ⟨by omega,by omega⟩)).mono ?_;rintro e wN ⟨rfl,hq⟩;replace HBC:Hid (HB w (fun _=>False) x _ wN):=HB.below (by repeat' (first|with_reducible exact HBC.out|with_reducible apply HB.drew|with_reducible apply HB.alloc)) hq;clear hq)|(go_at_call 22;refine(HA.out _ _ (om) (om)).mono ?_;rintro e wN ⟨rfl,hq⟩;replace HBC:Hid (HB w (fun _=>False) x _ wN):=HB.below (by repeat' (first|with_reducible exact HBC.out|with_reducible apply HB.drew|with_reducible apply HB.alloc)) hq;clear hq)|(go_at_call 16;have hst:HB w (fun _=>False) x (st j) _:=HBC.out;clear hst;refine(HNj.out x _ (by repeat' (first|with_reducible exact HBC.out|with_reducible apply HB.drew|with_reducible apply HB.alloc))).mono ?_;rintro e wN ⟨rfl,hq⟩;replace HBC:Hid (HB w (fun _=>False) x _ wN):=hq;clear hq))
      go_roundw
      case rel=>exact⟨j+1,by omega,rfl,by simp,HBC.out⟩
      case measure=>simp[intOf];omega
    . obtain rfl:j=fit:=by omega
      have hlt2:¬(j:Int)<(j:Int):=by omega
      have hAj:=hA (167772160+(k:Int))
      go_wp2_with (first|(go_at_call 20;refine(HP.out _ _ _ (by simp) (by simp)).mono ?_;rintro e wN ⟨rfl,hq⟩;replace HBC:Hid (HB w (fun _=>False) x _ wN):=HB.below (by repeat' (first|with_reducible exact HBC.out|with_reducible apply HB.drew|with_reducible apply HB.alloc)) hq;clear hq)|(go_at_call 22;refine(HA.out _ _ (om) (om)).mono ?_;rintro e wN ⟨rfl,hq⟩;replace HBC:Hid (HB w (fun _=>False) x _ wN):=HB.below (by repeat' (first|with_reducible exact HBC.out|with_reducible apply HB.drew|with_reducible apply HB.alloc)) hq;clear hq)|(go_at_call 24;refine(HW.out _ _ (by first|exact .inl rfl|exact .inr ⟨by omega,by omega⟩)).mono ?_;rintro e wN ⟨rfl,hq⟩;replace HBC:Hid (HB w (fun _=>False) x _ wN):=HB.below (by repeat' (first|with_reducible exact HBC.out|with_reducible apply HB.drew|with_reducible apply HB.alloc)) hq;clear hq)|(go_at_call 16;have hst:HB w (fun _=>False) x (st j) _:=HBC.out;clear hst;refine(HF.out x _ (by repeat' (first|with_reducible exact HBC.out|with_reducible apply HB.drew|with_reducible apply HB.alloc))).mono ?_;rintro e wN ⟨rfl,hq⟩;replace HBC:Hid (HB w (fun _=>False) x _ wN):=hq;clear hq)|(go_at_call 16;have hst:HB w (fun _=>False) x sF _:=HBC.out;clear hst;refine(HT.out x _ (by repeat' (first|with_reducible exact HBC.out|with_reducible apply HB.drew|with_reducible apply HB.alloc))).mono ?_;rintro e wN ⟨rfl,hq⟩;replace HBC:Hid (HB w (fun _=>False) x _ wN):=hq;clear hq)|(go_at_call 16;have hst:HB w (fun _=>False) x sT _:=HBC.out;clear hst;refine(HV.out x _ (by repeat' (first|with_reducible exact HBC.out|with_reducible apply HB.drew|with_reducible apply HB.alloc))).mono ?_;rintro e wN ⟨rfl,hq⟩;replace HBC:Hid (HB w (fun _=>False) x _ wN):=hq;clear hq)|(go_at_call 16;have hst:HB w (fun _=>False) x sG _:=HBC.out;clear hst;refine(HI.out x _ (by repeat' (first|with_reducible exact HBC.out|with_reducible apply HB.drew|with_reducible apply HB.alloc))).mono ?_;rintro e wN ⟨rfl,hq⟩;replace HBC:Hid (HB w (fun _=>False) x _ wN):=hq;clear hq)|(go_at_call 16;have hst:HB w (fun _=>False) x sI _:=HBC.out;clear hst;refine(HJ.out x _ (by repeat' (first|with_reducible exact HBC.out|with_reducible apply HB.drew|with_reducible apply HB.alloc))).mono ?_;rintro e wN ⟨rfl,hq⟩;replace HBC:Hid (HB w (fun _=>False) x _ wN):=hq;clear hq))
      go_ret;exact⟨rfl,HBC.out.low⟩
set_option maxRecDepth 100000 in
set_option maxHeartbeats 800000 in
theorem leased_d (bits which who:Int) (n fit k:Nat) (SZ:Int) (D OW:Int->ByteArray) (AA:Int->ByteArray) (st:Nat->Bk) (sP sF sT sG sI sJ:Bk) (w:World) (hn:27<=n/\n<=32) (hn30:¬(n:Int)<=30) (hSZ:SZ=(fit:Int)) (hown:OW who≠OW k)
    (hp1:pk bits 6=(n:Int)-27) (hp3:pk which fit=k) (hk:k<fit) (hf:fit<=30) (hf1:1<=fit) (hSb:0<=SZ/\SZ<=32)
    (hD:∀ j,(D j).size<=3) (hA:∀ a,(AA a).size<=15) (hO:∀ a,(OW a).size<=3)
    (HO:Hid (Calls Tryz.prog 11 #[] w fun e w'=>∃ x d,e=.returned (.tuple #[.pointer (some ⟨x,0,none⟩),.pointer (some ⟨d,0,none⟩)])/\HB w (fun _=>False) x bk0 w'/\Below w.heap.size w w'))
    (HP:Hid (∀ (c k:Int) W,(k=6\/k=fit)->(c=bits\/c=which)->Calls Tryz.prog 20 #[.int .i64 c,.int .i64 k] W fun e w'=>e=.returned (.int .i64 (pk c k))/\Below W.heap.size W w'))
    (HG:Hid (∀ (j:Int) W,0<=j->j<=32->Calls Tryz.prog 21 #[.int .i64 j] W fun e w'=>e=.returned (.string (D j))/\Below W.heap.size W w'))
    (HZ:Hid (∀ W,Calls Tryz.prog 23 #[.int .i64 n] W fun e w'=>e=.returned (.int .i64 SZ)/\Below W.heap.size W w'))
    (HW:Hid (∀ (j:Int) W,(j=who\/(0<=j/\j<=32))->Calls Tryz.prog 24 #[.int .i64 j] W fun e w'=>e=.returned (.string (OW j))/\Below W.heap.size W w'))
    (HA:Hid (∀ (a:Int) W,0<=a->a<4294967296->Calls Tryz.prog 22 #[.int .u32 a] W fun e w'=>e=.returned (.string (AA a))/\Below W.heap.size W w'))
    (H0:Hid (∀ x W,HB w (fun _=>False) x bk0 W->Calls Tryz.prog 16 #[.pointer (some ⟨x,0,none⟩),.string ((⟨#[80,79,79,76,32,112,32,97,110,110,32,49,48,46,48,46,48,46,48,47,50,52]⟩:ByteArray))] W fun e w'=>e=.returned (.string (⟨#[79,75]⟩:ByteArray))/\HB w (fun _=>False) x sP w'))
    (HB0:Hid (∀ x W,HB w (fun _=>False) x sP W->Calls Tryz.prog 16 #[.pointer (some ⟨x,0,none⟩),.string ((⟨#[66,76,79,67,75,32,98,32,97,110,110,32]⟩:ByteArray)++((⟨#[49,48,46,48,46,48,46,48,47]⟩:ByteArray)++D n))] W fun e w'=>e=.returned (.string (⟨#[79,75]⟩:ByteArray))/\HB w (fun _=>False) x (st 0) w'))
    (HN:Hid (∀ (i:Nat) (hi:i<fit) x W,HB w (fun _=>False) x (st i) W->Calls Tryz.prog 16 #[.pointer (some ⟨x,0,none⟩),.string ((⟨#[76,69,65,83,69,32,108]⟩:ByteArray)++D i++(⟨#[32]⟩:ByteArray)++OW i++(⟨#[32]⟩:ByteArray)++((⟨#[49,48,46,48,46,48,46,48,47]⟩:ByteArray)++D n))] W fun e w'=>e=.returned (.string ((⟨#[79,75,32]⟩:ByteArray)++AA (167772160+(i:Int))))/\HB w (fun _=>False) x (st (i+1)) w'))
    (HF:Hid (∀ x W,HB w (fun _=>False) x (st fit) W->Calls Tryz.prog 16 #[.pointer (some ⟨x,0,none⟩),.string ((⟨#[76,69,65,83,69,32,102,32,97,110,110,32]⟩:ByteArray)++((⟨#[49,48,46,48,46,48,46,48,47]⟩:ByteArray)++D n))] W fun e w'=>e=.returned (.string (⟨#[69,82,82,32,70,85,76,76]⟩:ByteArray))/\HB w (fun _=>False) x sF w'))
    (HT:Hid (∀ x W,HB w (fun _=>False) x sF W->Calls Tryz.prog 16 #[.pointer (some ⟨x,0,none⟩),.string ((⟨#[84,65,75,69,32,103,32,97,110,110,32]⟩:ByteArray)++AA (167772160+(k:Int)))] W fun e w'=>e=.returned (.string (⟨#[69,82,82,32,84,65,75,69,78]⟩:ByteArray))/\HB w (fun _=>False) x sT w'))
    (HV:Hid (∀ x W,HB w (fun _=>False) x sT W->Calls Tryz.prog 16 #[.pointer (some ⟨x,0,none⟩),.string ((⟨#[71,73,86,69,32,104,32]⟩:ByteArray)++OW who++(⟨#[32]⟩:ByteArray)++AA (167772160+(k:Int)))] W fun e w'=>e=.returned (.string (⟨#[69,82,82,32,79,87,78,69,82]⟩:ByteArray))/\HB w (fun _=>False) x sG w'))
 :
    Calls Tryz.prog 6 #[.int .i64 bits,.int .i64 which,.int .i64 who] w fun e w'=>e=.returned (.bool true)/\Below w.heap.size w w':=by
  have hDn:=hD n;have hOw:=hO who;have e1:(27:Int)+((n:Int)-27)=n:=by omega
  have hqe:((OW who).toList==(OW k).toList)=false:=(Lib.bytes_beq_false_iff _ _).2 hown
  replace hown:Hid _:=hown;go_enter Tryz.func6,Tryz.ntmps6
  go_wp2_with (first|(go_at_call 11;refine HO.out.mono ?_;rintro e wN ⟨x,dd,rfl,HBC,hq⟩;replace HBC:Hid (HB w (fun _=>False) x bk0 wN):=HBC;clear hq)|(go_at_call 20;refine(HP.out _ _ _ (by simp) (by simp)).mono ?_;rintro e wN ⟨rfl,hq⟩;replace HBC:Hid (HB w (fun _=>False) x _ wN):=HB.below (by repeat' (first|with_reducible exact HBC.out|with_reducible apply HB.drew|with_reducible apply HB.alloc)) hq;clear hq)|(go_at_call 21;refine(HG.out _ _ (om) (om)).mono ?_;rintro e wN ⟨rfl,hq⟩;replace HBC:Hid (HB w (fun _=>False) x _ wN):=HB.below (by repeat' (first|with_reducible exact HBC.out|with_reducible apply HB.drew|with_reducible apply HB.alloc)) hq;clear hq)|(go_at_call 23;refine(HZ.out _).mono ?_;rintro e wN ⟨rfl,hq⟩;replace HBC:Hid (HB w (fun _=>False) x _ wN):=HB.below (by repeat' (first|with_reducible exact HBC.out|with_reducible apply HB.drew|with_reducible apply HB.alloc)) hq;clear hq)|(go_at_call 16;have hst:HB w (fun _=>False) x bk0 _:=HBC.out;clear hst;refine(H0.out x _ (by repeat' (first|with_reducible exact HBC.out|with_reducible apply HB.drew|with_reducible apply HB.alloc))).mono ?_;rintro e wN ⟨rfl,hq⟩;replace HBC:Hid (HB w (fun _=>False) x _ wN):=hq;clear hq)|(go_at_call 16;have hst:HB w (fun _=>False) x sP _:=HBC.out;clear hst;refine(HB0.out x _ (by repeat' (first|with_reducible exact HBC.out|with_reducible apply HB.drew|with_reducible apply HB.alloc))).mono ?_;rintro e wN ⟨rfl,hq⟩;replace HBC:Hid (HB w (fun _=>False) x _ wN):=hq;clear hq))
  clear e1 hp1 hn30 hSZ hSb;go_loopw [15,16] (fun ok i wr=>∃ j:Nat,j<=fit/\ok=.bool true/\i=.int .i64 j/\Hid (HB w (fun _=>False) x (st j) wr)) (fun _ i _=>(fit-intOf i).toNat)
  case atStart=>exact⟨0,by omega,rfl,rfl,HBC.out⟩
  case round =>
    clear HBC;obtain⟨j,hjf,rfl,rfl,HBC⟩:=hrel;by_cases hlt:j<fit
    . have hlt2:(j:Int)<(fit:Int):=by omega
      have HNj:Hid _:=HN.out j hlt
      have hDj:=hD j;have hOj:=hO j;have hAj:=hA (167772160+(j:Int))
      clear hqe;go_wp2_with (first|(go_at_call 21;refine(HG.out _ _ (om) (om)).mono ?_;rintro e wN ⟨rfl,hq⟩;replace HBC:Hid (HB w (fun _=>False) x _ wN):=HB.below (by repeat' (first|with_reducible exact HBC.out|with_reducible apply HB.drew|with_reducible apply HB.alloc)) hq;clear hq)|(go_at_call 24;refine(HW.out _ _ (.inr ⟨by omega,by omega⟩)).mono ?_;rintro e wN ⟨rfl,hq⟩;replace HBC:Hid (HB w (fun _=>False) x _ wN):=HB.below (by repeat' (first|with_reducible exact HBC.out|with_reducible apply HB.drew|with_reducible apply HB.alloc)) hq;clear hq)|(go_at_call 22;refine(HA.out _ _ (om) (om)).mono ?_;rintro e wN ⟨rfl,hq⟩;replace HBC:Hid (HB w (fun _=>False) x _ wN):=HB.below (by repeat' (first|with_reducible exact HBC.out|with_reducible apply HB.drew|with_reducible apply HB.alloc)) hq;clear hq)|(go_at_call 16;have hst:HB w (fun _=>False) x (st j) _:=HBC.out;clear hst;refine(HNj.out x _ (by repeat' (first|with_reducible exact HBC.out|with_reducible apply HB.drew|with_reducible apply HB.alloc))).mono ?_;rintro e wN ⟨rfl,hq⟩;replace HBC:Hid (HB w (fun _=>False) x _ wN):=hq;clear hq))
      go_roundw
      case rel=>exact⟨j+1,by omega,rfl,by simp,HBC.out⟩
      case measure=>simp[intOf];omega
    . obtain rfl:j=fit:=by omega
      have hlt2:¬(j:Int)<(j:Int):=by omega
      have hAj:=hA (167772160+(k:Int))
      go_wp2_with (first|(go_at_call 20;refine(HP.out _ _ _ (by simp) (by simp)).mono ?_;rintro e wN ⟨rfl,hq⟩;replace HBC:Hid (HB w (fun _=>False) x _ wN):=HB.below (by repeat' (first|with_reducible exact HBC.out|with_reducible apply HB.drew|with_reducible apply HB.alloc)) hq;clear hq)|(go_at_call 22;refine(HA.out _ _ (om) (om)).mono ?_;rintro e wN ⟨rfl,hq⟩;replace HBC:Hid (HB w (fun _=>False) x _ wN):=HB.below (by repeat' (first|with_reducible exact HBC.out|with_reducible apply HB.drew|with_reducible apply HB.alloc)) hq;clear hq)|(go_at_call 24;refine(HW.out _ _ (by first|exact .inl rfl|exact .inr ⟨by omega,by omega⟩)).mono ?_;rintro e wN ⟨rfl,hq⟩;replace HBC:Hid (HB w (fun _=>False) x _ wN):=HB.below (by repeat' (first|with_reducible exact HBC.out|with_reducible apply HB.drew|with_reducible apply HB.alloc)) hq;clear hq)|(go_at_call 16;have hst:HB w (fun _=>False) x (st j) _:=HBC.out;clear hst;refine(HF.out x _ (by repeat' (first|with_reducible exact HBC.out|with_reducible apply HB.drew|with_reducible apply HB.alloc))).mono ?_;rintro e wN ⟨rfl,hq⟩;replace HBC:Hid (HB w (fun _=>False) x _ wN):=hq;clear hq)|(go_at_call 16;have hst:HB w (fun _=>False) x sF _:=HBC.out;clear hst;refine(HT.out x _ (by repeat' (first|with_reducible exact HBC.out|with_reducible apply HB.drew|with_reducible apply HB.alloc))).mono ?_;rintro e wN ⟨rfl,hq⟩;replace HBC:Hid (HB w (fun _=>False) x _ wN):=hq;clear hq)|(go_at_call 16;have hst:HB w (fun _=>False) x sT _:=HBC.out;clear hst;refine(HV.out x _ (by repeat' (first|with_reducible exact HBC.out|with_reducible apply HB.drew|with_reducible apply HB.alloc))).mono ?_;rintro e wN ⟨rfl,hq⟩;replace HBC:Hid (HB w (fun _=>False) x _ wN):=hq;clear hq))
      go_ret;exact⟨rfl,HBC.out.low⟩
def OI (r:Int):ByteArray:=bs (own3 (pk r 3).toNat)
theorem OI_nat (i:Nat):OI (i:Int)=bs (own3 i):=by
  unfold OI pk;rw[if_neg (om),show ((i:Int)%3).toNat=i%3 by omega,own3_mod]
theorem OI_size (r:Int):(OI r).size<=3:=by
  unfold OI;rw[bs_size];unfold own3;split
  . decide
  split<;>decide
def leaseSt (n:Nat) (s0:Bk):Nat->Bk
  | 0=>s0
  | i+1=>(doAll (leaseSt n s0 i) (bs ([76,69,65,83,69,32,108]++dec i++[32]++own3 i++[32]++([49,48,46,48,46,48,46,48,47]++dec n)))).1
theorem leaseSt_inv {n:Nat} {s0:Bk} (h:Inv s0):∀ i,Inv (leaseSt n s0 i)
  | 0=>h
  | i+1=>inv_all (leaseSt_inv h i) _
theorem leaseSt_at {n:Nat} {s0:Bk} (L:Le (n:Int)) (h0:27<=n) (hm:n<=32) (h:AtL n 0 s0):∀ i,i<=fitL n->AtL n i (leaseSt n s0 i)
  | 0,_=>h
  | i+1,hi=>by
    obtain⟨s,e,hs⟩:=l_one L h0 hm (i:=i) (om) (leaseSt_at L h0 hm h i (om))
    unfold leaseSt;rw[e];exact hs
theorem leaseSt_one {n:Nat} {s0:Bk} (L:Le (n:Int)) (h0:27<=n) (hm:n<=32) (h:AtL n 0 s0) {i:Nat} (hi:i<fitL n) :
    doAll (leaseSt n s0 i) (bs ([76,69,65,83,69,32,108]++dec i++[32]++own3 i++[32]++([49,48,46,48,46,48,46,48,47]++dec n)))=(leaseSt n s0 (i+1),bs ([79,75,32]++dot (fst1 n+(i:Int)).toNat)):=by
  obtain⟨s,e,hs⟩:=l_one L h0 hm (i:=i) hi (leaseSt_at L h0 hm h i (om))
  rw[e];show _=((doAll (leaseSt n s0 i) _).1,_)
  rw[e]
theorem leased_va (bits which who:Int) (n k:Nat) (w:World) (E:EnvT w) (hZ:10<=w.heap.size) (h0:27<=n) (h1:n<=32) (hn30:(n:Int)<=30) (L:Le (n:Int)) (hown:OI who=OI (k:Int))
    (hb:∀ c,(c=bits\/c=which\/c=who)->-9223372036854775808<=c/\c<=9223372036854775807) (hp1:pk bits 6=(n:Int)-27) (hp3:pk which (fitL n:Int)=k) (hk:k<fitL n) :
    Calls Tryz.prog 6 #[.int .i64 bits,.int .i64 which,.int .i64 who] w fun e w'=>e=.returned (.bool true)/\Below w.heap.size w w':=by
  have hfl:=L.le;have hfp:=L.pos;have hfst:fst1 n=167772161:=by unfold fst1;rw[if_pos hn30];rfl
  have hszp:=sz_pos (n:Int)
  have hsz32:sz (n:Int)<=32:=by have h:=sz_mono (m:=27) (n:=(n:Int)) (om) (om);have e:sz 27=32:=(by decide);omega
  have hfit:sz (n:Int)-2=(fitL n:Int):=by
    unfold fitL;rw[if_pos hn30];have h2:=sz_succ (n:Int) (om);have h3:=sz_two (n:=(n:Int)+1) (om);omega
  obtain⟨T0,e0,hT0⟩:=l_pool;obtain⟨s0,e1,hs0⟩:=l_block L h0 h1 hT0;have hIP:Inv (⟨fP 24,[],[],T0⟩:Bk):=by have h:=inv_all bk0_ok.1 (bs [80,79,79,76,32,112,32,97,110,110,32,49,48,46,48,46,48,46,48,47,50,52]);rw[e0] at h;exact h
  have hI0:Inv s0:=by have h:=inv_all hIP (bs ([66,76,79,67,75,32,98,32,97,110,110,32]++([49,48,46,48,46,48,46,48,47]++dec n)));rw[e1] at h;exact h
  have hIf:=leaseSt_inv (n:=n) hI0 (fitL n)
  obtain⟨d1,d2,dn,dy⟩:=l_rest L h0 h1 (leaseSt_at L h0 h1 hs0 _ (Nat.le_refl _)) hk (own3 (pk who 3).toNat) (own3_name _)
  have hok:own3 (pk who 3).toNat=own3 k:=by
    have e:=OI_nat k;have h:=hown;rw[e] at h;exact bs_inj h
  obtain⟨sG,sI,d3,d4,d5⟩:=dy hok;have hIG:Inv sG:=by have h:=inv_all hIf (bs ([71,73,86,69,32,104,32]++own3 (pk who 3).toNat++[32]++dot (fst1 n+(k:Int)).toNat));rw[d3] at h;exact h
  have hII:Inv sI:=by have h:=inv_all hIG (bs ([76,69,65,83,69,32,105,32,98,111,98,32]++([49,48,46,48,46,48,46,48,47]++dec n)));rw[d4] at h;exact h
  rw[hfst] at d2 d3 d4;have hDn:∀ j:Nat,j<=32->(if 0<=(j:Int)/\(j:Int)<=32 then DI (j:Int) else ⟨#[]⟩)=bs (dec j):=fun j hj=>by rw[if_pos ⟨by omega,by omega⟩];rfl
  have hAI:∀ j:Nat,j<=32->(if 0<=(167772161:Int)+(j:Int)/\(167772161:Int)+(j:Int)<4294967296 then AI (167772161+(j:Int)) else ⟨#[]⟩)=bs (dot ((167772161:Int)+(j:Int)).toNat):=fun j hj=>by rw[if_pos ⟨by omega,by omega⟩];rfl
  refine leased_a bits which who n (fitL n) k (sz (n:Int)) (fun j=>if 0<=j/\j<=32 then DI j else ⟨#[]⟩) OI (fun a=>if 0<=a/\a<4294967296 then AI a else ⟨#[]⟩) (leaseSt n s0) ⟨fP 24,[],[],T0⟩ (leaseSt n s0 (fitL n)) (leaseSt n s0 (fitL n)) sG sI sI w ⟨h0,h1⟩ hn30 hfit hown hp1 hp3 hk (om) (om) ⟨by omega,by omega⟩ ?_ ?_ OI_size (opened_any w w (Below.refl _ _)) ?_ ?_ ?_ ?_ ?_ ?_ ?_ ?_ ?_ ?_ ?_ ?_ ?_
  . intro j;split
    . exact DI_size j (om)
    . decide
  . intro a;split
    . unfold AI;rw[bs_size];exact(dot_lenB a.toNat (om)).2
    . decide
  . intro c q W hq hc;refine(pick_any c q W (hb c (hc.imp id .inl)) (om) (om)).mono ?_
    rintro e w' ⟨rfl,rfl⟩
    exact⟨rfl,Below.refl _ _⟩
  . intro j W hj0 hj1;rw[if_pos ⟨hj0,hj1⟩];exact kdigits_any j W hj0 (om)
  . intro W;refine(ksize_any (n:Int) W (om) (om)).mono ?_
    rintro e w' ⟨rfl,rfl⟩
    exact⟨rfl,Below.refl _ _⟩
  . intro j W hj;refine owner_any j W ?_
    rcases hj with rfl|hj
    . exact hb _ (.inr (.inr rfl))
    . omega
  . intro a W ha0 ha1;rw[if_pos ⟨ha0,ha1⟩];exact kaddr_any a W ha0 ha1
  . intro x W hW;exact hb_known w E hZ x bk0 _ _ _ _ rfl e0 bk0_ok.1 W hW
  . intro x W hW;refine hb_known w E hZ x _ _ _ _ _ ?_ e1 hIP W hW
    rw[hDn n (om)];show bs _++(bs _++bs _)=_
    simp only[bs_append]
  . intro i hi x W hW;refine(hb_known w E hZ x _ _ _ _ _ ?_ (leaseSt_one L h0 h1 hs0 hi) (leaseSt_inv hI0 i) W hW).mono ?_
    . rw[hDn n (om),hDn i (om),OI_nat];show bs _++bs _++bs _++bs _++bs _++(bs _++bs _)=_
      simp only[bs_append]
    . rintro e w' ⟨rfl,h⟩
      refine⟨?_,h⟩
      rw[hAI i (om),hfst,<- bs_append];rfl
  . intro x W hW;refine hb_known w E hZ x _ _ _ _ _ ?_ d1 hIf W hW
    rw[hDn n (om)];show bs _++(bs _++bs _)=_
    simp only[bs_append]
  . intro x W hW;refine hb_known w E hZ x _ _ _ _ _ ?_ d2 hIf W hW
    rw[hAI k (om)];show bs _++bs _=_
    rw[bs_append]
  . intro x W hW;refine hb_known w E hZ x _ _ _ _ _ ?_ d3 hIf W hW
    rw[hAI k (om)];show bs _++bs (own3 (pk who 3).toNat)++bs _++bs _=_
    simp only[bs_append]
  . intro x W hW;refine(hb_known w E hZ x _ _ _ _ _ ?_ d4 hIG W hW).mono ?_
    . rw[hDn n (om)];show bs _++(bs _++bs _)=_
      simp only[bs_append]
    . rintro e w' ⟨rfl,h⟩
      refine⟨?_,h⟩
      rw[hAI k (om),<- bs_append];rfl
  . intro x W hW;refine hb_known w E hZ x _ _ _ _ _ ?_ d5 hII W hW
    rw[hDn n (om)];show bs _++(bs _++bs _)=_
    simp only[bs_append]
theorem leased_vb (bits which who:Int) (n k:Nat) (w:World) (E:EnvT w) (hZ:10<=w.heap.size) (h0:27<=n) (h1:n<=32) (hn30:(n:Int)<=30) (L:Le (n:Int)) (hown:OI who≠OI (k:Int))
    (hb:∀ c,(c=bits\/c=which\/c=who)->-9223372036854775808<=c/\c<=9223372036854775807) (hp1:pk bits 6=(n:Int)-27) (hp3:pk which (fitL n:Int)=k) (hk:k<fitL n) :
    Calls Tryz.prog 6 #[.int .i64 bits,.int .i64 which,.int .i64 who] w fun e w'=>e=.returned (.bool true)/\Below w.heap.size w w':=by
  have hfl:=L.le;have hfp:=L.pos;have hfst:fst1 n=167772161:=by unfold fst1;rw[if_pos hn30];rfl
  have hszp:=sz_pos (n:Int)
  have hsz32:sz (n:Int)<=32:=by have h:=sz_mono (m:=27) (n:=(n:Int)) (om) (om);have e:sz 27=32:=(by decide);omega
  have hfit:sz (n:Int)-2=(fitL n:Int):=by
    unfold fitL;rw[if_pos hn30];have h2:=sz_succ (n:Int) (om);have h3:=sz_two (n:=(n:Int)+1) (om);omega
  obtain⟨T0,e0,hT0⟩:=l_pool;obtain⟨s0,e1,hs0⟩:=l_block L h0 h1 hT0;have hIP:Inv (⟨fP 24,[],[],T0⟩:Bk):=by have h:=inv_all bk0_ok.1 (bs [80,79,79,76,32,112,32,97,110,110,32,49,48,46,48,46,48,46,48,47,50,52]);rw[e0] at h;exact h
  have hI0:Inv s0:=by have h:=inv_all hIP (bs ([66,76,79,67,75,32,98,32,97,110,110,32]++([49,48,46,48,46,48,46,48,47]++dec n)));rw[e1] at h;exact h
  have hIf:=leaseSt_inv (n:=n) hI0 (fitL n)
  obtain⟨d1,d2,dn,dy⟩:=l_rest L h0 h1 (leaseSt_at L h0 h1 hs0 _ (Nat.le_refl _)) hk (own3 (pk who 3).toNat) (own3_name _)
  have hok:own3 (pk who 3).toNat≠own3 k:=by
    have e:=OI_nat k;intro q;apply hown;rw[e,<- q];rfl
  have d3:=dn hok;skip
  skip
  rw[hfst] at d2 d3;have hDn:∀ j:Nat,j<=32->(if 0<=(j:Int)/\(j:Int)<=32 then DI (j:Int) else ⟨#[]⟩)=bs (dec j):=fun j hj=>by rw[if_pos ⟨by omega,by omega⟩];rfl
  have hAI:∀ j:Nat,j<=32->(if 0<=(167772161:Int)+(j:Int)/\(167772161:Int)+(j:Int)<4294967296 then AI (167772161+(j:Int)) else ⟨#[]⟩)=bs (dot ((167772161:Int)+(j:Int)).toNat):=fun j hj=>by rw[if_pos ⟨by omega,by omega⟩];rfl
  refine leased_b bits which who n (fitL n) k (sz (n:Int)) (fun j=>if 0<=j/\j<=32 then DI j else ⟨#[]⟩) OI (fun a=>if 0<=a/\a<4294967296 then AI a else ⟨#[]⟩) (leaseSt n s0) ⟨fP 24,[],[],T0⟩ (leaseSt n s0 (fitL n)) (leaseSt n s0 (fitL n)) (leaseSt n s0 (fitL n)) bk0 bk0 w ⟨h0,h1⟩ hn30 hfit hown hp1 hp3 hk (om) (om) ⟨by omega,by omega⟩ ?_ ?_ OI_size (opened_any w w (Below.refl _ _)) ?_ ?_ ?_ ?_ ?_ ?_ ?_ ?_ ?_ ?_ ?_
  . intro j;split
    . exact DI_size j (om)
    . decide
  . intro a;split
    . unfold AI;rw[bs_size];exact(dot_lenB a.toNat (om)).2
    . decide
  . intro c q W hq hc;refine(pick_any c q W (hb c (hc.imp id .inl)) (om) (om)).mono ?_
    rintro e w' ⟨rfl,rfl⟩
    exact⟨rfl,Below.refl _ _⟩
  . intro j W hj0 hj1;rw[if_pos ⟨hj0,hj1⟩];exact kdigits_any j W hj0 (om)
  . intro W;refine(ksize_any (n:Int) W (om) (om)).mono ?_
    rintro e w' ⟨rfl,rfl⟩
    exact⟨rfl,Below.refl _ _⟩
  . intro j W hj;refine owner_any j W ?_
    rcases hj with rfl|hj
    . exact hb _ (.inr (.inr rfl))
    . omega
  . intro a W ha0 ha1;rw[if_pos ⟨ha0,ha1⟩];exact kaddr_any a W ha0 ha1
  . intro x W hW;exact hb_known w E hZ x bk0 _ _ _ _ rfl e0 bk0_ok.1 W hW
  . intro x W hW;refine hb_known w E hZ x _ _ _ _ _ ?_ e1 hIP W hW
    rw[hDn n (om)];show bs _++(bs _++bs _)=_
    simp only[bs_append]
  . intro i hi x W hW;refine(hb_known w E hZ x _ _ _ _ _ ?_ (leaseSt_one L h0 h1 hs0 hi) (leaseSt_inv hI0 i) W hW).mono ?_
    . rw[hDn n (om),hDn i (om),OI_nat];show bs _++bs _++bs _++bs _++bs _++(bs _++bs _)=_
      simp only[bs_append]
    . rintro e w' ⟨rfl,h⟩
      refine⟨?_,h⟩
      rw[hAI i (om),hfst,<- bs_append];rfl
  . intro x W hW;refine hb_known w E hZ x _ _ _ _ _ ?_ d1 hIf W hW
    rw[hDn n (om)];show bs _++(bs _++bs _)=_
    simp only[bs_append]
  . intro x W hW;refine hb_known w E hZ x _ _ _ _ _ ?_ d2 hIf W hW
    rw[hAI k (om)];show bs _++bs _=_
    rw[bs_append]
  . intro x W hW;refine hb_known w E hZ x _ _ _ _ _ ?_ d3 hIf W hW
    rw[hAI k (om)];show bs _++bs (own3 (pk who 3).toNat)++bs _++bs _=_
    simp only[bs_append]
theorem leased_vc (bits which who:Int) (n k:Nat) (w:World) (E:EnvT w) (hZ:10<=w.heap.size) (h0:27<=n) (h1:n<=32) (hn30:¬(n:Int)<=30) (L:Le (n:Int)) (hown:OI who=OI (k:Int))
    (hb:∀ c,(c=bits\/c=which\/c=who)->-9223372036854775808<=c/\c<=9223372036854775807) (hp1:pk bits 6=(n:Int)-27) (hp3:pk which (fitL n:Int)=k) (hk:k<fitL n) :
    Calls Tryz.prog 6 #[.int .i64 bits,.int .i64 which,.int .i64 who] w fun e w'=>e=.returned (.bool true)/\Below w.heap.size w w':=by
  have hfl:=L.le;have hfp:=L.pos;have hfst:fst1 n=167772160:=by unfold fst1;rw[if_neg hn30];rfl
  have hszp:=sz_pos (n:Int)
  have hsz32:sz (n:Int)<=32:=by have h:=sz_mono (m:=27) (n:=(n:Int)) (om) (om);have e:sz 27=32:=(by decide);omega
  have hfit:sz (n:Int)=(fitL n:Int):=by
    unfold fitL;rw[if_neg hn30];omega
  obtain⟨T0,e0,hT0⟩:=l_pool;obtain⟨s0,e1,hs0⟩:=l_block L h0 h1 hT0;have hIP:Inv (⟨fP 24,[],[],T0⟩:Bk):=by have h:=inv_all bk0_ok.1 (bs [80,79,79,76,32,112,32,97,110,110,32,49,48,46,48,46,48,46,48,47,50,52]);rw[e0] at h;exact h
  have hI0:Inv s0:=by have h:=inv_all hIP (bs ([66,76,79,67,75,32,98,32,97,110,110,32]++([49,48,46,48,46,48,46,48,47]++dec n)));rw[e1] at h;exact h
  have hIf:=leaseSt_inv (n:=n) hI0 (fitL n)
  obtain⟨d1,d2,dn,dy⟩:=l_rest L h0 h1 (leaseSt_at L h0 h1 hs0 _ (Nat.le_refl _)) hk (own3 (pk who 3).toNat) (own3_name _)
  have hok:own3 (pk who 3).toNat=own3 k:=by
    have e:=OI_nat k;have h:=hown;rw[e] at h;exact bs_inj h
  obtain⟨sG,sI,d3,d4,d5⟩:=dy hok;have hIG:Inv sG:=by have h:=inv_all hIf (bs ([71,73,86,69,32,104,32]++own3 (pk who 3).toNat++[32]++dot (fst1 n+(k:Int)).toNat));rw[d3] at h;exact h
  have hII:Inv sI:=by have h:=inv_all hIG (bs ([76,69,65,83,69,32,105,32,98,111,98,32]++([49,48,46,48,46,48,46,48,47]++dec n)));rw[d4] at h;exact h
  rw[hfst] at d2 d3 d4;have hDn:∀ j:Nat,j<=32->(if 0<=(j:Int)/\(j:Int)<=32 then DI (j:Int) else ⟨#[]⟩)=bs (dec j):=fun j hj=>by rw[if_pos ⟨by omega,by omega⟩];rfl
  have hAI:∀ j:Nat,j<=32->(if 0<=(167772160:Int)+(j:Int)/\(167772160:Int)+(j:Int)<4294967296 then AI (167772160+(j:Int)) else ⟨#[]⟩)=bs (dot ((167772160:Int)+(j:Int)).toNat):=fun j hj=>by rw[if_pos ⟨by omega,by omega⟩];rfl
  refine leased_c bits which who n (fitL n) k (sz (n:Int)) (fun j=>if 0<=j/\j<=32 then DI j else ⟨#[]⟩) OI (fun a=>if 0<=a/\a<4294967296 then AI a else ⟨#[]⟩) (leaseSt n s0) ⟨fP 24,[],[],T0⟩ (leaseSt n s0 (fitL n)) (leaseSt n s0 (fitL n)) sG sI sI w ⟨h0,h1⟩ hn30 hfit hown hp1 hp3 hk (om) (om) ⟨by omega,by omega⟩ ?_ ?_ OI_size (opened_any w w (Below.refl _ _)) ?_ ?_ ?_ ?_ ?_ ?_ ?_ ?_ ?_ ?_ ?_ ?_ ?_
  . intro j;split
    . exact DI_size j (om)
    . decide
  . intro a;split
    . unfold AI;rw[bs_size];exact(dot_lenB a.toNat (om)).2
    . decide
  . intro c q W hq hc;refine(pick_any c q W (hb c (hc.imp id .inl)) (om) (om)).mono ?_
    rintro e w' ⟨rfl,rfl⟩
    exact⟨rfl,Below.refl _ _⟩
  . intro j W hj0 hj1;rw[if_pos ⟨hj0,hj1⟩];exact kdigits_any j W hj0 (om)
  . intro W;refine(ksize_any (n:Int) W (om) (om)).mono ?_
    rintro e w' ⟨rfl,rfl⟩
    exact⟨rfl,Below.refl _ _⟩
  . intro j W hj;refine owner_any j W ?_
    rcases hj with rfl|hj
    . exact hb _ (.inr (.inr rfl))
    . omega
  . intro a W ha0 ha1;rw[if_pos ⟨ha0,ha1⟩];exact kaddr_any a W ha0 ha1
  . intro x W hW;exact hb_known w E hZ x bk0 _ _ _ _ rfl e0 bk0_ok.1 W hW
  . intro x W hW;refine hb_known w E hZ x _ _ _ _ _ ?_ e1 hIP W hW
    rw[hDn n (om)];show bs _++(bs _++bs _)=_
    simp only[bs_append]
  . intro i hi x W hW;refine(hb_known w E hZ x _ _ _ _ _ ?_ (leaseSt_one L h0 h1 hs0 hi) (leaseSt_inv hI0 i) W hW).mono ?_
    . rw[hDn n (om),hDn i (om),OI_nat];show bs _++bs _++bs _++bs _++bs _++(bs _++bs _)=_
      simp only[bs_append]
    . rintro e w' ⟨rfl,h⟩
      refine⟨?_,h⟩
      rw[hAI i (om),hfst,<- bs_append];rfl
  . intro x W hW;refine hb_known w E hZ x _ _ _ _ _ ?_ d1 hIf W hW
    rw[hDn n (om)];show bs _++(bs _++bs _)=_
    simp only[bs_append]
  . intro x W hW;refine hb_known w E hZ x _ _ _ _ _ ?_ d2 hIf W hW
    rw[hAI k (om)];show bs _++bs _=_
    rw[bs_append]
  . intro x W hW;refine hb_known w E hZ x _ _ _ _ _ ?_ d3 hIf W hW
    rw[hAI k (om)];show bs _++bs (own3 (pk who 3).toNat)++bs _++bs _=_
    simp only[bs_append]
  . intro x W hW;refine(hb_known w E hZ x _ _ _ _ _ ?_ d4 hIG W hW).mono ?_
    . rw[hDn n (om)];show bs _++(bs _++bs _)=_
      simp only[bs_append]
    . rintro e w' ⟨rfl,h⟩
      refine⟨?_,h⟩
      rw[hAI k (om),<- bs_append];rfl
  . intro x W hW;refine hb_known w E hZ x _ _ _ _ _ ?_ d5 hII W hW
    rw[hDn n (om)];show bs _++(bs _++bs _)=_
    simp only[bs_append]
theorem leased_vd (bits which who:Int) (n k:Nat) (w:World) (E:EnvT w) (hZ:10<=w.heap.size) (h0:27<=n) (h1:n<=32) (hn30:¬(n:Int)<=30) (L:Le (n:Int)) (hown:OI who≠OI (k:Int))
    (hb:∀ c,(c=bits\/c=which\/c=who)->-9223372036854775808<=c/\c<=9223372036854775807) (hp1:pk bits 6=(n:Int)-27) (hp3:pk which (fitL n:Int)=k) (hk:k<fitL n) :
    Calls Tryz.prog 6 #[.int .i64 bits,.int .i64 which,.int .i64 who] w fun e w'=>e=.returned (.bool true)/\Below w.heap.size w w':=by
  have hfl:=L.le;have hfp:=L.pos;have hfst:fst1 n=167772160:=by unfold fst1;rw[if_neg hn30];rfl
  have hszp:=sz_pos (n:Int)
  have hsz32:sz (n:Int)<=32:=by have h:=sz_mono (m:=27) (n:=(n:Int)) (om) (om);have e:sz 27=32:=(by decide);omega
  have hfit:sz (n:Int)=(fitL n:Int):=by
    unfold fitL;rw[if_neg hn30];omega
  obtain⟨T0,e0,hT0⟩:=l_pool;obtain⟨s0,e1,hs0⟩:=l_block L h0 h1 hT0;have hIP:Inv (⟨fP 24,[],[],T0⟩:Bk):=by have h:=inv_all bk0_ok.1 (bs [80,79,79,76,32,112,32,97,110,110,32,49,48,46,48,46,48,46,48,47,50,52]);rw[e0] at h;exact h
  have hI0:Inv s0:=by have h:=inv_all hIP (bs ([66,76,79,67,75,32,98,32,97,110,110,32]++([49,48,46,48,46,48,46,48,47]++dec n)));rw[e1] at h;exact h
  have hIf:=leaseSt_inv (n:=n) hI0 (fitL n)
  obtain⟨d1,d2,dn,dy⟩:=l_rest L h0 h1 (leaseSt_at L h0 h1 hs0 _ (Nat.le_refl _)) hk (own3 (pk who 3).toNat) (own3_name _)
  have hok:own3 (pk who 3).toNat≠own3 k:=by
    have e:=OI_nat k;intro q;apply hown;rw[e,<- q];rfl
  have d3:=dn hok;skip
  skip
  rw[hfst] at d2 d3;have hDn:∀ j:Nat,j<=32->(if 0<=(j:Int)/\(j:Int)<=32 then DI (j:Int) else ⟨#[]⟩)=bs (dec j):=fun j hj=>by rw[if_pos ⟨by omega,by omega⟩];rfl
  have hAI:∀ j:Nat,j<=32->(if 0<=(167772160:Int)+(j:Int)/\(167772160:Int)+(j:Int)<4294967296 then AI (167772160+(j:Int)) else ⟨#[]⟩)=bs (dot ((167772160:Int)+(j:Int)).toNat):=fun j hj=>by rw[if_pos ⟨by omega,by omega⟩];rfl
  refine leased_d bits which who n (fitL n) k (sz (n:Int)) (fun j=>if 0<=j/\j<=32 then DI j else ⟨#[]⟩) OI (fun a=>if 0<=a/\a<4294967296 then AI a else ⟨#[]⟩) (leaseSt n s0) ⟨fP 24,[],[],T0⟩ (leaseSt n s0 (fitL n)) (leaseSt n s0 (fitL n)) (leaseSt n s0 (fitL n)) bk0 bk0 w ⟨h0,h1⟩ hn30 hfit hown hp1 hp3 hk (om) (om) ⟨by omega,by omega⟩ ?_ ?_ OI_size (opened_any w w (Below.refl _ _)) ?_ ?_ ?_ ?_ ?_ ?_ ?_ ?_ ?_ ?_ ?_
  . intro j;split
    . exact DI_size j (om)
    . decide
  . intro a;split
    . unfold AI;rw[bs_size];exact(dot_lenB a.toNat (om)).2
    . decide
  . intro c q W hq hc;refine(pick_any c q W (hb c (hc.imp id .inl)) (om) (om)).mono ?_
    rintro e w' ⟨rfl,rfl⟩
    exact⟨rfl,Below.refl _ _⟩
  . intro j W hj0 hj1;rw[if_pos ⟨hj0,hj1⟩];exact kdigits_any j W hj0 (om)
  . intro W;refine(ksize_any (n:Int) W (om) (om)).mono ?_
    rintro e w' ⟨rfl,rfl⟩
    exact⟨rfl,Below.refl _ _⟩
  . intro j W hj;refine owner_any j W ?_
    rcases hj with rfl|hj
    . exact hb _ (.inr (.inr rfl))
    . omega
  . intro a W ha0 ha1;rw[if_pos ⟨ha0,ha1⟩];exact kaddr_any a W ha0 ha1
  . intro x W hW;exact hb_known w E hZ x bk0 _ _ _ _ rfl e0 bk0_ok.1 W hW
  . intro x W hW;refine hb_known w E hZ x _ _ _ _ _ ?_ e1 hIP W hW
    rw[hDn n (om)];show bs _++(bs _++bs _)=_
    simp only[bs_append]
  . intro i hi x W hW;refine(hb_known w E hZ x _ _ _ _ _ ?_ (leaseSt_one L h0 h1 hs0 hi) (leaseSt_inv hI0 i) W hW).mono ?_
    . rw[hDn n (om),hDn i (om),OI_nat];show bs _++bs _++bs _++bs _++bs _++(bs _++bs _)=_
      simp only[bs_append]
    . rintro e w' ⟨rfl,h⟩
      refine⟨?_,h⟩
      rw[hAI i (om),hfst,<- bs_append];rfl
  . intro x W hW;refine hb_known w E hZ x _ _ _ _ _ ?_ d1 hIf W hW
    rw[hDn n (om)];show bs _++(bs _++bs _)=_
    simp only[bs_append]
  . intro x W hW;refine hb_known w E hZ x _ _ _ _ _ ?_ d2 hIf W hW
    rw[hAI k (om)];show bs _++bs _=_
    rw[bs_append]
  . intro x W hW;refine hb_known w E hZ x _ _ _ _ _ ?_ d3 hIf W hW
    rw[hAI k (om)];show bs _++bs (own3 (pk who 3).toNat)++bs _++bs _=_
    simp only[bs_append]
theorem leased_walk (bits which who:Int) (w:World) (E:EnvT w) (hZ:10<=w.heap.size) (hb:∀ c,(c=bits\/c=which\/c=who)->-9223372036854775808<=c/\c<=9223372036854775807) :
    Calls Tryz.prog 6 #[.int .i64 bits,.int .i64 which,.int .i64 who] w fun e w'=>e=.returned (.bool true)/\Below w.heap.size w w':=by
  have p1:=pk_bd bits 6 (om)
  obtain⟨n,hn⟩:∃ n:Nat,(n:Int)=pk bits 6+27:=⟨(pk bits 6+27).toNat,by omega⟩
  have L:=le_any n (om) (om)
  have hfp:=L.pos;have p3:=pk_bd which (fitL n:Int) (om)
  obtain⟨k,hk⟩:∃ k:Nat,(k:Int)=pk which (fitL n:Int):=⟨(pk which (fitL n:Int)).toNat,by omega⟩
  by_cases h30:(n:Int)<=30
  . by_cases ho:OI who=OI (k:Int)
    . exact leased_va bits which who n k w E hZ (om) (om) h30 L ho hb (om) hk.symm (om)
    . exact leased_vb bits which who n k w E hZ (om) (om) h30 L ho hb (om) hk.symm (om)
  . by_cases ho:OI who=OI (k:Int)
    . exact leased_vc bits which who n k w E hZ (om) (om) h30 L ho hb (om) hk.symm (om)
    . exact leased_vd bits which who n k w E hZ (om) (om) h30 L ho hb (om) hk.symm (om)
end Go.Proofs.YtjnhhnbgjjkkjaaGreatDoor
