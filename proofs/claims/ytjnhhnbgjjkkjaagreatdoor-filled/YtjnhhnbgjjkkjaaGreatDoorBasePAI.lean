/-
  BkNm, BkAg, BkSr, SnA, BkLease, BkOr
-/
import Derived.Test.YtjnhhnbgjjkkjaaGreatDoorBasePAA
import Derived.Test.YtjnhhnbgjjkkjaaGreatDoorBasePAH
namespace Go.Proofs.YtjnhhnbgjjkkjaaGreatDoor
open Go.RowKit
set_option linter.unusedVariables false
set_option linter.unusedSimpArgs false
theorem rdPart_o {l l':Ln} {p:Nat} {w:List UInt8} (h:rdPart l p w=some l'):l'.v=l.v/\(p=2->isName l'.o.data.toList=true)/\(p≠2->l'.o=l.o)/\(p=1->l'.t=⟨w.toArray⟩)/\(p≠1->l'.t=l.t)/\(p=1->isName w=true):=by
  unfold rdPart at h;split at h
  . split at h
    . rename_i e hn;cases h;exact⟨rfl,fun q=>by omega,fun _=>rfl,fun _=>rfl,fun q=>absurd e q,fun _=>hn⟩
    . cases h
  . split at h
    . split at h
      . rename_i e1 e hn
        cases h;exact⟨rfl,fun _=>by simpa using hn,fun q=>absurd e q,fun q=>absurd q e1,fun _=>rfl,fun q=>absurd q e1⟩
      . cases h
    . rename_i e1 e2;split at h
      . split at h
        . cases h;exact⟨rfl,fun q=>absurd q e2,fun _=>rfl,fun q=>absurd q e1,fun _=>rfl,fun q=>absurd q e1⟩
        . cases h
      . split at h
        . split at h
          . cases h;exact⟨rfl,fun q=>absurd q e2,fun _=>rfl,fun q=>absurd q e1,fun _=>rfl,fun q=>absurd q e1⟩
          . cases h
        . split at h
          . split at h
            . cases h;exact⟨rfl,fun q=>absurd q e2,fun _=>rfl,fun q=>absurd q e1,fun _=>rfl,fun q=>absurd q e1⟩
            . cases h
          . cases h
theorem rdParts_v:∀ (ps:List Nat) (ws:List (List UInt8)) (l l':Ln),rdParts l ps ws=some l'->l'.v=l.v/\((isName l.o.data.toList=true\/2∈ps)->isName l'.o.data.toList=true)/\(1∉ps->l'.t=l.t)
  | [],[],l,l',h=>by simp[rdParts] at h;subst h;exact⟨rfl,fun q=>q.elim id (by simp),fun _=>rfl⟩
  | [],_::_,l,l',h=>by simp[rdParts] at h
  | _::_,[],l,l',h=>by simp[rdParts] at h
  | p::ps,w::ws,l,l',h=>by
    rw[rdParts] at h;split at h
    . rename_i l2 e;obtain⟨a1,a2,a3,a4,a5,_⟩:=rdPart_o e;obtain⟨b1,b2,b3⟩:=rdParts_v ps ws l2 l' h;refine⟨b1.trans a1,fun q=>b2 ?_,fun q=>?_⟩
      . by_cases hp:p=2
        . exact .inl (a2 hp)
        . rcases q with q|q
          . rw[a3 hp];exact .inl q
          . rcases List.mem_cons.1 q with q|q
            . exact absurd q.symm hp
            . exact .inr q
      . simp only[List.mem_cons,not_or] at q
        rw[b3 q.2,a5 (fun e=>q.1 e.symm)]
    . cases h
theorem form_cmd {k:Nat} (h:k<8):∃ ps,form k=1::2::ps/\1∉ps:=by
  have hc:k=0\/k=1\/k=2\/k=3\/k=4\/k=5\/k=6\/k=7:=by omega
  rcases hc with rfl|rfl|rfl|rfl|rfl|rfl|rfl|rfl<;>exact⟨_,rfl,by decide⟩
theorem read_cmd {k:Nat} (hk:k<8) {t o r:List UInt8} {l:Ln} (ht:(32:UInt8)∉t) (ho:(32:UInt8)∉o) (h:rdLine (verb k++32::(t++32::(o++32::r)))=some l):l.v=k/\l.t=⟨t.toArray⟩:=by
  have hs:(verb k++32::(t++32::(o++32::r))).length<=100:=by
    unfold rdLine at h;split at h
    . assumption
    . cases h
  have hp:parts 32 (verb k++32::(t++32::(o++32::r)))=verb k::t::o::parts 32 r:=by
    rw[parts_cons 32 _ _ (verb_no k (om)).1,parts_cons 32 _ _ ht,parts_cons 32 _ _ ho]
  rw[rdLine_of hs (om) hp] at h;obtain⟨ps,e,h1⟩:=form_cmd hk;rw[e,rdParts] at h;split at h
  . rename_i l2 e2;obtain⟨a1,_,_,a4,_,_⟩:=rdPart_o e2;obtain⟨b1,_,b3⟩:=rdParts_v _ _ _ _ h;have hv:l.v=k:=b1.trans (by rw[a1];rfl)
    refine⟨hv,?_⟩
    rw[b3 (by simp[h1]),a4 rfl]
  . cases h
theorem read_short {k:Nat} (hk:k<8) {t o:List UInt8} (ht:(32:UInt8)∉t) (ho:(32:UInt8)∉o):rdLine (verb k++32::(t++32::o))=none:=by
  rcases e:rdLine (verb k++32::(t++32::o)) with _|l
  . rfl
  . exfalso
    have hs:(verb k++32::(t++32::o)).length<=100:=by
      unfold rdLine at e;split at e
      . assumption
      . cases e
    have hp:parts 32 (verb k++32::(t++32::o))=[verb k,t,o]:=by
      rw[parts_cons 32 _ _ (verb_no k (om)).1,parts_cons 32 _ _ ht,parts_none 32 _ ho]
    rw[rdLine_of hs (om) hp] at e;have hf:form k=[1,2,3]\/form k=[1,2,4]\/form k=[1,2,3,5]:=by
      have hc:k=0\/k=1\/k=2\/k=3\/k=4\/k=5\/k=6\/k=7:=by omega
      rcases hc with rfl|rfl|rfl|rfl|rfl|rfl|rfl|rfl<;>decide
    rcases hf with q|q|q<;>rw[q] at e<;>simp only[rdParts] at e<;>(split at e<;>first|(split at e<;>simp at e)|simp at e)
theorem rdPart_gd {l l':Ln} {p:Nat} {w:List UInt8} (hL:0<=l.a/\l.a<4294967296/\rt l.a l.n=true/\l.g<=32) (h:rdPart l p w=some l'):0<=l'.a/\l'.a<4294967296/\rt l'.a l'.n=true/\l'.g<=32:=by
  unfold rdPart at h;split at h
  . split at h
    . cases h;exact hL
    . cases h
  . split at h
    . split at h
      . cases h;exact hL
      . cases h
    . split at h
      . split at h
        . rename_i b e
          cases h;have hb:=rd_text (a:=b.1) (n:=b.2) e
          exact⟨hb.2.2.1,hb.2.2.2.1,hb.2.1,hL.2.2.2⟩
        . cases h
      . split at h
        . split at h
          . cases h;exact hL
          . cases h
        . split at h
          . split at h
            . rename_i g e
              cases h;have hb:=(num_some.1 e).1
              exact⟨hL.1,hL.2.1,hL.2.2.1,by dsimp only;omega⟩
            . cases h
          . cases h
theorem rdParts_gd:∀ (ps:List Nat) (ws:List (List UInt8)) (l l':Ln),(0<=l.a/\l.a<4294967296/\rt l.a l.n=true/\l.g<=32)->rdParts l ps ws=some l'->0<=l'.a/\l'.a<4294967296/\rt l'.a l'.n=true/\l'.g<=32
  | [],[],l,l',hL,h=>by simp[rdParts] at h;subst h;exact hL
  | [],_::_,l,l',hL,h=>by simp[rdParts] at h
  | _::_,[],l,l',hL,h=>by simp[rdParts] at h
  | p::ps,w::ws,l,l',hL,h=>by
    rw[rdParts] at h;split at h
    . rename_i l2 e;exact rdParts_gd ps ws l2 l' (rdPart_gd hL e) h
    . cases h
theorem rdLine_gd {s:List UInt8} {l:Ln} (h:rdLine s=some l):LnGd l:=by
  unfold rdLine at h;split at h
  . split at h
    . rename_i w ws e;split at h
      . cases h
      . have h1:=rdParts_gd _ _ _ _ ⟨Int.le_refl _,by simp[ln0],rt_iff.2 ⟨by simp[ln0],by simp[ln0],by simp[ln0]⟩,by simp[ln0]⟩ h
        obtain⟨h2,h3,_⟩:=rdParts_v _ _ _ _ h;refine⟨h1.1,h1.2.1,h1.2.2.1,h1.2.2.2,fun hv=>h3 (.inr ?_)⟩
        obtain⟨ps,e,_⟩:=form_cmd hv;rw[h2] at e;show 2∈form (ln0 (fi (fun v=>v==w) verbT).toNat).v
        rw[e];simp
    . cases h
  . cases h
theorem good_all {s:Bk} (G:Good s) (line:ByteArray):Good (doAll s line).1:=by
  unfold doAll;rcases e:rdLine line.data.toList with _|l
  . exact G
  . have hg:=good_ln G (rdLine_gd e)
    have ht:∀ T,Good { (doLn s l).1 with toks:=T }:=fun T=>⟨hg.pr,hg.nr,hg.po,hg.no,hg.lo,hg.pp,hg.np,hg.lp,hg.ni,hg.li⟩
    dsimp only;split
    . split
      . split<;>exact G
      . split
        . exact ht _
        . exact hg
    . exact hg
def dig36 (d:Nat):UInt8:=if d<10 then UInt8.ofNat (48+d) else UInt8.ofNat (87+d)
def b36f:Nat->Nat->List UInt8
  | 0,_=>[]
  | f+1,n=>(if n / 36=0 then [] else b36f f (n / 36))++[dig36 (n%36)]
def b36 (n:Nat):List UInt8:=b36f (n+1) n
def val36 (l:List UInt8):Nat:=l.foldl (fun a c=>36*a+(if c.toNat<58 then c.toNat-48 else c.toNat-87)) 0
theorem dig36_val:∀ d:Fin 36,(if (dig36 d).toNat<58 then (dig36 d).toNat-48 else (dig36 d).toNat-87)=(d:Nat):=by decide +kernel
theorem dig36_name:∀ d:Fin 36,(97<=(dig36 d).toNat/\(dig36 d).toNat<=122)\/(48<=(dig36 d).toNat/\(dig36 d).toNat<=57):=by decide +kernel
theorem val36_snoc (l:List UInt8) (c:UInt8):val36 (l++[c])=36*val36 l+(if c.toNat<58 then c.toNat-48 else c.toNat-87):=by simp[val36]
theorem val36_f (f:Nat):∀ n,n<f->val36 (b36f f n)=n:=by
  induction f with
  | zero=>intro n h;omega
  | succ f ih =>
    intro n h;unfold b36f;rw[val36_snoc,dig36_val ⟨n%36,by omega⟩]
    show 36*_+n%36=n
    split
    . simp[val36];omega
    . rw[ih (n / 36) (om)];omega
theorem val36_b (n:Nat):val36 (b36 n)=n:=val36_f (n+1) n (om)
theorem b36_inj {a b:Nat} (h:b36 a=b36 b):a=b:=by rw[<- val36_b a,<- val36_b b,h]
theorem b36f_more (f:Nat):∀ n g,n<f->f<=g->b36f g n=b36f f n:=by
  induction f with
  | zero=>intro n g h;omega
  | succ f ih =>
    intro n g h hg;obtain⟨g,rfl⟩:∃ q,g=q+1:=⟨g-1,by omega⟩
    unfold b36f;split
    . rfl
    . rw[ih (n / 36) g (om) (om)]
theorem b36_eq (n:Nat):b36 n=(if n / 36=0 then [] else b36 (n / 36))++[dig36 (n%36)]:=by
  unfold b36;conv=>lhs;unfold b36f
  split
  . rfl
  . rw[b36f_more (n / 36+1) (n / 36) n (om) (om)]
theorem b36_len (n:Nat) (k:Nat):n<36^k->(b36 n).length<=k+1:=by
  induction k generalizing n with
  | zero=>intro h;rw[b36_eq,if_pos (om)];simp
  | succ k ih =>
    intro h;rw[b36_eq];split
    . simp
    . have:=ih (n / 36) (by rw[Nat.pow_succ] at h;omega)
      simp;omega
theorem b36_all (n:Nat):∀ c,c∈b36 n->(97<=c.toNat/\c.toNat<=122)\/(48<=c.toNat/\c.toNat<=57):=by
  induction n using Nat.strongRecOn with
  | ind n ih =>
    intro c hc;rw[b36_eq] at hc;rcases List.mem_append.1 hc with hc|hc
    . split at hc
      . simp at hc
      . exact ih (n / 36) (om) c hc
    . rw[List.mem_singleton] at hc;subst hc;exact dig36_name ⟨n%36,by omega⟩
def cmdL (k:Nat) (t o r:List UInt8):List UInt8:=verb k++32::(t++32::(o++32::r))
def agT:List UInt8:=[97,103,97,105,110]
def byt (l:List UInt8):ByteArray:=⟨l.toArray⟩
theorem byt_data (l:List UInt8):(byt l).data.toList=l:=rfl
theorem byt_inj {a b:List UInt8} (h:byt a=byt b):a=b:=by
  have:=congrArg (fun x=>x.data.toList) h
  simpa[byt] using this
def okS (s:ByteArray):Bool:=decide (s.data.toList.take 2=[79,75])
theorem okS_an (a:An):okS (byt (anText a))=decide (a.e=0):=by
  unfold okS;rw[byt_data];unfold anText;split
  . rename_i h;simp[h]
  . rename_i h;simp[h]
theorem ln_toks (s:Bk) (l:Ln):(doLn s l).1.toks=s.toks:=by
  unfold doLn doPool doDrop doNet doBlock doFree doLease doTake doGive;repeat' (first|rfl|split)
theorem findT_noneA {l:List Tk} {t:ByteArray} (h:∀ x,x∈l->x.t≠t):findT l t=none:=by
  unfold findT;rw[List.filter_eq_nil_iff.2 (fun x hx=>by simpa using h x hx)]
  rfl
theorem findT_at {pre post:List Tk} {X:Tk} (h:∀ y,y∈pre->y.t≠X.t):findT (pre++X::post) X.t=some X:=by
  unfold findT;have hf:pre.filter (fun x=>decide (x.t=X.t))=[]:=List.filter_eq_nil_iff.2 (fun y hy=>by simpa using h y hy)
  rw[List.filter_append,List.filter_cons_of_pos (by simp),hf]
  simp
theorem no_line {s:Bk} {L:ByteArray} (e:rdLine L.data.toList=none):doAll s L=(s,byt (anText (ref 2))):=by
  unfold doAll;rw[e];rfl
theorem some_line {s:Bk} {L:ByteArray} {l:Ln} (e:rdLine L.data.toList=some l) (hv:l.v<8):doAll s L =
    match findT s.toks l.t with
    | some x=>if x.l≠L then (s,byt (anText (ref 3))) else (s,x.r)
    | none=>if (doLn s l).2.e=0 then ({ (doLn s l).1 with toks:=addT (doLn s l).1.toks ⟨l.t,L,byt (anText (doLn s l).2)⟩ },byt (anText (doLn s l).2)) else ((doLn s l).1,byt (anText (doLn s l).2)):=by
  unfold doAll;rw[e];dsimp only;rw[if_pos hv];rfl
theorem cmd_toks {s:Bk} {k:Nat} (hk:k<8) {t o r:List UInt8} (ht:(32:UInt8)∉t) (ho:(32:UInt8)∉o) :
    (doAll s (byt (cmdL k t o r))).1.toks=s.toks\/∃ y:Tk,y.t=byt t/\(doAll s (byt (cmdL k t o r))).1.toks=addT s.toks y:=by
  rcases e:rdLine (byt (cmdL k t o r)).data.toList with _|l
  . rw[no_line e];exact .inl rfl
  . obtain⟨h1,h2⟩:=read_cmd hk ht ho (by rw[byt_data] at e;exact e)
    rw[some_line e (om)];split
    . split<;>exact .inl rfl
    . split
      . exact .inr ⟨_,h2,by rw[ln_toks]⟩
      . exact .inl (ln_toks s l)
theorem ask_verb {k:Nat} (hk:k<11) {r:List UInt8} {l:Ln} (h:rdLine (verb k++32::r)=some l):l.v=k:=by
  have hs:(verb k++32::r).length<=100:=by
    unfold rdLine at h;split at h
    . assumption
    . cases h
  rw[rdLine_of hs hk (parts_cons 32 _ _ (verb_no k hk).1)] at h;exact(rdParts_v _ _ _ _ h).1.trans rfl
def NoAg (s:Bk):Prop:=∀ x,x∈s.toks->x.t≠byt agT
theorem addT_mem {l:List Tk} {x y:Tk} (h:y∈addT l x):y∈l\/y=x:=by
  unfold addT at h;rcases List.mem_append.1 h with h|h
  . split at h
    . exact .inl (List.mem_of_mem_drop h)
    . exact .inl h
  . exact .inr (by simpa using h)
theorem noAg_next {s:Bk} (h:NoAg s) {k:Nat} (hk:k<8) {t o r:List UInt8} (ht:(32:UInt8)∉t) (ho:(32:UInt8)∉o) (hn:t≠agT):NoAg (doAll s (byt (cmdL k t o r))).1:=by
  intro x hx;rcases cmd_toks (s:=s) (r:=r) hk ht ho with e|⟨y,hy,e⟩
  . rw[e] at hx;exact h x hx
  . rw[e] at hx;rcases addT_mem hx with q|q
    . exact h x q
    . rw[q,hy];exact fun e=>hn (byt_inj e)
theorem agT_no:(32:UInt8)∉agT:=by decide
def Kept (L a:ByteArray) (j:Nat) (s:Bk):Prop:=∃ pre post,s.toks=pre++(⟨byt agT,L,a⟩:Tk)::post/\post.length<=j/\∀ y,y∈pre->y.t≠byt agT
theorem ag_first {s:Bk} (G:Good s) (h:NoAg s) {k:Nat} (hk:k<8) {o r:List UInt8} (ho:(32:UInt8)∉o) :
    (okS (doAll s (byt (cmdL k agT o r))).2=false/\(doAll s (byt (cmdL k agT o r))).1=s)\/(okS (doAll s (byt (cmdL k agT o r))).2=true/\Kept (byt (cmdL k agT o r)) (doAll s (byt (cmdL k agT o r))).2 0 (doAll s (byt (cmdL k agT o r))).1/\∃ l,rdLine (cmdL k agT o r)=some l):=by
  rcases e:rdLine (byt (cmdL k agT o r)).data.toList with _|l
  . rw[no_line e];exact .inl ⟨by rw[okS_an];rfl,rfl⟩
  . have e':rdLine (cmdL k agT o r)=some l:=by rw[byt_data] at e;exact e
    obtain⟨h1,h2⟩:=read_cmd hk agT_no ho e';have hf:findT s.toks l.t=none:=findT_noneA (fun x hx=>by rw[h2];exact h x hx)
    have hd:doAll s (byt (cmdL k agT o r))=if (doLn s l).2.e=0 then ({ (doLn s l).1 with toks:=addT (doLn s l).1.toks ⟨l.t,byt (cmdL k agT o r),byt (anText (doLn s l).2)⟩ },byt (anText (doLn s l).2)) else ((doLn s l).1,byt (anText (doLn s l).2)):=by rw[some_line e (om),hf]
    rcases ln_shows G (rdLine_gd e') (om) with⟨a1,a2⟩|⟨a1,_⟩
    . rw[hd,if_neg a1];exact .inl ⟨by dsimp only;rw[okS_an];simpa using a1,a2⟩
    . rw[hd,if_pos a1];refine .inr ⟨by dsimp only;rw[okS_an];simpa using a1,?_,l,e'⟩
      refine⟨if 8<=s.toks.length then s.toks.drop 1 else s.toks,[],?_,Nat.le_refl _,fun y hy=>h y (by split at hy;exact List.mem_of_mem_drop hy;exact hy)⟩
      dsimp only;rw[ln_toks,h2];rfl
theorem kept_next {L a:ByteArray} {j:Nat} {s:Bk} (h:Kept L a j s) (h8:s.toks.length<=8) (hj:j<7) {k:Nat} (hk:k<8) {t o r:List UInt8} (ht:(32:UInt8)∉t) (ho:(32:UInt8)∉o) (hn:t≠agT):Kept L a (j+1) (doAll s (byt (cmdL k t o r))).1:=by
  obtain⟨pre,post,e,hp,hq⟩:=h;rcases cmd_toks (s:=s) (r:=r) hk ht ho with q|⟨y,hy,q⟩
  . exact⟨pre,post,q.trans e,by omega,hq⟩
  . rw[e] at q h8;unfold addT at q;split at q
    . rename_i h9;simp at h8 h9;obtain⟨p,pre,rfl⟩:∃ p l,pre=p::l:=by
        cases pre with
        | nil=>simp at h9;omega
        | cons p l=>exact⟨p,l,rfl⟩
      exact⟨pre,post++[y],by rw[q];simp,by simp;omega,fun x hx=>hq x (by simp[hx])⟩
    . exact⟨pre,post++[y],by rw[q];simp,by simp;omega,hq⟩
theorem kept_find {L a:ByteArray} {j:Nat} {s:Bk} (h:Kept L a j s):findT s.toks (byt agT)=some ⟨byt agT,L,a⟩:=by
  obtain⟨pre,post,e,hp,hq⟩:=h;rw[e];exact findT_at (X:=⟨byt agT,L,a⟩) hq
theorem kept_again {a:ByteArray} {j:Nat} {s:Bk} {k:Nat} (hk:k<8) {o r:List UInt8} (ho:(32:UInt8)∉o) (h:Kept (byt (cmdL k agT o r)) a j s) (hl:∃ l,rdLine (cmdL k agT o r)=some l):doAll s (byt (cmdL k agT o r))=(s,a):=by
  obtain⟨l,e⟩:=hl;obtain⟨h1,h2⟩:=read_cmd hk agT_no ho e;rw[some_line (l:=l) (by rw[byt_data];exact e) (om),h2]
  show (match findT s.toks (byt agT) with|some x=>_|none=>_)=_
  rw[kept_find h];simp
theorem kept_other {L a:ByteArray} {j:Nat} {s:Bk} {k:Nat} (hk:k<8) {o r:List UInt8} (ho:(32:UInt8)∉o) (h:Kept L a j s) (hL:L≠byt (cmdL k agT o r)):doAll s (byt (cmdL k agT o r))=(s,byt (anText (ref 3)))\/doAll s (byt (cmdL k agT o r))=(s,byt (anText (ref 2))):=by
  rcases e:rdLine (byt (cmdL k agT o r)).data.toList with _|l
  . exact .inr (no_line e)
  . obtain⟨h1,h2⟩:=read_cmd hk agT_no ho (by rw[byt_data] at e;exact e)
    rw[some_line e (om),h2];refine .inl ?_
    show (match findT s.toks (byt agT) with|some x=>_|none=>_)=_
    rw[kept_find h];simp[hL]
theorem kept_cut {a:ByteArray} {j:Nat} {s:Bk} {k:Nat} (hk:k<8) {o r:List UInt8} (ho:(32:UInt8)∉o) (h:Kept (byt (cmdL k agT o r)) a j s):doAll s (byt (cmdL k agT o r).dropLast)=(s,byt (anText (ref 3)))\/doAll s (byt (cmdL k agT o r).dropLast)=(s,byt (anText (ref 2))):=by
  rcases List.eq_nil_or_concat r with rfl|⟨r',c,rfl⟩
  . have e:(cmdL k agT o []).dropLast=verb k++32::(agT++32::o):=by
      have:cmdL k agT o []=(verb k++32::(agT++32::o))++[32]:=by simp[cmdL]
      rw[this,List.dropLast_concat]
    rw[e];exact .inr (no_line (by rw[byt_data];exact read_short hk agT_no ho))
  . have e:cmdL k agT o (r'++[c])=cmdL k agT o r'++[c]:=by simp[cmdL]
    have e':(cmdL k agT o (r'++[c])).dropLast=cmdL k agT o r':=by rw[e,List.dropLast_concat]
    simp only[List.concat_eq_append] at h ⊢
    rw[e'];refine kept_other hk ho h (fun q=>?_)
    have:=congrArg List.length (byt_inj q)
    rw[e] at this;simp at this
theorem pair_at {α:Type} {R:α->α->Prop} {l:List α} (h:l.Pairwise R) (d:α) {k:Nat} (hk:k+1<l.length):R (l.getD k d) (l.getD (k+1) d):=by
  rw[List.getD_eq_getElem?_getD,List.getD_eq_getElem?_getD,List.getElem?_eq_getElem hk,List.getElem?_eq_getElem (om)];exact List.pairwise_iff_getElem.1 h k (k+1) (om) hk (om)
theorem getD_mem {α:Type} {l:List α} (d:α) {k:Nat} (hk:k<l.length):l.getD k d∈l:=by
  rw[List.getD_eq_getElem?_getD,List.getElem?_eq_getElem hk];exact List.getElem_mem hk
def nxL (h:Hd) (L:List Ls):Nat->Int
  | 0=>useA h.a h.n
  | k+1=>(L.getD k ls0).a+1
def nxN (st:Int) (N:List Hd):Nat->Int
  | 0=>st
  | k+1=>(N.getD k hd0).a+sz (N.getD k hd0).n
theorem use_bd {a n:Int} (h0:0<=a) (h1:a<4294967296) (hr:rt a n=true):a<=useA a n/\useZ a n<=a+sz n-1/\a+sz n<=4294967296:=by
  obtain⟨r1,r2,r3⟩:=rt_iff.1 hr;have e:a+sz n<=4294967296:=by
    obtain⟨m,hm,_⟩:=sz_whole n r1 r2;have hs:=sz_pos n;have h2:a=sz n*(a / sz n):=by have:=Int.mul_ediv_add_emod a (sz n);omega
    have h3:a / sz n<m:=by
      rcases Int.lt_or_le (a / sz n) m with q|q
      . exact q
      . exfalso
        have:=Int.mul_le_mul_of_nonneg_left q (Int.le_of_lt hs)
        omega
    have h4:sz n*(a / sz n+1)<=sz n*m:=Int.mul_le_mul_of_nonneg_left (om) (Int.le_of_lt hs)
    rw[Int.mul_add,Int.mul_one] at h4;omega
  unfold useA useZ lst;split<;>exact⟨by omega,by omega,e⟩
theorem lease_next {s:Bk} (G:Good s) {h:Hd} (hh:h∈s.nets) {k:Nat} (hk:k<(leasesOf s.leases h.a h.n).length) :
    nxL h (leasesOf s.leases h.a h.n) k<=((leasesOf s.leases h.a h.n).getD k ls0).a/\((leasesOf s.leases h.a h.n).getD k ls0).a<=useZ h.a h.n/\0<=((leasesOf s.leases h.a h.n).getD k ls0).a/\((leasesOf s.leases h.a h.n).getD k ls0).a<4294967296:=by
  have hm:=getD_mem ls0 hk;obtain⟨m1,m2⟩:=List.mem_filter.1 hm;have hu:=use_of G hh m1 m2;obtain⟨g1,g2,g3,_⟩:=G.nr h hh;have hb:=use_bd g1 g2 g3;refine⟨?_,hu.2,by omega,by omega⟩
  cases k with
  | zero=>exact hu.1
  | succ k =>
    have hp:(leasesOf s.leases h.a h.n).Pairwise fun x y=>x.a<y.a:=G.lp.filter _
    have:=pair_at hp ls0 hk
    show (List.getD _ k ls0).a+1<=_
    omega
theorem net_next {s:Bk} (G:Good s) {p:Hd} (hp:p∈s.pools) {k:Nat} (hk:k<(netsOf s.nets p.a p.n).length) :
    nxN p.a (netsOf s.nets p.a p.n) k<=((netsOf s.nets p.a p.n).getD k hd0).a/\((netsOf s.nets p.a p.n).getD k hd0).a+sz ((netsOf s.nets p.a p.n).getD k hd0).n<=p.a+sz p.n/\((netsOf s.nets p.a p.n).getD k hd0)∈s.nets:=by
  have hm:=getD_mem hd0 hk;obtain⟨m1,m2⟩:=List.mem_filter.1 hm;obtain⟨g1,g2,g3,_⟩:=G.nr _ m1;obtain⟨q1,q2,q3⟩:=G.pr p hp;obtain⟨i1,i2,i3⟩:=(inn_in g3 q3).1 m2
  refine⟨?_,i3,m1⟩
  cases k with
  | zero=>exact i2
  | succ k =>
    have hw:(netsOf s.nets p.a p.n).Pairwise fun x y=>x.a+sz x.n<=y.a:=G.np.filter _
    exact pair_at hw hd0 hk
theorem pool_next {s:Bk} (G:Good s) {k:Nat} (hk:k<s.pools.length):nxN 0 s.pools k<=(s.pools.getD k hd0).a/\s.pools.getD k hd0∈s.pools:=by
  have hm:=getD_mem hd0 hk;refine⟨?_,hm⟩
  cases k with
  | zero=>exact(G.pr _ hm).1
  | succ k=>exact pair_at G.pp hd0 hk
def xT:List UInt8:=[120]
def rowP (h:Hd):List UInt8:=cmdL 0 xT h.o.data.toList (bText h.a h.n)
def rowN (h:Hd):List UInt8:=cmdL 3 xT h.o.data.toList (bText h.a h.n)
def rowL (l:Ls):List UInt8:=cmdL 6 xT l.o.data.toList (dot l.a.toNat)
def rowT (x:Tk):List UInt8:=x.l.data.toList++61::x.r.data.toList
def rowsC (s:Bk):List (List UInt8):=s.pools.map rowP++s.nets.map rowN++s.leases.map rowL
def rowsS (s:Bk):List (List UInt8):=rowsC s++s.toks.map rowT
def snapT (s:Bk):List UInt8:=(rowsS s).flatMap fun r=>r++[10]
def TkOk (x:Tk):Prop:=(∃ l,rdLine x.l.data.toList=some l/\l.v<8/\l.t=x.t)/\(61:UInt8)∉x.l.data.toList/\(10:UInt8)∉x.l.data.toList/\(0:UInt8)∉x.l.data.toList/\(10:UInt8)∉x.r.data.toList/\(0:UInt8)∉x.r.data.toList/\x.l.size<=100/\x.r.size<=40
def own3 (k:Nat):List UInt8:=if k%3=0 then annT else if k%3=1 then bobT else cyT
def fst1 (n:Int):Int:=if n<=30 then B0+1 else B0
def fitL (n:Int):Nat:=if n<=30 then (sz n).toNat-2 else (sz n).toNat
def lsn (n:Int) (i:Nat):List Ls:=(List.range i).map fun (j:Nat)=>(⟨fst1 n+(j:Int),bA (own3 j)⟩:Ls)
def eqL (x y:Ls):Bool:=decide (x.a=y.a)&&decide (x.o=y.o)
def eqLs:List Ls->List Ls->Bool
  | [],[]=>true
  | x::r,y::q=>eqL x y&&eqLs r q
  | _,_=>false
theorem eqL_eq {x y:Ls} (h:eqL x y=true):x=y:=by
  unfold eqL at h;simp only[Bool.and_eq_true,decide_eq_true_eq] at h
  cases x;cases y;simp_all
theorem eqLs_eq:∀ {l q:List Ls},eqLs l q=true->l=q
  | [],[],_=>rfl
  | [],_::_,h=>by simp[eqLs] at h
  | _::_,[],h=>by simp[eqLs] at h
  | x::r,y::q,h=>by
    simp only[eqLs,Bool.and_eq_true] at h
    rw[eqL_eq h.1,eqLs_eq h.2]
def chkL (n:Int) (i:Nat):Bool :=
  decide (least (lsn n i) B0 n=some (fst1 n+(i:Int)))&&eqLs (insL (lsn n i) ⟨fst1 n+(i:Int),bA (own3 i)⟩) (lsn n (i+1))&&decide ((lsn n i).length<40) &&
  decide (spanH [⟨B0,n,bA annT⟩] (fst1 n+(i:Int)) 32=0)&&decide (useA B0 n<=fst1 n+(i:Int))&&decide (fst1 n+(i:Int)<=useZ B0 n) &&
  hasL (lsn n (fitL n)) (fst1 n+(i:Int))&&decide (cntL (lsn n (fitL n)) (fst1 n+(i:Int))=i)&&decide (((lsn n (fitL n)).getD i ls0).o=bA (own3 i)) &&
  decide (least (delAt (lsn n (fitL n)) i) B0 n=some (fst1 n+(i:Int)))&&decide ((delAt (lsn n (fitL n)) i).length<40) &&
  decide (0<(leasesOf (insL (delAt (lsn n (fitL n)) i) ⟨fst1 n+(i:Int),bA bobT⟩) B0 n).length)
def chkLs (n:Int):Bool:=(List.range (fitL n)).all (fun i=>chkL n i)&&decide (least (lsn n (fitL n)) B0 n=none)&&decide (findH [⟨B0,n,bA annT⟩] B0 n=0)&&decide (spanH (fP 24) B0 n=0)&&decide (fitL n<=30)&&decide (1<=fitL n)
set_option maxRecDepth 100000 in
theorem chkL_fin:∀ n:Fin 6,chkLs ((27+(n:Nat):Nat):Int)=true:=by decide +kernel
structure Le (n:Int):Prop where
  one:∀ i,i<fitL n->least (lsn n i) B0 n=some (fst1 n+(i:Int))/\insL (lsn n i) ⟨fst1 n+(i:Int),bA (own3 i)⟩=lsn n (i+1)/\(lsn n i).length<40
  take:∀ i,i<fitL n->spanH [⟨B0,n,bA annT⟩] (fst1 n+(i:Int)) 32=0/\useA B0 n<=fst1 n+(i:Int)/\fst1 n+(i:Int)<=useZ B0 n/\hasL (lsn n (fitL n)) (fst1 n+(i:Int))=true/\cntL (lsn n (fitL n)) (fst1 n+(i:Int))=i/\((lsn n (fitL n)).getD i ls0).o=bA (own3 i)
  back:∀ i,i<fitL n->least (delAt (lsn n (fitL n)) i) B0 n=some (fst1 n+(i:Int))/\(delAt (lsn n (fitL n)) i).length<40/\0<(leasesOf (insL (delAt (lsn n (fitL n)) i) ⟨fst1 n+(i:Int),bA bobT⟩) B0 n).length
  full:least (lsn n (fitL n)) B0 n=none
  net:findH [⟨B0,n,bA annT⟩] B0 n=0
  pool:spanH (fP 24) B0 n=0
  le:fitL n<=30
  pos:1<=fitL n
theorem le_of {n:Int} (h:chkLs n=true):Le n:=by
  unfold chkLs at h;simp only[Bool.and_eq_true,decide_eq_true_eq,List.all_eq_true,List.mem_range] at h
  obtain⟨⟨⟨⟨⟨h1,h2⟩,h3⟩,h4⟩,h5⟩,h6⟩:=h;have hc:∀ i,i<fitL n->_:=fun i hi=>by
    have:=h1 i hi
    unfold chkL at this;simp only[Bool.and_eq_true,decide_eq_true_eq] at this
    exact this
  refine⟨fun i hi=>?_,fun i hi=>?_,fun i hi=>?_,h2,h3,h4,h5,h6⟩
  . obtain⟨⟨⟨⟨⟨⟨⟨⟨⟨⟨⟨a1,a2⟩,a3⟩,a4⟩,a5⟩,a6⟩,a7⟩,a8⟩,a9⟩,b1⟩,b2⟩,b3⟩:=hc i hi;exact⟨a1,eqLs_eq a2,a3⟩
  . obtain⟨⟨⟨⟨⟨⟨⟨⟨⟨⟨⟨a1,a2⟩,a3⟩,a4⟩,a5⟩,a6⟩,a7⟩,a8⟩,a9⟩,b1⟩,b2⟩,b3⟩:=hc i hi;exact⟨a4,a5,a6,a7,a8,a9⟩
  . obtain⟨⟨⟨⟨⟨⟨⟨⟨⟨⟨⟨a1,a2⟩,a3⟩,a4⟩,a5⟩,a6⟩,a7⟩,a8⟩,a9⟩,b1⟩,b2⟩,b3⟩:=hc i hi;exact⟨b1,b2,b3⟩
theorem le_any (n:Nat) (h0:27<=n) (h1:n<=32):Le (n:Int):=by
  have h:=chkL_fin ⟨n-27,by omega⟩
  simp only[show 27+(n-27)=n by omega] at h
  exact le_of h
def lN (n:Int):List Hd:=[⟨B0,n,bA annT⟩]
theorem lease_block {n:Int} (L:Le n) (h0:27<=n) (t:List UInt8) (T:List Tk):doLn ⟨fP 24,[],[],T⟩ (lnB 3 t annT B0 n)=(⟨fP 24,lN n,[],T⟩,okA):=by
  show doBlock _ _=_
  unfold doBlock lnB;dsimp only;rw[if_neg (om),L.pool,if_neg (om)];rfl
theorem lease_one {n:Int} (L:Le n) (i:Nat) (hi:i<fitL n) (t:List UInt8) (T:List Tk):doLn ⟨fP 24,lN n,lsn n i,T⟩ (lnB 5 t (own3 i) B0 n)=(⟨fP 24,lN n,lsn n (i+1),T⟩,tell1 (bA (dot (fst1 n+(i:Int)).toNat))):=by
  obtain⟨h1,h2,h3⟩:=L.one i hi;show doLease _ _=_
  unfold doLease lnB;dsimp only;have hn:findH (lN n) B0 n=0:=L.net
  rw[hn,if_neg (om),h1];dsimp only;rw[if_neg (om)];show (Bk.mk _ _ (insL (lsn n i) ⟨fst1 n+(i:Int),bA (own3 i)⟩) _,_)=_
  rw[h2];rfl
theorem lease_fullL {n:Int} (L:Le n) (t o:List UInt8) (T:List Tk):doLn ⟨fP 24,lN n,lsn n (fitL n),T⟩ (lnB 5 t o B0 n)=(⟨fP 24,lN n,lsn n (fitL n),T⟩,ref 10):=by
  show doLease _ _=_
  unfold doLease lnB;dsimp only;have hn:findH (lN n) B0 n=0:=L.net
  rw[hn,if_neg (om),L.full]
theorem lease_taken {n:Int} (L:Le n) (i:Nat) (hi:i<fitL n) (t o:List UInt8) (T:List Tk):doLn ⟨fP 24,lN n,lsn n (fitL n),T⟩ { lnB 6 t o 0 0 with d:=fst1 n+(i:Int) }=(⟨fP 24,lN n,lsn n (fitL n),T⟩,ref 13):=by
  obtain⟨h1,h2,h3,h4,h5,h6⟩:=L.take i hi;show doTake _ _=_
  unfold doTake lnB;dsimp only;have hs:spanH (lN n) (fst1 n+(i:Int)) 32=0:=h1
  rw[hs,if_neg (om)];show (if fst1 n+(i:Int)<useA B0 n\/useZ B0 n<fst1 n+(i:Int) then _ else _)=_
  rw[if_neg (om),if_pos h4]
theorem lease_owner {n:Int} (L:Le n) (i:Nat) (hi:i<fitL n) (t o:List UInt8) (T:List Tk) (ho:o≠own3 i):doLn ⟨fP 24,lN n,lsn n (fitL n),T⟩ { lnB 7 t o 0 0 with d:=fst1 n+(i:Int) }=(⟨fP 24,lN n,lsn n (fitL n),T⟩,ref 8):=by
  obtain⟨h1,h2,h3,h4,h5,h6⟩:=L.take i hi;show doGive _ _=_
  unfold doGive lnB;dsimp only;rw[if_pos h4,h5,h6,if_pos];intro e;apply ho
  have:=congrArg (fun x:ByteArray=>x.data.toList) e
  simpa[bA] using this.symm
theorem lease_give {n:Int} (L:Le n) (i:Nat) (hi:i<fitL n) (t:List UInt8) (T:List Tk):doLn ⟨fP 24,lN n,lsn n (fitL n),T⟩ { lnB 7 t (own3 i) 0 0 with d:=fst1 n+(i:Int) }=(⟨fP 24,lN n,delAt (lsn n (fitL n)) i,T⟩,okA):=by
  obtain⟨h1,h2,h3,h4,h5,h6⟩:=L.take i hi;show doGive _ _=_
  unfold doGive lnB;dsimp only;rw[if_pos h4,h5,h6,if_neg (by simp[bA])]
theorem lease_again {n:Int} (L:Le n) (i:Nat) (hi:i<fitL n) (t:List UInt8) (T:List Tk):doLn ⟨fP 24,lN n,delAt (lsn n (fitL n)) i,T⟩ (lnB 5 t bobT B0 n)=(⟨fP 24,lN n,insL (delAt (lsn n (fitL n)) i) ⟨fst1 n+(i:Int),bA bobT⟩,T⟩,tell1 (bA (dot (fst1 n+(i:Int)).toNat))):=by
  obtain⟨h1,h2,h3⟩:=L.back i hi;show doLease _ _=_
  unfold doLease lnB;dsimp only;have hn:findH (lN n) B0 n=0:=L.net
  rw[hn,if_neg (om),h1];dsimp only;rw[if_neg (om)];rfl
theorem lease_busy {n:Int} (L:Le n) (i:Nat) (hi:i<fitL n) (t:List UInt8) (T:List Tk):doLn ⟨fP 24,lN n,insL (delAt (lsn n (fitL n)) i) ⟨fst1 n+(i:Int),bA bobT⟩,T⟩ (lnB 4 t annT B0 n)=(⟨fP 24,lN n,insL (delAt (lsn n (fitL n)) i) ⟨fst1 n+(i:Int),bA bobT⟩,T⟩,ref 9):=by
  obtain⟨h1,h2,h3⟩:=L.back i hi;show doFree _ _=_
  unfold doFree lnB;dsimp only;have hn:findH (lN n) B0 n=0:=L.net
  rw[hn,if_neg (om)];show (if bA annT≠bA annT then _ else _)=_
  rw[if_neg (by simp),if_pos (fun e=>by rw[e] at h3;simp at h3)]
def tkT (n:Nat):List UInt8:=116::b36 n
theorem tkT_no (c:UInt8) (n:Nat):(32:UInt8)∉c::b36 n\/c=32:=by
  by_cases h:c=32
  . exact .inr h
  . refine .inl fun q=>?_
    rcases List.mem_cons.1 q with e|e
    . exact h e.symm
    . have:=b36_all n _ e
      simp at this
theorem tkT_blank (n:Nat):(32:UInt8)∉tkT n:=(tkT_no 116 n).resolve_right (by decide)
theorem tkT_inj {a b:Nat} (h:tkT a=tkT b):a=b:=b36_inj (List.cons.inj h).2
def Frsh (n:Nat) (s:Bk):Prop:=∀ x,x∈s.toks->∃ j,j<n/\x.t=byt (tkT j)
theorem frsh_next {n:Nat} {s:Bk} (h:Frsh n s) {k:Nat} (hk:k<8) {o r:List UInt8} (ho:(32:UInt8)∉o):Frsh (n+1) (doAll s (byt (cmdL k (tkT n) o r))).1:=by
  intro x hx;rcases cmd_toks (s:=s) (r:=r) hk (tkT_blank n) ho with e|⟨y,hy,e⟩
  . rw[e] at hx;obtain⟨j,q1,q2⟩:=h x hx;exact⟨j,by omega,q2⟩
  . rw[e] at hx;rcases addT_mem hx with q|q
    . obtain⟨j,q1,q2⟩:=h x q;exact⟨j,by omega,q2⟩
    . exact⟨n,by omega,by rw[q,hy]⟩
theorem or_step {n:Nat} {s:Bk} (G:Good s) (h:Frsh n s) {k:Nat} (hk:k<8) {o r:List UInt8} (ho:(32:UInt8)∉o) :
    okS (doAll s (byt (cmdL k (tkT n) o r))).2=decide (toldS (doAll s (byt (cmdL k (tkT n) o r))).1≠toldS s):=by
  rcases e:rdLine (byt (cmdL k (tkT n) o r)).data.toList with _|l
  . rw[no_line e,okS_an];simp[ref]
  . have e':rdLine (cmdL k (tkT n) o r)=some l:=by rw[byt_data] at e;exact e
    obtain⟨h1,h2⟩:=read_cmd hk (tkT_blank n) ho e'
    have hf:findT s.toks l.t=none:=findT_noneA (fun x hx q=>by
      obtain⟨j,q1,q2⟩:=h x hx;rw[h2] at q;have:=tkT_inj (byt_inj (q2.symm.trans q))
      omega)
    rw[some_line e (om),hf];dsimp only;rcases ln_shows G (rdLine_gd e') (om) with⟨a1,a2⟩|⟨a1,a2⟩
    . rw[if_neg a1];dsimp only;rw[okS_an,a2];simp[a1]
    . rw[if_pos a1];dsimp only;rw[okS_an];have e3:toldS { (doLn s l).1 with toks:=addT (doLn s l).1.toks ⟨l.t,byt (cmdL k (tkT n) o r),byt (anText (doLn s l).2)⟩ }=toldS (doLn s l).1:=rfl
      rw[e3];simp[a1,a2]
end Go.Proofs.YtjnhhnbgjjkkjaaGreatDoor
