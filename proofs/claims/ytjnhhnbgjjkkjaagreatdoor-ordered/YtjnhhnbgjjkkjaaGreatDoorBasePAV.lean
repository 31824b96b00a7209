/-
  BkRe
-/
import Derived.Test.YtjnhhnbgjjkkjaaGreatDoorBasePAA
import Derived.Test.YtjnhhnbgjjkkjaaGreatDoorBasePAU
namespace Go.Proofs.YtjnhhnbgjjkkjaaGreatDoor
open Go.ChangeShapes Go.WideShapes Go.ChangeAt Go.RowKit
set_option linter.unusedVariables false
set_option linter.unusedSimpArgs false
theorem cps_nil (l:Ln) (k:Nat):cps l (List.replicate k 0) []=some l:=by
  cases k<;>simp[cps,List.replicate_succ]
theorem cps_eq (k:Nat):∀ (ps:List Nat) (ws:List (List UInt8)) (l:Ln),(∀ p,p∈ps->p≠0)->ws.length<=ps.length+k->cps l (ps++List.replicate k 0) ws=rdParts l ps ws
  | [],[],l,_,_=>by rw[List.nil_append,cps_nil];rfl
  | [],w::ws,l,_,h=>by
    obtain⟨k,rfl⟩:∃ q,k=q+1:=⟨k-1,by simp at h;omega⟩
    rw[List.nil_append,List.replicate_succ];rfl
  | p::ps,[],l,hp,_=>by
    have:=hp p (by simp)
    simp[cps,rdParts,this]
  | p::ps,w::ws,l,hp,h=>by
    rw[List.cons_append];simp only[cps,rdParts]
    rcases rdPart l p w with _|l'
    . rfl
    . exact cps_eq k ps ws l' (fun q hq=>hp q (by simp[hq])) (by simp at h;omega)
theorem rdParts_len:∀ (ps:List Nat) (ws:List (List UInt8)) (l l':Ln),rdParts l ps ws=some l'->ws.length=ps.length
  | [],[],_,_,_=>rfl
  | [],_::_,l,l',h=>by simp[rdParts] at h
  | _::_,[],l,l',h=>by simp[rdParts] at h
  | p::ps,w::ws,l,l',h=>by
    rw[rdParts] at h;split at h
    . have:=rdParts_len ps ws _ l' h
      simp[this]
    . cases h
def fmP (v j:Nat):Nat:=(form v).getD j 0
theorem form_pad (v:Nat) (h:v<11):[fmP v 0,fmP v 1,fmP v 2,fmP v 3]=form v++List.replicate (4-(form v).length) 0/\(∀ p,p∈form v->p≠0)/\(form v).length<=4/\fmP v 0<=5/\fmP v 1<=5/\fmP v 2<=5/\fmP v 3<=5:=by
  have:∀ v:Fin 11,[fmP v 0,fmP v 1,fmP v 2,fmP v 3]=form v++List.replicate (4-(form v).length) 0/\(∀ p,p∈form v->p≠0)/\(form v).length<=4/\fmP v 0<=5/\fmP v 1<=5/\fmP v 2<=5/\fmP v 3<=5:=by decide +kernel
  exact this ⟨v,h⟩
theorem form_cells (v:Nat) (h:v<11):formsC[v*5+1]?=some (.int .i64 (fmP v 0))/\formsC[v*5+2]?=some (.int .i64 (fmP v 1))/\formsC[v*5+3]?=some (.int .i64 (fmP v 2))/\formsC[v*5+4]?=some (.int .i64 (fmP v 3)):=by
  have hc:v=0\/v=1\/v=2\/v=3\/v=4\/v=5\/v=6\/v=7\/v=8\/v=9\/v=10:=by omega
  rcases hc with rfl|rfl|rfl|rfl|rfl|rfl|rfl|rfl|rfl|rfl|rfl<;>exact⟨rfl,rfl,rfl,rfl⟩
theorem cps_form (v:Nat) (h:v<11) (ws:List (List UInt8)) (hw:ws.length<=4) (l:Ln):cps l [fmP v 0,fmP v 1,fmP v 2,fmP v 3] ws=rdParts l (form v) ws:=by
  obtain⟨h1,h2,h3,_⟩:=form_pad v h;rw[h1];exact cps_eq _ _ _ _ h2 (om)
def rlC (s:ByteArray):Ln:=(rdLine s.data.toList).getD (ln0 0)
def rlOk (s:ByteArray):Bool:=(rdLine s.data.toList).isSome
theorem lread_any (s:ByteArray) (w:World) (E:EnvT w) (hZ:10<=w.heap.size) :
    Calls Tryz.prog 38 #[.string s] w fun e w'=>e=.returned (.tuple #[.agg (lnC (rlC s)),.bool (rlOk s)])/\Below w.heap.size w w':=by
  have hl:=Lib.size_eq s;by_cases hs:s.size<=100
  . obtain⟨LL,hLL⟩:∃ L:List ByteArray,L.map (fun x=>x.data.toList)=parts 32 s.data.toList/\∀ W,Env W->Calls Tryz.prog 58 #[.string s,.string ⟨#[32]⟩] W fun e w'=>e=.returned (.slice (some ⟨W.heap.size,0,none⟩) L.length L.length)/\w'=W.alloc (.cells (L.map Value.string).toArray 9):=by
      refine⟨(parts 32 s.data.toList).map bs,by rw[List.map_map];exact(List.map_congr_left fun x _=>bs_data x).trans (List.map_id _),fun W EW=>?_⟩
      refine(split_any s W EW (om)).mono ?_
      rintro e w' ⟨L,h1,rfl,rfl⟩
      have h2:L=(parts 32 s.data.toList).map bs:=by
        rw[<- h1,List.map_map];exact((List.map_congr_left fun x _=>(bs_of x)).trans (List.map_id _)).symm
      rw[<- h2];exact⟨rfl,rfl⟩
    obtain⟨hmap,hsp⟩:=hLL;obtain⟨s0,Lr,rfl⟩:∃ s0 Lr,LL=s0::Lr:=by
      rcases LL with _|⟨a,b⟩
      . have:=parts_pos 32 s.data.toList
        rw[<- hmap] at this;simp at this
      . exact⟨a,b,rfl⟩
    have hpt:parts 32 s.data.toList=s0.data.toList::Lr.map (fun x=>x.data.toList):=by rw[<- hmap];rfl
    have hrl:rdLine s.data.toList=if fi (fun v=>v==s0.data.toList) verbT<0 then none else rdParts (ln0 (fi (fun v=>v==s0.data.toList) verbT).toNat) (form (fi (fun v=>v==s0.data.toList) verbT).toNat) (Lr.map (fun x=>x.data.toList)):=by
      unfold rdLine;rw[if_pos (om),hpt]
    have hsz:∀ k,(Lr.getD k ⟨#[]⟩).size<=2097152:=fun k=>by
      have h1:=part_len 32 s.data.toList (k+1)
      rw[hpt] at h1;have h2:((s0.data.toList::Lr.map (fun x=>x.data.toList)).getD (k+1) [])=(Lr.getD k ⟨#[]⟩).data.toList:=by
        simp only[List.getD_cons_succ]
        rw[List.getD_eq_getElem?_getD,List.getD_eq_getElem?_getD,List.getElem?_map];rcases Lr[k]? with _|x<;>rfl
      rw[h2] at h1;have h3:=Lib.size_eq (Lr.getD k ⟨#[]⟩)
      omega
    have ROWd:∃ ROW:World->Prop,ROW=fun w1=>∀ k,k<Lr.length->w1.cell? ⟨w.heap.size+1,k+1,none⟩=some (.string (Lr.getD k ⟨#[]⟩)):=⟨_,rfl⟩
    obtain⟨ROW,hROW⟩:=ROWd;have hb0:Below w.heap.size w (w.alloc (.cells #[.int .i64 0,.string ⟨#[]⟩,.string ⟨#[]⟩,.int .u32 0,.int .i64 0,.int .u32 0,.int .i64 0] 93)):=(upB)
    have HS:Hid (Calls Tryz.prog 58 #[.string s,.string ⟨#[32]⟩] (w.alloc (.cells #[.int .i64 0,.string ⟨#[]⟩,.string ⟨#[]⟩,.int .u32 0,.int .i64 0,.int .u32 0,.int .i64 0] 93)) fun e w1=>e=.returned (.slice (some ⟨w.heap.size+1,0,none⟩) (Lr.length+1) (Lr.length+1))/\w1.cell? ⟨w.heap.size+1,0,none⟩=some (.string s0)/\w.heap.size+1<w1.heap.size/\Blk w1 w.heap.size #[.int .i64 0,.string ⟨#[]⟩,.string ⟨#[]⟩,.int .u32 0,.int .i64 0,.int .u32 0,.int .i64 0] 93/\Below w.heap.size w w1/\ROW w1):=by
      refine(hsp _ (E.env.mono hb0)).mono ?_
      rintro e w1 ⟨rfl,rfl⟩
      have hz:(w.alloc (.cells #[.int .i64 0,.string ⟨#[]⟩,.string ⟨#[]⟩,.int .u32 0,.int .i64 0,.int .u32 0,.int .i64 0] 93)).heap.size=w.heap.size+1:=by simp
      have B:=Blk.new (w.alloc (.cells #[.int .i64 0,.string ⟨#[]⟩,.string ⟨#[]⟩,.int .u32 0,.int .i64 0,.int .u32 0,.int .i64 0] 93)) ((s0::Lr).map Value.string).toArray 9
      rw[hz] at B;refine⟨by rw[hz];rfl,B.cell 0,by simp,(Blk.new w _ _).below (upB),(upB),?_⟩
      rw[hROW];intro k hk;rw[B.cell (k+1)];simp[List.getD_eq_getElem?_getD,List.getElem?_eq_getElem hk]
    have hW0:∀ W,Below w.heap.size w W->EnvT W:=fun W hW=>E.mono hW
    have hvb:∀ W,Below w.heap.size w W->_:=fun W hW=>readVerb_any s0 W (E.mono hW)
    by_cases hneg:fi (fun v=>v==s0.data.toList) verbT<0
    . rw[if_pos hneg] at hrl;have e1:rlC s=ln0 0:=by unfold rlC;rw[hrl];rfl
      have e2:rlOk s=false:=by unfold rlOk;rw[hrl];rfl
      rw[e1,e2];refine read_unknown s w (Lr.length+1) (om) s0 hs ROW E.lf HS fun W hW=>?_
      have:=hvb W hW
      rw[if_pos hneg,decide_eq_true hneg] at this;exact this
    . rw[if_neg hneg] at hrl;obtain⟨v,hv11,hv⟩:∃ v:Nat,v<11/\fi (fun v=>v==s0.data.toList) verbT=(v:Int):=by
        rcases fi_cases (fun v=>v==s0.data.toList) verbT [] with⟨q,_⟩|⟨k,hk,q,_,_⟩
        . rw[q] at hneg;omega
        . exact⟨k,hk,q⟩
      rw[hv,Int.toNat_natCast] at hrl;have HV:Hid (∀ W,Below w.heap.size w W->Calls Tryz.prog 59 #[.string s0] W fun e w'=>e=.returned (.tuple #[.int .i64 v,.bool true])/\Below W.heap.size W w'):=fun W hW=>by
        have:=hvb W hW
        rw[if_neg hneg,decide_eq_false hneg,hv] at this;exact this
      obtain⟨c0,c1,c2,c3⟩:=form_cells v hv11;have HF:Hid (w.cell? ⟨0,v*5+1,none⟩=some (.int .i64 (fmP v 0))/\w.cell? ⟨0,v*5+2,none⟩=some (.int .i64 (fmP v 1))/\w.cell? ⟨0,v*5+3,none⟩=some (.int .i64 (fmP v 2))/\w.cell? ⟨0,v*5+4,none⟩=some (.int .i64 (fmP v 3))) :=
        ⟨E.fm _ _ c0,E.fm _ _ c1,E.fm _ _ c2,E.fm _ _ c3⟩
      obtain⟨_,_,hf4,hpp⟩:=form_pad v hv11;obtain⟨ln,hln⟩:∃ ln,ln=ln0 v:=⟨_,rfl⟩
      have hP:∀ (ba:Option Addr) (hbb:0<Lr.length->ba=some ⟨w.heap.size+1,1,none⟩) (w1 w2:World),ROW w1->w.heap.size+1<w1.heap.size->Below w.heap.size w w1->Below w1.heap.size w1 w2 ->
          Calls Tryz.prog 60 #[.pointer (some ⟨w2.heap.size,0,none⟩),.agg #[.int .i64 (fmP v 0),.int .i64 (fmP v 1),.int .i64 (fmP v 2),.int .i64 (fmP v 3)],.slice ba Lr.length Lr.length] (w2.alloc (.cells #[.int .i64 v,.string ⟨#[]⟩,.string ⟨#[]⟩,.int .u32 0,.int .i64 0,.int .u32 0,.int .i64 0] 93)).drew fun e w' =>
            e=.returned (.bool (rlOk s))/\(∀ l',rdLine s.data.toList=some l'->Blk w' w2.heap.size (lnC l') 93)/\Chg (fun b=>b=w2.heap.size) (w2.alloc (.cells #[.int .i64 v,.string ⟨#[]⟩,.string ⟨#[]⟩,.int .u32 0,.int .i64 0,.int .u32 0,.int .i64 0] 93)) w':=by
        intro ba hbb w1 w2 hr hz1 hb1 hb2;have hq:=hb1.trans (hb2.mono hb1.size)
        have hzq:=hq.size;have hz2:=hb2.size;have hWb:Below w2.heap.size w2 (w2.alloc (.cells #[.int .i64 v,.string ⟨#[]⟩,.string ⟨#[]⟩,.int .u32 0,.int .i64 0,.int .u32 0,.int .i64 0] 93)).drew:=(upB)
        have hWd:Below (w2.alloc (.cells #[.int .i64 v,.string ⟨#[]⟩,.string ⟨#[]⟩,.int .u32 0,.int .i64 0,.int .u32 0,.int .i64 0] 93)).heap.size (w2.alloc (.cells #[.int .i64 v,.string ⟨#[]⟩,.string ⟨#[]⟩,.int .u32 0,.int .i64 0,.int .u32 0,.int .i64 0] 93)) (w2.alloc (.cells #[.int .i64 v,.string ⟨#[]⟩,.string ⟨#[]⟩,.int .u32 0,.int .i64 0,.int .u32 0,.int .i64 0] 93)).drew:=(upB)
        by_cases h4:Lr.length<=4
        . refine(readParts_go w2.heap.size (w.heap.size+1) Lr.length Lr.length ba hbb Lr rfl h4 (fmP v 0) (fmP v 1) (fmP v 2) (fmP v 3) hpp (ln0 v) _ ((E.env.mono hq).mono hWb) (fun b e=>by omega) ?_ (by have:=hWb.size;omega) (om) (fun k hk=>?_) hsz).mono ?_
          . exact(Blk.new w2 _ _).below hWd
          . rw[hROW] at hr;have hrk:=hr k hk;exact(hWb.cell (p:=⟨w.heap.size+1,k+1,none⟩) (by show w.heap.size+1 < _;omega)).trans ((hb2.cell (p:=⟨w.heap.size+1,k+1,none⟩) (by show w.heap.size+1 < _;omega)).trans hrk)
          . rintro e w' ⟨rfl,h1,h2⟩
            rw[cps_form v hv11 _ (by rw[List.length_map];exact h4),<- hrl] at h1 ⊢
            exact⟨rfl,h1,(Chg.below hWd).trans h2 (fun b e=>.inl e)⟩
        . refine(readParts_many w2.heap.size 0 Lr.length Lr.length h4 (fmP v 0) (fmP v 1) (fmP v 2) (fmP v 3) ba _).mono ?_
          rintro e w' ⟨rfl,hb⟩
          have hno:rdLine s.data.toList=none:=by
            rcases e:rdLine s.data.toList with _|l'
            . rfl
            . rw[hrl] at e;have:=rdParts_len _ _ _ _ e
              rw[List.length_map] at this;omega
          refine⟨by unfold rlOk;rw[hno];rfl,fun l' e=>(by rw[hno] at e;cases e),?_⟩
          exact(Chg.below hWd).trans (Chg.below (S:=fun b=>b=w2.heap.size) hb) (fun b e=>.inl e)
      rcases hres:rdLine s.data.toList with _|l'
      . have e1:rlC s=ln0 0:=by unfold rlC;rw[hres];rfl
        have e2:rlOk s=false:=by unfold rlOk;rw[hres];rfl
        rw[e1,e2];rw[e2] at hP;by_cases h1:Lr=[]
        . subst h1;exact read_bad1 s w s0 hs ROW v _ _ _ _ hv11 E.lf HF HS HV fun w1 w2 a b c d=>(hP _ (fun q=>absurd q (by simp)) w1 w2 a b c d).mono fun e w' q=>⟨q.1,q.2.2⟩
        . have hpos:0<Lr.length:=List.length_pos_iff.2 h1
          exact read_bad s w (Lr.length+1) (om) (om) s0 hs ROW v _ _ _ _ hv11 E.lf HF HS HV fun w1 w2 a b c d=>(hP _ (fun _=>rfl) w1 w2 a b c d).mono fun e w' q=>⟨q.1,q.2.2⟩
      . have e1:rlC s=l':=by unfold rlC;rw[hres];rfl
        have e2:rlOk s=true:=by unfold rlOk;rw[hres];rfl
        rw[e1,e2];rw[e2] at hP;by_cases h1:Lr=[]
        . subst h1;exact read_good1 s w s0 hs ROW v _ _ _ _ hv11 E.lf HF HS HV l' fun w1 w2 a b c d=>(hP _ (fun q=>absurd q (by simp)) w1 w2 a b c d).mono fun e w' q=>⟨q.1,q.2.1 l' hres,q.2.2⟩
        . have hpos:0<Lr.length:=List.length_pos_iff.2 h1
          exact read_good s w (Lr.length+1) (om) (om) s0 hs ROW v _ _ _ _ hv11 E.lf HF HS HV l' fun w1 w2 a b c d=>(hP _ (fun _=>rfl) w1 w2 a b c d).mono fun e w' q=>⟨q.1,q.2.1 l' hres,q.2.2⟩
  . have hno:rdLine s.data.toList=none:=by unfold rdLine;rw[if_neg (om)]
    have e1:rlC s=ln0 0:=by unfold rlC;rw[hno];rfl
    have e2:rlOk s=false:=by unfold rlOk;rw[hno];rfl
    rw[e1,e2];exact read_long s w (om)
end Go.Proofs.YtjnhhnbgjjkkjaaGreatDoor
