import Derived.Conc.LoneSelect
import Derived.Conc.LoneSelectN
import Derived.Test.YtjnhhnbgjjkkjaaGreatDoorRePAB
set_option linter.all false
set_option maxRecDepth 100000
set_option maxHeartbeats 2000000
namespace Go.Proofs.YtjnhhnbgjjkkjaaGreatDoor
open Go.Conc Go.RowKit
def wpN(P:Program)(c:Code)(Q:Exit->Act->World->Prop)(a:Act)(w:World):Prop :=
 ∀ (b:Frame) (k:List Item) (cs:List Frame),b.kind≠.early->∃ e a' w',Q e a' w'/\Arrives P (lone (b.at a (.code c::k)) cs w) b k cs e a' w'
def rgN(P:Program)(ops:Array Oper)(Q:Exit->Act->World->Prop)(l:List Nat)(a:Act)(w:World):Prop :=
 ∀ (b:Frame) (k:List Item) (cs:List Frame),b.kind≠.early->∃ e a' w',Q e a' w'/\Arrives P (lone (b.at a (.inRegion ops l::k)) cs w) b k cs e a' w'
section
variable {P:Program} {Q:Exit->Act->World->Prop} {a:Act} {w:World}
theorem kg{c:Code}(h:c.wp P Q a w):wpN P c Q a w:=fun b k cs _=>h b k cs
theorem gp{x y:Code}(h:wpN P x (Exit.then (wpN P y Q) Q) a w):wpN P (.seq x y) Q a w:=by
 intro b k cs hb;obtain⟨e,a₁,w₁,hq,harr⟩:=h b (.code y::k) cs hb
 cases e with
 | normal =>
  obtain⟨e₂,a₂,w₂,hq₂,harr₂⟩:=hq b k cs hb;exact⟨e₂,a₂,w₂,hq₂,.of_steps (.head step_seq harr) harr₂⟩
 | _=>exact⟨_,a₁,w₁,hq,.of_steps (.one step_seq) (.pass (x:=.code y) rfl (fun _ _=>.inl sM) harr)⟩
theorem c8{x y:Code}(h:∀ K:Act->World->Prop,(∀ a w,wpN P y Q a w->K a w)->x.wp P (Exit.then K Q) a w):wpN P (.seq x y) Q a w :=
 gp (kg (h _ fun _ _ h=>h))
theorem BP{c:Operand}{x y:Code}{t:Bool}(hc:a.eval c=.bool t)(h:wpN P (if t then x else y) Q a w):wpN P (.cond c x y) Q a w :=
 fun b k cs hb=>let ⟨e,a',w',q,r⟩:=h b k cs hb;⟨e,a',w',q,.of_steps (.one (step_cond hc)) r⟩
theorem fX{id:Nat}{c:Code}(h:wpN P c (Exit.inBlock id Q) a w):wpN P (.block id c) Q a w:=by
 intro b k cs hb;obtain⟨e,a₁,w₁,hq,harr⟩:=h b (.inBlock id::k) cs hb
 cases e with
 | normal=>exact⟨.normal,a₁,w₁,hq,.head step_block (Steps.trans harr (.one step_inBlock))⟩
 | exit id' =>
  by_cases hid:id'=id
  ·simp only[Exit.inBlock,hid,if_true] at hq
   exact⟨.normal,a₁,w₁,hq,.head step_block (harr k (by simp[exitTo,hid]))⟩
  ·simp only[Exit.inBlock,hid,if_false] at hq
   refine⟨.exit id',a₁,w₁,hq,fun k' hk=>.head step_block (harr k' ?_)⟩
   have:(id==id')=false:=by simp;exact fun h=>hid h.symm
   simp[exitTo,this,hk]
 | goto l=>exact⟨_,a₁,w₁,hq,fun k' hk=>.head step_block (harr k' (by simp[gotoIn,hk]))⟩
 | ret=>exact⟨_,a₁,w₁,hq,.of_steps (.one step_block) harr⟩
 | panic ch=>exact⟨_,a₁,w₁,hq,.of_steps (.one step_block) harr⟩
 | outgrown=>exact⟨_,a₁,w₁,hq,.of_steps (b:=b) (k:=k) (cs:=cs) (e:=.outgrown) (.one step_block) harr⟩
theorem rI{c:Code}(I:Act->World->Prop)(μ:Act->World->Nat)(h₀:I a w)
  (round:∀ a w,I a w->wpN P c (Exit.then (fun a' w'=>I a' w'/\μ a' w' < μ a w) Q) a w):wpN P (.loop c) Q a w:=by
 intro b k cs hb;have key:∀ n a w,μ a w=n->I a w->∃ e a' w',Q e a' w'/\Arrives P (lone (b.at a (.code c::.inLoop c::k)) cs w) b k cs e a' w':=by
  intro n;induction n using Nat.strongRecOn with
  | _ n ih =>
   intro a w hn hI;obtain⟨e,a₁,w₁,hq,harr⟩:=round a w hI b (.inLoop c::k) cs hb
   cases e with
   | normal =>
    obtain⟨hI₁,hlt⟩:=hq;obtain⟨e₂,a₂,w₂,hq₂,harr₂⟩:=ih (μ a₁ w₁) (hn ▸ hlt) a₁ w₁ rfl hI₁
    exact⟨e₂,a₂,w₂,hq₂,.of_steps (Steps.trans harr (.one step_inLoop)) harr₂⟩
   | _=>exact⟨_,a₁,w₁,hq,.pass (x:=.inLoop c) rfl (fun _ _=>.inl sM) harr⟩
 obtain⟨e,a',w',hq,harr⟩:=key _ a w rfl h₀;exact⟨e,a',w',hq,.of_steps (.one step_loop) harr⟩
theorem iV{f:FuncId}{fn:Func}{c:Code}{args:Array Value}{R:Ending->World->Prop}(hf:P.funcs[f]?=some fn)(hb:fn.body=some c)
  (h:wpN P c (bodyPost P fn R) { tmps:=args++Array.replicate (fn.ntmps-args.size) undef,defers:=[] } w):Calls P f args w R:=by
 intro cs;let b:Frame:={ (default:Frame) with fn:=f,kind:=.normal }
 have henter:Frame.enter P f args .normal=b.at { tmps:=args++Array.replicate (fn.ntmps-args.size) undef,defers:=[] } [.code c]:=by
  simp[Frame.enter,Frame.at,hf,hb,b]
 obtain⟨e,a',w',hq,harr⟩:=h b [] cs (by simp[b])
 rw[<- henter] at harr
 cases e with
 | normal =>
  obtain⟨hd,v,hr,hR⟩:=hq;exact⟨.returned v,w',_,hR,Steps.trans harr (.one step_end),rfl,rfl,hd,rfl,fn,hf,hr⟩
 | ret =>
  obtain⟨hd,v,hr,hR⟩:=hq;obtain⟨todo,hs⟩:=harr;exact⟨.returned v,w',_,hR,hs,rfl,rfl,hd,rfl,fn,hf,hr⟩
 | panic chain =>
  obtain⟨hd,hR⟩:=hq;obtain⟨todo,hs⟩:=harr;exact⟨.panicked chain,w',_,hR,hs,rfl,rfl,hd,fn,hf⟩
 | exit id=>exact hq.elim
 | goto l=>exact hq.elim
 | outgrown=>exact⟨.outgrown,w',b,hq,harr.resolve_left (by simp[b]),rfl,trivial⟩
variable {ops:Array Oper} {i:Nat} {rest:List Nat} {o:Oper}
theorem gn{id:Nat}(h:rgN P ops Q (List.range ops.size) a w):wpN P (.region id ops false) Q a w :=
 fun b k cs hb=>let ⟨e,a',w',q,r⟩:=h b k cs hb;⟨e,a',w',q,.of_steps (.one step_region) r⟩
theorem jv(h:Q .normal a w):rgN P ops Q [] a w:=fun b k cs _=>⟨.normal,a,w,h,.one step_region_end⟩
theorem jM{b:Frame}{k:List Item}(ho:ops[i]?=some o)(v:Value):(b.at a (.inRegion ops (i::rest)::k)).finish v=b.at (a.put o.dst v) (.inRegion ops rest::k):=by
 rw[Frame.finish_at,ho];rfl
theorem cC{v:Value}{w':World}(ho:ops[i]?=some o)(hw:Region.wanted o (yielded ops a.tmps)=true)(hr:(execOp a.eval o).run P w=.ok (.value v) w')(h:rgN P ops Q rest (a.put o.dst v) w'):rgN P ops Q (i::rest) a w:=by
 intro b k cs hb;obtain⟨e,a',w'',hq,harr⟩:=h b k cs hb;refine⟨e,a',w'',hq,.of_steps (.one (step_lone_go ?_)) harr⟩
 rw[stepG_op (P:=P) (b:=b) (k:=k) (cs:=cs) (w:=w) (rest:=rest) ho hw,<- jM ho];simp[stepG.apply,hr]
theorem AU{w':World}(ho:ops[i]?=some o)(hw:Region.wanted o (yielded ops a.tmps)=true)(hr:(execOp a.eval o).run P w=.ok .skip w')(h:rgN P ops Q rest (a.put o.dst undef) w'):rgN P ops Q (i::rest) a w:=by
 intro b k cs hb;obtain⟨e,a',w'',hq,harr⟩:=h b k cs hb;refine⟨e,a',w'',hq,.of_steps (.one (step_lone_go ?_)) harr⟩
 rw[stepG_op (P:=P) (b:=b) (k:=k) (cs:=cs) (w:=w) (rest:=rest) ho hw,<- jM ho];simp[stepG.apply,hr]
variable {c cap s r:Nat} {buf:Array Value} {z z' v:Value} {tm closed:Bool} {w₁:World}
theorem qU(ho:ops[i]?=some o)(hw:Region.wanted o (yielded ops a.tmps)=true)(hr:(execOp a.eval o).run P w=.ok (.comm #[rcase c z] true (.recv false)) w₁)
  (hc:w₁.heap[c]?=some (.chan cap buf closed s r tm)) (hsome:0<buf.size)
  (h:rgN P ops Q rest (a.put o.dst (buf.getD 0 undef)) (w₁.setChan c cap (buf.extract 1 buf.size) closed s (r+1) tm)):rgN P ops Q (i::rest) a w:=by
 intro b k cs hb;obtain⟨e,a',w'',hq,harr⟩:=h b k cs hb;refine⟨e,a',w'',hq,.of_steps (.one ?_) harr⟩
 rw[lone_eq_solo,step_lone_recv_buf false (stepG_comm ho hw hb hr) hc hsome,jM ho,lone_eq_solo];rfl
theorem AT(ho:ops[i]?=some o)(hw:Region.wanted o (yielded ops a.tmps)=true)(hr:(execOp a.eval o).run P w=.ok (.comm #[scase c v z'] true .send) w₁)
  (hc:w₁.heap[c]?=some (.chan cap buf false s r tm)) (hroom:buf.size<cap)
  (h:rgN P ops Q rest (a.put o.dst undef) (w₁.setChan c cap (buf.push v) false (s+1) r tm)):rgN P ops Q (i::rest) a w:=by
 intro b k cs hb;obtain⟨e,a',w'',hq,harr⟩:=h b k cs hb;refine⟨e,a',w'',hq,.of_steps (.one ?_) harr⟩
 rw[lone_eq_solo,step_lone_send_room (stepG_comm ho hw hb hr) hc hroom,jM ho,lone_eq_solo]
theorem oJ(ho:ops[i]?=some o)(hw:Region.wanted o (yielded ops a.tmps)=true)(hr:(execOp a.eval o).run P w=.ok (.comm #[scase c v z'] false .select) w₁)
  (hc:w₁.heap[c]?=some (.chan cap buf false s r tm)) (hroom:buf.size<cap)
  (h:rgN P ops Q rest (a.put o.dst (.tuple #[goInt 0,.bool false])) (w₁.setChan c cap (buf.push v) false (s+1) r tm)):rgN P ops Q (i::rest) a w:=by
 intro b k cs hb;obtain⟨e,a',w'',hq,harr⟩:=h b k cs hb;refine⟨e,a',w'',hq,.of_steps (.one ?_) harr⟩
 rw[lone_eq_solo,step_lone_select_send_room (stepG_comm ho hw hb hr) hc hroom,jM ho,lone_eq_solo]
theorem oI(ho:ops[i]?=some o)(hw:Region.wanted o (yielded ops a.tmps)=true)(hr:(execOp a.eval o).run P w=.ok (.comm #[scase c v z'] false .select) w₁)
  (hc:w₁.heap[c]?=some (.chan cap buf false s r tm)) (hfull:cap<=buf.size)
  (h:rgN P ops Q rest (a.put o.dst (.tuple #[goInt (-1),.bool false])) w₁):rgN P ops Q (i::rest) a w:=by
 intro b k cs hb;obtain⟨e,a',w'',hq,harr⟩:=h b k cs hb;refine⟨e,a',w'',hq,.of_steps (.one ?_) harr⟩
 rw[lone_eq_solo,step_lone_select_send_full (stepG_comm ho hw hb hr) hc hfull,jM ho,lone_eq_solo]
end
end Go.Proofs.YtjnhhnbgjjkkjaaGreatDoor
