/-
  PrE, PrH, LeL
-/
import Derived.Test.YtjnhhnbgjjkkjaaGreatDoorBesidesPAA
import Derived.Test.YtjnhhnbgjjkkjaaGreatDoorBesidesPBS
import Derived.Test.YtjnhhnbgjjkkjaaGreatDoorBesidesPBT
import Derived.Test.YtjnhhnbgjjkkjaaGreatDoorBesidesPBV
import Derived.Test.YtjnhhnbgjjkkjaaGreatDoorBesidesPBU
import Derived.Deep.Slices
import Derived.OpenShut
import Derived.Test.YtjnhhnbgjjkkjaaGreatDoorBesidesPAJ
namespace Go.Proofs.YtjnhhnbgjjkkjaaGreatDoor
open Go.Conc Go.ChangeShapes Go.WideShapes Go.ChangeAt Go.RowKit
set_option linter.unusedVariables false
set_option linter.unusedSimpArgs false
theorem Stp.low {R:Nat->Prop} {ρ ρ':Nat->Nat} {w W W':World} (h:Stp R ρ ρ' W W') (hb:Below w.heap.size w W) (ro:∀ q,ρ q≠0->w.heap.size<=q) (h0:¬R 0):Below w.heap.size w W' :=
  hb.trans (h.toBelow hb.size (fun b hlt=>by
    have e:ρ b=0:=by
      rcases Nat.eq_zero_or_pos (ρ b) with e|e
      . exact e
      . have:=ro b om;omega
    rw[e];exact h0))
theorem Stp.ro {R:Nat->Prop} {ρ ρ':Nat->Nat} {w W W':World} (h:Stp R ρ ρ' W W') (hb:Below w.heap.size w W) (ro:∀ q,ρ q≠0->w.heap.size<=q):∀ q,ρ' q≠0->w.heap.size<=q:=fun q e=>by
  rcases h.roles q e with e|e
  . exact ro q e
  . exact Nat.le_trans hb.size e
theorem rok0 (k:Nat):¬ROk k 0:=by unfold ROk;omega
theorem Two.dox {w:World} {ρ:Nat->Nat} {W:World} {x d y dy:Nat} {s u:Bk} (h:Two w ρ W x d y dy s u) (E:EnvT w) (hZ:10<=w.heap.size) (L:ByteArray):Calls Tryz.prog 16 #[.pointer (some ⟨x,0,none⟩),.string L] W fun e W'=>e=.returned (.string (doAll s L).2)/\∃ ρ',Two w ρ' W' x d y dy (doAll s L).1 u/\Stp (ROk 0) ρ ρ' W W':=by
  refine(hb3_do h.hx L (E.mono h.low) (fun q e=>Nat.le_trans hZ (h.ro q e)) (Nat.le_trans hZ h.low.size)).mono ?_
  rintro e W' ⟨rfl,ρ',a1,a2⟩
  exact⟨rfl,ρ',⟨a1,h.hy.by om a2,a2.ro h.low h.ro,a2.low h.low h.ro (rok0 0)⟩,a2⟩
theorem Two.doy {w:World} {ρ:Nat->Nat} {W:World} {x d y dy:Nat} {s u:Bk} (h:Two w ρ W x d y dy s u) (E:EnvT w) (hZ:10<=w.heap.size) (L:ByteArray):Calls Tryz.prog 16 #[.pointer (some ⟨y,0,none⟩),.string L] W fun e W'=>e=.returned (.string (doAll u L).2)/\∃ ρ',Two w ρ' W' x d y dy s (doAll u L).1/\Stp (ROk 1) ρ ρ' W W':=by
  refine(hb3_do h.hy L (E.mono h.low) (fun q e=>Nat.le_trans hZ (h.ro q e)) (Nat.le_trans hZ h.low.size)).mono ?_
  rintro e W' ⟨rfl,ρ',a1,a2⟩
  exact⟨rfl,ρ',⟨h.hx.by om a2,a1,a2.ro h.low h.ro,a2.low h.low h.ro (rok0 1)⟩,a2⟩
theorem Two.hbx {w:World} {ρ:Nat->Nat} {W:World} {x d y dy:Nat} {s u:Bk} (h:Two w ρ W x d y dy s u):HB w (fun _=>False) x s W:=h.hx.hb (fun q e=>⟨h.ro q e,fun k=>k⟩) h.low
theorem Two.hby {w:World} {ρ:Nat->Nat} {W:World} {x d y dy:Nat} {s u:Bk} (h:Two w ρ W x d y dy s u):HB w (fun _=>False) y u W:=h.hy.hb (fun q e=>⟨h.ro q e,fun k=>k⟩) h.low
def Pl (ρ:Nat->Nat) (W:World) (p x y d:Nat):Prop:=Blk W p #[.pointer (some ⟨x,0,none⟩),.pointer (some ⟨y,0,none⟩),.pointer (some ⟨d,0,none⟩)] 59/\ρ p=100
theorem Pl.step {R:Nat->Prop} {ρ ρ':Nat->Nat} {W W':World} {p x y d:Nat} (h:Pl ρ W p x y d) (s:Stp R ρ ρ' W W') (hR:¬R 100):Pl ρ' W' p x y d :=
  ⟨h.1.step s (by rw[h.2];exact hR),(s.role p h.1.lt).trans h.2⟩
def Lr (ρ:Nat->Nat) (W:World) (v:Value) (k:Nat):Prop:=∃ l:List Value,(∀ u,u∈l->∃ L,u=.string L)/\W.ownsRow 0 9 1 v k l/\∀ b,v.ownBlock=some b->ρ b=101
theorem Lr.step {R:Nat->Prop} {ρ ρ':Nat->Nat} {W W':World} {v:Value} {k:Nat} (h:Lr ρ W v k) (s:Stp R ρ ρ' W W') (hR:¬R 101):Lr ρ' W' v k:=by
  obtain⟨l,h0,h1,h2⟩:=h;have hlt:=h1.lt;refine⟨l,h0,⟨h1.1,?_⟩,fun b hb=>(s.role b (hlt b hb).2).trans (h2 b hb)⟩
  rcases h1.2 with hn|⟨g,cap,cur,rfl,hb,hg,rest⟩
  . exact .inl hn
  . refine .inr ⟨g,cap,cur,rfl,hb,?_,rest⟩
    rw[s.block g (hlt g rfl).2 (by rw[h2 g rfl];exact hR)]
    exact hg
theorem Lr.nil (ρ:Nat->Nat) (W:World):Lr ρ W (.slice none 0 0) 0:=⟨[],fun u hu=>by simp at hu,⟨rfl,.inl ⟨rfl,rfl⟩⟩,fun b hb=>by simp[Value.ownBlock] at hb⟩
theorem rok_no (k r:Nat) (hk:k<=2) (hr:100<=r):¬ROk k r:=by unfold ROk;omega
def Re (w:World) (p x y d:Nat) (v:Value) (k:Nat) (W:World):Prop:=∃ ρ dy s,Two w ρ W x d y dy s s/\Pl ρ W p x y d/\Lr ρ W v k
theorem Re.below {w:World} {p x y d:Nat} {v:Value} {k:Nat} {W W':World} (h:Re w p x y d v k W) (hb:Below W.heap.size W W'):Re w p x y d v k W':=by
  obtain⟨ρ,dy,s,h1,h2,h3⟩:=h;have S:Stp (fun _=>False) ρ ρ W W':=Stp.below h1.clean hb
  exact⟨ρ,dy,s,h1.below hb,h2.step S (fun q=>q),h3.step S (fun q=>q)⟩
theorem Re.low {w:World} {p x y d:Nat} {v:Value} {k:Nat} {W:World} (h:Re w p x y d v k W):Below w.heap.size w W:=by
  obtain⟨ρ,dy,s,h1,h2,h3⟩:=h;exact h1.low
def Re5 (w:World) (p x y d:Nat) (v:Value) (k:Nat) (L a:ByteArray) (W:World):Prop:=∃ ρ dy s,Two w ρ W x d y dy (doAll s L).1 s/\Pl ρ W p x y d/\Lr ρ W v k/\a=(doAll s L).2
theorem Re5.below {w:World} {p x y d:Nat} {v:Value} {k:Nat} {L a:ByteArray} {W W':World} (h:Re5 w p x y d v k L a W) (hb:Below W.heap.size W W'):Re5 w p x y d v k L a W':=by
  obtain⟨ρ,dy,s,h1,h2,h3,h4⟩:=h;have S:Stp (fun _=>False) ρ ρ W W':=Stp.below h1.clean hb
  exact⟨ρ,dy,s,h1.below hb,h2.step S (fun q=>q),h3.step S (fun q=>q),h4⟩
theorem Re.dox {w:World} (E:EnvT w) (hZ:10<=w.heap.size) {p x y d:Nat} {v:Value} {k:Nat} {W:World} (h:Re w p x y d v k W) (L:ByteArray):Calls Tryz.prog 16 #[.pointer (some ⟨x,0,none⟩),.string L] W fun e W'=>∃ a,e=.returned (.string a)/\Re5 w p x y d v k L a W'/\∀ g j M,v.ownBlock=some g->W.cell? ⟨g,j,none⟩=some M->W'.cell? ⟨g,j,none⟩=some M:=by
  obtain⟨ρ,dy,s,h1,h2,h3⟩:=h;refine(h1.dox E hZ L).mono ?_
  rintro e W' ⟨rfl,ρ',a1,a2⟩
  refine⟨_,rfl,⟨ρ',dy,s,a1,h2.step a2 (rok_no 0 _ om om),h3.step a2 (rok_no 0 _ om om),rfl⟩,fun g j M hg hc=>?_⟩
  obtain⟨l,_,ho,hr⟩:=h3;rw[<- hc];exact World.cell?_of_block (a:=⟨g,j,none⟩) (a2.block g (ho.lt g hg).2 (by rw[hr g hg];exact rok_no 0 _ om om))
theorem Re5.doy {w:World} (E:EnvT w) (hZ:10<=w.heap.size) {p x y d:Nat} {v:Value} {k:Nat} {W:World} {L a:ByteArray} (h:Re5 w p x y d v k L a W):Calls Tryz.prog 16 #[.pointer (some ⟨y,0,none⟩),.string L] W fun e W'=>e=.returned (.string a)/\Re w p x y d v k W'/\∀ g j M,v.ownBlock=some g->W.cell? ⟨g,j,none⟩=some M->W'.cell? ⟨g,j,none⟩=some M:=by
  obtain⟨ρ,dy,s,h1,h2,h3,rfl⟩:=h;refine(h1.doy E hZ L).mono ?_
  rintro e W' ⟨rfl,ρ',a1,a2⟩
  refine⟨rfl,⟨ρ',dy,_,a1,h2.step a2 (rok_no 1 _ om om),h3.step a2 (rok_no 1 _ om om)⟩,fun g j M hg hc=>?_⟩
  obtain⟨l,_,ho,hr⟩:=h3;rw[<- hc];exact World.cell?_of_block (a:=⟨g,j,none⟩) (a2.block g (ho.lt g hg).2 (by rw[hr g hg];exact rok_no 1 _ om om))
theorem Re.line {w:World} (E:EnvT w) (hZ:10<=w.heap.size) {p x y d:Nat} {v:Value} {k:Nat} {W:World} (h:Re w p x y d v k W) (tok:ByteArray) (htk:tok.size<=1000) (so:SV) (hso:SOk so) :
    Calls Tryz.prog 14 #[.pointer (some ⟨y,0,none⟩),.string tok,.agg #[.int .i64 so.k,.int .i64 so.o,.int .i64 so.p,.int .i64 so.a,.int .i64 so.b]] W fun e w'=>∃ L,e=.returned (.string L)/\Re w p x y d v k w'/\Below W.heap.size W w':=by
  obtain⟨ρ,dy,s,h1,h2,h3⟩:=h;refine(line_any w (fun _=>False) y s E hZ h1.hy.kp.inv tok htk so.k so.o so.p so.a so.b hso.k hso.o hso.p hso.a hso.b W h1.hby).mono ?_
  rintro e w' ⟨k',o,r,rfl,_,_,_,hb⟩
  exact⟨_,rfl,Re.below ⟨ρ,dy,s,h1,h2,h3⟩ hb,hb⟩
theorem Re.shows {w:World} (E:EnvT w) (hZ:10<=w.heap.size) {p x y d:Nat} {v:Value} {k:Nat} {W:World} (h:Re w p x y d v k W):Calls Tryz.prog 29 #[.pointer (some ⟨x,0,none⟩),.pointer (some ⟨y,0,none⟩)] W fun e w'=>e=.returned (.bool true)/\Re w p x y d v k w':=by
  obtain⟨ρ,dy,s,h1,h2,h3⟩:=h;refine(shows_any w (fun _=>False) x y s s E hZ h1.hx.kp.inv h1.hx.kp.good h1.hy.kp.inv h1.hy.kp.good (told_short h1.hx.kp.inv) W h1.hbx h1.hby).mono ?_
  rintro e w' ⟨rfl,hb⟩
  exact⟨by simp,Re.below ⟨ρ,dy,s,h1,h2,h3⟩ hb⟩
theorem both_any {w:World} (E:EnvT w) (hZ:10<=w.heap.size) {p x y d:Nat} {v:Value} {k:Nat} {W:World} (h:Re w p x y d v k W) (i:Int) (i0:0<=i) (i1:i<=4294967296) (so:SV) (hso:SOk so) :
    Calls Tryz.prog 26 #[.pointer (some ⟨p,0,none⟩),.int .i64 i,.agg #[.int .i64 so.k,.int .i64 so.o,.int .i64 so.p,.int .i64 so.a,.int .i64 so.b]] W fun e w'=>∃ L,e=.returned (.tuple #[.string L,.bool true])/\Re w p x y d v k w':=by
  have hb1:Below W.heap.size W (W.alloc (.cells #[.int .i64 so.k,.int .i64 so.o,.int .i64 so.p,.int .i64 so.a,.int .i64 so.b] 37)):=Below.alloc (Below.refl _ _) (Nat.le_refl _) _
  have hk1:Blk (W.alloc (.cells #[.int .i64 so.k,.int .i64 so.o,.int .i64 so.p,.int .i64 so.a,.int .i64 so.b] 37)) W.heap.size #[.int .i64 so.k,.int .i64 so.o,.int .i64 so.p,.int .i64 so.a,.int .i64 so.b] 37:=Blk.new _ _ _
  refine both_go W p x y i so (fun V=>Re w p x y d v k V/\StpAt V W.heap.size 0 so) (fun t=>t.size<=1000) (fun _=>True) (fun L a V=>Re5 w p x y d v k L a V) (fun L V=>Re w p x y d v k V) ?_ ?_ ?_ ?_ ?_ ?_ ?_ ?_
  . exact⟨h.below hb1,hk1.cell 0,hk1.cell 1,hk1.cell 2,hk1.cell 3,hk1.cell 4,hso⟩
  . rintro V V' ⟨a1,a2⟩ hb
    exact⟨a1.below hb,a2.below hb⟩
  . rintro V ⟨⟨ρ,dy,s,a1,a2,a3⟩,a4⟩
    exact⟨a2.1.cell 1,a2.1.cell 0,a4⟩
  . rintro L a V ⟨ρ,dy,s,a1,a2,a3,a4⟩
    exact a2.1.cell 1
  . rintro V ⟨a1,a2⟩
    refine(name_any ⟨#[116]⟩ i V i0 i1 (by decide)).mono ?_
    rintro e w' ⟨rfl,hb⟩
    refine⟨_,rfl,?_,hb⟩
    have hl:=b36_len i.toNat 7 om;show (bs [116]++bs (b36 i.toNat)).size<=1000
    rw[bs_append,bs_size];simp at hl ⊢;omega
  . rintro V t ⟨a1,a2⟩ ht
    refine(Re.line E hZ a1 t ht so hso).mono ?_
    rintro e w' ⟨L,rfl,b1,b2⟩
    exact⟨L,rfl,trivial,b1,a2.below b2⟩
  . rintro V L ⟨a1,a2⟩ _
    refine(Re.dox E hZ a1 L).mono ?_
    rintro e w' ⟨a,rfl,b1,_⟩
    exact⟨a,rfl,b1⟩
  . rintro V L a h5
    exact(Re5.doy E hZ h5).mono (fun e w' q=>⟨q.1,q.2.1⟩)
theorem stop_at (ρ:Nat->Nat) (k:Nat) (w:World) (g:Nat) (A:PD) (n:Int) (hc:Clean ρ w) (n0:-9223372036854775808<=n) (n1:n<9223372036854775808) (h:DAt ρ k w g A) :
    Calls Tryz.prog 30 #[.pointer (some ⟨g,0,none⟩),.int .i64 n] w fun e w'=>e=.returned (.tuple #[])/\DAt ρ k w' g { A with left:=leftP A.left A.st n }/\Stp (RDk k) ρ ρ w w':=by
  obtain⟨hr,vs,vn,vl,hb,hs,hn,hl⟩:=h;refine(stop_d w g vs vn vl A.left n A.st n0 n1 hb).mono (fun e w' hq=>⟨hq.1,?_,Stp.upd hc hq.2 (.inl hr)⟩)
  have S:Stp (fun r=>r=4*k+1) ρ ρ w w':=Stp.upd hc hq.2 hr
  exact⟨hr,vs,vn,vl,hq.2.blk,hs.step S om,hn.step S om,hl.step S om⟩
theorem stopped_at (ρ:Nat->Nat) (k:Nat) (w:World) (g:Nat) (A:PD) (h:DAt ρ k w g A) :
    Calls Tryz.prog 31 #[.pointer (some ⟨g,0,none⟩)] w fun e w'=>e=.returned (.bool (stS A.left A.st))/\w'=w:=by
  obtain⟨hr,vs,vn,vl,hb,hs,hn,hl⟩:=h;exact stopped_d w g vs vn vl A.left A.st hb
theorem rdk_no (k r:Nat) (hk:k<=2) (hr:100<=r):¬RDk k r:=by unfold RDk;omega
theorem rdk0 (k:Nat):¬RDk k 0:=by unfold RDk;omega
end Go.Proofs.YtjnhhnbgjjkkjaaGreatDoor
namespace Go.Proofs.YtjnhhnbgjjkkjaaGreatDoor
open Go.ChangeShapes Go.WideShapes Go.ChangeAt Go.RowKit
set_option linter.unusedVariables false
set_option linter.unusedSimpArgs false
theorem left_at {W:World} {ad:Addr} {zs:List Int} (h:∀ i,i<zs.length->W.cell? (ad.add i)=some (.int .i64 (zs.getD i 0))) (hp:0<zs.length):∃ b o,ad=⟨b,o,none⟩/\∀ i,i<zs.length->W.cell? ⟨b,o+i,none⟩=some (.int .i64 (zs.getD i 0)):=by
  obtain⟨b,o,sp⟩:=ad;have hsp:sp=none:=by
    have:=World.cell?_spot (h 0 hp)
    simpa[Addr.add] using this
  subst hsp;refine⟨b,o,rfl,fun i hi=>?_⟩
  have:=h i hi
  rwa [WideShapes.add_plain] at this
theorem open_left {H:Type} {enc:TypeId×Value->H} {W:World} {v:Value} {d:DataW H} {ps:List MemPlace} (h:DataW.Trod enc Tryz.prog W 0 (fun _=>true) true 50 v d ps) (hv:v.cells.toList=[v]) (hb:Rows.uptoBulk d<=1048576) :
    ∃ L,L.length<=2097152/\IntsAt W v L:=by
  obtain⟨fuel,h⟩:=h;rw[hv] at h;have ci:Tryz.prog.cellsOf 3=1:=by kernel_rfl
  rcases open_ints Tryz.underlying50 Tryz.underlying3 ci h with⟨e4,_⟩|⟨ad,len,cap,zs,e4,_,h1,h2,h3,hy4,h5,_⟩
  . simp at e4;subst e4;exact⟨[],by simp,none,0,rfl,Nat.le_refl _,by unfold maxLen;omega,fun e=>absurd rfl e⟩
  . simp at e4;subst e4;simp at h3;have hlen:(zs.take len).length=len:=by rw[List.length_take];omega
    refine⟨zs.take len,?_,some ad,cap,by rw[hlen],by omega,h2,fun hne=>?_⟩
    . simp only[Prod.mk.injEq] at hy4
      rw[hy4.1] at hb;simp only[Rows.uptoBulk] at hb
      have:=bulk_len (H:=H) (lits .i64 (zs.take len))
      have e:(lits (H:=H) .i64 (zs.take len)).length=(zs.take len).length:=by simp[lits]
      omega
    . have hp:0<zs.length:=by
        cases zs with
        | nil=>exact absurd (by simp) hne
        | cons _ _=>simp
      obtain⟨b',o',rfl,hcc⟩:=left_at h5 hp;refine⟨b',o',rfl,block_lt_of_cell (hcc 0 hp),fun j hj=>?_⟩
      rw[hcc j om];rw[List.getD_eq_getElem?_getD,List.getD_eq_getElem?_getD,List.getElem?_take,if_pos om]
end Go.Proofs.YtjnhhnbgjjkkjaaGreatDoor
