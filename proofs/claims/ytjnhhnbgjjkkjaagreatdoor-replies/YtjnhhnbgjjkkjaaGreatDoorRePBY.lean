import Derived.Test.YtjnhhnbgjjkkjaaGreatDoorRePBX
import Derived.Test.YtjnhhnbgjjkkjaaGreatDoorRePAX
set_option linter.all false
set_option maxRecDepth 100000
set_option maxHeartbeats 2000000
namespace Go.Proofs.YtjnhhnbgjjkkjaaGreatDoor
open Go.ChangeShapes Go.WideShapes Go.ChangeAt Go.RowKit Go.Proofs.Tryz
theorem vr{H:Type}{d:DataW H}{l:List (DataW H)}(h:d∈l):Rows.uptoBulk d<=Rows.uptoBulkAll l:=by
 induction l with
 | nil=>cases h
 | cons x r ih =>
  simp only[Rows.uptoBulkAll]
  rcases List.mem_cons.1 h with rfl|h
  ·omega
  ·have:=ih h;omega
structure OV where
 kind:Int
 on:Int
 a:Int
 s:Bz
 v:Value
 L:List Int
def ov0:OV:=⟨0,0,0,ByteArray.empty,.slice none 0 0,[]⟩
structure BU(W:World)(b o:Nat)(x:OV):Prop where
 c0:W.cell? (At b o)=some (I6 x.kind)
 c1:W.cell? (At b (o+1))=some (I6 x.on)
 c2:W.cell? (At b (o+2))=some (I6 x.a)
 c3:W.cell? (At b (o+3))=some (.string x.s)
 c4:W.cell? (At b (o+4))=some x.v
 ints:Eg W x.v x.L
 on1:-9223372036854775808<=x.on/\x.on<=9223372036854775807
 a1:-9223372036854775808<=x.a/\x.a<=9223372036854775807
 s1:x.s.size<=2097152
 l1:x.L.length<=2097152
def xO(W:World)(v:Value)(n:Nat)(f:Nat->OV):Prop :=
 ∃ a c,v=.slice a n c/\n<=c/\c<=maxLen/\(0<n->∃ b o,a=some (At b o)/\b<W.heap.size/\∀ i,i<n->BU W b (o+i*5) (f i))
theorem pE{W:World}{b o:Nat}{v:Value}(h:W.cell? (At b o)=some v):b<W.heap.size:=block_lt_of_cell h
theorem Df{H:Type}{enc:TypeId×Value->H}{W:World}{n:Nat}{cs:List Value}{d:DataW H}{ps:List MemPlace}{b o:Nat}(hc:∀ i,i<5->W.cell? (At b (o+i))=cs[i]?)(hl:cs.length=5)
  (h:DataW.trod enc prog W 0 (fun _=>true) true n 71 cs=some (d,ps)) (hb:Rows.uptoBulk d<=1048576):∃ x:OV,BU W b o x:=by
 obtain⟨xs,m,_,hd,_,hxl,hf⟩:=DataW.trod_struct underlying71 h;have hxl5:xs.length=5:=hxl
 clear hxl;match xs,hxl5,cs,hl with
 | [y0,y1,y2,y3,y4],_,[v0,v1,v2,v3,v4],_ =>
  have g0:=hf 0 _ rfl;have g1:=hf 1 _ rfl;have g2:=hf 2 _ rfl;have g3:=hf 3 _ rfl;have g4:=hf 4 _ rfl;have ci:prog.cellsOf 3=1:=by kernel_rfl
  have cst:prog.cellsOf 9=1:=by kernel_rfl
  have csl:prog.cellsOf 50=1:=by kernel_rfl
  simp[ci,cst,csl] at g0 g1 g2 g3 g4
  simp only[Prod.mk.injEq,List.map_cons,List.map_nil] at hd
  obtain⟨rfl,_⟩:=hd;obtain⟨k,e0,_,w0⟩:=DataW.trod_int underlying3 g0;obtain⟨on,e1,_,w1⟩:=DataW.trod_int underlying3 g1;obtain⟨a,e2,_,w2⟩:=DataW.trod_int underlying3 g2;obtain⟨s,e3,hy3,w3⟩:=DataW.trod_string underlying9 g3;simp at e0 e1 e2 e3;subst e0 e1 e2 e3;have k0:W.cell? (At b o)=some (I6 k):=hc 0 om
  have k1:W.cell? (At b (o+1))=some (I6 on):=hc 1 om
  have k2:W.cell? (At b (o+2))=some (I6 a):=hc 2 om
  have k3:W.cell? (At b (o+3))=some (.string s):=hc 3 om
  have k4:W.cell? (At b (o+4))=some v4:=hc 4 om
  simp only[Rows.uptoBulk,Rows.uptoBulkAll] at hb
  have hs:s.size<=2097152:=by
   rw[hy3] at hb;simp only[Rows.uptoBulk] at hb
   have:=Lib.size_eq s
   omega
  rcases open_ints underlying50 underlying3 ci g4 with⟨e4,_⟩|⟨ad,len,cap,zs,e4,_,h1,h2,h3,hy4,h5,_⟩
  ·simp at e4;subst e4;exact⟨⟨k,on,a,s,_,[]⟩,k0,k1,k2,k3,k4,⟨none,0,rfl,Nat.le_refl _,by unfold maxLen;omega,fun e=>absurd rfl e⟩,bounds_i64 w1,bounds_i64 w2,hs,by simp⟩
  ·simp at e4;subst e4;simp at h3;have hlen:(zs.take len).length=len:=by rw[List.length_take];omega
   refine⟨⟨k,on,a,s,_,zs.take len⟩,k0,k1,k2,k3,k4,⟨some ad,cap,by show _=Value.slice _ (zs.take len).length _;rw[hlen],by show (zs.take len).length<=_;omega,h2,fun hne=>?_⟩,bounds_i64 w1,bounds_i64 w2,hs,?_⟩
   ·have hp:0<zs.length:=by
     cases zs with
     | nil=>exact absurd sM hne
     | cons _ _=>simp
    obtain⟨b',o',rfl,hcc⟩:=ints_at h5 hp;refine⟨b',o',rfl,pE (hcc 0 hp),fun j hj=>?_⟩
    have hj':j<(zs.take len).length:=hj
    rw[hcc j om];show _=some (Value.int .i64 ((zs.take len).getD j 0))
    rw[List.getD_eq_getElem?_getD,List.getD_eq_getElem?_getD,List.getElem?_take,if_pos om]
   ·show (zs.take len).length<=_
    rw[hy4] at hb;simp only[Rows.uptoBulk] at hb
    have:=pD (H:=H) (lits .i64 (zs.take len))
    have e:(lits (H:=H) .i64 (zs.take len)).length=(zs.take len).length:=by simp[lits]
    omega
theorem Ap{H:Type}{enc:TypeId×Value->H}{W:World}{v:Value}{d:DataW H}{ps:List MemPlace}(h:DataW.Trod enc prog W 0 (fun _=>true) true 22 v d ps)(hv:v.cells.toList=[v])(hb:Rows.uptoBulk d<=1048576):
  ∃ n f,n<=1048576/\xO W v n f:=by
 obtain⟨fuel,h⟩:=h;rw[hv] at h;have ce:prog.cellsOf 71=5:=by kernel_rfl
 rcases Deep.open_slice underlying22 h with⟨e,_⟩|⟨a,len,cap,m,n,D,Pl,e,_,h1,h2,h3,hx,hel⟩
 ·simp at e;subst e;exact⟨0,fun _=>ov0,by omega,none,0,rfl,Nat.le_refl _,by unfold maxLen;omega,fun h=>by omega⟩
 ·simp at e;subst e;simp only[Prod.mk.injEq] at hx
  obtain⟨rfl,_⟩:=hx;simp at h3;subst h3;simp only[Rows.uptoBulk] at hb
  have hn:len<=1048576:=by
   have:=pD (H:=H) ((List.range len).map D)
   simp at this;omega
  by_cases hz:len=0
  ·subst hz;exact⟨0,fun _=>ov0,by omega,some a,m,rfl,h1,h2,fun h=>by omega⟩
  ·obtain⟨b,o,sp⟩:=a;have hsp:sp=none:=by
    obtain⟨cs',q1,_⟩:=hel 0 om;obtain⟨_,q2,q3⟩:=World.cells?_some q1
    have q4:=q3 0 (by rw[ce];omega)
    rw[List.getElem?_eq_getElem (by rw[q2,ce];omega)] at q4
    simpa[Addr.add] using World.cell?_spot q4
   subst hsp;have each:∀ i,i<len->∃ x:OV,BU W b (o+i*5) x:=fun i hi=>by
    obtain⟨cs',q1,q2⟩:=hel i om;obtain⟨_,q3,q4⟩:=World.cells?_some q1
    rw[ce] at q3 q4;refine Df (fun j hj=>?_) q3 q2 ?_
    ·have:=q4 j hj
     rw[Deep.add_add,WideShapes.add_plain] at this;rw[<- this,show o+i*5+j=o+(i*5+j) by omega]
    ·have:=vr (H:=H) (d:=D i) (l:=(List.range len).map D) (List.mem_map.2 ⟨i,List.mem_range.2 hi,rfl⟩)
     omega
   obtain⟨f,hf⟩:=@Deep.choose_lt OV ⟨ov0⟩ len _ each
   exact⟨len,f,hn,some (At b o),m,rfl,h1,h2,fun hp=>⟨b,o,rfl,pE (hf 0 hp).c0,hf⟩⟩
end Go.Proofs.YtjnhhnbgjjkkjaaGreatDoor
