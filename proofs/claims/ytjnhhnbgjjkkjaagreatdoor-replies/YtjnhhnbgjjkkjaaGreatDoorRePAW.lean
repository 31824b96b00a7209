import Derived.Lib.BufferWrite
import Derived.Test.YtjnhhnbgjjkkjaaGreatDoorRePAV
set_option linter.all false
set_option maxRecDepth 100000
set_option maxHeartbeats 2000000
namespace Go.Proofs.YtjnhhnbgjjkkjaaGreatDoor
open Go.ChangeShapes Go.WideShapes Go.ChangeAt Go.RowKit Go.Proofs.Tryz
def cO(ρ:Nat->Nat)(w:World):Prop:=∀ b,w.heap.size<=b->ρ b=0
structure Stp(R:Nat->Prop)(ρ ρ':Nat->Nat)(w w':World):Prop where
 os:w'.os=w.os
 tape:w'.tape=w.tape
 output:w'.output=w.output
 size:w.heap.size<=w'.heap.size
 role:∀ b,b<w.heap.size->ρ' b=ρ b
 block:∀ b,b<w.heap.size->¬R (ρ b)->w'.heap[b]?=w.heap[b]?
 clean:cO ρ' w'
theorem Stp.trans{R:Nat->Prop}{ρ ρ' ρ'':Nat->Nat}{w w' w'':World}(h:Stp R ρ ρ' w w')(k:Stp R ρ' ρ'' w' w''):Stp R ρ ρ'' w w'' :=
 ⟨k.os.trans h.os,k.tape.trans h.tape,k.output.trans h.output,Nat.le_trans h.size k.size,fun b hb=>(k.role b (Nat.lt_of_lt_of_le hb h.size)).trans (h.role b hb),
  fun b hb hr=>(k.block b (Nat.lt_of_lt_of_le hb h.size) (by rw[h.role b hb];exact hr)).trans (h.block b hb hr),k.clean⟩
theorem Stp.mono{R R':Nat->Prop}{ρ ρ':Nat->Nat}{w w':World}(h:Stp R ρ ρ' w w')(hR:∀ r,R r->R' r):Stp R' ρ ρ' w w' :=
 ⟨h.os,h.tape,h.output,h.size,h.role,fun b hb hr=>h.block b hb (fun c=>hr (hR _ c)),h.clean⟩
theorem Stp.below{R:Nat->Prop}{ρ:Nat->Nat}{w w':World}(hc:cO ρ w)(hb:Bl w w'):Stp R ρ ρ w w' :=
 ⟨hb.os,hb.tape,hb.output,hb.size,fun _ _=>rfl,fun b h _=>hb.block b h,fun b h=>hc b (Nat.le_trans hb.size h)⟩
theorem Stp.upd{R:Nat->Prop}{ρ:Nat->Nat}{w w':World}{g:Nat}{cs:Array Value}{t:TypeId}(hc:cO ρ w)(hu:Upd w w' g cs t)(hg:R (ρ g)):Stp R ρ ρ w w' :=
 ⟨hu.os,hu.tape,hu.output,by rw[hu.size];exact Nat.le_refl _,fun _ _=>rfl,fun b _ hr=>hu.other b (fun e=>hr (e ▸ hg)),fun b h=>hc b (by rw[<- hu.size];exact h)⟩
def ru(ρ:Nat->Nat)(b r:Nat):Nat->Nat:=fun x=>if x=b then r else ρ x
theorem jw(ρ:Nat->Nat)(b r:Nat):ru ρ b r b=r:=by simp[ru]
theorem fS(ρ:Nat->Nat)(b r:Nat){x:Nat}(h:x≠b):ru ρ b r x=ρ x:=by simp[ru,h]
theorem Stp.alloc{R:Nat->Prop}{ρ:Nat->Nat}{w:World}(hc:cO ρ w)(o:Obj)(r:Nat):Stp R ρ (ru ρ w.heap.size r) w (w.alloc o) :=
 ⟨rfl,rfl,rfl,by simp,fun b hb=>fS _ _ _ om,fun b hb _=>Below.heap_alloc w o b hb,fun b hb=>by
  have hb':w.heap.size+1<=b:=by simpa using hb
  rw[fS _ _ _ om];exact hc b om⟩
theorem Stp.alloc0{R:Nat->Prop}{ρ:Nat->Nat}{w:World}(hc:cO ρ w)(o:Obj):Stp R ρ ρ w (w.alloc o):=Stp.below hc ((Below.refl _ _).alloc (Nat.le_refl _) o)
theorem Stp.drew{R:Nat->Prop}{ρ ρ':Nat->Nat}{w w':World}(h:Stp R ρ ρ' w w'):Stp R ρ ρ' w w'.drew:=⟨h.os,h.tape,h.output,h.size,h.role,h.block,h.clean⟩
theorem Stp.toBelow{ρ ρ':Nat->Nat}{w w':World}{R:Nat->Prop}(h:Stp R ρ ρ' w w'){B:Nat}(hB:B<=w.heap.size)(hR:∀ b,b<B->¬R (ρ b)):Below B w w' :=
 ⟨h.os,h.tape,h.output,h.size,fun b hb=>h.block b om (hR b hb)⟩
theorem Blk.step{R:Nat->Prop}{ρ ρ':Nat->Nat}{w w':World}{g:Nat}{cs:Array Value}{t:TypeId}(h:Blk w g cs t)(s:Stp R ρ ρ' w w')(hr:¬R (ρ g)):Blk w' g cs t:=(s.block g h.lt hr).trans h
def RdZ(ρ:Nat->Nat)(w:World)(v:Value)(l:List (Int×Bz)):Prop:=my w v l/\(l≠[]->∃ b,v.ownBlock=some b/\ρ b=0)
def Own(ρ:Nat->Nat)(r:Nat)(w:World)(t:TypeId)(v:Value)(l:List (Int×Bz)):Prop:=w.ownsRow 0 t 2 v l.length (cvs l)/\∀ b,v.ownBlock=some b->ρ b=r
theorem RdZ.step{R:Nat->Prop}{ρ ρ':Nat->Nat}{w w':World}{v:Value}{l:List (Int×Bz)}(h:RdZ ρ w v l)(s:Stp R ρ ρ' w w')(h0:¬R 0):RdZ ρ' w' v l:=by
 obtain⟨⟨a,cap,rfl,h1,h2,h3⟩,h4⟩:=h;refine⟨⟨a,cap,rfl,h1,h2,fun hl=>?_⟩,fun hl=>?_⟩
 ·obtain⟨g,rfl,hg,hc⟩:=h3 hl;obtain⟨b,hb,hr⟩:=h4 hl;obtain rfl:g=b:=by simpa[Value.ownBlock] using hb
  have hk:=s.block g hg (by rw[hr];exact h0)
  exact⟨g,rfl,Nat.lt_of_lt_of_le hg s.size,fun j hj=>⟨(World.cell?_of_block (a:=At g (j*2)) hk).trans (hc j hj).1,(World.cell?_of_block (a:=At g (j*2+1)) hk).trans (hc j hj).2⟩⟩
 ·obtain⟨g,rfl,hg,hc⟩:=h3 hl;obtain⟨b,hb,hr⟩:=h4 hl;obtain rfl:g=b:=by simpa[Value.ownBlock] using hb
  exact⟨g,rfl,(s.role g hg).trans hr⟩
theorem Own.step{R:Nat->Prop}{ρ ρ':Nat->Nat}{w w':World}{r:Nat}{t:TypeId}{v:Value}{l:List (Int×Bz)}(h:Own ρ r w t v l)(s:Stp R ρ ρ' w w')(hr:¬R r):Own ρ' r w' t v l:=by
 obtain⟨h1,h2⟩:=h;have hlt:=h1.lt;refine⟨⟨h1.1,?_⟩,fun b hb=>(s.role b (hlt b hb).2).trans (h2 b hb)⟩
 rcases h1.2 with hn|⟨g,cap,cur,rfl,hb,hg,rest⟩
 ·exact .inl hn
 ·refine .inr ⟨g,cap,cur,rfl,hb,?_,rest⟩
  rw[s.block g (hlt g rfl).2 (by rw[h2 g rfl];exact hr)]
  exact hg
theorem Own.nil(ρ:Nat->Nat)(r:Nat)(w:World)(t:TypeId):Own ρ r w t (.slice none 0 0) []:=⟨World.ownsRow_nil w 0 t 2,fun b h=>by simp[Value.ownBlock] at h⟩
theorem RdZ.made{ρ:Nat->Nat}{w w':World}{t:TypeId}{v:Value}{l:List (Int×Bz)}(hc:cO ρ w)(h:w'.ownsRow w.heap.size t 2 v l.length (cvs l)):RdZ ρ w' v l:=by
 refine⟨mq h,fun hl=>?_⟩
 obtain⟨g,cap,rfl,hb,_⟩:=h.form (by cases l with|nil=>exact absurd rfl hl|cons _ _=>simp)
 exact⟨g,rfl,hc g hb⟩
theorem RdZ.slice{ρ:Nat->Nat}{w:World}{v:Value}{l:List (Int×Bz)}(h:RdZ ρ w v l):∃ a c,v=.slice a l.length c/\l.length<=c/\c<=maxLen:=by
 obtain⟨⟨a,cap,rfl,h1,h2,_⟩,_⟩:=h;exact⟨a,cap,rfl,h1,h2⟩
structure PD where
 safe:List (Int×Bz)
 now:List (Int×Bz)
 loose:List (Int×Bz)
 left:Int
 st:Bool
def DAt(ρ:Nat->Nat)(k:Nat)(w:World)(g:Nat)(A:PD):Prop :=
 ρ g=4*k+1/\∃ vs vn vl,Blk w g (dB vs vn vl A.left A.st) 112/\RdZ ρ w vs A.safe/\RdZ ρ w vn A.now/\Own ρ (4*k+3) w 114 vl A.loose
theorem DAt.step{R:Nat->Prop}{ρ ρ':Nat->Nat}{w w':World}{k g:Nat}{A:PD}(h:DAt ρ k w g A)(s:Stp R ρ ρ' w w')(h0:¬R 0)(h1:¬R (4*k+1))(h3:¬R (4*k+3)):DAt ρ' k w' g A:=by
 obtain⟨hr,vs,vn,vl,hb,hs,hn,hl⟩:=h;exact⟨(s.role g hb.lt).trans hr,vs,vn,vl,hb.step s (by rw[hr];exact h1),hs.step s h0,hn.step s h0,hl.step s h3⟩
def RDk(k r:Nat):Prop:=r=4*k+1\/r=4*k+3
theorem Gl(w:World):Calls prog 34 #[] w fun e w'=>e=.returned (.pointer (some (Nw w 0)))/\w'=w.alloc (.cells (dB (.slice none 0 0) (.slice none 0 0) (.slice none 0 0) (-1) false) 112):=by
 go_enter func34,ntmps34
 go_wp2;go_ret;exact⟨rfl,rfl⟩
def b9(A:PD):PD:=if cH A.left A.st then { A with safe:=A.now,loose:=[],left:=bK A.left A.st,st:=stS A.left A.st } else { A with left:=bK A.left A.st,st:=stS A.left A.st }
theorem Bp(ρ:Nat->Nat)(k:Nat)(w:World)(g:Nat)(A:PD)(hc:cO ρ w)(h1:A.left<9223372036854775808)(h:DAt ρ k w g A):Calls prog 100 #[Pq g] w fun e w'=>e=.returned (.bool (cH A.left A.st))/\DAt ρ k w' g (b9 A)/\Stp (RDk k) ρ ρ w w':=by
 obtain⟨hr,vs,vn,vl,hb,hs,hn,hl⟩:=h;have hst:Hid (Calls prog 149 #[Pq g] w fun e w'=>e=.returned (.bool (cH A.left A.st))/\Upd w w' g (dB vs vn vl (bK A.left A.st) (stS A.left A.st)) 112):=Bh w g vs vn vl A.left A.st h1 hb
 have hgR:RDk k (ρ g):=.inl hr
 have h0R:¬RDk k 0:=by unfold RDk;omega
 rcases hok:cH A.left A.st with _|_
 ·have e:b9 A={ A with left:=bK A.left A.st,st:=stS A.left A.st }:=by unfold b9;rw[hok];rfl
  rw[e];rw[hok] at hst;have hfin:Hid (∀ w',Upd w w' g (dB vs vn vl (bK A.left A.st) (stS A.left A.st)) 112->DAt ρ k w' g { A with left:=bK A.left A.st,st:=stS A.left A.st }/\Stp (RDk k) ρ ρ w w'):=fun w' hu=>by
   have S:Stp (RDk k) ρ ρ w w':=Stp.upd hc hu hgR
   have S3:Stp (fun r=>r=4*k+1) ρ ρ w w':=Stp.upd hc hu hr
   exact⟨⟨hr,vs,vn,vl,hu.blk,hs.step S h0R,hn.step S h0R,hl.step S3 om⟩,S⟩
  clear hb hs hn hl e;go_enter func100,ntmps100
  go_wp2_with (go_at_call 149;refine hst.o.mono ?_;rintro e w1 ⟨rfl,hu⟩;have HU:Hid (Upd w w1 g (dB vs vn vl (bK A.left A.st) (stS A.left A.st)) 112):=hu;clear hu)
  go_ret;exact⟨rfl,hfin.o _ HU.o⟩
 ·have e:b9 A={ A with safe:=A.now,loose:=[],left:=bK A.left A.st,st:=stS A.left A.st }:=by unfold b9;rw[hok];rfl
  rw[e];rw[hok] at hst;have hfin:Hid (∀ w',Upd w w' g (dB vn vn (.slice none 0 0) (bK A.left A.st) (stS A.left A.st)) 112->DAt ρ k w' g { A with safe:=A.now,loose:=[],left:=bK A.left A.st,st:=stS A.left A.st }/\Stp (RDk k) ρ ρ w w'):=fun w' hu=>by
   have S:Stp (RDk k) ρ ρ w w':=Stp.upd hc hu hgR
   exact⟨⟨hr,vn,vn,.slice none 0 0,hu.blk,hn.step S h0R,hn.step S h0R,Own.nil _ _ _ _⟩,S⟩
  obtain⟨an,cn,rfl,_,_⟩:=hn.slice;clear hb hs hn hl e;generalize A.now.length=ln at *
  go_enter func100,ntmps100
  go_wp2_with (go_at_call 149;refine hst.o.mono ?_;rintro e w1 ⟨rfl,hu⟩;have HU:Hid (Upd w w1 g (dB vs (.slice an ln cn) vl (bK A.left A.st) (stS A.left A.st)) 112):=hu;have c0:w1.cell? (At g 0)=some vs:=(hu.blk.cell 0);have c1:w1.cell? (At g 1)=some (.slice an ln cn):=(hu.blk.cell 1);have c2:w1.cell? (At g 2)=some vl:=(hu.blk.cell 2);have f0:w1.frozen? (At g 0)=false:=(hu.blk.frozen 0);have f2:w1.frozen? (At g 2)=false:=(hu.blk.frozen 2);clear hu)
  go_ret;exact⟨rfl,hfin.o _ ((HU.o.set 0 _ rfl).set 2 _ rfl)⟩
theorem tD(ρ:Nat->Nat)(k:Nat)(w:World)(g:Nat)(A:PD)(s:Int)(hn:A.now.length<=2097152)(h:DAt ρ k w g A):Cr prog 88 #[Pq g,I6 s] w (.string (bT A.now s)):=by
 obtain⟨hr,vs,vn,vl,hb,_,hv,_⟩:=h;have c1:w.cell? (At g 1)=some vn:=hb.cell 1
 have hg:Hid (Cr prog 49 #[vn,I6 s] w (.string (bT A.now s))):=CF vn A.now s w hn hv.1
 obtain⟨an,cn,rfl,_,_⟩:=hv.slice;clear hb hv;generalize A.now.length=ln at *
 go_enter func88,ntmps88
 go_wp2_with (go_at_call 49;refine hg.o.mono ?_;rintro e w1 ⟨rfl,hb1⟩)
 go_ret;exact⟨rfl,hb1⟩
def da(d:Bz):Bz:=d++zb (64-d.size)
theorem mW(d:Bz)(hd:d.size<=64):(da d).size=64:=by
 simp[da,zb,ByteArray.size_append,aN];omega
end Go.Proofs.YtjnhhnbgjjkkjaaGreatDoor
