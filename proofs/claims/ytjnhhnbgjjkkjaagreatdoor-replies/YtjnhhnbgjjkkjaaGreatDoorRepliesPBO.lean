/-
  BkMk, BkMl, BkInv
-/
import Derived.Test.YtjnhhnbgjjkkjaaGreatDoorRepliesPBN
set_option linter.unusedVariables false
set_option linter.unusedSimpArgs false
set_option maxRecDepth 100000
set_option maxHeartbeats 2000000
namespace Go.Proofs.YtjnhhnbgjjkkjaaGreatDoor
open Go.ChangeShapes Go.WideShapes Go.ChangeAt Go.RowKit Go.Proofs.Tryz
theorem AL(w:World)(o:Obj)(u v:Value):Blk((w.alloc o).alloc(.cells#[u,v]80))(w.heap.size+1)#[u,v]80:=by
 have h:=Blk.new(w.alloc o)#[u,v]80
 rw[show(w.alloc o).heap.size=w.heap.size+1 by simp]at h;exact h
theorem Ba(w:World)(a b:Addr)(p q u v:Value):Blk(((w.setCell a p).setCell b q).alloc(.cells#[u,v]80))w.heap.size#[u,v]80:=by
 have h:=Blk.new((w.setCell a p).setCell b q)#[u,v]80
 rw[show((w.setCell a p).setCell b q).heap.size=w.heap.size by simp[World.setCell]]at h;exact h
theorem E9(w:World)(x:Nat)(S:Nat->Prop)(s:Bk)(l:Ln)(hI:Inv s)(hL:aY l)(h:aq w x S s)(k:Nat)(ok:ByteArray)(hk:k<s.pools.length)(h1:ah s.pools l.a l.n=k)(his:isH l.a l.n(s.pools.getD k hd0)=true)(hok:(s.pools.getD k hd0).o=ok)(res:Option(Int×Int))(hres:dH(aL 33(af s.nets l.a l.n)l.a l.n)l.g=res)(h2:¬l.g<22)(h3:¬l.g<l.n)(ba bn:Int)(hba:ad ba/\rt ba l.g=true)(h4:res=some(ba,bn))(h5:¬24<=s.nets.length)(hE:Env w)(hG:∀ b,S b->10<=b)(hZ:10<=w.heap.size) :
  Calls prog 71#[.pointer(some⟨x,0,none⟩),.agg(lnC l)]w(Res w x S({ s with nets:=b9 s.nets⟨ba,l.g,l.o⟩ },eh⟨(cC ba l.g).toArray⟩)):=by
 obtain⟨vp,vn,vl,c,B⟩:=h;have hx:=B.blk.lt;have H:Hid(aq w x S s):=⟨vp,vn,vl,c,B⟩
 obtain⟨x0,x1,x2⟩:=B.c3;have LIVE:Hid(∀ wk,BW w l wk->cu w wk x vp vn vl l):=aN l B
 have HBA:Hid(BA w x S vp vn vl c s):=B
 have hxa:¬(x=w.heap.size):=by omega
 have hxb:¬(w.heap.size=x):=by omega
 have EN:Hid(Env w):=hE
 have GS:Hid(∀ b,S b->10<=b):=hG
 have ZG:Hid(10<=w.heap.size):=hZ
 clear hE hG hZ;have HS:Hid(∀ b,S b->b<w.heap.size):=B.sz
 have LATE:Hid(∀ Wc w5 M,Blk Wc M#[.int .u32 ba,.int .i64 l.g]80->w.heap.size<=M->Chg S Wc w5->Blk w5 M#[.int .u32 ba,.int .i64 l.g]80):=fun Wc w5 M h1 h2 h3=>(h3.block M h1.lt(fun q=>by have:=B.sz _ q;omega)).trans h1
 have HF:Hid(∀ Wc,Bl w Wc->Cr prog 106#[vp,.agg#[.int .u32 l.a,.int .i64 l.n]]Wc(.int .i64(ah s.pools l.a l.n))):=fun Wc hW=>gn s.pools l.a l.n vp Wc(fun q hq=>(hI.pa q hq).1)hL.a((Rd.of_owns(k:=3)(enc:=ak)(fun _=>rfl)hd0 B.op).below hW)
 rw[h1]at HF;have HSUB:Hid(∀ Wc,Bl w Wc->Calls prog 108#[.pointer(some⟨x,0,none⟩),.agg#[.int .u32 l.a,.int .i64 l.n,.string ok]]Wc fun e w'=>(∃ b c,e=.returned(.slice b(af s.nets l.a l.n).length c)/\Rd 3 ak hd0 w'(.slice b(af s.nets l.a l.n).length c)(af s.nets l.a l.n))/\Bl Wc w'):=fun Wc hW=>by
  refine(dY x s.nets⟨l.a,l.n,ok⟩vn Wc(Nat.lt_of_lt_of_le hx hW.size)((hW.cell(p:=⟨x,1,none⟩)hx).trans x1)((Rd.of_owns(k:=3)(enc:=ak)(fun _=>rfl)hd0 B.on).below hW)(by have:=hI.n;omega)(fun q hq=>(hI.na q hq).1)hL.a).mono ?_
  rintro e w'⟨vv,rfl,o1,o2⟩
  have o3:Rd 3 ak hd0 w' vv(af s.nets l.a l.n):=Rd.of_owns(k:=3)(enc:=ak)(fun _=>rfl)hd0 o1
  obtain⟨b,c,rfl,_,_⟩:=ae o1;exact⟨⟨b,c,rfl,o3⟩,o2⟩
 have HFB:Hid(∀ Wc v,Rd 3 ak hd0 Wc v(af s.nets l.a l.n)->Calls prog 111#[.agg#[.int .u32 l.a,.int .i64 l.n],v]Wc fun e w'=>(∃ b c,e=.returned(.slice b(aL 33(af s.nets l.a l.n)l.a l.n).length c)/\Rd 2 ek(0,0)w'(.slice b(aL 33(af s.nets l.a l.n)l.a l.n).length c)(aL 33(af s.nets l.a l.n)l.a l.n))/\Bl Wc w'):=fun Wc v hv=>by
  refine(eU(af s.nets l.a l.n)(fun q hq=>by have hm:=hI.na q(List.mem_filter.1 hq).1;exact⟨hm.1,(aj.1 hm.2.1).2.1⟩)v 33 om l.a l.n Wc hL.a hL.r(by have:=(aj.1 hL.r).1;omega)hv).mono ?_
  rintro e w'⟨vv,rfl,o1,o2⟩
  have o3:Rd 2 ek(0,0)w' vv(aL 33(af s.nets l.a l.n)l.a l.n):=Rd.of_owns(k:=2)(enc:=ek)(fun _=>rfl)(0,0)o1
  obtain⟨b,c,rfl,_,_⟩:=ae o1;exact⟨⟨b,c,rfl,o3⟩,o2⟩
 have HBF:Hid(∀ Wc v,Rd 2 ek(0,0)Wc v(aL 33(af s.nets l.a l.n)l.a l.n)->Cr prog 110#[v,.int .i64 l.g]Wc(.tuple#[.agg#[.int .u32(obA res),.int .i64(obN res)],.bool res.isSome])):=fun Wc v hv=>by
  rw[<- hres];exact gE _ l.g v Wc hv(by have h1:=fB(af s.nets l.a l.n)33 l.a l.n;have:2^33<=9223372036854775806:=(by decide);omega)
 generalize aL 33(af s.nets l.a l.n)l.a l.n=FR at HFB HBF
 generalize af s.nets l.a l.n=NO at HSUB HFB
 subst h4;simp only[obA,obN,Option.getD_some,Option.isSome_some]at HBF
 have HAD:Hid(∀ Wc,Bl w Wc->Calls prog 112#[.pointer(some⟨x,0,none⟩),.agg#[.int .u32 ba,.int .i64 l.g],.string l.o]Wc fun e w'=>e=.returned(.tuple#[])/\∃ S',aq w' x S'{ s with nets:=b9 s.nets⟨ba,l.g,l.o⟩ }/\(∀ b,S' b->S b\/Wc.heap.size<=b)/\Chg S Wc w'):=fun Wc hW=>ic Wc x S s ba l.g l.o hI(H.out.below hW)
 have HBT:Hid(∀ Wc,Env Wc->Cr prog 113#[.agg#[.int .u32 ba,.int .i64 l.g]]Wc(.string⟨(cC ba l.g).toArray⟩)):=fun Wc hE=>fo ba l.g Wc hE hba.1 hba.2
 generalize(⟨(cC ba l.g).toArray⟩:ByteArray)=tt at HBT ⊢
 have hkk:∀ q:Hd,(ak q).length=3:=fun _=>rfl
 have hrd:=Rd.of_owns hkk hd0 B.op;obtain⟨bq,cq,ev,hq1,hq2,hq3⟩:=hrd;obtain⟨gq,rfl,hq4,hq5⟩:=hq3(by intro e;rw[e]at hk;simp at hk)
 have hk5:=hq5 k hk;have hk6:(s.pools.getD k hd0).a=l.a/\(s.pools.getD k hd0).n=l.n:=by simpa[isH]using his
 have ROW:Hid(∀ wk,Bl w wk->wk.cell?⟨gq,k*3,none⟩=some(.int .u32 l.a)/\wk.cell?⟨gq,k*3+1,none⟩=some(.int .i64 l.n)/\wk.cell?⟨gq,k*3+2,none⟩=some(.string ok)/\gq<wk.heap.size):=fun wk hw =>
  ⟨(hw.cell(p:=⟨gq,k*3,none⟩)hq4).trans(by rw[<- hk6.1];exact hk5 0 _ rfl),(hw.cell(p:=⟨gq,k*3+1,none⟩)hq4).trans(by rw[<- hk6.2];exact hk5 1 _ rfl),(hw.cell(p:=⟨gq,k*3+2,none⟩)hq4).trans(by rw[<- hok];exact hk5 2 _ rfl),Nat.lt_of_lt_of_le hq4 hw.size⟩
 have hkz:(k:Int)<(s.pools.length:Int):=by omega
 have hkn:¬((k:Int)<0):=by omega
 have hk0:(0:Int)<=(k:Int):=by omega
 clear hq1 hq2 hq5 hk5 hk6 his hok;subst ev;obtain⟨bn,cn,en,_,_⟩:=ae B.on;subst en;have h6:¬(24:Int)<=(s.nets.length:Int):=by omega
 clear B;unfold lnC;go_enter func71,ntmps71
 go_wp2;go_region_held3(fun w'=>w'.cell?⟨x,0,none⟩=some(.slice(some⟨gq,0,none⟩)s.pools.length cq)/\w'.cell?⟨w.heap.size,3,none⟩=some(.int .u32 l.a)/\w'.cell?⟨w.heap.size,4,none⟩=some(.int .i64 l.n))(go_keep)(first|(go_at_call 106;refine(HF.out _ upB).mono ?_;rintro e w1⟨rfl,HQ⟩;have HB1:Hid(BW w l w1):=al upB(by simp)HQ;clear HQ;have HW1:Hid(Bl w w1):=(ab w l).trans(HB1.out.mono om);have LV1:=LIVE.out w1 HB1.out;have x0_1:=LV1.x0;have x1_1:=LV1.x1;have o_1:=LV1.o;have a_1:=LV1.a;have n_1:=LV1.n;have g_1:=LV1.g;have zx_1:=LV1.zx;have z0_1:=LV1.z0;have z1_1:=LV1.z1;have r0_1:=LV1.r0;have r1_1:=LV1.r1;have g0_1:=LV1.g0;have g1_1:=LV1.g1;obtain⟨e0_1,e1_1,e2_1,e3_1⟩:=ROW.out w1 HW1.out;clear LV1))
 all_goals(
  go_wp2;go_region_held3(fun w'=>w'.cell?⟨x,0,none⟩=some(.slice(some⟨gq,0,none⟩)s.pools.length cq)/\w'.cell?⟨w.heap.size,3,none⟩=some(.int .u32 l.a)/\w'.cell?⟨w.heap.size,4,none⟩=some(.int .i64 l.n)/\w'.cell?⟨w.heap.size,6,none⟩=some(.int .i64 l.g)/\w'.cell?⟨gq,k*3,none⟩=some(.int .u32 l.a)/\w'.cell?⟨gq,k*3+1,none⟩=some(.int .i64 l.n)/\w'.cell?⟨gq,k*3+2,none⟩=some(.string ok))(go_keep)(first|(go_at_call 108;refine(HSUB.out _(by have hp:=HW1.out;exact upB)).mono ?_;rintro e w2⟨⟨b2,c2,rfl,hr2⟩,HQ⟩;have HB2:Hid(BW w l w2):=al(by have hp:=HB1.out;exact upB)(by simp)HQ;(try have zm1_2:w1.heap.size<w2.heap.size:=(by have hh:=HQ.size;first|(simp at hh;omega)|(have h2:=zm1_1;simp at hh;omega)|(have h2:=zm1_1;omega)));(try have ca1_2:w2.cell?⟨w1.heap.size,0,none⟩=some(.int .u32 0):=(HQ.cell(p:=⟨w1.heap.size,0,none⟩)(by first|(simp;done)|(have hh:=zm1_1;simp;omega)|(have hh:=zm1_1;omega))).trans byA);(try have cb1_2:w2.cell?⟨w1.heap.size,1,none⟩=some(.int .i64 0):=(HQ.cell(p:=⟨w1.heap.size,1,none⟩)(by first|(simp;done)|(have hh:=zm1_1;simp;omega)|(have hh:=zm1_1;omega))).trans byA);(try have fa1_2:w2.frozen?⟨w1.heap.size,0,none⟩=false:=(HQ.frozen(p:=⟨w1.heap.size,0,none⟩)(by first|(simp;done)|(have hh:=zm1_1;simp;omega)|(have hh:=zm1_1;omega))).trans byA);(try have fb1_2:w2.frozen?⟨w1.heap.size,1,none⟩=false:=(HQ.frozen(p:=⟨w1.heap.size,1,none⟩)(by first|(simp;done)|(have hh:=zm1_1;simp;omega)|(have hh:=zm1_1;omega))).trans byA);clear HQ;have HW2:Hid(Bl w w2):=(ab w l).trans(HB2.out.mono om);have LV2:=LIVE.out w2 HB2.out;have x0_2:=LV2.x0;have x1_2:=LV2.x1;have o_2:=LV2.o;have a_2:=LV2.a;have n_2:=LV2.n;have g_2:=LV2.g;have zx_2:=LV2.zx;have z0_2:=LV2.z0;have z1_2:=LV2.z1;have r0_2:=LV2.r0;have r1_2:=LV2.r1;have g0_2:=LV2.g0;have g1_2:=LV2.g1;obtain⟨e0_2,e1_2,e2_2,e3_2⟩:=ROW.out w2 HW2.out;have ma1:¬(w1.heap.size=x):=(by have:=zx_1;omega);have mb1:¬(w1.heap.size=w.heap.size):=(by have:=z0_1;omega);have mc1:¬(w1.heap.size=gq):=(by have:=e3_1;omega);have md1:¬(w1.heap.size=w.heap.size+1):=(by have:=z1_1;omega);have HR2:Hid(Rd 3 ak hd0 w2(.slice b2 NO.length c2)NO):=hr2;clear hr2;clear LV2)|(go_at_call 111;refine(HFB.out _ _(HR2.out.below upB)).mono ?_;rintro e w3⟨⟨b3,c3,rfl,hr3⟩,HQ⟩;have HB3:Hid(BW w l w3):=al(by have hp:=HB2.out;exact upB)(by simp)HQ;(try have zm1_3:w1.heap.size<w3.heap.size:=(by have hh:=HQ.size;first|(simp at hh;omega)|(have h2:=zm1_2;simp at hh;omega)|(have h2:=zm1_2;omega)));(try have ca1_3:w3.cell?⟨w1.heap.size,0,none⟩=some(.int .u32 0):=(HQ.cell(p:=⟨w1.heap.size,0,none⟩)(by first|(simp;done)|(have hh:=zm1_2;simp;omega)|(have hh:=zm1_2;omega))).trans byA);(try have cb1_3:w3.cell?⟨w1.heap.size,1,none⟩=some(.int .i64 0):=(HQ.cell(p:=⟨w1.heap.size,1,none⟩)(by first|(simp;done)|(have hh:=zm1_2;simp;omega)|(have hh:=zm1_2;omega))).trans byA);(try have fa1_3:w3.frozen?⟨w1.heap.size,0,none⟩=false:=(HQ.frozen(p:=⟨w1.heap.size,0,none⟩)(by first|(simp;done)|(have hh:=zm1_2;simp;omega)|(have hh:=zm1_2;omega))).trans byA);(try have fb1_3:w3.frozen?⟨w1.heap.size,1,none⟩=false:=(HQ.frozen(p:=⟨w1.heap.size,1,none⟩)(by first|(simp;done)|(have hh:=zm1_2;simp;omega)|(have hh:=zm1_2;omega))).trans byA);(try have zm2_3:w2.heap.size<w3.heap.size:=(by have hh:=HQ.size;first|(simp at hh;omega)|(have h2:=zm2_2;simp at hh;omega)|(have h2:=zm2_2;omega)));(try have ca2_3:w3.cell?⟨w2.heap.size,0,none⟩=some(.int .u32 0):=(HQ.cell(p:=⟨w2.heap.size,0,none⟩)(by first|(simp;done)|(have hh:=zm2_2;simp;omega)|(have hh:=zm2_2;omega))).trans byA);(try have cb2_3:w3.cell?⟨w2.heap.size,1,none⟩=some(.int .i64 0):=(HQ.cell(p:=⟨w2.heap.size,1,none⟩)(by first|(simp;done)|(have hh:=zm2_2;simp;omega)|(have hh:=zm2_2;omega))).trans byA);(try have fa2_3:w3.frozen?⟨w2.heap.size,0,none⟩=false:=(HQ.frozen(p:=⟨w2.heap.size,0,none⟩)(by first|(simp;done)|(have hh:=zm2_2;simp;omega)|(have hh:=zm2_2;omega))).trans byA);(try have fb2_3:w3.frozen?⟨w2.heap.size,1,none⟩=false:=(HQ.frozen(p:=⟨w2.heap.size,1,none⟩)(by first|(simp;done)|(have hh:=zm2_2;simp;omega)|(have hh:=zm2_2;omega))).trans byA);clear HQ;have HW3:Hid(Bl w w3):=(ab w l).trans(HB3.out.mono om);have LV3:=LIVE.out w3 HB3.out;have x0_3:=LV3.x0;have x1_3:=LV3.x1;have o_3:=LV3.o;have a_3:=LV3.a;have n_3:=LV3.n;have g_3:=LV3.g;have zx_3:=LV3.zx;have z0_3:=LV3.z0;have z1_3:=LV3.z1;have r0_3:=LV3.r0;have r1_3:=LV3.r1;have g0_3:=LV3.g0;have g1_3:=LV3.g1;obtain⟨e0_3,e1_3,e2_3,e3_3⟩:=ROW.out w3 HW3.out;have ma2:¬(w2.heap.size=x):=(by have:=zx_2;omega);have mb2:¬(w2.heap.size=w.heap.size):=(by have:=z0_2;omega);have mc2:¬(w2.heap.size=gq):=(by have:=e3_2;omega);have md2:¬(w2.heap.size=w.heap.size+1):=(by have:=z1_2;omega);have HR3:Hid(Rd 2 ek(0,0)w3(.slice b3 FR.length c3)FR):=hr3;clear hr3;clear LV3)|(go_at_call 110;refine(HBF.out _ _(HR3.out.below upB)).mono ?_;rintro e w4⟨rfl,HQ⟩;have HB4:Hid(BW w l w4):=al(by have hp:=HB3.out;exact upB)(by simp)HQ;(try have zm1_4:w1.heap.size<w4.heap.size:=(by have hh:=HQ.size;first|(simp at hh;omega)|(have h2:=zm1_3;simp at hh;omega)|(have h2:=zm1_3;omega)));(try have ca1_4:w4.cell?⟨w1.heap.size,0,none⟩=some(.int .u32 0):=(HQ.cell(p:=⟨w1.heap.size,0,none⟩)(by first|(simp;done)|(have hh:=zm1_3;simp;omega)|(have hh:=zm1_3;omega))).trans byA);(try have cb1_4:w4.cell?⟨w1.heap.size,1,none⟩=some(.int .i64 0):=(HQ.cell(p:=⟨w1.heap.size,1,none⟩)(by first|(simp;done)|(have hh:=zm1_3;simp;omega)|(have hh:=zm1_3;omega))).trans byA);(try have fa1_4:w4.frozen?⟨w1.heap.size,0,none⟩=false:=(HQ.frozen(p:=⟨w1.heap.size,0,none⟩)(by first|(simp;done)|(have hh:=zm1_3;simp;omega)|(have hh:=zm1_3;omega))).trans byA);(try have fb1_4:w4.frozen?⟨w1.heap.size,1,none⟩=false:=(HQ.frozen(p:=⟨w1.heap.size,1,none⟩)(by first|(simp;done)|(have hh:=zm1_3;simp;omega)|(have hh:=zm1_3;omega))).trans byA);(try have zm2_4:w2.heap.size<w4.heap.size:=(by have hh:=HQ.size;first|(simp at hh;omega)|(have h2:=zm2_3;simp at hh;omega)|(have h2:=zm2_3;omega)));(try have ca2_4:w4.cell?⟨w2.heap.size,0,none⟩=some(.int .u32 0):=(HQ.cell(p:=⟨w2.heap.size,0,none⟩)(by first|(simp;done)|(have hh:=zm2_3;simp;omega)|(have hh:=zm2_3;omega))).trans byA);(try have cb2_4:w4.cell?⟨w2.heap.size,1,none⟩=some(.int .i64 0):=(HQ.cell(p:=⟨w2.heap.size,1,none⟩)(by first|(simp;done)|(have hh:=zm2_3;simp;omega)|(have hh:=zm2_3;omega))).trans byA);(try have fa2_4:w4.frozen?⟨w2.heap.size,0,none⟩=false:=(HQ.frozen(p:=⟨w2.heap.size,0,none⟩)(by first|(simp;done)|(have hh:=zm2_3;simp;omega)|(have hh:=zm2_3;omega))).trans byA);(try have fb2_4:w4.frozen?⟨w2.heap.size,1,none⟩=false:=(HQ.frozen(p:=⟨w2.heap.size,1,none⟩)(by first|(simp;done)|(have hh:=zm2_3;simp;omega)|(have hh:=zm2_3;omega))).trans byA);(try have zm3_4:w3.heap.size<w4.heap.size:=(by have hh:=HQ.size;first|(simp at hh;omega)|(have h2:=zm3_3;simp at hh;omega)|(have h2:=zm3_3;omega)));(try have ca3_4:w4.cell?⟨w3.heap.size,0,none⟩=some(.int .u32 0):=(HQ.cell(p:=⟨w3.heap.size,0,none⟩)(by first|(simp;done)|(have hh:=zm3_3;simp;omega)|(have hh:=zm3_3;omega))).trans byA);(try have cb3_4:w4.cell?⟨w3.heap.size,1,none⟩=some(.int .i64 0):=(HQ.cell(p:=⟨w3.heap.size,1,none⟩)(by first|(simp;done)|(have hh:=zm3_3;simp;omega)|(have hh:=zm3_3;omega))).trans byA);(try have fa3_4:w4.frozen?⟨w3.heap.size,0,none⟩=false:=(HQ.frozen(p:=⟨w3.heap.size,0,none⟩)(by first|(simp;done)|(have hh:=zm3_3;simp;omega)|(have hh:=zm3_3;omega))).trans byA);(try have fb3_4:w4.frozen?⟨w3.heap.size,1,none⟩=false:=(HQ.frozen(p:=⟨w3.heap.size,1,none⟩)(by first|(simp;done)|(have hh:=zm3_3;simp;omega)|(have hh:=zm3_3;omega))).trans byA);clear HQ;have HW4:Hid(Bl w w4):=(ab w l).trans(HB4.out.mono om);have LV4:=LIVE.out w4 HB4.out;have x0_4:=LV4.x0;have x1_4:=LV4.x1;have o_4:=LV4.o;have a_4:=LV4.a;have n_4:=LV4.n;have g_4:=LV4.g;have zx_4:=LV4.zx;have z0_4:=LV4.z0;have z1_4:=LV4.z1;have r0_4:=LV4.r0;have r1_4:=LV4.r1;have g0_4:=LV4.g0;have g1_4:=LV4.g1;obtain⟨e0_4,e1_4,e2_4,e3_4⟩:=ROW.out w4 HW4.out;have ma3:¬(w3.heap.size=x):=(by have:=zx_3;omega);have mb3:¬(w3.heap.size=w.heap.size):=(by have:=z0_3;omega);have mc3:¬(w3.heap.size=gq):=(by have:=e3_3;omega);have md3:¬(w3.heap.size=w.heap.size+1):=(by have:=z1_3;omega);clear LV4))
  all_goals(
   go_wp2_with(first|(go_at_call 112;refine(HAD.out _(by have hp:=HW4.out;exact upB)).mono ?_;rintro e w5⟨rfl,S3,o1,o2,o3⟩;have HG:Hid(∃ Wc,Bl w Wc/\w.heap.size+2<=Wc.heap.size/\(∀ b,S3 b->S b\/Wc.heap.size<=b)/\Chg S Wc w5):=⟨_,by have hp:=HW4.out;exact upB,by have hz:=HB4.out.size;simp at hz ⊢;omega,o2,o3⟩;have HA:Hid(aq w5 x S3{ s with nets:=b9 s.nets⟨ba,l.g,l.o⟩ }):=o1;have RB5:Hid(Blk w5(w.heap.size+1)#[.int .i64 0,.slice none 0 0]98):=(o3.block _(by have hz:=HB4.out.size;simp at hz ⊢;omega)(fun q=>by have:=HS.out _ q;omega)).trans(LIVE.out _(by have hp:=HB4.out;exact upB)).rb;have z1_5:w.heap.size+1<w5.heap.size:=RB5.out.lt;have HE5:Hid(Env w5):=(EN.out.mono(by have hp:=HW4.out;exact upB)).low(o3.low GS.out(by have hz:=HB4.out.size;have:=ZG.out;simp at hz ⊢;omega));first|(have qq:=LATE.out _ _ _(AL _ _ _ _)(Nat.le_succ_of_le(Nat.le_of_lt z0_4))o3;have q0:=qq.cell 0;have q1:=qq.cell 1;clear qq)|(have qq:=LATE.out _ _ _(Ba _ _ _ _ _ _ _)(Nat.le_of_lt z0_4)o3;have q0:=qq.cell 0;have q1:=qq.cell 1;clear qq);clear o1 o2 o3)|(go_at_call 113;refine(HBT.out _ HE5.out).mono ?_;rintro e w6⟨rfl,HQ⟩;have HT6:Hid(Bl w5 w6):=HQ;clear HQ;have zz_6:w5.heap.size<=w6.heap.size:=HT6.out.size)|(go_at_call 105;refine(eQ(some⟨w6.heap.size,0,none⟩)1 1 _).mono ?_;rintro e w7⟨rfl,HQ⟩;have HQ7:Hid(Bl w5 w7):=bup(Below.alloc HT6.out HT6.out.size _)HQ;have MC7:Hid(w6.heap.size<w7.heap.size/\w7.cell?⟨w6.heap.size,0,none⟩=some(.string tt)):=⟨by have:=HQ.size;simp at this;omega,(HQ.cell(p:=⟨w6.heap.size,0,none⟩)(by simp)).trans(by simp[go_sem])⟩;have RB7:Blk w7(w.heap.size+1)#[.int .i64 0,.slice none 0 0]98:=(HQ7.out.block _ z1_5).trans RB5.out;clear HQ;have HR7:Hid(Blk w7(w.heap.size+1)#[.int .i64 0,.slice none 0 0]98):=RB7;have r0_7:w7.cell?⟨w.heap.size+1,0,none⟩=some(.int .i64 0):=RB7.cell 0;have r1_7:w7.cell?⟨w.heap.size+1,1,none⟩=some(.slice none 0 0):=RB7.cell 1;have g0_7:w7.frozen?⟨w.heap.size+1,0,none⟩=false:=RB7.frozen 0;have g1_7:w7.frozen?⟨w.heap.size+1,1,none⟩=false:=RB7.frozen 1;clear RB7))
   obtain⟨kk0,kk1⟩:=ax HR7.out(.int .i64 0)(.slice(some⟨w6.heap.size,0,none⟩)1 1)
   obtain⟨Wc,hc1,hc2,hc3,hc4⟩:=HG.out;have hne:w6.heap.size≠w.heap.size+1:=by omega
   have hfin:=kz HS.out hc1 hc2 HA.out hc3 hc4 HQ7.out(eh tt)rfl(.slice(some⟨w6.heap.size,0,none⟩)1 1)(fun W' h1 h2=>yd(Nat.lt_of_lt_of_le MC7.out.1 h2)((World.cell?_of_block(a:=⟨w6.heap.size,0,none⟩)(h1 _ hne)).trans MC7.out.2))
   exact bodyPost_ret(v:=.agg#[.int .i64 0,.slice(some⟨w6.heap.size,0,none⟩)1 1])(by simp[results,results71,go_sem,kk0,kk1])rfl hfin))
theorem tf(uz:Int):∀ (L:List Ls)(x y:Int),x<=uz->bM uz x L=some y->x<=y/\y<=uz:=by
 intro L;induction L with
 | nil=>intro x y hx h;simp[bM]at h;omega
 | cons z r ih =>
  intro x y hx h;unfold bM at h;split at h
  ·simp at h;omega
  ·split at h
   ·cases h
   ·have:=ih(x+1)y om h
    omega
theorem jk{ls:List Ls}{a n y:Int}(ha:ad a)(hr:rt a n=true)(h:dp ls a n=some y):ad y:=by
 obtain⟨u0,u1,u2⟩:=Bg a n ha hr;have:=tf _ _ _ _ u1 h
 unfold ad at u0 ⊢
 omega
theorem iU{bits:Int}(L:List(Int×Int)):∀ (s:Option(Int×Int))(b:Int×Int),L.foldl(aW bits)s=some b->(b∈L/\b.2<=bits)\/s=some b:=by
 induction L with
 | nil=>intro s b h;exact .inr h
 | cons c r ih =>
  intro s b h;rw[List.foldl_cons]at h;rcases ih _ b h with⟨h1,h2⟩|h1
  ·exact .inl⟨List.mem_cons_of_mem _ h1,h2⟩
  ·unfold aW at h1;split at h1
   ·rename_i hc
    cases s with
    | none=>simp at h1;subst h1;exact .inl⟨List.mem_cons_self,hc⟩
    | some d =>
     simp only at h1
     split at h1
     ·simp at h1;subst h1;exact .inl⟨List.mem_cons_self,hc⟩
     ·exact .inr h1
   ·exact .inr h1
theorem iS(l:List Hd)(hl:∀ h,h∈l->h.n<=32)(k:Nat):∀ (a n:Int),ad a->rt a n=true->∀ b,b∈aL k l a n->ad b.1/\rt b.1 b.2=true:=by
 induction k with
 | zero=>intro a n _ _ b hb;simp[aL]at hb
 | succ k ih =>
  intro a n ha hr b hb;simp only[aL]at hb
  split at hb
  ·simp at hb;subst hb;exact⟨ha,hr⟩
  ·rename_i h1;split at hb
   ·simp at hb
   ·rename_i h2;have hn:=pH hl(by simpa using h1)om
    obtain⟨⟨p1,p2⟩,p3,p4⟩:=tN ha hr hn;rcases List.mem_append.1 hb with q|q
    ·exact ih _ _ p1 p2 b q
    ·exact ih _ _ p3 p4 b q
theorem wF(w:World)(x:Nat)(S:Nat->Prop)(s:Bk)(l:Ln)(hI:Inv s)(hL:aY l)(h:aq w x S s)(hE:Env w)(hG:∀ b,S b->10<=b)(hZ:10<=w.heap.size):Calls prog 74#[.pointer(some⟨x,0,none⟩),.agg(lnC l)]w(Res w x S(bS s l)):=by
 unfold bS;rcases aT(isH l.a l.n)s.nets hd0 with⟨e,_⟩|⟨k,hk,e,hp,_⟩
 ·have e1:ah s.nets l.a l.n=-1:=e
  rw[if_pos(by rw[e1];decide)];exact rN w x S s l hI hL h e1
 ·have e1:ah s.nets l.a l.n=k:=e
  rw[if_neg(by rw[e1];omega)]
  have hk6:(s.nets.getD k hd0).a=l.a/\(s.nets.getD k hd0).n=l.n:=by simpa[isH]using hp
  rcases hlf:dp s.leases l.a l.n with _|y
  ·exact sQ w x S s l hI hL h k _ hk e1 rfl(by rw[hk6.1,hk6.2];exact hlf)
  ·have hy:=jk hL.a hL.r hlf;have hlf2:dp s.leases(s.nets.getD k hd0).a(s.nets.getD k hd0).n=some y:=by rw[hk6.1,hk6.2];exact hlf
   dsimp only;by_cases h5:40<=s.leases.length
   ·rw[if_pos h5];exact qF w x S s l hI hL h k _ hk e1 rfl y hlf2 h5
   ·rw[if_neg h5];exact AF w x S s l hI hL h k _ hk e1 rfl y hy hlf2 h5 hE hG hZ
theorem wN(w:World)(x:Nat)(S:Nat->Prop)(s:Bk)(l:Ln)(hI:Inv s)(hL:aY l)(h:aq w x S s)(hE:Env w)(hG:∀ b,S b->10<=b)(hZ:10<=w.heap.size):Calls prog 71#[.pointer(some⟨x,0,none⟩),.agg(lnC l)]w(Res w x S(dE s l)):=by
 unfold dE;rcases aT(isH l.a l.n)s.pools hd0 with⟨e,_⟩|⟨k,hk,e,hp,_⟩
 ·have e1:ah s.pools l.a l.n=-1:=e
  rw[if_pos(by rw[e1];decide)];exact AU w x S s l hI hL h e1
 ·have e1:ah s.pools l.a l.n=k:=e
  rw[if_neg(by rw[e1];omega)]
  by_cases h2:l.g<22\/l.g<l.n
  ·rw[if_pos h2];exact vU w x S s l hI hL h k _ hk e1 hp rfl h2
  ·rw[if_neg h2];have n1:¬l.g<22:=fun q=>h2(.inl q)
   have n2:¬l.g<l.n:=fun q=>h2(.inr q)
   rcases hb:dH(aL 33(af s.nets l.a l.n)l.a l.n)l.g with _|⟨ba,bn⟩
   ·exact Bh w x S s l hI hL h k _ hk e1 hp rfl _ hb n1 n2 rfl
   ·have hmem:=iU _ none _ hb;have hin:(ba,bn)∈aL 33(af s.nets l.a l.n)l.a l.n/\bn<=l.g:=by
     rcases hmem with q|q
     ·exact q
     ·cases q
    have hrt:=iS(af s.nets l.a l.n)(fun q hq=>by have hm:=hI.na q(List.mem_filter.1 hq).1;exact(aj.1 hm.2.1).2.1)33 l.a l.n hL.a hL.r _ hin.1
    have hba:ad ba/\rt ba l.g=true:=by
     obtain⟨g0,g1,g2⟩:=aj.1 hrt.2;exact⟨hrt.1,aj.2⟨by have:=hin.2;omega,hL.g1,ei ba bn l.g hin.2 hL.g1 g2⟩⟩
    dsimp only;by_cases h5:24<=s.nets.length
    ·rw[if_pos h5];exact xg w x S s l hI hL h k _ hk e1 hp rfl _ hb n1 n2 _ rfl h5
    ·rw[if_neg h5];exact E9 w x S s l hI hL h k _ hk e1 hp rfl _ hb n1 n2 ba bn hba rfl h5 hE hG hZ
end Go.Proofs.YtjnhhnbgjjkkjaaGreatDoor
namespace Go.Proofs.YtjnhhnbgjjkkjaaGreatDoor
theorem xG{α:Type}(f:α->Int)(d:α)(l:List α):Up f d l ↔ l.Pairwise(fun a b=>f a<=f b):=by
 rw[List.pairwise_iff_getElem];constructor
 ·intro h i j hi hj hij;have:=h i j om hj
  simpa[List.getD_eq_getElem?_getD,List.getElem?_eq_getElem hi,List.getElem?_eq_getElem hj]using this
 ·intro h i j hij hj;have hi:i<l.length:=by omega
  rcases Nat.lt_or_ge i j with q|q
  ·have:=h i j hi hj q
   simpa[List.getD_eq_getElem?_getD,List.getElem?_eq_getElem hi,List.getElem?_eq_getElem hj]using this
  ·obtain rfl:i=j:=by omega
   exact Int.le_refl _
theorem DQ{α:Type}(f:α->Int)(a:Int)(l:List α)(h:l.Pairwise(fun a b=>f a<=f b)) :
  (∀ y,y∈l.take(l.countP fun y=>decide(f y<a))->f y<a)/\∀ y,y∈l.drop(l.countP fun y=>decide(f y<a))->a<=f y:=by
 induction l with
 | nil=>simp
 | cons x r ih =>
  have hr:=List.pairwise_cons.1 h;have ih:=ih hr.2;by_cases hx:f x<a
  ·rw[List.countP_cons_of_pos(by simpa using hx)]
   refine⟨fun y hy=>?_,fun y hy=>ih.2 y(by simpa using hy)⟩
   rw[List.take_succ_cons]at hy;rcases List.mem_cons.1 hy with rfl|hy
   ·exact hx
   ·exact ih.1 y hy
  ·have h0:(x::r).countP(fun y=>decide(f y<a))=0:=by
    rw[List.countP_eq_zero];intro y hy;rcases List.mem_cons.1 hy with rfl|hy
    ·simpa using hx
    ·have:=hr.1 y hy;simp;omega
   rw[h0];refine⟨by simp,fun y hy=>?_⟩
   rcases List.mem_cons.1(by simpa using hy)with rfl|hy
   ·omega
   ·have:=hr.1 y hy;omega
theorem sL{α:Type}(f:α->Int)(d x:α)(l:List α)(h:Up f d l):Up f d(l.take(l.countP fun y=>decide(f y<f x))++x::l.drop(l.countP fun y=>decide(f y<f x))):=by
 rw[xG]at h ⊢;have hc:=DQ f(f x)l h
 refine List.pairwise_append.2⟨h.sublist(List.take_sublist _ _),List.pairwise_cons.2⟨fun y hy=>hc.2 y hy,h.sublist(List.drop_sublist _ _)⟩,fun y hy z hz=>?_⟩
 have h1:=hc.1 y hy;rcases List.mem_cons.1 hz with rfl|hz
 ·omega
 ·have:=hc.2 z hz;omega
theorem f8{α:Type}(l:List α)(k:Nat):List.Sublist(az l k)l:=by
 unfold az;have h:=(List.Sublist.refl(l.take k)).append(show List.Sublist(l.drop(k+1))(l.drop k)by rw[<- List.drop_drop];exact List.drop_sublist _ _)
 rwa [List.take_append_drop]at h
theorem rC{α:Type}(f:α->Int)(d:α)(l:List α)(k:Nat)(h:Up f d l):Up f d(az l k):=by
 rw[xG]at h ⊢;exact h.sublist(f8 l k)
theorem nQ{α:Type}{l:List α}{c:Nat}{x y:α}(h:y∈l.take c++x::l.drop c):y=x\/y∈l:=by
 rcases List.mem_append.1 h with h|h
 ·exact .inr(List.mem_of_mem_take h)
 ·rcases List.mem_cons.1 h with h|h
  ·exact .inl h
  ·exact .inr(List.mem_of_mem_drop h)
theorem oA{α:Type}(l:List α)(c:Nat)(x:α):(l.take c++x::l.drop c).length=l.length+1:=by simp;omega
theorem wh{s:Bk}(h:Inv s)(x:Hd)(hn:¬6<=s.pools.length)(hx:ad x.a/\rt x.a x.n=true/\8<=x.n/\x.n<=30/\x.o.size<=8):Inv{ s with pools:=b9 s.pools x } :=
 ⟨by have:=oA s.pools(fa s.pools x.a)x;simp only[b9];omega,h.n,h.l,h.t,fun y hy=>(nQ hy).elim(fun e=>e ▸ hx)(h.pa y),h.na,h.la,sL Hd.a hd0 x s.pools h.pu,h.nu,h.lu⟩
theorem qj{s:Bk}(h:Inv s)(x:Hd)(hn:¬24<=s.nets.length)(hx:ad x.a/\rt x.a x.n=true/\22<=x.n/\x.o.size<=8):Inv{ s with nets:=b9 s.nets x } :=
 ⟨h.p,by have:=oA s.nets(fa s.nets x.a)x;simp only[b9];omega,h.l,h.t,h.pa,fun y hy=>(nQ hy).elim(fun e=>e ▸ hx)(h.na y),h.la,h.pu,sL Hd.a hd0 x s.nets h.nu,h.lu⟩
theorem k7{s:Bk}(h:Inv s)(x:Ls)(hn:¬40<=s.leases.length)(hx:ad x.a/\x.o.size<=8):Inv{ s with leases:=dL s.leases x } :=
 ⟨h.p,h.n,by have:=oA s.leases(bL s.leases x.a)x;simp only[dL];omega,h.t,h.pa,h.na,fun y hy=>(nQ hy).elim(fun e=>e ▸ hx)(h.la y),h.pu,h.nu,sL Ls.a ls0 x s.leases h.lu⟩
theorem lX{s:Bk}(h:Inv s)(k:Nat):Inv{ s with pools:=az s.pools k } :=
 ⟨Nat.le_trans(f8 _ _).length_le h.p,h.n,h.l,h.t,fun y hy=>h.pa y((f8 _ _).subset hy),h.na,h.la,rC _ _ _ _ h.pu,h.nu,h.lu⟩
theorem oC{s:Bk}(h:Inv s)(k:Nat):Inv{ s with nets:=az s.nets k } :=
 ⟨h.p,Nat.le_trans(f8 _ _).length_le h.n,h.l,h.t,h.pa,fun y hy=>h.na y((f8 _ _).subset hy),h.la,h.pu,rC _ _ _ _ h.nu,h.lu⟩
theorem lN{s:Bk}(h:Inv s)(k:Nat):Inv{ s with leases:=az s.leases k } :=
 ⟨h.p,h.n,Nat.le_trans(f8 _ _).length_le h.l,h.t,h.pa,h.na,fun y hy=>h.la y((f8 _ _).subset hy),h.pu,h.nu,rC _ _ _ _ h.lu⟩
theorem BD{s:Bk}{l:Ln}(hI:Inv s)(hL:aY l):Inv(dE s l).1:=by
 unfold dE;by_cases h1:ah s.pools l.a l.n<0
 ·rw[if_pos h1];exact hI
 ·rw[if_neg h1];by_cases h2:l.g<22\/l.g<l.n
  ·rw[if_pos h2];exact hI
  ·rw[if_neg h2];have n1:¬l.g<22:=fun q=>h2(.inl q)
   have n2:¬l.g<l.n:=fun q=>h2(.inr q)
   rcases hb:dH(aL 33(af s.nets l.a l.n)l.a l.n)l.g with _|⟨ba,bn⟩
   ·exact hI
   ·have hmem:=iU _ none _ hb;have hin:(ba,bn)∈aL 33(af s.nets l.a l.n)l.a l.n/\bn<=l.g:=by
     rcases hmem with q|q
     ·exact q
     ·cases q
    have hrt:=iS(af s.nets l.a l.n)(fun q hq=>by have hm:=hI.na q(List.mem_filter.1 hq).1;exact(aj.1 hm.2.1).2.1)33 l.a l.n hL.a hL.r _ hin.1
    have hba:ad ba/\rt ba l.g=true:=by
     obtain⟨g0,g1,g2⟩:=aj.1 hrt.2;exact⟨hrt.1,aj.2⟨by have:=hin.2;omega,hL.g1,ei ba bn l.g hin.2 hL.g1 g2⟩⟩
    dsimp only;by_cases h5:24<=s.nets.length
    ·rw[if_pos h5];exact hI
    ·rw[if_neg h5];exact qj hI _ h5⟨hba.1,hba.2,by dsimp only;omega,hL.o⟩
theorem v7{s:Bk}{l:Ln}(hI:Inv s)(hL:aY l):Inv(bS s l).1:=by
 unfold bS;by_cases h1:ah s.nets l.a l.n<0
 ·rw[if_pos h1];exact hI
 ·rw[if_neg h1];rcases hlf:dp s.leases l.a l.n with _|y
  ·exact hI
  ·dsimp only;by_cases h5:40<=s.leases.length
   ·rw[if_pos h5];exact hI
   ·rw[if_neg h5];exact k7 hI _ h5⟨jk hL.a hL.r hlf,hL.o⟩
theorem Ac{s:Bk}{l:Ln}(hI:Inv s)(hL:aY l):Inv(aG s l).1:=by
 unfold aG;split
 ·unfold cm;split
  ·exact hI
  ·rename_i h1;split
   ·exact hI
   ·split
    ·exact hI
    ·rename_i h3;exact wh hI _ h3⟨hL.a,hL.r,by dsimp only;omega,by dsimp only;omega,hL.o⟩
 ·unfold cP;repeat' split
  all_goals first|exact hI|exact lX hI _
 ·exact BD hI hL
 ·unfold bG;split
  ·exact hI
  ·rename_i h1;split
   ·exact hI
   ·split
    ·exact hI
    ·split
     ·exact hI
     ·rename_i h4;exact qj hI _ h4⟨hL.a,hL.r,by dsimp only;omega,hL.o⟩
 ·unfold cO;repeat' split
  all_goals first|exact hI|exact oC hI _
 ·exact v7 hI hL
 ·unfold co;split
  ·exact hI
  ·split
   ·exact hI
   ·split
    ·exact hI
    ·split
     ·exact hI
     ·rename_i h4;exact k7 hI _ h4⟨hL.d,hL.o⟩
 ·unfold cQ;repeat' split
  all_goals first|exact hI|exact lN hI _
 all_goals exact hI
end Go.Proofs.YtjnhhnbgjjkkjaaGreatDoor
