import Derived.WalkLawsBesides
import Derived.WalkSpells
import Derived.BigQuiet
import Derived.Deep.RegionHeld3
import Derived.Deep.DrawnRows
import Derived.Test.YtjnhhnbgjjkkjaaGreatDoorRePAA
import Derived.Test.YtjnhhnbgjjkkjaaGreatDoorRows
set_option linter.all false
set_option maxRecDepth 100000
set_option maxHeartbeats 2000000
namespace Go.Proofs.YtjnhhnbgjjkkjaaGreatDoor
section
open Go.ChangeShapes Go.WideShapes Go.ChangeAt Go.RowKit Go.Proofs.Tryz
theorem jg(n:Int)(w:World)(h0:0<=n)(h1:n<=32):Calls prog 215 #[I6 n] w fun e w'=>e=.returned (U3 (4294967296-sz n))/\w'=w:=by
 go_enter func215,ntmps215
 go_wp2;go_ret;exact⟨cM (zZ n h0 h1),rfl⟩
theorem aS{W w1:World}(hb:Bl W w1):(∀ b o,b<W.heap.size->w1.cell? (At b o)=W.cell? (At b o))/\(∀ b o,b<W.heap.size->w1.frozen? (At b o)=W.frozen? (At b o)) :=
 ⟨fun b o h=>hb.cell (p:=At b o) h,fun b o h=>hb.frozen (p:=At b o) h⟩
theorem cQ(a n:Int)(w:World)(ha:0<=a)(hb:a<4294967296):Cr prog 198 #[.agg #[U3 a,I6 n]] w (.bool (rt a n)):=by
 by_cases h0:0<=n
 ·by_cases h1:n<=32
  ·have e:=pj a n h0 h1 ha hb;have hr:Hid (rt a n=(a%sz n==0)):=Eb h0 h1
   go_enter func198,ntmps198
   go_wp2;go_quiet ((go_at_call 215;exact Calls.quiet_of_same (jg _ _ h0 h1)))
   go_wp2;go_ret;exact⟨aC hr.o.symm,upB⟩
  ·have hr:Hid (rt a n=false):=oL om
   have hd:decide (n<=32)=false:=by simpa using h1
   go_enter func198,ntmps198
   go_wp2;go_quiet (fail)
   go_wp2;go_ret;exact⟨aC hr.o.symm,upB⟩
 ·have hr:Hid (rt a n=false):=oL om
  have hd:decide (0<=n)=false:=by simpa using h0
  go_enter func198,ntmps198
  go_wp2;go_quiet (fail)
  go_wp2;go_ret;exact⟨aC hr.o.symm,upB⟩
theorem ib(n:Int)(w:World)(h0:0<=n)(h1:n<=32):Calls prog 244 #[I6 n] w fun e w'=>e=.returned (I6 (sz n))/\w'=w:=by
 go_enter func244,ntmps244
 go_wp2;go_loop [3,4] (fun t i=>∃ k:Int,n<=k/\k<=32/\i=I6 k/\t=I6 (2^(k-n).toNat)) (fun _ i=>(32-intOf i).toNat)
 case atStart=>exact⟨n,by omega,by omega,rfl,by simp⟩
 case round =>
  obtain⟨k,hk0,hk1,rfl,rfl⟩:=hrel;have hp:(0:Int)<2^(k-n).toNat:=Int.pow_pos dE
  have hq:(2:Int)^(k-n).toNat<=4294967296:=Fq k n hk0 hk1 h0
  by_cases hlt:k<32
  ·go_wp2;go_round
   case rel=>exact⟨k+1,by omega,by omega,rfl,by rw[Fs k n hk0]⟩
   case measure=>simp[intOf];omega
  ·go_wp2;go_ret;exact⟨cM (by unfold sz;rw[show k=32 by omega]),rfl⟩
theorem bW(a n:Int)(w:World)(ha:0<=a)(hb:a<4294967296):Cr prog 223 #[.agg #[U3 a,I6 n]] w (.bool (rt a n)):=by
 by_cases h0:n<0
 ·have hr:Hid (rt a n=false):=oL om
  go_enter func223,ntmps223
  go_wp2;go_ret;exact⟨aC hr.o.symm,upB⟩
 ·by_cases h1:32<n
  ·have hr:Hid (rt a n=false):=oL om
   go_enter func223,ntmps223
   go_wp2;go_ret;exact⟨aC hr.o.symm,upB⟩
  ·have hr:Hid (rt a n=(a%sz n==0)):=Eb om om
   have hp:=aD n;have hl:=gO n om;go_enter func223,ntmps223
   go_wp2_with (go_at_call 244;refine(ib _ _ om om).mono ?_;rintro e w' ⟨rfl,rfl⟩)
   go_ret;exact⟨aC hr.o.symm,upB⟩
attribute [local go_sem ↓] Go.wp_at_zero Go.wp_at_succ
theorem gL(a n:Int)(w:World)(ha:0<=a)(hb:a<4294967296)(hr:rt a n=true)(h:n≠0):Cr prog 247 #[.agg #[U3 a,I6 n]] w (.tuple #[.agg #[U3 (par a n),I6 (n-1)],I6 (0)]):=by
 obtain⟨h0,h1,h2⟩:=aj.1 hr;have hn:(n==0)=false:=by simpa using h
 have hp:=aD (n-1)
 have hl:=gO (n-1) om
 have e:Hid (a / sz (n-1)*sz (n-1)=par a n):=rfl
 have hb0:=tj a n h1 ha hb;obtain⟨e0,e1⟩:0<=a / sz (n-1)*sz (n-1)/\a / sz (n-1)*sz (n-1)<4294967296:=by rw[e.o];omega
 clear h2 hb0;go_enter func247,ntmps247
 go_wp2_with (first|(go_at_call 223;refine Mo (bW _ _ _ ha hb) fun w1 hb1=>?_;obtain⟨hc,hf⟩:=aS hb1;have hk0:w1.cell? (Nw w 0)=some (U3 a):=(by simp[hc,go_sem]);have hk1:w1.cell? (Nw w 1)=some (I6 n):=(by simp[hc,go_sem]);have hk1a:w1.cell? (At (w.heap.size+1) 0)=some (U3 0):=(by simp[hc,go_sem]);have hk1b:w1.cell? (At (w.heap.size+1) 1)=some (I6 0):=(by simp[hc,go_sem]);have hk1c:w1.frozen? (At (w.heap.size+1) 0)=false:=(by simp[hf,go_sem]);have hk1d:w1.frozen? (At (w.heap.size+1) 1)=false:=(by simp[hf,go_sem]);have hz1:w.heap.size+1<w1.heap.size:=(by have:=hb1.size;(try simp at this);omega);have hz0:w.heap.size<w1.heap.size:=(by have:=hb1.size;(try simp at this);omega);clear hc hf)|(go_at_call 244;refine(ib _ _ om om).mono ?_;rintro e w' ⟨rfl,rfl⟩))
 go_region
 all_goals (go_wp2;rw[e.o];exact bodyPost_ret (v:=.tuple #[.agg #[U3 (par a n),I6 (n-1)],I6 (0)]) (by simp[results,results247,go_sem,hk1a,hk1b,hk1c,hk1d,World.cell?_alloc_lt,hz1,Nat.lt_succ_of_lt hz1]) rfl ⟨rfl,(by have hq:=hb1.mono (B':=w.heap.size) byO;have hq2:=Below.trans (B:=w.heap.size) (a:=w) upB hq;clear hq;exact upB)⟩)
theorem qV(a n:Int)(w:World)(ha:0<=a)(hb:a<4294967296)(hr:rt a n=true)(h:n≠32):Cr prog 258 #[.agg #[U3 a,I6 n]] w (.tuple #[.agg #[U3 (a),I6 (n+1)],.agg #[U3 (a+sz (n+1)),I6 (n+1)],I6 (0)]):=by
 obtain⟨h0,h1,h2⟩:=aj.1 hr;have hn:(n==32)=false:=by simpa using h
 have hp:=aD (n+1)
 have hl:=gO (n+1) om
 have he:=yT a n h0 om ha hb h2;clear h2;go_enter func258,ntmps258
 go_wp2_with (first|(go_at_call 223;refine Mo (bW _ _ _ ha hb) fun w1 hb1=>?_;obtain⟨hc,hf⟩:=aS hb1;have hk0:w1.cell? (Nw w 0)=some (U3 a):=(by simp[hc,go_sem]);have hk1:w1.cell? (Nw w 1)=some (I6 n):=(by simp[hc,go_sem]);have hk1a:w1.cell? (At (w.heap.size+1) 0)=some (U3 0):=(by simp[hc,go_sem]);have hk1b:w1.cell? (At (w.heap.size+1) 1)=some (I6 0):=(by simp[hc,go_sem]);have hk1c:w1.frozen? (At (w.heap.size+1) 0)=false:=(by simp[hf,go_sem]);have hk1d:w1.frozen? (At (w.heap.size+1) 1)=false:=(by simp[hf,go_sem]);have hk2a:w1.cell? (At (w.heap.size+1+1) 0)=some (U3 0):=(by simp[hc,go_sem]);have hk2b:w1.cell? (At (w.heap.size+1+1) 1)=some (I6 0):=(by simp[hc,go_sem]);have hk2c:w1.frozen? (At (w.heap.size+1+1) 0)=false:=(by simp[hf,go_sem]);have hk2d:w1.frozen? (At (w.heap.size+1+1) 1)=false:=(by simp[hf,go_sem]);have hz2:w.heap.size+1+1<w1.heap.size:=(by have:=hb1.size;(try simp at this);omega);have hz1:w.heap.size+1<w1.heap.size:=(by have:=hb1.size;(try simp at this);omega);have hz0:w.heap.size<w1.heap.size:=(by have:=hb1.size;(try simp at this);omega);clear hc hf)|(go_at_call 244;refine(ib _ _ om om).mono ?_;rintro e w' ⟨rfl,rfl⟩))
 go_region
 all_goals (go_wp2;exact bodyPost_ret (v:=.tuple #[.agg #[U3 (a),I6 (n+1)],.agg #[U3 (a+sz (n+1)),I6 (n+1)],I6 (0)]) (by simp[results,results258,go_sem,hk1a,hk1b,hk1c,hk1d,hk2a,hk2b,hk2c,hk2d,World.cell?_alloc_lt,hz1,hz2,Nat.lt_succ_of_lt hz1,Nat.lt_succ_of_lt hz2]) rfl ⟨rfl,(by have hq:=hb1.mono (B':=w.heap.size) byO;have hq2:=Below.trans (B:=w.heap.size) (a:=w) upB hq;clear hq;exact upB)⟩)
theorem kE(a n:Int)(w:World)(ha:0<=a)(hb:a<4294967296)(h0:1<=n)(h1:n<=32):Cr prog 258 #[.agg #[U3 (par a n),I6 (n-1)]] w (.tuple #[.agg #[U3 (par a n),I6 (n)],.agg #[U3 (par a n+sz n),I6 (n)],I6 (0)]):=by
 have hp:=tj a n h1 ha hb;have h:=qV (par a n) (n-1) w om om (Ar a n h0 h1) om
 rw[show n-1+1=n by omega] at h
 exact h
theorem tw(a n:Int)(w:World)(ha:0<=a)(hb:a<4294967296)(hr:rt a n=true)(h:n≠0):Cr prog 246 #[.agg #[U3 a,I6 n]] w (.tuple #[.agg #[U3 (bud a n),I6 (n)],I6 (0)]):=by
 obtain⟨h0,h1,h2⟩:=aj.1 hr;clear h2;by_cases hq:par a n=a
 ·have hu:bud a n=par a n+sz n:=by unfold bud;rw[if_pos hq,hq]
  have hq':(par a n==a)=true:=by simpa using hq
  rw[hu];clear hq hu;go_enter func246,ntmps246
  go_wp2_with (first|(go_at_call 247;refine Mo (gL _ _ _ ha hb hr h) fun w1 hb1=>?_;obtain⟨hc,hf⟩:=aS hb1;have hk0:w1.cell? (Nw w 0)=some (U3 a):=(by simp[hc,go_sem]);have hk1:w1.cell? (Nw w 1)=some (I6 n):=(by simp[hc,go_sem]);have hk1a:w1.cell? (At (w.heap.size+1) 0)=some (U3 0):=(by simp[hc,go_sem]);have hk1b:w1.cell? (At (w.heap.size+1) 1)=some (I6 0):=(by simp[hc,go_sem]);have hk1c:w1.frozen? (At (w.heap.size+1) 0)=false:=(by simp[hf,go_sem]);have hk1d:w1.frozen? (At (w.heap.size+1) 1)=false:=(by simp[hf,go_sem]);have hz1:w.heap.size+1<w1.heap.size:=(by have:=hb1.size;(try simp at this);omega);have hz0:w.heap.size<w1.heap.size:=(by have:=hb1.size;(try simp at this);omega);clear hc hf)|(go_at_call 258;refine Mo (kE _ _ _ ha hb om h1) fun w2 hb2=>?_;obtain⟨hc2,hf2⟩:=aS hb2;have hl0:w2.cell? (Nw w 0)=some (U3 a):=(by rw[hc2 _ _ byO,World.cell?_alloc_past _ _ _ hz0];exact hk0);have hl1:w2.cell? (Nw w 1)=some (I6 n):=(by rw[hc2 _ _ byO,World.cell?_alloc_past _ _ _ hz0];exact hk1);have hl1a:w2.cell? (At (w.heap.size+1) 0)=some (U3 0):=(by rw[hc2 _ _ byO,World.cell?_alloc_past _ _ _ hz1];exact hk1a);have hl1b:w2.cell? (At (w.heap.size+1) 1)=some (I6 0):=(by rw[hc2 _ _ byO,World.cell?_alloc_past _ _ _ hz1];exact hk1b);have hl1c:w2.frozen? (At (w.heap.size+1) 0)=false:=(by rw[hf2 _ _ byO,World.frozen?_alloc_past _ _ _ hz1];exact hk1c);have hl1d:w2.frozen? (At (w.heap.size+1) 1)=false:=(by rw[hf2 _ _ byO,World.frozen?_alloc_past _ _ _ hz1];exact hk1d);have hy0:w.heap.size<w2.heap.size:=(by have:=hb2.size;(try simp at this);omega);have hy1:w.heap.size+1<w2.heap.size:=(by have:=hb2.size;(try simp at this);omega);clear hc2 hf2))
  exact bodyPost_ret (v:=.tuple #[.agg #[U3 (par a n+sz n),I6 (n)],I6 (0)]) (by simp[results,results246,go_sem,hl1a,hl1b,hl1c,hl1d,World.cell?_alloc_lt,hy1,Nat.lt_succ_of_lt hy1]) rfl ⟨rfl,(by have hq:=hb1.mono (B':=w.heap.size) byO;have hq2:=Below.trans (B:=w.heap.size) (a:=w) upB hq;clear hq;have hq3:=Below.trans (B:=w.heap.size) (a:=w) upB (hb2.mono (B':=w.heap.size) byO);clear hq2;exact upB)⟩
 ·have hu:bud a n=par a n:=by unfold bud;rw[if_neg hq]
  have hq':(par a n==a)=false:=by simpa using hq
  rw[hu];clear hq hu;go_enter func246,ntmps246
  go_wp2_with (first|(go_at_call 247;refine Mo (gL _ _ _ ha hb hr h) fun w1 hb1=>?_;obtain⟨hc,hf⟩:=aS hb1;have hk0:w1.cell? (Nw w 0)=some (U3 a):=(by simp[hc,go_sem]);have hk1:w1.cell? (Nw w 1)=some (I6 n):=(by simp[hc,go_sem]);have hk1a:w1.cell? (At (w.heap.size+1) 0)=some (U3 0):=(by simp[hc,go_sem]);have hk1b:w1.cell? (At (w.heap.size+1) 1)=some (I6 0):=(by simp[hc,go_sem]);have hk1c:w1.frozen? (At (w.heap.size+1) 0)=false:=(by simp[hf,go_sem]);have hk1d:w1.frozen? (At (w.heap.size+1) 1)=false:=(by simp[hf,go_sem]);have hz1:w.heap.size+1<w1.heap.size:=(by have:=hb1.size;(try simp at this);omega);have hz0:w.heap.size<w1.heap.size:=(by have:=hb1.size;(try simp at this);omega);clear hc hf)|(go_at_call 258;refine Mo (kE _ _ _ ha hb om h1) fun w2 hb2=>?_;obtain⟨hc2,hf2⟩:=aS hb2;have hl0:w2.cell? (Nw w 0)=some (U3 a):=(by rw[hc2 _ _ byO,World.cell?_alloc_past _ _ _ hz0];exact hk0);have hl1:w2.cell? (Nw w 1)=some (I6 n):=(by rw[hc2 _ _ byO,World.cell?_alloc_past _ _ _ hz0];exact hk1);have hl1a:w2.cell? (At (w.heap.size+1) 0)=some (U3 0):=(by rw[hc2 _ _ byO,World.cell?_alloc_past _ _ _ hz1];exact hk1a);have hl1b:w2.cell? (At (w.heap.size+1) 1)=some (I6 0):=(by rw[hc2 _ _ byO,World.cell?_alloc_past _ _ _ hz1];exact hk1b);have hl1c:w2.frozen? (At (w.heap.size+1) 0)=false:=(by rw[hf2 _ _ byO,World.frozen?_alloc_past _ _ _ hz1];exact hk1c);have hl1d:w2.frozen? (At (w.heap.size+1) 1)=false:=(by rw[hf2 _ _ byO,World.frozen?_alloc_past _ _ _ hz1];exact hk1d);have hy0:w.heap.size<w2.heap.size:=(by have:=hb2.size;(try simp at this);omega);have hy1:w.heap.size+1<w2.heap.size:=(by have:=hb2.size;(try simp at this);omega);clear hc2 hf2))
  exact bodyPost_ret (v:=.tuple #[.agg #[U3 (par a n),I6 (n)],I6 (0)]) (by simp[results,results246,go_sem,hl1a,hl1b,hl1c,hl1d,World.cell?_alloc_lt,hy1,Nat.lt_succ_of_lt hy1]) rfl ⟨rfl,(by have hq:=hb1.mono (B':=w.heap.size) byO;have hq2:=Below.trans (B:=w.heap.size) (a:=w) upB hq;clear hq;have hq3:=Below.trans (B:=w.heap.size) (a:=w) upB (hb2.mono (B':=w.heap.size) byO);clear hq2;exact upB)⟩
theorem eU(a n:Int)(w:World)(ha:0<=a)(hb:a<4294967296)(h0:0<=n)(h1:n<=32):Cr prog 231 #[.agg #[U3 a,I6 n]] w (I6 (lst a n)):=by
 have hp:=aD n;have hl:=gO n h0;have hq:Hid (a+sz n-1=lst a n):=rfl
 go_enter func231,ntmps231
 go_wp2_with (go_at_call 244;refine(ib _ _ om om).mono ?_;rintro e w' ⟨rfl,rfl⟩)
 go_ret;exact⟨cM hq.o,upB⟩
theorem xf(a m b n:Int)(w:World)(ha:0<=a)(hb:a<4294967296)(ka:0<=b)(kb:b<4294967296)(ra':rt a m=true)(rb':rt b n=true)(h1:¬a<=lst b n):Cr prog 245 #[.agg #[U3 a,I6 m],.agg #[U3 b,I6 n]] w (.bool (mm a m b n)):=by
 obtain⟨m0,m1,m2⟩:=aj.1 ra';obtain⟨n0,n1,n2⟩:=aj.1 rb';clear m2 n2;have hmm:=qC ra' rb';have hwa:=bf a ha hb;have hd1:decide (a<=lst b n)=false:=by simpa using h1
 have hm:Hid (mm a m b n=false):=(by rw[hmm,hd1,Bool.false_and]:mm a m b n=false)
 clear hmm;go_enter func245,ntmps245
 go_wp2_with (first|(go_at_call_of 223 (Value.agg #[U3 a,I6 m]);refine Mo (bW a m _ ha hb) fun w1 hb1=>?_;obtain⟨hc,hf⟩:=aS hb1;have hk0:w1.cell? (Nw w 0)=some (U3 a):=(by simp[hc,go_sem]);have hk1:w1.cell? (Nw w 1)=some (I6 m):=(by simp[hc,go_sem]);have hk2:w1.cell? (At (w.heap.size+1) 0)=some (U3 b):=(by simp[hc,go_sem]);have hk3:w1.cell? (At (w.heap.size+1) 1)=some (I6 n):=(by simp[hc,go_sem]);have hz:w.heap.size+1<w1.heap.size:=(by have:=hb1.size;(try simp at this);omega);clear hc hf)|(go_at_call_of 223 (Value.agg #[U3 b,I6 n]);refine Mo (bW b n _ ka kb) fun w2 hb2=>?_;obtain⟨hc2,hf2⟩:=aS hb2;have hl0:w2.cell? (Nw w 0)=some (U3 a):=(by rw[hc2 _ _ om];exact hk0);have hl1:w2.cell? (Nw w 1)=some (I6 m):=(by rw[hc2 _ _ om];exact hk1);have hl2:w2.cell? (At (w.heap.size+1) 0)=some (U3 b):=(by rw[hc2 _ _ om];exact hk2);have hl3:w2.cell? (At (w.heap.size+1) 1)=some (I6 n):=(by rw[hc2 _ _ om];exact hk3);have hy:w.heap.size+1<w2.heap.size:=(by have:=hb2.size;omega);clear hc2 hf2))
 first|go_region_with ((go_at_call_of 231 (Value.agg #[U3 b,I6 n]);refine Mo (eU b n _ ka kb n0 n1) fun w3 hb3=>?_;obtain⟨hc3,hf3⟩:=aS hb3;have hp0:w3.cell? (Nw w 0)=some (U3 a):=(by rw[hc3 _ _ byO];simpa using hl0);have hp1:w3.cell? (Nw w 1)=some (I6 m):=(by rw[hc3 _ _ byO];simpa using hl1);have hp2:w3.cell? (At (w.heap.size+1) 0)=some (U3 b):=(by rw[hc3 _ _ byO];simpa using hl2);have hp3:w3.cell? (At (w.heap.size+1) 1)=some (I6 n):=(by rw[hc3 _ _ byO];simpa using hl3);have hpz:w.heap.size+1<w3.heap.size:=(by have:=hb3.size;(try simp at this);omega);clear hc3 hf3))|fail
 all_goals (go_wp2;go_ret;exact⟨aC hm.o.symm,(by have hq:=hb1.mono (B':=w.heap.size) byO;have hq2:=Below.trans (B:=w.heap.size) (a:=w) upB hq;clear hq;have hq3:=Below.trans (B:=w.heap.size) (a:=w) upB (hb2.mono (B':=w.heap.size) byO);clear hq2;have hq4:=Below.trans (B:=w.heap.size) (a:=w) upB (hb3.mono (B':=w.heap.size) byO);clear hq3;exact upB)⟩)
attribute [local go_sem ↓] Go.wp_at_zero Go.wp_at_succ
theorem xe(a m b n:Int)(w:World)(ha:0<=a)(hb:a<4294967296)(ka:0<=b)(kb:b<4294967296):Cr prog 245 #[.agg #[U3 a,I6 m],.agg #[U3 b,I6 n]] w (.bool (mm a m b n)):=by
 by_cases ra:rt a m=false
 ·have hm:Hid (mm a m b n=false):=(by simp[mm,ra]:mm a m b n=false)
  go_enter func245,ntmps245
  go_wp2_with (first|(go_at_call_of 223 (Value.agg #[U3 a,I6 m]);refine Mo (bW a m _ ha hb) fun w1 hb1=>?_;obtain⟨hc,hf⟩:=aS hb1;have hk0:w1.cell? (Nw w 0)=some (U3 a):=(by simp[hc,go_sem]);have hk1:w1.cell? (Nw w 1)=some (I6 m):=(by simp[hc,go_sem]);have hk2:w1.cell? (At (w.heap.size+1) 0)=some (U3 b):=(by simp[hc,go_sem]);have hk3:w1.cell? (At (w.heap.size+1) 1)=some (I6 n):=(by simp[hc,go_sem]);have hz:w.heap.size+1<w1.heap.size:=(by have:=hb1.size;(try simp at this);omega);clear hc hf)|(go_at_call_of 223 (Value.agg #[U3 b,I6 n]);refine Mo (bW b n _ ka kb) fun w2 hb2=>?_;obtain⟨hc2,hf2⟩:=aS hb2;have hl0:w2.cell? (Nw w 0)=some (U3 a):=(by rw[hc2 _ _ om];exact hk0);have hl1:w2.cell? (Nw w 1)=some (I6 m):=(by rw[hc2 _ _ om];exact hk1);have hl2:w2.cell? (At (w.heap.size+1) 0)=some (U3 b):=(by rw[hc2 _ _ om];exact hk2);have hl3:w2.cell? (At (w.heap.size+1) 1)=some (I6 n):=(by rw[hc2 _ _ om];exact hk3);have hy:w.heap.size+1<w2.heap.size:=(by have:=hb2.size;omega);clear hc2 hf2))
  go_ret;exact⟨aC hm.o.symm,(by have hq:=hb1.mono (B':=w.heap.size) byO;have hq2:Bl w w1:=Below.trans upB hq;have hq3:Bl w w2:=hq2.trans (hb2.mono om);clear hq hq2;exact upB)⟩
 ·have ra':rt a m=true:=by simpa using ra
  by_cases rb:rt b n=false
  ·have hm:Hid (mm a m b n=false):=(by simp[mm,rb]:mm a m b n=false)
   go_enter func245,ntmps245
   go_wp2_with (first|(go_at_call_of 223 (Value.agg #[U3 a,I6 m]);refine Mo (bW a m _ ha hb) fun w1 hb1=>?_;obtain⟨hc,hf⟩:=aS hb1;have hk0:w1.cell? (Nw w 0)=some (U3 a):=(by simp[hc,go_sem]);have hk1:w1.cell? (Nw w 1)=some (I6 m):=(by simp[hc,go_sem]);have hk2:w1.cell? (At (w.heap.size+1) 0)=some (U3 b):=(by simp[hc,go_sem]);have hk3:w1.cell? (At (w.heap.size+1) 1)=some (I6 n):=(by simp[hc,go_sem]);have hz:w.heap.size+1<w1.heap.size:=(by have:=hb1.size;(try simp at this);omega);clear hc hf)|(go_at_call_of 223 (Value.agg #[U3 b,I6 n]);refine Mo (bW b n _ ka kb) fun w2 hb2=>?_;obtain⟨hc2,hf2⟩:=aS hb2;have hl0:w2.cell? (Nw w 0)=some (U3 a):=(by rw[hc2 _ _ om];exact hk0);have hl1:w2.cell? (Nw w 1)=some (I6 m):=(by rw[hc2 _ _ om];exact hk1);have hl2:w2.cell? (At (w.heap.size+1) 0)=some (U3 b):=(by rw[hc2 _ _ om];exact hk2);have hl3:w2.cell? (At (w.heap.size+1) 1)=some (I6 n):=(by rw[hc2 _ _ om];exact hk3);have hy:w.heap.size+1<w2.heap.size:=(by have:=hb2.size;omega);clear hc2 hf2))
   go_ret;exact⟨aC hm.o.symm,(by have hq:=hb1.mono (B':=w.heap.size) byO;have hq2:Bl w w1:=Below.trans upB hq;have hq3:Bl w w2:=hq2.trans (hb2.mono om);clear hq hq2;exact upB)⟩
  ·have rb':rt b n=true:=by simpa using rb
   obtain⟨m0,m1,m2⟩:=aj.1 ra';obtain⟨n0,n1,n2⟩:=aj.1 rb';clear m2 n2;have hmm:=qC ra' rb';have hwa:=bf a ha hb;have hwb:=bf b ka kb;by_cases h1:a<=lst b n
   ·have hd1:decide (a<=lst b n)=true:=by simpa using h1
    have hm:Hid (mm a m b n=decide (b<=lst a m)):=(by rw[hmm,hd1,Bool.true_and]:mm a m b n=decide (b<=lst a m))
    clear hmm;go_enter func245,ntmps245
    go_wp2_with (first|(go_at_call_of 223 (Value.agg #[U3 a,I6 m]);refine Mo (bW a m _ ha hb) fun w1 hb1=>?_;obtain⟨hc,hf⟩:=aS hb1;have hk0:w1.cell? (Nw w 0)=some (U3 a):=(by simp[hc,go_sem]);have hk1:w1.cell? (Nw w 1)=some (I6 m):=(by simp[hc,go_sem]);have hk2:w1.cell? (At (w.heap.size+1) 0)=some (U3 b):=(by simp[hc,go_sem]);have hk3:w1.cell? (At (w.heap.size+1) 1)=some (I6 n):=(by simp[hc,go_sem]);have hz:w.heap.size+1<w1.heap.size:=(by have:=hb1.size;(try simp at this);omega);clear hc hf)|(go_at_call_of 223 (Value.agg #[U3 b,I6 n]);refine Mo (bW b n _ ka kb) fun w2 hb2=>?_;obtain⟨hc2,hf2⟩:=aS hb2;have hl0:w2.cell? (Nw w 0)=some (U3 a):=(by rw[hc2 _ _ om];exact hk0);have hl1:w2.cell? (Nw w 1)=some (I6 m):=(by rw[hc2 _ _ om];exact hk1);have hl2:w2.cell? (At (w.heap.size+1) 0)=some (U3 b):=(by rw[hc2 _ _ om];exact hk2);have hl3:w2.cell? (At (w.heap.size+1) 1)=some (I6 n):=(by rw[hc2 _ _ om];exact hk3);have hy:w.heap.size+1<w2.heap.size:=(by have:=hb2.size;omega);clear hc2 hf2))
    go_region_held3 (fun w'=>w'.cell? (Nw w 0)=some (U3 a)/\w'.cell? (Nw w 1)=some (I6 m)/\w'.cell? (At (w.heap.size+1) 0)=some (U3 b)/\w'.cell? (At (w.heap.size+1) 1)=some (I6 n)) (go_keep) ((first|(go_at_call_of 231 (Value.agg #[U3 b,I6 n]);refine Mo (eU b n _ ka kb n0 n1) fun w3 hb3=>?_;obtain⟨hc3,hf3⟩:=aS hb3;have hp0:w3.cell? (Nw w 0)=some (U3 a):=(by rw[hc3 _ _ byO];simpa using hl0);have hp1:w3.cell? (Nw w 1)=some (I6 m):=(by rw[hc3 _ _ byO];simpa using hl1);have hp2:w3.cell? (At (w.heap.size+1) 0)=some (U3 b):=(by rw[hc3 _ _ byO];simpa using hl2);have hp3:w3.cell? (At (w.heap.size+1) 1)=some (I6 n):=(by rw[hc3 _ _ byO];simpa using hl3);have hpz:w.heap.size+1<w3.heap.size:=(by have:=hb3.size;(try simp at this);omega);clear hc3 hf3)|(go_at_call_of 231 (Value.agg #[U3 a,I6 m]);refine Mo (eU a m _ ha hb m0 m1) fun w4 hb4=>?_;obtain⟨hc3,hf3⟩:=aS hb4;have hs0:w4.cell? (Nw w 0)=some (U3 a):=(by rw[hc3 _ _ byO];simpa using hp0);have hs1:w4.cell? (Nw w 1)=some (I6 m):=(by rw[hc3 _ _ byO];simpa using hp1);have hs2:w4.cell? (At (w.heap.size+1) 0)=some (U3 b):=(by rw[hc3 _ _ byO];simpa using hp2);have hs3:w4.cell? (At (w.heap.size+1) 1)=some (I6 n):=(by rw[hc3 _ _ byO];simpa using hp3);have hsz:w.heap.size+1<w4.heap.size:=(by have:=hb4.size;(try simp at this);omega);clear hc3 hf3)))
    all_goals (go_wp2;go_ret;exact⟨aC hm.o.symm,(by have hq:=hb1.mono (B':=w.heap.size) byO;have hq2:=Below.trans (B:=w.heap.size) (a:=w) upB hq;clear hq;have hq3:=Below.trans (B:=w.heap.size) (a:=w) upB (hb2.mono (B':=w.heap.size) byO);clear hq2;have hq4:=Below.trans (B:=w.heap.size) (a:=w) upB (hb3.mono (B':=w.heap.size) byO);clear hq3;have hq5:=Below.trans (B:=w.heap.size) (a:=w) upB (hb4.mono (B':=w.heap.size) byO);clear hq4;exact upB)⟩)
   ·exact xf a m b n w ha hb ka kb ra' rb' h1
attribute [local go_sem ↓] Go.wp_at_zero Go.wp_at_succ
theorem qr(n:Int)(w:World)(h0:1<=n)(h1:n<=32):Calls prog 207 #[I6 n] w fun e w'=>e=.returned (U3 (sz n))/\w'=w:=by
 go_enter func207,ntmps207
 go_wp2;go_ret;exact⟨cM (Ca n h0 h1),rfl⟩
theorem pv(a n:Int)(w:World)(ha:0<=a)(hb:a<4294967296)(hr:rt a n=true)(h:n≠32):Cr prog 161 #[.agg #[U3 a,I6 n]] w (.tuple #[.agg #[U3 a,I6 (n+1)],.agg #[U3 (a+sz (n+1)),I6 (n+1)],I6 0]):=by
 obtain⟨h0,h1,h2⟩:=aj.1 hr;have hn:(n==32)=false:=by simpa using h
 have e:=Gq a n om om ha hb h2;clear h2;go_enter func161,ntmps161
 go_wp2_with (go_at_call 198;refine Mo (cQ _ _ _ ha hb) fun w1 hb1=>?_;obtain⟨hc,hf⟩:=aS hb1;have hk0:w1.cell? (Nw w 0)=some (U3 a):=(by simp[hc,go_sem]);have hk1:w1.cell? (Nw w 1)=some (I6 n):=(by simp[hc,go_sem]);have hk2:w1.cell? (At (w.heap.size+1) 0)=some (U3 0):=(by simp[hc,go_sem]);have hk3:w1.cell? (At (w.heap.size+1) 1)=some (I6 0):=(by simp[hc,go_sem]);have hk4:w1.cell? (At (w.heap.size+1+1) 0)=some (U3 0):=(by simp[hc,go_sem]);have hk5:w1.cell? (At (w.heap.size+1+1) 1)=some (I6 0):=(by simp[hc,go_sem]);have hk6:w1.frozen? (At (w.heap.size+1) 0)=false:=(by simp[hf,go_sem]);have hk7:w1.frozen? (At (w.heap.size+1) 1)=false:=(by simp[hf,go_sem]);have hk8:w1.frozen? (At (w.heap.size+1+1) 0)=false:=(by simp[hf,go_sem]);have hk9:w1.frozen? (At (w.heap.size+1+1) 1)=false:=(by simp[hf,go_sem]);have hz:w.heap.size+1+1<w1.heap.size:=(by have:=hb1.size;(try simp at this);omega);have hz1:w.heap.size+1<w1.heap.size:=om;have hz0:w.heap.size<w1.heap.size:=om;clear hc hf)
 go_region_held3 (fun w'=>w'.cell? (Nw w 0)=some (U3 a)/\w'.cell? (Nw w 1)=some (I6 n)) (go_keep) ((go_at_call 207;refine(qr _ _ om om).mono ?_;rintro e w' ⟨rfl,rfl⟩))
 all_goals (go_wp2;go_region)
 all_goals (go_wp2;exact bodyPost_ret (v:=.tuple #[.agg #[U3 a,I6 (n+1)],.agg #[U3 (a+sz (n+1)),I6 (n+1)],I6 0]) (by simp[results,results161,go_sem,hk2,hk3,hk4,hk5,hk6,hk7,hk8,hk9,World.cell?_alloc_lt,hz,hz1,Nat.lt_succ_of_lt hz,Nat.lt_succ_of_lt hz1]) rfl ⟨rfl,(by have hq:=hb1.mono (B':=w.heap.size) byO;have hq2:=Below.trans (B:=w.heap.size) (a:=w) upB hq;clear hq;exact upB)⟩)
attribute [local go_sem ↓] Go.wp_at_zero Go.wp_at_succ
theorem mJ(a m b n:Int)(w:World)(ha:0<=a)(hb:a<4294967296)(ka:0<=b)(kb:b<4294967296):Cr prog 237 #[.agg #[U3 a,I6 m],.agg #[U3 b,I6 n]] w (.bool (rt a m&&rt b n&&mt a m b n)):=by
 by_cases ra:rt a m=false
 ·go_enter func237,ntmps237
  go_wp2_with (go_at_call 198;refine Mo (cQ _ _ _ ha hb) fun w1 hb1=>?_;obtain⟨hc,hf⟩:=aS hb1;have hz:w.heap.size+1<w1.heap.size:=(by have:=hb1.size;simp at this;omega))
  go_ret;exact⟨aC (by simp[ra]),(by have hq:=hb1.mono (B':=w.heap.size) byO;have hq2:=Below.trans (B:=w.heap.size) (a:=w) upB hq;clear hq;exact upB)⟩
 ·have ra':rt a m=true:=by simpa using ra
  by_cases rb:rt b n=false
  ·go_enter func237,ntmps237
   go_wp2_with (first|(go_at_call_of 198 (Value.agg #[U3 a,I6 m]);refine Mo (cQ a m _ ha hb) fun w1 hb1=>?_;obtain⟨hc,hf⟩:=aS hb1;have hk0:w1.cell? (Nw w 0)=some (U3 a):=(by simp[hc,go_sem]);have hk1:w1.cell? (Nw w 1)=some (I6 m):=(by simp[hc,go_sem]);have hk2:w1.cell? (At (w.heap.size+1) 0)=some (U3 b):=(by simp[hc,go_sem]);have hk3:w1.cell? (At (w.heap.size+1) 1)=some (I6 n):=(by simp[hc,go_sem]);have hz:w.heap.size+1<w1.heap.size:=(by have:=hb1.size;(try simp at this);omega);clear hc hf)|(go_at_call_of 198 (Value.agg #[U3 b,I6 n]);refine Mo (cQ b n _ ka kb) fun w2 hb2=>?_;obtain⟨hc2,hf2⟩:=aS hb2;have hl0:w2.cell? (Nw w 0)=some (U3 a):=(by rw[hc2 _ _ om];exact hk0);have hl1:w2.cell? (Nw w 1)=some (I6 m):=(by rw[hc2 _ _ om];exact hk1);have hl2:w2.cell? (At (w.heap.size+1) 0)=some (U3 b):=(by rw[hc2 _ _ om];exact hk2);have hl3:w2.cell? (At (w.heap.size+1) 1)=some (I6 n):=(by rw[hc2 _ _ om];exact hk3);clear hc2 hf2))
   go_ret;exact⟨aC (by simp[rb]),(by have hq:=hb1.mono (B':=w.heap.size) byO;have hq2:Bl w w1:=Below.trans upB hq;have hq3:Bl w w2:=hq2.trans (hb2.mono om);clear hq hq2;exact upB)⟩
  ·have rb':rt b n=true:=by simpa using rb
   obtain⟨m0,m1,m2⟩:=aj.1 ra';obtain⟨n0,n1,n2⟩:=aj.1 rb';have hq:=C7 a m b n m0 m1 n0 n1 ha hb ka kb m2 n2;clear m2 n2;by_cases hlt:n<m
   ·have he0:(bits .and .u32 (bits .xor .u32 a b) (4294967296-sz n)==0)=mt a m b n:=by simpa[hlt] using hq
    have he:Hid ((bits .and .u32 (bits .xor .u32 a b) (4294967296-sz n)==0)=mt a m b n):=he0
    clear he0;clear hq;go_enter func237,ntmps237
    go_wp2_with (first|(go_at_call_of 198 (Value.agg #[U3 a,I6 m]);refine Mo (cQ a m _ ha hb) fun w1 hb1=>?_;obtain⟨hc,hf⟩:=aS hb1;have hk0:w1.cell? (Nw w 0)=some (U3 a):=(by simp[hc,go_sem]);have hk1:w1.cell? (Nw w 1)=some (I6 m):=(by simp[hc,go_sem]);have hk2:w1.cell? (At (w.heap.size+1) 0)=some (U3 b):=(by simp[hc,go_sem]);have hk3:w1.cell? (At (w.heap.size+1) 1)=some (I6 n):=(by simp[hc,go_sem]);have hz:w.heap.size+1<w1.heap.size:=(by have:=hb1.size;(try simp at this);omega);clear hc hf)|(go_at_call_of 198 (Value.agg #[U3 b,I6 n]);refine Mo (cQ b n _ ka kb) fun w2 hb2=>?_;obtain⟨hc2,hf2⟩:=aS hb2;have hl0:w2.cell? (Nw w 0)=some (U3 a):=(by rw[hc2 _ _ om];exact hk0);have hl1:w2.cell? (Nw w 1)=some (I6 m):=(by rw[hc2 _ _ om];exact hk1);have hl2:w2.cell? (At (w.heap.size+1) 0)=some (U3 b):=(by rw[hc2 _ _ om];exact hk2);have hl3:w2.cell? (At (w.heap.size+1) 1)=some (I6 n):=(by rw[hc2 _ _ om];exact hk3);clear hc2 hf2))
    go_region_held3 (fun w'=>w'.cell? (Nw w 0)=some (U3 a)/\w'.cell? (Nw w 1)=some (I6 m)/\w'.cell? (At (w.heap.size+1) 0)=some (U3 b)/\w'.cell? (At (w.heap.size+1) 1)=some (I6 n)) (go_keep) ((go_at_call 215;refine(jg n _ om om).mono ?_;rintro e w' ⟨rfl,rfl⟩))
    all_goals (go_wp2;go_ret;exact⟨aC (by simpa[ra',rb'] using he.o),(by have hq:=hb1.mono (B':=w.heap.size) byO;have hq2:Bl w w1:=Below.trans upB hq;have hq3:Bl w w2:=hq2.trans (hb2.mono om);clear hq hq2;exact upB)⟩)
   ·have he0:(bits .and .u32 (bits .xor .u32 a b) (4294967296-sz m)==0)=mt a m b n:=by simpa[hlt] using hq
    have he:Hid ((bits .and .u32 (bits .xor .u32 a b) (4294967296-sz m)==0)=mt a m b n):=he0
    clear he0;clear hq;go_enter func237,ntmps237
    go_wp2_with (first|(go_at_call_of 198 (Value.agg #[U3 a,I6 m]);refine Mo (cQ a m _ ha hb) fun w1 hb1=>?_;obtain⟨hc,hf⟩:=aS hb1;have hk0:w1.cell? (Nw w 0)=some (U3 a):=(by simp[hc,go_sem]);have hk1:w1.cell? (Nw w 1)=some (I6 m):=(by simp[hc,go_sem]);have hk2:w1.cell? (At (w.heap.size+1) 0)=some (U3 b):=(by simp[hc,go_sem]);have hk3:w1.cell? (At (w.heap.size+1) 1)=some (I6 n):=(by simp[hc,go_sem]);have hz:w.heap.size+1<w1.heap.size:=(by have:=hb1.size;(try simp at this);omega);clear hc hf)|(go_at_call_of 198 (Value.agg #[U3 b,I6 n]);refine Mo (cQ b n _ ka kb) fun w2 hb2=>?_;obtain⟨hc2,hf2⟩:=aS hb2;have hl0:w2.cell? (Nw w 0)=some (U3 a):=(by rw[hc2 _ _ om];exact hk0);have hl1:w2.cell? (Nw w 1)=some (I6 m):=(by rw[hc2 _ _ om];exact hk1);have hl2:w2.cell? (At (w.heap.size+1) 0)=some (U3 b):=(by rw[hc2 _ _ om];exact hk2);have hl3:w2.cell? (At (w.heap.size+1) 1)=some (I6 n):=(by rw[hc2 _ _ om];exact hk3);clear hc2 hf2))
    go_region_held3 (fun w'=>w'.cell? (Nw w 0)=some (U3 a)/\w'.cell? (Nw w 1)=some (I6 m)/\w'.cell? (At (w.heap.size+1) 0)=some (U3 b)/\w'.cell? (At (w.heap.size+1) 1)=some (I6 n)) (go_keep) ((go_at_call 215;rw[show (if n<m then n else m)=m from if_neg om];refine(jg m _ om om).mono ?_;rintro e w' ⟨rfl,rfl⟩))
    all_goals (go_wp2;go_ret;exact⟨aC (by simpa[ra',rb'] using he.o),(by have hq:=hb1.mono (B':=w.heap.size) byO;have hq2:Bl w w1:=Below.trans upB hq;have hq3:Bl w w2:=hq2.trans (hb2.mono om);clear hq hq2;exact upB)⟩)
end
section
open Go.ChangeShapes Go.WideShapes Go.ChangeAt Go.RowKit
attribute [local go_sem ↓] Go.wp_at_zero Go.wp_at_succ
end
end Go.Proofs.YtjnhhnbgjjkkjaaGreatDoor
