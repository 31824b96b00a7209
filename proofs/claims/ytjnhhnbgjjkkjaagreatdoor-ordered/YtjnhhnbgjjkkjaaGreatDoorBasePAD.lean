/-
  WalkA, WalkS, WalkB, WalkC, WalkD
-/
import Derived.WalkKit
import Derived.ProofKit
import Derived.OpenShut
import Derived.WalkLawsBesides
import Derived.WalkSpells
import Derived.Deep.QuietTactic
import Derived.BigQuiet
import Derived.Deep.RegionWith
import Derived.RegionTactic
import Derived.BigRegion
import Derived.Deep.RegionHeld3
import Derived.Deep.DrawnRows
import Derived.Outline
import Derived.Test.YtjnhhnbgjjkkjaaGreatDoorBasePAA
import Derived.Test.YtjnhhnbgjjkkjaaGreatDoorRows
namespace Go.Proofs.YtjnhhnbgjjkkjaaGreatDoor
open Go.ChangeShapes Go.WideShapes Go.ChangeAt Go.RowKit
set_option linter.unusedVariables false
set_option linter.unusedSimpArgs false
theorem mask_any (n:Int) (w:World) (h0:0<=n) (h1:n<=32) :
    Calls Tryz.prog 215 #[.int .i64 n] w fun e w'=>e=.returned (.int .u32 (4294967296-sz n))/\w'=w:=by
  go_enter Tryz.func215,Tryz.ntmps215
  go_wp2;go_ret;exact⟨ret_int (mask_eq' n h0 h1),rfl⟩
theorem bcell {W w1:World} (hb:Below W.heap.size W w1):(∀ b o,b<W.heap.size->w1.cell? ⟨b,o,none⟩=W.cell? ⟨b,o,none⟩)/\(∀ b o,b<W.heap.size->w1.frozen? ⟨b,o,none⟩=W.frozen? ⟨b,o,none⟩) :=
  ⟨fun b o h=>hb.cell (p:=⟨b,o,none⟩) h,fun b o h=>hb.frozen (p:=⟨b,o,none⟩) h⟩
set_option maxHeartbeats 400000 in
theorem right_any (a n:Int) (w:World) (ha:0<=a) (hb:a<4294967296) :
    Calls Tryz.prog 198 #[.agg #[.int .u32 a,.int .i64 n]] w fun e w'=>e=.returned (.bool (rt a n))/\Below w.heap.size w w':=by
  by_cases h0:0<=n
  . by_cases h1:n<=32
    . have e:=andNot_mask a n h0 h1 ha hb;have hr:Hid (rt a n=(a%sz n==0)):=rt_in h0 h1
      go_enter Tryz.func198,Tryz.ntmps198
      go_wp2;go_quiet ((go_at_call 215;exact Calls.quiet_of_same (mask_any _ _ h0 h1)))
      go_wp2;go_ret;exact⟨ret_bool hr.out.symm,(upB)⟩
    . have hr:Hid (rt a n=false):=rt_out (om)
      have hd:decide (n<=32)=false:=by simpa using h1
      go_enter Tryz.func198,Tryz.ntmps198
      go_wp2;go_quiet (fail)
      go_wp2;go_ret;exact⟨ret_bool hr.out.symm,(upB)⟩
  . have hr:Hid (rt a n=false):=rt_out (om)
    have hd:decide (0<=n)=false:=by simpa using h0
    go_enter Tryz.func198,Tryz.ntmps198
    go_wp2;go_quiet (fail)
    go_wp2;go_ret;exact⟨ret_bool hr.out.symm,(upB)⟩
attribute [local go_sem ↓] Go.wp_at_zero Go.wp_at_succ
theorem pick_any (c n:Int) (w:World) (hc:-9223372036854775808<=c/\c<=9223372036854775807) (h0:0<n) (h1:n<=1000000) :
    Calls Tryz.prog 20 #[.int .i64 c,.int .i64 n] w fun e w'=>e=.returned (.int .i64 (pk c n))/\w'=w:=by
  obtain⟨g0,g1⟩:=hc;by_cases h:c<0
  . have e:Hid (-(c+1).tmod n=pk c n):=pk_neg c n h
    go_enter Tryz.func20,Tryz.ntmps20
    go_wp2;go_ret;exact⟨ret_int e.out,rfl⟩
  . have e:Hid (pk c n=c%n):=(by unfold pk;rw[if_neg h]:pk c n=c%n)
    go_enter Tryz.func20,Tryz.ntmps20
    go_wp2;go_ret;exact⟨ret_int e.out.symm,rfl⟩
theorem ksize_any (n:Int) (w:World) (h0:0<=n) (h1:n<=32) :
    Calls Tryz.prog 23 #[.int .i64 n] w fun e w'=>e=.returned (.int .i64 (sz n))/\w'=w:=by
  go_enter Tryz.func23,Tryz.ntmps23
  go_wp2;go_ret;exact⟨ret_int (ksize_eq n h0 h1),rfl⟩
attribute [local go_sem ↓] Go.wp_at_zero Go.wp_at_succ
theorem lastBit_any (n:Int) (w:World) (h0:1<=n) (h1:n<=32) :
    Calls Tryz.prog 207 #[.int .i64 n] w fun e w'=>e=.returned (.int .u32 (sz n))/\w'=w:=by
  go_enter Tryz.func207,Tryz.ntmps207
  go_wp2;go_ret;exact⟨ret_int (bit_eq' n h0 h1),rfl⟩
set_option maxHeartbeats 400000 in
theorem bhalves_yes (a n:Int) (w:World) (ha:0<=a) (hb:a<4294967296) (hr:rt a n=true) (h:n≠32) :
    Calls Tryz.prog 161 #[.agg #[.int .u32 a,.int .i64 n]] w fun e w'=>e=.returned (.tuple #[.agg #[.int .u32 a,.int .i64 (n+1)],.agg #[.int .u32 (a+sz (n+1)),.int .i64 (n+1)],.int .i64 0])/\Below w.heap.size w w':=by
  obtain⟨h0,h1,h2⟩:=rt_iff.1 hr;have hn:(n==32)=false:=by simpa using h
  have e:=or_eq a n (om) (om) ha hb h2
  clear h2;go_enter Tryz.func161,Tryz.ntmps161
  go_wp2_with (go_at_call 198;refine(right_any _ _ _ ha hb).mono ?_;rintro e w1 ⟨rfl,hb1⟩;obtain⟨hc,hf⟩:=bcell hb1;have hk0:w1.cell? ⟨w.heap.size,0,none⟩=some (.int .u32 a):=(by simp[hc,go_sem]);have hk1:w1.cell? ⟨w.heap.size,1,none⟩=some (.int .i64 n):=(by simp[hc,go_sem]);have hk2:w1.cell? ⟨w.heap.size+1,0,none⟩=some (.int .u32 0):=(by simp[hc,go_sem]);have hk3:w1.cell? ⟨w.heap.size+1,1,none⟩=some (.int .i64 0):=(by simp[hc,go_sem]);have hk4:w1.cell? ⟨w.heap.size+1+1,0,none⟩=some (.int .u32 0):=(by simp[hc,go_sem]);have hk5:w1.cell? ⟨w.heap.size+1+1,1,none⟩=some (.int .i64 0):=(by simp[hc,go_sem]);have hk6:w1.frozen? ⟨w.heap.size+1,0,none⟩=false:=(by simp[hf,go_sem]);have hk7:w1.frozen? ⟨w.heap.size+1,1,none⟩=false:=(by simp[hf,go_sem]);have hk8:w1.frozen? ⟨w.heap.size+1+1,0,none⟩=false:=(by simp[hf,go_sem]);have hk9:w1.frozen? ⟨w.heap.size+1+1,1,none⟩=false:=(by simp[hf,go_sem]);have hz:w.heap.size+1+1<w1.heap.size:=(by have:=hb1.size;(try simp at this);omega);have hz1:w.heap.size+1<w1.heap.size:=(om);have hz0:w.heap.size<w1.heap.size:=(om);clear hc hf)
  go_region_held3 (fun w'=>w'.cell? ⟨w.heap.size,0,none⟩=some (.int .u32 a)/\w'.cell? ⟨w.heap.size,1,none⟩=some (.int .i64 n)) (go_keep) ((go_at_call 207;refine(lastBit_any _ _ (om) (om)).mono ?_;rintro e w' ⟨rfl,rfl⟩))
  all_goals (go_wp2;go_region)
  all_goals (go_wp2;exact bodyPost_ret (v:=.tuple #[.agg #[.int .u32 a,.int .i64 (n+1)],.agg #[.int .u32 (a+sz (n+1)),.int .i64 (n+1)],.int .i64 0]) (by simp[results,Tryz.results161,go_sem,hk2,hk3,hk4,hk5,hk6,hk7,hk8,hk9,World.cell?_alloc_lt,hz,hz1,Nat.lt_succ_of_lt hz,Nat.lt_succ_of_lt hz1]) rfl ⟨rfl,(by have hq:=hb1.mono (B':=w.heap.size) (byO);have hq2:=Below.trans (B:=w.heap.size) (a:=w) (upB) hq;clear hq;exact upB)⟩)
attribute [local go_sem ↓] Go.wp_at_zero Go.wp_at_succ
set_option maxHeartbeats 400000 in
theorem bmeet_any (a m b n:Int) (w:World) (ha:0<=a) (hb:a<4294967296) (ka:0<=b) (kb:b<4294967296) :
    Calls Tryz.prog 237 #[.agg #[.int .u32 a,.int .i64 m],.agg #[.int .u32 b,.int .i64 n]] w fun e w'=>e=.returned (.bool (rt a m&&rt b n&&mt a m b n))/\Below w.heap.size w w':=by
  by_cases ra:rt a m=false
  . go_enter Tryz.func237,Tryz.ntmps237
    go_wp2_with (go_at_call 198;refine(right_any _ _ _ ha hb).mono ?_;rintro e w1 ⟨rfl,hb1⟩;obtain⟨hc,hf⟩:=bcell hb1;have hz:w.heap.size+1<w1.heap.size:=(by have:=hb1.size;simp at this;omega))
    go_ret;exact⟨ret_bool (by simp[ra]),(by have hq:=hb1.mono (B':=w.heap.size) (byO);have hq2:=Below.trans (B:=w.heap.size) (a:=w) (upB) hq;clear hq;exact upB)⟩
  . have ra':rt a m=true:=by simpa using ra
    by_cases rb:rt b n=false
    . go_enter Tryz.func237,Tryz.ntmps237
      go_wp2_with (first|(go_at_call_of 198 (Value.agg #[.int .u32 a,.int .i64 m]);refine(right_any a m _ ha hb).mono ?_;rintro e w1 ⟨rfl,hb1⟩;obtain⟨hc,hf⟩:=bcell hb1;have hk0:w1.cell? ⟨w.heap.size,0,none⟩=some (.int .u32 a):=(by simp[hc,go_sem]);have hk1:w1.cell? ⟨w.heap.size,1,none⟩=some (.int .i64 m):=(by simp[hc,go_sem]);have hk2:w1.cell? ⟨w.heap.size+1,0,none⟩=some (.int .u32 b):=(by simp[hc,go_sem]);have hk3:w1.cell? ⟨w.heap.size+1,1,none⟩=some (.int .i64 n):=(by simp[hc,go_sem]);have hz:w.heap.size+1<w1.heap.size:=(by have:=hb1.size;(try simp at this);omega);clear hc hf)|(go_at_call_of 198 (Value.agg #[.int .u32 b,.int .i64 n]);refine(right_any b n _ ka kb).mono ?_;rintro e w2 ⟨rfl,hb2⟩;obtain⟨hc2,hf2⟩:=bcell hb2;have hl0:w2.cell? ⟨w.heap.size,0,none⟩=some (.int .u32 a):=(by rw[hc2 _ _ (om)];exact hk0);have hl1:w2.cell? ⟨w.heap.size,1,none⟩=some (.int .i64 m):=(by rw[hc2 _ _ (om)];exact hk1);have hl2:w2.cell? ⟨w.heap.size+1,0,none⟩=some (.int .u32 b):=(by rw[hc2 _ _ (om)];exact hk2);have hl3:w2.cell? ⟨w.heap.size+1,1,none⟩=some (.int .i64 n):=(by rw[hc2 _ _ (om)];exact hk3);clear hc2 hf2))
      go_ret;exact⟨ret_bool (by simp[rb]),(by have hq:=hb1.mono (B':=w.heap.size) (byO);have hq2:Below w.heap.size w w1:=Below.trans (upB) hq;have hq3:Below w.heap.size w w2:=hq2.trans (hb2.mono (om));clear hq hq2;exact upB)⟩
    . have rb':rt b n=true:=by simpa using rb
      obtain⟨m0,m1,m2⟩:=rt_iff.1 ra';obtain⟨n0,n1,n2⟩:=rt_iff.1 rb';have hq:=meet_eq a m b n m0 m1 n0 n1 ha hb ka kb m2 n2;clear m2 n2;by_cases hlt:n<m
      . have he0:(bits .and .u32 (bits .xor .u32 a b) (4294967296-sz n)==0)=mt a m b n:=by simpa[hlt] using hq
        have he:Hid ((bits .and .u32 (bits .xor .u32 a b) (4294967296-sz n)==0)=mt a m b n):=he0
        clear he0;clear hq;go_enter Tryz.func237,Tryz.ntmps237
        go_wp2_with (first|(go_at_call_of 198 (Value.agg #[.int .u32 a,.int .i64 m]);refine(right_any a m _ ha hb).mono ?_;rintro e w1 ⟨rfl,hb1⟩;obtain⟨hc,hf⟩:=bcell hb1;have hk0:w1.cell? ⟨w.heap.size,0,none⟩=some (.int .u32 a):=(by simp[hc,go_sem]);have hk1:w1.cell? ⟨w.heap.size,1,none⟩=some (.int .i64 m):=(by simp[hc,go_sem]);have hk2:w1.cell? ⟨w.heap.size+1,0,none⟩=some (.int .u32 b):=(by simp[hc,go_sem]);have hk3:w1.cell? ⟨w.heap.size+1,1,none⟩=some (.int .i64 n):=(by simp[hc,go_sem]);have hz:w.heap.size+1<w1.heap.size:=(by have:=hb1.size;(try simp at this);omega);clear hc hf)|(go_at_call_of 198 (Value.agg #[.int .u32 b,.int .i64 n]);refine(right_any b n _ ka kb).mono ?_;rintro e w2 ⟨rfl,hb2⟩;obtain⟨hc2,hf2⟩:=bcell hb2;have hl0:w2.cell? ⟨w.heap.size,0,none⟩=some (.int .u32 a):=(by rw[hc2 _ _ (om)];exact hk0);have hl1:w2.cell? ⟨w.heap.size,1,none⟩=some (.int .i64 m):=(by rw[hc2 _ _ (om)];exact hk1);have hl2:w2.cell? ⟨w.heap.size+1,0,none⟩=some (.int .u32 b):=(by rw[hc2 _ _ (om)];exact hk2);have hl3:w2.cell? ⟨w.heap.size+1,1,none⟩=some (.int .i64 n):=(by rw[hc2 _ _ (om)];exact hk3);clear hc2 hf2))
        go_region_held3 (fun w'=>w'.cell? ⟨w.heap.size,0,none⟩=some (.int .u32 a)/\w'.cell? ⟨w.heap.size,1,none⟩=some (.int .i64 m)/\w'.cell? ⟨w.heap.size+1,0,none⟩=some (.int .u32 b)/\w'.cell? ⟨w.heap.size+1,1,none⟩=some (.int .i64 n)) (go_keep) ((go_at_call 215;refine(mask_any n _ (om) (om)).mono ?_;rintro e w' ⟨rfl,rfl⟩))
        all_goals (go_wp2;go_ret;exact⟨ret_bool (by simpa[ra',rb'] using he.out),(by have hq:=hb1.mono (B':=w.heap.size) (byO);have hq2:Below w.heap.size w w1:=Below.trans (upB) hq;have hq3:Below w.heap.size w w2:=hq2.trans (hb2.mono (om));clear hq hq2;exact upB)⟩)
      . have he0:(bits .and .u32 (bits .xor .u32 a b) (4294967296-sz m)==0)=mt a m b n:=by simpa[hlt] using hq
        have he:Hid ((bits .and .u32 (bits .xor .u32 a b) (4294967296-sz m)==0)=mt a m b n):=he0
        clear he0;clear hq;go_enter Tryz.func237,Tryz.ntmps237
        go_wp2_with (first|(go_at_call_of 198 (Value.agg #[.int .u32 a,.int .i64 m]);refine(right_any a m _ ha hb).mono ?_;rintro e w1 ⟨rfl,hb1⟩;obtain⟨hc,hf⟩:=bcell hb1;have hk0:w1.cell? ⟨w.heap.size,0,none⟩=some (.int .u32 a):=(by simp[hc,go_sem]);have hk1:w1.cell? ⟨w.heap.size,1,none⟩=some (.int .i64 m):=(by simp[hc,go_sem]);have hk2:w1.cell? ⟨w.heap.size+1,0,none⟩=some (.int .u32 b):=(by simp[hc,go_sem]);have hk3:w1.cell? ⟨w.heap.size+1,1,none⟩=some (.int .i64 n):=(by simp[hc,go_sem]);have hz:w.heap.size+1<w1.heap.size:=(by have:=hb1.size;(try simp at this);omega);clear hc hf)|(go_at_call_of 198 (Value.agg #[.int .u32 b,.int .i64 n]);refine(right_any b n _ ka kb).mono ?_;rintro e w2 ⟨rfl,hb2⟩;obtain⟨hc2,hf2⟩:=bcell hb2;have hl0:w2.cell? ⟨w.heap.size,0,none⟩=some (.int .u32 a):=(by rw[hc2 _ _ (om)];exact hk0);have hl1:w2.cell? ⟨w.heap.size,1,none⟩=some (.int .i64 m):=(by rw[hc2 _ _ (om)];exact hk1);have hl2:w2.cell? ⟨w.heap.size+1,0,none⟩=some (.int .u32 b):=(by rw[hc2 _ _ (om)];exact hk2);have hl3:w2.cell? ⟨w.heap.size+1,1,none⟩=some (.int .i64 n):=(by rw[hc2 _ _ (om)];exact hk3);clear hc2 hf2))
        go_region_held3 (fun w'=>w'.cell? ⟨w.heap.size,0,none⟩=some (.int .u32 a)/\w'.cell? ⟨w.heap.size,1,none⟩=some (.int .i64 m)/\w'.cell? ⟨w.heap.size+1,0,none⟩=some (.int .u32 b)/\w'.cell? ⟨w.heap.size+1,1,none⟩=some (.int .i64 n)) (go_keep) ((go_at_call 215;rw[show (if n<m then n else m)=m from if_neg (om)];refine(mask_any m _ (om) (om)).mono ?_;rintro e w' ⟨rfl,rfl⟩))
        all_goals (go_wp2;go_ret;exact⟨ret_bool (by simpa[ra',rb'] using he.out),(by have hq:=hb1.mono (B':=w.heap.size) (byO);have hq2:Below w.heap.size w w1:=Below.trans (upB) hq;have hq3:Below w.heap.size w w2:=hq2.trans (hb2.mono (om));clear hq hq2;exact upB)⟩)
attribute [local go_sem ↓] Go.wp_at_zero Go.wp_at_succ
end Go.Proofs.YtjnhhnbgjjkkjaaGreatDoor
