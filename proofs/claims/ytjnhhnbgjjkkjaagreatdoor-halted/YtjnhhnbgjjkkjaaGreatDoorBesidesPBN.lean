/-
  DiskH
-/
import Derived.Deep.LoopGhost
import Derived.Deep.CutRange
import Derived.Deep.DeepCutAuto
import Derived.Test.YtjnhhnbgjjkkjaaGreatDoorBesidesPAA
import Derived.Test.YtjnhhnbgjjkkjaaGreatDoorBesidesPAJ
namespace Go.Proofs.YtjnhhnbgjjkkjaaGreatDoor
open Go.ChangeShapes Go.WideShapes Go.ChangeAt Go.RowKit
set_option linter.unusedVariables false
set_option linter.unusedSimpArgs false
theorem crash_end {ρ ρ':Nat->Nat} {w wr:World} {S:List (Int×ByteArray)} {kn:Nat} {vs:Value} (hr:ρ' w.heap.size=4*kn+1) (hc:Clean ρ' wr) (hn:∀ b,b<w.heap.size->ρ' b=ρ b)
    (hb:Below w.heap.size w wr) (h2:Blk wr w.heap.size (dB vs (.slice none 0 0) (.slice none 0 0) (-1) false) 112) (h3:RdZ ρ' wr vs S) :
    DAt ρ' kn (wr.setCell ⟨w.heap.size,1,none⟩ vs) w.heap.size ⟨S,S,[],-1,false⟩/\Stp (fun _=>False) ρ ρ' w (wr.setCell ⟨w.heap.size,1,none⟩ vs):=by
  have S2:Stp (fun r=>r=4*kn+1) ρ' ρ' wr (wr.setCell ⟨w.heap.size,1,none⟩ vs):=Stp.set hc hr 1 vs
  have hb2:Below w.heap.size w (wr.setCell ⟨w.heap.size,1,none⟩ vs):=hb.setCell (Nat.le_refl _) vs
  have h4:RdZ ρ' (wr.setCell ⟨w.heap.size,1,none⟩ vs) vs S:=h3.step S2 om
  refine⟨⟨hr,vs,vs,.slice none 0 0,h2.set 1 vs,h4,h4,Own.nil _ _ _ _⟩,⟨hb2.os,hb2.tape,hb2.output,hb2.size,hn,fun b h _=>hb2.block b h,S2.clean⟩⟩
theorem int_eq {k:IntKind} {a b:Int} (h:a=b):Value.int k a=Value.int k b:=by rw[h]
set_option maxRecDepth 1000000 in
set_option maxHeartbeats 2000000 in
theorem crash_d (ρ:Nat->Nat) (k kn:Nat) (w:World) (g:Nat) (A:PD) (v:Value) (L:List Int) (hc:Clean ρ w) (h:DAt ρ k w g A) (hL:IntsAt w v L) (hLm:L.length<=2097152) (w1:Whole64 A.safe) (w2:Whole64 A.loose) (hn:A.safe.length+A.loose.length<=2097152) :
    Calls Tryz.prog 28 #[.pointer (some ⟨g,0,none⟩),v] w fun e w'=>e=.returned (.pointer (some ⟨w.heap.size,0,none⟩)) /\
      DAt (ru ρ w.heap.size (4*kn+1)) kn w' w.heap.size ⟨crD L A.safe A.loose A.loose.length,crD L A.safe A.loose A.loose.length,[],-1,false⟩/\Stp (fun _=>False) ρ (ru ρ w.heap.size (4*kn+1)) w w':=by
  obtain⟨hr,vs,vn,vl,hb,hs,hnn,hl⟩:=h;obtain⟨safe,now,loose,left,st⟩:=A;simp only[] at *
  have c0:w.cell? ⟨g,0,none⟩=some vs:=hb.cell 0
  have c2:w.cell? ⟨g,2,none⟩=some vl:=hb.cell 2
  have gz:g<w.heap.size:=hb.lt
  obtain⟨ρ',hρ⟩:∃ ρ',ρ'=ru ρ w.heap.size (4*kn+1):=⟨_,rfl⟩
  have R1:ρ' w.heap.size=4*kn+1:=by rw[hρ];exact ru_at _ _ _
  have R2:Hid (∀ b,b<w.heap.size->ρ' b=ρ b):=fun b hb=>by rw[hρ];exact ru_ne _ _ _ om
  have R3:Hid (∀ wr:World,w.heap.size+1<=wr.heap.size->Clean ρ' wr):=fun wr h b hb=>by rw[hρ,ru_ne _ _ _ om];exact hc b om
  rw[<- hρ];have HS:Hid (∀ wz,Below w.heap.size w wz->w.heap.size+1<=wz.heap.size->RdZ ρ' wz vs safe):=fun wz hz h1=>by
    have St:Stp (fun _=>False) ρ ρ' w wz:=⟨hz.os,hz.tape,hz.output,hz.size,R2.out,fun b h _=>hz.block b h,R3.out wz h1⟩
    exact hs.step St (fun h=>h)
  have HLo:Hid (Reads w vl loose):=reads_of_owns hl.1
  have HI:Hid (IntsAt w v L):=hL
  obtain⟨aS,cS,hvs,_,_⟩:=hs.slice;have hfacts:Hid (∀ k,k<=loose.length->Whole64 (crD L safe loose k)/\(crD L safe loose k).length<=safe.length+k):=crD_facts L safe loose w1 w2
  have hw2:Hid (∀ k,k<loose.length->(cAt loose k).2.size=64):=fun k hk=>w2 _ (cAt_mem hk)
  clear w1 w2;obtain⟨al,cl,rfl,hl1,hl2,hl3⟩:=HLo.out;have H3:Hid (loose≠[]->∃ g,al=some ⟨g,0,none⟩/\g<w.heap.size/\∀ j,j<loose.length->w.cell? ⟨g,j*2,none⟩=some (.int .i64 (cAt loose j).1)/\w.cell? ⟨g,j*2+1,none⟩=some (.string (cAt loose j).2)):=hl3
  unfold maxLen at hl2;obtain⟨aL,cL,rfl,hL1,hL2,hL3⟩:=HI.out;have H4:Hid (L≠[]->∃ b o,aL=some ⟨b,o,none⟩/\b<w.heap.size/\∀ j,j<L.length->w.cell? ⟨b,o+j,none⟩=some (.int .i64 (L.getD j 0))):=hL3
  unfold maxLen at hL2;have HR1:Hid (ρ' w.heap.size=4*kn+1):=R1
  clear hb hs hnn hl HLo HI hL hl3 hL3 hρ R1 hc;subst hvs;go_enter Tryz.func28,Tryz.ntmps28
  go_wp2_with (go_at_call 34;refine(new_d _).mono ?_;rintro e w1 ⟨rfl,rfl⟩;unfold dB)
  go_loopg [22] loose.length (fun gh i wr=>∃ n:Nat,n<=loose.length/\gh=loose.length-n/\i=.int .i64 n/\CrR ρ' w wr (crD L safe loose n))
  case atStart =>
    have hb0:Below w.heap.size w (w.alloc (.cells #[.slice aS safe.length cS,.slice none 0 0,.slice none 0 0,.int .i64 (-1),.bool false] 112)):=(Below.refl _ _).alloc (Nat.le_refl _) _
    exact⟨0,by omega,by omega,rfl,hb0,_,Blk.new _ _ _,HS.out _ hb0 (by simp)⟩
  case round =>
    obtain⟨n,hn',hgk,rfl,hcr⟩:=hrel;have HGK:Hid (gk=loose.length-n):=hgk
    clear hgk;obtain⟨hb,vr,hB,hR⟩:=hcr;obtain⟨hW,hLen⟩:=hfacts.out n hn';have hcl:Hid (Clean ρ' wr):=R3.out wr hB.lt
    have HCR:Hid (CrR ρ' w wr (crD L safe loose n)):=⟨hb,vr,hB,hR⟩
    obtain⟨aR,cR,rfl,_,_⟩:=hR.slice;have b0:wr.cell? ⟨w.heap.size,0,none⟩=some (.slice aR (crD L safe loose n).length cR):=hB.cell 0
    have b1:wr.cell? ⟨w.heap.size,1,none⟩=some (.slice none 0 0):=hB.cell 1
    have e0:wr.frozen? ⟨w.heap.size,0,none⟩=false:=hB.frozen 0
    have e1:wr.frozen? ⟨w.heap.size,1,none⟩=false:=hB.frozen 1
    have hz:w.heap.size<wr.heap.size:=hB.lt
    have hfin:Hid (∀ wz,Below wr.heap.size wr wz->(n=loose.length\/L=[])->DAt ρ' kn (wz.setCell ⟨w.heap.size,1,none⟩ (.slice aR (crD L safe loose n).length cR)) w.heap.size ⟨crD L safe loose loose.length,crD L safe loose loose.length,[],-1,false⟩/\Stp (fun _=>False) ρ ρ' w (wz.setCell ⟨w.heap.size,1,none⟩ (.slice aR (crD L safe loose n).length cR))):=fun wz hbz hq=>by
      have e:crD L safe loose n=crD L safe loose loose.length:=by
        rcases hq with rfl|rfl
        . rfl
        . rw[crD_nil,crD_nil]
      rw[<- e];have St:Stp (fun _=>False) ρ' ρ' wr wz:=Stp.below hcl.out hbz
      exact crash_end HR1.out St.clean R2.out (hb.trans (hbz.mono hb.size)) (hB.step St (fun h=>h)) (hR.step St (fun h=>h))
    by_cases hlt:n<loose.length
    . obtain⟨q,rfl,hq,hcc⟩:=H3.out (by intro e;rw[e] at hlt;simp at hlt)
      have d0:=(hb.cell (p:=⟨q,n*2,none⟩) hq).trans (hcc n hlt).1
      have d1:=(hb.cell (p:=⟨q,n*2+1,none⟩) hq).trans (hcc n hlt).2
      have hds:=hw2.out n hlt;clear hcc;by_cases hL0:L=[]
      . have hl0:L.length=0:=by rw[hL0];rfl
        have hl0':((L.length:Int)==0)=true:=by rw[hl0];rfl
        have HL0:Hid (L=[]):=hL0
        clear hL0;generalize (cAt loose n).1=sc at d0
        generalize (cAt loose n).2=sd at d1 hds
        go_wp2;go_ret;have hq:=hfin.out (wr.alloc (.cells #[.int .i64 sc,.string sd] 114)) upB (.inr HL0.out)
        rw[World.setCell_alloc_past _ _ _ _ hz] at hq;exact⟨rfl,hq⟩
      . obtain⟨bL,oL,rfl,hbL,hcL⟩:=H4.out hL0;have hLp:0<L.length:=by cases L with|nil=>exact absurd rfl hL0|cons _ _=>simp
        have hj:n%L.length<L.length:=Nat.mod_lt _ hLp
        have l0:=(hb.cell (p:=⟨bL,oL+n%L.length,none⟩) hbL).trans (hcL _ hj)
        have hnxt:Hid (crD L safe loose (n+1)=crStep (clampN (L.getD (n%L.length) 0)) (crD L safe loose n) (cAt loose n)):=rfl
        clear hcL;have hbLr:bL<wr.heap.size:=by omega
        generalize L.getD (n%L.length) 0=x at l0 hnxt
        obtain⟨m,hm⟩:∃ m,m=clampN x:=⟨_,rfl⟩
        have hm64:m<=64:=by rw[hm];exact clampN_le x
        rw[<- hm] at hnxt;obtain⟨S,hS⟩:∃ S,S=crD L safe loose n:=⟨_,rfl⟩
        rw[<- hS] at hfin HCR b0 hLen hW hR hnxt;have hgt:Hid (∀ w',Below wr.heap.size wr w'->Calls Tryz.prog 49 #[.slice aR S.length cR,.int .i64 (cAt loose n).1] w' fun e w''=>e=.returned (.string (look S (cAt loose n).1))/\Below w'.heap.size w' w''):=fun w' hb'=>get_any _ S _ w' om (hR.step (R:=fun _=>False) (Stp.below hcl.out hb') (fun h=>h)).1
        have hys:(look S (cAt loose n).1).size=64:=look_size hW _
        have hpt:Hid (∀ w' d,Below wr.heap.size wr w'->Calls Tryz.prog 50 #[.slice aR S.length cR,.agg #[.int .i64 (cAt loose n).1,.string d]] w' fun e w''=>∃ v',e=.returned v'/\w''.ownsRow w'.heap.size 114 2 v' (putC S ((cAt loose n).1,d)).length (cvs (putC S ((cAt loose n).1,d)))/\Below w'.heap.size w' w''):=fun w' d hb'=>put_any _ S _ d w' om (hR.step (R:=fun _=>False) (Stp.below hcl.out hb') (fun h=>h)).1
        have hnx0:Hid (m=0->crD L safe loose (n+1)=S):=fun e=>by rw[hnxt.out,e];rfl
        have hnx2:Hid (0<m->crD L safe loose (n+1)=putC S ((cAt loose n).1,mixB m (cAt loose n).2 (look S (cAt loose n).1))):=fun hm0=>by rw[hnxt.out];unfold crStep;rw[if_pos hm0]
        have HM:Hid (m=clampN x):=hm
        clear hB hR hS hnxt hW hm;generalize (cAt loose n).1=sc at *
        generalize (cAt loose n).2=sd at *
        generalize look S sc=y at *
        generalize hsl:S.length=sl at *
        go_upto_region 7 with fail
        go_cut [8,22] from 22 to 65 (fun u8 u22 wc=>u8=.int .i64 (m:Nat)/\u22=.int .i64 n/\wc=wr.alloc (.cells #[.int .i64 sc,.string sd] 114))
        case first =>
          go_wp2
          all_goals go_meet
          all_goals (
            refine⟨int_eq ?_,rfl,rfl⟩
            have:=HM.out
            unfold clampN at this;omega)
        case rest =>
          obtain⟨rfl,rfl,rfl⟩:=hcut;clear l0 HM;by_cases hm0:m=0
          . have hnx:=hnx0.out hm0;have HX:Hid (crD L safe loose (n+1)=S):=hnx
            clear hnx;subst hm0;go_wp2;go_roundg (loose.length-(n+1))
            case measure=>have:=HGK.out;omega
            case rel=>exact⟨n+1,by omega,rfl,by go_num,by rw[HX.out];exact HCR.out.below hcl.out upB⟩
          . have hm1:(m:Int)<=64:=by omega
            have hm2:(0:Int)<m:=by omega
            have hcat:¬9223372036854775807<min m 64+(64-m):=by omega
            have HX:Hid (crD L safe loose (n+1)=putC S (sc,sd.extract 0 m++y.extract m 64)):=by
              have:=hnx2.out om
              unfold mixB at this;rw[hys] at this;exact this
            go_upto_region 9 with fail
            go_cut [22] from 22 to 65 (fun u22 wc=>u22=.int .i64 n/\Below wr.heap.size wr wc/\wc.cell? ⟨wr.heap.size,0,none⟩=some (.int .i64 sc)/\wc.cell? ⟨wr.heap.size,1,none⟩=some (.string (sd.extract 0 m++y.extract m 64))/\wr.heap.size<wc.heap.size)
            case first =>
              go_region_with (go_at_call 49;refine(hgt.out _ upB).mono ?_;rintro e w2 ⟨rfl,hb2⟩;have k0:w2.cell? ⟨wr.heap.size,0,none⟩=some (.int .i64 sc):=(by rw[hb2.cell (p:=⟨wr.heap.size,0,none⟩) (by simp)];simp[go_sem]);have k1:w2.cell? ⟨wr.heap.size,1,none⟩=some (.string sd):=(by rw[hb2.cell (p:=⟨wr.heap.size,1,none⟩) (by simp)];simp[go_sem]);have k2:w2.frozen? ⟨wr.heap.size,1,none⟩=false:=(by rw[hb2.frozen (p:=⟨wr.heap.size,1,none⟩) (by simp)];simp[go_sem]);have z2:wr.heap.size<w2.heap.size:=(by have:=hb2.size;simp at this;omega))
              all_goals (
                have HB2:Hid (Below wr.heap.size wr w2):=Below.trans upB (hb2.mono (by simp))
                clear hb2;(try go_wp2_with fail)
                go_meet
                exact⟨rfl,by have hq:=HB2.out;exact upB,by simp[go_sem,k0],by apply World.cell?_setCell_same;exact k1,by simp[World.setCell];exact z2⟩)
            case rest =>
              obtain⟨rfl,hbc,k0,k1,z2⟩:=hcut;have k3:wc.cell? ⟨w.heap.size,0,none⟩=some (.slice aR sl cR):=by rw[hbc.cell (p:=⟨w.heap.size,0,none⟩) hz];exact b0
              have k4:wc.frozen? ⟨w.heap.size,0,none⟩=false:=by rw[hbc.frozen (p:=⟨w.heap.size,0,none⟩) hz];exact e0
              have HB2:Hid (Below wr.heap.size wr wc):=hbc
              clear hbc b0 e0 b1 e1 d0 d1 hgt;generalize hdd:sd.extract 0 m++y.extract m 64=dd at *
              clear hdd;go_wp2_with fail
              go_region_with (go_at_call 50;refine(hpt.out _ _ (by have hq:=HB2.out;exact upB)).mono ?_;rintro e w3 ⟨v3,rfl,hown3,hb3⟩;obtain⟨g3,cap3,hv3,hg3,hl3⟩:=hown3.form (putC_pos _ _);subst hv3;have k5:w3.cell? ⟨w.heap.size,0,none⟩=some (.slice aR sl cR):=(by rw[hb3.cell (p:=⟨w.heap.size,0,none⟩) (by simp;omega)];simp[go_sem,k3,hz]);have k6:w3.frozen? ⟨w.heap.size,0,none⟩=false:=(by rw[hb3.frozen (p:=⟨w.heap.size,0,none⟩) (by simp;omega)];simp[go_sem,k4,hz]))
              all_goals (
                go_wp2;go_roundg (loose.length-(n+1))
                case measure=>have:=HGK.out;omega
                case rel=>exact⟨n+1,by omega,rfl,by go_num,by rw[HX.out];exact HCR.out.put HR1.out hcl.out (by have hq:=HB2.out;exact upB) hb3 hown3⟩)
    . have hne:n=loose.length:=by omega
      have HN:Hid (n=loose.length):=hne
      clear hne;go_wp2;go_ret;exact⟨rfl,hfin.out _ (Below.refl _ _) (.inl HN.out)⟩
end Go.Proofs.YtjnhhnbgjjkkjaaGreatDoor
