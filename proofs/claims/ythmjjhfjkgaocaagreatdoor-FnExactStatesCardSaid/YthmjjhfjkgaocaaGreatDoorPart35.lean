import Derived.Test.YthmjjhfjkgaocaaGreatDoorPart34
import Derived.Deep.CutRange
import Derived.Deep.RegionHeld3
import Derived.Deep.RegionWith
import Derived.BigQuiet
set_option linter.unusedSimpArgs false
set_option linter.unusedVariables false
set_option maxHeartbeats 8000000
set_option maxRecDepth 1000000
namespace Go.Proofs.YthmjjhfjkgaocaaGreatDoor
open Go.RowKit
theorem wk11 (l:List ProtoD)(p:Nat)(S:Nat→Prop)(w:World)(bC bF bP bS bD bT:Nat)(a:Option Addr)(m c:Nat)(nm:ByteArray)(ln pr:Int)(rs:Bool)(rg:Int)(a5 a6 a7 a8:Option Addr)(n5 n6 ni n8 c5 c6 c7 c8:Nat)
  (HB:Hid (WkB w bC bF bP bS bD bT))(HK:Hid (WkOk l p))(HNI:Hid ((prD l p).ins.length=ni))(HM:Hid (l.length=m))(HPS:Hid (ProtosAt w S a l))(HBS:Hid (∀ b,S b→b<w.heap.size))(HI7:Hid (InssAt w S a7 (prD l p).ins))(hni:ni≤6000)
  (k3 k10 k18 k20 k21 k22 k23 k24 k25 k26 k27 k28 k29 k30 k31 k32 k33 k34 k35 k36 k37 k38 k39 k40 k41 k42 k43 k44 k45 k46 k47 k48 k49 k50 k51 k52 k53 k54 k55 k56:Value)(u4 u11 u12 u13 u14 u15 u16 u17 u19 u57 u58 u59 u60 u61 u62 u63 u64 u65 u66 u67 u68 u69 u70 u71 u72 u73 u74 u75 u76 u77 u78 u79 u80 u81 u82 u83 u84 u85 u86 u87 u88 u89 u90 u91 u92 u93 u94 u95 u96 u97 u98 u99 u100 u101 u102 u103 u104 u105 u106 u107 u108 u109 u110 u111 u112 u113 u114 u115 u116 u117 u118 u119 u120 u121 u122 u123 u124 u125 u126 u127 u128 u129 u130 u131 u132 u133 u134 u135 u136 u137 u138 u139 u140 u141 u142 u143 u144 u145 u146 u147 u148 u149 u150 u151 u152 u153 u154 u155 u156 u157 u158 u159 u160 u161 u162 u163 u164 u165 u166 u167 u168 u169 u170 u171 u172 u173 u174 u175 u176 u177 u178 u179 u180 u181 u182 u183 u184 u185 u186 u187 u188 u189 u190 u191 u192 u193 u194 u195 u196 u197 u198 u199 u200 u201 u202 u203 u204 u205 u206 u207 u208 u209:Value)(wr:World)(rn:Nat)(hn0:0<ni)(HW:Hid (WkW w bC bF bP bS bD bT a m c nm ln pr rs rg (.slice a5 n5 c5) (.slice a6 n6 c6) (.slice a7 ni c7) (.slice a8 n8 c8) ni sig0 (fun _=>nil2) wr))(HOWN:Hid (OwnI wr bT (.slice (some ⟨bT,0,none⟩) rn rn) (firstTy (prD l p))))(ST0:Hid (MOk (prD l p).regs.toNat ni (startM (prD l p))))
  (KK:Act→World→Prop)(hKK:∀(a':Act)(w':World),Code.wp Tryz.prog (cAt [1,1,1,1,1,1,1,1] (Tryz.f15.body.getD .skip)) (bodyPost Tryz.prog Tryz.f15 (WkPost l p w)) a' w'→KK a' w') :
  Code.wp Tryz.prog (cAt [1,1,1,1,1,1,1,0] (Tryz.f15.body.getD .skip)) (Exit.then KK (bodyPost Tryz.prog Tryz.f15 (WkPost l p w))) ⟨List.toArray (.agg #[.slice a m c] :: .int .i64 (p:Int) :: .pointer (some ⟨bC,0,none⟩)::k3::u4 :: .pointer (some ⟨bF,0,none⟩) :: .pointer (some ⟨bP,0,none⟩) :: .slice (some ⟨bS,0,none⟩) ni ni :: .slice (some ⟨bD,0,none⟩) ni ni :: .slice (some ⟨bT,0,none⟩) rn rn::k10::u11::u12::u13::u14::u15::u16::u17::k18::u19::k20::k21::k22::k23::k24::k25::k26::k27::k28::k29::k30::k31::k32::k33::k34::k35::k36::k37::k38::k39::k40::k41::k42::k43::k44::k45::k46::k47::k48::k49::k50::k51::k52::k53::k54::k55::k56::u57::u58::u59::u60::u61::u62::u63::u64::u65::u66::u67::u68::u69::u70::u71::u72::u73::u74::u75::u76::u77::u78::u79::u80::u81::u82::u83::u84::u85::u86::u87::u88::u89::u90::u91::u92::u93::u94::u95::u96::u97::u98::u99::u100::u101::u102::u103::u104::u105::u106::u107::u108::u109::u110::u111::u112::u113::u114::u115::u116::u117::u118::u119::u120::u121::u122::u123::u124::u125::u126::u127::u128::u129::u130::u131::u132::u133::u134::u135::u136::u137::u138::u139::u140::u141::u142::u143::u144::u145::u146::u147::u148::u149::u150::u151::u152::u153::u154::u155::u156::u157::u158::u159::u160::u161::u162::u163::u164::u165::u166::u167::u168::u169::u170::u171::u172::u173::u174::u175::u176::u177::u178::u179::u180::u181::u182::u183::u184::u185::u186::u187::u188::u189::u190::u191::u192::u193::u194::u195::u196::u197::u198::u199::u200::u201::u202::u203::u204::u205::u206::u207::u208::u209::[]),[]⟩ wr:=by
 conv=>arg 2;whnf
 conv at hKK=>enter [a1,w2,1,2];whnf
 have hW:=unhide HW
 have s0:=hW.reached hn0
 have s1:=hW.typesV hn0
 have s2:=hW.guardsV hn0
 rw[Nat.zero_mul]at s0
 rw[Nat.zero_mul,Nat.zero_add]at s1 s2
 change wr.cell? ⟨bS,0,none⟩=some (.bool false)at s0
 change wr.cell? ⟨bS,1,none⟩=some (.slice none 0 0)at s1
 change wr.cell? ⟨bS,2,none⟩=some (.slice none 0 0)at s2
 have z0:=hW.sts.frozen 0;have z1:=hW.sts.frozen 1;have z2:=hW.sts.frozen 2
 have hbS:=hW.sts.lt
 have hsx:(0:Int)<ni:=by omega
 have HW1:Hid (WkW w bC bF bP bS bD bT a m c nm ln pr rs rg (.slice a5 n5 c5) (.slice a6 n6 c6) (.slice a7 ni c7) (.slice a8 n8 c8) ni ⟨upd sig0.st 0 (some ⟨firstTy (prD l p),[]⟩),sig0.due⟩ (upd (fun _=>nil2) 0 (.slice (some ⟨bT,0,none⟩) rn rn,.slice none 0 0)) (((wr.setCell ⟨bS,0,none⟩ (.bool true)).setCell ⟨bS,1,none⟩ (.slice (some ⟨bT,0,none⟩) rn rn)).setCell ⟨bS,2,none⟩ (.slice none 0 0))):=
  hW.setSt (unhide HB) 0 ⟨firstTy (prD l p),[]⟩ _ _ HOWN.out (World.ownsRow_nil _ _ _ _)
 clear hW HW HOWN
 go_upto_region 12 with fail
 clear s0 s1 s2 z0 z1 z2 hbS
 generalize ((wr.setCell ⟨bS,0,none⟩ (.bool true)).setCell ⟨bS,1,none⟩ (.slice (some ⟨bT,0,none⟩) rn rn)).setCell ⟨bS,2,none⟩ (.slice none 0 0)=w1 at *
 have d0:=(unhide HW1).due.cell hn0
 have dz:=(unhide HW1).due.frozen 0
 have dl:=(unhide HW1).due.lt
 have HW2:Hid (WkW w bC bF bP bS bD bT a m c nm ln pr rs rg (.slice a5 n5 c5) (.slice a6 n6 c6) (.slice a7 ni c7) (.slice a8 n8 c8) ni (startM (prD l p)) (upd (fun _=>nil2) 0 (.slice (some ⟨bT,0,none⟩) rn rn,.slice none 0 0)) (w1.setCell ⟨bD,0,none⟩ (.bool true))):=(unhide HW1).setDue (unhide HB) 0 true
 clear HW1
 go_wp2_with fail
 clear d0 dz dl
 generalize w1.setCell ⟨bD,0,none⟩ (.bool true)=w2 at *
 go_loopg [] (left ni (startM (prD l p))) (fun gg wr'=>WkRel l p w bC bF bP bS bD bT a m c nm ln pr rs rg a5 a6 a7 a8 n5 n6 ni n8 c5 c6 c7 c8 gg wr')
 case atStart=>exact⟨0,_,_,unhide HW2,rfl,ST0,rfl⟩
 case round=>
  rename_i J0 K0 hJ0 hK0
  clear HW2
  obtain⟨k,σ,R,hW,HG,HO,HL⟩:=hrel
  have HW:=hide hW
  have hbD:=hW.due.lt
  clear hW
  go_wp2_with fail
  go_loopg [11] ni (fun gg i wr'=>∃ at_:Nat,at_+gg=ni∧i=.int .i64 at_∧WkW w bC bF bP bS bD bT a m c nm ln pr rs rg (.slice a5 n5 c5) (.slice a6 n6 c6) (.slice a7 ni c7) (.slice a8 n8 c8) ni σ R wr'∧Hid (∀ b,b<at_→σ.due b=false))
  case atStart=>exact⟨0,by omega,rfl,unhide HW,fun b h=>absurd h (Nat.not_lt_zero _)⟩
  case round=>
   clear HW hbD
   obtain⟨at_,hat,rfl,hW,hall⟩:=hrel
   by_cases hlt:at_<ni
   ·have hd:=hW.due.cell hlt
    have hbD:=hW.due.lt
    have hatI:(at_:Int)<ni:=by omega
    have HW:=hide hW
    clear hW
    cases hdu:σ.due at_
    ·rw[hdu]at hd
     have NX:Hid (∀ b,b<at_+1→σ.due b=false):=fun b hb=>by
      by_cases e:b=at_
      ·subst e;exact hdu
      ·exact hall.out b (by omega)
     clear hdu
     go_wp2_with fail
     go_roundg (ni-(at_+1))
     case measure=>omega
     case rel=>exact⟨at_+1,by omega,by go_num,unhide HW,NX⟩
    ·rw[hdu]at hd
     have LD:Hid (LeastDue σ ni at_):=⟨hlt,hdu,hall.out⟩
     have hne:((at_:Int)==(ni:Int))=false:=beq_eq_false_iff_ne.2 (by omega)
     clear hdu
     go_upto_region 24 with fail
     rename_i K9 h9
     exact wk24 l p S w bC bF bP bS bD bT a m c nm ln pr rs rg a5 a6 a7 a8 n5 n6 ni n8 c5 c6 c7 c8 HB HK HNI HM HPS HBS HI7 hni _ _ _ _ _ _ _ _ _ _ _ _ _ _ _ _ _ _ _ _ _ _ _ _ _ _ _ _ _ _ _ _ _ _ _ _ _ _ _ _ _ _ _ _ _ _ _ _ _ _ _ _ _ _ _ _ _ _ _ _ _ _ _ _ _ _ _ _ _ _ _ _ _ _ _ _ _ _ _ _ _ _ _ _ _ _ _ _ _ _ _ _ _ _ _ _ _ _ _ _ _ _ _ _ _ _ _ _ _ _ _ _ _ _ _ _ _ _ _ _ _ _ _ _ _ _ _ _ _ _ _ _ _ _ _ _ _ _ _ _ _ _ _ _ _ _ _ _ _ _ _ _ _ _ _ _ _ _ _ _ _ _ _ _ _ _ _ _ _ _ _ _ _ _ _ _ _ _ _ _ _ _ _ _ _ _ _ _ _ _ _ _ _ _ _ _ _ _ _ _ _ _ _ k σ wr HG HO HL at_ R LD hlt HW J0 K0 hJ0 hK0 K9 h9
   ·have hai:ni=at_:=by omega
    subst hai
    have ND:Hid (NoDue σ (prD l p).ins.length):=by show NoDue _ _;rw[HNI.out];exact hall.out
    have hbb:((ni:Int)==(ni:Int))=true:=by simp
    have hbS:=hW.sts.lt
    have HW:=hide hW
    have SIL:Hid (∀(W:World),Below w.heap.size w W→∀ q,q<ni→Calls Tryz.prog 30 #[.agg #[.string nm,.int .i64 ln,.int .i64 pr,.bool rs,.int .i64 rg,.slice a5 n5 c5,.slice a6 n6 c6,.slice a7 ni c7,.slice a8 n8 c8],.int .i64 q] W (RndPost (ringsE (prD l p)) q W)):=fun W hWW q hq=>by
     refine l6round_any (ringsE (prD l p)) q ni nm ln pr rs rg (.slice a5 n5 c5) (.slice a6 n6 c6) (.slice a8 n8 c8) a7 c7 W hni hq (fun j hj y hy=>?_) (fun j=>silentC_le _ _) (fun W' j hW' hj=>?_)
     ·have:=(shape_silent (HK.out.ins j (by rw[HNI.out];exact hj)) (by rw[HNI.out];exact hj)).2.1 y hy
      rw[HNI.out]at this
      exact this
     ·have hbel:Below w.heap.size w W':=hWW.trans (hW'.mono hWW.size)
      have h:=l6silent_any j nm ln pr rs rg (List.replicate n5 (false,0)) (List.replicate n6 ValD.z) (prD l p).ins (List.replicate n8 NamD.z) a5 a6 a7 a8 c5 c6 c7 c8 S W' ((unhide HI7).keep hbel (unhide HBS)) (fun b hb=>Nat.lt_of_lt_of_le (unhide HBS b hb) hbel.size) (by rw[HNI.out];exact hj) (by rw[HNI.out];omega)
      rw[List.length_replicate,List.length_replicate,List.length_replicate,HNI.out]at h
      have e:=(shape_silent (HK.out.ins j (by rw[HNI.out];exact hj)) (by rw[HNI.out];exact hj)).1
      refine h.mono ?_
      rintro e' w' ⟨v,rfl,h1,h2⟩
      refine⟨v,rfl,?_,h2⟩
      rw[←e]
      exact h1
    clear hW hall
    go_wp2_with fail
    go_loopg [76] ni (fun gg i wr'=>∃ q:Nat,q+gg=ni∧i=.int .i64 q∧WkW w bC bF bP bS bD bT a m c nm ln pr rs rg (.slice a5 n5 c5) (.slice a6 n6 c6) (.slice a7 ni c7) (.slice a8 n8 c8) ni σ R wr'∧Hid (∀ b,b<q→σ.st b≠none→¬Ring (ringsE (prD l p)) b))
    case atStart=>exact⟨0,by omega,rfl,unhide HW,fun b h=>absurd h (Nat.not_lt_zero _)⟩
    case round=>
     clear HW hbS
     obtain⟨q,hq,rfl,hW,hall⟩:=hrel
     by_cases hlt:q<ni
     ·have hr:=hW.reached hlt
      have hbS:=hW.sts.lt
      have hqI:(q:Int)<ni:=by omega
      have hWo:=hW.old
      obtain⟨p0,p1,p2,p3,p4,p5,p6,p7,p8⟩:=hW.prot
      have hbP:bP<wr.heap.size:=World.block_lt_of_cell? _ _ p0
      have HW:=hide hW
      have RD:=hide (unhide SIL wr hWo q hlt)
      clear hW hWo
      cases hst:σ.st q with
      | none=>
       rw[hst]at hr
       change wr.cell? ⟨bS,q * 3,none⟩=some (.bool false)at hr
       have NX:Hid (∀ b,b<q+1→σ.st b≠none→¬Ring (ringsE (prD l p)) b):=fun b hb hs=>by
        by_cases e:b=q
        ·subst e;exact absurd hst hs
        ·exact hall.out b (by omega) hs
       clear hst
       go_wp2_with fail
       go_roundg (ni-(q+1))
       case measure=>omega
       case rel=>exact⟨q+1,by omega,by go_num,unhide HW,NX⟩
      | some s=>
       rw[hst]at hr
       change wr.cell? ⟨bS,q * 3,none⟩=some (.bool true)at hr
       have HST:=hide hst
       clear hst
       go_wp2_with fail
       refine(unhide RD).mono ?_
       rintro e w3 ⟨rr,rfl,hiff,hb3⟩
       have HW3:=hide ((unhide HW).below (unhide HB) hb3)
       clear hr hbS p0 p1 p2 p3 p4 p5 p6 p7 p8 hbP RD
       cases rr
       ·have NX:Hid (∀ b,b<q+1→σ.st b≠none→¬Ring (ringsE (prD l p)) b):=fun b hb hs=>by
         by_cases e:b=q
         ·subst e;exact fun h=>Bool.noConfusion (hiff.2 h)
         ·exact hall.out b (by omega) hs
        clear hiff hb3
        go_wp2_with fail
        go_roundg (ni-(q+1))
        case measure=>omega
        case rel=>exact⟨q+1,by omega,by go_num,unhide HW3,NX⟩
       ·have RNG:Hid (Ring (ringsE (prD l p)) q):=hiff.1 rfl
        clear hiff hb3
        have hrs:=(unhide HW3).res
        have r0:=hrs.cell (i:=0) (by omega);have r1:=hrs.cell (i:=1) (by omega);have r2:=hrs.cell (i:=2) (by omega)
        have z0:=hrs.frozen 0;have z1:=hrs.frozen 1;have z2:=hrs.frozen 2
        have hbF:=hrs.lt
        clear hrs
        go_wp2_with fail
        refine(l6fault_any _ _ _ _).mono ?_
        rintro e wf ⟨rfl,hbf⟩
        have hrs:=((unhide HW3).below (unhide HB) hbf).res
        have BB:Hid (∀ v0 v1 v2,Below w.heap.size w (((wf.setCell ⟨bF,0,none⟩ v0).setCell ⟨bF,1,none⟩ v1).setCell ⟨bF,2,none⟩ v2)):=fun v0 v1 v2=>set3_old ((unhide HW3).old.trans (hbf.mono (unhide HW3).old.size)) (by obtain⟨_,_,_,_,_,_⟩:=unhide HB;omega) v0 v1 v2
        clear r0 r1 r2 z0 z1 z2 hbF
        have r0:=hrs.cell (i:=0) (by omega);have r1:=hrs.cell (i:=1) (by omega);have r2:=hrs.cell (i:=2) (by omega)
        have z0:=hrs.frozen 0;have z1:=hrs.frozen 1;have z2:=hrs.frozen 2
        have hbF:=hrs.lt
        clear hrs hbf
        go_wp2_with fail
        refine bodyPost_ret (v:=.tuple #[.slice none 0 0,.agg #[.int .i64 14,.int .i64 (p:Int),.int .i64 (q:Int)]]) (by simp[results,Tryz.results15,go_sem,r0,r1,r2]) rfl ?_
        exact wk_ring HG.out ND.out (by have:=HNI.out;omega) (by rw[HST.out];exact Option.some_ne_none _) RNG.out hall.out (BB.out _ _ _)
     ·have hqn:ni=q:=by omega
      subst hqn
      have HW:=hide hW
      have hrs:=hW.res
      have r0:=hrs.cell (i:=0) (by omega);have r1:=hrs.cell (i:=1) (by omega);have r2:=hrs.cell (i:=2) (by omega)
      have z0:=hrs.frozen 0;have z1:=hrs.frozen 1;have z2:=hrs.frozen 2
      have hbF:=hrs.lt
      have FIN:Hid (∀ v0 v1 v2,Below w.heap.size w (((wr.setCell ⟨bF,0,none⟩ v0).setCell ⟨bF,1,none⟩ v1).setCell ⟨bF,2,none⟩ v2)∧StatesAt l (prD l p) w.heap.size (.slice (some ⟨bS,0,none⟩) ni ni) (((wr.setCell ⟨bF,0,none⟩ v0).setCell ⟨bF,1,none⟩ v1).setCell ⟨bF,2,none⟩ v2)):=fun v0 v1 v2=>by
       obtain⟨o1,o2,o3,o4,o5,o6⟩:=unhide HB
       refine⟨set3_old (unhide HW).old (by omega) v0 v1 v2,k,σ,bS,bT,R,by rw[HNI.out],HG.out,ND.out,by rw[HNI.out];exact HO.out,by omega,by omega,?_,fun i s hi hs=>?_,fun i hi hs=>?_⟩
       ·rw[HNI.out]
        exact((((unhide HW).sts.setOther (a:=⟨bF,0,none⟩) (by show bS≠bF;omega) v0).setOther (a:=⟨bF,1,none⟩) (by show bS≠bF;omega) v1).setOther (a:=⟨bF,2,none⟩) (by show bS≠bF;omega) v2)
       ·rw[HNI.out]at hi
        obtain⟨h1,h2⟩:=(unhide HW).own i s hi hs
        exact⟨((h1.setOther (by omega)).setOther (by omega)).setOther (by omega),((h2.setOther (by omega)).setOther (by omega)).setOther (by omega)⟩
       ·rw[HNI.out]at hi
        exact(unhide HW).none_ i hi hs
      clear hW hrs
      go_wp2_with fail
      refine bodyPost_ret (v:=.tuple #[.slice (some ⟨bS,0,none⟩) ni ni,.agg #[.int .i64 0,.int .i64 0,.int .i64 0]]) (by simp[results,Tryz.results15,go_sem,r0,r1,r2]) rfl ?_
      exact wk_well HG.out ND.out (fun b hb hs=>hall.out b (by have:=HNI.out;omega) hs) (FIN.out _ _ _).2 (FIN.out _ _ _).1
end Go.Proofs.YthmjjhfjkgaocaaGreatDoor
