import Derived.Test.YtcjfjflljdojlaaGreatDoorPart34
import Derived.Deep.CutRange
import Derived.Deep.RegionHeld3
import Derived.Deep.RegionWith
import Derived.BigQuiet
set_option linter.unusedSimpArgs false
set_option linter.unusedVariables false
set_option maxHeartbeats 8000000
set_option maxRecDepth 1000000
namespace Go.Proofs.YtcjfjflljdojlaaGreatDoor
open Go.RowKit
theorem Uu (l:List ak)(p:Nat)(S:Nat->Prop)(w:World)(bC bF bP bS bD bT:Nat)(a:o_)(m c:Nat)(nm:ByteArray)(ln pr:Int)(rs:Bool)(rg:Int)(a5 a6 a7 a8:o_)(n5 n6 ni n8 c5 c6 c7 c8:Nat)
  (HB:Hid (LJ w bC bF bP bS bD bT))(HK:Hid (uD l p))(jO:Hid ((am l p).ins.length=ni))(HM:Hid (l.length=m))(qH:Hid (ao w S a l))(gW:Hid (∀ b,S b->b<w.heap.size))(Fi:Hid (bQ w S a7 (am l p).ins))(kp:ni<=6000)
  (k3 tm k18 k20 k21 k22 k23 k24 k25 k26 k27 k28 k29 k30 k31 k32 k33 k34 k35 k36 k37 k38 k39 k40 k41 k42 k43 k44 k45 k46 k47 k48 k49 k50 k51 k52 k53 k54 k55 k56:Value)(u4 u11 u12 u13 u14 u15 u16 u17 u19 u57 u58 u59 u60 u61 u62 u63 u64 u65 u66 u67 u68 u69 u70 u71 u72 u73 u74 u75 u76 u77 u78 u79 u80 u81 u82 u83 u84 u85 u86 u87 u88 u89 u90 u91 u92 u93 u94 u95 u96 u97 u98 u99 u100 u101 u102 u103 u104 u105 u106 u107 u108 u109 u110 u111 u112 u113 u114 u115 u116 u117 u118 u119 u120 u121 u122 u123 u124 u125 u126 u127 u128 u129 u130 u131 u132 u133 u134 u135 u136 u137 u138 u139 u140 u141 u142 u143 u144 u145 u146 u147 u148 u149 u150 u151 u152 u153 u154 u155 u156 u157 u158 u159 u160 u161 u162 u163 u164 u165 u166 u167 u168 u169 u170 u171 u172 u173 u174 u175 u176 u177 u178 u179 u180 u181 u182 u183 u184 u185 u186 u187 u188 u189 u190 u191 u192 u193 u194 u195 u196 u197 u198 u199 u200 u201 u202 u203 u204 u205 u206 u207 u208 u209:Value)(wr:World)(rn:Nat)(Fm:0<ni)(HW:Hid (ou w bC bF bP bS bD bT a m c nm ln pr rs rg (.slice a5 n5 c5) (.slice a6 n6 c6) (.slice a7 ni c7) (.slice a8 n8 c8) ni mD (fun _=>mC) wr))(mF:Hid (ar wr bT (.slice (some (a_ bT 0)) rn rn) (dA (am l p))))(Vj:Hid (oV (am l p).regs.toNat ni (jb (am l p))))
  (KK:Act->World->Prop)(hKK:∀(a':Act)(w':World),Code.wp Tryz.prog (wL [1,1,1,1,1,1,1,1] (Tryz.f22.body.getD .skip)) (bodyPost Tryz.prog Tryz.f22 (ie l p w)) a' w'->KK a' w') :
  Code.wp Tryz.prog (wL [1,1,1,1,1,1,1,0] (Tryz.f22.body.getD .skip)) (Exit.then KK (bodyPost Tryz.prog Tryz.f22 (ie l p w))) ⟨List.toArray (.agg #[.slice a m c] :: i_ (p:Int) :: .pointer (some (a_ bC 0))::k3::u4 :: .pointer (some (a_ bF 0)) :: .pointer (some (a_ bP 0)) :: .slice (some (a_ bS 0)) ni ni :: .slice (some (a_ bD 0)) ni ni :: .slice (some (a_ bT 0)) rn rn::tm::u11::u12::u13::u14::u15::u16::u17::k18::u19::k20::k21::k22::k23::k24::k25::k26::k27::k28::k29::k30::k31::k32::k33::k34::k35::k36::k37::k38::k39::k40::k41::k42::k43::k44::k45::k46::k47::k48::k49::k50::k51::k52::k53::k54::k55::k56::u57::u58::u59::u60::u61::u62::u63::u64::u65::u66::u67::u68::u69::u70::u71::u72::u73::u74::u75::u76::u77::u78::u79::u80::u81::u82::u83::u84::u85::u86::u87::u88::u89::u90::u91::u92::u93::u94::u95::u96::u97::u98::u99::u100::u101::u102::u103::u104::u105::u106::u107::u108::u109::u110::u111::u112::u113::u114::u115::u116::u117::u118::u119::u120::u121::u122::u123::u124::u125::u126::u127::u128::u129::u130::u131::u132::u133::u134::u135::u136::u137::u138::u139::u140::u141::u142::u143::u144::u145::u146::u147::u148::u149::u150::u151::u152::u153::u154::u155::u156::u157::u158::u159::u160::u161::u162::u163::u164::u165::u166::u167::u168::u169::u170::u171::u172::u173::u174::u175::u176::u177::u178::u179::u180::u181::u182::u183::u184::u185::u186::u187::u188::u189::u190::u191::u192::u193::u194::u195::u196::u197::u198::u199::u200::u201::u202::u203::u204::u205::u206::u207::u208::u209::[]),[]⟩ wr:=by
 conv=>arg 2;whnf
 conv at hKK=>enter [a1,w2,1,2];whnf
 have hW:=aa HW;have s0:=hW.reached Fm;have s1:=hW.typesV Fm;have s2:=hW.guardsV Fm;rw[Nat.zero_mul]at s0;rw[Nat.zero_mul,Nat.zero_add]at s1 s2;change wr.cell? (a_ bS 0)=some (.bool false)at s0;change wr.cell? (a_ bS 1)=some (.slice none 0 0)at s1;change wr.cell? (a_ bS 2)=some (.slice none 0 0)at s2;have z0:=hW.sts.frozen 0;have z1:=hW.sts.frozen 1;have z2:=hW.sts.frozen 2;have jF:=hW.sts.lt;have XM:(0:Int)<ni:=by omega
 have lz:Hid (ou w bC bF bP bS bD bT a m c nm ln pr rs rg (.slice a5 n5 c5) (.slice a6 n6 c6) (.slice a7 ni c7) (.slice a8 n8 c8) ni ⟨bZ mD.st 0 (some ⟨dA (am l p),[]⟩),mD.due⟩ (bZ (fun _=>mC) 0 (.slice (some (a_ bT 0)) rn rn,.slice none 0 0)) (((wr.setCell (a_ bS 0) (.bool true)).setCell (a_ bS 1) (.slice (some (a_ bT 0)) rn rn)).setCell (a_ bS 2) (.slice none 0 0))):=
  hW.setSt (aa HB) 0 ⟨dA (am l p),[]⟩ _ _ mF.out (World.ownsRow_nil _ _ _ _)
 clear hW HW mF
 go_upto_region 12 with fail
 clear s0 s1 s2 z0 z1 z2 jF;generalize ((wr.setCell (a_ bS 0) (.bool true)).setCell (a_ bS 1) (.slice (some (a_ bT 0)) rn rn)).setCell (a_ bS 2) (.slice none 0 0)=w1 at *;have d0:=(aa lz).due.cell Fm;have dz:=(aa lz).due.frozen 0;have dl:=(aa lz).due.lt;have lD:Hid (ou w bC bF bP bS bD bT a m c nm ln pr rs rg (.slice a5 n5 c5) (.slice a6 n6 c6) (.slice a7 ni c7) (.slice a8 n8 c8) ni (jb (am l p)) (bZ (fun _=>mC) 0 (.slice (some (a_ bT 0)) rn rn,.slice none 0 0)) (w1.setCell (a_ bD 0) (.bool true))):=(aa lz).setDue (aa HB) 0 true;clear lz;go_wp2_with fail
 clear d0 dz dl;generalize w1.setCell (a_ bD 0) (.bool true)=w2 at *;go_loopg [] (bB ni (jb (am l p))) (fun gg wr'=>AO l p w bC bF bP bS bD bT a m c nm ln pr rs rg a5 a6 a7 a8 n5 n6 ni n8 c5 c6 c7 c8 gg wr')
 case atStart=>exact⟨0,_,_,aa lD,rfl,Vj,rfl⟩
 case round=>
  rename_i J0 K0 hJ0 hK0;clear lD;obtain⟨k,σ,R,hW,HG,HO,HL⟩:=hrel;have HW:=af hW;have hbD:=hW.due.lt;clear hW;go_wp2_with fail
  go_loopg [11] ni (fun gg i wr'=>∃ at_:Nat,at_+gg=ni/\i=i_ at_/\ou w bC bF bP bS bD bT a m c nm ln pr rs rg (.slice a5 n5 c5) (.slice a6 n6 c6) (.slice a7 ni c7) (.slice a8 n8 c8) ni σ R wr'/\Hid (∀ b,b<at_->σ.due b=false))
  case atStart=>exact⟨0,by omega,rfl,aa HW,fun b h=>absurd h (Nat.not_lt_zero _)⟩
  case round=>
   clear HW hbD;obtain⟨at_,fY,rfl,hW,bN⟩:=hrel;by_cases ax:at_<ni
   ·have hd:=hW.due.cell ax;have hbD:=hW.due.lt;have OA:(at_:Int)<ni:=by omega
    have HW:=af hW;clear hW;cases hdu:σ.due at_
    ·rw[hdu]at hd;have NX:Hid (∀ b,b<at_+1->σ.due b=false):=fun b hb=>by
      by_cases e:b=at_
      ·aj e;exact hdu
      ·exact bN.out b (by omega)
     clear hdu;go_wp2_with fail
     go_roundg (ni-(at_+1))
     case measure=>omega
     case rel=>exact⟨at_+1,by omega,by go_num,aa HW,NX⟩
    ·rw[hdu]at hd;have LD:Hid (di σ ni at_):=⟨ax,hdu,bN.out⟩;have ei:((at_:Int)==(ni:Int))=false:=beq_eq_false_iff_ne.2 (by omega);clear hdu
     go_upto_region 24 with fail
     rename_i K9 h9;exact YU l p S w bC bF bP bS bD bT a m c nm ln pr rs rg a5 a6 a7 a8 n5 n6 ni n8 c5 c6 c7 c8 HB HK jO HM qH gW Fi kp _ _ _ _ _ _ _ _ _ _ _ _ _ _ _ _ _ _ _ _ _ _ _ _ _ _ _ _ _ _ _ _ _ _ _ _ _ _ _ _ _ _ _ _ _ _ _ _ _ _ _ _ _ _ _ _ _ _ _ _ _ _ _ _ _ _ _ _ _ _ _ _ _ _ _ _ _ _ _ _ _ _ _ _ _ _ _ _ _ _ _ _ _ _ _ _ _ _ _ _ _ _ _ _ _ _ _ _ _ _ _ _ _ _ _ _ _ _ _ _ _ _ _ _ _ _ _ _ _ _ _ _ _ _ _ _ _ _ _ _ _ _ _ _ _ _ _ _ _ _ _ _ _ _ _ _ _ _ _ _ _ _ _ _ _ _ _ _ _ _ _ _ _ _ _ _ _ _ _ _ _ _ _ _ _ _ _ _ _ _ _ _ _ _ _ _ _ _ _ _ _ _ _ k σ wr HG HO HL at_ R LD ax HW J0 K0 hJ0 hK0 K9 h9
   ·have hai:ni=at_:=by omega
    aj hai
    have ND:Hid (mt σ (am l p).ins.length):=by show mt _ _;rw[jO.out];exact bN.out
    have T9:((ni:Int)==(ni:Int))=true:=by simp
    have jF:=hW.sts.lt;have HW:=af hW;have Yv:Hid (∀(W:World),b_ w W->∀ q,q<ni->c_ 56 #[.agg #[.string nm,i_ ln,i_ pr,.bool rs,i_ rg,.slice a5 n5 c5,.slice a6 n6 c6,.slice a7 ni c7,.slice a8 n8 c8],i_ q] W (sZ (ff (am l p)) q W)):=fun W St q hq=>by
     refine A5 (ff (am l p)) q ni nm ln pr rs rg (.slice a5 n5 c5) (.slice a6 n6 c6) (.slice a8 n8 c8) a7 c7 W kp hq (fun j hj y hy=>?_) (fun j=>DS _ _) (fun W' j Wu hj=>?_)
     ·have:=(pF (HK.out.ins j (by rw[jO.out];exact hj)) (by rw[jO.out];exact hj)).2.1 y hy;rw[jO.out]at this;exact this
     ·have jN:b_ w W':=St.trans (Wu.mono St.size);have h:=xR j nm ln pr rs rg (List.replicate n5 (false,0)) (List.replicate n6 cS.z) (am l p).ins (List.replicate n8 bE.z) a5 a6 a7 a8 c5 c6 c7 c8 S W' ((aa Fi).keep jN (aa gW)) (fun b hb=>l_ (aa gW b hb) jN.size) (by rw[jO.out];exact hj) (by rw[jO.out];omega);rw[List.length_replicate,List.length_replicate,List.length_replicate,jO.out]at h;have e:=(pF (HK.out.ins j (by rw[jO.out];exact hj)) (by rw[jO.out];exact hj)).1;refine h.mono ?_;rintro e' w' ⟨v,rfl,h1,h2⟩;refine⟨v,rfl,?_,h2⟩;rw[<-e];exact h1
    clear hW bN;go_wp2_with fail
    go_loopg [76] ni (fun gg i wr'=>∃ q:Nat,q+gg=ni/\i=i_ q/\ou w bC bF bP bS bD bT a m c nm ln pr rs rg (.slice a5 n5 c5) (.slice a6 n6 c6) (.slice a7 ni c7) (.slice a8 n8 c8) ni σ R wr'/\Hid (∀ b,b<q->σ.st b≠none->¬iu (ff (am l p)) b))
    case atStart=>exact⟨0,by omega,rfl,aa HW,fun b h=>absurd h (Nat.not_lt_zero _)⟩
    case round=>
     clear HW jF;obtain⟨q,hq,rfl,hW,bN⟩:=hrel;by_cases ax:q<ni
     ·have hr:=hW.reached ax;have jF:=hW.sts.lt;have Rs:(q:Int)<ni:=by omega
      have hWo:=hW.old;obtain⟨p0,p1,p2,p3,p4,p5,p6,p7,p8⟩:=hW.prot;have yP:bP<wr.heap.size:=World.block_lt_of_cell? _ _ p0;have HW:=af hW;have RD:=af (aa Yv wr hWo q ax);clear hW hWo;cases lu:σ.st q with
      | none=>
       rw[lu]at hr;change wr.cell? (a_ bS (q * 3))=some (.bool false)at hr;have NX:Hid (∀ b,b<q+1->σ.st b≠none->¬iu (ff (am l p)) b):=fun b hb hs=>by
        by_cases e:b=q
        ·aj e;exact absurd lu hs
        ·exact bN.out b (by omega) hs
       clear lu;go_wp2_with fail
       go_roundg (ni-(q+1))
       case measure=>omega
       case rel=>exact⟨q+1,by omega,by go_num,aa HW,NX⟩
      | some s=>
       rw[lu]at hr;change wr.cell? (a_ bS (q * 3))=some (.bool true)at hr;have qv:=af lu;clear lu;go_wp2_with fail
       refine(aa RD).mono ?_;rintro e w3 ⟨rr,rfl,qD,bY⟩;have oo:=af ((aa HW).below (aa HB) bY);clear hr jF p0 p1 p2 p3 p4 p5 p6 p7 p8 yP RD;cases rr
       ·have NX:Hid (∀ b,b<q+1->σ.st b≠none->¬iu (ff (am l p)) b):=fun b hb hs=>by
         by_cases e:b=q
         ·aj e;exact fun h=>Bool.noConfusion (qD.2 h)
         ·exact bN.out b (by omega) hs
        clear qD bY;go_wp2_with fail
        go_roundg (ni-(q+1))
        case measure=>omega
        case rel=>exact⟨q+1,by omega,by go_num,aa oo,NX⟩
       ·have RNG:Hid (iu (ff (am l p)) q):=qD.1 rfl;clear qD bY;have cM:=(aa oo).res;have r0:=cM.cell (i:=0) (by omega);have r1:=cM.cell (i:=1) (by omega);have r2:=cM.cell (i:=2) (by omega);have z0:=cM.frozen 0;have z1:=cM.frozen 1;have z2:=cM.frozen 2;have oq:=cM.lt;clear cM;go_wp2_with fail
        refine(cV _ _ _ _).mono ?_;rintro e wf ⟨rfl,jz⟩;have cM:=((aa oo).below (aa HB) jz).res;have BB:Hid (∀ v0 v1 v2,b_ w (((wf.setCell (a_ bF 0) v0).setCell (a_ bF 1) v1).setCell (a_ bF 2) v2)):=fun v0 v1 v2=>dC ((aa oo).old.trans (jz.mono (aa oo).old.size)) (by obtain⟨_,_,_,_,_,_⟩:=aa HB;omega) v0 v1 v2;clear r0 r1 r2 z0 z1 z2 oq;have r0:=cM.cell (i:=0) (by omega);have r1:=cM.cell (i:=1) (by omega);have r2:=cM.cell (i:=2) (by omega);have z0:=cM.frozen 0;have z1:=cM.frozen 1;have z2:=cM.frozen 2;have oq:=cM.lt;clear cM jz;go_wp2_with fail
        refine bodyPost_ret (v:=.tuple #[.slice none 0 0,.agg #[i_ 14,i_ (p:Int),i_ (q:Int)]]) (by simp[results,Tryz.results22,go_sem,r0,r1,r2]) rfl ?_;exact ML HG.out ND.out (by have:=jO.out;omega) (by rw[qv.out];exact Option.some_ne_none _) RNG.out bN.out (BB.out _ _ _)
     ·have Re:ni=q:=by omega
      aj Re
      have HW:=af hW;have cM:=hW.res;have r0:=cM.cell (i:=0) (by omega);have r1:=cM.cell (i:=1) (by omega);have r2:=cM.cell (i:=2) (by omega);have z0:=cM.frozen 0;have z1:=cM.frozen 1;have z2:=cM.frozen 2;have oq:=cM.lt;have eM:Hid (∀ v0 v1 v2,b_ w (((wr.setCell (a_ bF 0) v0).setCell (a_ bF 1) v1).setCell (a_ bF 2) v2)/\tE l (am l p) w.heap.size (.slice (some (a_ bS 0)) ni ni) (((wr.setCell (a_ bF 0) v0).setCell (a_ bF 1) v1).setCell (a_ bF 2) v2)):=fun v0 v1 v2=>by
       obtain⟨o1,o2,o3,o4,o5,o6⟩:=aa HB;refine⟨dC (aa HW).old (by omega) v0 v1 v2,k,σ,bS,bT,R,by rw[jO.out],HG.out,ND.out,by rw[jO.out];exact HO.out,by omega,by omega,?_,fun i s hi hs=>?_,fun i hi hs=>?_⟩
       ·rw[jO.out];exact((((aa HW).sts.setOther (a:=(a_ bF 0)) (by show bS≠bF;omega) v0).setOther (a:=(a_ bF 1)) (by show bS≠bF;omega) v1).setOther (a:=(a_ bF 2)) (by show bS≠bF;omega) v2)
       ·rw[jO.out]at hi;obtain⟨h1,h2⟩:=(aa HW).own i s hi hs;exact⟨((h1.setOther (by omega)).setOther (by omega)).setOther (by omega),((h2.setOther (by omega)).setOther (by omega)).setOther (by omega)⟩
       ·rw[jO.out]at hi;exact(aa HW).none_ i hi hs
      clear hW cM;go_wp2_with fail
      refine bodyPost_ret (v:=.tuple #[.slice (some (a_ bS 0)) ni ni,.agg #[i_ 0,i_ 0,i_ 0]]) (by simp[results,Tryz.results22,go_sem,r0,r1,r2]) rfl ?_;exact Nt HG.out ND.out (fun b hb hs=>bN.out b (by have:=jO.out;omega) hs) (eM.out _ _ _).2 (eM.out _ _ _).1
end Go.Proofs.YtcjfjflljdojlaaGreatDoor
