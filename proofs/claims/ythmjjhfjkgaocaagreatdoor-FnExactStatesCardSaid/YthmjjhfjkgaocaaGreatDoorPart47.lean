import Derived.Test.YthmjjhfjkgaocaaGreatDoorPart46
import Derived.BigRegion
import Derived.Deep.DeepCutAuto
import Derived.Deep.CutRange
set_option linter.unusedSimpArgs false
set_option linter.unusedVariables false
set_option maxHeartbeats 8000000
set_option maxRecDepth 1000000
namespace Go.Proofs.YthmjjhfjkgaocaaGreatDoor
open Go.RowKit
theorem wl_round (P:Nat→Prop)(E:Nat→List Nat)(w0:World)(B1 B2 bR bC bL bO bV N:Nat)(T:Rg)(G:List Nat)(i:Nat)(pv0:Value)(wr0:World)(sa:Option Addr)(sc:Nat)
  (HB:Hid (RgB B1 B2 bR bC bL bO))(h12:B1≤B2)(hN6:N≤6000)(HE:Hid (∀ x,x<N→P x→∀ y,y∈E x→y<N∧P y))(HI:Hid (RInv E T G))(HJ:Hid (RgI P N T))(HH0:Hid (T.came i=0))(hi:i<N)(hPi:Hid (P i))(HLE:Hid ((natI (E i)).length=(E i).length))(hle2:(natI (E i)).length≤2)
  (IH:Hid (∀(T2:Rg)(G2:List Nat)(y:Nat)(pv:Value)(wr:World),unv T2.came N<unv T.came N→RgW w0 B1 B2 bR bC bL bO (stepsV bV) N T2 pv wr→RInv E T2 G2→RgI P N T2→T2.came y=0→y<N→P y→(∀ x,x∈T2.path→Rch E x y)→Calls Tryz.prog 89 #[.pointer (some ⟨bR,0,none⟩),.int .i64 (y:Int)] wr (WlPost P E w0 B1 B2 bR bC bL bO bV N T2 G2 y pv wr)))
  (k2 k3 k5 k7 k8 k9 k10 k11 k12 k13 k14 k15 k16 k17 k18 k19 k20 k21 k22 k23 k24 k25 k26 k27 k28 k29 k30 k31 k32 k33 k34 k35 k36 k37 k38 k39 k40 k41 k42 k43 k44 k45 k46 k47 k48 k49 k50 k51 k52 k53 k54 k128 k129 k130 k131 k132 k133 k134 k135 k136 k137 k138 k139 k140 k141 k142 k143 k144 k145 k146:Value)(u6 u58 u59 u60 u61 u62 u63 u64 u65 u66 u67 u68 u69 u70 u71 u72 u73 u74 u75 u76 u77 u78 u79 u80 u81 u82 u83 u84 u85 u86 u87 u88 u89 u90 u91 u92 u93 u94 u95 u96 u97 u98 u99 u100 u101 u102 u103 u104 u105 u106 u107 u108 u109 u110 u111 u112 u113 u114 u115 u116 u117 u118 u119 u120 u121 u122 u123 u124 u125 u126 u127:Value)(gk q:Nat)(T':Rg)(pv':Value)(wr:World)(hq:q+gk=(E i).length)(hlt:q<(E i).length)(HW:Hid (RgW w0 B1 B2 bR bC bL bO (stepsV bV) N T' pv' wr))(HMD:Hid (RMid E T G i q T'))(HIJ:Hid (RgI P N T'))(HFF:Hid (RgF bR bC bL bO pv0 pv' wr0 wr))(HSO:Hid (OwnI wr B2 (.slice sa (natI (E i)).length sc) (natI (E i))))(HSD:Hid (Dis (.slice sa (natI (E i)).length sc) pv'))
  (J:Nat→Act→World→Prop)(K K1:Act→World→Prop)
  (hJ:∀(k:Nat)(a':Act)(w':World),(∃ u4 u6 u57 u58 u59 u60 u61 u62 u63 u64 u65 u66 u67 u68 u69 u70 u71 u72 u73 u74 u75 u76 u77 u78 u79 u80 u81 u82 u83 u84 u85 u86 u87 u88 u89 u90 u91 u92 u93 u94 u95 u96 u97 u98 u99 u100 u101 u102 u103 u104 u105 u106 u107 u108 u109 u110 u111 u112 u113 u114 u115 u116 u117 u118 u119 u120 u121 u122 u123 u124 u125 u126 u127:Value,WlRel P E w0 B1 B2 bR bC bL bO bV N T G i pv0 wr0 sa sc k u4 u57 w'∧a'=⟨List.toArray (.pointer (some ⟨bR,0,none⟩) :: .int .i64 (i:Int)::k2::k3::u4::k5::u6::k7::k8::k9::k10::k11::k12::k13::k14::k15::k16::k17::k18::k19::k20::k21::k22::k23::k24::k25::k26::k27::k28::k29::k30::k31::k32::k33::k34::k35::k36::k37::k38::k39::k40::k41::k42::k43::k44::k45::k46::k47::k48::k49::k50::k51::k52::k53::k54 :: .slice sa (natI (E i)).length sc :: .int .i64 ((natI (E i)).length:Int)::u57::u58::u59::u60::u61::u62::u63::u64::u65::u66::u67::u68::u69::u70::u71::u72::u73::u74::u75::u76::u77::u78::u79::u80::u81::u82::u83::u84::u85::u86::u87::u88::u89::u90::u91::u92::u93::u94::u95::u96::u97::u98::u99::u100::u101::u102::u103::u104::u105::u106::u107::u108::u109::u110::u111::u112::u113::u114::u115::u116::u117::u118::u119::u120::u121::u122::u123::u124::u125::u126::u127::k128::k129::k130::k131::k132::k133::k134::k135::k136::k137::k138::k139::k140::k141::k142::k143::k144::k145::k146::[]),[]⟩)→J k a' w')
  (hK:∀(a':Act)(w':World),Handed J gk a' w'→K a' w') :
  Code.wp Tryz.prog (cAt [1,1,1,1,1,0,1,0,0] (Tryz.f89.body.getD .skip)) (Exit.then K (Exit.inBlock 0 (Exit.then K1 (bodyPost Tryz.prog Tryz.f89 (WlPost P E w0 B1 B2 bR bC bL bO bV N T G i pv0 wr0))))) ⟨List.toArray (.pointer (some ⟨bR,0,none⟩) :: .int .i64 (i:Int)::k2::k3 :: .bool (decide (i∈(E i).take q))::k5::u6::k7::k8::k9::k10::k11::k12::k13::k14::k15::k16::k17::k18::k19::k20::k21::k22::k23::k24::k25::k26::k27::k28::k29::k30::k31::k32::k33::k34::k35::k36::k37::k38::k39::k40::k41::k42::k43::k44::k45::k46::k47::k48::k49::k50::k51::k52::k53::k54 :: .slice sa (natI (E i)).length sc :: .int .i64 ((natI (E i)).length:Int) :: .int .i64 (q:Int)::u58::u59::u60::u61::u62::u63::u64::u65::u66::u67::u68::u69::u70::u71::u72::u73::u74::u75::u76::u77::u78::u79::u80::u81::u82::u83::u84::u85::u86::u87::u88::u89::u90::u91::u92::u93::u94::u95::u96::u97::u98::u99::u100::u101::u102::u103::u104::u105::u106::u107::u108::u109::u110::u111::u112::u113::u114::u115::u116::u117::u118::u119::u120::u121::u122::u123::u124::u125::u126::u127::k128::k129::k130::k131::k132::k133::k134::k135::k136::k137::k138::k139::k140::k141::k142::k143::k144::k145::k146::[]),[]⟩ wr:=by
 conv=>arg 2;whnf
 have hltI:(q:Int)<(natI (E i)).length:=by have:=HLE.out;omega
 obtain⟨sg,scap,eS,hsg1,hsg2,hsc⟩:=HSO.out.at (by have:=HLE.out;omega)
 injection eS with e1 e2 e3
 subst e1
 have qc:=hsc q (by have:=HLE.out;omega)
 rw[natI_get]at qc
 have HKK:Hid ((E i)[q]? = some ((E i)[q]?.getD 0)):=by show _=_;rw[List.getElem?_eq_getElem hlt];rfl
 have hmem:(E i)[q]?.getD 0∈E i:=by rw[List.getElem?_eq_getElem hlt];exact List.getElem_mem _
 have hyNP:=HE.out i hi hPi.out _ hmem
 have NB:Hid (decide (i∈(E i).take (q+1))=(decide (i∈(E i).take q)||decide ((E i)[q]?.getD 0=i))):=by
  show _=_
  rw[List.take_succ_eq_append_getElem hlt,List.getElem?_eq_getElem hlt]
  simp only[List.mem_append,List.mem_singleton,Option.getD_some,Bool.decide_or]
  congr 1
  exact decide_eq_decide.2 eq_comm
 have HMEM:=hide hmem
 have HQ:=hide hq
 clear hsc e2 e3 hmem hq
 obtain⟨y,hy⟩:∃ y,(E i)[q]?.getD 0=y:=⟨_,rfl⟩
 rw[hy]at qc HKK hyNP NB HMEM
 have hyN:=hyNP.1
 have HYP:=hide hyNP.2
 clear hyNP
 obtain⟨bq,hbq⟩:∃ bq,decide (i∈(E i).take q)=bq:=⟨_,rfl⟩
 rw[hbq]at NB ⊢
 clear hbq hy
 have NEW:Hid (∀(T2:Rg) (pv2:Value) (w2:World),RgW w0 B1 B2 bR bC bL bO (stepsV bV) N T2 pv2 w2→RMid E T G i (q+1) T2→RgI P N T2→RgF bR bC bL bO pv' pv2 wr w2→∀ kk,kk=.int .i64 ((q+1:Nat):Int)→WlRel P E w0 B1 B2 bR bC bL bO bV N T G i pv0 wr0 (some ⟨sg,0,none⟩) sc (gk-1) (.bool (decide (i∈(E i).take (q+1)))) kk w2):=fun T2 pv2 w2 h1 h2 h3 h4 kk hkk=>by
  have nb:=HB.out
  refine⟨q+1,T2,pv2,by have:=HQ.out;omega,hkk,rfl,h1,h2,h3,HFF.out.trans h4,HSO.out.sameBlock (fun k e=>?_),fun k e1 e2=>?_⟩
  ·have hk:=HSO.out.lt' k e
   have:=nb.r1.2;have:=nb.c1.2;have:=nb.l1.2;have:=nb.o1.2
   exact h4.same k hk.2 (by omega) (by omega) (by omega) (by omega) (fun e3=>HSD.out k e e3)
  ·rcases h4.new k e2 with e3 | e3
   ·exact HSD.out k e1 e3
   ·have:=(HSO.out.lt' k e1).2;omega
 go_upto_region 8 with fail
 go_cut [4]from 58 to 127 (fun s4 wc=>s4=.bool (decide (i∈(E i).take (q+1)))∧wc=wr)
 case first=>
  clear qc hltI hsg1 hsg2 hJ hK
  by_cases cy:y=i
  ·have cyI:((y:Int)==(i:Int))=true:=by simp;omega
   have NB1:Hid (decide (i∈(E i).take (q+1))=true):=by show _=_;rw[NB.out,decide_eq_true cy,Bool.or_true]
   clear cy NB
   cases bq
   all_goals
    go_wp2_with fail
    go_meet
    exact⟨by rw[NB1.out],rfl⟩
  ·have cyI:((y:Int)==(i:Int))=false:=by simp;omega
   have NB1:Hid (decide (i∈(E i).take (q+1))=bq):=by show _=_;rw[NB.out,decide_eq_false cy,Bool.or_false]
   clear cy NB
   cases bq
   all_goals
    go_wp2_with fail
    go_meet
    exact⟨by rw[NB1.out],rfl⟩
 case rest=>
  obtain⟨rfl,rfl⟩:=hcut
  obtain⟨⟨k0',k1',k2',k3',k4',k5',k6',k7'⟩,lR,lC,lL,lO⟩:=RgM.cells HW.out
  have cC:=HW.out.came.cell (i:=y) hyN
  have hyI:(y:Int)<N:=by omega
  have hiI:(i:Int)<N:=by omega
  have hq2:(q:Int)≤2:=by omega
  clear k0' k3' k5' k6' k7' qc hltI hsg1 hsg2 NB
  by_cases hc:T'.came y=0
  ·rw[hc]at cC
   have CW:Hid (Calls Tryz.prog 89 #[.pointer (some ⟨bR,0,none⟩),.int .i64 (y:Int)] wc (WlPost P E w0 B1 B2 bR bC bL bO bV N T' (i::G) y pv' wc)):=
    IH.out T' (i::G) y pv' wc (by
     have h1:=unv_push (c:=T.came) (v:=T.count+1) HH0.out (by omega) N hi
     have h2:=unv_le_of (c:=upd T.came i (T.count+1)) (c':=T'.came) N (fun x hx=>by
      unfold upd at hx
      by_cases e:x=i
      ·rw[e,HMD.out.num];omega
      ·rw[if_neg e]at hx
       rw[HMD.out.grow.came x hx];exact hx)
     omega) HW.out HMD.out.inv HIJ.out hc hyN HYP.out (fun x hx=>(mid_reach HMD.out (fun g hg=>⟨HI.out.vis g (HI.out.gray g hg),HI.out.gray g hg⟩) HI.out hx).trans (Rch.step HMEM.out))
   have HC:=hide hc
   clear hc
   go_wp2_with fail
   refine(unhide CW).mono ?_
   rintro e w7 ⟨rfl,T2,pv2,hW7,hP7,hI7,hF7⟩
   have MN:=hide (mid_walk HI.out HH0.out HMD.out HKK.out HC.out hP7)
   obtain⟨⟨k0',k1',k2',k3',k4',k5',k6',k7'⟩,lR',lC',lL',lO'⟩:=RgM.cells hW7
   have cLi:=hW7.low.cell (i:=i) hi
   have zLi:=hW7.low.frozen i
   have cLy:=hW7.low.cell (i:=y) hyN
   have FN:Hid (∀ kk,kk=.int .i64 ((q+1:Nat):Int)→WlRel P E w0 B1 B2 bR bC bL bO bV N T G i pv0 wr0 (some ⟨sg,0,none⟩) sc (gk-1) (.bool (decide (i∈(E i).take (q+1)))) kk (w7.setCell ⟨bL,i,none⟩ (.int .i64 (min ((T2.low i:Nat):Int) ((T2.low y:Nat):Int)))).drew):=by
    have em:((min (T2.low i) (T2.low y):Nat):Int)=min ((T2.low i:Nat):Int) ((T2.low y:Nat):Int):=by omega
    rw[←em]
    exact NEW.out (T2.lower i (T2.low y)) pv2 _ (RgM.below (RgM.setLow hW7 HB.out i (min (T2.low i) (T2.low y))) ((Below.refl _ _).drew) h12) MN.out ⟨hI7.lt,hI7.inn,hI7.cnt⟩ ((hF7.set bL i _ (.inr (.inr (.inl rfl)))).below ((Below.refl _ _).drew))
   clear k0' k1' k3' k4' k5' k6' k7' hW7 hP7 hI7 hF7 CW
   generalize hva:T2.low i=va at *
   generalize hvb:T2.low y=vb at *
   clear hva hvb
   go_wp2_with fail
   go_region
   all_goals (go_wp2_with fail)
   all_goals
    go_roundg (gk-1)
    case measure=>have:=HQ.out;omega
    case rel=>exact FN.out _ (by go_num)
  ·have hcb:(((T'.came y:Nat):Int)==0)=false:=by simp;omega
   have cO:=HW.out.opn.cell (i:=y) hyN
   by_cases ho:y∈T'.path
   ·rw[decide_eq_true ho]at cO
    have MN:=hide (mid_open HH0.out HMD.out HKK.out hc ho)
    have cLi:=HW.out.low.cell (i:=i) hi
    have zLi:=HW.out.low.frozen i
    have FN:Hid (∀ kk,kk=.int .i64 ((q+1:Nat):Int)→WlRel P E w0 B1 B2 bR bC bL bO bV N T G i pv0 wr0 (some ⟨sg,0,none⟩) sc (gk-1) (.bool (decide (i∈(E i).take (q+1)))) kk (wc.setCell ⟨bL,i,none⟩ (.int .i64 (min ((T'.low i:Nat):Int) ((T'.came y:Nat):Int)))).drew):=by
     have em:((min (T'.low i) (T'.came y):Nat):Int)=min ((T'.low i:Nat):Int) ((T'.came y:Nat):Int):=by omega
     rw[←em]
     exact NEW.out (T'.lower i (T'.came y)) pv' _ (RgM.below (RgM.setLow HW.out HB.out i (min (T'.low i) (T'.came y))) ((Below.refl _ _).drew) h12) MN.out ⟨HIJ.out.lt,HIJ.out.inn,HIJ.out.cnt⟩ (((RgF.refl bR bC bL bO pv' wc).set bL i _ (.inr (.inr (.inl rfl)))).below ((Below.refl _ _).drew))
    clear hc ho
    generalize T'.low i=va at *
    generalize T'.came y=vb at *
    go_wp2_with fail
    go_region
    all_goals (go_wp2_with fail)
    all_goals
     go_roundg (gk-1)
     case measure=>have:=HQ.out;omega
     case rel=>exact FN.out _ (by go_num)
   ·rw[decide_eq_false ho]at cO
    have FN:=hide (NEW.out T' pv' wc HW.out (mid_shut HMD.out HKK.out hc ho) HIJ.out (RgF.refl bR bC bL bO pv' wc))
    clear hc ho
    generalize T'.came y=vb at *
    go_wp2_with fail
    go_roundg (gk-1)
    case measure=>have:=HQ.out;omega
    case rel=>exact FN.out _ (by go_num)
end Go.Proofs.YthmjjhfjkgaocaaGreatDoor
