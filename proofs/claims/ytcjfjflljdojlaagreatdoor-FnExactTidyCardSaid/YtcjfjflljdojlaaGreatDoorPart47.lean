import Derived.Test.YtcjfjflljdojlaaGreatDoorPart46
import Derived.BigRegion
import Derived.Deep.DeepCutAuto
import Derived.Deep.CutRange
set_option linter.unusedSimpArgs false
set_option linter.unusedVariables false
set_option maxHeartbeats 8000000
set_option maxRecDepth 1000000
namespace Go.Proofs.YtcjfjflljdojlaaGreatDoor
open Go.RowKit
theorem IO (P:Nat->Prop)(E:Nat->List Nat)(w0:World)(B1 B2 bR bC bL bO bV N:Nat)(T:Rg)(G:List Nat)(i:Nat)(pv0:Value)(wr0:World)(sa:o_)(sc:Nat)
  (HB:Hid (GK B1 B2 bR bC bL bO))(sP:B1<=B2)(Iu:N<=6000)(HE:Hid (∀ x,x<N->P x->∀ y,y∈E x->y<N/\P y))(HI:Hid (ks E T G))(HJ:Hid (xA P N T))(KO:Hid (T.came i=0))(hi:i<N)(Tx:Hid (P i))(Ii:Hid ((aH (E i)).length=(E i).length))(Oa:(aH (E i)).length<=2)
  (IH:Hid (∀(T2:Rg)(G2:List Nat)(y:Nat)(pv:Value)(wr:World),vQ T2.came N<vQ T.came N->za w0 B1 B2 bR bC bL bO (dU bV) N T2 pv wr->ks E T2 G2->xA P N T2->T2.came y=0->y<N->P y->(∀ x,x∈T2.path->mu E x y)->c_ 127 #[.pointer (some (a_ bR 0)),i_ (y:Int)] wr (mL P E w0 B1 B2 bR bC bL bO bV N T2 G2 y pv wr)))
  (k2 k3 k5 k7 k8 k9 tm Kp Wz k13 k14 k15 k16 k17 k18 k19 k20 k21 k22 k23 k24 k25 k26 k27 k28 k29 k30 k31 k32 k33 k34 k35 k36 k37 k38 k39 k40 k41 k42 k43 k44 k45 k46 k47 k48 k49 k50 k51 k52 k53 k54 k128 k129 k130 k131 k132 k133 k134 k135 k136 k137 k138 k139 k140 k141 k142 k143 k144 k145 k146:Value)(u6 u58 u59 u60 u61 u62 u63 u64 u65 u66 u67 u68 u69 u70 u71 u72 u73 u74 u75 u76 u77 u78 u79 u80 u81 u82 u83 u84 u85 u86 u87 u88 u89 u90 u91 u92 u93 u94 u95 u96 u97 u98 u99 u100 u101 u102 u103 u104 u105 u106 u107 u108 u109 u110 u111 u112 u113 u114 u115 u116 u117 u118 u119 u120 u121 u122 u123 u124 u125 u126 u127:Value)(gk q:Nat)(T':Rg)(iP:Value)(wr:World)(hq:q+gk=(E i).length)(ax:q<(E i).length)(HW:Hid (za w0 B1 B2 bR bC bL bO (dU bV) N T' iP wr))(zg:Hid (lU E T G i q T'))(Ex:Hid (xA P N T'))(Ug:Hid (mJ bR bC bL bO pv0 iP wr0 wr))(Qb:Hid (ar wr B2 (.slice sa (aH (E i)).length sc) (aH (E i))))(PE:Hid (qR (.slice sa (aH (E i)).length sc) iP))
  (J:Nat->Act->World->Prop)(K K1:Act->World->Prop)
  (hJ:∀(k:Nat)(a':Act)(w':World),(∃ u4 u6 u57 u58 u59 u60 u61 u62 u63 u64 u65 u66 u67 u68 u69 u70 u71 u72 u73 u74 u75 u76 u77 u78 u79 u80 u81 u82 u83 u84 u85 u86 u87 u88 u89 u90 u91 u92 u93 u94 u95 u96 u97 u98 u99 u100 u101 u102 u103 u104 u105 u106 u107 u108 u109 u110 u111 u112 u113 u114 u115 u116 u117 u118 u119 u120 u121 u122 u123 u124 u125 u126 u127:Value,zw P E w0 B1 B2 bR bC bL bO bV N T G i pv0 wr0 sa sc k u4 u57 w'/\a'=⟨List.toArray (.pointer (some (a_ bR 0)) :: i_ (i:Int)::k2::k3::u4::k5::u6::k7::k8::k9::tm::Kp::Wz::k13::k14::k15::k16::k17::k18::k19::k20::k21::k22::k23::k24::k25::k26::k27::k28::k29::k30::k31::k32::k33::k34::k35::k36::k37::k38::k39::k40::k41::k42::k43::k44::k45::k46::k47::k48::k49::k50::k51::k52::k53::k54 :: .slice sa (aH (E i)).length sc :: i_ ((aH (E i)).length:Int)::u57::u58::u59::u60::u61::u62::u63::u64::u65::u66::u67::u68::u69::u70::u71::u72::u73::u74::u75::u76::u77::u78::u79::u80::u81::u82::u83::u84::u85::u86::u87::u88::u89::u90::u91::u92::u93::u94::u95::u96::u97::u98::u99::u100::u101::u102::u103::u104::u105::u106::u107::u108::u109::u110::u111::u112::u113::u114::u115::u116::u117::u118::u119::u120::u121::u122::u123::u124::u125::u126::u127::k128::k129::k130::k131::k132::k133::k134::k135::k136::k137::k138::k139::k140::k141::k142::k143::k144::k145::k146::[]),[]⟩)->J k a' w')
  (hK:∀(a':Act)(w':World),Handed J gk a' w'->K a' w') :
  Code.wp Tryz.prog (wL [1,1,1,1,1,0,1,0,0] (Tryz.f127.body.getD .skip)) (Exit.then K (Exit.inBlock 0 (Exit.then K1 (bodyPost Tryz.prog Tryz.f127 (mL P E w0 B1 B2 bR bC bL bO bV N T G i pv0 wr0))))) ⟨List.toArray (.pointer (some (a_ bR 0)) :: i_ (i:Int)::k2::k3 :: .bool (decide (i∈(E i).take q))::k5::u6::k7::k8::k9::tm::Kp::Wz::k13::k14::k15::k16::k17::k18::k19::k20::k21::k22::k23::k24::k25::k26::k27::k28::k29::k30::k31::k32::k33::k34::k35::k36::k37::k38::k39::k40::k41::k42::k43::k44::k45::k46::k47::k48::k49::k50::k51::k52::k53::k54 :: .slice sa (aH (E i)).length sc :: i_ ((aH (E i)).length:Int) :: i_ (q:Int)::u58::u59::u60::u61::u62::u63::u64::u65::u66::u67::u68::u69::u70::u71::u72::u73::u74::u75::u76::u77::u78::u79::u80::u81::u82::u83::u84::u85::u86::u87::u88::u89::u90::u91::u92::u93::u94::u95::u96::u97::u98::u99::u100::u101::u102::u103::u104::u105::u106::u107::u108::u109::u110::u111::u112::u113::u114::u115::u116::u117::u118::u119::u120::u121::u122::u123::u124::u125::u126::u127::k128::k129::k130::k131::k132::k133::k134::k135::k136::k137::k138::k139::k140::k141::k142::k143::k144::k145::k146::[]),[]⟩ wr:=by
 conv=>arg 2;whnf
 have Ku:(q:Int)<(aH (E i)).length:=by have:=Ii.out;omega
 obtain⟨sg,scap,eS,VH,VP,Zc⟩:=Qb.out.at (by have:=Ii.out;omega);injection eS with e1 e2 e3
 aj e1
 have qc:=Zc q (by have:=Ii.out;omega);rw[gS]at qc;have XK:Hid ((E i)[q]? = some ((E i)[q]?.getD 0)):=by show _=_;rw[g_ ax];rfl
 have e9:(E i)[q]?.getD 0∈E i:=by rw[g_ ax];exact List.getElem_mem _
 have OB:=HE.out i hi Tx.out _ e9;have NB:Hid (decide (i∈(E i).take (q+1))=(decide (i∈(E i).take q)||decide ((E i)[q]?.getD 0=i))):=by
  show _=_;rw[List.take_succ_eq_append_getElem ax,g_ ax];simp only[List.mem_append,List.mem_singleton,Option.getD_some,Bool.decide_or]
  congr 1
  exact decide_eq_decide.2 eq_comm
 have Kv:=af e9;have HQ:=af hq;clear Zc e2 e3 e9 hq;obtain⟨y,hy⟩:∃ y,(E i)[q]?.getD 0=y:=⟨_,rfl⟩;rw[hy]at qc XK OB NB Kv;have Io:=OB.1;have HYP:=af OB.2;clear OB;obtain⟨bq,we⟩:∃ bq,decide (i∈(E i).take q)=bq:=⟨_,rfl⟩;rw[we]at NB ⊢;clear we hy;have RY:Hid (∀(T2:Rg) (yW:Value) (w2:World),za w0 B1 B2 bR bC bL bO (dU bV) N T2 yW w2->lU E T G i (q+1) T2->xA P N T2->mJ bR bC bL bO iP yW wr w2->∀ kk,kk=i_ ((q+1:Nat):Int)->zw P E w0 B1 B2 bR bC bL bO bV N T G i pv0 wr0 (some (a_ sg 0)) sc (gk-1) (.bool (decide (i∈(E i).take (q+1)))) kk w2):=fun T2 yW w2 h1 h2 h3 h4 kk zd=>by
  have nb:=HB.out;refine⟨q+1,T2,yW,by have:=HQ.out;omega,zd,rfl,h1,h2,h3,Ug.out.trans h4,Qb.out.sameBlock (fun k e=>?_),fun k e1 e2=>?_⟩
  ·have hk:=Qb.out.lt' k e;have:=nb.r1.2;have:=nb.c1.2;have:=nb.l1.2;have:=nb.o1.2;exact h4.same k hk.2 (by omega) (by omega) (by omega) (by omega) (fun e3=>PE.out k e e3)
  ·rcases h4.new k e2 with e3 | e3
   ·exact PE.out k e1 e3
   ·have:=(Qb.out.lt' k e1).2;omega
 go_upto_region 8 with fail
 go_cut [4]from 58 to 127 (fun s4 wc=>s4=.bool (decide (i∈(E i).take (q+1)))/\wc=wr)
 case first=>
  clear qc Ku VH VP hJ hK;by_cases cy:y=i
  ·have cyI:((y:Int)==(i:Int))=true:=by simp;omega
   have NB1:Hid (decide (i∈(E i).take (q+1))=true):=by show _=_;rw[NB.out,decide_eq_true cy,Bool.or_true]
   clear cy NB;cases bq
   all_goals
    go_wp2_with fail
    go_meet
    exact⟨by rw[NB1.out],rfl⟩
  ·have cyI:((y:Int)==(i:Int))=false:=by simp;omega
   have NB1:Hid (decide (i∈(E i).take (q+1))=bq):=by show _=_;rw[NB.out,decide_eq_false cy,Bool.or_false]
   clear cy NB;cases bq
   all_goals
    go_wp2_with fail
    go_meet
    exact⟨by rw[NB1.out],rfl⟩
 case rest=>
  obtain⟨rfl,rfl⟩:=hcut;obtain⟨⟨WP,k1',k2',UT,Ym,Vq,Wp,UL⟩,lR,lC,lL,lO⟩:=iJ.cells HW.out;have cC:=HW.out.came.cell (i:=y) Io;have ZH:(y:Int)<N:=by omega
  have hiI:(i:Int)<N:=by omega
  have Pu:(q:Int)<=2:=by omega
  clear WP UT Vq Wp UL qc Ku VH VP NB;by_cases hc:T'.came y=0
  ·rw[hc]at cC;have CW:Hid (c_ 127 #[.pointer (some (a_ bR 0)),i_ (y:Int)] wc (mL P E w0 B1 B2 bR bC bL bO bV N T' (i::G) y iP wc)):=
    IH.out T' (i::G) y iP wc (by
     have h1:=qm (c:=T.came) (v:=T.count+1) KO.out (by omega) N hi;have h2:=wS (c:=bZ T.came i (T.count+1)) (c':=T'.came) N (fun x hx=>by
      unfold bZ at hx;by_cases e:x=i
      ·rw[e,zg.out.num];omega
      ·rw[if_neg e]at hx;rw[zg.out.grow.came x hx];exact hx)
     omega) HW.out zg.out.inv Ex.out hc Io HYP.out (fun x hx=>(G3 zg.out (fun g hg=>⟨HI.out.vis g (HI.out.gray g hg),HI.out.gray g hg⟩) HI.out hx).trans (mu.step Kv.out))
   have HC:=af hc;clear hc;go_wp2_with fail
   refine(aa CW).mono ?_;rintro e w7 ⟨rfl,T2,yW,Um,hP7,BC,Wq⟩;have MN:=af (JU HI.out KO.out zg.out XK.out HC.out hP7);obtain⟨⟨WP,k1',k2',UT,Ym,Vq,Wp,UL⟩,lR',lC',lL',lO'⟩:=iJ.cells Um;have cLi:=Um.low.cell (i:=i) hi;have zLi:=Um.low.frozen i;have cLy:=Um.low.cell (i:=y) Io;have FN:Hid (∀ kk,kk=i_ ((q+1:Nat):Int)->zw P E w0 B1 B2 bR bC bL bO bV N T G i pv0 wr0 (some (a_ sg 0)) sc (gk-1) (.bool (decide (i∈(E i).take (q+1)))) kk (w7.setCell (a_ bL i) (i_ (min ((T2.low i:Nat):Int) ((T2.low y:Nat):Int)))).drew):=by
    have em:((min (T2.low i) (T2.low y):Nat):Int)=min ((T2.low i:Nat):Int) ((T2.low y:Nat):Int):=by omega
    rw[<-em];exact RY.out (T2.lower i (T2.low y)) yW _ (iJ.below (iJ.setLow Um HB.out i (min (T2.low i) (T2.low y))) (r_.drew) sP) MN.out ⟨BC.lt,BC.inn,BC.cnt⟩ ((Wq.set bL i _ (.inr (.inr (.inl rfl)))).below (r_.drew))
   clear WP k1' UT Ym Vq Wp UL Um hP7 BC Wq CW;generalize hva:T2.low i=va at *;generalize YP:T2.low y=vb at *;clear hva YP;go_wp2_with fail
   go_region
   all_goals (go_wp2_with fail)
   all_goals
    go_roundg (gk-1)
    case measure=>have:=HQ.out;omega
    case rel=>exact FN.out _ (by go_num)
  ·have Nz:(((T'.came y:Nat):Int)==0)=false:=by simp;omega
   have cO:=HW.out.opn.cell (i:=y) Io;by_cases ho:y∈T'.path
   ·rw[decide_eq_true ho]at cO;have MN:=af (JD KO.out zg.out XK.out hc ho);have cLi:=HW.out.low.cell (i:=i) hi;have zLi:=HW.out.low.frozen i;have FN:Hid (∀ kk,kk=i_ ((q+1:Nat):Int)->zw P E w0 B1 B2 bR bC bL bO bV N T G i pv0 wr0 (some (a_ sg 0)) sc (gk-1) (.bool (decide (i∈(E i).take (q+1)))) kk (wc.setCell (a_ bL i) (i_ (min ((T'.low i:Nat):Int) ((T'.came y:Nat):Int)))).drew):=by
     have em:((min (T'.low i) (T'.came y):Nat):Int)=min ((T'.low i:Nat):Int) ((T'.came y:Nat):Int):=by omega
     rw[<-em];exact RY.out (T'.lower i (T'.came y)) iP _ (iJ.below (iJ.setLow HW.out HB.out i (min (T'.low i) (T'.came y))) (r_.drew) sP) MN.out ⟨Ex.out.lt,Ex.out.inn,Ex.out.cnt⟩ (((mJ.refl bR bC bL bO iP wc).set bL i _ (.inr (.inr (.inl rfl)))).below (r_.drew))
    clear hc ho;generalize T'.low i=va at *;generalize T'.came y=vb at *;go_wp2_with fail
    go_region
    all_goals (go_wp2_with fail)
    all_goals
     go_roundg (gk-1)
     case measure=>have:=HQ.out;omega
     case rel=>exact FN.out _ (by go_num)
   ·rw[decide_eq_false ho]at cO;have FN:=af (RY.out T' iP wc HW.out (Jb zg.out XK.out hc ho) Ex.out (mJ.refl bR bC bL bO iP wc));clear hc ho;generalize T'.came y=vb at *;go_wp2_with fail
    go_roundg (gk-1)
    case measure=>have:=HQ.out;omega
    case rel=>exact FN.out _ (by go_num)
end Go.Proofs.YtcjfjflljdojlaaGreatDoor
