import Derived.Test.YtmjcpapdncfkpaaGreatDoorPart33
import Derived.Deep.CutRange
import Derived.Deep.RegionHeld3
import Derived.Deep.RegionWith
import Derived.BigQuiet
set_option linter.unusedSimpArgs false
set_option linter.unusedVariables false
set_option maxHeartbeats 8000000
set_option maxRecDepth 1000000
namespace Go.Proofs.YtmjcpapdncfkpaaGreatDoor
open Go.RowKit
theorem wk33 (l:List ProtoD)(p:Nat)(S:Nat→Prop)(w:World)(bC bF bP bS bD bT:Nat)(a:Option Addr)(m c:Nat)(nm:ByteArray)(ln pr:Int)(rs:Bool)(rg:Int)(a5 a6 a7 a8:Option Addr)(n5 n6 ni n8 c5 c6 c7 c8:Nat)
  (HB:Hid (WkB w bC bF bP bS bD bT))(HK:Hid (WkOk l p))(HNI:Hid ((prD l p).ins.length=ni))(HM:Hid (l.length=m))(HPS:Hid (ProtosAt w S a l))(HBS:Hid (∀ b,S b→b<w.heap.size))(HI7:Hid (InssAt w S a7 (prD l p).ins))(hni:ni≤6000)
  (k3 k9 k10 k18 k20 k21 k22 k23 k24 k25 k26 k27 k28 k29 k30 k31 k32 k33 k34 k35 k36 k37 k38 k39 k40 k41 k42 k43 k44 k45 k46 k47 k48 k49 k50 k51 k52 k53 k54 k55 k56:Value)(u4 u12 u16 u19 u57 u58 u59 u60 u61 u62 u63 u64 u65 u66 u67 u68 u69 u70 u71 u72 u73 u74 u75 u76 u77 u78 u79 u80 u81 u82 u83 u84 u85 u86 u87 u88 u89 u90 u91 u92 u93 u94 u95 u96 u97 u98 u99 u100 u101 u102 u103 u104 u105 u106 u107 u108 u109 u110 u111 u112 u113 u114 u115 u116 u117 u118 u119 u120 u121 u122 u123 u124 u125 u126 u127 u128 u129 u130 u131 u132 u133 u134 u135 u136 u137 u138 u139 u140 u141 u142 u143 u144 u145 u146 u147 u148 u149 u150 u151 u152 u153 u154 u155 u156 u157 u158 u159 u160 u161 u162 u163 u164 u165 u166 u167 u168 u169 u170 u171 u172 u173 u174 u175 u176 u177 u178 u179 u180 u181 u182 u183 u184 u185 u186 u187 u188 u189 u190 u191 u192 u193 u194 u195 u196 u197 u198 u199 u200 u201 u202 u203 u204 u205 u206 u207 u208 u209:Value)(gk k:Nat)(σ:Mst)(wr:World)(HG:Hid (Goes l (prD l p) k σ))(HO:Hid (MOk (prD l p).regs.toNat ni σ))(HL:Hid (left ni σ=gk))
  (at_:Nat)(R:Nat→Value×Value)(s:StD)(r:RdS)(w1:World)(tv yv:Value)(op fa fb fc fd:Int)(hat:Hid (LeastDue σ ni at_))(hal:at_<ni)(HST:Hid (σ.st at_=some s))(HRD:Hid (readC l (inD (prD l p) at_) s.types=some r))(HIN:Hid (inD (prD l p) at_=⟨op,fa,fb,fc,fd⟩))(HW:Hid (WkW w bC bF bP bS bD bT a m c nm ln pr rs rg (.slice a5 n5 c5) (.slice a6 n6 c6) (.slice a7 ni c7) (.slice a8 n8 c8) ni ⟨σ.st,upd σ.due at_ false⟩ R w1))(HBW:Hid (Below w1.heap.size w1 wr))(hsz:w1.heap.size<wr.heap.size)(HN:Hid (InsCells wr w1.heap.size 0 ⟨op,fa,fb,fc,fd⟩))(HTY:Hid (OwnI wr (w1.heap.size+1) tv r.types))(HTK:Hid (OwnI wr (w1.heap.size+1) yv (natI r.taken)))(HAP:Hid (∀ k,tv.ownBlock=some k→yv.ownBlock≠some k))(hop:1≤op∧op≤42)(g:List GuD)(gv:Value)(HCH:Hid (changeC (inD (prD l p) at_) s.guards=some g))(HGV:Hid (OwnG wr (w1.heap.size+1) gv g))(HAG:Hid (∀ k,tv.ownBlock=some k→gv.ownBlock≠some k))
  (J:Nat→Act→World→Prop)(K:Act→World→Prop)
  (hJ:∀(k:Nat)(a':Act)(w':World),(∃ u4 u11 u12 u13 u14 u15 u16 u17 u19 u57 u58 u59 u60 u61 u62 u63 u64 u65 u66 u67 u68 u69 u70 u71 u72 u73 u74 u75 u76 u77 u78 u79 u80 u81 u82 u83 u84 u85 u86 u87 u88 u89 u90 u91 u92 u93 u94 u95 u96 u97 u98 u99 u100 u101 u102 u103 u104 u105 u106 u107 u108 u109 u110 u111 u112 u113 u114 u115 u116 u117 u118 u119 u120 u121 u122 u123 u124 u125 u126 u127 u128 u129 u130 u131 u132 u133 u134 u135 u136 u137 u138 u139 u140 u141 u142 u143 u144 u145 u146 u147 u148 u149 u150 u151 u152 u153 u154 u155 u156 u157 u158 u159 u160 u161 u162 u163 u164 u165 u166 u167 u168 u169 u170 u171 u172 u173 u174 u175 u176 u177 u178 u179 u180 u181 u182 u183 u184 u185 u186 u187 u188 u189 u190 u191 u192 u193 u194 u195 u196 u197 u198 u199 u200 u201 u202 u203 u204 u205 u206 u207 u208 u209:Value,WkRel l p w bC bF bP bS bD bT a m c nm ln pr rs rg a5 a6 a7 a8 n5 n6 ni n8 c5 c6 c7 c8 k w'∧a'=⟨List.toArray (.agg #[.slice a m c] :: .int .i64 (p:Int) :: .pointer (some ⟨bC,0,none⟩)::k3::u4 :: .pointer (some ⟨bF,0,none⟩) :: .pointer (some ⟨bP,0,none⟩) :: .slice (some ⟨bS,0,none⟩) ni ni :: .slice (some ⟨bD,0,none⟩) ni ni::k9::k10::u11::u12::u13::u14::u15::u16::u17::k18::u19::k20::k21::k22::k23::k24::k25::k26::k27::k28::k29::k30::k31::k32::k33::k34::k35::k36::k37::k38::k39::k40::k41::k42::k43::k44::k45::k46::k47::k48::k49::k50::k51::k52::k53::k54::k55::k56::u57::u58::u59::u60::u61::u62::u63::u64::u65::u66::u67::u68::u69::u70::u71::u72::u73::u74::u75::u76::u77::u78::u79::u80::u81::u82::u83::u84::u85::u86::u87::u88::u89::u90::u91::u92::u93::u94::u95::u96::u97::u98::u99::u100::u101::u102::u103::u104::u105::u106::u107::u108::u109::u110::u111::u112::u113::u114::u115::u116::u117::u118::u119::u120::u121::u122::u123::u124::u125::u126::u127::u128::u129::u130::u131::u132::u133::u134::u135::u136::u137::u138::u139::u140::u141::u142::u143::u144::u145::u146::u147::u148::u149::u150::u151::u152::u153::u154::u155::u156::u157::u158::u159::u160::u161::u162::u163::u164::u165::u166::u167::u168::u169::u170::u171::u172::u173::u174::u175::u176::u177::u178::u179::u180::u181::u182::u183::u184::u185::u186::u187::u188::u189::u190::u191::u192::u193::u194::u195::u196::u197::u198::u199::u200::u201::u202::u203::u204::u205::u206::u207::u208::u209::[]),[]⟩)→J k a' w')
  (hK:∀(a':Act)(w':World),Handed J gk a' w'→K a' w')(KK:Act→World→Prop)
  (hKK:∀(a':Act)(w':World),Code.wp Tryz.prog (cAt [1,1,1,1,1,1,1,1,1,0,0,0,1,1,1,1,1,1,1,1,1,1,1] (Tryz.f12.body.getD .skip)) (Exit.inBlock 3 (Exit.then K (Exit.inBlock 2 (bodyPost Tryz.prog Tryz.f12 (WkPost l p w))))) a' w'→KK a' w') :
  Code.wp Tryz.prog (cAt [1,1,1,1,1,1,1,1,1,0,0,0,1,1,1,1,1,1,1,1,1,1,0] (Tryz.f12.body.getD .skip)) (Exit.then KK (Exit.inBlock 3 (Exit.then K (Exit.inBlock 2 (bodyPost Tryz.prog Tryz.f12 (WkPost l p w)))))) ⟨List.toArray (.agg #[.slice a m c] :: .int .i64 (p:Int) :: .pointer (some ⟨bC,0,none⟩)::k3::u4 :: .pointer (some ⟨bF,0,none⟩) :: .pointer (some ⟨bP,0,none⟩) :: .slice (some ⟨bS,0,none⟩) ni ni :: .slice (some ⟨bD,0,none⟩) ni ni::k9::k10 :: .int .i64 (at_:Int)::u12 :: .pointer (some ⟨w1.heap.size,0,none⟩)::tv::yv::u16::gv::k18::u19::k20::k21::k22::k23::k24::k25::k26::k27::k28::k29::k30::k31::k32::k33::k34::k35::k36::k37::k38::k39::k40::k41::k42::k43::k44::k45::k46::k47::k48::k49::k50::k51::k52::k53::k54::k55::k56::u57::u58::u59::u60::u61::u62::u63::u64::u65::u66::u67::u68::u69::u70::u71::u72::u73::u74::u75::u76::u77::u78::u79::u80::u81::u82::u83::u84::u85::u86::u87::u88::u89::u90::u91::u92::u93::u94::u95::u96::u97::u98::u99::u100::u101::u102::u103::u104::u105::u106::u107::u108::u109::u110::u111::u112::u113::u114::u115::u116::u117::u118::u119::u120::u121::u122::u123::u124::u125::u126::u127::u128::u129::u130::u131::u132::u133::u134::u135::u136::u137::u138::u139::u140::u141::u142::u143::u144::u145::u146::u147::u148::u149::u150::u151::u152::u153::u154::u155::u156::u157::u158::u159::u160::u161::u162::u163::u164::u165::u166::u167::u168::u169::u170::u171::u172::u173::u174::u175::u176::u177::u178::u179::u180::u181::u182::u183::u184::u185::u186::u187::u188::u189::u190::u191::u192::u193::u194::u195::u196::u197::u198::u199::u200::u201::u202::u203::u204::u205::u206::u207::u208::u209::[]),[]⟩ wr:=by
 conv=>arg 2;whnf
 conv at hKK=>enter [a1,w2,1,2];whnf
 have hW:=unhide HW
 have hal':at_<(prD l p).ins.length:=by have:=HNI.out;omega
 have hLD:Hid (LeastDue σ (prD l p).ins.length at_):=by show LeastDue _ _ _;rw[HNI.out];exact hat.out
 have hok:=(HO.out.st at_ s HST.out).2
 have hrl:r.types.length=s.types.length:=readC_len HRD.out
 have hr0:=HK.out.regs
 have hsl:s.types.length≤250:=by have:=hok.types;omega
 have hwf:=shape_wr (HK.out.ins at_ hal') hr0.1
 rw[HIN.out]at hwf
 have WR:Hid (Calls Tryz.prog 26 #[.agg #[.int .i64 op,.int .i64 fa,.int .i64 fb,.int .i64 fc,.int .i64 fd],tv] wr (WrPost (w1.heap.size+1) tv (writeC ⟨op,fa,fb,fc,fd⟩ r.types) wr)):=
  l6write_all op fa fb fc fd (w1.heap.size+1) tv r.types wr HTY.out (by omega) (by omega) hop (by rw[hrl,hok.types];exact hwf)
 obtain⟨j0,j1,j2,j3,j4⟩:=unhide HN
 rw[Nat.zero_add]at j1 j2 j3 j4
 have HOK:=hide hok
 have HRL:=hide hrl
 clear hW hwf hok hrl
 go_wp2_with fail
 refine(unhide WR).mono ?_
 rintro e w4 ⟨rfl,hty4,hb4,honly⟩
 have hz4:=hb4.size
 have hb14:Below w1.heap.size w1 w4:=HBW.out.trans (hb4.mono (by omega))
 have HB14:=hide hb14
 have hW4:=(unhide HW).below (unhide HB) hb14
 have hN4:InsCells w4 w1.heap.size 0 ⟨op,fa,fb,fc,fd⟩:=by
  have e:∀ o,w4.cell? ⟨w1.heap.size,o,none⟩=wr.cell? ⟨w1.heap.size,o,none⟩:=fun o=>hb4.cell (p:=⟨w1.heap.size,o,none⟩) (by show w1.heap.size<w1.heap.size+1;omega)
  have h:=unhide HN
  exact⟨(e _).trans h.op,(e _).trans h.fa,(e _).trans h.fb,(e _).trans h.fc,(e _).trans h.fd⟩
 have hTK4:OwnI w4 (w1.heap.size+1) yv (natI r.taken):=HTK.out.sameBlock (fun k hk=>honly k (HTK.out.lt' k hk).2 (fun e=>HAP.out k e hk))
 have hGV4:OwnG w4 (w1.heap.size+1) gv g:=HGV.out.sameBlock (fun k hk=>honly k (HGV.out.lt' k hk).2 (fun e=>HAG.out k e hk))
 obtain⟨t,ht⟩:∃ t,t=writeC ⟨op,fa,fb,fc,fd⟩ r.types:=⟨_,rfl⟩
 rw[←ht]at hty4
 have htl:t.length=s.types.length:=by rw[ht,writeC_len,HRL.out]
 have hw14:w1.heap.size<w4.heap.size:=by omega
 have HGV4:=hide hGV4
 have HTY4:=hide hty4
 clear hb14 hb4 honly j0 j1 j2 j3 j4 WR HN HTK HGV HTY HAP HAG hGV4
 obtain⟨o1,o2⟩:=hW4.own at_ s hal HST.out
 have HOO:=HOK.out
 obtain⟨sa,sc,eS,iS⟩:=o1.ints (by omega)
 obtain⟨ga,gc,eG,iG⟩:=o2.gus (by have:=HOO.many;omega)
 obtain⟨ya,yc,eY,iY⟩:=hTK4.ints (by rw[natI_len];have:=taken_len HRD.out;omega)
 obtain⟨ta,tc,eT,iT⟩:=hty4.ints (by omega)
 rw[natI_len]at eY
 have cs:=hW4.typesV hal
 have cg:=hW4.guardsV hal
 rw[eS]at cs
 rw[eG]at cg
 have hbS:bS<w4.heap.size:=hW4.sts.lt
 have HW4:=hide hW4
 have KP:Hid (Calls Tryz.prog 27 #[.agg #[.int .i64 op,.int .i64 fa,.int .i64 fb,.int .i64 fc,.int .i64 fd],.slice ga s.guards.length gc,.slice ya r.taken.length yc,.slice sa s.types.length sc,.slice ta t.length tc] w4.drew (KeptPost op s.guards r.taken s.types t w4.drew)):=
  l6kept_any op fa fb fc fd s.guards r.taken s.types t ga ya sa ta gc yc sc tc (fun b=>b<w4.heap.size) w4.drew ((iG.mono (fun b h=>h.2)).same (w':=w4.drew) (fun _ _=>rfl)) ((iY.mono (fun b h=>h.2)).same (w':=w4.drew) (fun _ _=>rfl)) ((iS.mono (fun b h=>h.2)).same (w':=w4.drew) (fun _ _=>rfl)) ((iT.mono (fun b h=>h.2)).same (w':=w4.drew) (fun _ _=>rfl)) (fun b h=>h) htl.symm (fun i hi=>by have:=HOO.keep i hi;have:=HOO.types;omega) hsl
 obtain⟨j0,j1,j2,j3,j4⟩:=hN4
 rw[Nat.zero_add]at j1 j2 j3 j4
 have hatI:(at_:Int)<ni:=by omega
 have HEY:=hide eY
 have HET:=hide eT
 have HT:=hide ht
 clear hW4 o1 o2 eS eG iS iG iY iT HOO ht hTK4 hty4 htl
 subst eY
 subst eT
 go_upto_region 34 with fail
 have CL:Hid (∀ w',Below w4.heap.size w4.drew w'→w'.cell? ⟨bS,at_ * 3+1,none⟩=some (.slice sa s.types.length sc)∧w'.cell? ⟨bS,at_ * 3+2,none⟩=some (.slice ga s.guards.length gc)∧w'.cell? ⟨w1.heap.size,0,none⟩=some (.int .i64 op)∧w'.cell? ⟨w1.heap.size,1,none⟩=some (.int .i64 fa)∧w'.cell? ⟨w1.heap.size,2,none⟩=some (.int .i64 fb)∧w'.cell? ⟨w1.heap.size,3,none⟩=some (.int .i64 fc)∧w'.cell? ⟨w1.heap.size,4,none⟩=some (.int .i64 fd)):=fun w' h=>by
  have e:∀ b o,b<w4.heap.size→w'.cell? ⟨b,o,none⟩=w4.cell? ⟨b,o,none⟩:=fun b o hb=>h.cell (p:=⟨b,o,none⟩) hb
  exact⟨(e _ _ hbS).trans cs,(e _ _ hbS).trans cg,(e _ _ hw14).trans j0,(e _ _ hw14).trans j1,(e _ _ hw14).trans j2,(e _ _ hw14).trans j3,(e _ _ hw14).trans j4⟩
 go_region_held3 (fun w'=>w'.cell? ⟨bS,at_ * 3+1,none⟩=some (.slice sa s.types.length sc)∧w'.cell? ⟨bS,at_ * 3+2,none⟩=some (.slice ga s.guards.length gc)∧w'.cell? ⟨w1.heap.size,0,none⟩=some (.int .i64 op)∧w'.cell? ⟨w1.heap.size,1,none⟩=some (.int .i64 fa)∧w'.cell? ⟨w1.heap.size,2,none⟩=some (.int .i64 fb)∧w'.cell? ⟨w1.heap.size,3,none⟩=some (.int .i64 fc)∧w'.cell? ⟨w1.heap.size,4,none⟩=some (.int .i64 fd)) (simp[go_sem, *])
  (first | (go_at_call 27;refine(unhide KP).mono ?_;rintro e w5 ⟨ok,rfl,hiff,hb5⟩;obtain⟨q0,q1,q2,q3,q4,q5,q6⟩:=unhide CL _ hb5))
 all_goals
  have hz5:=hb5.size
  have hb5':Below w4.heap.size w4 w5:=(Below.refl _ _).drew.trans hb5
  have hb15:Below w1.heap.size w1 w5:=HB14.out.trans (hb5'.mono (by omega))
  have HB15:=hide hb15
  have HW5:=hide ((unhide HW).below (unhide HB) hb15)
  have hw15:w1.heap.size<w5.heap.size:=by have:w4.heap.size≤w5.heap.size:=hz5;omega
  cases ok
  ·have SAY:Hid (stepM l (prD l p) σ at_=.inl (12,at_)):=by
    show _=_
    rw[step_go HST.out HRD.out HCH.out,if_neg]
    intro h
    rw[HIN.out,keptC_iff,←HT.out]at h
    exact Bool.noConfusion (hiff.2 h)
   clear hiff hb15 hb5' cs cg j0 j1 j2 j3 j4 hb5 hz5 q0 q1 q2 q3 q4 q5 q6 CL KP
   have hrs:=(unhide HW5).res
   have r0:=hrs.cell (i:=0) (by omega);have r1:=hrs.cell (i:=1) (by omega);have r2:=hrs.cell (i:=2) (by omega)
   have z0:=hrs.frozen 0;have z1:=hrs.frozen 1;have z2:=hrs.frozen 2
   have hbF:=hrs.lt
   clear hrs
   go_wp2_with fail
   refine(l6fault_any _ _ _ _).mono ?_
   rintro e wf ⟨rfl,hbf⟩
   have hrs:=((unhide HW5).below (unhide HB) hbf).res
   have BB:Hid (∀ v0 v1 v2,Below w.heap.size w (((wf.setCell ⟨bF,0,none⟩ v0).setCell ⟨bF,1,none⟩ v1).setCell ⟨bF,2,none⟩ v2)):=fun v0 v1 v2=>set3_old ((unhide HW5).old.trans (hbf.mono (unhide HW5).old.size)) (by obtain⟨_,_,_,_,_,_⟩:=unhide HB;omega) v0 v1 v2
   clear r0 r1 r2 z0 z1 z2 hbF
   have r0:=hrs.cell (i:=0) (by omega);have r1:=hrs.cell (i:=1) (by omega);have r2:=hrs.cell (i:=2) (by omega)
   have z0:=hrs.frozen 0;have z1:=hrs.frozen 1;have z2:=hrs.frozen 2
   have hbF:=hrs.lt
   clear hrs hbf
   go_wp2_with fail
   refine bodyPost_ret (v:=.tuple #[.slice none 0 0,.agg #[.int .i64 12,.int .i64 (p:Int),.int .i64 (at_:Int)]]) (by simp[results,Tryz.results12,go_sem,r0,r1,r2]) rfl ?_
   exact wk_fault HG.out hLD.out SAY.out (by decide) (BB.out _ _ _)
  ·have HKP:Hid (keptC ⟨op,fa,fb,fc,fd⟩ s.guards r.taken s.types (writeC ⟨op,fa,fb,fc,fd⟩ r.types)=true):=by
    show _=true
    rw[keptC_iff,←HT.out]
    exact hiff.1 rfl
   have HTY5:=hide ((unhide HTY4).below hb5')
   have HGV5:=hide ((unhide HGV4).below hb5')
   clear hiff hb15 hb5' cs cg j0 j1 j2 j3 j4 hb5 hz5 q0 q1 q2 q3 q4 q5 q6 CL KP
   go_upto_region 36 with fail
   rename_i K9 h9
   exact wk36 l p S w bC bF bP bS bD bT a m c nm ln pr rs rg a5 a6 a7 a8 n5 n6 ni n8 c5 c6 c7 c8 HB HK HNI HM HPS HBS HI7 hni k3 k9 k10 k18 k20 k21 k22 k23 k24 k25 k26 k27 k28 k29 k30 k31 k32 k33 k34 k35 k36 k37 k38 k39 k40 k41 k42 k43 k44 k45 k46 k47 k48 k49 k50 k51 k52 k53 k54 k55 k56 _ _ _ _ _ _ _ _ _ _ _ _ _ _ _ _ _ _ _ _ _ _ _ _ _ _ _ _ _ _ _ _ _ _ _ _ _ _ _ _ _ _ _ _ _ _ _ _ _ _ _ _ _ _ _ _ _ _ _ _ _ _ _ _ _ _ _ _ _ _ _ _ _ _ _ _ _ _ _ _ _ _ _ _ _ _ _ _ _ _ _ _ _ _ _ _ _ _ _ _ _ _ _ _ _ _ _ _ _ _ _ _ _ _ _ _ _ _ _ _ _ _ _ _ _ _ _ _ _ _ _ _ _ _ _ _ _ _ _ _ _ _ _ _ _ _ _ _ _ _ _ _ _ _ _ _ _ _ _ gk k σ w5 HG HO HL at_ R s r w1 _ op fa fb fc fd hat hal HST HRD HIN HW HB15 hw15 t HT HTY5 g gv HCH HGV5 HKP J K hJ hK K9 h9
theorem wk30 (l:List ProtoD)(p:Nat)(S:Nat→Prop)(w:World)(bC bF bP bS bD bT:Nat)(a:Option Addr)(m c:Nat)(nm:ByteArray)(ln pr:Int)(rs:Bool)(rg:Int)(a5 a6 a7 a8:Option Addr)(n5 n6 ni n8 c5 c6 c7 c8:Nat)
  (HB:Hid (WkB w bC bF bP bS bD bT))(HK:Hid (WkOk l p))(HNI:Hid ((prD l p).ins.length=ni))(HM:Hid (l.length=m))(HPS:Hid (ProtosAt w S a l))(HBS:Hid (∀ b,S b→b<w.heap.size))(HI7:Hid (InssAt w S a7 (prD l p).ins))(hni:ni≤6000)
  (k3 k9 k10 k18 k20 k21 k22 k23 k24 k25 k26 k27 k28 k29 k30 k31 k32 k33 k34 k35 k36 k37 k38 k39 k40 k41 k42 k43 k44 k45 k46 k47 k48 k49 k50 k51 k52 k53 k54 k55 k56:Value)(u4 u12 u16 u17 u19 u57 u58 u59 u60 u61 u62 u63 u64 u65 u66 u67 u68 u69 u70 u71 u72 u73 u74 u75 u76 u77 u78 u79 u80 u81 u82 u83 u84 u85 u86 u87 u88 u89 u90 u91 u92 u93 u94 u95 u96 u97 u98 u99 u100 u101 u102 u103 u104 u105 u106 u107 u108 u109 u110 u111 u112 u113 u114 u115 u116 u117 u118 u119 u120 u121 u122 u123 u124 u125 u126 u127 u128 u129 u130 u131 u132 u133 u134 u135 u136 u137 u138 u139 u140 u141 u142 u143 u144 u145 u146 u147 u148 u149 u150 u151 u152 u153 u154 u155 u156 u157 u158 u159 u160 u161 u162 u163 u164 u165 u166 u167 u168 u169 u170 u171 u172 u173 u174 u175 u176 u177 u178 u179 u180 u181 u182 u183 u184 u185 u186 u187 u188 u189 u190 u191 u192 u193 u194 u195 u196 u197 u198 u199 u200 u201 u202 u203 u204 u205 u206 u207 u208 u209:Value)(gk k:Nat)(σ:Mst)(wr:World)(HG:Hid (Goes l (prD l p) k σ))(HO:Hid (MOk (prD l p).regs.toNat ni σ))(HL:Hid (left ni σ=gk))
  (at_:Nat)(R:Nat→Value×Value)(s:StD)(r:RdS)(w1:World)(tv yv:Value)(op fa fb fc fd:Int)(hat:Hid (LeastDue σ ni at_))(hal:at_<ni)(HST:Hid (σ.st at_=some s))(HRD:Hid (readC l (inD (prD l p) at_) s.types=some r))(HIN:Hid (inD (prD l p) at_=⟨op,fa,fb,fc,fd⟩))(HW:Hid (WkW w bC bF bP bS bD bT a m c nm ln pr rs rg (.slice a5 n5 c5) (.slice a6 n6 c6) (.slice a7 ni c7) (.slice a8 n8 c8) ni ⟨σ.st,upd σ.due at_ false⟩ R w1))(HBW:Hid (Below w1.heap.size w1 wr))(hsz:w1.heap.size<wr.heap.size)(HN:Hid (InsCells wr w1.heap.size 0 ⟨op,fa,fb,fc,fd⟩))(HTY:Hid (OwnI wr (w1.heap.size+1) tv r.types))(HTK:Hid (OwnI wr (w1.heap.size+1) yv (natI r.taken)))(HAP:Hid (∀ k,tv.ownBlock=some k→yv.ownBlock≠some k))(hop:1≤op∧op≤42)
  (J:Nat→Act→World→Prop)(K:Act→World→Prop)
  (hJ:∀(k:Nat)(a':Act)(w':World),(∃ u4 u11 u12 u13 u14 u15 u16 u17 u19 u57 u58 u59 u60 u61 u62 u63 u64 u65 u66 u67 u68 u69 u70 u71 u72 u73 u74 u75 u76 u77 u78 u79 u80 u81 u82 u83 u84 u85 u86 u87 u88 u89 u90 u91 u92 u93 u94 u95 u96 u97 u98 u99 u100 u101 u102 u103 u104 u105 u106 u107 u108 u109 u110 u111 u112 u113 u114 u115 u116 u117 u118 u119 u120 u121 u122 u123 u124 u125 u126 u127 u128 u129 u130 u131 u132 u133 u134 u135 u136 u137 u138 u139 u140 u141 u142 u143 u144 u145 u146 u147 u148 u149 u150 u151 u152 u153 u154 u155 u156 u157 u158 u159 u160 u161 u162 u163 u164 u165 u166 u167 u168 u169 u170 u171 u172 u173 u174 u175 u176 u177 u178 u179 u180 u181 u182 u183 u184 u185 u186 u187 u188 u189 u190 u191 u192 u193 u194 u195 u196 u197 u198 u199 u200 u201 u202 u203 u204 u205 u206 u207 u208 u209:Value,WkRel l p w bC bF bP bS bD bT a m c nm ln pr rs rg a5 a6 a7 a8 n5 n6 ni n8 c5 c6 c7 c8 k w'∧a'=⟨List.toArray (.agg #[.slice a m c] :: .int .i64 (p:Int) :: .pointer (some ⟨bC,0,none⟩)::k3::u4 :: .pointer (some ⟨bF,0,none⟩) :: .pointer (some ⟨bP,0,none⟩) :: .slice (some ⟨bS,0,none⟩) ni ni :: .slice (some ⟨bD,0,none⟩) ni ni::k9::k10::u11::u12::u13::u14::u15::u16::u17::k18::u19::k20::k21::k22::k23::k24::k25::k26::k27::k28::k29::k30::k31::k32::k33::k34::k35::k36::k37::k38::k39::k40::k41::k42::k43::k44::k45::k46::k47::k48::k49::k50::k51::k52::k53::k54::k55::k56::u57::u58::u59::u60::u61::u62::u63::u64::u65::u66::u67::u68::u69::u70::u71::u72::u73::u74::u75::u76::u77::u78::u79::u80::u81::u82::u83::u84::u85::u86::u87::u88::u89::u90::u91::u92::u93::u94::u95::u96::u97::u98::u99::u100::u101::u102::u103::u104::u105::u106::u107::u108::u109::u110::u111::u112::u113::u114::u115::u116::u117::u118::u119::u120::u121::u122::u123::u124::u125::u126::u127::u128::u129::u130::u131::u132::u133::u134::u135::u136::u137::u138::u139::u140::u141::u142::u143::u144::u145::u146::u147::u148::u149::u150::u151::u152::u153::u154::u155::u156::u157::u158::u159::u160::u161::u162::u163::u164::u165::u166::u167::u168::u169::u170::u171::u172::u173::u174::u175::u176::u177::u178::u179::u180::u181::u182::u183::u184::u185::u186::u187::u188::u189::u190::u191::u192::u193::u194::u195::u196::u197::u198::u199::u200::u201::u202::u203::u204::u205::u206::u207::u208::u209::[]),[]⟩)→J k a' w')
  (hK:∀(a':Act)(w':World),Handed J gk a' w'→K a' w')(KK:Act→World→Prop)
  (hKK:∀(a':Act)(w':World),Code.wp Tryz.prog (cAt [1,1,1,1,1,1,1,1,1,0,0,0,1,1,1,1,1,1,1,1,1] (Tryz.f12.body.getD .skip)) (Exit.inBlock 3 (Exit.then K (Exit.inBlock 2 (bodyPost Tryz.prog Tryz.f12 (WkPost l p w))))) a' w'→KK a' w') :
  Code.wp Tryz.prog (cAt [1,1,1,1,1,1,1,1,1,0,0,0,1,1,1,1,1,1,1,1,0] (Tryz.f12.body.getD .skip)) (Exit.then KK (Exit.inBlock 3 (Exit.then K (Exit.inBlock 2 (bodyPost Tryz.prog Tryz.f12 (WkPost l p w)))))) ⟨List.toArray (.agg #[.slice a m c] :: .int .i64 (p:Int) :: .pointer (some ⟨bC,0,none⟩)::k3::u4 :: .pointer (some ⟨bF,0,none⟩) :: .pointer (some ⟨bP,0,none⟩) :: .slice (some ⟨bS,0,none⟩) ni ni :: .slice (some ⟨bD,0,none⟩) ni ni::k9::k10 :: .int .i64 (at_:Int)::u12 :: .pointer (some ⟨w1.heap.size,0,none⟩)::tv::yv::u16::u17::k18::u19::k20::k21::k22::k23::k24::k25::k26::k27::k28::k29::k30::k31::k32::k33::k34::k35::k36::k37::k38::k39::k40::k41::k42::k43::k44::k45::k46::k47::k48::k49::k50::k51::k52::k53::k54::k55::k56::u57::u58::u59::u60::u61::u62::u63::u64::u65::u66::u67::u68::u69::u70::u71::u72::u73::u74::u75::u76::u77::u78::u79::u80::u81::u82::u83::u84::u85::u86::u87::u88::u89::u90::u91::u92::u93::u94::u95::u96::u97::u98::u99::u100::u101::u102::u103::u104::u105::u106::u107::u108::u109::u110::u111::u112::u113::u114::u115::u116::u117::u118::u119::u120::u121::u122::u123::u124::u125::u126::u127::u128::u129::u130::u131::u132::u133::u134::u135::u136::u137::u138::u139::u140::u141::u142::u143::u144::u145::u146::u147::u148::u149::u150::u151::u152::u153::u154::u155::u156::u157::u158::u159::u160::u161::u162::u163::u164::u165::u166::u167::u168::u169::u170::u171::u172::u173::u174::u175::u176::u177::u178::u179::u180::u181::u182::u183::u184::u185::u186::u187::u188::u189::u190::u191::u192::u193::u194::u195::u196::u197::u198::u199::u200::u201::u202::u203::u204::u205::u206::u207::u208::u209::[]),[]⟩ wr:=by
 conv=>arg 2;whnf
 conv at hKK=>enter [a1,w2,1,2];whnf
 have hW:=unhide HW
 have hLD:Hid (LeastDue σ (prD l p).ins.length at_):=by show LeastDue _ _ _;rw[HNI.out];exact hat.out
 have hok:=(HO.out.st at_ s HST.out).2
 obtain⟨_,o2⟩:=hW.own at_ s hal HST.out
 obtain⟨ga,gc,eG,iG⟩:=o2.gus (by have:=hok.many;omega)
 have hgl:=hok.many
 have hWr:=hW.below (unhide HB) HBW.out
 have cg:=hWr.guardsV hal
 rw[eG]at cg
 have hbS:bS<wr.heap.size:=hWr.sts.lt
 have CH:Hid (Calls Tryz.prog 25 #[.agg #[.int .i64 op,.int .i64 fa,.int .i64 fb,.int .i64 fc,.int .i64 fd],.slice ga s.guards.length gc] wr.drew (ChPost ⟨op,fa,fb,fc,fd⟩ s.guards wr.drew)):=
  l6change_any op fa fb fc fd s.guards ga gc (fun b=>bT≤b∧b<w1.heap.size) wr.drew (iG.same (.of_below (HBW.out.drew) (fun b h=>h.2))) (fun b h=>by have:=h.2;show b<wr.heap.size;omega) hgl
 obtain⟨j0,j1,j2,j3,j4⟩:=unhide HN
 rw[Nat.zero_add]at j1 j2 j3 j4
 have HWR:=hide hWr
 have hatI:(at_:Int)<ni:=by omega
 clear hW hok o2 eG iG hWr
 have CL:Hid (∀ w',Below wr.heap.size wr.drew w'→w'.cell? ⟨bS,at_ * 3+2,none⟩=some (.slice ga s.guards.length gc)∧w'.cell? ⟨w1.heap.size,0,none⟩=some (.int .i64 op)∧w'.cell? ⟨w1.heap.size,1,none⟩=some (.int .i64 fa)∧w'.cell? ⟨w1.heap.size,2,none⟩=some (.int .i64 fb)∧w'.cell? ⟨w1.heap.size,3,none⟩=some (.int .i64 fc)∧w'.cell? ⟨w1.heap.size,4,none⟩=some (.int .i64 fd)):=fun w' h=>by
  have e:∀ b o,b<wr.heap.size→w'.cell? ⟨b,o,none⟩=wr.cell? ⟨b,o,none⟩:=fun b o hb=>h.cell (p:=⟨b,o,none⟩) hb
  exact⟨(e _ _ hbS).trans cg,(e _ _ hsz).trans j0,(e _ _ hsz).trans j1,(e _ _ hsz).trans j2,(e _ _ hsz).trans j3,(e _ _ hsz).trans j4⟩
 go_upto_region 30 with fail
 go_region_held3 (fun w'=>w'.cell? ⟨bS,at_ * 3+2,none⟩=some (.slice ga s.guards.length gc)∧w'.cell? ⟨w1.heap.size,0,none⟩=some (.int .i64 op)∧w'.cell? ⟨w1.heap.size,1,none⟩=some (.int .i64 fa)∧w'.cell? ⟨w1.heap.size,2,none⟩=some (.int .i64 fb)∧w'.cell? ⟨w1.heap.size,3,none⟩=some (.int .i64 fc)∧w'.cell? ⟨w1.heap.size,4,none⟩=some (.int .i64 fd)) (simp[go_sem, *])
  (first | (go_at_call 25;refine(unhide CH).mono ?_;rintro e w3 ⟨gv,ok,rfl,hy,hn,hb3⟩;obtain⟨q0,q1,q2,q3,q4,q5⟩:=unhide CL _ hb3))
 all_goals
  have hz3:=hb3.size
  have hb13:Below w1.heap.size w1 w3:=HBW.out.trans (((Below.refl _ _).drew.trans hb3).mono (by show w1.heap.size≤wr.heap.size;omega))
  have HB13:=hide hb13
  have HW3:=hide ((unhide HW).below (unhide HB) hb13)
  have hb3':Below wr.heap.size wr w3:=(Below.refl _ _).drew.trans hb3
  have HN3:Hid (InsCells w3 w1.heap.size 0 ⟨op,fa,fb,fc,fd⟩):=by
   have e:∀ o,w3.cell? ⟨w1.heap.size,o,none⟩=wr.cell? ⟨w1.heap.size,o,none⟩:=fun o=>hb3'.cell (p:=⟨w1.heap.size,o,none⟩) hsz
   have h:=unhide HN
   exact⟨(e _).trans h.op,(e _).trans h.fa,(e _).trans h.fb,(e _).trans h.fc,(e _).trans h.fd⟩
  have HTY3:=hide ((unhide HTY).below hb3')
  have HTK3:=hide ((unhide HTK).below hb3')
  have hw13:w1.heap.size<w3.heap.size:=by have:wr.heap.size≤w3.heap.size:=hz3;omega
  cases ok
  ·have SAY:Hid (stepM l (prD l p) σ at_=.inl (11,at_)):=step_11 HST.out HRD.out (by rw[HIN.out];exact hn rfl)
   clear hy hn hb13 hb3' cg j0 j1 j2 j3 j4 hb3 hz3 q0 q1 q2 q3 q4 q5 CL CH
   have hrs:=(unhide HW3).res
   have r0:=hrs.cell (i:=0) (by omega);have r1:=hrs.cell (i:=1) (by omega);have r2:=hrs.cell (i:=2) (by omega)
   have z0:=hrs.frozen 0;have z1:=hrs.frozen 1;have z2:=hrs.frozen 2
   have hbF:=hrs.lt
   clear hrs
   go_wp2_with fail
   refine(l6fault_any _ _ _ _).mono ?_
   rintro e wf ⟨rfl,hbf⟩
   have hrs:=((unhide HW3).below (unhide HB) hbf).res
   have BB:Hid (∀ v0 v1 v2,Below w.heap.size w (((wf.setCell ⟨bF,0,none⟩ v0).setCell ⟨bF,1,none⟩ v1).setCell ⟨bF,2,none⟩ v2)):=fun v0 v1 v2=>set3_old ((unhide HW3).old.trans (hbf.mono (unhide HW3).old.size)) (by obtain⟨_,_,_,_,_,_⟩:=unhide HB;omega) v0 v1 v2
   clear r0 r1 r2 z0 z1 z2 hbF
   have r0:=hrs.cell (i:=0) (by omega);have r1:=hrs.cell (i:=1) (by omega);have r2:=hrs.cell (i:=2) (by omega)
   have z0:=hrs.frozen 0;have z1:=hrs.frozen 1;have z2:=hrs.frozen 2
   have hbF:=hrs.lt
   clear hrs hbf
   go_wp2_with fail
   refine bodyPost_ret (v:=.tuple #[.slice none 0 0,.agg #[.int .i64 11,.int .i64 (p:Int),.int .i64 (at_:Int)]]) (by simp[results,Tryz.results12,go_sem,r0,r1,r2]) rfl ?_
   exact wk_fault HG.out hLD.out SAY.out (by decide) (BB.out _ _ _)
  ·obtain⟨g,hg,hgv⟩:=hy rfl
   have HCH:Hid (changeC (inD (prD l p) at_) s.guards=some g):=by show _=_;rw[HIN.out];exact hg
   have HGV:=hide (hgv.base_le (base':=w1.heap.size+1) (by show w1.heap.size+1≤wr.heap.size;omega))
   have HAG:Hid (∀ k,tv.ownBlock=some k→gv.ownBlock≠some k):=fun k h1 h2=>by
    have:=((unhide HTY).lt' k h1).2
    have:wr.heap.size≤k:=(hgv.lt' k h2).1
    omega
   clear hy hn hb13 hb3' cg j0 j1 j2 j3 j4 hb3 hz3 q0 q1 q2 q3 q4 q5 CL CH hg hgv
   go_upto_region 33 with fail
   rename_i K9 h9
   exact wk33 l p S w bC bF bP bS bD bT a m c nm ln pr rs rg a5 a6 a7 a8 n5 n6 ni n8 c5 c6 c7 c8 HB HK HNI HM HPS HBS HI7 hni k3 k9 k10 k18 k20 k21 k22 k23 k24 k25 k26 k27 k28 k29 k30 k31 k32 k33 k34 k35 k36 k37 k38 k39 k40 k41 k42 k43 k44 k45 k46 k47 k48 k49 k50 k51 k52 k53 k54 k55 k56 _ _ _ _ _ _ _ _ _ _ _ _ _ _ _ _ _ _ _ _ _ _ _ _ _ _ _ _ _ _ _ _ _ _ _ _ _ _ _ _ _ _ _ _ _ _ _ _ _ _ _ _ _ _ _ _ _ _ _ _ _ _ _ _ _ _ _ _ _ _ _ _ _ _ _ _ _ _ _ _ _ _ _ _ _ _ _ _ _ _ _ _ _ _ _ _ _ _ _ _ _ _ _ _ _ _ _ _ _ _ _ _ _ _ _ _ _ _ _ _ _ _ _ _ _ _ _ _ _ _ _ _ _ _ _ _ _ _ _ _ _ _ _ _ _ _ _ _ _ _ _ _ _ _ _ _ _ gk k σ w3 HG HO HL at_ R s r w1 tv yv op fa fb fc fd hat hal HST HRD HIN HW HB13 hw13 HN3 HTY3 HTK3 HAP hop g gv HCH HGV HAG J K hJ hK K9 h9
theorem wk24 (l:List ProtoD)(p:Nat)(S:Nat→Prop)(w:World)(bC bF bP bS bD bT:Nat)(a:Option Addr)(m c:Nat)(nm:ByteArray)(ln pr:Int)(rs:Bool)(rg:Int)(a5 a6 a7 a8:Option Addr)(n5 n6 ni n8 c5 c6 c7 c8:Nat)
  (HB:Hid (WkB w bC bF bP bS bD bT))(HK:Hid (WkOk l p))(HNI:Hid ((prD l p).ins.length=ni))(HM:Hid (l.length=m))(HPS:Hid (ProtosAt w S a l))(HBS:Hid (∀ b,S b→b<w.heap.size))(HI7:Hid (InssAt w S a7 (prD l p).ins))(hni:ni≤6000)
  (k3 k9 k10 k18 k20 k21 k22 k23 k24 k25 k26 k27 k28 k29 k30 k31 k32 k33 k34 k35 k36 k37 k38 k39 k40 k41 k42 k43 k44 k45 k46 k47 k48 k49 k50 k51 k52 k53 k54 k55 k56:Value)(u4 u12 u13 u14 u15 u16 u17 u19 u57 u58 u59 u60 u61 u62 u63 u64 u65 u66 u67 u68 u69 u70 u71 u72 u73 u74 u75 u76 u77 u78 u79 u80 u81 u82 u83 u84 u85 u86 u87 u88 u89 u90 u91 u92 u93 u94 u95 u96 u97 u98 u99 u100 u101 u102 u103 u104 u105 u106 u107 u108 u109 u110 u111 u112 u113 u114 u115 u116 u117 u118 u119 u120 u121 u122 u123 u124 u125 u126 u127 u128 u129 u130 u131 u132 u133 u134 u135 u136 u137 u138 u139 u140 u141 u142 u143 u144 u145 u146 u147 u148 u149 u150 u151 u152 u153 u154 u155 u156 u157 u158 u159 u160 u161 u162 u163 u164 u165 u166 u167 u168 u169 u170 u171 u172 u173 u174 u175 u176 u177 u178 u179 u180 u181 u182 u183 u184 u185 u186 u187 u188 u189 u190 u191 u192 u193 u194 u195 u196 u197 u198 u199 u200 u201 u202 u203 u204 u205 u206 u207 u208 u209:Value)(gk k:Nat)(σ:Mst)(wr:World)(HG:Hid (Goes l (prD l p) k σ))(HO:Hid (MOk (prD l p).regs.toNat ni σ))(HL:Hid (left ni σ=gk))
  (at_:Nat)(R:Nat→Value×Value)(hat:Hid (LeastDue σ ni at_))(hal:at_<ni)(HW:Hid (WkW w bC bF bP bS bD bT a m c nm ln pr rs rg (.slice a5 n5 c5) (.slice a6 n6 c6) (.slice a7 ni c7) (.slice a8 n8 c8) ni σ R wr))
  (J:Nat→Act→World→Prop)(K:Act→World→Prop)
  (hJ:∀(k:Nat)(a':Act)(w':World),(∃ u4 u11 u12 u13 u14 u15 u16 u17 u19 u57 u58 u59 u60 u61 u62 u63 u64 u65 u66 u67 u68 u69 u70 u71 u72 u73 u74 u75 u76 u77 u78 u79 u80 u81 u82 u83 u84 u85 u86 u87 u88 u89 u90 u91 u92 u93 u94 u95 u96 u97 u98 u99 u100 u101 u102 u103 u104 u105 u106 u107 u108 u109 u110 u111 u112 u113 u114 u115 u116 u117 u118 u119 u120 u121 u122 u123 u124 u125 u126 u127 u128 u129 u130 u131 u132 u133 u134 u135 u136 u137 u138 u139 u140 u141 u142 u143 u144 u145 u146 u147 u148 u149 u150 u151 u152 u153 u154 u155 u156 u157 u158 u159 u160 u161 u162 u163 u164 u165 u166 u167 u168 u169 u170 u171 u172 u173 u174 u175 u176 u177 u178 u179 u180 u181 u182 u183 u184 u185 u186 u187 u188 u189 u190 u191 u192 u193 u194 u195 u196 u197 u198 u199 u200 u201 u202 u203 u204 u205 u206 u207 u208 u209:Value,WkRel l p w bC bF bP bS bD bT a m c nm ln pr rs rg a5 a6 a7 a8 n5 n6 ni n8 c5 c6 c7 c8 k w'∧a'=⟨List.toArray (.agg #[.slice a m c] :: .int .i64 (p:Int) :: .pointer (some ⟨bC,0,none⟩)::k3::u4 :: .pointer (some ⟨bF,0,none⟩) :: .pointer (some ⟨bP,0,none⟩) :: .slice (some ⟨bS,0,none⟩) ni ni :: .slice (some ⟨bD,0,none⟩) ni ni::k9::k10::u11::u12::u13::u14::u15::u16::u17::k18::u19::k20::k21::k22::k23::k24::k25::k26::k27::k28::k29::k30::k31::k32::k33::k34::k35::k36::k37::k38::k39::k40::k41::k42::k43::k44::k45::k46::k47::k48::k49::k50::k51::k52::k53::k54::k55::k56::u57::u58::u59::u60::u61::u62::u63::u64::u65::u66::u67::u68::u69::u70::u71::u72::u73::u74::u75::u76::u77::u78::u79::u80::u81::u82::u83::u84::u85::u86::u87::u88::u89::u90::u91::u92::u93::u94::u95::u96::u97::u98::u99::u100::u101::u102::u103::u104::u105::u106::u107::u108::u109::u110::u111::u112::u113::u114::u115::u116::u117::u118::u119::u120::u121::u122::u123::u124::u125::u126::u127::u128::u129::u130::u131::u132::u133::u134::u135::u136::u137::u138::u139::u140::u141::u142::u143::u144::u145::u146::u147::u148::u149::u150::u151::u152::u153::u154::u155::u156::u157::u158::u159::u160::u161::u162::u163::u164::u165::u166::u167::u168::u169::u170::u171::u172::u173::u174::u175::u176::u177::u178::u179::u180::u181::u182::u183::u184::u185::u186::u187::u188::u189::u190::u191::u192::u193::u194::u195::u196::u197::u198::u199::u200::u201::u202::u203::u204::u205::u206::u207::u208::u209::[]),[]⟩)→J k a' w')
  (hK:∀(a':Act)(w':World),Handed J gk a' w'→K a' w')(KK:Act→World→Prop)
  (hKK:∀(a':Act)(w':World),Code.wp Tryz.prog (cAt [1,1,1,1,1,1,1,1,1,0,0,0,1,1,1,1] (Tryz.f12.body.getD .skip)) (Exit.inBlock 3 (Exit.then K (Exit.inBlock 2 (bodyPost Tryz.prog Tryz.f12 (WkPost l p w))))) a' w'→KK a' w') :
  Code.wp Tryz.prog (cAt [1,1,1,1,1,1,1,1,1,0,0,0,1,1,1,0] (Tryz.f12.body.getD .skip)) (Exit.then KK (Exit.inBlock 3 (Exit.then K (Exit.inBlock 2 (bodyPost Tryz.prog Tryz.f12 (WkPost l p w)))))) ⟨List.toArray (.agg #[.slice a m c] :: .int .i64 (p:Int) :: .pointer (some ⟨bC,0,none⟩)::k3::u4 :: .pointer (some ⟨bF,0,none⟩) :: .pointer (some ⟨bP,0,none⟩) :: .slice (some ⟨bS,0,none⟩) ni ni :: .slice (some ⟨bD,0,none⟩) ni ni::k9::k10 :: .int .i64 (at_:Int)::u12::u13::u14::u15::u16::u17::k18::u19::k20::k21::k22::k23::k24::k25::k26::k27::k28::k29::k30::k31::k32::k33::k34::k35::k36::k37::k38::k39::k40::k41::k42::k43::k44::k45::k46::k47::k48::k49::k50::k51::k52::k53::k54::k55::k56::u57::u58::u59::u60::u61::u62::u63::u64::u65::u66::u67::u68::u69::u70::u71::u72::u73::u74::u75::u76::u77::u78::u79::u80::u81::u82::u83::u84::u85::u86::u87::u88::u89::u90::u91::u92::u93::u94::u95::u96::u97::u98::u99::u100::u101::u102::u103::u104::u105::u106::u107::u108::u109::u110::u111::u112::u113::u114::u115::u116::u117::u118::u119::u120::u121::u122::u123::u124::u125::u126::u127::u128::u129::u130::u131::u132::u133::u134::u135::u136::u137::u138::u139::u140::u141::u142::u143::u144::u145::u146::u147::u148::u149::u150::u151::u152::u153::u154::u155::u156::u157::u158::u159::u160::u161::u162::u163::u164::u165::u166::u167::u168::u169::u170::u171::u172::u173::u174::u175::u176::u177::u178::u179::u180::u181::u182::u183::u184::u185::u186::u187::u188::u189::u190::u191::u192::u193::u194::u195::u196::u197::u198::u199::u200::u201::u202::u203::u204::u205::u206::u207::u208::u209::[]),[]⟩ wr:=by
 conv=>arg 2;whnf
 conv at hKK=>enter [a1,w2,1,2];whnf
 have hW:=unhide HW
 have d0:=hW.due.cell hal
 have dz:=hW.due.frozen at_
 have dl:=hW.due.lt
 have HW1:=hide (hW.setDue (unhide HB) at_ false)
 clear hW
 go_upto_region 25 with fail
 clear d0 dz dl HW
 generalize wr.setCell ⟨bD,at_,none⟩ (.bool false)=w1 at *
 have hW1:=unhide HW1
 have hal':at_<(prD l p).ins.length:=by have:=HNI.out;omega
 have hLD:Hid (LeastDue σ (prD l p).ins.length at_):=by show LeastDue _ _ _;rw[HNI.out];exact hat.out
 obtain⟨s,hs⟩:∃ s,σ.st at_=some s:=Option.ne_none_iff_exists'.1 (HO.out.due at_ hat.out.2.1).2
 have HST:=hide hs
 have hok:=(HO.out.st at_ s hs).2
 have HOK:=hide hok
 have hr0:=HK.out.regs
 have hsl:s.types.length≤250:=by have:=hok.types;omega
 obtain⟨o1,o2⟩:=hW1.own at_ s hal hs
 obtain⟨ta,tc,eT,iT⟩:=o1.ints (by omega)
 have ct:=hW1.typesV hal
 rw[eT]at ct
 obtain⟨p0,p1,p2,p3,p4,p5,p6,p7,p8⟩:=hW1.prot
 obtain⟨ib,io,rfl,hib,hic⟩:=((unhide HI7).keep hW1.old (unhide HBS)).2 (by omega)
 have IC:InsCells w1 ib (io+at_ * 5) (inD (prD l p) at_):=hic at_ hal'
 have hibs:ib<w1.heap.size:=Nat.lt_of_lt_of_le (unhide HBS ib hib) hW1.old.size
 have hfit:=HK.out.ins at_ hal'
 obtain⟨hop,_,_⟩:=ins_shape hfit
 have HFIT:=hide hfit
 obtain⟨r,hr⟩:∃ r,rolesC (inD (prD l p) at_).op=some r:=by
  unfold sInsOk at hfit
  change (match rolesC (inD (prD l p) at_).op with | none=>false | some r=>_)=true at hfit
  cases e:rolesC (inD (prD l p) at_).op with
  | none=>rw[e]at hfit;cases hfit
  | some r=>exact⟨r,rfl⟩
 have hrd:=shape_rd hfit hr0.1
 rw[hr]at hrd
 rw[←hok.types]at hrd
 have hup:=HK.out.made at_ hal'
 rw[←hok.types]at hup
 have e0:=IC.op;have e1:=IC.fa;have e2:=IC.fb;have e3:=IC.fc;have e4:=IC.fd
 have cC:=hW1.code
 have sz:=hW1.size
 have HIT:=hide iT
 have HRD:=hide (show RdFits r (inD (prD l p) at_) s.types.length from hrd)
 have HUPS:=hide hup
 have HRO:=hide hr
 have HIN:Hid (inD (prD l p) at_=⟨(inD (prD l p) at_).op,(inD (prD l p) at_).fa,(inD (prD l p) at_).fb,(inD (prD l p) at_).fc,(inD (prD l p) at_).fd⟩):=rfl
 have hbS:bS<w1.heap.size:=by obtain⟨_,_,_,_,_,_⟩:=unhide HB;omega
 have hbC:bC<w1.heap.size:=by obtain⟨_,_,_,_,_,_⟩:=unhide HB;omega
 have hbP:bP<w1.heap.size:=by obtain⟨_,_,_,_,_,_⟩:=unhide HB;omega
 have hatI:(at_:Int)<ni:=by omega
 clear hW1 hs hok o1 o2 eT iT hic IC hfit hr hrd hup
 generalize (inD (prD l p) at_).op=op at *
 generalize (inD (prD l p) at_).fa=fa at *
 generalize (inD (prD l p) at_).fb=fb at *
 generalize (inD (prD l p) at_).fc=fc at *
 generalize (inD (prD l p) at_).fd=fd at *
 go_wp2_with fail
 refine(l6copy_any ta s.types tc (fun b=>bT≤b∧b<w1.heap.size) _ ((unhide HIT).keep (B:=w1.heap.size) ((Below.refl _ _).alloc (Nat.le_refl _) _) (fun b h=>h.2)) (fun b h=>by have:=h.2;simp;omega) (by omega)).mono ?_
 rintro e w2 ⟨tv,rfl,hO2,hb2⟩
 have e1z:(w1.alloc (.cells #[.int .i64 op,.int .i64 fa,.int .i64 fb,.int .i64 fc,.int .i64 fd] 60)).heap.size=w1.heap.size+1:=by simp
 obtain⟨hc2,_⟩:=bcell hb2
 rw[e1z]at hO2 hc2
 replace hb2:=hb2.mono (Nat.le_of_eq e1z.symm)
 have hz2:=hb2.size
 rw[e1z]at hz2
 have j0:w2.cell? ⟨w1.heap.size,0,none⟩=some (.int .i64 op):=by rw[hc2 _ _ (by omega)];simp[go_sem]
 have j1:w2.cell? ⟨w1.heap.size,1,none⟩=some (.int .i64 fa):=by rw[hc2 _ _ (by omega)];simp[go_sem]
 have j2:w2.cell? ⟨w1.heap.size,2,none⟩=some (.int .i64 fb):=by rw[hc2 _ _ (by omega)];simp[go_sem]
 have j3:w2.cell? ⟨w1.heap.size,3,none⟩=some (.int .i64 fc):=by rw[hc2 _ _ (by omega)];simp[go_sem]
 have j4:w2.cell? ⟨w1.heap.size,4,none⟩=some (.int .i64 fd):=by rw[hc2 _ _ (by omega)];simp[go_sem]
 have hb12:Below w1.heap.size w1 w2:=((Below.refl _ _).alloc (Nat.le_refl _) _).trans (hb2.mono (by omega))
 have jC:w2.cell? ⟨bC,0,none⟩=some (.slice a m c):=(hb12.cell (p:=⟨bC,0,none⟩) hbC).trans cC
 have HB12:=hide hb12
 have hw1s:w1.heap.size<w2.heap.size:=by omega
 have hbC2:bC<w2.heap.size:=by omega
 have RDC:Hid (Calls Tryz.prog 24 #[.agg #[.slice a m c],.int .i64 (p:Int),.agg #[.int .i64 op,.int .i64 fa,.int .i64 fb,.int .i64 fc,.int .i64 fd],tv] w2 (RdAll (readC l ⟨op,fa,fb,fc,fd⟩ s.types) (w1.heap.size+1) tv w2)):=by
  have h:=l6read_all l op fa fb fc fd (p:Int) r s.types (w1.heap.size+1) c tv S a w2 ((unhide HPS).keep ((unhide HW1).old.trans (hb12.mono (unhide HW1).old.size)) (unhide HBS)) (fun b h=>by have:=unhide HBS b h;have:=(unhide HW1).old.size;omega) HRO.out (HIN.out ▸ HRD.out) (HIN.out ▸ HUPS.out) HK.out.ups (by have:=HK.out.many;omega) hO2 hsl (by omega)
  rw[HM.out]at h
  exact h
 have HO2:=hide hO2
 clear hb12 hb2 hc2 e1z hO2 ct e0 e1 e2 e3 e4 p0 p1 p2 p3 p4 p5 p6 p7 p8 cC HIT HRD HUPS HRO
 go_wp2_with fail
 refine(unhide RDC).mono ?_
 rintro e w3 ⟨yv,ok,rfl,hy,hn,hb3⟩
 have hz3:=hb3.size
 have hb13:Below w1.heap.size w1 w3:=(unhide HB12).trans (hb3.mono (by omega))
 have HB13:=hide hb13
 have HW3:=hide ((unhide HW1).below (unhide HB) hb13)
 have HNB:Hid (InsCells w3 w1.heap.size 0 ⟨op,fa,fb,fc,fd⟩):=by
  have e:∀ o,w3.cell? ⟨w1.heap.size,o,none⟩=w2.cell? ⟨w1.heap.size,o,none⟩:=fun o=>hb3.cell (p:=⟨w1.heap.size,o,none⟩) (by show w1.heap.size<w1.heap.size+1;omega)
  exact⟨(e _).trans j0,(e _).trans j1,(e _).trans j2,(e _).trans j3,(e _).trans j4⟩
 have hw13:w1.heap.size<w3.heap.size:=by omega
 clear RDC hb13 hb3 j0 j1 j2 j3 j4 jC
 cases ok
 ·have SAY:Hid (stepM l (prD l p) σ at_=.inl (10,at_)):=step_10 HST.out (by rw[HIN.out];exact hn rfl)
  clear hy hn
  have hrs:=(unhide HW3).res
  have r0:=hrs.cell (i:=0) (by omega);have r1:=hrs.cell (i:=1) (by omega);have r2:=hrs.cell (i:=2) (by omega)
  have z0:=hrs.frozen 0;have z1:=hrs.frozen 1;have z2:=hrs.frozen 2
  have hbF:=hrs.lt
  clear hrs
  go_wp2_with fail
  refine(l6fault_any _ _ _ _).mono ?_
  rintro e wf ⟨rfl,hbf⟩
  have hrs:=((unhide HW3).below (unhide HB) hbf).res
  have BB:Hid (∀ v0 v1 v2,Below w.heap.size w (((wf.setCell ⟨bF,0,none⟩ v0).setCell ⟨bF,1,none⟩ v1).setCell ⟨bF,2,none⟩ v2)):=fun v0 v1 v2=>set3_old ((unhide HW3).old.trans (hbf.mono (unhide HW3).old.size)) (by obtain⟨_,_,_,_,_,_⟩:=unhide HB;omega) v0 v1 v2
  clear r0 r1 r2 z0 z1 z2 hbF
  have r0:=hrs.cell (i:=0) (by omega);have r1:=hrs.cell (i:=1) (by omega);have r2:=hrs.cell (i:=2) (by omega)
  have z0:=hrs.frozen 0;have z1:=hrs.frozen 1;have z2:=hrs.frozen 2
  have hbF:=hrs.lt
  clear hrs hbf
  go_wp2_with fail
  refine bodyPost_ret (v:=.tuple #[.slice none 0 0,.agg #[.int .i64 10,.int .i64 (p:Int),.int .i64 (at_:Int)]]) (by simp[results,Tryz.results12,go_sem,r0,r1,r2]) rfl ?_
  exact wk_fault HG.out hLD.out SAY.out (by decide) (BB.out _ _ _)
 ·obtain⟨r',hr',hty,htk⟩:=hy rfl
  have HRD:Hid (readC l (inD (prD l p) at_) s.types=some r'):=by show _=_;rw[HIN.out];exact hr'
  have HTY:=hide hty
  have HTK:=hide (htk.base_le (base':=w1.heap.size+1) (by omega))
  have HAP:Hid (∀ k,tv.ownBlock=some k→yv.ownBlock≠some k):=fun k h1 h2=>by
   have:=((unhide HO2).lt k h1).2
   have:=(htk.lt k h2).1
   omega
  clear hy hn hr' hty htk HO2
  go_upto_region 30 with fail
  rename_i K9 h9
  exact wk30 l p S w bC bF bP bS bD bT a m c nm ln pr rs rg a5 a6 (some ⟨ib,io,none⟩) a8 n5 n6 ni n8 c5 c6 c7 c8 HB HK HNI HM HPS HBS HI7 hni k3 k9 k10 k18 k20 k21 k22 k23 k24 k25 k26 k27 k28 k29 k30 k31 k32 k33 k34 k35 k36 k37 k38 k39 k40 k41 k42 k43 k44 k45 k46 k47 k48 k49 k50 k51 k52 k53 k54 k55 k56 _ _ _ _ _ _ _ _ _ _ _ _ _ _ _ _ _ _ _ _ _ _ _ _ _ _ _ _ _ _ _ _ _ _ _ _ _ _ _ _ _ _ _ _ _ _ _ _ _ _ _ _ _ _ _ _ _ _ _ _ _ _ _ _ _ _ _ _ _ _ _ _ _ _ _ _ _ _ _ _ _ _ _ _ _ _ _ _ _ _ _ _ _ _ _ _ _ _ _ _ _ _ _ _ _ _ _ _ _ _ _ _ _ _ _ _ _ _ _ _ _ _ _ _ _ _ _ _ _ _ _ _ _ _ _ _ _ _ _ _ _ _ _ _ _ _ _ _ _ _ _ _ _ _ _ _ _ _ gk k σ w3 HG HO HL at_ R s r' w1 tv yv op fa fb fc fd hat hal HST HRD HIN HW1 HB13 hw13 HNB HTY HTK HAP hop J K hJ hK K9 h9
theorem own_of_row {w:World}{b n base:Nat}{f:Nat→Value}{t:List Int}(h:w.rowIs b 3 n f)(hn:t.length=n)(hb:base≤b)(hl:n≤1000000)(hf:∀ j,j<n→f j=.int .i64 (t[j]?.getD 0)):OwnI w base (.slice (some ⟨b,0,none⟩) n n) t:=by
 obtain⟨cur,h1,h2,h3⟩:=h
 subst hn
 refine⟨by simp,.inr ⟨b,t.length,cur,rfl,hb,h1,Nat.le_refl _,by unfold maxLen;omega,by omega,?_⟩⟩
 apply List.ext_getElem?
 intro j
 by_cases hj:j<t.length
 ·rw[List.getElem?_take,if_pos (by omega),Array.getElem?_toList,h3 j hj,hf j hj,List.getElem?_map,List.getElem?_eq_getElem hj]
  rfl
 ·rw[List.getElem?_eq_none (by simp;omega),List.getElem?_eq_none (by simp;omega)]
theorem silentC_le (n:InsD)(a:Nat):(silentC n a).length≤2:=by
 unfold silentC
 repeat' split
 all_goals simp
def sig0:Mst:=⟨fun _=>none,fun _=>false⟩
def start5 (w:World)(a:Option Addr)(m c:Nat)(nm:ByteArray)(ln pr:Int)(rs:Bool)(rg:Int)(v5 v6 v7 v8:Value)(N R:Nat):World:=
 (((((w.alloc (.cells #[.slice a m c] 31)).alloc (.cells #[.int .i64 0,.int .i64 0,.int .i64 0] 27)).alloc (.cells #[.string nm,.int .i64 ln,.int .i64 pr,.bool rs,.int .i64 rg,v5,v6,v7,v8] 58)).alloc (.cells (madeCells #[.bool false,.slice none 0 0,.slice none 0 0] (N * 3)) 66)).alloc (.cells (madeCells #[.bool false] N) 4)).alloc (.cells (madeCells #[.int .i64 0] R) 3)
theorem rowIs_wideC (w:World)(z:Array Value)(m:Nat)(t:TypeId):(w.alloc (.cells (madeCells z m) t)).rowIs w.heap.size t m (fun j=>z[j % z.size]!):=
 ⟨_,Go.Deep.blk_alloc_new _ _,size_madeCells _ _,fun i hi=>by simp[madeCells,hi]⟩
theorem row_at {W:World}{b T n:Nat}{f:Nat→Value}{b':Nat}(h:W.rowIs b T n f)(e:b=b'):W.rowIs b' T n f:=e ▸ h
theorem wk_start (w:World)(a:Option Addr)(m c:Nat)(nm:ByteArray)(ln pr:Int)(rs:Bool)(rg:Int)(v5 v6 v7 v8:Value)(N R:Nat) :
  Hid (WkW w w.heap.size (w.heap.size+1) (w.heap.size+1+1) (w.heap.size+1+1+1) (w.heap.size+1+1+1+1) (w.heap.size+1+1+1+1+1) a m c nm ln pr rs rg v5 v6 v7 v8 N sig0 (fun _=>nil2) (start5 w a m c nm ln pr rs rg v5 v6 v7 v8 N R)) ∧
  Hid ((start5 w a m c nm ln pr rs rg v5 v6 v7 v8 N R).rowIs (w.heap.size+1+1+1+1+1) 3 R (fun _=>.int .i64 0)):=by
 constructor
 ·exact {
   old:=by unfold start5;repeat (first | exact Below.refl _ _ | refine Below.alloc ?_ (by simp<;>omega) _)
   size:=by simp[start5]
   code:=by simp[start5,go_sem]
   res:=by
    have h:=World.rowIs_alloc (w.alloc (.cells #[.slice a m c] 31)) #[.int .i64 0,.int .i64 0,.int .i64 0] 27 (fun _=>.int .i64 0) (fun i hi=>by
     match i,hi with
     | 0,_=>rfl
     | 1,_=>rfl
     | 2,_=>rfl)
    exact row_at ((((h.alloc _).alloc _).alloc _).alloc _) (by simp)
   prot:=by unfold Prot start5;simp[go_sem]
   sts:=by
    have h:=rowIs_wideC (((w.alloc (.cells #[.slice a m c] 31)).alloc (.cells #[.int .i64 0,.int .i64 0,.int .i64 0] 27)).alloc (.cells #[.string nm,.int .i64 ln,.int .i64 pr,.bool rs,.int .i64 rg,v5,v6,v7,v8] 58)) #[.bool false,.slice none 0 0,.slice none 0 0] (N * 3) 66
    refine(row_at ((h.alloc _).alloc _) (by simp)).congr fun j hj=>?_
    have h3:j % 3=0∨j % 3=1∨j % 3=2:=by omega
    unfold stV
    rcases h3 with e | e | e<;>simp[e,sig0,nil2]
   due:=row_at ((World.rowIs_made _ _ _ _).alloc _) (by simp)
   own:=fun i s _ h=>by cases h
   none_:=fun i _ _=>rfl }
 ·exact row_at (World.rowIs_made _ _ _ _) (by simp)
theorem WkW.setNew {w:World}{bC bF bP bS bD bT:Nat}{a:Option Addr}{m c:Nat}{nm:ByteArray}{ln pr:Int}{rs:Bool}{rg:Int}{v5 v6 v7 v8:Value}{N:Nat}{R:Nat→Value×Value}{wr:World}(h:WkW w bC bF bP bS bD bT a m c nm ln pr rs rg v5 v6 v7 v8 N sig0 R wr)(hB:WkB w bC bF bP bS bD bT)(b o:Nat)(v:Value)(hb:bT≤b):WkW w bC bF bP bS bD bT a m c nm ln pr rs rg v5 v6 v7 v8 N sig0 R (wr.setCell ⟨b,o,none⟩ v):=by
 obtain⟨o1,o2,o3,o4,o5,o6⟩:=hB
 have hk:∀ k,k<bT→(wr.setCell ⟨b,o,none⟩ v).heap[k]? = wr.heap[k]?:=fun k hk=>heap_setCell_other wr ⟨b,o,none⟩ k _ (fun e=>by have e:k=b:=e;omega)
 exact {
  old:=h.old.setCell (by show w.heap.size≤b;omega) _
  size:=by have:=h.size;simpa using this
  code:=(World.cell?_of_block (a:=⟨bC,0,none⟩) (hk bC (by omega))).trans h.code
  res:=h.res.of_block (hk bF (by omega))
  prot:=prot_set h.prot (by omega)
  sts:=h.sts.of_block (hk bS (by omega))
  due:=h.due.of_block (hk bD (by omega))
  own:=fun i s _ hs=>by cases hs
  none_:=h.none_ }
theorem wk_ring {l:List ProtoD}{p k:Nat}{σ:Mst}{n:Nat}{w w':World}{v:Value}(hg:Goes l (prD l p) k σ)(hn:NoDue σ (prD l p).ins.length)(hq:n<(prD l p).ins.length)(hs:σ.st n≠none)(hr:Ring (ringsE (prD l p)) n)(ha:∀ b,b<n→σ.st b≠none→¬Ring (ringsE (prD l p)) b)(hb:Below w.heap.size w w') :
  WkPost l p w (.returned (.tuple #[v,.agg #[.int .i64 14,.int .i64 (p:Int),.int .i64 (n:Int)]])) w':=
 ⟨v,14,n,by rw[if_neg (by decide)],⟨k,σ,hg,.inr (.inl ⟨hn,rfl,hq,hs,hr,ha⟩)⟩,fun h=>absurd h (by decide),hb⟩
theorem wk_well {l:List ProtoD}{p k:Nat}{σ:Mst}{w w':World}{v:Value}(hg:Goes l (prD l p) k σ)(hn:NoDue σ (prD l p).ins.length)(ha:∀ b,b<(prD l p).ins.length→σ.st b≠none→¬Ring (ringsE (prD l p)) b)(hst:StatesAt l (prD l p) w.heap.size v w')(hb:Below w.heap.size w w') :
  WkPost l p w (.returned (.tuple #[v,.agg #[.int .i64 0,.int .i64 0,.int .i64 0]])) w':=
 ⟨v,0,0,by rw[if_pos rfl];rfl,⟨k,σ,hg,.inr (.inr ⟨hn,rfl,rfl,ha⟩)⟩,fun _=>hst,hb⟩
theorem first_get (x:ProtoD)(hr:0≤x.regs)(j:Nat)(hj:j<x.regs.toNat):(firstTy x)[j]?.getD 0=if(j:Int)<x.params then 1 else if x.rest=true∧(j:Int)=x.params then 3 else 0:=by
 unfold firstTy
 rw[List.getElem?_map,List.getElem?_range hj]
 rfl
theorem first_len (x:ProtoD):(firstTy x).length=x.regs.toNat:=by simp[firstTy]
end Go.Proofs.YtmjcpapdncfkpaaGreatDoor
