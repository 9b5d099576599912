import Derived.Test.YthmjjhfjkgaocaaGreatDoorPart32
import Derived.Deep.CutRange
import Derived.Deep.RegionHeld3
import Derived.Deep.RegionWith
import Derived.BigQuiet
set_option linter.unusedSimpArgs false
set_option linter.unusedVariables false
set_option maxHeartbeats 8000000
set_option maxRecDepth 1000000
namespace Go.Proofs.YthmjjhfjkgaocaaGreatDoor
open Go.RowKit
theorem wk36 (l:List ProtoD)(p:Nat)(S:Nat→Prop)(w:World)(bC bF bP bS bD bT:Nat)(a:Option Addr)(m c:Nat)(nm:ByteArray)(ln pr:Int)(rs:Bool)(rg:Int)(a5 a6 a7 a8:Option Addr)(n5 n6 ni n8 c5 c6 c7 c8:Nat)
  (HB:Hid (WkB w bC bF bP bS bD bT))(HK:Hid (WkOk l p))(HNI:Hid ((prD l p).ins.length=ni))(HM:Hid (l.length=m))(HPS:Hid (ProtosAt w S a l))(HBS:Hid (∀ b,S b→b<w.heap.size))(HI7:Hid (InssAt w S a7 (prD l p).ins))(hni:ni≤6000)
  (k3 k9 k10 k18 k20 k21 k22 k23 k24 k25 k26 k27 k28 k29 k30 k31 k32 k33 k34 k35 k36 k37 k38 k39 k40 k41 k42 k43 k44 k45 k46 k47 k48 k49 k50 k51 k52 k53 k54 k55 k56:Value)(u4 u12 u13 u15 u16 u19 u57 u58 u59 u60 u61 u62 u63 u64 u65 u66 u67 u68 u69 u70 u71 u72 u73 u74 u75 u76 u77 u78 u79 u80 u81 u82 u83 u84 u85 u86 u87 u88 u89 u90 u91 u92 u93 u94 u95 u96 u97 u98 u99 u100 u101 u102 u103 u104 u105 u106 u107 u108 u109 u110 u111 u112 u113 u114 u115 u116 u117 u118 u119 u120 u121 u122 u123 u124 u125 u126 u127 u128 u129 u130 u131 u132 u133 u134 u135 u136 u137 u138 u139 u140 u141 u142 u143 u144 u145 u146 u147 u148 u149 u150 u151 u152 u153 u154 u155 u156 u157 u158 u159 u160 u161 u162 u163 u164 u165 u166 u167 u168 u169 u170 u171 u172 u173 u174 u175 u176 u177 u178 u179 u180 u181 u182 u183 u184 u185 u186 u187 u188 u189 u190 u191 u192 u193 u194 u195 u196 u197 u198 u199 u200 u201 u202 u203 u204 u205 u206 u207 u208 u209:Value)(gk k:Nat)(σ:Mst)(wr:World)(HG:Hid (Goes l (prD l p) k σ))(HO:Hid (MOk (prD l p).regs.toNat ni σ))(HL:Hid (left ni σ=gk))
  (at_:Nat)(R:Nat→Value×Value)(s:StD)(r:RdS)(w1:World)(tv:Value)(op fa fb fc fd:Int)(hat:Hid (LeastDue σ ni at_))(hal:at_<ni)(HST:Hid (σ.st at_=some s))(HRD:Hid (readC l (inD (prD l p) at_) s.types=some r))(HIN:Hid (inD (prD l p) at_=⟨op,fa,fb,fc,fd⟩))(HW:Hid (WkW w bC bF bP bS bD bT a m c nm ln pr rs rg (.slice a5 n5 c5) (.slice a6 n6 c6) (.slice a7 ni c7) (.slice a8 n8 c8) ni ⟨σ.st,upd σ.due at_ false⟩ R w1))(HBW:Hid (Below w1.heap.size w1 wr))(hsz:w1.heap.size<wr.heap.size)(t:List Int)(HT:Hid (t=writeC ⟨op,fa,fb,fc,fd⟩ r.types))(HTY:Hid (OwnI wr (w1.heap.size+1) tv t))(g:List GuD)(gv:Value)(HCH:Hid (changeC (inD (prD l p) at_) s.guards=some g))(HGV:Hid (OwnG wr (w1.heap.size+1) gv g))(HKP:Hid (keptC ⟨op,fa,fb,fc,fd⟩ s.guards r.taken s.types (writeC ⟨op,fa,fb,fc,fd⟩ r.types)=true))
  (J:Nat→Act→World→Prop)(K:Act→World→Prop)
  (hJ:∀(k:Nat)(a':Act)(w':World),(∃ u4 u11 u12 u13 u14 u15 u16 u17 u19 u57 u58 u59 u60 u61 u62 u63 u64 u65 u66 u67 u68 u69 u70 u71 u72 u73 u74 u75 u76 u77 u78 u79 u80 u81 u82 u83 u84 u85 u86 u87 u88 u89 u90 u91 u92 u93 u94 u95 u96 u97 u98 u99 u100 u101 u102 u103 u104 u105 u106 u107 u108 u109 u110 u111 u112 u113 u114 u115 u116 u117 u118 u119 u120 u121 u122 u123 u124 u125 u126 u127 u128 u129 u130 u131 u132 u133 u134 u135 u136 u137 u138 u139 u140 u141 u142 u143 u144 u145 u146 u147 u148 u149 u150 u151 u152 u153 u154 u155 u156 u157 u158 u159 u160 u161 u162 u163 u164 u165 u166 u167 u168 u169 u170 u171 u172 u173 u174 u175 u176 u177 u178 u179 u180 u181 u182 u183 u184 u185 u186 u187 u188 u189 u190 u191 u192 u193 u194 u195 u196 u197 u198 u199 u200 u201 u202 u203 u204 u205 u206 u207 u208 u209:Value,WkRel l p w bC bF bP bS bD bT a m c nm ln pr rs rg a5 a6 a7 a8 n5 n6 ni n8 c5 c6 c7 c8 k w'∧a'=⟨List.toArray (.agg #[.slice a m c] :: .int .i64 (p:Int) :: .pointer (some ⟨bC,0,none⟩)::k3::u4 :: .pointer (some ⟨bF,0,none⟩) :: .pointer (some ⟨bP,0,none⟩) :: .slice (some ⟨bS,0,none⟩) ni ni :: .slice (some ⟨bD,0,none⟩) ni ni::k9::k10::u11::u12::u13::u14::u15::u16::u17::k18::u19::k20::k21::k22::k23::k24::k25::k26::k27::k28::k29::k30::k31::k32::k33::k34::k35::k36::k37::k38::k39::k40::k41::k42::k43::k44::k45::k46::k47::k48::k49::k50::k51::k52::k53::k54::k55::k56::u57::u58::u59::u60::u61::u62::u63::u64::u65::u66::u67::u68::u69::u70::u71::u72::u73::u74::u75::u76::u77::u78::u79::u80::u81::u82::u83::u84::u85::u86::u87::u88::u89::u90::u91::u92::u93::u94::u95::u96::u97::u98::u99::u100::u101::u102::u103::u104::u105::u106::u107::u108::u109::u110::u111::u112::u113::u114::u115::u116::u117::u118::u119::u120::u121::u122::u123::u124::u125::u126::u127::u128::u129::u130::u131::u132::u133::u134::u135::u136::u137::u138::u139::u140::u141::u142::u143::u144::u145::u146::u147::u148::u149::u150::u151::u152::u153::u154::u155::u156::u157::u158::u159::u160::u161::u162::u163::u164::u165::u166::u167::u168::u169::u170::u171::u172::u173::u174::u175::u176::u177::u178::u179::u180::u181::u182::u183::u184::u185::u186::u187::u188::u189::u190::u191::u192::u193::u194::u195::u196::u197::u198::u199::u200::u201::u202::u203::u204::u205::u206::u207::u208::u209::[]),[]⟩)→J k a' w')
  (hK:∀(a':Act)(w':World),Handed J gk a' w'→K a' w')(KK:Act→World→Prop)
  (hKK:∀(a':Act)(w':World),Code.wp Tryz.prog (cAt [1,1,1,1,1,1,1,1,1,0,0,0,1,1,1,1,1,1,1,1,1,1,1,1,1] (Tryz.f15.body.getD .skip)) (Exit.inBlock 3 (Exit.then K (Exit.inBlock 2 (bodyPost Tryz.prog Tryz.f15 (WkPost l p w))))) a' w'→KK a' w') :
  Code.wp Tryz.prog (cAt [1,1,1,1,1,1,1,1,1,0,0,0,1,1,1,1,1,1,1,1,1,1,1,1,0] (Tryz.f15.body.getD .skip)) (Exit.then KK (Exit.inBlock 3 (Exit.then K (Exit.inBlock 2 (bodyPost Tryz.prog Tryz.f15 (WkPost l p w)))))) ⟨List.toArray (.agg #[.slice a m c] :: .int .i64 (p:Int) :: .pointer (some ⟨bC,0,none⟩)::k3::u4 :: .pointer (some ⟨bF,0,none⟩) :: .pointer (some ⟨bP,0,none⟩) :: .slice (some ⟨bS,0,none⟩) ni ni :: .slice (some ⟨bD,0,none⟩) ni ni::k9::k10 :: .int .i64 (at_:Int)::u12::u13::tv::u15::u16::gv::k18::u19::k20::k21::k22::k23::k24::k25::k26::k27::k28::k29::k30::k31::k32::k33::k34::k35::k36::k37::k38::k39::k40::k41::k42::k43::k44::k45::k46::k47::k48::k49::k50::k51::k52::k53::k54::k55::k56::u57::u58::u59::u60::u61::u62::u63::u64::u65::u66::u67::u68::u69::u70::u71::u72::u73::u74::u75::u76::u77::u78::u79::u80::u81::u82::u83::u84::u85::u86::u87::u88::u89::u90::u91::u92::u93::u94::u95::u96::u97::u98::u99::u100::u101::u102::u103::u104::u105::u106::u107::u108::u109::u110::u111::u112::u113::u114::u115::u116::u117::u118::u119::u120::u121::u122::u123::u124::u125::u126::u127::u128::u129::u130::u131::u132::u133::u134::u135::u136::u137::u138::u139::u140::u141::u142::u143::u144::u145::u146::u147::u148::u149::u150::u151::u152::u153::u154::u155::u156::u157::u158::u159::u160::u161::u162::u163::u164::u165::u166::u167::u168::u169::u170::u171::u172::u173::u174::u175::u176::u177::u178::u179::u180::u181::u182::u183::u184::u185::u186::u187::u188::u189::u190::u191::u192::u193::u194::u195::u196::u197::u198::u199::u200::u201::u202::u203::u204::u205::u206::u207::u208::u209::[]),[]⟩ wr:=by
 conv=>arg 2;whnf
 conv at hKK=>enter [a1,w2,1,2];whnf
 have hW:=unhide HW
 have hal':at_<(prD l p).ins.length:=by have:=HNI.out;omega
 have hLD:Hid (LeastDue σ (prD l p).ins.length at_):=by show LeastDue _ _ _;rw[HNI.out];exact hat.out
 have hok:=(HO.out.st at_ s HST.out).2
 have hr0:=HK.out.regs
 have hsl:s.types.length≤250:=by have:=hok.types;omega
 have htl:t.length=s.types.length:=by rw[HT.out,writeC_len];exact readC_len HRD.out
 have hfitI:=shape_fit (HK.out.ins at_ hal') hal' hr0.1
 have hgo:=changeC_ok HCH.out hfitI hok.many hok.keep
 have HFOK:Hid (∀ x,x∈(followC ⟨op,fa,fb,fc,fd⟩ at_ ⟨s.types,s.guards⟩ t g)→x.1<ni∧StOk (prD l p).regs.toNat x.2):=by
  have h:=followC_ok (s:=s) (t:=t) hfitI hok (by rw[htl];exact hok.types) hgo
  rw[HIN.out,HNI.out]at h
  exact h
 have hWr:=hW.below (unhide HB) HBW.out
 obtain⟨o1,o2⟩:=hWr.own at_ s hal HST.out
 obtain⟨sa,sc,eS,iS⟩:=o1.ints (by omega)
 obtain⟨ga,gc,eG,iG⟩:=o2.gus (by have:=hok.many;omega)
 obtain⟨ta,tc,eT,iT⟩:=HTY.out.ints (by omega)
 obtain⟨ha,hc,eH,iH⟩:=HGV.out.gus (by have:=hgo.1;omega)
 have cr:=hWr.reached hal
 rw[show(Mst.mk σ.st (upd σ.due at_ false)).st at_=some s from HST.out]at cr
 change wr.cell? ⟨bS,at_ * 3,none⟩=some (.bool true)at cr
 have cs:=hWr.typesV hal
 have cg:=hWr.guardsV hal
 rw[eS]at cs
 rw[eG]at cg
 obtain⟨p0,p1,p2,p3,p4,p5,p6,p7,p8⟩:=hWr.prot
 obtain⟨ib,io,rfl,hib,hic⟩:=((unhide HI7).keep hWr.old (unhide HBS)).2 (by omega)
 have IC:InsCells wr ib (io+at_ * 5) (inD (prD l p) at_):=hic at_ hal'
 rw[HIN.out]at IC
 have hibs:ib<wr.heap.size:=Nat.lt_of_lt_of_le (unhide HBS ib hib) hWr.old.size
 have hff:=shape_fo (HK.out.ins at_ hal') hr0.1
 rw[HIN.out,←hok.types,←htl]at hff
 have FO:Hid (Calls Tryz.prog 37 #[.agg #[.string nm,.int .i64 ln,.int .i64 pr,.bool rs,.int .i64 rg,.slice a5 n5 c5,.slice a6 n6 c6,.slice (some ⟨ib,io,none⟩) ni c7,.slice a8 n8 c8],.int .i64 (at_:Int),.agg #[.bool true,.slice sa s.types.length sc,.slice ga s.guards.length gc],.slice ta t.length tc,.slice ha g.length hc] wr.drew (FoPost (followC ⟨op,fa,fb,fc,fd⟩ at_ ⟨s.types,s.guards⟩ t g) wr.drew)):=
  l6followers_any op fa fb fc fd at_ nm ln pr rs rg (.slice a5 n5 c5) (.slice a6 n6 c6) (.slice a8 n8 c8) ib io ni c7 true s.types t s.guards g sa ga ta ha sc gc tc hc (fun b=>b<wr.heap.size) wr.drew (fun b h=>h) hibs hal hni ⟨IC.op,IC.fa,IC.fb,IC.fc,IC.fd⟩ ((iS.mono (fun b h=>h.2)).same (w':=wr.drew) (fun _ _=>rfl)) ((iG.mono (fun b h=>h.2)).same (w':=wr.drew) (fun _ _=>rfl)) ((iT.mono (fun b h=>h.2)).same (w':=wr.drew) (fun _ _=>rfl)) ((iH.mono (fun b h=>h.2)).same (w':=wr.drew) (fun _ _=>rfl)) (by omega) hsl htl.symm hff
 have hbS:bS<wr.heap.size:=hWr.sts.lt
 have hbP:bP<wr.heap.size:=World.block_lt_of_cell? _ _ p0
 have HWr:=hide hWr
 have hatI:(at_:Int)<ni:=by omega
 have CL:Hid (∀ w',Below wr.heap.size wr.drew w'→w'.cell? ⟨bP,0,none⟩=some (.string nm)∧w'.cell? ⟨bP,1,none⟩=some (.int .i64 ln)∧w'.cell? ⟨bP,2,none⟩=some (.int .i64 pr)∧w'.cell? ⟨bP,3,none⟩=some (.bool rs)∧w'.cell? ⟨bP,4,none⟩=some (.int .i64 rg)∧w'.cell? ⟨bP,5,none⟩=some (.slice a5 n5 c5)∧w'.cell? ⟨bP,6,none⟩=some (.slice a6 n6 c6)∧w'.cell? ⟨bP,7,none⟩=some (.slice (some ⟨ib,io,none⟩) ni c7)∧w'.cell? ⟨bP,8,none⟩=some (.slice a8 n8 c8)∧w'.cell? ⟨bS,at_ * 3,none⟩=some (.bool true)∧w'.cell? ⟨bS,at_ * 3+1,none⟩=some (.slice sa s.types.length sc)∧w'.cell? ⟨bS,at_ * 3+2,none⟩=some (.slice ga s.guards.length gc)):=fun w' h=>by
  have e:∀ b o,b<wr.heap.size→w'.cell? ⟨b,o,none⟩=wr.cell? ⟨b,o,none⟩:=fun b o hb=>h.cell (p:=⟨b,o,none⟩) hb
  exact⟨(e _ _ hbP).trans p0,(e _ _ hbP).trans p1,(e _ _ hbP).trans p2,(e _ _ hbP).trans p3,(e _ _ hbP).trans p4,(e _ _ hbP).trans p5,(e _ _ hbP).trans p6,(e _ _ hbP).trans p7,(e _ _ hbP).trans p8,(e _ _ hbS).trans cr,(e _ _ hbS).trans cs,(e _ _ hbS).trans cg⟩
 clear hW hok hfitI hgo hWr o1 o2 eS iS eG iG iT iH hic IC hff hsl htl hr0
 subst eT
 subst eH
 go_region_held3 (fun w'=>w'.cell? ⟨bP,0,none⟩=some (.string nm)∧w'.cell? ⟨bP,1,none⟩=some (.int .i64 ln)∧w'.cell? ⟨bP,2,none⟩=some (.int .i64 pr)∧w'.cell? ⟨bP,3,none⟩=some (.bool rs)∧w'.cell? ⟨bP,4,none⟩=some (.int .i64 rg)∧w'.cell? ⟨bP,5,none⟩=some (.slice a5 n5 c5)∧w'.cell? ⟨bP,6,none⟩=some (.slice a6 n6 c6)∧w'.cell? ⟨bP,7,none⟩=some (.slice (some ⟨ib,io,none⟩) ni c7)∧w'.cell? ⟨bP,8,none⟩=some (.slice a8 n8 c8)∧w'.cell? ⟨bS,at_ * 3,none⟩=some (.bool true)∧w'.cell? ⟨bS,at_ * 3+1,none⟩=some (.slice sa s.types.length sc)∧w'.cell? ⟨bS,at_ * 3+2,none⟩=some (.slice ga s.guards.length gc)) (simp[go_sem, *])
  (first | (go_at_call 37;refine(unhide FO).mono ?_;rintro e w2 ⟨fv,L,rfl,hOF,hLL,hFI,hb2⟩;obtain⟨fva,fvc,hfv⟩:=hOF.lenV;subst hfv;have HLL:=hide hLL;clear hLL;obtain⟨q0,q1,q2,q3,q4,q5,q6,q7,q8,q9,q10,q11⟩:=unhide CL _ hb2))
 have hz2:=hb2.size
 change wr.heap.size≤w2.heap.size at hz2
 have hb2':Below wr.heap.size wr w2:=(Below.refl _ _).drew.trans hb2
 have hW2:=(unhide HWr).below (unhide HB) hb2'
 have hWB:=unhide HB
 have HFS:Hid (∀(j:Nat) x y,L[j]? = some x→(followC ⟨op,fa,fb,fc,fd⟩ at_ ⟨s.types,s.guards⟩ t g)[j]? = some y→FoS w2 (fun b=>(b<w2.heap.size∧b≠bS)∧b≠bD) x y):=fun j x y h1 h2=>by
  obtain⟨f1,f2,f3,f4,f5⟩:=hFI j x y h1 h2
  have ns:∀ j,j<ni * 3→∀ x:Int,stV ⟨σ.st,upd σ.due at_ false⟩ R j≠.int .i64 x:=fun j hj x=>stV_int (fun i hi=>(hW2.slices hi).1) (fun i hi=>(hW2.slices hi).2) j hj x
  have nd:∀ j,j<ni→∀ x:Int,Value.bool ((Mst.mk σ.st (upd σ.due at_ false)).due j)≠.int .i64 x:=fun j _ x h=>Value.noConfusion h
  exact⟨f1,f2,f3,ints_apart (ints_apart f4 hW2.sts ns) hW2.due nd,gus_apart (gus_apart f5 hW2.sts ns) hW2.due nd⟩
 obtain⟨bG,hbG⟩:∃ bG,bG=wr.heap.size:=⟨_,rfl⟩
 have HOF:Hid (OwnF w2 bG (.slice fva L.length fvc) L):=by rw[hbG];exact hOF
 have hbGT:Hid (bT≤bG):=by show bT≤bG;rw[hbG];exact(unhide HWr).size
 have hLn:L.length≤1000:=by
  rw[HLL.out]
  have:(followC ⟨op,fa,fb,fc,fd⟩ at_ ⟨s.types,s.guards⟩ t g).length≤2:=by
   unfold followC
   rw[List.length_append]
   have h1:∀(b:Bool) (x:Nat×StD),(if b then[x]else[]).length≤1:=fun b x=>by cases b<;>simp
   have h2:=h1 (goesC ⟨op,fa,fb,fc,fd⟩) (at_+1,⟨t,g⟩)
   have h3:∀ X:List (Nat×StD),X.length≤1→(if goesC ⟨op,fa,fb,fc,fd⟩then[(at_+1,(⟨t,g⟩:StD))]else[]).length+X.length≤2:=fun X hX=>by omega
   refine h3 _ ?_
   repeat' split
   all_goals simp
  omega
 have HW2:=hide hW2
 have hRefl:Hid (Same (fun b=>(b<w2.heap.size∧b≠bS)∧b≠bD) w2 w2):=Same.refl
 have ALL:Hid (∀ σj,allM (followC ⟨op,fa,fb,fc,fd⟩ at_ ⟨s.types,s.guards⟩ t g) ⟨σ.st,upd σ.due at_ false⟩=.inr σj→Goes l (prD l p) (k+1) σj∧MOk (prD l p).regs.toNat ni σj∧left ni σj<gk):=fun σj hj=>by
  have hst:stepM l (prD l p) σ at_=.inr σj:=by
   rw[step_go HST.out HRD.out HCH.out,HIN.out,if_pos HKP.out,←HT.out]
   change (match allM (followC ⟨op,fa,fb,fc,fd⟩ at_ ⟨s.types,s.guards⟩ t g) ⟨σ.st,upd σ.due at_ false⟩with | .inl y=>(Sum.inl (13,y):(Int×Nat) ⊕ Mst) | .inr σ'=>.inr σ')=_
   rw[hj]
  have hO':=HO.out
  rw[←HNI.out]at hO'
  obtain⟨h1,h2⟩:=stepM_ok (shape_fit (HK.out.ins at_ hal') hal' HK.out.regs.1) hO' hLD.out hst
  rw[HNI.out]at h1 h2
  exact⟨⟨σ,at_,HG.out,hLD.out,hst⟩,h1,by rw[←HL.out];exact h2⟩
 have BAD:Hid (∀ n,allM (followC ⟨op,fa,fb,fc,fd⟩ at_ ⟨s.types,s.guards⟩ t g) ⟨σ.st,upd σ.due at_ false⟩=.inl n→stepM l (prD l p) σ at_=.inl (13,n)):=fun n hj=>by
  rw[step_go HST.out HRD.out HCH.out,HIN.out,if_pos HKP.out,←HT.out]
  change (match allM (followC ⟨op,fa,fb,fc,fd⟩ at_ ⟨s.types,s.guards⟩ t g) ⟨σ.st,upd σ.due at_ false⟩with | .inl y=>(Sum.inl (13,y):(Int×Nat) ⊕ Mst) | .inr σ'=>.inr σ')=_
  rw[hj]
 clear hb2 hb2' hW2 hWB hFI hOF q0 q1 q2 q3 q4 q5 q6 q7 q8 q9 q10 q11 p0 p1 p2 p3 p4 p5 p6 p7 p8 cr cs cg CL FO HWr hbS hbP hbG hibs hib hz2 HBW HTY HGV HCH HT HKP HIN HW HRD
 generalize (followC ⟨op,fa,fb,fc,fd⟩ at_ ⟨s.types,s.guards⟩ t g)=F at *
 go_wp2_with fail
 go_loopg [168] L.length (fun gg i wr'=>∃(j:Nat) (σj:Mst) (Rj:Nat→Value×Value),j+gg=L.length∧i=.int .i64 j∧WkW w bC bF bP bS bD bT a m c nm ln pr rs rg (.slice a5 n5 c5) (.slice a6 n6 c6) (.slice (some ⟨ib,io,none⟩) ni c7) (.slice a8 n8 c8) ni σj Rj wr'∧Hid (allM (F.take j) ⟨σ.st,upd σ.due at_ false⟩=.inr σj)∧Hid (Same (fun b=>(b<w2.heap.size∧b≠bS)∧b≠bD) w2 wr')∧Hid (OwnF wr' bG (.slice fva L.length fvc) L)∧Hid (w2.heap.size≤wr'.heap.size))
 case atStart=>exact⟨0,_,R,by omega,rfl,unhide HW2,rfl,hRefl,HOF,Nat.le_refl _⟩
 case round=>
  clear HW2 hRefl HOF
  obtain⟨j,σj,Rj,hj,rfl,hWj,hAll,hSame,hOFj,hGrow⟩:=hrel
  by_cases hjl:j<L.length
  ·obtain⟨x,hx⟩:∃ x,L[j]? = some x:=⟨_,List.getElem?_eq_getElem hjl⟩
   obtain⟨y,hy⟩:∃ y,F[j]? = some y:=⟨_,List.getElem?_eq_getElem (by rw[←HLL.out];exact hjl)⟩
   obtain⟨f1,f2,f3,f4,f5⟩:=unhide HFS j x y hx hy
   obtain⟨hy1,hyok⟩:=unhide HFOK y (List.mem_of_getElem? hy)
   obtain⟨fg,fcap,efv,hfg1,hfg2,hfc⟩:=hOFj.out.at (by omega)
   injection efv with efa _ efc
   subst efa
   have d:=hfc j hjl
   rw[show L[j]?.getD FoR.z=x by rw[hx];rfl]at d
   have d0:wr.cell? ⟨fg,j * 4,none⟩=some (.int .i64 (y.1:Int)):=by have:=d 0 (by omega);rw[Nat.add_zero]at this;rw[this];show some (Value.int .i64 x.at_)=_;rw[f1]
   have d1:wr.cell? ⟨fg,j * 4+1,none⟩=some (.bool true):=d 1 (by omega)
   have d2:wr.cell? ⟨fg,j * 4+2,none⟩=some (.slice x.a y.2.types.length x.c):=by have:=d 2 (by omega);rw[this];show some (Value.slice x.a x.n x.c)=_;rw[f2]
   have d3:wr.cell? ⟨fg,j * 4+3,none⟩=some (.slice x.a2 y.2.guards.length x.c2):=by have:=d 3 (by omega);rw[this];show some (Value.slice x.a2 x.n2 x.c2)=_;rw[f3]
   have HI4:=hide (f4.same hSame.out)
   have HG5:=hide (f5.same hSame.out)
   have HWj:=hide hWj
   have HY:=hide hy
   obtain⟨yn,ys⟩:=y
   obtain⟨xat,xa,xn,xc,xa2,xn2,xc2⟩:=x
   dsimp only at *
   have hrc:=hWj.reached hy1
   have hbS:bS<wr.heap.size:=hWj.sts.lt
   have hyI:(yn:Int)<ni:=by omega
   clear hfc d efc f1 f2 f3 f4 f5 hx hy hWj
   have hlen1:ys.types.length≤250:=by have:=hyok.types;have:=HK.out.regs;omega
   have hlen2:=hyok.many
   have hbX:Below wr.heap.size wr (wr.alloc (.cells #[.int .i64 (yn:Int),.bool true,.slice xa ys.types.length xc,.slice xa2 ys.guards.length xc2] 89)):=(Below.refl _ _).alloc (Nat.le_refl _) _
   have x0:(wr.alloc (.cells #[.int .i64 (yn:Int),.bool true,.slice xa ys.types.length xc,.slice xa2 ys.guards.length xc2] 89)).cell? ⟨wr.heap.size,0,none⟩=some (.int .i64 (yn:Int)):=by simp[go_sem]
   have x1:(wr.alloc (.cells #[.int .i64 (yn:Int),.bool true,.slice xa ys.types.length xc,.slice xa2 ys.guards.length xc2] 89)).cell? ⟨wr.heap.size,1,none⟩=some (.bool true):=by simp[go_sem]
   have x2:(wr.alloc (.cells #[.int .i64 (yn:Int),.bool true,.slice xa ys.types.length xc,.slice xa2 ys.guards.length xc2] 89)).cell? ⟨wr.heap.size,2,none⟩=some (.slice xa ys.types.length xc):=by simp[go_sem]
   have x3:(wr.alloc (.cells #[.int .i64 (yn:Int),.bool true,.slice xa ys.types.length xc,.slice xa2 ys.guards.length xc2] 89)).cell? ⟨wr.heap.size,3,none⟩=some (.slice xa2 ys.guards.length xc2):=by simp[go_sem]
   have xz:(wr.alloc (.cells #[.int .i64 (yn:Int),.bool true,.slice xa ys.types.length xc,.slice xa2 ys.guards.length xc2] 89)).heap.size=wr.heap.size+1:=by simp
   have HX0:=hide x0
   have HX1:=hide x1
   have HX2:=hide x2
   have HX3:=hide x3
   have HXZ:=hide xz
   have HBX:=hide hbX
   clear x0 x1 x2 x3 xz hbX
   cases hst:σj.st yn with
   | none=>
    rw[hst]at hrc
    change wr.cell? ⟨bS,yn * 3,none⟩=some (.bool false)at hrc
    have HNX:Hid (allM (F.take (j+1)) ⟨σ.st,upd σ.due at_ false⟩=.inr ⟨upd σj.st yn (some ys),upd σj.due yn true⟩):=allM_step HY.out hAll.out (oneM_new (y:=(yn,ys)) hst)
    have hnil:=(unhide HWj).none_ yn hy1 hst
    clear hst
    go_upto_region 40 with fail
    generalize wr.alloc (.cells #[.int .i64 (yn:Int),.bool true,.slice xa ys.types.length xc,.slice xa2 ys.guards.length xc2] 89)=wA at *
    have hWA:=(unhide HWj).below (unhide HB) HBX.out
    have s0:wA.cell? ⟨bS,yn * 3,none⟩=some (.bool false):=(HBX.out.cell (p:=⟨bS,yn * 3,none⟩) hbS).trans hrc
    have s1:=hWA.typesV hy1
    have s2:=hWA.guardsV hy1
    rw[hnil]at s1 s2
    change wA.cell? ⟨bS,yn * 3+1,none⟩=some (.slice none 0 0)at s1
    change wA.cell? ⟨bS,yn * 3+2,none⟩=some (.slice none 0 0)at s2
    have z0:=hWA.sts.frozen (yn * 3);have z1:=hWA.sts.frozen (yn * 3+1);have z2:=hWA.sts.frozen (yn * 3+2)
    have hbSA:bS<wA.heap.size:=hWA.sts.lt
    have hXA:wr.heap.size<wA.heap.size:=by have:=HXZ.out;omega
    have x0:=HX0.out;have x2:=HX2.out;have x3:=HX3.out
    have HWA:=hide hWA
    have C1:Hid (Calls Tryz.prog 32 #[.slice xa ys.types.length xc] wA.drew fun e w'=>∃ v,e=.returned v∧OwnI w' wA.heap.size v ys.types∧Below wA.heap.size wA.drew w'):=
     l6copy_any xa ys.types xc (fun b=>(b<w2.heap.size∧b≠bS)∧b≠bD) wA.drew ((unhide HI4).same (w':=wA.drew) (fun b hb=>HBX.out.block b (by have:=hb.1.1;have:=hGrow.out;omega))) (fun b hb=>by have:=hb.1.1;have:=hGrow.out;show b<wA.heap.size;omega) (by omega)
    have C2:Hid (∀ w3,Below wA.heap.size wA.drew w3→Calls Tryz.prog 38 #[.slice xa2 ys.guards.length xc2] w3 fun e w'=>∃ v,e=.returned v∧OwnG w' w3.heap.size v ys.guards∧Below w3.heap.size w3 w'):=fun w3 h3=>
     l6guards_any xa2 ys.guards xc2 (fun b=>(b<w2.heap.size∧b≠bS)∧b≠bD) w3 ((unhide HG5).same (w':=w3) (fun b hb=>by
      have hb1:b<wA.heap.size:=by have:=hb.1.1;have:=hGrow.out;omega
      rw[h3.block b hb1]
      exact HBX.out.block b (by have:=hb.1.1;have:=hGrow.out;omega))) (fun b hb=>by have:=hb.1.1;have:=hGrow.out;have:wA.heap.size≤w3.heap.size:=h3.size;omega) (by omega)
    have CL:Hid (∀ w',Below wA.heap.size wA.drew w'→w'.cell? ⟨wr.heap.size,0,none⟩=some (.int .i64 (yn:Int))∧w'.cell? ⟨wr.heap.size,2,none⟩=some (.slice xa ys.types.length xc)∧w'.cell? ⟨wr.heap.size,3,none⟩=some (.slice xa2 ys.guards.length xc2)∧w'.cell? ⟨bS,yn * 3,none⟩=some (.bool false)∧w'.cell? ⟨bS,yn * 3+1,none⟩=some (.slice none 0 0)∧w'.cell? ⟨bS,yn * 3+2,none⟩=some (.slice none 0 0)∧w'.frozen? ⟨bS,yn * 3,none⟩=false∧w'.frozen? ⟨bS,yn * 3+1,none⟩=false∧w'.frozen? ⟨bS,yn * 3+2,none⟩=false):=fun w' h=>by
     have e:∀ b o,b<wA.heap.size→w'.cell? ⟨b,o,none⟩=wA.cell? ⟨b,o,none⟩:=fun b o hb=>h.cell (p:=⟨b,o,none⟩) hb
     have f:∀ b o,b<wA.heap.size→w'.frozen? ⟨b,o,none⟩=wA.frozen? ⟨b,o,none⟩:=fun b o hb=>h.frozen (p:=⟨b,o,none⟩) hb
     exact⟨(e _ _ hXA).trans x0,(e _ _ hXA).trans x2,(e _ _ hXA).trans x3,(e _ _ hbSA).trans s0,(e _ _ hbSA).trans s1,(e _ _ hbSA).trans s2,(f _ _ hbSA).trans z0,(f _ _ hbSA).trans z1,(f _ _ hbSA).trans z2⟩
    clear hWA hnil hrc d0 d1 d2 d3 hfg2
    have hne1:¬(wr.heap.size=bS):=by omega
    have hne2:¬(bS=wr.heap.size):=by omega
    clear hbS
    go_region_held3 (fun w'=>w'.cell? ⟨wr.heap.size,0,none⟩=some (.int .i64 (yn:Int))∧w'.cell? ⟨wr.heap.size,2,none⟩=some (.slice xa ys.types.length xc)∧w'.cell? ⟨wr.heap.size,3,none⟩=some (.slice xa2 ys.guards.length xc2)) (simp[go_sem, *])
     (first
      | (go_at_call 32;refine(unhide C1).mono ?_;rintro e w3 ⟨tv2,rfl,hO3,hb3⟩;obtain⟨tva,tvc,htv⟩:=hO3.lenV;subst htv;obtain⟨q0,q1,q2,q3,q4,q5,q6,q7,q8⟩:=unhide CL _ hb3)
      | (go_at_call 38;refine(unhide C2 _ hb3).mono ?_;rintro e w4 ⟨gv2,rfl,hO4,hb4⟩;obtain⟨gva,gvc,hgv⟩:=hO4.lenV;subst hgv;obtain⟨t0,t1,t2,t3,t4,t5,t6,t7,t8⟩:=unhide CL _ (hb3.trans (hb4.mono hb3.size))))
    have hb34:=hb3.trans (hb4.mono hb3.size)
    have hbA4:Below wA.heap.size wA w4:=(Below.refl _ _).drew.trans hb34
    have hW4:=(unhide HWA).below (unhide HB) hbA4
    have hz4:wA.heap.size≤w4.heap.size:=hb34.size
    have hz3:wA.heap.size≤w3.heap.size:=hb3.size
    have hTA:bT≤wA.heap.size:=(unhide HWA).size
    have o3:OwnI w4 bT (.slice tva ys.types.length tvc) ys.types:=(hO3.below hb4).base_le hTA
    have o4:OwnG w4 bT (.slice gva ys.guards.length gvc) ys.guards:=hO4.base_le (by omega)
    have HW5:=hide (hW4.setSt (unhide HB) yn ys _ _ o3 o4)
    have hSD:bS<bG:=by obtain⟨_,_,_,_,_,_⟩:=unhide HB;have:=hbGT.out;omega
    have HS5:Hid (Same (fun b=>(b<w2.heap.size∧b≠bS)∧b≠bD) w2 (((w4.setCell ⟨bS,yn * 3,none⟩ (.bool true)).setCell ⟨bS,yn * 3+1,none⟩ (.slice tva ys.types.length tvc)).setCell ⟨bS,yn * 3+2,none⟩ (.slice gva ys.guards.length gvc))):=
     ((((hSame.out.trans (.of_below HBX.out (fun b h=>Nat.lt_of_lt_of_le h.1.1 hGrow.out))).trans (.of_below hbA4 (fun b h=>by have:=h.1.1;have:=hGrow.out;omega))).setCell (a:=⟨bS,yn * 3,none⟩) (fun h=>h.1.2 rfl) _).setCell (a:=⟨bS,yn * 3+1,none⟩) (fun h=>h.1.2 rfl) _).setCell (a:=⟨bS,yn * 3+2,none⟩) (fun h=>h.1.2 rfl) _
    have HOF5:Hid (OwnF (((w4.setCell ⟨bS,yn * 3,none⟩ (.bool true)).setCell ⟨bS,yn * 3+1,none⟩ (.slice tva ys.types.length tvc)).setCell ⟨bS,yn * 3+2,none⟩ (.slice gva ys.guards.length gvc)) bG (.slice (some ⟨fg,0,none⟩) L.length fvc) L):=((((hOFj.out.below HBX.out).below hbA4).setOther hSD).setOther hSD).setOther hSD
    have HGR5:Hid (w2.heap.size≤(((w4.setCell ⟨bS,yn * 3,none⟩ (.bool true)).setCell ⟨bS,yn * 3+1,none⟩ (.slice tva ys.types.length tvc)).setCell ⟨bS,yn * 3+2,none⟩ (.slice gva ys.guards.length gvc)).heap.size):=by show _≤_;have:=hGrow.out;simp;omega
    have t0':(((w4.setCell ⟨bS,yn * 3,none⟩ (.bool true)).setCell ⟨bS,yn * 3+1,none⟩ (.slice tva ys.types.length tvc)).setCell ⟨bS,yn * 3+2,none⟩ (.slice gva ys.guards.length gvc)).cell? ⟨wr.heap.size,0,none⟩=some (.int .i64 (yn:Int)):=by
     rw[World.cell?_setCell_other (h:=by intro e;injection e;omega),World.cell?_setCell_other (h:=by intro e;injection e;omega),World.cell?_setCell_other (h:=by intro e;injection e;omega)];exact t0
    have hXl:wr.heap.size<(((w4.setCell ⟨bS,yn * 3,none⟩ (.bool true)).setCell ⟨bS,yn * 3+1,none⟩ (.slice tva ys.types.length tvc)).setCell ⟨bS,yn * 3+2,none⟩ (.slice gva ys.guards.length gvc)).heap.size:=by simp;omega
    clear hb34 hbA4 hW4 hz4 hz3 hTA o3 o4 hSD q0 q1 q2 q3 q4 q5 q6 q7 q8 t0 t1 t2 t3 t4 t5 t6 t7 t8 hO3 hO4 hb3 hb4 CL C1 C2 x0 x2 x3 s0 s1 s2 z0 z1 z2 hne1 hne2 hXA hbSA
    generalize ((w4.setCell ⟨bS,yn * 3,none⟩ (.bool true)).setCell ⟨bS,yn * 3+1,none⟩ (.slice tva ys.types.length tvc)).setCell ⟨bS,yn * 3+2,none⟩ (.slice gva ys.guards.length gvc)=w5 at *
    have e0:=(unhide HW5).due.cell hy1
    have ez:=(unhide HW5).due.frozen yn
    have el:=(unhide HW5).due.lt
    have HW6:=hide ((unhide HW5).setDue (unhide HB) yn true)
    have HS6:Hid (Same (fun b=>(b<w2.heap.size∧b≠bS)∧b≠bD) w2 (w5.setCell ⟨bD,yn,none⟩ (.bool true))):=HS5.out.setCell (a:=⟨bD,yn,none⟩) (fun h=>h.2 rfl) _
    have HOF6:Hid (OwnF (w5.setCell ⟨bD,yn,none⟩ (.bool true)) bG (.slice (some ⟨fg,0,none⟩) L.length fvc) L):=HOF5.out.setOther (by obtain⟨_,_,_,_,_,_⟩:=unhide HB;have:=hbGT.out;omega)
    have HGR6:Hid (w2.heap.size≤(w5.setCell ⟨bD,yn,none⟩ (.bool true)).heap.size):=by show _≤_;have:=HGR5.out;simpa using this
    go_wp2_with fail
    go_roundg (L.length-(j+1))
    case measure=>omega
    case rel=>exact⟨j+1,_,_,by omega,by go_num,unhide HW6,HNX,HS6,HOF6,HGR6⟩
   | some s'=>
    rw[hst]at hrc
    change wr.cell? ⟨bS,yn * 3,none⟩=some (.bool true)at hrc
    have hOj:=(allM_ok (fun x hx=>unhide HFOK x (List.mem_of_mem_take hx)) HO.out.off hAll.out).1
    have hok':=(hOj.st yn s' hst).2
    have hl1:s'.types.length≤250:=by have:=hok'.types;have:=HK.out.regs;omega
    have hl2:=hok'.many
    obtain⟨o1,o2⟩:=(unhide HWj).own yn s' hy1 hst
    obtain⟨sa',sc',eS',iS'⟩:=o1.ints (by omega)
    obtain⟨ga',gc',eG',iG'⟩:=o2.gus (by omega)
    have HIS:=hide iS'
    have HIG:=hide iG'
    have HSTJ:=hide hst
    have hES:=hide eS'
    have hEG:=hide eG'
    clear hOj hok' o1 o2 eS' iS' eG' iG' hst
    go_upto_region 42 with fail
    generalize wr.alloc (.cells #[.int .i64 (yn:Int),.bool true,.slice xa ys.types.length xc,.slice xa2 ys.guards.length xc2] 89)=wA at *
    have hWA:=(unhide HWj).below (unhide HB) HBX.out
    have s0:wA.cell? ⟨bS,yn * 3,none⟩=some (.bool true):=(HBX.out.cell (p:=⟨bS,yn * 3,none⟩) hbS).trans hrc
    have s1:=hWA.typesV hy1
    have s2:=hWA.guardsV hy1
    rw[hES.out]at s1
    rw[hEG.out]at s2
    have hbSA:bS<wA.heap.size:=hWA.sts.lt
    have hXA:wr.heap.size<wA.heap.size:=by have:=HXZ.out;omega
    have x0:=HX0.out;have x1:=HX1.out;have x2:=HX2.out;have x3:=HX3.out
    have HWA:=hide hWA
    have SA:Hid (Calls Tryz.prog 39 #[.agg #[.bool true,.slice sa' s'.types.length sc',.slice ga' s'.guards.length gc'],.agg #[.bool true,.slice xa ys.types.length xc,.slice xa2 ys.guards.length xc2]] wA.drew (SamePost s'.types ys.types s'.guards ys.guards wA.drew)):=
     l6same_any true true s'.types ys.types s'.guards ys.guards sa' ga' xa xa2 sc' gc' xc xc2 (fun b=>b<wA.heap.size) wA.drew
      (((unhide HIS).same (w':=wA.drew) (fun b hb=>HBX.out.block b hb.2)).mono (fun b hb=>by have:=hb.2;omega)) (((unhide HIG).same (w':=wA.drew) (fun b hb=>HBX.out.block b hb.2)).mono (fun b hb=>by have:=hb.2;omega))
      (((unhide HI4).same (w':=wA.drew) (fun b hb=>HBX.out.block b (by have:=hb.1.1;have:=hGrow.out;omega))).mono (fun b hb=>by have:=hb.1.1;have:=hGrow.out;omega))
      (((unhide HG5).same (w':=wA.drew) (fun b hb=>HBX.out.block b (by have:=hb.1.1;have:=hGrow.out;omega))).mono (fun b hb=>by have:=hb.1.1;have:=hGrow.out;omega)) (fun b h=>h)
    have CL:Hid (∀ w',Below wA.heap.size wA.drew w'→w'.cell? ⟨wr.heap.size,0,none⟩=some (.int .i64 (yn:Int))∧w'.cell? ⟨wr.heap.size,1,none⟩=some (.bool true)∧w'.cell? ⟨wr.heap.size,2,none⟩=some (.slice xa ys.types.length xc)∧w'.cell? ⟨wr.heap.size,3,none⟩=some (.slice xa2 ys.guards.length xc2)∧w'.cell? ⟨bS,yn * 3,none⟩=some (.bool true)∧w'.cell? ⟨bS,yn * 3+1,none⟩=some (.slice sa' s'.types.length sc')∧w'.cell? ⟨bS,yn * 3+2,none⟩=some (.slice ga' s'.guards.length gc')):=fun w' h=>by
     have e:∀ b o,b<wA.heap.size→w'.cell? ⟨b,o,none⟩=wA.cell? ⟨b,o,none⟩:=fun b o hb=>h.cell (p:=⟨b,o,none⟩) hb
     exact⟨(e _ _ hXA).trans x0,(e _ _ hXA).trans x1,(e _ _ hXA).trans x2,(e _ _ hXA).trans x3,(e _ _ hbSA).trans s0,(e _ _ hbSA).trans s1,(e _ _ hbSA).trans s2⟩
    clear hWA hrc d0 d1 d2 d3 hfg2 hbS
    go_region_held3 (fun w'=>w'.cell? ⟨wr.heap.size,0,none⟩=some (.int .i64 (yn:Int))∧w'.cell? ⟨wr.heap.size,1,none⟩=some (.bool true)∧w'.cell? ⟨wr.heap.size,2,none⟩=some (.slice xa ys.types.length xc)∧w'.cell? ⟨wr.heap.size,3,none⟩=some (.slice xa2 ys.guards.length xc2)∧w'.cell? ⟨bS,yn * 3,none⟩=some (.bool true)∧w'.cell? ⟨bS,yn * 3+1,none⟩=some (.slice sa' s'.types.length sc')∧w'.cell? ⟨bS,yn * 3+2,none⟩=some (.slice ga' s'.guards.length gc')) (simp[go_sem, *])
     (first | (go_at_call 39;refine(unhide SA).mono ?_;rintro e w3 ⟨ok,rfl,hiff,hb3⟩;obtain⟨q0,q1,q2,q3,q4,q5,q6⟩:=unhide CL _ hb3))
    have hbA3:Below wA.heap.size wA w3:=(Below.refl _ _).drew.trans hb3
    have hz3:wA.heap.size≤w3.heap.size:=hb3.size
    have HW3:=hide ((unhide HWA).below (unhide HB) hbA3)
    have hXl:wr.heap.size<w3.heap.size:=by omega
    cases ok
    ·have SAY:Hid (stepM l (prD l p) σ at_=.inl (13,yn)):=BAD.out yn (allM_stop HY.out hAll.out (oneM_else (y:=(yn,ys)) HSTJ.out (fun h=>Bool.noConfusion (hiff.2 h))))
     clear hiff hbA3 q1 q2 q3 q4 q5 q6 s0 s1 s2 x0 x1 x2 x3 CL SA hb3 hz3 hXA hbSA
     have hrs:=(unhide HW3).res
     have r0:=hrs.cell (i:=0) (by omega);have r1:=hrs.cell (i:=1) (by omega);have r2:=hrs.cell (i:=2) (by omega)
     have z0:=hrs.frozen 0;have z1:=hrs.frozen 1;have z2:=hrs.frozen 2
     have hbF:=hrs.lt
     clear hrs
     go_wp2_with fail
     refine(l6fault_any _ _ _ _).mono ?_
     rintro e wf ⟨rfl,hbf⟩
     have hrs:=((unhide HW3).below (unhide HB) hbf).res
     have BB:Hid (∀ v0 v1 v2,Below w.heap.size w (((wf.setCell ⟨bF,0,none⟩ v0).setCell ⟨bF,1,none⟩ v1).setCell ⟨bF,2,none⟩ v2)):=fun v0 v1 v2=>set3_old ((unhide HW3).old.trans (hbf.mono (unhide HW3).old.size)) (by obtain⟨_,_,_,_,_,_⟩:=unhide HB;omega) v0 v1 v2
     clear r0 r1 r2 z0 z1 z2 hbF
     have r0:=hrs.cell (i:=0) (by omega);have r1:=hrs.cell (i:=1) (by omega);have r2:=hrs.cell (i:=2) (by omega)
     have z0:=hrs.frozen 0;have z1:=hrs.frozen 1;have z2:=hrs.frozen 2
     have hbF:=hrs.lt
     clear hrs hbf
     go_wp2_with fail
     refine bodyPost_ret (v:=.tuple #[.slice none 0 0,.agg #[.int .i64 13,.int .i64 (p:Int),.int .i64 (yn:Int)]]) (by simp[results,Tryz.results15,go_sem,r0,r1,r2]) rfl ?_
     exact wk_fault HG.out hLD.out SAY.out (by decide) (BB.out _ _ _)
    ·have HNX:Hid (allM (F.take (j+1)) ⟨σ.st,upd σ.due at_ false⟩=.inr σj):=allM_step HY.out hAll.out (oneM_same (y:=(yn,ys)) HSTJ.out (hiff.1 rfl))
     have HS3:Hid (Same (fun b=>(b<w2.heap.size∧b≠bS)∧b≠bD) w2 w3):=(hSame.out.trans (.of_below HBX.out (fun b h=>Nat.lt_of_lt_of_le h.1.1 hGrow.out))).trans (.of_below hbA3 (fun b h=>by have:=h.1.1;have:=hGrow.out;omega))
     have HOF3:Hid (OwnF w3 bG (.slice (some ⟨fg,0,none⟩) L.length fvc) L):=(hOFj.out.below HBX.out).below hbA3
     have HGR3:Hid (w2.heap.size≤w3.heap.size):=by show _≤_;have:=hGrow.out;omega
     clear hiff hbA3 q0 q1 q2 q3 q4 q5 q6 s0 s1 s2 x0 x1 x2 x3 CL SA hb3 hz3 hXA hbSA
     go_wp2_with fail
     go_roundg (L.length-(j+1))
     case measure=>omega
     case rel=>exact⟨j+1,_,_,by omega,by go_num,unhide HW3,HNX,HS3,HOF3,HGR3⟩
  ·have hjL:j=F.length:=by rw[←HLL.out];omega
   have hA:allM F ⟨σ.st,upd σ.due at_ false⟩=.inr σj:=by have:=hAll.out;rw[hjL,List.take_length]at this;exact this
   obtain⟨g1,g2,g3⟩:=unhide ALL σj hA
   have HG1:=hide g1
   have HO1:=hide g2
   have HM1:=hide g3
   have HWj:=hide hWj
   have hge:¬((j:Int)<(L.length:Int)):=by omega
   clear g1 g2 g3 hA hjL hWj hAll hSame hOFj hGrow ALL BAD HFS
   go_wp2_with fail
   go_roundg (left ni σj)
   case measure=>exact HM1.out
   case rel=>exact⟨k+1,σj,Rj,unhide HWj,HG1,HO1,rfl⟩
end Go.Proofs.YthmjjhfjkgaocaaGreatDoor
