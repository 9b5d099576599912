import Derived.Test.YthmjjhfjkgaocaaGreatDoorPart43
import Derived.Test.YthmjjhfjkgaocaaGreatDoorPart49
import Derived.BigRegion
import Derived.Test.YthmjjhfjkgaocaaGreatDoorPart44
import Derived.Test.YthmjjhfjkgaocaaGreatDoorPart22
set_option linter.unusedSimpArgs false
set_option linter.unusedVariables false
set_option maxHeartbeats 8000000
set_option maxRecDepth 1000000
namespace Go.Proofs.YthmjjhfjkgaocaaGreatDoor
open Go.RowKit
def hvV (ca:Option Addr)(m cc p:Nat)(nm:ByteArray)(ln pr:Int)(rs:Bool)(rg:Int)(v5 v6 v7 v8:Value)(j:Nat):Value:=[Value.slice ca m cc,.int .i64 (p:Int),.string nm,.int .i64 ln,.int .i64 pr,.bool rs,.int .i64 rg,v5,v6,v7,v8][j]?.getD (.bool false)
def NvPost (ca:Option Addr)(m cc p:Nat)(nm:ByteArray)(ln pr:Int)(rs:Bool)(rg:Int)(v5 v6 v7 v8:Value)(N:Nat)(w:World)(e:Ending)(w':World):Prop:=
 ∃ bV bS,e=.returned (.pointer (some ⟨bV,0,none⟩))∧VfB w bV bS w'.heap.size∧VfW w bV bS w'.heap.size (hvV ca m cc p nm ln pr rs rg v5 v6 v7 v8) N sig0 (fun _=>nil2) (.slice none 0 0) [] w'∧Below w.heap.size w w'
theorem st_made {w2:World}{b N:Nat}(h:w2.heap[b]? = some (.cells (madeCells #[.bool false,.slice none 0 0,.slice none 0 0] (N * 3)) 62 (0,0))):w2.rowIs b 62 (N * 3) (stV sig0 (fun _=>nil2)):=by
 refine⟨_,h,size_madeCells _ _,fun j hj=>?_⟩
 have e:j % 3=0∨j % 3=1∨j % 3=2:=by omega
 unfold stV
 rcases e with e | e | e<;>simp[madeCells,hj,e,sig0,nil2]
theorem vf_new {w w2:World}{bV bS N:Nat}{H:Nat→Value}(hS:w2.heap[bS]? = some (.cells (madeCells #[.bool false,.slice none 0 0,.slice none 0 0] (N * 3)) 62 (0,0)))(hV:w2.heap[bV]? = some (.cells #[H 0,H 1,H 2,H 3,H 4,H 5,H 6,H 7,H 8,H 9,H 10,.slice (some ⟨bS,0,none⟩) N N,.slice none 0 0] 58 (0,0)))(hb:Below w.heap.size w w2):VfW w bV bS w2.heap.size H N sig0 (fun _=>nil2) (.slice none 0 0) [] w2 where
 old:=hb
 size:=Nat.le_refl _
 box:=⟨_,hV,rfl,fun i hi=>by
  match i,hi with
  | 0,_=>rfl
  | 1,_=>rfl
  | 2,_=>rfl
  | 3,_=>rfl
  | 4,_=>rfl
  | 5,_=>rfl
  | 6,_=>rfl
  | 7,_=>rfl
  | 8,_=>rfl
  | 9,_=>rfl
  | 10,_=>rfl
  | 11,_=>rfl
  | 12,_=>rfl⟩
 sts:=st_made hS
 own:=fun i s hi hs=>by cases hs
 none_:=fun i hi hn=>rfl
 inj:=fun i j hi hj hne=>⟨dis_nil _,dis_nil _⟩
 its:=World.ownsRow_nil _ _ _ _
 dis:=fun i hi=>⟨dis_nil _,dis_nil _⟩
 dec:=fun r s hrs hs=>absurd hs (Nat.not_lt_zero _)
 due:=fun y=>⟨(fun h=>by cases h),(fun⟨i,_,h⟩=>by cases h)⟩
theorem newVerifier_any (a:Option Addr)(l:List ProtoD)(c p:Nat)(S:Nat→Prop)(w:World)(hs:ProtosAt w S a l)(hB:∀ b,S b→b<w.heap.size)(hp:p<l.length)(hN:(prD l p).ins.length≤6000) :
  ∃ nm ln pr rs rg a5 a6 a7 a8 n5 n6 n8 c5 c6 c7 c8,(pr=(prD l p).params∧rs=(prD l p).rest∧rg=(prD l p).regs∧InssAt w S a7 (prD l p).ins) ∧
  Calls Tryz.prog 19 #[.agg #[.slice a l.length c],.int .i64 (p:Int)] w (NvPost a l.length c p nm ln pr rs rg (.slice a5 n5 c5) (.slice a6 n6 c6) (.slice a7 (prD l p).ins.length c7) (.slice a8 n8 c8) (prD l p).ins.length w):=by
 obtain⟨b,off,rfl,hb,hpc⟩:=hs.2 (by omega)
 have PC:ProtoCells w S b (off+p * 9) (prD l p):=hpc p hp
 have hbs:b<w.heap.size:=hB b hb
 obtain⟨a5,c5,e5,i5⟩:=PC.ups
 obtain⟨a6,c6,e6,i6⟩:=PC.consts
 obtain⟨a7,c7,e7,i7⟩:=PC.ins
 obtain⟨a8,c8,e8,i8⟩:=PC.named
 have e0:=PC.name;have e1:=PC.line;have e2:=PC.params;have e3:=PC.rest;have e4:=PC.regs
 refine⟨(prD l p).name,(prD l p).line,(prD l p).params,(prD l p).rest,(prD l p).regs,a5,a6,a7,a8,(prD l p).ups.length,(prD l p).consts.length,(prD l p).named.length,c5,c6,c7,c8,⟨rfl,rfl,rfl,i7⟩,?_⟩
 generalize (prD l p).name=nm at *
 generalize (prD l p).line=ln at *
 generalize (prD l p).params=pr at *
 generalize (prD l p).rest=rs at *
 generalize (prD l p).regs=rg at *
 generalize (prD l p).ups.length=n5 at *
 generalize (prD l p).consts.length=n6 at *
 generalize (prD l p).ins.length=N at *
 generalize (prD l p).named.length=n8 at *
 have hpl:(p:Int)<l.length:=by omega
 have hmk:=run_make_wide (P:=Tryz.prog) 26 62 _ 3 56 Tryz.underlying26 info_st .i64 .i64 N (by omega) (by omega)
 obtain⟨f1,f2,f3⟩:b<w.heap.size+1∧b<w.heap.size+2∧b<w.heap.size+3:=by omega
 clear hs hB hpc PC i5 i6 i7 i8 hb
 go_enter Tryz.func19,Tryz.ntmps19
 go_wp2_with fail
 go_region
 all_goals (go_wp2_with fail)
 all_goals
  go_ret
  obtain⟨t1,t2,t3,t4,t5,t6⟩:=four_allocs w (.cells #[.slice (some ⟨b,off,none⟩) l.length c] 30) (.cells #[.string nm,.int .i64 ln,.int .i64 pr,.bool rs,.int .i64 rg,.slice a5 n5 c5,.slice a6 n6 c6,.slice a7 N c7,.slice a8 n8 c8] 53) (.cells (madeCells #[.bool false,.slice none 0 0,.slice none 0 0] (N * 3)) 62) (.cells #[.slice (some ⟨b,off,none⟩) l.length c,.int .i64 (p:Int),.string nm,.int .i64 ln,.int .i64 pr,.bool rs,.int .i64 rg,.slice a5 n5 c5,.slice a6 n6 c6,.slice a7 N c7,.slice a8 n8 c8,.slice (some ⟨w.heap.size+1+1,0,none⟩) N N,.slice none 0 0] 58)
  exact⟨_,_,rfl,⟨by omega,by omega,by omega,by rw[t6];omega,by rw[t6];omega⟩,vf_new t3 t4 t5,t5⟩
def VyPost (l:List ProtoD)(p:Nat)(w:World)(e:Ending)(w':World):Prop:=
 ∃(x:Int) (n:Nat),e=.returned (.agg #[.int .i64 x,.int .i64 (if x=0 then 0 else(p:Int)),.int .i64 (n:Int)])∧WalkSaid l (prD l p) x n∧Below w.heap.size w w'
def VyEnd (l:List ProtoD)(p:Nat)(w:World)(bV bS bT:Nat)(x:Int)(w':World):Prop:=
 x=0→∃ k σ H R iv li,Goes l (prD l p) k σ∧NoDue σ (prD l p).ins.length∧MOk (prD l p).regs.toNat (prD l p).ins.length σ∧VfW w bV bS bT H (prD l p).ins.length σ R iv li w'
def VyPostS (l:List ProtoD)(p:Nat)(w:World)(bV bS bT:Nat)(e:Ending)(w':World):Prop:=
 ∃(x:Int) (n:Nat),e=.returned (.agg #[.int .i64 x,.int .i64 (if x=0 then 0 else(p:Int)),.int .i64 (n:Int)])∧WalkSaid l (prD l p) x n∧Below w.heap.size w w'∧VyEnd l p w bV bS bT x w'
theorem VfW.off {w wr w2:World}{bV bS bT bF N:Nat}{H F:Nat→Value}{σ:Mst}{R:Nat→Value×Value}{iv:Value}{li:List Int}(h:VfW w bV bS bT H N σ R iv li wr)(hV:bV≠bF)(hS:bS≠bF)(hF:wr.rowIs bF 39 3 F)(hb:Below w.heap.size w w2)(hz:wr.heap.size≤w2.heap.size)(hk:∀ k,k≠bF→w2.heap[k]? = wr.heap[k]?):VfW w bV bS bT H N σ R iv li w2:=by
 obtain⟨cs,hF,_⟩:=hF
 have oI:∀{v:Value} {t:List Int},OwnI wr bT v t→OwnI w2 bT v t:=fun {v t} ho=>ho.sameBlock (fun k e=>hk k (fun e2=>by
  subst e2
  rcases ho.2 with⟨rfl,_⟩ | ⟨a,c,cur,rfl,_,k1,_⟩
  ·cases e
  obtain rfl:a=k:=by injection e
  rw[k1]at hF
  injection hF with hF
  injection hF with _ hF
  exact absurd hF (by decide)))
 have oG:∀{v:Value} {t:List GuD},OwnG wr bT v t→OwnG w2 bT v t:=fun {v t} ho=>ho.sameBlock (fun k e=>hk k (fun e2=>by
  subst e2
  rcases ho.2 with⟨rfl,_⟩ | ⟨a,c,cur,rfl,_,k1,_⟩
  ·cases e
  obtain rfl:a=k:=by injection e
  rw[k1]at hF
  injection hF with hF
  injection hF with _ hF
  exact absurd hF (by decide)))
 exact { h with
  old:=hb
  size:=Nat.le_trans h.size hz
  box:=h.box.of_block (hk _ hV)
  sts:=h.sts.of_block (hk _ hS)
  own:=fun i s hi hs=>⟨oI (h.own i s hi hs).1,oG (h.own i s hi hs).2⟩
  its:=oI h.its }
def VyRel (l:List ProtoD)(p:Nat)(w:World)(bV bS bT bF:Nat)(H:Nat→Value)(N R0:Nat)(gg:Nat)(wx:World):Prop:=
 ∃(q:Nat) (σ:Mst) (R:Nat→Value×Value) (iv:Value) (li:List Int),Hid (VfW w bV bS bT H N σ R iv li wx)∧Hid (Goes l (prD l p) q σ)∧Hid (MOk R0 N σ)∧Hid (left N σ=gg)∧Hid (wx.rowIs bF 39 3 (fun _=>.int .i64 0))∧Hid (iv.ownBlock≠some bF)
theorem vf_slices {w:World}{bV bS bT:Nat}{H:Nat→Value}{N:Nat}{σ:Mst}{R:Nat→Value×Value}{iv:Value}{li:List Int}{wr:World}(h:VfW w bV bS bT H N σ R iv li wr):wr.cell? ⟨bV,12,none⟩=some iv∧wr.frozen? ⟨bV,12,none⟩=false∧bV<wr.heap.size:=⟨h.box.cell (i:=12) (by omega),h.box.frozen 12,h.box.lt⟩
theorem verify_end (l:List ProtoD)(p cc:Nat)(ca:Option Addr)(S:Nat→Prop)(w:World)(hs:ProtosAt w S ca l)(hSB:∀ b,S b→b<w.heap.size)(hk:WkOk l p)(hul:∀ x,x∈l→x.ups.length≤250)(hG:RTab w)(nm:ByteArray)(ln pr:Int)(rs:Bool)(rg:Int)(v5 v6 v8:Value)(a7:Option Addr)(c7:Nat)(hpr:pr=(prD l p).params)(hrs:rs=(prD l p).rest)(hrg:rg=(prD l p).regs)(hi7:InssAt w S a7 (prD l p).ins)
  (bV bS bT:Nat)(wv:World)(hB:VfB w bV bS bT)(h:VfW w bV bS bT (hvV ca l.length cc p nm ln pr rs rg v5 v6 (.slice a7 (prD l p).ins.length c7) v8) (prD l p).ins.length sig0 (fun _=>nil2) (.slice none 0 0) [] wv) :
  Calls Tryz.prog 20 #[.pointer (some ⟨bV,0,none⟩)] wv (VyPostS l p w bV bS bT):=by
 have hn0:=hk.some_
 have hN6:=hk.few
 obtain⟨b7,o7,rfl,hb7S,hic⟩:=hi7.2 hn0
 have hb7:=hSB b7 hb7S
 obtain⟨rgn,hrgn⟩:=Int.eq_ofNat_of_zero_le hk.regs.1
 obtain⟨prn,hprn⟩:=Int.eq_ofNat_of_zero_le hk.pars.1
 have HIC:Hid (∀ a,a<(prD l p).ins.length→InsCells w b7 (o7+a * 5) (inD (prD l p) a)):=fun a ha=>hic a ha
 have HK:=hide hk
 have hR0:(prD l p).regs.toNat=rgn:=by rw[hrgn];rfl
 have hrg250:rgn≤250:=by have:=hk.regs.2;omega
 have hfirst:MOk (prD l p).regs.toNat (prD l p).ins.length (startM (prD l p)):=start_ok (prD l p) hn0 hk.regs.1
 have hm0:MOk (prD l p).regs.toNat (prD l p).ins.length sig0:=⟨(fun i s hi=>by cases hi),(fun i hi=>by cases hi)⟩
 have hpar:=hk.pars.2
 have hrest:=hk.rest
 rw[hrgn]at hpar hrest
 rw[hprn]at hpar hrest
 have hA:Below wv.heap.size wv (wv.alloc (.cells #[.int .i64 0,.int .i64 0,.int .i64 0] 39)):=(Below.refl _ _).alloc (Nat.le_refl _) _
 have h1:=h.below hA
 have HROW:Hid ((wv.alloc (.cells #[.int .i64 0,.int .i64 0,.int .i64 0] 39)).rowIs wv.heap.size 39 3 (fun _=>.int .i64 0)):=⟨_,Go.Deep.blk_alloc_new _ _,rfl,three rfl rfl rfl⟩
 have kk:∀ j,j<11→wv.cell? ⟨bV,j,none⟩=some (hvV ca l.length cc p nm ln pr rs rg v5 v6 (.slice (some ⟨b7,o7,none⟩) (prD l p).ins.length c7) v8 j):=fun j hj=>by
  rw[h.box.cell (i:=j) (by omega)]
  unfold vfV
  rw[if_neg (by omega),if_neg (by omega)]
 have k2:wv.cell? ⟨bV,2,none⟩=some (.string nm):=kk 2 (by omega)
 have k3:wv.cell? ⟨bV,3,none⟩=some (.int .i64 ln):=kk 3 (by omega)
 have k4:wv.cell? ⟨bV,4,none⟩=some (.int .i64 pr):=kk 4 (by omega)
 have k5:wv.cell? ⟨bV,5,none⟩=some (.bool rs):=kk 5 (by omega)
 have k6:wv.cell? ⟨bV,6,none⟩=some (.int .i64 rg):=kk 6 (by omega)
 have k7:wv.cell? ⟨bV,7,none⟩=some v5:=kk 7 (by omega)
 have k8:wv.cell? ⟨bV,8,none⟩=some v6:=kk 8 (by omega)
 have k9:wv.cell? ⟨bV,9,none⟩=some (.slice (some ⟨b7,o7,none⟩) (prD l p).ins.length c7):=kk 9 (by omega)
 have k10:wv.cell? ⟨bV,10,none⟩=some v8:=kk 10 (by omega)
 have lV:=h.box.lt
 rw[hpr,hprn]at k4
 rw[hrg,hrgn]at k6
 have FT:Hid (Calls Tryz.prog 43 #[.agg #[.string nm,.int .i64 ln,.int .i64 (prn:Int),.bool rs,.int .i64 (rgn:Int),v5,v6,.slice (some ⟨b7,o7,none⟩) (prD l p).ins.length c7,v8]] (wv.alloc (.cells #[.int .i64 0,.int .i64 0,.int .i64 0] 39)) (OwnRet (firstTy (prD l p)) (wv.alloc (.cells #[.int .i64 0,.int .i64 0,.int .i64 0] 39)))):=
  firstTypes_any (prD l p) nm ln prn rgn rs v5 v6 (.slice (some ⟨b7,o7,none⟩) (prD l p).ins.length c7) v8 _ hprn hrgn hrs.symm (by omega) (fun e=>by have:=hrest (by rw[←hrs];exact e);omega) hrg250
 have HV1:=hide h1
 have HVB:=hide hB
 have HM0:=hide hm0
 have HMS:=hide hfirst
 have HSH:=hide hs
 have HSB:=hide hSB
 have HUL:=hide hul
 have HG:=hide hG
 have hll:l.length≤1000000:=by have:=hk.many;omega
 have FLEN:Hid ((firstTy (prD l p)).length=rgn):=by show _=_;rw[first_len,hR0]
 have HOLD:Hid (Below w.heap.size w wv):=h.old
 have hRR:=hide hR0
 obtain⟨HH,hHH⟩:∃ HH,hvV ca l.length cc p nm ln pr rs rg v5 v6 (.slice (some ⟨b7,o7,none⟩) (prD l p).ins.length c7) v8=HH:=⟨_,rfl⟩
 have H0:Hid (HH 0=.slice ca l.length cc):=by show _=_;rw[←hHH];rfl
 have H1:Hid (HH 1=.int .i64 (p:Int)):=by show _=_;rw[←hHH];rfl
 have H9:Hid (HH 9=.slice (some ⟨b7,o7,none⟩) (prD l p).ins.length c7):=by show _=_;rw[←hHH];rfl
 rw[hHH]at HV1
 have LOB:Hid (w.heap.size≤wv.heap.size):=HOLD.out.size
 have hbT:=h.size
 clear h h1 hB hm0 hfirst hs hSB hul hG kk hHH hi7 hic hb7S hk hA hpr hrs hrg hpar hrest hR0 hrgn hprn
 go_enter Tryz.func20,Tryz.ntmps20
 go_wp2_with fail
 refine(unhide FT).mono ?_
 rintro e w2 ⟨tv,rfl,htv,hb2⟩
 obtain⟨va,vc,rfl⟩:=htv.lenV
 have HV2:=hide (HV1.out.below hb2)
 have HROW2:=hide (HROW.out.of_block (hb2.block _ (HROW.out.lt)))
 have hb2s:=hb2.size
 have hs1:(wv.alloc (.cells #[.int .i64 0,.int .i64 0,.int .i64 0] 39)).heap.size=wv.heap.size+1:=by simp
 have RC:Hid (Calls Tryz.prog 42 #[.pointer (some ⟨bV,0,none⟩),.int .i64 0,.slice va (firstTy (prD l p)).length vc,.slice none 0 0] w2 (RcPost w bV bS bT HH (prD l p).ins.length sig0 (fun _=>nil2) (.slice none 0 0) 0 ⟨firstTy (prD l p),[]⟩ w2)):=
  reach_any w bV bS bT HH (prD l p).ins.length (prD l p).regs.toNat sig0 (fun _=>nil2) (.slice none 0 0) [] 0 ⟨firstTy (prD l p),[]⟩ va none vc 0 (fun b=>b<w2.heap.size) w2 HV2.out HVB.out HM0.out hn0 hN6 (by rw[hRR.out];exact hrg250) htv.intsAt ⟨by simp,fun h=>absurd h (by simp)⟩ (fun b h=>h) (by show(firstTy (prD l p)).length≤1000;rw[FLEN.out];omega) (by simp)
 clear k2 k3 k4 k5 k6 k7 k8 k9 k10 lV FT HV1 HROW htv hb2
 go_wp2_with fail
 refine(unhide RC).mono ?_
 rintro e w3 (⟨hone,rfl,hb3⟩ | ⟨σ3,R3,iv3,l3,hone,rfl,hV3,hF3⟩)
 ·exact absurd hone (by rw[oneM_new rfl];simp)
 have hσ:σ3=startM (prD l p):=by
  rw[oneM_new rfl]at hone
  exact(Option.some.inj hone).symm
 subst hσ
 obtain⟨bF,hbF⟩:∃ bF,wv.heap.size=bF:=⟨_,rfl⟩
 rw[hs1]at hb2s
 clear hs1
 rw[hbF]at HROW2 LOB hb2s hbT ⊢
 have hoff:offV bV bS (.slice none 0 0) bF:=⟨by have:=HVB.out.o4;omega,by have:=HVB.out.o5;omega,fun e=>by cases e⟩
 have HVB4:=HVB.out.o4;have HVB5:=HVB.out.o5
 have START:Hid (VyRel l p w bV bS bT bF HH (prD l p).ins.length (prD l p).regs.toNat (left (prD l p).ins.length (startM (prD l p))) w3):=
  ⟨0,startM (prD l p),R3,iv3,l3,hV3,rfl,HMS,rfl,HROW2.out.of_block (hF3.same bF HROW2.out.lt hoff.1 hoff.2.1 hoff.2.2),fun e=>by
   rcases hF3.new bF e with e | e
   ·cases e
   ·have:=HROW2.out.lt;omega⟩
 clear hone hV3 hF3 RC HV2 HROW2 hoff
 go_wp2_with fail
 go_loopg [] (left (prD l p).ins.length (startM (prD l p))) (fun gg wx=>VyRel l p w bV bS bT bF HH (prD l p).ins.length (prD l p).regs.toNat gg wx)
 case atStart=>exact START.out
 case round=>
  clear START
  obtain⟨q,σ,R,iv,li,HV,HGo,HMO,HL,HRW,HNI⟩:=hrel
  obtain⟨c12,z12,lV⟩:=vf_slices HV.out
  obtain⟨ia,ic,rfl⟩:=HV.out.its.lenV
  have hlen:=HV.out.len HMO.out
  by_cases hl0:0<li.length
  ·obtain⟨m,hm⟩:∃ m,li.length=m+1:=⟨li.length-1,by omega⟩
   obtain⟨G,cap,eI,hG1,hG2,hGc⟩:=HV.out.its.at hl0
   have hcap:=HV.out.its.cap
   injection eI with e1 e2 e3
   subst e1
   obtain⟨a,ea,hLD⟩:=HV.out.least HMO.out hm
   have cG:=hGc m (by omega)
   rw[ea]at cG
   rw[hm]at c12 HV hcap
   have HVt:=hide (HV.out.take HVB.out hm ea)
   have TK:Hid (Calls Tryz.prog 45 #[.pointer (some ⟨bV,12,none⟩)] wr (TkPost bV 12 G m ic (a:Int) wr)):=take_any bV 12 G m ic (a:Int) wr c12 z12 cG hcap (by omega)
   cases est:σ.st a with
   | none=>exact absurd est (HMO.out.due a hLD.2.1).2
   | some s=>
    have ST:Hid (Calls Tryz.prog 44 #[.pointer (some ⟨bV,0,none⟩),.int .i64 (a:Int)] (wr.setCell ⟨bV,12,none⟩ (.slice (some ⟨G,0,none⟩) m ic)) (StPost w bV bS bT HH (prD l p).ins.length p l (inD (prD l p) a) a ⟨σ.st,upd σ.due a false⟩ s (.slice (some ⟨G,0,none⟩) m ic) (wr.setCell ⟨bV,12,none⟩ (.slice (some ⟨G,0,none⟩) m ic)))):=
     step_any w bV bS bT HH (prD l p).ins.length (prD l p).regs.toNat p l (inD (prD l p) a) a ⟨σ.st,upd σ.due a false⟩ s R (.slice (some ⟨G,0,none⟩) m ic) (li.take m) ca cc b7 o7 c7 S _ HVt.out HVB.out HMO.out.off est hLD.1 hN6 (by rw[hRR.out];exact hrg250) (insFit_of HK.out hLD.1) HG.out HSH.out HSB.out HUL.out hll H0.out H1.out H9.out hb7 (HIC.out a hLD.1)
    have HLD:=hide hLD
    have EST:=hide est
    have hGF:Hid (bF≠G):=fun e=>HNI.out (by rw[e];rfl)
    have HRWt:Hid ((wr.setCell ⟨bV,12,none⟩ (.slice (some ⟨G,0,none⟩) m ic)).rowIs bF 39 3 (fun _=>.int .i64 0)):=HRW.out.of_block (heap_setCell_other wr ⟨bV,12,none⟩ bF _ (by show bF≠bV;omega))
    have hmI:(0:Int)<(m:Int)+1:=by omega
    clear hGc cG ea hLD est hlen hl0 e2 e3 hcap
    have HMM:=hide hm
    clear hm
    go_wp2_with fail
    refine(unhide TK).mono ?_
    rintro e w4 ⟨rfl,rfl⟩
    go_wp2_with fail
    refine(unhide ST).mono ?_
    rintro e w5 ⟨hst,hfr⟩
    have HR5:=hide (HRWt.out.of_block (hfr bF HRWt.out.lt ⟨by omega,by omega,fun e=>hGF.out (Option.some.inj e).symm⟩))
    rcases hst with⟨c,kk,h1,rfl,hb5⟩ | ⟨σ',R',iv',l',h1,rfl,hV5,hnew⟩
    ·have hstep:stepM l (prD l p) σ a=.inl (c,kk):=(stepM_T EST.out).trans h1
     have hc0:c≠0:=fun e=>by
      subst e
      exact step_code HLD.out (by rw[EST.out];simp) hstep
     have RES:Hid (∀ w',Below w.heap.size w w'→VyPostS l p w bV bS bT (.returned (.agg #[.int .i64 c,.int .i64 (p:Int),.int .i64 (kk:Int)])) w'):=fun w' hb=>⟨c,kk,by rw[if_neg hc0],⟨q,σ,HGo.out,.inl ⟨a,HLD.out,hstep⟩⟩,hb,fun e=>absurd e hc0⟩
     have BB:Hid (∀ o v0 v1 v2,Below w.heap.size w (((((w5.setCell ⟨bF,0,none⟩ v0).setCell ⟨bF,1,none⟩ v1).setCell ⟨bF,2,none⟩ v2)).alloc o)):=fun o v0 v1 v2=>(set3_old hb5 LOB.out v0 v1 v2).alloc (by have:=hb5.size;simp;omega) _
     have hcb:(c != 0)=true:=by simpa using hc0
     have hcb2:(c==0)=false:=by simpa using hc0
     have r0:=HR5.out.cell (i:=0) (by omega);have r1:=HR5.out.cell (i:=1) (by omega);have r2:=HR5.out.cell (i:=2) (by omega)
     have z0:=HR5.out.frozen 0;have z1:=HR5.out.frozen 1;have z2:=HR5.out.frozen 2
     have lf:=HR5.out.lt
     clear hstep h1 hb5 hfr HR5 TK ST c12 z12 lV
     go_wp2_with fail
     exact bodyPost_ret (v:=.agg #[.int .i64 c,.int .i64 (p:Int),.int .i64 (kk:Int)]) (by simp[results,Tryz.results20,go_sem,r0,r1,r2,lf]) rfl (RES.out _ (BB.out _ _ _ _))
    ·have hstep:stepM l (prD l p) σ a=.inr σ':=(stepM_T EST.out).trans h1
     obtain⟨mo,hlt⟩:=stepM_ok (shape_fit (HK.out.ins a HLD.out.1) HLD.out.1 HK.out.regs.1) HMO.out HLD.out hstep
     have hA5:∀ o,Below w5.heap.size w5 (w5.alloc o):=fun o=>(Below.refl _ _).alloc (Nat.le_refl _) o
     have NXT:Hid (∀ o,VyRel l p w bV bS bT bF HH (prD l p).ins.length (prD l p).regs.toNat (left (prD l p).ins.length σ') (w5.alloc o)):=fun o=>
      ⟨q+1,σ',R',iv',l',hV5.below (hA5 o),⟨σ,a,HGo.out,HLD.out,hstep⟩,mo,rfl,HR5.out.of_block ((hA5 o).block _ HR5.out.lt),fun e=>by
       rcases hnew bF e with e | e
       ·exact hGF.out (Option.some.inj e).symm
       ·have:=HRWt.out.lt;omega⟩
     have HLT:Hid (left (prD l p).ins.length σ'<gk):=by show _<_;rw[←HL.out];exact hlt
     clear hstep h1 hfr hV5 hnew mo hlt hA5 HR5 TK ST c12 z12 lV
     go_wp2_with fail
     go_roundg (left (prD l p).ins.length σ')
     case measure=>exact HLT.out
     case rel=>exact NXT.out _
  ·have hli:li.length=0:=by omega
   have hnd:=HV.out.nodue hli
   have SR:Hid (Calls Tryz.prog 46 #[.pointer (some ⟨bV,0,none⟩)] wr (SrPost (prD l p) σ wr)):=
    silentRing_any w bV bS bT HH l p q (prD l p).regs.toNat σ R _ li b7 o7 c7 wr HV.out HK.out HGo.out hnd HMO.out HG.out H9.out hb7 HIC.out
   have HND:=hide hnd
   have HBO:Hid (Below w.heap.size w wr):=HV.out.old
   rw[hli]at c12
   have HVV:=hide HV.out
   clear hnd hl0 hlen hli HV
   go_wp2_with fail
   refine(unhide SR).mono ?_
   rintro e w5 ⟨n,f,rfl,hf1,hf2,hb5⟩
   have HR5:=hide (HRW.out.of_block (hb5.block _ HRW.out.lt))
   have HV5:=hide (HVV.out.below hb5)
   have B5:Hid (Below w.heap.size w w5):=HBO.out.trans (hb5.mono HBO.out.size)
   cases f with
   | true=>
    obtain⟨g1,g2,g3,g4⟩:=hf2 rfl
    have RES:Hid (∀ w',Below w.heap.size w w'→VyPostS l p w bV bS bT (.returned (.agg #[.int .i64 14,.int .i64 (p:Int),.int .i64 (n:Int)])) w'):=fun w' hb=>⟨14,n,by rw[if_neg (by decide)],⟨q,σ,HGo.out,.inr (.inl ⟨HND.out,rfl,g1,g2,g3,g4⟩)⟩,hb,fun e=>absurd e (by decide)⟩
    have FA:Hid (Calls Tryz.prog 47 #[.pointer (some ⟨bV,0,none⟩),.int .i64 14,.int .i64 (n:Int)] w5 fun e w'=>e=.returned (.agg #[.int .i64 14,.int .i64 (p:Int),.int .i64 (n:Int)])∧Below w5.heap.size w5 w'):=fault_any bV p 14 n w5 ((HV5.out.box.cell (i:=1) (by omega)).trans (congrArg some H1.out))
    clear hf1 hf2 g1 g2 g3 g4 hb5 SR c12 z12 lV
    go_wp2_with fail
    refine(unhide FA).mono ?_
    rintro e w6 ⟨rfl,hb6⟩
    have HR6:=hide (HR5.out.of_block (hb6.block _ HR5.out.lt))
    have B6:Hid (Below w.heap.size w w6):=B5.out.trans (hb6.mono B5.out.size)
    have BB:Hid (∀ v0 v1 v2,Below w.heap.size w (((w6.setCell ⟨bF,0,none⟩ v0).setCell ⟨bF,1,none⟩ v1).setCell ⟨bF,2,none⟩ v2)):=fun v0 v1 v2=>set3_old B6.out LOB.out v0 v1 v2
    have r0:=HR6.out.cell (i:=0) (by omega);have r1:=HR6.out.cell (i:=1) (by omega);have r2:=HR6.out.cell (i:=2) (by omega)
    have z0:=HR6.out.frozen 0;have z1:=HR6.out.frozen 1;have z2:=HR6.out.frozen 2
    have lf:=HR6.out.lt
    clear hb6 FA HR6 HR5
    go_wp2_with fail
    exact bodyPost_ret (v:=.agg #[.int .i64 14,.int .i64 (p:Int),.int .i64 (n:Int)]) (by simp[results,Tryz.results20,go_sem,r0,r1,r2,lf]) rfl (RES.out _ (BB.out _ _ _))
   | false=>
    have RES:Hid (∀ v0 v1 v2,VyPostS l p w bV bS bT (.returned (.agg #[.int .i64 0,.int .i64 0,.int .i64 0])) (((w5.setCell ⟨bF,0,none⟩ v0).setCell ⟨bF,1,none⟩ v1).setCell ⟨bF,2,none⟩ v2)):=fun v0 v1 v2=>by
     have hb:=set3_old B5.out LOB.out v0 v1 v2
     refine⟨0,0,by rw[if_pos rfl];rfl,⟨q,σ,HGo.out,.inr (.inr ⟨HND.out,rfl,rfl,hf1 rfl⟩)⟩,hb,fun _=>⟨q,σ,_,R,_,li,HGo.out,HND.out,HMO.out,HV5.out.off (by have:=HVB.out.o4;omega) (by have:=HVB.out.o5;omega) HR5.out hb (by simp) (fun k hk=>?_)⟩⟩
     rw[heap_setCell_other _ ⟨bF,_,none⟩ _ _ hk,heap_setCell_other _ ⟨bF,_,none⟩ _ _ hk,heap_setCell_other _ ⟨bF,_,none⟩ _ _ hk]
    have r0:=HR5.out.cell (i:=0) (by omega);have r1:=HR5.out.cell (i:=1) (by omega);have r2:=HR5.out.cell (i:=2) (by omega)
    have z0:=HR5.out.frozen 0;have z1:=HR5.out.frozen 1;have z2:=HR5.out.frozen 2
    have lf:=HR5.out.lt
    clear hf1 hf2 hb5 SR c12 z12 lV HR5
    go_wp2_with fail
    exact bodyPost_ret (v:=.agg #[.int .i64 0,.int .i64 0,.int .i64 0]) (by simp[results,Tryz.results20,go_sem,r0,r1,r2,lf]) rfl (RES.out _ _ _)
theorem verify_any (l:List ProtoD)(p cc:Nat)(ca:Option Addr)(S:Nat→Prop)(w:World)(hs:ProtosAt w S ca l)(hSB:∀ b,S b→b<w.heap.size)(hk:WkOk l p)(hul:∀ x,x∈l→x.ups.length≤250)(hG:RTab w)(nm:ByteArray)(ln pr:Int)(rs:Bool)(rg:Int)(v5 v6 v8:Value)(a7:Option Addr)(c7:Nat)(hpr:pr=(prD l p).params)(hrs:rs=(prD l p).rest)(hrg:rg=(prD l p).regs)(hi7:InssAt w S a7 (prD l p).ins)
  (bV bS bT:Nat)(wv:World)(hB:VfB w bV bS bT)(h:VfW w bV bS bT (hvV ca l.length cc p nm ln pr rs rg v5 v6 (.slice a7 (prD l p).ins.length c7) v8) (prD l p).ins.length sig0 (fun _=>nil2) (.slice none 0 0) [] wv) :
  Calls Tryz.prog 20 #[.pointer (some ⟨bV,0,none⟩)] wv (VyPost l p w):=
 (verify_end l p cc ca S w hs hSB hk hul hG nm ln pr rs rg v5 v6 v8 a7 c7 hpr hrs hrg hi7 bV bS bT wv hB h).mono (fun e w' ⟨x,n,h1,h2,h3,_⟩=>⟨x,n,h1,h2,h3⟩)
theorem ups_250 {l:List ProtoD}(h:ShapeSaid l 0 0 0):∀ x,x∈l→x.ups.length≤250:=by
 have hP:PartsSaid l 0 0 0:=by
  rcases h with⟨_,h⟩ | ⟨_,h,_⟩ | ⟨_,_,h,_⟩ | ⟨h1,_,_⟩
  ·exact absurd rfl h
  ·exact absurd h (by decide)
  ·exact absurd h (by decide)
  ·exact h1
 obtain⟨_,hh,_,_,_⟩:=parts_ok hP
 intro x hx
 obtain⟨g,hg,rfl⟩:=List.getElem_of_mem hx
 have:=hh g hg
 unfold sHeadC prD at this
 rw[List.getElem?_eq_getElem hg]at this
 simp only[Bool.and_eq_true,Option.getD_some,decide_eq_true_eq]at this
 omega
theorem checkCode_any (a:Option Addr)(l:List ProtoD)(c:Nat)(S:Nat→Prop)(w:World)(hs:ProtosAt w S a l)(hB:∀ b,S b→b<w.heap.size)(hl:tProtos l≤1048576)(hG:RTab w) :
  Calls Tryz.prog 17 #[.agg #[.slice a l.length c]] w fun e w'=>∃ x f n,e=.returned (.agg #[.int .i64 x,.int .i64 f,.int .i64 n])∧CodeSaid l x f n∧Below w.heap.size w w':=by
 have hll:l.length≤1048576:=by unfold tProtos at hl;omega
 have HPS:=hide hs
 have HBS:=hide hB
 have HC0:=hide (cc_start w a l.length c)
 have CSH:Hid (Calls Tryz.prog 41 #[.agg #[.slice a l.length c]] ((w.alloc (.cells #[.slice a l.length c] 30)).alloc (.cells #[.int .i64 0,.int .i64 0,.int .i64 0] 39)) fun e w'=>∃ x f n,e=.returned (.agg #[.int .i64 x,.int .i64 f,.int .i64 n])∧ShapeSaid l x f n∧Below ((w.alloc (.cells #[.slice a l.length c] 30)).alloc (.cells #[.int .i64 0,.int .i64 0,.int .i64 0] 39)).heap.size ((w.alloc (.cells #[.slice a l.length c] 30)).alloc (.cells #[.int .i64 0,.int .i64 0,.int .i64 0] 39)) w'):=
  checkShape_any a l c S _ (hG.keep (unhide HC0).old hG.pos) (hs.keep (unhide HC0).old hB) (fun b h=>Nat.lt_of_lt_of_le (hB b h) (unhide HC0).old.size) hl
 have HG:=hide hG
 clear hs hB hG
 go_enter Tryz.func17,Tryz.ntmps17
 go_wp2_with fail
 refine(unhide CSH).mono ?_
 rintro e w1 ⟨x,f,n,rfl,hsaid,hb1⟩
 have hC1:=(unhide HC0).below hb1
 have hA1:Below w1.heap.size w1 (w1.alloc (.cells #[.int .i64 x,.int .i64 f,.int .i64 n] 39)):=(Below.refl _ _).alloc (Nat.le_refl _) _
 have HC2:=hide (hC1.below hA1)
 have HSAID:=hide hsaid
 have hrs:=hC1.res
 have r0:=hrs.cell (i:=0) (by omega);have r1:=hrs.cell (i:=1) (by omega);have r2:=hrs.cell (i:=2) (by omega)
 have z0:=hrs.frozen 0;have z1:=hrs.frozen 1;have z2:=hrs.frozen 2
 have hbF:=hrs.lt
 have k0:=hC1.code
 have hb0:w.heap.size<w1.heap.size:=World.block_lt_of_cell? _ _ k0
 clear hsaid hb1 hA1 hrs CSH HC0
 by_cases hx:x=0
 case neg=>
  have hxb:(x != 0)=true:=by simpa using hx
  have hxb2:(x==0)=false:=by simpa using hx
  have BB:Hid (∀ v0 v1 v2,Below w.heap.size w ((((w1.setCell ⟨w.heap.size+1,0,none⟩ v0).setCell ⟨w.heap.size+1,1,none⟩ v1).setCell ⟨w.heap.size+1,2,none⟩ v2).alloc (.cells #[.int .i64 x,.int .i64 f,.int .i64 n] 39))):=fun v0 v1 v2=>(set3_old hC1.old (by omega) v0 v1 v2).alloc (by simp;omega) _
  have SD:Hid (CodeSaid l x f n):=.inl ⟨HSAID.out,hx⟩
  clear hC1 hx
  go_wp2_with fail
  exact bodyPost_ret (v:=.agg #[.int .i64 x,.int .i64 f,.int .i64 n]) (by simp[results,Tryz.results17,go_sem,r0,r1,r2,hbF]) rfl ⟨x,f,n,rfl,SD.out,BB.out _ _ _⟩
 subst hx
 obtain⟨rfl,rfl⟩:=shapeSaid_00 HSAID.out
 clear hC1
 go_wp2_with fail
 clear r0 r1 r2 z0 z1 z2 hbF k0
 go_loopg [15] l.length (fun gg i wr=>∃ q:Nat,q+gg=l.length∧i=.int .i64 q∧CcW w a l.length c wr∧Hid (∀ g,g<q→WalkSaid l (prD l g) 0 0))
 case atStart=>exact⟨0,by omega,rfl,unhide HC2,fun g h=>absurd h (Nat.not_lt_zero _)⟩
 case round=>
  clear HC2 hb0
  obtain⟨q,hq,rfl,hC,hall⟩:=hrel
  have k0:=hC.code
  have hb0:w.heap.size<wr.heap.size:=World.block_lt_of_cell? _ _ k0
  by_cases hlt:q<l.length
  ·have HC:=hide hC
   have hkk:=wkOk_of HSAID.out hlt
   obtain⟨nm,ln,pr,rs,rg,a5,a6,a7,a8,n5,n6,n8,c5,c6,c7,c8,⟨e1,e2,e3,i7⟩,hNV⟩:=newVerifier_any a l c q S wr ((unhide HPS).keep hC.old (unhide HBS)) (fun b h=>Nat.lt_of_lt_of_le (unhide HBS b h) hC.old.size) hlt hkk.few
   have NV:=hide hNV
   have VY:Hid (∀(bV bS:Nat) (wv:World),VfB wr bV bS wv.heap.size→VfW wr bV bS wv.heap.size (hvV a l.length c q nm ln pr rs rg (.slice a5 n5 c5) (.slice a6 n6 c6) (.slice a7 (prD l q).ins.length c7) (.slice a8 n8 c8)) (prD l q).ins.length sig0 (fun _=>nil2) (.slice none 0 0) [] wv→Calls Tryz.prog 20 #[.pointer (some ⟨bV,0,none⟩)] wv (VyPost l q wr)):=fun bV bS wv h1 h2=>
    verify_any l q c a S wr ((unhide HPS).keep hC.old (unhide HBS)) (fun b h=>Nat.lt_of_lt_of_le (unhide HBS b h) hC.old.size) hkk (ups_250 HSAID.out) (HG.out.keep hC.old HG.out.pos) nm ln pr rs rg (.slice a5 n5 c5) (.slice a6 n6 c6) (.slice a8 n8 c8) a7 c7 e1 e2 e3 i7 bV bS wv.heap.size wv h1 h2
   clear hkk hNV e1 e2 e3 i7
   clear hC
   go_wp2_with fail
   refine(unhide NV).mono ?_
   rintro e w2 ⟨bV,bS,rfl,hvb,hvf,hb2⟩
   have VC:=hide (VY.out bV bS w2 hvb hvf)
   clear hvb hvf NV VY hb2
   go_wp2_with fail
   refine(unhide VC).mono ?_
   rintro e w3 ⟨x,n,rfl,hws,hb3⟩
   have hC3:=(unhide HC).below hb3
   have hA3:Below w3.heap.size w3 (w3.alloc (.cells #[.int .i64 x,.int .i64 (if x=0 then 0 else(q:Int)),.int .i64 (n:Int)] 39)):=(Below.refl _ _).alloc (Nat.le_refl _) _
   have HC4:=hide (hC3.below hA3)
   have HC3:=hide hC3
   have hrs:=hC3.res
   have HWS:=hide hws
   have r0:=hrs.cell (i:=0) (by omega);have r1:=hrs.cell (i:=1) (by omega);have r2:=hrs.cell (i:=2) (by omega)
   have z0:=hrs.frozen 0;have z1:=hrs.frozen 1;have z2:=hrs.frozen 2
   have hbF:=hrs.lt
   clear hws hb3 hC3 hA3 hrs VC k0 hb0
   by_cases hx:x=0
   ·subst hx
    have hn:n=0:=by
     obtain⟨k,σ,h1,h2⟩:=HWS.out
     rcases h2 with⟨b,h4,h5⟩ | ⟨_,h4,_⟩ | ⟨_,_,h4,_⟩
     ·have hk:=wkOk_of HSAID.out hlt
      have hm:=goes_ok (fun a ha=>shape_fit (hk.ins a ha) ha hk.regs.1) (start_ok (prD l q) hk.some_ hk.regs.1) h1
      exact absurd h5 (step_code h4 (hm.due b h4.2.1).2)
     ·exact absurd h4 (by decide)
     ·exact h4
    subst hn
    have NX:Hid (∀ g,g<q+1→WalkSaid l (prD l g) 0 0):=fun g hg=>by
     by_cases e:g=q
     ·subst e;exact HWS.out
     ·exact hall.out g (by omega)
    rw[if_pos rfl]at HC4
    clear r0 r1 r2 z0 z1 z2 hbF
    go_wp2_with fail
    go_roundg (l.length-(q+1))
    case measure=>omega
    case rel=>exact⟨q+1,by omega,by go_num,unhide HC4,NX⟩
   ·have hxb:(x != 0)=true:=by simpa using hx
    have hxb2:(x==0)=false:=by simpa using hx
    rw[if_neg hx]at HC4
    have hif:(if x=0 then 0 else(q:Int))=(q:Int):=if_neg hx
    rw[hif]
    have BB:Hid (∀ v0 v1 v2,Below w.heap.size w ((((w3.setCell ⟨w.heap.size+1,0,none⟩ v0).setCell ⟨w.heap.size+1,1,none⟩ v1).setCell ⟨w.heap.size+1,2,none⟩ v2).alloc (.cells #[.int .i64 x,.int .i64 (q:Int),.int .i64 (n:Int)] 39))):=fun v0 v1 v2=>(set3_old (unhide HC3).old (by omega) v0 v1 v2).alloc (by have:=(unhide HC3).old.size;simp;omega) _
    have SD:Hid (CodeSaid l x (q:Int) (n:Int)):=.inr (.inl ⟨HSAID.out,hx,q,n,rfl,rfl,hlt,HWS.out,hall.out⟩)
    clear hx hif
    go_wp2_with fail
    exact bodyPost_ret (v:=.agg #[.int .i64 x,.int .i64 (q:Int),.int .i64 (n:Int)]) (by simp[results,Tryz.results17,go_sem,r0,r1,r2,hbF]) rfl ⟨x,q,n,rfl,SD.out,BB.out _ _ _⟩
  ·have hql:q=l.length:=by omega
   have hrs:=hC.res
   have r0:=hrs.cell (i:=0) (by omega);have r1:=hrs.cell (i:=1) (by omega);have r2:=hrs.cell (i:=2) (by omega)
   have z0:=hrs.frozen 0;have z1:=hrs.frozen 1;have z2:=hrs.frozen 2
   have hbF:=hrs.lt
   have BB:Hid (∀ v0 v1 v2,Below w.heap.size w (((wr.setCell ⟨w.heap.size+1,0,none⟩ v0).setCell ⟨w.heap.size+1,1,none⟩ v1).setCell ⟨w.heap.size+1,2,none⟩ v2)):=fun v0 v1 v2=>set3_old hC.old (by omega) v0 v1 v2
   have SD:Hid (CodeSaid l 0 0 0):=.inr (.inr ⟨HSAID.out,rfl,rfl,rfl,fun g hg=>hall.out g (by omega)⟩)
   have hge:¬((q:Int)<(l.length:Int)):=by omega
   clear hrs hql hC
   go_wp2_with fail
   exact bodyPost_ret (v:=.agg #[.int .i64 0,.int .i64 0,.int .i64 0]) (by simp[results,Tryz.results17,go_sem,r0,r1,r2,hbF]) rfl ⟨0,0,0,rfl,SD.out,BB.out _ _ _⟩
end Go.Proofs.YthmjjhfjkgaocaaGreatDoor
