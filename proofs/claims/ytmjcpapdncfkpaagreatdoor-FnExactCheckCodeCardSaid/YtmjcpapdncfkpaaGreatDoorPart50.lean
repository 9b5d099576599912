import Derived.Test.YtmjcpapdncfkpaaGreatDoorPart43
import Derived.Test.YtmjcpapdncfkpaaGreatDoorPart49
import Derived.BigRegion
import Derived.Test.YtmjcpapdncfkpaaGreatDoorPart44
import Derived.Test.YtmjcpapdncfkpaaGreatDoorPart22
import Derived.Test.YtmjcpapdncfkpaaGreatDoorPart13
import Derived.Test.YtmjcpapdncfkpaaGreatDoorPart36
import Derived.Test.YtmjcpapdncfkpaaGreatDoorPart02
import Derived.Test.YtmjcpapdncfkpaaGreatDoorPart03
import Derived.Deep.RegionHeld3
import Derived.Test.YtmjcpapdncfkpaaGreatDoorPart16
import Derived.Test.YtmjcpapdncfkpaaGreatDoorRows
import Derived.OpenShut
import Derived.Lib.LaidTab
set_option linter.unusedSimpArgs false
set_option linter.unusedVariables false
set_option maxHeartbeats 8000000
set_option maxRecDepth 1000000
namespace Go.Proofs.YtmjcpapdncfkpaaGreatDoor
open Go.RowKit
def hvV (ca:Option Addr)(m cc p:Nat)(nm:ByteArray)(ln pr:Int)(rs:Bool)(rg:Int)(v5 v6 v7 v8:Value)(j:Nat):Value:=[Value.slice ca m cc,.int .i64 (p:Int),.string nm,.int .i64 ln,.int .i64 pr,.bool rs,.int .i64 rg,v5,v6,v7,v8][j]?.getD (.bool false)
def NvPost (ca:Option Addr)(m cc p:Nat)(nm:ByteArray)(ln pr:Int)(rs:Bool)(rg:Int)(v5 v6 v7 v8:Value)(N:Nat)(w:World)(e:Ending)(w':World):Prop:=
 ∃ bV bS,e=.returned (.pointer (some ⟨bV,0,none⟩))∧VfB w bV bS w'.heap.size∧VfW w bV bS w'.heap.size (hvV ca m cc p nm ln pr rs rg v5 v6 v7 v8) N sig0 (fun _=>nil2) (.slice none 0 0) [] w'∧Below w.heap.size w w'
theorem st_made {w2:World}{b N:Nat}(h:w2.heap[b]? = some (.cells (madeCells #[.bool false,.slice none 0 0,.slice none 0 0] (N * 3)) 66 (0,0))):w2.rowIs b 66 (N * 3) (stV sig0 (fun _=>nil2)):=by
 refine⟨_,h,size_madeCells _ _,fun j hj=>?_⟩
 have e:j % 3=0∨j % 3=1∨j % 3=2:=by omega
 unfold stV
 rcases e with e | e | e<;>simp[madeCells,hj,e,sig0,nil2]
theorem vf_new {w w2:World}{bV bS N:Nat}{H:Nat→Value}(hS:w2.heap[bS]? = some (.cells (madeCells #[.bool false,.slice none 0 0,.slice none 0 0] (N * 3)) 66 (0,0)))(hV:w2.heap[bV]? = some (.cells #[H 0,H 1,H 2,H 3,H 4,H 5,H 6,H 7,H 8,H 9,H 10,.slice (some ⟨bS,0,none⟩) N N,.slice none 0 0] 86 (0,0)))(hb:Below w.heap.size w w2):VfW w bV bS w2.heap.size H N sig0 (fun _=>nil2) (.slice none 0 0) [] w2 where
 old:=hb
 size:=Nat.le_refl _
 box:=⟨_,hV,rfl,fun i hi=>by
  match i,hi with
  | 0,_=>rfl
  | 1,_=>rfl
  | 2,_=>rfl
  | 3,_=>rfl
  | 4,_=>rfl
  | 5,_=>rfl
  | 6,_=>rfl
  | 7,_=>rfl
  | 8,_=>rfl
  | 9,_=>rfl
  | 10,_=>rfl
  | 11,_=>rfl
  | 12,_=>rfl⟩
 sts:=st_made hS
 own:=fun i s hi hs=>by cases hs
 none_:=fun i hi hn=>rfl
 inj:=fun i j hi hj hne=>⟨dis_nil _,dis_nil _⟩
 its:=World.ownsRow_nil _ _ _ _
 dis:=fun i hi=>⟨dis_nil _,dis_nil _⟩
 dec:=fun r s hrs hs=>absurd hs (Nat.not_lt_zero _)
 due:=fun y=>⟨(fun h=>by cases h),(fun⟨i,_,h⟩=>by cases h)⟩
theorem newVerifier_any (a:Option Addr)(l:List ProtoD)(c p:Nat)(S:Nat→Prop)(w:World)(hs:ProtosAt w S a l)(hB:∀ b,S b→b<w.heap.size)(hp:p<l.length)(hN:(prD l p).ins.length≤6000) :
  ∃ nm ln pr rs rg a5 a6 a7 a8 n5 n6 n8 c5 c6 c7 c8,(pr=(prD l p).params∧rs=(prD l p).rest∧rg=(prD l p).regs∧InssAt w S a7 (prD l p).ins) ∧
  Calls Tryz.prog 15 #[.agg #[.slice a l.length c],.int .i64 (p:Int)] w (NvPost a l.length c p nm ln pr rs rg (.slice a5 n5 c5) (.slice a6 n6 c6) (.slice a7 (prD l p).ins.length c7) (.slice a8 n8 c8) (prD l p).ins.length w):=by
 obtain⟨b,off,rfl,hb,hpc⟩:=hs.2 (by omega)
 have PC:ProtoCells w S b (off+p * 9) (prD l p):=hpc p hp
 have hbs:b<w.heap.size:=hB b hb
 obtain⟨a5,c5,e5,i5⟩:=PC.ups
 obtain⟨a6,c6,e6,i6⟩:=PC.consts
 obtain⟨a7,c7,e7,i7⟩:=PC.ins
 obtain⟨a8,c8,e8,i8⟩:=PC.named
 have e0:=PC.name;have e1:=PC.line;have e2:=PC.params;have e3:=PC.rest;have e4:=PC.regs
 refine⟨(prD l p).name,(prD l p).line,(prD l p).params,(prD l p).rest,(prD l p).regs,a5,a6,a7,a8,(prD l p).ups.length,(prD l p).consts.length,(prD l p).named.length,c5,c6,c7,c8,⟨rfl,rfl,rfl,i7⟩,?_⟩
 generalize (prD l p).name=nm at *
 generalize (prD l p).line=ln at *
 generalize (prD l p).params=pr at *
 generalize (prD l p).rest=rs at *
 generalize (prD l p).regs=rg at *
 generalize (prD l p).ups.length=n5 at *
 generalize (prD l p).consts.length=n6 at *
 generalize (prD l p).ins.length=N at *
 generalize (prD l p).named.length=n8 at *
 have hpl:(p:Int)<l.length:=by omega
 have hmk:=run_make_wide (P:=Tryz.prog) 37 66 _ 3 56 Tryz.underlying37 info_st .i64 .i64 N (by omega) (by omega)
 obtain⟨f1,f2,f3⟩:b<w.heap.size+1∧b<w.heap.size+2∧b<w.heap.size+3:=by omega
 clear hs hB hpc PC i5 i6 i7 i8 hb
 go_enter Tryz.func15,Tryz.ntmps15
 go_wp2_with fail
 go_region
 all_goals (go_wp2_with fail)
 all_goals
  go_ret
  obtain⟨t1,t2,t3,t4,t5,t6⟩:=four_allocs w (.cells #[.slice (some ⟨b,off,none⟩) l.length c] 31) (.cells #[.string nm,.int .i64 ln,.int .i64 pr,.bool rs,.int .i64 rg,.slice a5 n5 c5,.slice a6 n6 c6,.slice a7 N c7,.slice a8 n8 c8] 58) (.cells (madeCells #[.bool false,.slice none 0 0,.slice none 0 0] (N * 3)) 66) (.cells #[.slice (some ⟨b,off,none⟩) l.length c,.int .i64 (p:Int),.string nm,.int .i64 ln,.int .i64 pr,.bool rs,.int .i64 rg,.slice a5 n5 c5,.slice a6 n6 c6,.slice a7 N c7,.slice a8 n8 c8,.slice (some ⟨w.heap.size+1+1,0,none⟩) N N,.slice none 0 0] 86)
  exact⟨_,_,rfl,⟨by omega,by omega,by omega,by rw[t6];omega,by rw[t6];omega⟩,vf_new t3 t4 t5,t5⟩
def VyPost (l:List ProtoD)(p:Nat)(w:World)(e:Ending)(w':World):Prop:=
 ∃(x:Int) (n:Nat),e=.returned (.agg #[.int .i64 x,.int .i64 (if x=0 then 0 else(p:Int)),.int .i64 (n:Int)])∧WalkSaid l (prD l p) x n∧Below w.heap.size w w'
def VyEnd (l:List ProtoD)(p:Nat)(w:World)(bV bS bT:Nat)(x:Int)(w':World):Prop:=
 x=0→∃ k σ H R iv li,Goes l (prD l p) k σ∧NoDue σ (prD l p).ins.length∧MOk (prD l p).regs.toNat (prD l p).ins.length σ∧VfW w bV bS bT H (prD l p).ins.length σ R iv li w'
def VyPostS (l:List ProtoD)(p:Nat)(w:World)(bV bS bT:Nat)(e:Ending)(w':World):Prop:=
 ∃(x:Int) (n:Nat),e=.returned (.agg #[.int .i64 x,.int .i64 (if x=0 then 0 else(p:Int)),.int .i64 (n:Int)])∧WalkSaid l (prD l p) x n∧Below w.heap.size w w'∧VyEnd l p w bV bS bT x w'
theorem VfW.off {w wr w2:World}{bV bS bT bF N:Nat}{H F:Nat→Value}{σ:Mst}{R:Nat→Value×Value}{iv:Value}{li:List Int}(h:VfW w bV bS bT H N σ R iv li wr)(hV:bV≠bF)(hS:bS≠bF)(hF:wr.rowIs bF 27 3 F)(hb:Below w.heap.size w w2)(hz:wr.heap.size≤w2.heap.size)(hk:∀ k,k≠bF→w2.heap[k]? = wr.heap[k]?):VfW w bV bS bT H N σ R iv li w2:=by
 obtain⟨cs,hF,_⟩:=hF
 have oI:∀{v:Value} {t:List Int},OwnI wr bT v t→OwnI w2 bT v t:=fun {v t} ho=>ho.sameBlock (fun k e=>hk k (fun e2=>by
  subst e2
  rcases ho.2 with⟨rfl,_⟩ | ⟨a,c,cur,rfl,_,k1,_⟩
  ·cases e
  obtain rfl:a=k:=by injection e
  rw[k1]at hF
  injection hF with hF
  injection hF with _ hF
  exact absurd hF (by decide)))
 have oG:∀{v:Value} {t:List GuD},OwnG wr bT v t→OwnG w2 bT v t:=fun {v t} ho=>ho.sameBlock (fun k e=>hk k (fun e2=>by
  subst e2
  rcases ho.2 with⟨rfl,_⟩ | ⟨a,c,cur,rfl,_,k1,_⟩
  ·cases e
  obtain rfl:a=k:=by injection e
  rw[k1]at hF
  injection hF with hF
  injection hF with _ hF
  exact absurd hF (by decide)))
 exact { h with
  old:=hb
  size:=Nat.le_trans h.size hz
  box:=h.box.of_block (hk _ hV)
  sts:=h.sts.of_block (hk _ hS)
  own:=fun i s hi hs=>⟨oI (h.own i s hi hs).1,oG (h.own i s hi hs).2⟩
  its:=oI h.its }
def VyRel (l:List ProtoD)(p:Nat)(w:World)(bV bS bT bF:Nat)(H:Nat→Value)(N R0:Nat)(gg:Nat)(wx:World):Prop:=
 ∃(q:Nat) (σ:Mst) (R:Nat→Value×Value) (iv:Value) (li:List Int),Hid (VfW w bV bS bT H N σ R iv li wx)∧Hid (Goes l (prD l p) q σ)∧Hid (MOk R0 N σ)∧Hid (left N σ=gg)∧Hid (wx.rowIs bF 27 3 (fun _=>.int .i64 0))∧Hid (iv.ownBlock≠some bF)
theorem vf_slices {w:World}{bV bS bT:Nat}{H:Nat→Value}{N:Nat}{σ:Mst}{R:Nat→Value×Value}{iv:Value}{li:List Int}{wr:World}(h:VfW w bV bS bT H N σ R iv li wr):wr.cell? ⟨bV,12,none⟩=some iv∧wr.frozen? ⟨bV,12,none⟩=false∧bV<wr.heap.size:=⟨h.box.cell (i:=12) (by omega),h.box.frozen 12,h.box.lt⟩
theorem verify_end (l:List ProtoD)(p cc:Nat)(ca:Option Addr)(S:Nat→Prop)(w:World)(hs:ProtosAt w S ca l)(hSB:∀ b,S b→b<w.heap.size)(hk:WkOk l p)(hul:∀ x,x∈l→x.ups.length≤250)(hG:RTab w)(nm:ByteArray)(ln pr:Int)(rs:Bool)(rg:Int)(v5 v6 v8:Value)(a7:Option Addr)(c7:Nat)(hpr:pr=(prD l p).params)(hrs:rs=(prD l p).rest)(hrg:rg=(prD l p).regs)(hi7:InssAt w S a7 (prD l p).ins)
  (bV bS bT:Nat)(wv:World)(hB:VfB w bV bS bT)(h:VfW w bV bS bT (hvV ca l.length cc p nm ln pr rs rg v5 v6 (.slice a7 (prD l p).ins.length c7) v8) (prD l p).ins.length sig0 (fun _=>nil2) (.slice none 0 0) [] wv) :
  Calls Tryz.prog 16 #[.pointer (some ⟨bV,0,none⟩)] wv (VyPostS l p w bV bS bT):=by
 have hn0:=hk.some_
 have hN6:=hk.few
 obtain⟨b7,o7,rfl,hb7S,hic⟩:=hi7.2 hn0
 have hb7:=hSB b7 hb7S
 obtain⟨rgn,hrgn⟩:=Int.eq_ofNat_of_zero_le hk.regs.1
 obtain⟨prn,hprn⟩:=Int.eq_ofNat_of_zero_le hk.pars.1
 have HIC:Hid (∀ a,a<(prD l p).ins.length→InsCells w b7 (o7+a * 5) (inD (prD l p) a)):=fun a ha=>hic a ha
 have HK:=hide hk
 have hR0:(prD l p).regs.toNat=rgn:=by rw[hrgn];rfl
 have hrg250:rgn≤250:=by have:=hk.regs.2;omega
 have hfirst:MOk (prD l p).regs.toNat (prD l p).ins.length (startM (prD l p)):=start_ok (prD l p) hn0 hk.regs.1
 have hm0:MOk (prD l p).regs.toNat (prD l p).ins.length sig0:=⟨(fun i s hi=>by cases hi),(fun i hi=>by cases hi)⟩
 have hpar:=hk.pars.2
 have hrest:=hk.rest
 rw[hrgn]at hpar hrest
 rw[hprn]at hpar hrest
 have hA:Below wv.heap.size wv (wv.alloc (.cells #[.int .i64 0,.int .i64 0,.int .i64 0] 27)):=(Below.refl _ _).alloc (Nat.le_refl _) _
 have h1:=h.below hA
 have HROW:Hid ((wv.alloc (.cells #[.int .i64 0,.int .i64 0,.int .i64 0] 27)).rowIs wv.heap.size 27 3 (fun _=>.int .i64 0)):=⟨_,Go.Deep.blk_alloc_new _ _,rfl,three rfl rfl rfl⟩
 have kk:∀ j,j<11→wv.cell? ⟨bV,j,none⟩=some (hvV ca l.length cc p nm ln pr rs rg v5 v6 (.slice (some ⟨b7,o7,none⟩) (prD l p).ins.length c7) v8 j):=fun j hj=>by
  rw[h.box.cell (i:=j) (by omega)]
  unfold vfV
  rw[if_neg (by omega),if_neg (by omega)]
 have k2:wv.cell? ⟨bV,2,none⟩=some (.string nm):=kk 2 (by omega)
 have k3:wv.cell? ⟨bV,3,none⟩=some (.int .i64 ln):=kk 3 (by omega)
 have k4:wv.cell? ⟨bV,4,none⟩=some (.int .i64 pr):=kk 4 (by omega)
 have k5:wv.cell? ⟨bV,5,none⟩=some (.bool rs):=kk 5 (by omega)
 have k6:wv.cell? ⟨bV,6,none⟩=some (.int .i64 rg):=kk 6 (by omega)
 have k7:wv.cell? ⟨bV,7,none⟩=some v5:=kk 7 (by omega)
 have k8:wv.cell? ⟨bV,8,none⟩=some v6:=kk 8 (by omega)
 have k9:wv.cell? ⟨bV,9,none⟩=some (.slice (some ⟨b7,o7,none⟩) (prD l p).ins.length c7):=kk 9 (by omega)
 have k10:wv.cell? ⟨bV,10,none⟩=some v8:=kk 10 (by omega)
 have lV:=h.box.lt
 rw[hpr,hprn]at k4
 rw[hrg,hrgn]at k6
 have FT:Hid (Calls Tryz.prog 40 #[.agg #[.string nm,.int .i64 ln,.int .i64 (prn:Int),.bool rs,.int .i64 (rgn:Int),v5,v6,.slice (some ⟨b7,o7,none⟩) (prD l p).ins.length c7,v8]] (wv.alloc (.cells #[.int .i64 0,.int .i64 0,.int .i64 0] 27)) (OwnRet (firstTy (prD l p)) (wv.alloc (.cells #[.int .i64 0,.int .i64 0,.int .i64 0] 27)))):=
  firstTypes_any (prD l p) nm ln prn rgn rs v5 v6 (.slice (some ⟨b7,o7,none⟩) (prD l p).ins.length c7) v8 _ hprn hrgn hrs.symm (by omega) (fun e=>by have:=hrest (by rw[←hrs];exact e);omega) hrg250
 have HV1:=hide h1
 have HVB:=hide hB
 have HM0:=hide hm0
 have HMS:=hide hfirst
 have HSH:=hide hs
 have HSB:=hide hSB
 have HUL:=hide hul
 have HG:=hide hG
 have hll:l.length≤1000000:=by have:=hk.many;omega
 have FLEN:Hid ((firstTy (prD l p)).length=rgn):=by show _=_;rw[first_len,hR0]
 have HOLD:Hid (Below w.heap.size w wv):=h.old
 have hRR:=hide hR0
 obtain⟨HH,hHH⟩:∃ HH,hvV ca l.length cc p nm ln pr rs rg v5 v6 (.slice (some ⟨b7,o7,none⟩) (prD l p).ins.length c7) v8=HH:=⟨_,rfl⟩
 have H0:Hid (HH 0=.slice ca l.length cc):=by show _=_;rw[←hHH];rfl
 have H1:Hid (HH 1=.int .i64 (p:Int)):=by show _=_;rw[←hHH];rfl
 have H9:Hid (HH 9=.slice (some ⟨b7,o7,none⟩) (prD l p).ins.length c7):=by show _=_;rw[←hHH];rfl
 rw[hHH]at HV1
 have LOB:Hid (w.heap.size≤wv.heap.size):=HOLD.out.size
 have hbT:=h.size
 clear h h1 hB hm0 hfirst hs hSB hul hG kk hHH hi7 hic hb7S hk hA hpr hrs hrg hpar hrest hR0 hrgn hprn
 go_enter Tryz.func16,Tryz.ntmps16
 go_wp2_with fail
 refine(unhide FT).mono ?_
 rintro e w2 ⟨tv,rfl,htv,hb2⟩
 obtain⟨va,vc,rfl⟩:=htv.lenV
 have HV2:=hide (HV1.out.below hb2)
 have HROW2:=hide (HROW.out.of_block (hb2.block _ (HROW.out.lt)))
 have hb2s:=hb2.size
 have hs1:(wv.alloc (.cells #[.int .i64 0,.int .i64 0,.int .i64 0] 27)).heap.size=wv.heap.size+1:=by simp
 have RC:Hid (Calls Tryz.prog 39 #[.pointer (some ⟨bV,0,none⟩),.int .i64 0,.slice va (firstTy (prD l p)).length vc,.slice none 0 0] w2 (RcPost w bV bS bT HH (prD l p).ins.length sig0 (fun _=>nil2) (.slice none 0 0) 0 ⟨firstTy (prD l p),[]⟩ w2)):=
  reach_any w bV bS bT HH (prD l p).ins.length (prD l p).regs.toNat sig0 (fun _=>nil2) (.slice none 0 0) [] 0 ⟨firstTy (prD l p),[]⟩ va none vc 0 (fun b=>b<w2.heap.size) w2 HV2.out HVB.out HM0.out hn0 hN6 (by rw[hRR.out];exact hrg250) htv.intsAt ⟨by simp,fun h=>absurd h (by simp)⟩ (fun b h=>h) (by show(firstTy (prD l p)).length≤1000;rw[FLEN.out];omega) (by simp)
 clear k2 k3 k4 k5 k6 k7 k8 k9 k10 lV FT HV1 HROW htv hb2
 go_wp2_with fail
 refine(unhide RC).mono ?_
 rintro e w3 (⟨hone,rfl,hb3⟩ | ⟨σ3,R3,iv3,l3,hone,rfl,hV3,hF3⟩)
 ·exact absurd hone (by rw[oneM_new rfl];simp)
 have hσ:σ3=startM (prD l p):=by
  rw[oneM_new rfl]at hone
  exact(Option.some.inj hone).symm
 subst hσ
 obtain⟨bF,hbF⟩:∃ bF,wv.heap.size=bF:=⟨_,rfl⟩
 rw[hs1]at hb2s
 clear hs1
 rw[hbF]at HROW2 LOB hb2s hbT ⊢
 have hoff:offV bV bS (.slice none 0 0) bF:=⟨by have:=HVB.out.o4;omega,by have:=HVB.out.o5;omega,fun e=>by cases e⟩
 have HVB4:=HVB.out.o4;have HVB5:=HVB.out.o5
 have START:Hid (VyRel l p w bV bS bT bF HH (prD l p).ins.length (prD l p).regs.toNat (left (prD l p).ins.length (startM (prD l p))) w3):=
  ⟨0,startM (prD l p),R3,iv3,l3,hV3,rfl,HMS,rfl,HROW2.out.of_block (hF3.same bF HROW2.out.lt hoff.1 hoff.2.1 hoff.2.2),fun e=>by
   rcases hF3.new bF e with e | e
   ·cases e
   ·have:=HROW2.out.lt;omega⟩
 clear hone hV3 hF3 RC HV2 HROW2 hoff
 go_wp2_with fail
 go_loopg [] (left (prD l p).ins.length (startM (prD l p))) (fun gg wx=>VyRel l p w bV bS bT bF HH (prD l p).ins.length (prD l p).regs.toNat gg wx)
 case atStart=>exact START.out
 case round=>
  clear START
  obtain⟨q,σ,R,iv,li,HV,HGo,HMO,HL,HRW,HNI⟩:=hrel
  obtain⟨c12,z12,lV⟩:=vf_slices HV.out
  obtain⟨ia,ic,rfl⟩:=HV.out.its.lenV
  have hlen:=HV.out.len HMO.out
  by_cases hl0:0<li.length
  ·obtain⟨m,hm⟩:∃ m,li.length=m+1:=⟨li.length-1,by omega⟩
   obtain⟨G,cap,eI,hG1,hG2,hGc⟩:=HV.out.its.at hl0
   have hcap:=HV.out.its.cap
   injection eI with e1 e2 e3
   subst e1
   obtain⟨a,ea,hLD⟩:=HV.out.least HMO.out hm
   have cG:=hGc m (by omega)
   rw[ea]at cG
   rw[hm]at c12 HV hcap
   have HVt:=hide (HV.out.take HVB.out hm ea)
   have TK:Hid (Calls Tryz.prog 42 #[.pointer (some ⟨bV,12,none⟩)] wr (TkPost bV 12 G m ic (a:Int) wr)):=take_any bV 12 G m ic (a:Int) wr c12 z12 cG hcap (by omega)
   cases est:σ.st a with
   | none=>exact absurd est (HMO.out.due a hLD.2.1).2
   | some s=>
    have ST:Hid (Calls Tryz.prog 41 #[.pointer (some ⟨bV,0,none⟩),.int .i64 (a:Int)] (wr.setCell ⟨bV,12,none⟩ (.slice (some ⟨G,0,none⟩) m ic)) (StPost w bV bS bT HH (prD l p).ins.length p l (inD (prD l p) a) a ⟨σ.st,upd σ.due a false⟩ s (.slice (some ⟨G,0,none⟩) m ic) (wr.setCell ⟨bV,12,none⟩ (.slice (some ⟨G,0,none⟩) m ic)))):=
     step_any w bV bS bT HH (prD l p).ins.length (prD l p).regs.toNat p l (inD (prD l p) a) a ⟨σ.st,upd σ.due a false⟩ s R (.slice (some ⟨G,0,none⟩) m ic) (li.take m) ca cc b7 o7 c7 S _ HVt.out HVB.out HMO.out.off est hLD.1 hN6 (by rw[hRR.out];exact hrg250) (insFit_of HK.out hLD.1) HG.out HSH.out HSB.out HUL.out hll H0.out H1.out H9.out hb7 (HIC.out a hLD.1)
    have HLD:=hide hLD
    have EST:=hide est
    have hGF:Hid (bF≠G):=fun e=>HNI.out (by rw[e];rfl)
    have HRWt:Hid ((wr.setCell ⟨bV,12,none⟩ (.slice (some ⟨G,0,none⟩) m ic)).rowIs bF 27 3 (fun _=>.int .i64 0)):=HRW.out.of_block (heap_setCell_other wr ⟨bV,12,none⟩ bF _ (by show bF≠bV;omega))
    have hmI:(0:Int)<(m:Int)+1:=by omega
    clear hGc cG ea hLD est hlen hl0 e2 e3 hcap
    have HMM:=hide hm
    clear hm
    go_wp2_with fail
    refine(unhide TK).mono ?_
    rintro e w4 ⟨rfl,rfl⟩
    go_wp2_with fail
    refine(unhide ST).mono ?_
    rintro e w5 ⟨hst,hfr⟩
    have HR5:=hide (HRWt.out.of_block (hfr bF HRWt.out.lt ⟨by omega,by omega,fun e=>hGF.out (Option.some.inj e).symm⟩))
    rcases hst with⟨c,kk,h1,rfl,hb5⟩ | ⟨σ',R',iv',l',h1,rfl,hV5,hnew⟩
    ·have hstep:stepM l (prD l p) σ a=.inl (c,kk):=(stepM_T EST.out).trans h1
     have hc0:c≠0:=fun e=>by
      subst e
      exact step_code HLD.out (by rw[EST.out];simp) hstep
     have RES:Hid (∀ w',Below w.heap.size w w'→VyPostS l p w bV bS bT (.returned (.agg #[.int .i64 c,.int .i64 (p:Int),.int .i64 (kk:Int)])) w'):=fun w' hb=>⟨c,kk,by rw[if_neg hc0],⟨q,σ,HGo.out,.inl ⟨a,HLD.out,hstep⟩⟩,hb,fun e=>absurd e hc0⟩
     have BB:Hid (∀ o v0 v1 v2,Below w.heap.size w (((((w5.setCell ⟨bF,0,none⟩ v0).setCell ⟨bF,1,none⟩ v1).setCell ⟨bF,2,none⟩ v2)).alloc o)):=fun o v0 v1 v2=>(set3_old hb5 LOB.out v0 v1 v2).alloc (by have:=hb5.size;simp;omega) _
     have hcb:(c != 0)=true:=by simpa using hc0
     have hcb2:(c==0)=false:=by simpa using hc0
     have r0:=HR5.out.cell (i:=0) (by omega);have r1:=HR5.out.cell (i:=1) (by omega);have r2:=HR5.out.cell (i:=2) (by omega)
     have z0:=HR5.out.frozen 0;have z1:=HR5.out.frozen 1;have z2:=HR5.out.frozen 2
     have lf:=HR5.out.lt
     clear hstep h1 hb5 hfr HR5 TK ST c12 z12 lV
     go_wp2_with fail
     exact bodyPost_ret (v:=.agg #[.int .i64 c,.int .i64 (p:Int),.int .i64 (kk:Int)]) (by simp[results,Tryz.results16,go_sem,r0,r1,r2,lf]) rfl (RES.out _ (BB.out _ _ _ _))
    ·have hstep:stepM l (prD l p) σ a=.inr σ':=(stepM_T EST.out).trans h1
     obtain⟨mo,hlt⟩:=stepM_ok (shape_fit (HK.out.ins a HLD.out.1) HLD.out.1 HK.out.regs.1) HMO.out HLD.out hstep
     have hA5:∀ o,Below w5.heap.size w5 (w5.alloc o):=fun o=>(Below.refl _ _).alloc (Nat.le_refl _) o
     have NXT:Hid (∀ o,VyRel l p w bV bS bT bF HH (prD l p).ins.length (prD l p).regs.toNat (left (prD l p).ins.length σ') (w5.alloc o)):=fun o=>
      ⟨q+1,σ',R',iv',l',hV5.below (hA5 o),⟨σ,a,HGo.out,HLD.out,hstep⟩,mo,rfl,HR5.out.of_block ((hA5 o).block _ HR5.out.lt),fun e=>by
       rcases hnew bF e with e | e
       ·exact hGF.out (Option.some.inj e).symm
       ·have:=HRWt.out.lt;omega⟩
     have HLT:Hid (left (prD l p).ins.length σ'<gk):=by show _<_;rw[←HL.out];exact hlt
     clear hstep h1 hfr hV5 hnew mo hlt hA5 HR5 TK ST c12 z12 lV
     go_wp2_with fail
     go_roundg (left (prD l p).ins.length σ')
     case measure=>exact HLT.out
     case rel=>exact NXT.out _
  ·have hli:li.length=0:=by omega
   have hnd:=HV.out.nodue hli
   have SR:Hid (Calls Tryz.prog 43 #[.pointer (some ⟨bV,0,none⟩)] wr (SrPost (prD l p) σ wr)):=
    silentRing_any w bV bS bT HH l p q (prD l p).regs.toNat σ R _ li b7 o7 c7 wr HV.out HK.out HGo.out hnd HMO.out HG.out H9.out hb7 HIC.out
   have HND:=hide hnd
   have HBO:Hid (Below w.heap.size w wr):=HV.out.old
   rw[hli]at c12
   have HVV:=hide HV.out
   clear hnd hl0 hlen hli HV
   go_wp2_with fail
   refine(unhide SR).mono ?_
   rintro e w5 ⟨n,f,rfl,hf1,hf2,hb5⟩
   have HR5:=hide (HRW.out.of_block (hb5.block _ HRW.out.lt))
   have HV5:=hide (HVV.out.below hb5)
   have B5:Hid (Below w.heap.size w w5):=HBO.out.trans (hb5.mono HBO.out.size)
   cases f with
   | true=>
    obtain⟨g1,g2,g3,g4⟩:=hf2 rfl
    have RES:Hid (∀ w',Below w.heap.size w w'→VyPostS l p w bV bS bT (.returned (.agg #[.int .i64 14,.int .i64 (p:Int),.int .i64 (n:Int)])) w'):=fun w' hb=>⟨14,n,by rw[if_neg (by decide)],⟨q,σ,HGo.out,.inr (.inl ⟨HND.out,rfl,g1,g2,g3,g4⟩)⟩,hb,fun e=>absurd e (by decide)⟩
    have FA:Hid (Calls Tryz.prog 44 #[.pointer (some ⟨bV,0,none⟩),.int .i64 14,.int .i64 (n:Int)] w5 fun e w'=>e=.returned (.agg #[.int .i64 14,.int .i64 (p:Int),.int .i64 (n:Int)])∧Below w5.heap.size w5 w'):=fault_any bV p 14 n w5 ((HV5.out.box.cell (i:=1) (by omega)).trans (congrArg some H1.out))
    clear hf1 hf2 g1 g2 g3 g4 hb5 SR c12 z12 lV
    go_wp2_with fail
    refine(unhide FA).mono ?_
    rintro e w6 ⟨rfl,hb6⟩
    have HR6:=hide (HR5.out.of_block (hb6.block _ HR5.out.lt))
    have B6:Hid (Below w.heap.size w w6):=B5.out.trans (hb6.mono B5.out.size)
    have BB:Hid (∀ v0 v1 v2,Below w.heap.size w (((w6.setCell ⟨bF,0,none⟩ v0).setCell ⟨bF,1,none⟩ v1).setCell ⟨bF,2,none⟩ v2)):=fun v0 v1 v2=>set3_old B6.out LOB.out v0 v1 v2
    have r0:=HR6.out.cell (i:=0) (by omega);have r1:=HR6.out.cell (i:=1) (by omega);have r2:=HR6.out.cell (i:=2) (by omega)
    have z0:=HR6.out.frozen 0;have z1:=HR6.out.frozen 1;have z2:=HR6.out.frozen 2
    have lf:=HR6.out.lt
    clear hb6 FA HR6 HR5
    go_wp2_with fail
    exact bodyPost_ret (v:=.agg #[.int .i64 14,.int .i64 (p:Int),.int .i64 (n:Int)]) (by simp[results,Tryz.results16,go_sem,r0,r1,r2,lf]) rfl (RES.out _ (BB.out _ _ _))
   | false=>
    have RES:Hid (∀ v0 v1 v2,VyPostS l p w bV bS bT (.returned (.agg #[.int .i64 0,.int .i64 0,.int .i64 0])) (((w5.setCell ⟨bF,0,none⟩ v0).setCell ⟨bF,1,none⟩ v1).setCell ⟨bF,2,none⟩ v2)):=fun v0 v1 v2=>by
     have hb:=set3_old B5.out LOB.out v0 v1 v2
     refine⟨0,0,by rw[if_pos rfl];rfl,⟨q,σ,HGo.out,.inr (.inr ⟨HND.out,rfl,rfl,hf1 rfl⟩)⟩,hb,fun _=>⟨q,σ,_,R,_,li,HGo.out,HND.out,HMO.out,HV5.out.off (by have:=HVB.out.o4;omega) (by have:=HVB.out.o5;omega) HR5.out hb (by simp) (fun k hk=>?_)⟩⟩
     rw[heap_setCell_other _ ⟨bF,_,none⟩ _ _ hk,heap_setCell_other _ ⟨bF,_,none⟩ _ _ hk,heap_setCell_other _ ⟨bF,_,none⟩ _ _ hk]
    have r0:=HR5.out.cell (i:=0) (by omega);have r1:=HR5.out.cell (i:=1) (by omega);have r2:=HR5.out.cell (i:=2) (by omega)
    have z0:=HR5.out.frozen 0;have z1:=HR5.out.frozen 1;have z2:=HR5.out.frozen 2
    have lf:=HR5.out.lt
    clear hf1 hf2 hb5 SR c12 z12 lV HR5
    go_wp2_with fail
    exact bodyPost_ret (v:=.agg #[.int .i64 0,.int .i64 0,.int .i64 0]) (by simp[results,Tryz.results16,go_sem,r0,r1,r2,lf]) rfl (RES.out _ _ _)
theorem verify_any (l:List ProtoD)(p cc:Nat)(ca:Option Addr)(S:Nat→Prop)(w:World)(hs:ProtosAt w S ca l)(hSB:∀ b,S b→b<w.heap.size)(hk:WkOk l p)(hul:∀ x,x∈l→x.ups.length≤250)(hG:RTab w)(nm:ByteArray)(ln pr:Int)(rs:Bool)(rg:Int)(v5 v6 v8:Value)(a7:Option Addr)(c7:Nat)(hpr:pr=(prD l p).params)(hrs:rs=(prD l p).rest)(hrg:rg=(prD l p).regs)(hi7:InssAt w S a7 (prD l p).ins)
  (bV bS bT:Nat)(wv:World)(hB:VfB w bV bS bT)(h:VfW w bV bS bT (hvV ca l.length cc p nm ln pr rs rg v5 v6 (.slice a7 (prD l p).ins.length c7) v8) (prD l p).ins.length sig0 (fun _=>nil2) (.slice none 0 0) [] wv) :
  Calls Tryz.prog 16 #[.pointer (some ⟨bV,0,none⟩)] wv (VyPost l p w):=
 (verify_end l p cc ca S w hs hSB hk hul hG nm ln pr rs rg v5 v6 v8 a7 c7 hpr hrs hrg hi7 bV bS bT wv hB h).mono (fun e w' ⟨x,n,h1,h2,h3,_⟩=>⟨x,n,h1,h2,h3⟩)
theorem ups_250 {l:List ProtoD}(h:ShapeSaid l 0 0 0):∀ x,x∈l→x.ups.length≤250:=by
 have hP:PartsSaid l 0 0 0:=by
  rcases h with⟨_,h⟩ | ⟨_,h,_⟩ | ⟨_,_,h,_⟩ | ⟨h1,_,_⟩
  ·exact absurd rfl h
  ·exact absurd h (by decide)
  ·exact absurd h (by decide)
  ·exact h1
 obtain⟨_,hh,_,_,_⟩:=parts_ok hP
 intro x hx
 obtain⟨g,hg,rfl⟩:=List.getElem_of_mem hx
 have:=hh g hg
 unfold sHeadC prD at this
 rw[List.getElem?_eq_getElem hg]at this
 simp only[Bool.and_eq_true,Option.getD_some,decide_eq_true_eq]at this
 omega
theorem checkCode_any (a:Option Addr)(l:List ProtoD)(c:Nat)(S:Nat→Prop)(w:World)(hs:ProtosAt w S a l)(hB:∀ b,S b→b<w.heap.size)(hl:tProtos l≤1048576)(hG:RTab w) :
  Calls Tryz.prog 7 #[.agg #[.slice a l.length c]] w fun e w'=>∃ x f n,e=.returned (.agg #[.int .i64 x,.int .i64 f,.int .i64 n])∧CodeSaid l x f n∧Below w.heap.size w w':=by
 have hll:l.length≤1048576:=by unfold tProtos at hl;omega
 have HPS:=hide hs
 have HBS:=hide hB
 have HC0:=hide (cc_start w a l.length c)
 have CSH:Hid (Calls Tryz.prog 14 #[.agg #[.slice a l.length c]] ((w.alloc (.cells #[.slice a l.length c] 31)).alloc (.cells #[.int .i64 0,.int .i64 0,.int .i64 0] 27)) fun e w'=>∃ x f n,e=.returned (.agg #[.int .i64 x,.int .i64 f,.int .i64 n])∧ShapeSaid l x f n∧Below ((w.alloc (.cells #[.slice a l.length c] 31)).alloc (.cells #[.int .i64 0,.int .i64 0,.int .i64 0] 27)).heap.size ((w.alloc (.cells #[.slice a l.length c] 31)).alloc (.cells #[.int .i64 0,.int .i64 0,.int .i64 0] 27)) w'):=
  checkShape_any a l c S _ (hG.keep (unhide HC0).old hG.pos) (hs.keep (unhide HC0).old hB) (fun b h=>Nat.lt_of_lt_of_le (hB b h) (unhide HC0).old.size) hl
 have HG:=hide hG
 clear hs hB hG
 go_enter Tryz.func7,Tryz.ntmps7
 go_wp2_with fail
 refine(unhide CSH).mono ?_
 rintro e w1 ⟨x,f,n,rfl,hsaid,hb1⟩
 have hC1:=(unhide HC0).below hb1
 have hA1:Below w1.heap.size w1 (w1.alloc (.cells #[.int .i64 x,.int .i64 f,.int .i64 n] 27)):=(Below.refl _ _).alloc (Nat.le_refl _) _
 have HC2:=hide (hC1.below hA1)
 have HSAID:=hide hsaid
 have hrs:=hC1.res
 have r0:=hrs.cell (i:=0) (by omega);have r1:=hrs.cell (i:=1) (by omega);have r2:=hrs.cell (i:=2) (by omega)
 have z0:=hrs.frozen 0;have z1:=hrs.frozen 1;have z2:=hrs.frozen 2
 have hbF:=hrs.lt
 have k0:=hC1.code
 have hb0:w.heap.size<w1.heap.size:=World.block_lt_of_cell? _ _ k0
 clear hsaid hb1 hA1 hrs CSH HC0
 by_cases hx:x=0
 case neg=>
  have hxb:(x != 0)=true:=by simpa using hx
  have hxb2:(x==0)=false:=by simpa using hx
  have BB:Hid (∀ v0 v1 v2,Below w.heap.size w ((((w1.setCell ⟨w.heap.size+1,0,none⟩ v0).setCell ⟨w.heap.size+1,1,none⟩ v1).setCell ⟨w.heap.size+1,2,none⟩ v2).alloc (.cells #[.int .i64 x,.int .i64 f,.int .i64 n] 27))):=fun v0 v1 v2=>(set3_old hC1.old (by omega) v0 v1 v2).alloc (by simp;omega) _
  have SD:Hid (CodeSaid l x f n):=.inl ⟨HSAID.out,hx⟩
  clear hC1 hx
  go_wp2_with fail
  exact bodyPost_ret (v:=.agg #[.int .i64 x,.int .i64 f,.int .i64 n]) (by simp[results,Tryz.results7,go_sem,r0,r1,r2,hbF]) rfl ⟨x,f,n,rfl,SD.out,BB.out _ _ _⟩
 subst hx
 obtain⟨rfl,rfl⟩:=shapeSaid_00 HSAID.out
 clear hC1
 go_wp2_with fail
 clear r0 r1 r2 z0 z1 z2 hbF k0
 go_loopg [15] l.length (fun gg i wr=>∃ q:Nat,q+gg=l.length∧i=.int .i64 q∧CcW w a l.length c wr∧Hid (∀ g,g<q→WalkSaid l (prD l g) 0 0))
 case atStart=>exact⟨0,by omega,rfl,unhide HC2,fun g h=>absurd h (Nat.not_lt_zero _)⟩
 case round=>
  clear HC2 hb0
  obtain⟨q,hq,rfl,hC,hall⟩:=hrel
  have k0:=hC.code
  have hb0:w.heap.size<wr.heap.size:=World.block_lt_of_cell? _ _ k0
  by_cases hlt:q<l.length
  ·have HC:=hide hC
   have hkk:=wkOk_of HSAID.out hlt
   obtain⟨nm,ln,pr,rs,rg,a5,a6,a7,a8,n5,n6,n8,c5,c6,c7,c8,⟨e1,e2,e3,i7⟩,hNV⟩:=newVerifier_any a l c q S wr ((unhide HPS).keep hC.old (unhide HBS)) (fun b h=>Nat.lt_of_lt_of_le (unhide HBS b h) hC.old.size) hlt hkk.few
   have NV:=hide hNV
   have VY:Hid (∀(bV bS:Nat) (wv:World),VfB wr bV bS wv.heap.size→VfW wr bV bS wv.heap.size (hvV a l.length c q nm ln pr rs rg (.slice a5 n5 c5) (.slice a6 n6 c6) (.slice a7 (prD l q).ins.length c7) (.slice a8 n8 c8)) (prD l q).ins.length sig0 (fun _=>nil2) (.slice none 0 0) [] wv→Calls Tryz.prog 16 #[.pointer (some ⟨bV,0,none⟩)] wv (VyPost l q wr)):=fun bV bS wv h1 h2=>
    verify_any l q c a S wr ((unhide HPS).keep hC.old (unhide HBS)) (fun b h=>Nat.lt_of_lt_of_le (unhide HBS b h) hC.old.size) hkk (ups_250 HSAID.out) (HG.out.keep hC.old HG.out.pos) nm ln pr rs rg (.slice a5 n5 c5) (.slice a6 n6 c6) (.slice a8 n8 c8) a7 c7 e1 e2 e3 i7 bV bS wv.heap.size wv h1 h2
   clear hkk hNV e1 e2 e3 i7
   clear hC
   go_wp2_with fail
   refine(unhide NV).mono ?_
   rintro e w2 ⟨bV,bS,rfl,hvb,hvf,hb2⟩
   have VC:=hide (VY.out bV bS w2 hvb hvf)
   clear hvb hvf NV VY hb2
   go_wp2_with fail
   refine(unhide VC).mono ?_
   rintro e w3 ⟨x,n,rfl,hws,hb3⟩
   have hC3:=(unhide HC).below hb3
   have hA3:Below w3.heap.size w3 (w3.alloc (.cells #[.int .i64 x,.int .i64 (if x=0 then 0 else(q:Int)),.int .i64 (n:Int)] 27)):=(Below.refl _ _).alloc (Nat.le_refl _) _
   have HC4:=hide (hC3.below hA3)
   have HC3:=hide hC3
   have hrs:=hC3.res
   have HWS:=hide hws
   have r0:=hrs.cell (i:=0) (by omega);have r1:=hrs.cell (i:=1) (by omega);have r2:=hrs.cell (i:=2) (by omega)
   have z0:=hrs.frozen 0;have z1:=hrs.frozen 1;have z2:=hrs.frozen 2
   have hbF:=hrs.lt
   clear hws hb3 hC3 hA3 hrs VC k0 hb0
   by_cases hx:x=0
   ·subst hx
    have hn:n=0:=by
     obtain⟨k,σ,h1,h2⟩:=HWS.out
     rcases h2 with⟨b,h4,h5⟩ | ⟨_,h4,_⟩ | ⟨_,_,h4,_⟩
     ·have hk:=wkOk_of HSAID.out hlt
      have hm:=goes_ok (fun a ha=>shape_fit (hk.ins a ha) ha hk.regs.1) (start_ok (prD l q) hk.some_ hk.regs.1) h1
      exact absurd h5 (step_code h4 (hm.due b h4.2.1).2)
     ·exact absurd h4 (by decide)
     ·exact h4
    subst hn
    have NX:Hid (∀ g,g<q+1→WalkSaid l (prD l g) 0 0):=fun g hg=>by
     by_cases e:g=q
     ·subst e;exact HWS.out
     ·exact hall.out g (by omega)
    rw[if_pos rfl]at HC4
    clear r0 r1 r2 z0 z1 z2 hbF
    go_wp2_with fail
    go_roundg (l.length-(q+1))
    case measure=>omega
    case rel=>exact⟨q+1,by omega,by go_num,unhide HC4,NX⟩
   ·have hxb:(x != 0)=true:=by simpa using hx
    have hxb2:(x==0)=false:=by simpa using hx
    rw[if_neg hx]at HC4
    have hif:(if x=0 then 0 else(q:Int))=(q:Int):=if_neg hx
    rw[hif]
    have BB:Hid (∀ v0 v1 v2,Below w.heap.size w ((((w3.setCell ⟨w.heap.size+1,0,none⟩ v0).setCell ⟨w.heap.size+1,1,none⟩ v1).setCell ⟨w.heap.size+1,2,none⟩ v2).alloc (.cells #[.int .i64 x,.int .i64 (q:Int),.int .i64 (n:Int)] 27))):=fun v0 v1 v2=>(set3_old (unhide HC3).old (by omega) v0 v1 v2).alloc (by have:=(unhide HC3).old.size;simp;omega) _
    have SD:Hid (CodeSaid l x (q:Int) (n:Int)):=.inr (.inl ⟨HSAID.out,hx,q,n,rfl,rfl,hlt,HWS.out,hall.out⟩)
    clear hx hif
    go_wp2_with fail
    exact bodyPost_ret (v:=.agg #[.int .i64 x,.int .i64 (q:Int),.int .i64 (n:Int)]) (by simp[results,Tryz.results7,go_sem,r0,r1,r2,hbF]) rfl ⟨x,q,n,rfl,SD.out,BB.out _ _ _⟩
  ·have hql:q=l.length:=by omega
   have hrs:=hC.res
   have r0:=hrs.cell (i:=0) (by omega);have r1:=hrs.cell (i:=1) (by omega);have r2:=hrs.cell (i:=2) (by omega)
   have z0:=hrs.frozen 0;have z1:=hrs.frozen 1;have z2:=hrs.frozen 2
   have hbF:=hrs.lt
   have BB:Hid (∀ v0 v1 v2,Below w.heap.size w (((wr.setCell ⟨w.heap.size+1,0,none⟩ v0).setCell ⟨w.heap.size+1,1,none⟩ v1).setCell ⟨w.heap.size+1,2,none⟩ v2)):=fun v0 v1 v2=>set3_old hC.old (by omega) v0 v1 v2
   have SD:Hid (CodeSaid l 0 0 0):=.inr (.inr ⟨HSAID.out,rfl,rfl,rfl,fun g hg=>hall.out g (by omega)⟩)
   have hge:¬((q:Int)<(l.length:Int)):=by omega
   clear hrs hql hC
   go_wp2_with fail
   exact bodyPost_ret (v:=.agg #[.int .i64 0,.int .i64 0,.int .i64 0]) (by simp[results,Tryz.results7,go_sem,r0,r1,r2,hbF]) rfl ⟨0,0,0,rfl,SD.out,BB.out _ _ _⟩
theorem eqCodeFault_same (c f n:Int)(w:World):Calls Tryz.prog 8 #[.agg #[.int .i64 c,.int .i64 f,.int .i64 n],.agg #[.int .i64 c,.int .i64 f,.int .i64 n]] w fun e w'=>e=.returned (.bool true)∧Below w.heap.size w w':=by
 have h1:(c != c)=false:=by simp
 have h2:(f != f)=false:=by simp
 have h3:(n != n)=false:=by simp
 go_enter Tryz.func8,Tryz.ntmps8
 go_wp2_with fail
 go_ret
 exact⟨rfl,by repeat (first | refine Below.alloc ?_ (by simp<;>omega) _ | exact Below.refl _ _)⟩
def ImplCode (G:World→Prop):Prop:=
 ∀(a:Option Addr) (l:List ProtoD) (c:Nat) (S:Nat→Prop) (w:World),G w→ProtosAt w S a l→(∀ b,S b→b<w.heap.size)→tProtos l≤1048576 →
  Calls Tryz.prog 7 #[.agg #[.slice a l.length c]] w fun e w'=>∃ x f n,e=.returned (.agg #[.int .i64 x,.int .i64 f,.int .i64 n])∧CodeSaid l x f n∧Below w.heap.size w w'
theorem toCode_from {a:Option Addr}{l:List ProtoD}{c:Nat}{S:Nat→Prop}(w W:World)(hs:ProtosAt w S a l)(hB:∀ b,S b→b<w.heap.size)(hl:tProtos l≤1048576)(hW:Below w.heap.size w W) :
  Calls Tryz.prog 6 #[.agg #[.slice a l.length c]] W fun e w'=>∃ a' c',e=.returned (.agg #[.slice a' l.length c'])∧ProtosAt w' (New W.heap.size w') a' l∧Below W.heap.size W w':=
 toCode_any a l c S W (hs.keep hW hB) (fun b h=>Nat.lt_of_lt_of_le (hB b h) hW.size) hl
theorem eqCode_from {a b:Option Addr}{l:List ProtoD}{ca cb:Nat}{S:Nat→Prop}(W:World)(h1:ProtosAt W S a l)(h2:ProtosAt W S b l)(hB:∀ b,S b→b<W.heap.size) :
  Calls Tryz.prog 9 #[.agg #[.slice a l.length ca],.agg #[.slice b l.length cb]] W fun e w'=>e=.returned (.bool true)∧Below W.heap.size W w':=eqCode_same a b l ca cb S W h1 h2 hB
theorem lawCode_any (G:World→Prop)(hG:∀ w w',Below w.heap.size w w'→G w→G w')(himp:ImplCode G)(a:Option Addr)(l:List ProtoD)(c:Nat)(S:Nat→Prop)(w:World)(g0:G w)(hs:ProtosAt w S a l)(hB:∀ b,S b→b<w.heap.size) :
  Calls Tryz.prog 3 #[.agg #[.slice a l.length c]] w fun e w'=>e=.returned (.bool true)∧Below w.heap.size w w':=by
 have hbA:∀ o,Below w.heap.size w (w.alloc o):=fun o=>(Below.refl _ _).alloc (Nat.le_refl _) o
 have HS:=hide hs
 have HB:=hide hB
 have HG:=hide hG
 have G0:=hide g0
 have HI:=hide himp
 have FN:Hid (∀ W:World,Below w.heap.size w W→ProtosAt W S a l∧∀ b,S b→b<W.heap.size):=fun W hW=>⟨hs.keep hW hB,fun b h=>Nat.lt_of_lt_of_le (hB b h) hW.size⟩
 have HBA:=hide hbA
 clear hs hB hG g0 himp hbA
 by_cases q:(1048576:Int)<tProtos l
 ·have B1:Hid (bud 1048576 (tProtos l)=-1):=bud_no q
  go_enter Tryz.func3,Tryz.ntmps3
  go_wp2_with fail
  refine(szCode_any a l c S _ (unhide FN _ (unhide HBA _)).1 (unhide FN _ (unhide HBA _)).2).mono ?_
  rintro e w1 ⟨rfl,hb1⟩
  rw[B1.out]
  go_wp2_with fail
  go_ret
  exact⟨rfl,(unhide HBA _).trans (hb1.mono (unhide HBA _).size)⟩
 have hl:tProtos l≤1048576:=by omega
 have B1:Hid (bud 1048576 (tProtos l)=1048576-tProtos l):=bud_yes (by omega)
 have hle:(tProtos l:Int)≤1048576:=by omega
 go_enter Tryz.func3,Tryz.ntmps3
 go_wp2_with fail
 refine(szCode_any a l c S _ (unhide FN _ (unhide HBA _)).1 (unhide FN _ (unhide HBA _)).2).mono ?_
 rintro e w1 ⟨rfl,hb1⟩
 rw[B1.out]
 have hw1:Below w.heap.size w w1:=(unhide HBA _).trans (hb1.mono (unhide HBA _).size)
 have v1:w1.cell? ⟨w.heap.size,0,none⟩=some (.slice a l.length c):=by rw[hb1.cell (p:=⟨w.heap.size,0,none⟩) (by simp)];simp[go_sem]
 have s1:w.heap.size+1≤w1.heap.size:=by have:=hb1.size;simpa using this
 have s1':w.heap.size<w1.heap.size:=by omega
 clear hb1
 go_wp2_with fail
 refine(toCode_from w1 _ (unhide FN _ hw1).1 (unhide FN _ hw1).2 hl (Below.refl _ _)).mono ?_
 rintro e w2 ⟨a2,c2,rfl,hF2,hb2⟩
 have hw2:Below w.heap.size w w2:=hw1.trans (hb2.mono hw1.size)
 have v2:w2.cell? ⟨w.heap.size,0,none⟩=some (.slice a l.length c):=(hb2.cell (p:=⟨w.heap.size,0,none⟩) s1').trans v1
 have s2:=hb2.size
 clear hb2 v1
 go_wp2_with fail
 refine(spec_CheckCode_any a2 l c2 _ w2 hF2 (fun b h=>h.2) hl).mono ?_
 rintro e w3 ⟨x,f,n,rfl,hU3,hb3⟩
 have hw3:Below w.heap.size w w3:=hw2.trans (hb3.mono hw2.size)
 have v3:w3.cell? ⟨w.heap.size,0,none⟩=some (.slice a l.length c):=(hb3.cell (p:=⟨w.heap.size,0,none⟩) (by show w.heap.size<w2.heap.size;omega)).trans v2
 have s3:=hb3.size
 have HU3:=hide hU3
 clear hb3 v2 hF2 hU3
 have s3':w.heap.size<w3.heap.size:=by omega
 go_wp2_with fail
 refine(toCode_from w _ (unhide HS) (unhide HB) hl (hw3.alloc hw3.size _)).mono ?_
 rintro e w4 ⟨a4,c4,rfl,hF4,hb4⟩
 have hw4:Below w.heap.size w w4:=(hw3.alloc hw3.size _).trans (hb4.mono (hw3.alloc hw3.size _).size)
 have s4:w3.heap.size+1≤w4.heap.size:=by have:=hb4.size;simpa using this
 have v4:w4.cell? ⟨w.heap.size,0,none⟩=some (.slice a l.length c):=by
  rw[hb4.cell (p:=⟨w.heap.size,0,none⟩) (by simp;omega),Below.cell (B:=w3.heap.size) ((Below.refl _ _).alloc (Nat.le_refl _) _) (p:=⟨w.heap.size,0,none⟩) (by show w.heap.size<w3.heap.size;omega)];exact v3
 have r4:∀ j,j<3→w4.cell? ⟨w3.heap.size,j,none⟩=some (sel3 (.int .i64 x) (.int .i64 f) (.int .i64 n) j):=fun j hj=>by
  rw[hb4.cell (p:=⟨w3.heap.size,j,none⟩) (by simp)]
  have:j=0∨j=1∨j=2:=by omega
  rcases this with rfl | rfl | rfl<;>simp[go_sem,sel3]
 have HF4:=hide hF4
 have HR4:=hide r4
 clear hb4 v3 hF4 r4
 have s4':w.heap.size<w4.heap.size:=by omega
 have s4'':w3.heap.size<w4.heap.size:=by omega
 go_wp2_with fail
 refine(unhide HI a4 l c4 _ _ (unhide HG _ _ (hw4.alloc hw4.size _) (unhide G0)) ((unhide HF4).keep (B:=w4.heap.size) ((Below.refl _ _).alloc (Nat.le_refl _) _) (fun b h=>h.2)) (fun b h=>by have:=h.2;simp;omega) hl).mono ?_
 rintro e w5 ⟨x',f',n',rfl,hU5,hb5⟩
 obtain⟨rfl,rfl,rfl⟩:=codeSaid_unique (unhide HU3) hU5
 have hA4:Below w4.heap.size w4 w5:=((Below.refl _ _).alloc (Nat.le_refl _) _).trans (hb5.mono (by simp))
 have hw5:Below w.heap.size w w5:=hw4.trans (hA4.mono hw4.size)
 have s5:w4.heap.size+1≤w5.heap.size:=by have:=hb5.size;simpa using this
 have v5:w5.cell? ⟨w.heap.size,0,none⟩=some (.slice a l.length c):=(hA4.cell (p:=⟨w.heap.size,0,none⟩) s4').trans v4
 have r5:∀ j,j<3→w5.cell? ⟨w3.heap.size,j,none⟩=_:=fun j hj=>(hA4.cell (p:=⟨w3.heap.size,j,none⟩) s4'').trans (unhide HR4 j hj)
 have r50:w5.cell? ⟨w3.heap.size,0,none⟩=some (.int .i64 x):=r5 0 (by omega)
 have r51:w5.cell? ⟨w3.heap.size,1,none⟩=some (.int .i64 f):=r5 1 (by omega)
 have r52:w5.cell? ⟨w3.heap.size,2,none⟩=some (.int .i64 n):=r5 2 (by omega)
 have x5:w5.cell? ⟨w4.heap.size,0,none⟩=some (.slice a4 l.length c4):=by rw[hb5.cell (p:=⟨w4.heap.size,0,none⟩) (by simp)];simp[go_sem]
 have HF5:=hide ((unhide HF4).keep hA4 (fun b h=>h.2))
 clear hb5 hU5 HU3 v4 r5 HR4
 have s5':w.heap.size<w5.heap.size:=by omega
 have s5'':w3.heap.size<w5.heap.size:=by omega
 have s5''':w4.heap.size<w5.heap.size:=by omega
 go_wp2_with fail
 refine(eqCodeFault_same _ _ _ _).mono ?_
 rintro e w6 ⟨rfl,hb6⟩
 have hA5:Below w5.heap.size w5 w6:=((Below.refl _ _).alloc (Nat.le_refl _) _).trans (hb6.mono (by simp))
 have hw6:Below w.heap.size w w6:=hw5.trans (hA5.mono hw5.size)
 have v6:w6.cell? ⟨w.heap.size,0,none⟩=some (.slice a l.length c):=(hA5.cell (p:=⟨w.heap.size,0,none⟩) s5').trans v5
 have x6:w6.cell? ⟨w4.heap.size,0,none⟩=some (.slice a4 l.length c4):=(hA5.cell (p:=⟨w4.heap.size,0,none⟩) s5''').trans x5
 have s6:=hA5.size
 have HF6:Hid (ProtosAt w6 (fun b=>b<w6.heap.size) a4 l):=((unhide HF5).keep hA5 (fun b h=>by have:=h.2;omega)).mono (fun b h=>by have:=h.2;omega)
 clear hb6 v5 x5 r50 r51 r52
 have s6':w.heap.size<w6.heap.size:=by omega
 have s6'':w4.heap.size<w6.heap.size:=by omega
 have TU:Hid (Calls Tryz.prog 6 #[.agg #[.slice a l.length c]] w6.drew fun e w'=>∃ a' c',e=.returned (.agg #[.slice a' l.length c'])∧ProtosAt w' (New w6.heap.size w') a' l∧Below w6.heap.size w6.drew w'):=toCode_from w w6.drew (unhide HS) (unhide HB) hl hw6.drew
 have EU:Hid (∀(w7:World) (a7:Option Addr) (c7:Nat),ProtosAt w7 (New w6.heap.size w7) a7 l→Below w6.heap.size w6.drew w7→Calls Tryz.prog 9 #[.agg #[.slice a4 l.length c4],.agg #[.slice a7 l.length c7]] w7 fun e w'=>e=.returned (.bool true)∧Below w7.heap.size w7 w'):=fun w7 a7 c7 h7 hb7=>
  eqCode_from (S:=fun b=>b<w7.heap.size) w7 (((unhide HF6).keep (B:=w6.heap.size) (w':=w7) ⟨hb7.os,hb7.tape,hb7.output,hb7.size,hb7.block⟩ (fun b h=>h)).mono (fun b h=>Nat.lt_of_lt_of_le h hb7.size)) (h7.mono (fun b h=>h.2)) (fun b h=>h)
 have CL:Hid (∀ w7,Below w6.heap.size w6.drew w7→w7.cell? ⟨w.heap.size,0,none⟩=some (.slice a l.length c)∧w7.cell? ⟨w4.heap.size,0,none⟩=some (.slice a4 l.length c4)):=fun w7 h7=>
  ⟨(h7.cell (p:=⟨w.heap.size,0,none⟩) s6').trans v6,(h7.cell (p:=⟨w4.heap.size,0,none⟩) s6'').trans x6⟩
 go_wp2_with fail
 go_region_held3 (fun w'=>w'.cell? ⟨w.heap.size,0,none⟩=some (.slice a l.length c)∧w'.cell? ⟨w4.heap.size,0,none⟩=some (.slice a4 l.length c4)) (simp[go_sem, *])
  (first
   | (go_at_call 6;refine(unhide TU).mono ?_;rintro e w7 ⟨a7,c7,rfl,hF7,hb7⟩;obtain⟨v7,x7⟩:=unhide CL w7 hb7)
   | (go_at_call 9;refine(unhide EU _ _ _ hF7 hb7).mono ?_;rintro e w8 ⟨rfl,hb8⟩;have v8:=(hb8.cell (p:=⟨w.heap.size,0,none⟩) (by have:=hb7.size;simp at this ⊢;omega)).trans v7;have x8:=(hb8.cell (p:=⟨w4.heap.size,0,none⟩) (by have:=hb7.size;simp at this ⊢;omega)).trans x7))
 all_goals (go_wp2_with fail)
 all_goals go_ret
 all_goals exact⟨rfl,(hw6.drew.trans (hb7.mono hw6.size)).trans (hb8.mono (Nat.le_trans hw6.size hb7.size))⟩
theorem c_role:Tryz.prog.cellsOf 181=4:=by kernel_rfl
theorem c_roles:Tryz.prog.cellsOf 182=172:=by kernel_rfl
theorem c_i:Tryz.prog.cellsOf 3=1:=by kernel_rfl
def rolesName:String:=Rows.fnExactCheckCodeRow.named.headD ""
theorem g_roles:Tryz.prog.globalNamed rolesName=some 1:=by kernel_rfl
theorem g_type:(Tryz.prog.globals[1]?).map (·.type)=some 182:=by kernel_rfl
def roleDatum {H:Type}(i:Nat):DataW H:=.agg [.lit (.int .i64 (iRole i 0:Nat)),.lit (.int .i64 (iRole i 1:Nat)),.lit (.int .i64 (iRole i 2:Nat)),.lit (.int .i64 (iRole i 3:Nat))]
theorem laid_eq {H:Type}:(Rows.laid_loop_example_draft_impl_insRoles:DataW H)=.agg ((List.range 43).map roleDatum):=rfl
theorem len4L {α:Type}:∀(l:List α),l.length=4→∃ a b c d,l=[a,b,c,d]
 | [a,b,c,d],_=>⟨a,b,c,d,rfl⟩
 | [],h | [_],h | [_,_],h | [_,_,_],h | _::_::_::_::_::_,h=>by simp at h
section
variable {H:Type} {enc:TypeId×Value→H} {w:World} {base:Nat} {sp:Nat→Bool} {held:Bool} {fuel:Nat} {cs:List Value} {p:List MemPlace}
theorem role_cells {a0 a1 a2 a3:Int}(h:DataW.trod enc Tryz.prog w base sp held fuel 181 cs=some (.agg [.lit (.int .i64 a0),.lit (.int .i64 a1),.lit (.int .i64 a2),.lit (.int .i64 a3)],p)) :
  cs=[.int .i64 a0,.int .i64 a1,.int .i64 a2,.int .i64 a3]:=by
 obtain⟨xs,n,_,hx,hl,hlen,hf⟩:=DataW.trod_struct Tryz.underlying181 h
 rw[c_role]at hl
 have hlen:xs.length=4:=hlen
 obtain⟨v0,v1,v2,v3,rfl⟩:=len4L cs hl
 obtain⟨x0,x1,x2,x3,rfl⟩:=len4L xs hlen
 have f0:DataW.trod enc Tryz.prog w base sp held n 3 ((List.drop 0 [v0,v1,v2,v3]).take (Tryz.prog.cellsOf 3))=some x0:=hf 0 _ rfl
 have f1:DataW.trod enc Tryz.prog w base sp held n 3 ((List.drop 1 [v0,v1,v2,v3]).take (Tryz.prog.cellsOf 3))=some x1:=hf 1 _ rfl
 have f2:DataW.trod enc Tryz.prog w base sp held n 3 ((List.drop 2 [v0,v1,v2,v3]).take (Tryz.prog.cellsOf 3))=some x2:=hf 2 _ rfl
 have f3:DataW.trod enc Tryz.prog w base sp held n 3 ((List.drop 3 [v0,v1,v2,v3]).take (Tryz.prog.cellsOf 3))=some x3:=hf 3 _ rfl
 rw[c_i]at f0 f1 f2 f3
 obtain⟨z0,e0,rfl,_⟩:=DataW.trod_int Tryz.underlying3 f0
 obtain⟨z1,e1,rfl,_⟩:=DataW.trod_int Tryz.underlying3 f1
 obtain⟨z2,e2,rfl,_⟩:=DataW.trod_int Tryz.underlying3 f2
 obtain⟨z3,e3,rfl,_⟩:=DataW.trod_int Tryz.underlying3 f3
 simp at e0 e1 e2 e3 hx
 obtain⟨⟨h0,h1,h2,h3⟩,_⟩:=hx
 rw[e0,e1,e2,e3,h0,h1,h2,h3]
theorem roles_cells (h:DataW.trod enc Tryz.prog w base sp held fuel 182 cs=some (.agg ((List.range 43).map roleDatum),p)) :
  cs.length=172∧∀ i,i<43→∀ j,j<4→cs[i * 4+j]? = some (.int .i64 (iRole i j:Nat)):=by
 obtain⟨xs,m,_,hx,hl,hlen,hf⟩:=DataW.trod_array Tryz.underlying182 h
 rw[c_roles]at hl
 refine⟨hl,fun i hi=>?_⟩
 have h1:=hf i hi
 rw[c_role]at h1
 have hx1:(List.range 43).map roleDatum=xs.map (·.1):=by
  have:=congrArg Prod.fst hx
  simpa using this
 have h2:(xs[i]'(by omega)).1=roleDatum i:=by
  have e:=congrArg (·[i]?) hx1
  simp only[List.getElem?_map,List.getElem?_range hi,List.getElem?_eq_getElem (show i<xs.length by omega),Option.map_some,Option.some.injEq]at e
  exact e.symm
 rw[List.getElem?_eq_getElem (show i<xs.length by omega)]at h1
 generalize xs[i]'(by omega)=y at h1 h2
 obtain⟨y1,y2⟩:=y
 simp only at h2
 subst h2
 have h3:=role_cells h1
 have h4:∀ j,j<4→cs[i * 4+j]? = ((cs.drop (i * 4)).take 4)[j]?:=fun j hj=>by
  rw[List.getElem?_take,if_pos hj,List.getElem?_drop]
 intro j hj
 rw[h4 j hj,h3]
 have hc:j=0∨j=1∨j=2∨j=3:=by omega
 rcases hc with rfl | rfl | rfl | rfl<;>rfl
end
theorem rtab_of {W:World}(h:laidMetH Tryz.prog Rows.fnExactCheckCodeRow.laid W):RTab W:=by
 have h:laidMet Tryz.prog [(rolesName,Rows.laid_loop_example_draft_impl_insRoles)] W:=h
 obtain⟨ps,⟨g',t',cs,fuel,p,q,hg',ht',hvar,hd,_,_⟩,_⟩:=h
 obtain rfl:=Option.some.inj (g_roles.symm.trans hg')
 obtain rfl:=Option.some.inj (g_type.symm.trans ht')
 rw[laid_eq]at hd
 obtain⟨h1,h2⟩:=roles_cells hd
 unfold World.var? at hvar
 rw[g_roles]at hvar
 simp only[Option.bind_some]at hvar
 cases e:W.heap[1]? with
 | none=>rw[e]at hvar;cases hvar
 | some o=>
  rw[e]at hvar
  cases o with
  | cells c t fr=>
   simp only[Option.some.injEq]at hvar
   subst hvar
   exact⟨_,t,fr,e,by simpa using h1,fun i hi j hj=>by simpa using h2 i hi j hj⟩
  | map es clock=>cases hvar
  | _=>cases hvar
end Go.Proofs.YtmjcpapdncfkpaaGreatDoor
