import Derived.Test.YthmjjhfjkgaocaaGreatDoorPart35
import Derived.Deep.CutRange
import Derived.Deep.RegionHeld3
import Derived.Deep.RegionWith
import Derived.BigQuiet
import Derived.Test.YthmjjhfjkgaocaaGreatDoorPart32
set_option linter.unusedSimpArgs false
set_option linter.unusedVariables false
set_option maxHeartbeats 8000000
set_option maxRecDepth 1000000
namespace Go.Proofs.YthmjjhfjkgaocaaGreatDoor
open Go.RowKit
theorem info_st:(Tryz.prog.info? 62).map (fun i=>(i.zero,i.size,i.bytes))=some (some (.agg #[.bool false,.slice none 0 0,.slice none 0 0]),3,56):=by kernel_rfl
theorem info_bl:(Tryz.prog.info? 4).map (fun i=>(i.zero,i.size,i.bytes))=some (some (.bool false),1,1):=by kernel_rfl
theorem l6walk_any (l:List ProtoD)(p c:Nat)(a:Option Addr)(S:Nat→Prop)(w:World)(hs:ProtosAt w S a l)(hB:∀ b,S b→b<w.heap.size)(hk:WkOk l p) :
  Calls Tryz.prog 15 #[.agg #[.slice a l.length c],.int .i64 p] w (WkPost l p w):=by
 obtain⟨b,off,rfl,hb,hpc⟩:=hs.2 (by have:=hk.here;omega)
 have PC:ProtoCells w S b (off+p * 9) (prD l p):=hpc p hk.here
 have hbs:b<w.heap.size:=hB b hb
 obtain⟨a5,c5,e5,i5⟩:=PC.ups
 obtain⟨a6,c6,e6,i6⟩:=PC.consts
 obtain⟨a7,c7,e7,i7⟩:=PC.ins
 obtain⟨a8,c8,e8,i8⟩:=PC.named
 have e0:=PC.name;have e1:=PC.line;have e2:=PC.params;have e3:=PC.rest;have e4:=PC.regs
 have HPS:=hide hs
 have HBS:=hide hB
 have HK:=hide hk
 have HI7:=hide i7
 obtain⟨m,hm⟩:∃ m,l.length=m:=⟨_,rfl⟩
 have HM:=hide hm
 rw[hm]
 have hpl:(p:Int)<m:=by have:=hk.here;omega
 have hni:=hk.few
 have hn0:=hk.some_
 obtain⟨rg,hrg⟩:=Int.eq_ofNat_of_zero_le hk.regs.1
 obtain⟨pr,hpr⟩:=Int.eq_ofNat_of_zero_le hk.pars.1
 have hrg2:rg≤250:=by have:=hk.regs.2;omega
 have hprg:pr≤rg:=by have:=hk.pars.2;omega
 have hrst:(prD l p).rest=true→pr<rg:=fun h=>by have:=hk.rest h;omega
 rw[hrg]at e4
 rw[hpr]at e2
 have HRG:=hide hrg
 have HPR:=hide hpr
 have hml:m≤200:=by have:=hk.many;omega
 have FG:Hid (∀ j,j<rg→(firstTy (prD l p))[j]?.getD 0=if j<pr then 1 else if(prD l p).rest=true∧j=pr then 3 else 0):=fun j hj=>by
  rw[first_get _ hk.regs.1 j (by omega),hpr]
  by_cases c1:j<pr
  ·rw[if_pos c1,if_pos (by omega)]
  ·rw[if_neg c1,if_neg (by omega)]
   by_cases c2:(prD l p).rest=true∧j=pr
   ·rw[if_pos c2,if_pos ⟨c2.1,by omega⟩]
   ·rw[if_neg c2,if_neg (fun h=>c2 ⟨h.1,by omega⟩)]
 have FL:Hid ((firstTy (prD l p)).length=rg):=by show _=_;rw[first_len,hrg];rfl
 have ST0:Hid (MOk (prD l p).regs.toNat (prD l p).ins.length (startM (prD l p))):=start_ok (prD l p) hk.some_ hk.regs.1
 clear hs hB hk i5 i6 i7 i8 PC hpc hrg hpr hm
 generalize hnm:(prD l p).name=nm at *
 generalize hln:(prD l p).line=ln at *
 generalize hn5:(prD l p).ups.length=n5 at *
 generalize hn6:(prD l p).consts.length=n6 at *
 generalize hn8:(prD l p).named.length=n8 at *
 obtain⟨ni,hnI⟩:∃ ni,(prD l p).ins.length=ni:=⟨_,rfl⟩
 have HNI:=hide hnI
 rw[hnI]at e7 hni hn0 ST0
 generalize hrs:(prD l p).rest=rs at *
 have hmk1:=run_make_wide (P:=Tryz.prog) 26 62 _ 3 56 Tryz.underlying26 info_st .i64 .i64 ni (by omega) (by omega)
 have hmk2:=run_make_row' (P:=Tryz.prog) 74 4 (.bool false) 1 Tryz.underlying74 info_bl rfl .i64 .i64 ni (by omega) (by omega)
 have hmk3:=run_make_row' (P:=Tryz.prog) 54 3 (.int .i64 0) 8 Tryz.underlying54 info_i rfl .i64 .i64 rg (by omega) (by omega)
 have HRST:=hide hrst
 clear hnm hln hrs hn5 hn6 hn8 hnI hrst
 go_enter Tryz.func15,Tryz.ntmps15
 go_wp2_with fail
 clear hmk1 hmk2 hmk3 e0 e1 e2 e3 e4 e5 e6 e7 e8
 obtain⟨bC,hC⟩:∃ x,x=w.heap.size:=⟨_,rfl⟩
 obtain⟨bF,hF⟩:∃ x,x=w.heap.size+1:=⟨_,rfl⟩
 obtain⟨bP,hP⟩:∃ x,x=w.heap.size+1+1:=⟨_,rfl⟩
 obtain⟨bS,hS⟩:∃ x,x=w.heap.size+1+1+1:=⟨_,rfl⟩
 obtain⟨bD,hD⟩:∃ x,x=w.heap.size+1+1+1+1:=⟨_,rfl⟩
 obtain⟨bT,hT⟩:∃ x,x=w.heap.size+1+1+1+1+1:=⟨_,rfl⟩
 have HB:Hid (WkB w bC bF bP bS bD bT):=⟨by omega,by omega,by omega,by omega,by omega,by omega⟩
 have HW0:=wk_start w (some ⟨b,off,none⟩) m c nm ln (pr:Int) rs (rg:Int) (.slice a5 n5 c5) (.slice a6 n6 c6) (.slice a7 ni c7) (.slice a8 n8 c8) ni rg
 rw[←hT,←hD,←hS,←hP,←hF,←hC]at HW0
 obtain⟨HW0,HR0⟩:=HW0
 rw[←hT,←hD,←hS,←hP,←hF,←hC]
 have HW0':=HW0
 have HR0':=HR0
 unfold start5 at HW0' HR0'
 clear HW0 HR0
 have p2:=(unhide HW0').prot.2.2.1
 have p3:=(unhide HW0').prot.2.2.2.1
 generalize (((((w.alloc (.cells #[.slice (some ⟨b,off,none⟩) m c] 30)).alloc (.cells #[.int .i64 0,.int .i64 0,.int .i64 0] 39)).alloc (.cells #[.string nm,.int .i64 ln,.int .i64 (pr:Int),.bool rs,.int .i64 (rg:Int),.slice a5 n5 c5,.slice a6 n6 c6,.slice a7 ni c7,.slice a8 n8 c8] 53)).alloc (.cells (madeCells #[.bool false,.slice none 0 0,.slice none 0 0] (ni * 3)) 62)).alloc (.cells (madeCells #[.bool false] ni) 4)).alloc (.cells (madeCells #[.int .i64 0] rg) 3)=w0 at *
 have HZ:Hid (bC=w.heap.size∧bF=w.heap.size+1∧bP=w.heap.size+1+1∧bS=w.heap.size+1+1+1∧bD=w.heap.size+1+1+1+1∧bT=w.heap.size+1+1+1+1+1):=⟨hC,hF,hP,hS,hD,hT⟩
 clear hC hF hP hS hD hT
 go_loopg [10] pr (fun gg i wr=>∃ r:Nat,r+gg=pr∧i=.int .i64 r∧WkW w bC bF bP bS bD bT (some ⟨b,off,none⟩) m c nm ln pr rs rg (.slice a5 n5 c5) (.slice a6 n6 c6) (.slice a7 ni c7) (.slice a8 n8 c8) ni sig0 (fun _=>nil2) wr∧wr.rowIs bT 3 rg (fun j=>.int .i64 (if j<r then 1 else 0)))
 case atStart=>exact⟨0,by omega,rfl,unhide HW0',(unhide HR0').congr (fun j hj=>by simp)⟩
 case round=>
  clear HW0' HR0' p2 p3
  obtain⟨r,hr,rfl,hW,hrow⟩:=hrel
  have q2:=hW.prot.2.2.1
  have q3:=hW.prot.2.2.2.1
  have hbP:bP<wr.heap.size:=World.block_lt_of_cell? _ _ q2
  have hbT:=hrow.lt
  by_cases hlt:r<pr
  ·have hg:=hrow.cell (i:=r) (by omega)
   have hz:=hrow.frozen r
   have hrI:(r:Int)<rg:=by omega
   have HW1:=hide (hW.setNew (unhide HB) bT r (.int .i64 1) (Nat.le_refl _))
   have HR1:Hid ((wr.setCell ⟨bT,r,none⟩ (.int .i64 1)).rowIs bT 3 rg (fun j=>.int .i64 (if j<r+1 then 1 else 0))):=(hrow.set r _).congr (fun j hj=>by
    by_cases e:j=r
    ·subst e;simp
    ·have:(j<r+1)=(j<r):=by apply propext;omega
     simp[e,this])
   clear hW hrow
   go_wp2_with fail
   go_roundg (pr-(r+1))
   case measure=>omega
   case rel=>exact⟨r+1,by omega,by go_num,unhide HW1,unhide HR1⟩
  ·have hrp:r=pr:=by omega
   subst hrp
   have HW:=hide hW
   have HROW:=hide hrow
   clear hW hrow
   cases rs
   ·have HOWN:Hid (OwnI wr bT (.slice (some ⟨bT,0,none⟩) rg rg) (firstTy (prD l p))):=own_of_row (unhide HROW) FL.out (Nat.le_refl _) (by omega) (fun j hj=>by
     rw[unhide FG j hj]
     by_cases c:j<r
     ·rw[if_pos c,if_pos c]
     ·rw[if_neg c,if_neg c,if_neg (fun h=>Bool.noConfusion h.1)])
    go_upto_region 11 with fail
    rename_i K9 h9
    exact wk11 l p S w bC bF bP bS bD bT _ m c nm ln _ _ _ a5 a6 a7 a8 n5 n6 ni n8 c5 c6 c7 c8 HB HK HNI HM HPS HBS HI7 hni _ _ _ _ _ _ _ _ _ _ _ _ _ _ _ _ _ _ _ _ _ _ _ _ _ _ _ _ _ _ _ _ _ _ _ _ _ _ _ _ _ _ _ _ _ _ _ _ _ _ _ _ _ _ _ _ _ _ _ _ _ _ _ _ _ _ _ _ _ _ _ _ _ _ _ _ _ _ _ _ _ _ _ _ _ _ _ _ _ _ _ _ _ _ _ _ _ _ _ _ _ _ _ _ _ _ _ _ _ _ _ _ _ _ _ _ _ _ _ _ _ _ _ _ _ _ _ _ _ _ _ _ _ _ _ _ _ _ _ _ _ _ _ _ _ _ _ _ _ _ _ _ _ _ _ _ _ _ _ _ _ _ _ _ _ _ _ _ _ _ _ _ _ _ _ _ _ _ _ _ _ _ _ _ _ _ _ _ _ _ _ _ _ _ _ _ _ _ _ _ _ _ wr rg hn0 HW HOWN ST0 K9 h9
   ·have hrr:r<rg:=HRST.out rfl
    have hg:=(unhide HROW).cell (i:=r) hrr
    have hz:=(unhide HROW).frozen r
    have hrI:(r:Int)<rg:=by omega
    have HW1:=hide ((unhide HW).setNew (unhide HB) bT r (.int .i64 3) (Nat.le_refl _))
    have HOWN:Hid (OwnI (wr.setCell ⟨bT,r,none⟩ (.int .i64 3)) bT (.slice (some ⟨bT,0,none⟩) rg rg) (firstTy (prD l p))):=own_of_row ((unhide HROW).set r _) FL.out (Nat.le_refl _) (by omega) (fun j hj=>by
     rw[unhide FG j hj]
     show(if j=r then Value.int .i64 3 else .int .i64 (if j<r then 1 else 0))=_
     by_cases c:j<r
     ·rw[if_neg (by omega),if_pos c,if_pos c]
     ·by_cases c2:j=r
      ·rw[if_pos c2,if_neg c,if_pos ⟨rfl,c2⟩]
      ·rw[if_neg c2,if_neg c,if_neg c,if_neg (fun h=>c2 h.2)])
    clear HW HROW
    go_upto_region 11 with fail
    rename_i K9 h9
    exact wk11 l p S w bC bF bP bS bD bT _ m c nm ln _ _ _ a5 a6 a7 a8 n5 n6 ni n8 c5 c6 c7 c8 HB HK HNI HM HPS HBS HI7 hni _ _ _ _ _ _ _ _ _ _ _ _ _ _ _ _ _ _ _ _ _ _ _ _ _ _ _ _ _ _ _ _ _ _ _ _ _ _ _ _ _ _ _ _ _ _ _ _ _ _ _ _ _ _ _ _ _ _ _ _ _ _ _ _ _ _ _ _ _ _ _ _ _ _ _ _ _ _ _ _ _ _ _ _ _ _ _ _ _ _ _ _ _ _ _ _ _ _ _ _ _ _ _ _ _ _ _ _ _ _ _ _ _ _ _ _ _ _ _ _ _ _ _ _ _ _ _ _ _ _ _ _ _ _ _ _ _ _ _ _ _ _ _ _ _ _ _ _ _ _ _ _ _ _ _ _ _ _ _ _ _ _ _ _ _ _ _ _ _ _ _ _ _ _ _ _ _ _ _ _ _ _ _ _ _ _ _ _ _ _ _ _ _ _ _ _ _ _ _ _ _ _ _ rg hn0 HW1 HOWN ST0 K9 h9
structure CcW (w:World)(a:Option Addr)(m c:Nat)(wr:World):Prop where
 old:Below w.heap.size w wr
 code:wr.cell? ⟨w.heap.size,0,none⟩=some (.slice a m c)
 res:wr.rowIs (w.heap.size+1) 39 3 (fun _=>.int .i64 0)
theorem CcW.below {w:World}{a:Option Addr}{m c:Nat}{wr w2:World}(h:CcW w a m c wr)(hb:Below wr.heap.size wr w2):CcW w a m c w2:=
 ⟨h.old.trans (hb.mono h.old.size),(hb.cell (p:=⟨w.heap.size,0,none⟩) (World.block_lt_of_cell? _ _ h.code)).trans h.code,h.res.of_block (hb.block _ h.res.lt)⟩
theorem cc_start (w:World)(a:Option Addr)(m c:Nat):CcW w a m c ((w.alloc (.cells #[.slice a m c] 30)).alloc (.cells #[.int .i64 0,.int .i64 0,.int .i64 0] 39)):=by
 refine⟨((Below.refl _ _).alloc (Nat.le_refl _) _).alloc (by simp) _,by simp[go_sem],?_⟩
 have h:=World.rowIs_alloc (w.alloc (.cells #[.slice a m c] 30)) #[.int .i64 0,.int .i64 0,.int .i64 0] 39 (fun _=>.int .i64 0) (fun i hi=>by
  match i,hi with
  | 0,_=>rfl
  | 1,_=>rfl
  | 2,_=>rfl)
 exact row_at h (by simp)
theorem step_code {l:List ProtoD}{x:ProtoD}{σ:Mst}{N a n:Nat}(ha:LeastDue σ N a)(hm:σ.st a≠none):stepM l x σ a≠.inl (0,n):=by
 unfold stepM
 cases e:σ.st a with
 | none=>exact absurd e hm
 | some s=>
  intro h
  change (match readC l (inD x a) s.types with | none=>(Sum.inl (10,a):(Int×Nat) ⊕ Mst) | some r=>_)=_ at h
  cases e1:readC l (inD x a) s.types with
  | none=>rw[e1]at h;simp at h
  | some r=>
   rw[e1]at h
   change (match changeC (inD x a) s.guards with | none=>(Sum.inl (11,a):(Int×Nat) ⊕ Mst) | some g=>_)=_ at h
   cases e2:changeC (inD x a) s.guards with
   | none=>rw[e2]at h;simp at h
   | some g=>
    rw[e2]at h
    change (if _ then _ else _)=_ at h
    split at h
    ·cases e3:allM (followC (inD x a) a s (writeC (inD x a) r.types) g) ⟨σ.st,upd σ.due a false⟩with
     | inl y=>rw[e3]at h;simp at h
     | inr σ2=>rw[e3]at h;cases h
    ·simp at h
theorem goes_ok {l:List ProtoD}{x:ProtoD}{R:Nat}(hf:∀ a,a<x.ins.length→InFit (inD x a) a R x.ins.length)(h0:MOk R x.ins.length (startM x)):∀{k:Nat}{σ:Mst},Goes l x k σ→MOk R x.ins.length σ
 | 0,σ,h=>by rw[h];exact h0
 | k+1,σ,⟨σ',a,h1,h2,h3⟩=>(stepM_ok (hf a h2.1) (goes_ok hf h0 h1) h2 h3).1
theorem shapeSaid_00 {l:List ProtoD}{f n:Int}(h:ShapeSaid l 0 f n):f=0∧n=0:=by
 rcases h with⟨_,h⟩ | ⟨_,h,_⟩ | ⟨_,_,h,_⟩ | ⟨_,_,_,h1,h2,_⟩
 ·exact absurd rfl h
 ·exact absurd h (by decide)
 ·exact absurd h (by decide)
 ·exact⟨h1,h2⟩
theorem spec_CheckCode_any (a:Option Addr)(l:List ProtoD)(c:Nat)(S:Nat→Prop)(w:World)(hs:ProtosAt w S a l)(hB:∀ b,S b→b<w.heap.size)(hl:tProtos l≤1048576) :
  Calls Tryz.prog 14 #[.agg #[.slice a l.length c]] w fun e w'=>∃ x f n,e=.returned (.agg #[.int .i64 x,.int .i64 f,.int .i64 n])∧CodeSaid l x f n∧Below w.heap.size w w':=by
 have hll:l.length≤1048576:=by unfold tProtos at hl;omega
 have HPS:=hide hs
 have HBS:=hide hB
 have HC0:=hide (cc_start w a l.length c)
 have CSH:Hid (Calls Tryz.prog 29 #[.agg #[.slice a l.length c]] ((w.alloc (.cells #[.slice a l.length c] 30)).alloc (.cells #[.int .i64 0,.int .i64 0,.int .i64 0] 39)) fun e w'=>∃ x f n,e=.returned (.agg #[.int .i64 x,.int .i64 f,.int .i64 n])∧ShapeSaid l x f n∧Below ((w.alloc (.cells #[.slice a l.length c] 30)).alloc (.cells #[.int .i64 0,.int .i64 0,.int .i64 0] 39)).heap.size ((w.alloc (.cells #[.slice a l.length c] 30)).alloc (.cells #[.int .i64 0,.int .i64 0,.int .i64 0] 39)) w'):=
  checkShape_spec a l c S _ (hs.keep (unhide HC0).old hB) (fun b h=>Nat.lt_of_lt_of_le (hB b h) (unhide HC0).old.size) hl
 clear hs hB
 go_enter Tryz.func14,Tryz.ntmps14
 go_wp2_with fail
 refine(unhide CSH).mono ?_
 rintro e w1 ⟨x,f,n,rfl,hsaid,hb1⟩
 have hC1:=(unhide HC0).below hb1
 have hA1:Below w1.heap.size w1 (w1.alloc (.cells #[.int .i64 x,.int .i64 f,.int .i64 n] 39)):=(Below.refl _ _).alloc (Nat.le_refl _) _
 have HC2:=hide (hC1.below hA1)
 have HSAID:=hide hsaid
 have hrs:=hC1.res
 have r0:=hrs.cell (i:=0) (by omega);have r1:=hrs.cell (i:=1) (by omega);have r2:=hrs.cell (i:=2) (by omega)
 have z0:=hrs.frozen 0;have z1:=hrs.frozen 1;have z2:=hrs.frozen 2
 have hbF:=hrs.lt
 have k0:=hC1.code
 have hb0:w.heap.size<w1.heap.size:=World.block_lt_of_cell? _ _ k0
 clear hsaid hb1 hA1 hrs CSH HC0
 by_cases hx:x=0
 case neg=>
  have hxb:(x != 0)=true:=by simpa using hx
  have BB:Hid (∀ v0 v1 v2,Below w.heap.size w ((((w1.setCell ⟨w.heap.size+1,0,none⟩ v0).setCell ⟨w.heap.size+1,1,none⟩ v1).setCell ⟨w.heap.size+1,2,none⟩ v2).alloc (.cells #[.int .i64 x,.int .i64 f,.int .i64 n] 39))):=fun v0 v1 v2=>(set3_old hC1.old (by omega) v0 v1 v2).alloc (by simp;omega) _
  have SD:Hid (CodeSaid l x f n):=.inl ⟨HSAID.out,hx⟩
  clear hC1 hx
  go_wp2_with fail
  exact bodyPost_ret (v:=.agg #[.int .i64 x,.int .i64 f,.int .i64 n]) (by simp[results,Tryz.results14,go_sem,r0,r1,r2,hbF]) rfl ⟨x,f,n,rfl,SD.out,BB.out _ _ _⟩
 subst hx
 obtain⟨rfl,rfl⟩:=shapeSaid_00 HSAID.out
 clear hC1
 go_wp2_with fail
 clear r0 r1 r2 z0 z1 z2 hbF k0
 go_loopg [16] l.length (fun gg i wr=>∃ q:Nat,q+gg=l.length∧i=.int .i64 q∧CcW w a l.length c wr∧Hid (∀ g,g<q→WalkSaid l (prD l g) 0 0))
 case atStart=>exact⟨0,by omega,rfl,unhide HC2,fun g h=>absurd h (Nat.not_lt_zero _)⟩
 case round=>
  clear HC2 hb0
  obtain⟨q,hq,rfl,hC,hall⟩:=hrel
  have k0:=hC.code
  have hb0:w.heap.size<wr.heap.size:=World.block_lt_of_cell? _ _ k0
  by_cases hlt:q<l.length
  ·have HC:=hide hC
   have WK:Hid (Calls Tryz.prog 15 #[.agg #[.slice a l.length c],.int .i64 q] wr (WkPost l q wr)):=l6walk_any l q c a S wr ((unhide HPS).keep hC.old (unhide HBS)) (fun b h=>Nat.lt_of_lt_of_le (unhide HBS b h) hC.old.size) (wkOk_of HSAID.out hlt)
   clear hC
   go_wp2_with fail
   refine(unhide WK).mono ?_
   rintro e w3 ⟨v,x,n,rfl,hws,_,hb3⟩
   have hC3:=(unhide HC).below hb3
   have hA3:Below w3.heap.size w3 (w3.alloc (.cells #[.int .i64 x,.int .i64 (if x=0 then 0 else(q:Int)),.int .i64 (n:Int)] 39)):=(Below.refl _ _).alloc (Nat.le_refl _) _
   have HC4:=hide (hC3.below hA3)
   have HC3:=hide hC3
   have hrs:=hC3.res
   have HWS:=hide hws
   have r0:=hrs.cell (i:=0) (by omega);have r1:=hrs.cell (i:=1) (by omega);have r2:=hrs.cell (i:=2) (by omega)
   have z0:=hrs.frozen 0;have z1:=hrs.frozen 1;have z2:=hrs.frozen 2
   have hbF:=hrs.lt
   clear hws hb3 hC3 hA3 hrs WK k0 hb0
   by_cases hx:x=0
   ·subst hx
    have NX:Hid (∀ g,g<q+1→WalkSaid l (prD l g) 0 0):=fun g hg=>by
     by_cases e:g=q
     ·subst e
      have h:=HWS.out
      obtain⟨k,σ,h1,h2⟩:=h
      have h3:=h2
      rcases h2 with⟨b,h4,h5⟩ | ⟨_,h4,_⟩ | ⟨_,_,h4,_⟩
      ·have hk:=wkOk_of HSAID.out hlt
       have hm:=goes_ok (fun a ha=>shape_fit (hk.ins a ha) ha hk.regs.1) (start_ok (prD l g) hk.some_ hk.regs.1) h1
       exact absurd h5 (step_code h4 (hm.due b h4.2.1).2)
      ·exact absurd h4 (by decide)
      ·subst h4;exact⟨k,σ,h1,h3⟩
     ·exact hall.out g (by omega)
    rw[if_pos rfl]at HC4
    clear r0 r1 r2 z0 z1 z2 hbF
    go_wp2_with fail
    go_roundg (l.length-(q+1))
    case measure=>omega
    case rel=>exact⟨q+1,by omega,by go_num,unhide HC4,NX⟩
   ·have hxb:(x != 0)=true:=by simpa using hx
    rw[if_neg hx]at HC4
    have hif:(if x=0 then 0 else(q:Int))=(q:Int):=if_neg hx
    rw[hif]
    have BB:Hid (∀ v0 v1 v2,Below w.heap.size w ((((w3.setCell ⟨w.heap.size+1,0,none⟩ v0).setCell ⟨w.heap.size+1,1,none⟩ v1).setCell ⟨w.heap.size+1,2,none⟩ v2).alloc (.cells #[.int .i64 x,.int .i64 (q:Int),.int .i64 (n:Int)] 39))):=fun v0 v1 v2=>(set3_old (unhide HC3).old (by omega) v0 v1 v2).alloc (by have:=(unhide HC3).old.size;simp;omega) _
    have SD:Hid (CodeSaid l x (q:Int) (n:Int)):=.inr (.inl ⟨HSAID.out,hx,q,n,rfl,rfl,hlt,HWS.out,hall.out⟩)
    clear hx hif
    go_wp2_with fail
    exact bodyPost_ret (v:=.agg #[.int .i64 x,.int .i64 (q:Int),.int .i64 (n:Int)]) (by simp[results,Tryz.results14,go_sem,r0,r1,r2,hbF]) rfl ⟨x,q,n,rfl,SD.out,BB.out _ _ _⟩
  ·have hql:q=l.length:=by omega
   have hrs:=hC.res
   have r0:=hrs.cell (i:=0) (by omega);have r1:=hrs.cell (i:=1) (by omega);have r2:=hrs.cell (i:=2) (by omega)
   have z0:=hrs.frozen 0;have z1:=hrs.frozen 1;have z2:=hrs.frozen 2
   have hbF:=hrs.lt
   have BB:Hid (∀ v0 v1 v2,Below w.heap.size w (((wr.setCell ⟨w.heap.size+1,0,none⟩ v0).setCell ⟨w.heap.size+1,1,none⟩ v1).setCell ⟨w.heap.size+1,2,none⟩ v2)):=fun v0 v1 v2=>set3_old hC.old (by omega) v0 v1 v2
   have SD:Hid (CodeSaid l 0 0 0):=.inr (.inr ⟨HSAID.out,rfl,rfl,rfl,fun g hg=>hall.out g (by omega)⟩)
   have hge:¬((q:Int)<(l.length:Int)):=by omega
   clear hrs hql hC
   go_wp2_with fail
   exact bodyPost_ret (v:=.agg #[.int .i64 0,.int .i64 0,.int .i64 0]) (by simp[results,Tryz.results14,go_sem,r0,r1,r2,hbF]) rfl ⟨0,0,0,rfl,SD.out,BB.out _ _ _⟩
def StsPost (l:List ProtoD)(f:Int)(w:World)(e:Ending)(w':World):Prop:=
 ∃ v,e=.returned v∧((CodeSaid l 0 0 0∧0≤f∧f<l.length∧StatesAt l (prD l f.toNat) w.heap.size v w')∨(¬(CodeSaid l 0 0 0∧0≤f∧f<l.length)∧v=.slice none 0 0))∧Below w.heap.size w w'
end Go.Proofs.YthmjjhfjkgaocaaGreatDoor
namespace Go.Proofs.YthmjjhfjkgaocaaGreatDoor
structure TD where
 types:List Int
 seen:List Nat
 taken:List Nat
 puts:List (Nat×Int)
 wrong:Bool
def seeT (reg:Nat)(kind:Int)(t:TD):TD:=⟨t.types,t.seen++[reg],t.taken,t.puts,t.wrong||tyAt t.types reg != kind⟩
def putT (reg:Nat)(kind:Int)(t:TD):TD:=⟨t.types,t.seen,t.taken,t.puts++[(reg,kind)],t.wrong⟩
def takeT (reg:Nat)(t:TD):TD:=⟨t.types,t.seen,t.taken++[reg],t.puts,t.wrong⟩
def readT (x kind:Int)(t:TD):TD:=
 if 0≤x then⟨t.types,t.seen,t.taken,t.puts,t.wrong||tyAt t.types x.toNat != kind⟩
 else⟨t.types.set (-1-x).toNat 0,t.seen,t.taken++[(-1-x).toNat],t.puts,t.wrong||tyAt t.types (-1-x).toNat != kind||t.seen.contains (-1-x).toNat⟩
def fieldT (r:Nat)(x:Int)(t:TD):TD:=
 if r=12 then readT x 1 t
 else if r=13 then readT x 3 t
 else if r=14 then seeT x.toNat 1 t
 else if r=15 then seeT x.toNat 2 t
 else if r=16 then seeT x.toNat 3 t
 else if r=17 then seeT (x.toNat+1) 1 (seeT x.toNat 1 t)
 else if r=18 then seeT (x.toNat+2) 1 (seeT (x.toNat+1) 1 (seeT x.toNat 1 t))
 else if r=19 then putT (x.toNat+1) 1 (takeT x.toNat (seeT (x.toNat+1) 0 (seeT x.toNat 1 t)))
 else if r=20 then putT x.toNat 1 t
 else if r=21 then putT x.toNat 2 t
 else if r=22 then putT x.toNat 3 t
 else if r=23 then putT x.toNat 0 t
 else t
def fieldsT (n:InsD)(t:TD):Nat→TD
 | 0=>t
 | k+1=>fieldT (iRole n.op.toNat k) (insF n k) (fieldsT n t k)
def upsT (us:List (Bool×Int))(t:TD):Nat→TD
 | 0=>t
 | k+1=>if(us[k]?.getD (false,0)).1 then seeT (us[k]?.getD (false,0)).2.toNat 2 (upsT us t k)else upsT us t k
def putsT (ps:List (Nat×Int))(ty:List Int):Nat→List Int
 | 0=>ty
 | k+1=>(putsT ps ty k).set (ps[k]?.getD (0,0)).1 (ps[k]?.getD (0,0)).2
def start (ty:List Int):TD:=⟨ty,[],[],[],false⟩
def readsT (l:List ProtoD)(n:InsD)(ty:List Int):TD:=if n.op=11 then upsT (prD l n.fb.toNat).ups (fieldsT n (start ty) 4) (prD l n.fb.toNat).ups.length else fieldsT n (start ty) 4
def touchT (l:List ProtoD)(n:InsD)(ty:List Int):TD:=let t:=readsT l n ty;⟨putsT t.puts t.types t.puts.length,t.seen,t.taken,t.puts,t.wrong⟩
def TRel (o:Option RdS)(t:TD):Prop:=match o with
 | none=>t.wrong=true
 | some s=>t.wrong=false∧t.types=s.types∧t.taken=s.taken∧t.seen=s.stay
theorem trel_read {o:Option RdS}{t:TD}{x W:Int}{q:Nat}(hq:q=2∧W=1∨q=3∧W=3)(h:TRel o t):TRel (o.bind fun s=>rdF q x s) (readT x W t):=by
 cases o with
 | none=>
  change t.wrong=true at h
  show(readT x W t).wrong=true
  unfold readT
  split<;>simp[h]
 | some s=>
  obtain⟨h1,h2,h3,h4⟩:=h
  show TRel (rdF q x s) (readT x W t)
  rw[rdF_op hq]
  by_cases hx:x<0
  ·have hx0:¬0≤x:=by omega
   have e:regOf true x=(-1-x).toNat:=by unfold regOf;rw[if_pos ⟨rfl,hx⟩]
   rw[e,if_pos hx]
   unfold readT
   rw[if_neg hx0,h2,h4]
   by_cases c1:tyAt s.types (-1-x).toNat=W
   ·rw[if_neg (fun c=>c c1)]
    by_cases c2:(-1-x).toNat∈s.stay
    ·rw[if_pos c2]
     show _=true
     simp[c2]
    ·rw[if_neg c2]
     exact⟨by simp[h1,c1,c2],rfl,by rw[h3],rfl⟩
   ·rw[if_pos c1]
    show _=true
    simp[c1]
  ·have hx0:0≤x:=by omega
   have e:regOf true x=x.toNat:=by unfold regOf;rw[if_neg (fun h=>hx h.2)]
   rw[e,if_neg hx]
   unfold readT
   rw[if_pos hx0,h2]
   by_cases c1:tyAt s.types x.toNat=W
   ·rw[if_neg (fun c=>c c1)]
    exact⟨by simp[h1,c1],rfl,h3,h4⟩
   ·rw[if_pos c1]
    show _=true
    simp[c1]
theorem trel_see {o:Option RdS}{t:TD}{x W:Int}{q:Nat}(hq:q=4∧W=1∨q=5∧W=2∨q=6∧W=3)(h:TRel o t):TRel (o.bind fun s=>rdF q x s) (seeT x.toNat W t):=by
 cases o with
 | none=>
  change t.wrong=true at h
  show(seeT x.toNat W t).wrong=true
  simp[seeT,h]
 | some s=>
  obtain⟨h1,h2,h3,h4⟩:=h
  show TRel (rdF q x s) (seeT x.toNat W t)
  by_cases c1:tyAt s.types x.toNat=W
  ·rw[rdF_place hq c1]
   exact⟨by simp[seeT,h1,h2,c1],h2,h3,by simp[seeT,h4]⟩
  ·have hw:wantsC q=(W,false):=by rcases hq with⟨rfl,rfl⟩ | ⟨rfl,rfl⟩ | ⟨rfl,rfl⟩<;>rfl
   have hW0:W≠0:=by rcases hq with⟨_,rfl⟩ | ⟨_,rfl⟩ | ⟨_,rfl⟩<;>decide
   rw[rdF_type hw hW0 (by unfold regOf;rw[if_neg (fun h=>Bool.noConfusion h.1)];exact c1)]
   show _=true
   simp[seeT,h2,c1]
theorem trel_skip {o:Option RdS}{t t':TD}{x:Int}{q:Nat}(hq:(wantsC q).1=0)(ht:t'.wrong=t.wrong∧t'.types=t.types∧t'.taken=t.taken∧t'.seen=t.seen)(h:TRel o t):TRel (o.bind fun s=>rdF q x s) t':=by
 obtain⟨e1,e2,e3,e4⟩:=ht
 cases o with
 | none=>show t'.wrong=true;rw[e1];exact h
 | some s=>
  show TRel (rdF q x s) t'
  rw[rdF_skip hq]
  obtain⟨h1,h2,h3,h4⟩:=h
  exact⟨e1.trans h1,e2.trans h2,e3.trans h3,e4.trans h4⟩
theorem trel_field {o:Option RdS}{t:TD}{x:Int}{r:Nat}(hr:r≤23)(h17:r≠17∧r≠18∧r≠19)(h:TRel o t):TRel (o.bind fun s=>rdF (mapR r) x s) (fieldT r x t):=by
 have hc:r=0∨r=1∨r=2∨r=3∨r=4∨r=5∨r=6∨r=7∨r=8∨r=9∨r=10∨r=11∨r=12∨r=13∨r=14∨r=15∨r=16∨r=20∨r=21∨r=22∨r=23:=by omega
 rcases hc with rfl | rfl | rfl | rfl | rfl | rfl | rfl | rfl | rfl | rfl | rfl | rfl | rfl | rfl | rfl | rfl | rfl | rfl | rfl | rfl | rfl
 all_goals first
  | exact trel_skip (by decide) ⟨rfl,rfl,rfl,rfl⟩ h
  | exact trel_read (.inl ⟨rfl,rfl⟩) h
  | exact trel_read (.inr ⟨rfl,rfl⟩) h
  | exact trel_see (.inl ⟨rfl,rfl⟩) h
  | exact trel_see (.inr (.inl ⟨rfl,rfl⟩)) h
  | exact trel_see (.inr (.inr ⟨rfl,rfl⟩)) h
def TRelW (o:Option RdS)(t:TD):Prop:=match o with
 | none=>t.wrong=true
 | some s=>t.wrong=false∧t.types=s.types∧t.taken=s.taken
theorem TRel.weak {o:Option RdS}{t:TD}(h:TRel o t):TRelW o t:=by
 cases o with
 | none=>exact h
 | some s=>exact⟨h.1,h.2.1,h.2.2.1⟩
theorem rdUpto_bind {r:List Nat}{n:InsD}{s:RdS}{k:Nat}:rdUpto r n s (k+1)=(rdUpto r n s k).bind fun s'=>rdF (r[k]?.getD 0) (insF n k) s':=by
 show(match rdUpto r n s k with | none=>none | some s'=>rdF (r[k]?.getD 0) (insF n k) s')=_
 cases rdUpto r n s k<;>rfl
def mapRs (op:Nat):List Nat:=[mapR (iRole op 0),mapR (iRole op 1),mapR (iRole op 2),mapR (iRole op 3)]
theorem mapRs_get (op k:Nat)(hk:k<4):(mapRs op)[k]?.getD 0=mapR (iRole op k):=by
 have hc:k=0∨k=1∨k=2∨k=3:=by omega
 rcases hc with rfl | rfl | rfl | rfl<;>rfl
def plainOp (op:Nat):Bool:=(List.range 4).all fun k=>decide (iRole op k≠17∧iRole op k≠18∧iRole op k≠19)
theorem plain_all:∀ op,op<43→op=37∨op=38∨op=39∨op=40∨op=41∨plainOp op=true:=by decide
theorem plain_ops (op:Nat)(h:op<43)(h1:op≠37)(h2:op≠38)(h3:op≠39)(h4:op≠40)(h5:op≠41):plainOp op=true:=by
 rcases plain_all op h with e | e | e | e | e | e
 ·exact absurd e h1
 ·exact absurd e h2
 ·exact absurd e h3
 ·exact absurd e h4
 ·exact absurd e h5
 ·exact e
theorem plain_get {op k:Nat}(h:plainOp op=true)(hk:k<4):iRole op k≠17∧iRole op k≠18∧iRole op k≠19:=by
 unfold plainOp at h
 rw[List.all_eq_true]at h
 have:=h k (List.mem_range.2 hk)
 simpa using this
theorem trel_start (ty:List Int):TRel (some ⟨ty,[],[]⟩) (start ty):=⟨rfl,rfl,rfl,rfl⟩
theorem trel_fields {n:InsD}{op:Nat}(ho:n.op=(op:Int))(h43:op<43)(hp:plainOp op=true)(ty:List Int):∀ k,k≤4→TRel (rdUpto (mapRs op) n ⟨ty,[],[]⟩ k) (fieldsT n (start ty) k)
 | 0,_=>trel_start ty
 | k+1,hk=>by
  rw[rdUpto_bind,mapRs_get op k (by omega)]
  show TRel _ (fieldT (iRole n.op.toNat k) (insF n k) (fieldsT n (start ty) k))
  rw[ho,Int.toNat_natCast]
  exact trel_field (iRole_le op h43 k (by omega)) (plain_get hp (by omega)) (trel_fields ho h43 hp ty k (by omega))
theorem trelW_skip {o:Option RdS}{t t':TD}{x:Int}{q:Nat}(hq:(wantsC q).1=0)(ht:t'.wrong=t.wrong∧t'.types=t.types∧t'.taken=t.taken)(h:TRelW o t):TRelW (o.bind fun s=>rdF q x s) t':=by
 obtain⟨e1,e2,e3⟩:=ht
 cases o with
 | none=>show t'.wrong=true;rw[e1];exact h
 | some s=>
  show TRelW (rdF q x s) t'
  rw[rdF_skip hq]
  obtain⟨h1,h2,h3⟩:=h
  exact⟨e1.trans h1,e2.trans h2,e3.trans h3⟩
theorem fieldT_skip {r:Nat}{x:Int}{t:TD}(hr:r≤11∨20≤r)(h23:r≤23):(wantsC (mapR r)).1=0∧(fieldT r x t).wrong=t.wrong∧(fieldT r x t).types=t.types∧(fieldT r x t).taken=t.taken:=by
 have hc:r=0∨r=1∨r=2∨r=3∨r=4∨r=5∨r=6∨r=7∨r=8∨r=9∨r=10∨r=11∨r=20∨r=21∨r=22∨r=23:=by omega
 rcases hc with rfl | rfl | rfl | rfl | rfl | rfl | rfl | rfl | rfl | rfl | rfl | rfl | rfl | rfl | rfl | rfl<;>exact⟨by decide,rfl,rfl,rfl⟩
def bigOp (op:Nat):Bool:=(List.range 3).all fun k=>decide (iRole op (k+1)≤11∨20≤iRole op (k+1))
theorem big_get {op k:Nat}(h:bigOp op=true)(hk:k<3):iRole op (k+1)≤11∨20≤iRole op (k+1):=by
 unfold bigOp at h
 rw[List.all_eq_true]at h
 have:=h k (List.mem_range.2 hk)
 simpa using this
theorem trelW_first {n:InsD}{op:Nat}(ho:n.op=(op:Int))(ty:List Int)(hr:iRole op 0=17∨iRole op 0=18∨iRole op 0=19):TRelW (rdUpto (mapRs op) n ⟨ty,[],[]⟩ 1) (fieldsT n (start ty) 1):=by
 rw[rdUpto_bind,mapRs_get op 0 (by omega)]
 show TRelW (rdF (mapR (iRole op 0)) (insF n 0) ⟨ty,[],[]⟩) (fieldT (iRole n.op.toNat 0) (insF n 0) (start ty))
 rw[ho,Int.toNat_natCast]
 generalize insF n 0=x
 have bad:∀ q,wantsC q=(1,false)→tyAt ty x.toNat≠1→rdF q x ⟨ty,[],[]⟩=none:=fun q hq h=>rdF_type hq (by decide) (by unfold regOf;rw[if_neg (fun h=>Bool.noConfusion h.1)];exact h)
 by_cases c0:tyAt ty x.toNat=1
 ·rcases hr with e | e | e
  ·rw[e]
   show TRelW (rdF 20 x ⟨ty,[],[]⟩) (seeT (x.toNat+1) 1 (seeT x.toNat 1 (start ty)))
   rw[rdF_20 c0]
   by_cases c1:tyAt ty (x.toNat+1)=1
   ·rw[if_neg (fun c=>c c1)]
    exact⟨by simp[seeT,start,c0,c1],rfl,rfl⟩
   ·rw[if_pos c1]
    show _=true
    simp[seeT,start,c1]
  ·rw[e]
   show TRelW (rdF 18 x ⟨ty,[],[]⟩) (seeT (x.toNat+2) 1 (seeT (x.toNat+1) 1 (seeT x.toNat 1 (start ty))))
   rw[rdF_18 c0]
   by_cases c1:tyAt ty (x.toNat+1)=1
   ·rw[if_neg (fun c=>c c1)]
    by_cases c2:tyAt ty (x.toNat+2)=1
    ·rw[if_neg (fun c=>c c2)]
     exact⟨by simp[seeT,start,c0,c1,c2],rfl,rfl⟩
    ·rw[if_pos c2]
     show _=true
     simp[seeT,start,c2]
   ·rw[if_pos c1]
    show _=true
    simp[seeT,start,c1]
  ·rw[e]
   show TRelW (rdF 19 x ⟨ty,[],[]⟩) (putT (x.toNat+1) 1 (takeT x.toNat (seeT (x.toNat+1) 0 (seeT x.toNat 1 (start ty)))))
   rw[rdF_19 c0]
   by_cases c1:tyAt ty (x.toNat+1)=0
   ·rw[if_neg (fun c=>c c1)]
    exact⟨by simp[seeT,putT,takeT,start,c0,c1],rfl,rfl⟩
   ·rw[if_pos c1]
    show _=true
    simp[seeT,putT,takeT,start,c1]
 ·rcases hr with e | e | e
  ·rw[e]
   show TRelW (rdF 20 x ⟨ty,[],[]⟩) (seeT (x.toNat+1) 1 (seeT x.toNat 1 (start ty)))
   rw[bad 20 rfl c0]
   show _=true
   simp[seeT,start,c0]
  ·rw[e]
   show TRelW (rdF 18 x ⟨ty,[],[]⟩) (seeT (x.toNat+2) 1 (seeT (x.toNat+1) 1 (seeT x.toNat 1 (start ty))))
   rw[bad 18 rfl c0]
   show _=true
   simp[seeT,start,c0]
  ·rw[e]
   show TRelW (rdF 19 x ⟨ty,[],[]⟩) (putT (x.toNat+1) 1 (takeT x.toNat (seeT (x.toNat+1) 0 (seeT x.toNat 1 (start ty)))))
   rw[bad 19 rfl c0]
   show _=true
   simp[seeT,putT,takeT,start,c0]
theorem trelW_big {n:InsD}{op:Nat}(ho:n.op=(op:Int))(h43:op<43)(hb:bigOp op=true)(ty:List Int)(hr:iRole op 0=17∨iRole op 0=18∨iRole op 0=19):∀ k,k≤3→TRelW (rdUpto (mapRs op) n ⟨ty,[],[]⟩ (k+1)) (fieldsT n (start ty) (k+1))
 | 0,_=>trelW_first ho ty hr
 | k+1,hk=>by
  rw[rdUpto_bind,mapRs_get op (k+1) (by omega)]
  show TRelW _ (fieldT (iRole n.op.toNat (k+1)) (insF n (k+1)) (fieldsT n (start ty) (k+1)))
  rw[ho,Int.toNat_natCast]
  obtain⟨e1,e2⟩:=fieldT_skip (x:=insF n (k+1)) (t:=fieldsT n (start ty) (k+1)) (big_get hb (k:=k) (by omega)) (iRole_le op h43 (k+1) (by omega))
  exact trelW_skip e1 e2 (trelW_big ho h43 hb ty hr k (by omega))
theorem trelW_fields {n:InsD}{op:Nat}(ho:n.op=(op:Int))(h43:op<43)(ty:List Int):TRelW (rdUpto (mapRs op) n ⟨ty,[],[]⟩ 4) (fieldsT n (start ty) 4):=by
 by_cases c:op≠37∧op≠38∧op≠39∧op≠40∧op≠41
 ·exact(trel_fields ho h43 (plain_ops op h43 c.1 c.2.1 c.2.2.1 c.2.2.2.1 c.2.2.2.2) ty 4 (Nat.le_refl _)).weak
 ·have hc:op=37∨op=38∨op=39∨op=40∨op=41:=by omega
  rcases hc with rfl | rfl | rfl | rfl | rfl
  all_goals exact trelW_big ho h43 (by decide) ty (by decide) 3 (Nat.le_refl _)
theorem upsT_puts (us:List (Bool×Int))(t:TD):∀ k,(upsT us t k).puts=t.puts∧(upsT us t k).types=t.types∧(upsT us t k).taken=t.taken
 | 0=>⟨rfl,rfl,rfl⟩
 | k+1=>by
  obtain⟨h1,h2,h3⟩:=upsT_puts us t k
  show(if _ then _ else _:TD).puts=_∧(if _ then _ else _:TD).types=_∧(if _ then _ else _:TD).taken=_
  split
  ·exact⟨h1,h2,h3⟩
  ·exact⟨h1,h2,h3⟩
theorem upsT_wrong (us:List (Bool×Int))(t:TD):∀ k,k≤us.length→((upsT us t k).wrong=true↔t.wrong=true∨((us.take k).any fun u=>u.1&&tyAt t.types u.2.toNat != 2)=true)
 | 0,_=>by simp[upsT]
 | k+1,hk=>by
  have ih:=upsT_wrong us t k (by omega)
  have ht:=(upsT_puts us t k).2.1
  have hg:us[k]? = some us[k]:=List.getElem?_eq_getElem (by omega)
  have e:us[k]?.getD (false,0)=us[k]:=by rw[hg];rfl
  show(if(us[k]?.getD (false,0)).1 then seeT (us[k]?.getD (false,0)).2.toNat 2 (upsT us t k)else upsT us t k).wrong=true↔_
  rw[e,List.take_add_one,hg,List.any_append]
  cases c:us[k].1
  ·rw[if_neg (by simp)]
   simp[ih,c]
  ·rw[if_pos rfl]
   simp[seeT,ht,ih,c,or_assoc]
theorem trelW_reads {l:List ProtoD}{n:InsD}(h1:1≤n.op)(h2:n.op≤42)(ty:List Int):TRelW (readC l n ty) (readsT l n ty):=by
 obtain⟨op,ho⟩:∃ op:Nat,n.op=op:=⟨n.op.toNat,by omega⟩
 have h43:op<43:=by omega
 have hr:rolesC n.op=some (mapRs op):=by rw[ho];exact iRole_map op h43 (by omega)
 have hf:=trelW_fields ho h43 ty
 unfold readC readsT
 rw[hr]
 simp only[Option.getD_some]
 cases e:rdUpto (mapRs op) n ⟨ty,[],[]⟩ 4 with
 | none=>
  rw[e]at hf
  have hf:(fieldsT n (start ty) 4).wrong=true:=hf
  show TRelW none _
  show _=true
  split
  ·rw[(upsT_wrong _ _ _ (Nat.le_refl _))]
   exact .inl hf
  ·exact hf
 | some s=>
  rw[e]at hf
  obtain⟨f1,f2,f3⟩:=hf
  show TRelW (if _ then none else some s) _
  by_cases c:n.op=11
  ·rw[if_pos c]
   obtain⟨g1,g2,g3⟩:=upsT_puts (prD l n.fb.toNat).ups (fieldsT n (start ty) 4) (prD l n.fb.toNat).ups.length
   have hw:=upsT_wrong (prD l n.fb.toNat).ups (fieldsT n (start ty) 4) _ (Nat.le_refl _)
   rw[List.take_length,f2]at hw
   by_cases cu:((prD l n.fb.toNat).ups.any fun u=>u.1&&tyAt s.types u.2.toNat != 2)=true
   ·rw[if_pos ⟨c,cu⟩]
    exact hw.2 (.inr cu)
   ·rw[if_neg (fun h=>cu h.2)]
    refine⟨?_,g2.trans f2,g3.trans f3⟩
    cases e2:(upsT (prD l n.fb.toNat).ups (fieldsT n (start ty) 4) (prD l n.fb.toNat).ups.length).wrong with
    | false=>rfl
    | true=>
     rcases hw.1 e2 with h | h
     ·rw[f1]at h;cases h
     ·exact absurd h cu
  ·rw[if_neg c,if_neg (fun h=>c h.1)]
   exact⟨f1,f2,f3⟩
def putsOf (r:Nat)(x:Int):List (Nat×Int):=if r=19 then[(x.toNat+1,1)]else if r=20 then[(x.toNat,1)]else if r=21 then[(x.toNat,2)]else if r=22 then[(x.toNat,3)]else if r=23 then[(x.toNat,0)]else[]
theorem readT_puts (x k:Int)(t:TD):(readT x k t).puts=t.puts:=by unfold readT;split<;>rfl
theorem fieldT_puts {r:Nat}(hr:r≤23)(x:Int)(t:TD):(fieldT r x t).puts=t.puts++putsOf r x:=by
 have hc:r=0∨r=1∨r=2∨r=3∨r=4∨r=5∨r=6∨r=7∨r=8∨r=9∨r=10∨r=11∨r=12∨r=13∨r=14∨r=15∨r=16∨r=17∨r=18∨r=19∨r=20∨r=21∨r=22∨r=23:=by omega
 rcases hc with rfl | rfl | rfl | rfl | rfl | rfl | rfl | rfl | rfl | rfl | rfl | rfl | rfl | rfl | rfl | rfl | rfl | rfl | rfl | rfl | rfl | rfl | rfl | rfl
 all_goals simp[fieldT,putsOf,readT_puts,seeT,putT,takeT]
theorem fieldsT_puts {n:InsD}{op:Nat}(ho:n.op=(op:Int))(h43:op<43)(t:TD):(fieldsT n t 4).puts=t.puts++putsOf (iRole op 0) n.fa++putsOf (iRole op 1) n.fb++putsOf (iRole op 2) n.fc++putsOf (iRole op 3) n.fd:=by
 show(fieldT (iRole n.op.toNat 3) (insF n 3) (fieldT (iRole n.op.toNat 2) (insF n 2) (fieldT (iRole n.op.toNat 1) (insF n 1) (fieldT (iRole n.op.toNat 0) (insF n 0) t)))).puts=_
 rw[ho,Int.toNat_natCast,fieldT_puts (iRole_le op h43 3 (by omega)),fieldT_puts (iRole_le op h43 2 (by omega)),fieldT_puts (iRole_le op h43 1 (by omega)),fieldT_puts (iRole_le op h43 0 (by omega))]
 rfl
theorem puts_write {n:InsD}{op:Nat}(ho:n.op=(op:Int))(h43:op<43)(h1:1≤op)(ty:List Int)(ps:List (Nat×Int))(hps:ps=putsOf (iRole op 0) n.fa++putsOf (iRole op 1) n.fb++putsOf (iRole op 2) n.fc++putsOf (iRole op 3) n.fd):putsT ps ty ps.length=writeC n ty:=by
 obtain⟨nop,fa,fb,fc,fd⟩:=n
 simp only at ho
 subst ho
 subst hps
 have hc:op=1∨op=2∨op=3∨op=4∨op=5∨op=6∨op=7∨op=8∨op=9∨op=10∨op=11∨op=12∨op=13∨op=14∨op=15∨op=16∨op=17∨op=18∨op=19∨op=20∨op=21∨op=22∨op=23∨op=24∨op=25∨op=26∨op=27∨op=28∨op=29∨op=30∨op=31∨op=32∨op=33∨op=34∨op=35∨op=36∨op=37∨op=38∨op=39∨op=40∨op=41∨op=42:=by omega
 rcases hc with rfl | rfl | rfl | rfl | rfl | rfl | rfl | rfl | rfl | rfl | rfl | rfl | rfl | rfl | rfl | rfl | rfl | rfl | rfl | rfl | rfl | rfl | rfl | rfl | rfl | rfl | rfl | rfl | rfl | rfl | rfl | rfl | rfl | rfl | rfl | rfl | rfl | rfl | rfl | rfl | rfl | rfl
 all_goals rfl
end Go.Proofs.YthmjjhfjkgaocaaGreatDoor
