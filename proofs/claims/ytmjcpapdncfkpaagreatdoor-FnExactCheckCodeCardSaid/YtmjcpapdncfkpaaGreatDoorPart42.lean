import Derived.Test.YtmjcpapdncfkpaaGreatDoorPart41
import Derived.Laws.CopyOwn
import Derived.Test.YtmjcpapdncfkpaaGreatDoorPart34
set_option linter.unusedSimpArgs false
set_option linter.unusedVariables false
set_option maxHeartbeats 4000000
set_option maxRecDepth 100000
namespace Go.Proofs.YtmjcpapdncfkpaaGreatDoor
open Go.RowKit
theorem ownI_of_row {w:World}{base g:Nat}{l:List Int}(hb:base≤g)(hl:l.length≤1000000)(h:w.heap[g]? = some (.cells (l.map (Value.int .i64)).toArray 3 (0,0))):OwnI w base (.slice (some ⟨g,0,none⟩) l.length l.length) l:=by
 refine⟨by simp,.inr ⟨g,l.length,_,rfl,hb,h,Nat.le_refl _,by unfold maxLen;omega,by simp,?_⟩⟩
 rw[Nat.mul_one]
 exact List.take_of_length_le (by simp)
theorem splice_front {l:List Int}{K:Nat}(hK:K≤l.length):splice (List.replicate l.length (Value.int .i64 0)) 0 ((l.take K).map (Value.int .i64))=(l.take K++List.replicate (l.length-K) 0).map (Value.int .i64):=by
 unfold splice
 rw[List.map_append,List.map_replicate,List.take_zero,List.nil_append,List.drop_replicate,List.length_map,List.length_take,Nat.zero_add,Nat.min_eq_left hK]
theorem handlerTypes_any (n:InsD)(K:Nat)(hn:n.fb=(K:Int))(a:Option Addr)(ty:List Int)(c:Nat)(S:Nat→Prop)(w:World)(hs:IntsAt w S a ty)(hB:∀ b,S b→b<w.heap.size)(hl:ty.length≤250)(hc:ty.length≤c)(hK:K+2≤ty.length) :
  Calls Tryz.prog 79 #[.slice a ty.length c,.int .i64 (K:Int)] w (OwnRet (handC n ty) w):=by
 have hmk:=run_make_row' (P:=Tryz.prog) 63 3 (.int .i64 0) 8 Tryz.underlying63 (by kernel_rfl) rfl .i64 .i64 ty.length (by omega) (by omega)
 have hH:handC n ty=((ty.take K++List.replicate (ty.length-K) 0).set K 1).set (K+1) 1:=by
  unfold handC
  rw[hn]
  rfl
 rw[hH]
 obtain⟨b,off,rfl,hbS,hcc⟩:=hs.2 (by omega)
 have hbl:=hB b hbS
 have SL:=slice_h (k:=K) (c:=c) (n:=ty.length) (a:=some ⟨b,off,none⟩)
 have hA:∀ o,Below w.heap.size w (w.alloc o):=fun o=>(Below.refl _ _).alloc (Nat.le_refl _) o
 have HG:Hid ((w.alloc (.cells (madeCells #[.int .i64 0] ty.length) 3)).heap[w.heap.size]? = some (.cells (List.replicate ty.length (Value.int .i64 0)).toArray 3 (0,0))):=by
  show _=_
  rw[Go.Deep.blk_alloc_new,←toList_madeCells_one,Array.toArray_toList]
 have HS:Hid (∀ j v,((ty.take K).map (Value.int .i64))[j]? = some v→(w.alloc (.cells (madeCells #[.int .i64 0] ty.length) 3)).cell? ((⟨b,off,none⟩:Addr).add j)=some v):=fun j v hj=>by
  rw[List.getElem?_map]at hj
  by_cases hjl:j<K
  ·rw[List.getElem?_take_of_lt hjl,List.getElem?_eq_getElem (by omega)]at hj
   have h1:=hcc j (by omega)
   rw[List.getElem?_eq_getElem (by omega)]at h1
   have e:(⟨b,off,none⟩:Addr).add j=⟨b,off+j,none⟩:=by simp[Addr.add]
   rw[e,Below.cell (B:=w.heap.size) (hA _) (p:=⟨b,off+j,none⟩) hbl,h1]
   exact hj
  ·rw[List.getElem?_eq_none (by rw[List.length_take];omega)]at hj;cases hj
 have HA:=hide (hA (.cells (madeCells #[.int .i64 0] ty.length) 3))
 have SP:=hide (splice_front (l:=ty) (K:=K) (by omega))
 have hm:(List.map (Value.int .i64) (ty.take K)).length=K:=by simp;omega
 have HM:=hide hm
 have hKc:K≤c:=by omega
 have SLL:=fun w=>slice_h w (some ⟨b,off,none⟩) ty.length c K hKc
 have hrun:=run_copy_row (P:=Tryz.prog) (w.alloc (.cells (madeCells #[.int .i64 0] ty.length) 3)) 63 63 3 3 w.heap.size 0 ty.length ty.length ⟨b,off,none⟩ K c (List.replicate ty.length (Value.int .i64 0)).toArray 3 ((ty.take K).map (Value.int .i64)) Tryz.underlying63 (by kernel_rfl) HG.out (by rw[hm];show K=min K ty.length;omega) HS.out (by rw[hm];simp;omega) (fun u hu=>by rw[List.mem_map]at hu;obtain⟨x,_,rfl⟩:=hu;rfl)
 have eX:(List.replicate ty.length (Value.int .i64 0)).toArray.toList.take 0++(ty.take K).map (Value.int .i64)++(List.replicate ty.length (Value.int .i64 0)).toArray.toList.drop (0+((ty.take K).map (Value.int .i64)).length)=(ty.take K++List.replicate (ty.length-K) 0).map (Value.int .i64):=by
  rw[←SP.out]
  unfold splice
  rw[List.append_assoc]
 rw[eX]at hrun
 have HW2:Hid (((w.alloc (.cells (madeCells #[.int .i64 0] ty.length) 3)).setRow w.heap.size ((ty.take K++List.replicate (ty.length-K) 0).map (Value.int .i64)).toArray).heap[w.heap.size]? = some (.cells ((ty.take K++List.replicate (ty.length-K) 0).map (Value.int .i64)).toArray 3 (0,0))):=setRow_heap _ _ _ _ _ _ HG.out
 have HB2:=hide (below_setRow HA.out (Nat.le_refl _) ((ty.take K++List.replicate (ty.length-K) 0).map (Value.int .i64)).toArray)
 generalize (w.alloc (.cells (madeCells #[.int .i64 0] ty.length) 3)).setRow w.heap.size ((ty.take K++List.replicate (ty.length-K) 0).map (Value.int .i64)).toArray=w2 at *
 rw[hm]at hrun
 have hg2:=HW2
 have hb2:=HB2.out
 clear hs hB hcc hbS hH hA SL hm HW2 HB2 eX
 have hL:(ty.take K++List.replicate (ty.length-K) (0:Int)).length=ty.length:=by simp;omega
 have ho:OwnI w2 w.heap.size (.slice (some ⟨w.heap.size,0,none⟩) ty.length ty.length) (ty.take K++List.replicate (ty.length-K) (0:Int)):=by
  have:=ownI_of_row (base:=w.heap.size) (Nat.le_refl _) (by omega) hg2.out
  rwa [hL]at this
 generalize ty.take K++List.replicate (ty.length-K) (0:Int)=L at *
 have hb2s:=hb2.size
 have O2:=hide (ho.set hL.symm K 1)
 have hL2:(L.set K 1).length=ty.length:=by rw[List.length_set];exact hL
 have O3:=hide ((unhide O2).set hL2.symm (K+1) 1)
 obtain⟨g',cap',e',_,hlt',hcc⟩:=ho.at (by omega)
 injection e' with e1 e2 e3;injection e1 with e1;injection e1 with e1;subst e1;clear e2 e3
 have x1:=hcc K (by omega)
 have x2:=hcc (K+1) (by omega)
 have z1:=ho.frozen hL.symm K
 have z2:=ho.frozen hL.symm (K+1)
 have B3:Hid (Below w.heap.size w ((w2.setCell ⟨w.heap.size,K,none⟩ (.int .i64 1)).setCell ⟨w.heap.size,K+1,none⟩ (.int .i64 1))):=(hb2.setCell (p:=⟨w.heap.size,K,none⟩) (Nat.le_refl _) _).setCell (p:=⟨w.heap.size,K+1,none⟩) (Nat.le_refl _) _
 generalize L[K]?.getD 0=q1 at *
 generalize L[K+1]?.getD 0=q2 at *
 clear hcc ho hg2 hb2 HG HS SP HA hL hL2 O2
 go_enter Tryz.func79,Tryz.ntmps79
 go_wp2_with fail
 go_ret
 exact⟨_,rfl,O3.out,B3.out⟩
theorem firstTypes_any (x:ProtoD)(nm:ByteArray)(ln:Int)(pr rg:Nat)(rs:Bool)(v5 v6 v7 v8:Value)(w:World)(hpr:x.params=(pr:Int))(hrg:x.regs=(rg:Int))(hrs:x.rest=rs)(hle:pr≤rg)(hrest:rs=true→pr<rg)(hl:rg≤250) :
  Calls Tryz.prog 40 #[.agg #[.string nm,.int .i64 ln,.int .i64 (pr:Int),.bool rs,.int .i64 (rg:Int),v5,v6,v7,v8]] w (OwnRet (firstTy x) w):=by
 have hmk:=run_make_row' (P:=Tryz.prog) 63 3 (.int .i64 0) 8 Tryz.underlying63 (by kernel_rfl) rfl .i64 .i64 rg (by omega) (by omega)
 have FG:Hid (∀ j,j<rg→(firstTy x)[j]?.getD 0=if j<pr then 1 else if rs=true∧j=pr then 3 else 0):=fun j hj=>by
  rw[first_get x (by omega) j (by omega),hpr,hrs]
  by_cases c:j<pr
  ·rw[if_pos (by omega),if_pos c]
  ·rw[if_neg (by omega),if_neg c]
   by_cases c2:rs=true∧j=pr
   ·rw[if_pos c2,if_pos ⟨c2.1,by omega⟩]
   ·rw[if_neg c2,if_neg (fun h=>c2 ⟨h.1,by omega⟩)]
 have FL:Hid ((firstTy x).length=rg):=by show _=_;rw[first_len,hrg];rfl
 have HRST:=hide hrest
 generalize firstTy x=ft at *
 have hA:Below w.heap.size w ((w.alloc (.cells #[.string nm,.int .i64 ln,.int .i64 (pr:Int),.bool rs,.int .i64 (rg:Int),v5,v6,v7,v8] 58)).alloc (.cells (madeCells #[.int .i64 0] rg) 3)):=((Below.refl _ _).alloc (Nat.le_refl _) _).alloc (by simp) _
 have HA:=hide hA
 have R0:Hid (((w.alloc (.cells #[.string nm,.int .i64 ln,.int .i64 (pr:Int),.bool rs,.int .i64 (rg:Int),v5,v6,v7,v8] 58)).alloc (.cells (madeCells #[.int .i64 0] rg) 3)).rowIs (w.heap.size+1) 3 rg (fun _=>.int .i64 0)):=by
  have h:=World.rowIs_made (w.alloc (.cells #[.string nm,.int .i64 ln,.int .i64 (pr:Int),.bool rs,.int .i64 (rg:Int),v5,v6,v7,v8] 58)) (.int .i64 0) rg 3
  rw[show ∀ o,(w.alloc o).heap.size=w.heap.size+1 from fun _=>by simp]at h
  exact h
 have C0:Hid (∀ W,Below (w.heap.size+1) ((w.alloc (.cells #[.string nm,.int .i64 ln,.int .i64 (pr:Int),.bool rs,.int .i64 (rg:Int),v5,v6,v7,v8] 58)).alloc (.cells (madeCells #[.int .i64 0] rg) 3)) W→W.cell? ⟨w.heap.size,2,none⟩=some (.int .i64 (pr:Int))∧W.cell? ⟨w.heap.size,3,none⟩=some (.bool rs)):=fun W hW=>
  ⟨(hW.cell (p:=⟨w.heap.size,2,none⟩) (by simp)).trans (by simp[go_sem]),(hW.cell (p:=⟨w.heap.size,3,none⟩) (by simp)).trans (by simp[go_sem])⟩
 clear hpr hrg hrs hrest hA
 go_enter Tryz.func40,Tryz.ntmps40
 go_wp2_with fail
 clear hmk
 generalize (w.alloc (.cells #[.string nm,.int .i64 ln,.int .i64 (pr:Int),.bool rs,.int .i64 (rg:Int),v5,v6,v7,v8] 58)).alloc (.cells (madeCells #[.int .i64 0] rg) 3)=w0 at *
 go_loopg [10] pr (fun gg i wr=>∃ r:Nat,r+gg=pr∧i=.int .i64 r∧Below (w.heap.size+1) w0 wr∧wr.rowIs (w.heap.size+1) 3 rg (fun j=>.int .i64 (if j<r then 1 else 0)))
 case atStart=>exact⟨0,by omega,rfl,Below.refl _ _,(unhide R0).congr (fun j hj=>by simp)⟩
 case round=>
  obtain⟨r,hr,rfl,hW,hrow⟩:=hrel
  obtain⟨q2,q3⟩:=unhide C0 _ hW
  have hbP:w.heap.size<wr.heap.size:=World.block_lt_of_cell? _ _ q2
  have hbT:=hrow.lt
  by_cases hlt:r<pr
  ·have hg:=hrow.cell (i:=r) (by omega)
   have hz:=hrow.frozen r
   have hrI:(r:Int)<rg:=by omega
   have HW1:=hide (hW.setCell (p:=⟨w.heap.size+1,r,none⟩) (Nat.le_refl _) (.int .i64 1))
   have HR1:Hid ((wr.setCell ⟨w.heap.size+1,r,none⟩ (.int .i64 1)).rowIs (w.heap.size+1) 3 rg (fun j=>.int .i64 (if j<r+1 then 1 else 0))):=(hrow.set r _).congr (fun j hj=>by
    by_cases e:j=r
    ·subst e;simp
    ·have:(j<r+1)=(j<r):=by apply propext;omega
     simp[e,this])
   clear hW hrow
   go_wp2_with fail
   go_roundg (pr-(r+1))
   case measure=>omega
   case rel=>exact⟨r+1,by omega,by go_num,unhide HW1,unhide HR1⟩
  ·have hrp:r=pr:=by omega
   subst hrp
   have HB:Hid (Below w.heap.size w wr):=HA.out.trans (hW.mono (by omega))
   have HROW:=hide hrow
   clear hW hrow
   cases rs
   ·have HOWN:Hid (OwnI wr w.heap.size (.slice (some ⟨w.heap.size+1,0,none⟩) rg rg) ft):=own_of_row (unhide HROW) FL.out (by omega) (by omega) (fun j hj=>by
     rw[unhide FG j hj]
     by_cases c:j<r
     ·rw[if_pos c,if_pos c]
     ·rw[if_neg c,if_neg c,if_neg (fun h=>Bool.noConfusion h.1)])
    go_wp2_with fail
    go_ret
    exact⟨_,rfl,HOWN.out,HB.out⟩
   ·have hrr:r<rg:=HRST.out rfl
    have hg:=(unhide HROW).cell (i:=r) hrr
    have hz:=(unhide HROW).frozen r
    have hrI:(r:Int)<rg:=by omega
    have HB2:=hide ((unhide HB).setCell (p:=⟨w.heap.size+1,r,none⟩) (by show w.heap.size≤w.heap.size+1;omega) (.int .i64 3))
    have HOWN:Hid (OwnI (wr.setCell ⟨w.heap.size+1,r,none⟩ (.int .i64 3)) w.heap.size (.slice (some ⟨w.heap.size+1,0,none⟩) rg rg) ft):=own_of_row ((unhide HROW).set r _) FL.out (by omega) (by omega) (fun j hj=>by
     rw[unhide FG j hj]
     show(if j=r then Value.int .i64 3 else .int .i64 (if j<r then 1 else 0))=_
     by_cases c:j<r
     ·rw[if_neg (by omega),if_pos c,if_pos c]
     ·by_cases c2:j=r
      ·rw[if_pos c2,if_neg c,if_pos ⟨rfl,c2⟩]
      ·rw[if_neg c2,if_neg c,if_neg c,if_neg (fun h=>c2 h.2)])
    clear HROW
    go_wp2_with fail
    go_ret
    exact⟨_,rfl,HOWN.out,HB2.out⟩
def TkPost (bv o G m cap:Nat)(y:Int)(w:World)(e:Ending)(w':World):Prop:=e=.returned (.int .i64 y)∧w'=w.setCell ⟨bv,o,none⟩ (.slice (some ⟨G,0,none⟩) m cap)
theorem take_any (bv o G m cap:Nat)(y:Int)(w:World)(hv:w.cell? ⟨bv,o,none⟩=some (.slice (some ⟨G,0,none⟩) (m+1) cap))(hz:w.frozen? ⟨bv,o,none⟩=false)(hy:w.cell? ⟨G,m,none⟩=some (.int .i64 y))(hc:m+1≤cap)(hm:m<1000000) :
  Calls Tryz.prog 42 #[.pointer (some ⟨bv,o,none⟩)] w (TkPost bv o G m cap y w):=by
 have hbv:bv<w.heap.size:=World.block_lt_of_cell? _ _ hv
 have hG:G<w.heap.size:=World.block_lt_of_cell? _ _ hy
 have SLL:=fun w=>slice_h w (some ⟨G,0,none⟩) (m+1) cap m (by omega)
 go_enter Tryz.func42,Tryz.ntmps42
 go_wp2_with fail
 go_ret
 exact⟨rfl,rfl⟩
theorem fault_any (bv:Nat)(p code at_:Int)(w:World)(hv:w.cell? ⟨bv,1,none⟩=some (.int .i64 p)) :
  Calls Tryz.prog 44 #[.pointer (some ⟨bv,0,none⟩),.int .i64 code,.int .i64 at_] w fun e w'=>e=.returned (.agg #[.int .i64 code,.int .i64 p,.int .i64 at_])∧Below w.heap.size w w':=by
 have hbv:bv<w.heap.size:=World.block_lt_of_cell? _ _ hv
 have hA:∀ o,Below w.heap.size w (w.alloc o):=fun o=>(Below.refl _ _).alloc (Nat.le_refl _) o
 go_enter Tryz.func44,Tryz.ntmps44
 go_wp2_with fail
 refine bodyPost_ret (v:=.agg #[.int .i64 code,.int .i64 p,.int .i64 at_]) (by simp[results,Tryz.results44,go_sem]) rfl ⟨rfl,?_⟩
 first | exact Below.refl _ _ | exact hA _ | exact(hA _).trans (below_drewN _ _ _)
theorem nanInt_any (x:Int)(w:World):Calls Tryz.prog 115 #[.int .i64 x] w fun e w'=>e=.returned (.bool false)∧w'=w:=by
 go_enter Tryz.func115,Tryz.ntmps115
 go_wp2_with fail
 go_ret
 exact⟨ret_bool (by simp),rfl⟩
def cmpI (x y:Int):Int:=if x<y then -1 else if y<x then 1 else 0
theorem compare_any (x y:Int)(w:World):Calls Tryz.prog 101 #[.int .i64 x,.int .i64 y] w fun e w'=>e=.returned (.int .i64 (cmpI x y))∧w'=w:=by
 have N:=hide nanInt_any
 by_cases h1:x<y
 ·have R:Hid (cmpI x y=-1):=if_pos h1
  have d1:decide (x<y)=true:=decide_eq_true h1
  generalize cmpI x y=r at *
  go_enter Tryz.func101,Tryz.ntmps101
  go_wp2_with fail
  refine(unhide N x _).mono ?_
  rintro e w1 ⟨rfl,rfl⟩
  go_wp2_with fail
  refine(unhide N y _).mono ?_
  rintro e w2 ⟨rfl,rfl⟩
  go_wp2_with fail
  go_ret
  exact⟨by rw[R.out];rfl,rfl⟩
 by_cases h2:y<x
 ·have R:Hid (cmpI x y=1):=by show cmpI x y=1;unfold cmpI;rw[if_neg h1,if_pos h2]
  have d1:decide (x<y)=false:=decide_eq_false h1
  have d2:decide (y<x)=true:=decide_eq_true h2
  generalize cmpI x y=r at *
  go_enter Tryz.func101,Tryz.ntmps101
  go_wp2_with fail
  refine(unhide N x _).mono ?_
  rintro e w1 ⟨rfl,rfl⟩
  go_wp2_with fail
  refine(unhide N y _).mono ?_
  rintro e w2 ⟨rfl,rfl⟩
  go_wp2_with fail
  go_ret
  exact⟨by rw[R.out];rfl,rfl⟩
 ·have R:Hid (cmpI x y=0):=by show cmpI x y=0;unfold cmpI;rw[if_neg h1,if_neg h2]
  have d1:decide (x<y)=false:=decide_eq_false h1
  have d2:decide (y<x)=false:=decide_eq_false h2
  generalize cmpI x y=r at *
  go_enter Tryz.func101,Tryz.ntmps101
  go_wp2_with fail
  refine(unhide N x _).mono ?_
  rintro e w1 ⟨rfl,rfl⟩
  go_wp2_with fail
  refine(unhide N y _).mono ?_
  rintro e w2 ⟨rfl,rfl⟩
  go_wp2_with fail
  go_ret
  exact⟨by rw[R.out];rfl,rfl⟩
theorem putLess_any (item x:Int)(w:World):Calls Tryz.prog 100 #[.int .i64 item,.int .i64 x] w fun e w'=>e=.returned (.int .i64 (cmpI x item))∧w'=w:=by
 have N:=hide (compare_any x item)
 generalize cmpI x item=r at *
 go_enter Tryz.func100,Tryz.ntmps100
 go_wp2_with fail
 refine(unhide N _).mono ?_
 rintro e w1 ⟨rfl,rfl⟩
 go_wp2_with fail
 go_ret
 exact⟨rfl,rfl⟩
def Dec (l:List Int):Prop:=∀ r s,r<s→s<l.length→l[s]?.getD 0<l[r]?.getD 0
structure PlaceOf (l:List Int)(x:Int)(k:Nat):Prop where
 le:k≤l.length
 gt:∀ r,r<k→x<l[r]?.getD 0
 ng:∀ r,k≤r→r<l.length→l[r]?.getD 0≤x
def BsPost (l:List Int)(x:Int)(w:World)(e:Ending)(w':World):Prop:=∃ k:Nat,PlaceOf l x k∧e=.returned (.tuple #[.int .i64 (k:Int),.bool (decide (k<l.length∧l[k]?.getD 0=x))])∧Below w.heap.size w w'
theorem cmp_lt (x y:Int):decide (cmpI x y<0)=decide (x<y):=by
 unfold cmpI
 by_cases h1:x<y
 ·rw[if_pos h1,decide_eq_true h1];rfl
 ·rw[if_neg h1,decide_eq_false h1]
  by_cases h2:y<x
  ·rw[if_pos h2];rfl
  ·rw[if_neg h2];rfl
theorem cmp_eq (x y:Int):(cmpI x y==0)=decide (y=x):=by
 unfold cmpI
 by_cases h1:x<y
 ·rw[if_pos h1,decide_eq_false (by omega)];rfl
 ·rw[if_neg h1]
  by_cases h2:y<x
  ·rw[if_pos h2,decide_eq_false (by omega)];rfl
  ·rw[if_neg h2,decide_eq_true (by omega)];rfl
theorem search_any (a:Option Addr)(l:List Int)(c:Nat)(x:Int)(S:Nat→Prop)(w:World)(hs:IntsAt w S a l)(hB:∀ b,S b→b<w.heap.size)(hl:l.length≤1000000)(hd:Dec l) :
  Calls Tryz.prog 99 #[.slice a l.length c,.int .i64 x,.func (.func 100) #[] #[]] w (BsPost l x w):=by
 have HS:=hide hs
 have HBB:=hide hB
 have HD:=hide hd
 clear hs hB hd
 go_enter Tryz.func99,Tryz.ntmps99
 go_wp2_with fail
 go_loopg [9,10] l.length (fun gg i j wr=>∃ p q:Nat,p+gg=q∧q≤l.length∧i=.int .i64 p∧j=.int .i64 q∧Below w.heap.size w wr∧Hid (∀ r,r<p→x<l[r]?.getD 0)∧Hid (∀ r,q≤r→r<l.length→l[r]?.getD 0≤x))
 case atStart=>exact⟨0,l.length,by omega,Nat.le_refl _,rfl,rfl,Below.refl _ _,fun r h=>absurd h (Nat.not_lt_zero _),fun r h1 h2=>absurd h2 (by omega)⟩
 case round=>
  obtain⟨p,q,hpq,hql,rfl,rfl,hb,hlo,hhi⟩:=hrel
  by_cases hlt:p<q
  ·obtain⟨b,off,rfl,hbS,hcc⟩:=((unhide HS).same (.of_below hb (unhide HBB))).2 (by omega)
   have hbl:b<wr.heap.size:=Nat.lt_of_lt_of_le (unhide HBB b hbS) hb.size
   obtain⟨h,hh⟩:∃ h,h=(p+q) / 2:=⟨_,rfl⟩
   have hmid:((p:Int)+(q:Int)) / 2=(h:Int):=by omega
   have q1:=hcc h (by omega)
   have hhl:h<l.length:=by omega
   have hph:p≤h:=by omega
   have hhq:h<q:=by omega
   have HBW:=hide hb
   have LO:Hid (x<l[h]?.getD 0→∀ r,r<h+1→x<l[r]?.getD 0):=fun hx r hr=>by
    by_cases e:r=h
    ·subst e;exact hx
    ·have:=HD.out r h (by omega) hhl;omega
   have HI:Hid (¬x<l[h]?.getD 0→∀ r,h≤r→r<l.length→l[r]?.getD 0≤x):=fun hx r hr hrl=>by
    by_cases e:r=h
    ·subst e;omega
    ·have:=HD.out h r (by omega) hrl;omega
   clear hcc hb hbS hh
   generalize l[h]?.getD 0=y at *
   have CP:=hide (putLess_any y x)
   have CD:=hide (cmp_lt x y)
   generalize cmpI x y=cm at *
   by_cases hx:x<y
   ·have d:decide (cm<0)=true:=by rw[CD.out];exact decide_eq_true hx
    have RR:=hide (unhide LO hx)
    clear LO HI CD hx hlo
    go_wp2_with fail
    refine(unhide CP _).mono ?_
    rintro e w1 ⟨rfl,rfl⟩
    go_wp2_with fail
    go_roundg (q-(h+1))
    case measure=>omega
    case rel=>exact⟨h+1,q,by omega,hql,by go_num,rfl,HBW.out,RR,hhi⟩
   ·have d:decide (cm<0)=false:=by rw[CD.out];exact decide_eq_false hx
    have RR:=hide (unhide HI hx)
    clear LO HI CD hx hhi
    go_wp2_with fail
    refine(unhide CP _).mono ?_
    rintro e w1 ⟨rfl,rfl⟩
    go_wp2_with fail
    go_roundg (h-p)
    case measure=>omega
    case rel=>exact⟨p,h,by omega,by omega,rfl,rfl,HBW.out,hlo,RR⟩
  ·obtain rfl:p=q:=by omega
   have PL:Hid (PlaceOf l x p):=⟨hql,hlo.out,hhi.out⟩
   clear hlo hhi
   by_cases hpl:p<l.length
   ·obtain⟨b,off,rfl,hbS,hcc⟩:=((unhide HS).same (.of_below hb (unhide HBB))).2 (by omega)
    have hbl:b<wr.heap.size:=Nat.lt_of_lt_of_le (unhide HBB b hbS) hb.size
    have q1:=hcc p hpl
    have HBW:=hide hb
    have RR:Hid (decide (p<l.length∧l[p]?.getD 0=x)=decide (l[p]?.getD 0=x)):=decide_eq_decide.2 ⟨fun h=>h.2,fun h=>⟨hpl,h⟩⟩
    clear hcc hb hbS
    generalize hy:l[p]?.getD 0=y at *
    have HY:=hide hy
    clear hy
    have CP:=hide (putLess_any y x)
    have CD:=hide (cmp_eq x y)
    generalize cmpI x y=cm at *
    go_wp2_with fail
    refine(unhide CP _).mono ?_
    rintro e w1 ⟨rfl,rfl⟩
    go_wp2_with fail
    go_ret2
    exact⟨p,PL.out,by rw[HY.out,RR.out,←CD.out];rfl,HBW.out⟩
   ·have RR:Hid (decide (p<l.length∧l[p]?.getD 0=x)=false):=decide_eq_false (fun h=>hpl h.1)
    go_wp2_with fail
    go_ret2
    exact⟨p,PL.out,by rw[RR.out];rfl,hb⟩
end Go.Proofs.YtmjcpapdncfkpaaGreatDoor
