import Derived.Test.YthmjjhfjkgaocaaGreatDoorPart44
import Derived.Test.YthmjjhfjkgaocaaGreatDoorPart04
import Derived.Test.YthmjjhfjkgaocaaGreatDoorPart03
import Derived.Test.YthmjjhfjkgaocaaGreatDoorPart36
import Derived.BigRegion
set_option linter.unusedSimpArgs false
set_option linter.unusedVariables false
set_option maxHeartbeats 4000000
set_option maxRecDepth 100000
namespace Go.Proofs.YthmjjhfjkgaocaaGreatDoor
open Go.RowKit
def sfV (r:Nat→Bool)(R:Nat→Value×Value)(j:Nat):Value:=if j % 3=0 then .bool (r (j / 3))else if j % 3=1 then(R (j / 3)).1 else(R (j / 3)).2
structure SR (w:World)(bS bT N:Nat)(r:Nat→Bool)(t:Nat→List Int)(g:Nat→List GuD)(R:Nat→Value×Value):Prop where
 lt:bS<bT
 row:w.rowIs bS 62 (N * 3) (sfV r R)
 ty:∀ i,i<N→OwnI w bT (R i).1 (t i)
 gu:∀ i,i<N→OwnG w bT (R i).2 (g i)
theorem SR.below {w w':World}{bS bT N:Nat}{r:Nat→Bool}{t:Nat→List Int}{g:Nat→List GuD}{R:Nat→Value×Value}(h:SR w bS bT N r t g R)(hb:Below w.heap.size w w'):SR w' bS bT N r t g R:=
 ⟨h.lt,h.row.of_block (hb.block _ h.row.lt),fun i hi=>(h.ty i hi).below hb,fun i hi=>(h.gu i hi).below hb⟩
theorem SR.same {w w':World}{bS bT N:Nat}{r:Nat→Bool}{t:Nat→List Int}{g:Nat→List GuD}{R:Nat→Value×Value}(h:SR w bS bT N r t g R)(hb:∀ b,bS≤b→b<w.heap.size→w'.heap[b]? = w.heap[b]?):SR w' bS bT N r t g R:=
 ⟨h.lt,h.row.of_block (hb _ (Nat.le_refl _) h.row.lt),fun i hi=>(h.ty i hi).sameBlock (fun k hk=>by have:=(h.ty i hi).lt' k hk;have:=h.lt;exact hb k (by omega) (by omega)),fun i hi=>(h.gu i hi).sameBlock (fun k hk=>by have:=(h.gu i hi).lt' k hk;have:=h.lt;exact hb k (by omega) (by omega))⟩
theorem SR.cells {w:World}{bS bT N:Nat}{r:Nat→Bool}{t:Nat→List Int}{g:Nat→List GuD}{R:Nat→Value×Value}(h:SR w bS bT N r t g R){i:Nat}(hi:i<N):w.cell? ⟨bS,i * 3,none⟩=some (.bool (r i))∧w.cell? ⟨bS,i * 3+1,none⟩=some (R i).1∧w.cell? ⟨bS,i * 3+2,none⟩=some (R i).2:=by
 refine⟨?_,?_,?_⟩
 ·rw[h.row.cell (i:=i * 3) (by omega)]
  unfold sfV
  rw[if_pos (by omega),show i * 3 / 3=i by omega]
 ·rw[h.row.cell (i:=i * 3+1) (by omega)]
  unfold sfV
  rw[if_neg (by omega),if_pos (by omega),show(i * 3+1) / 3=i by omega]
 ·rw[h.row.cell (i:=i * 3+2) (by omega)]
  unfold sfV
  rw[if_neg (by omega),if_neg (by omega),show(i * 3+2) / 3=i by omega]
theorem eqIntS_same (a b:Option Addr)(l:List Int)(ca cb:Nat)(S:Nat→Prop)(w:World)(h1:IntsAt w S a l)(h2:IntsAt w S b l)(hB:∀ b,S b→b<w.heap.size) :
  Calls Tryz.prog 48 #[.slice a l.length ca,.slice b l.length cb] w fun e w'=>e=.returned (.bool true)∧Below w.heap.size w w':=by
 have hn:=h1.1
 have hne:((l.length:Int) != (l.length:Int))=false:=by simp
 go_enter Tryz.func48,Tryz.ntmps48
 go_wp2_with fail
 go_loopw [5] (fun i wr=>∃(k:Nat),k≤l.length∧i=.int .i64 k∧Below w.heap.size w wr) (fun i _=>l.length-(intOf i).toNat)
 case atStart=>exact⟨0,Nat.zero_le _,rfl,Below.refl _ _⟩
 case round=>
  obtain⟨k,hk,rfl,hbw⟩:=hrel
  by_cases hlt:k<l.length
  ·obtain⟨b1,off1,rfl,hb1,hc1⟩:=(h1.keep hbw hB).2 (by omega)
   obtain⟨b2,off2,rfl,hb2,hc2⟩:=(h2.keep hbw hB).2 (by omega)
   have c0:=hc1 k hlt;have d0:=hc2 k hlt
   clear hc1 hc2
   generalize l[k]?.getD 0=x at *
   have hxx:(x != x)=false:=by simp
   go_wp2_with fail
   go_region
   all_goals (go_wp2_with fail)
   all_goals go_roundw
   all_goals first | (case rel=>exact⟨k+1,by omega,by go_num,hbw.drew⟩) | skip
   all_goals (simp[intOf];omega)
  ·go_wp2_with fail
   go_ret
   exact⟨rfl,hbw⟩
theorem eqGuard_same (v0:Bool)(v1 v2:Int)(w:World):Calls Tryz.prog 90 #[.agg #[.bool v0,.int .i64 v1,.int .i64 v2],.agg #[.bool v0,.int .i64 v1,.int .i64 v2]] w fun e w'=>e=.returned (.bool true)∧Below w.heap.size w w':=by
 have e0:(v0 != v0)=false:=by simp
 have e1:(v1 != v1)=false:=by simp
 have e2:(v2 != v2)=false:=by simp
 go_enter Tryz.func90,Tryz.ntmps90
 go_wp2_with fail
 go_ret
 exact⟨rfl,by repeat (first | refine Below.alloc ?_ (by simp<;>omega) _ | exact Below.refl _ _)⟩
theorem eqGuardS_same (a b:Option Addr)(l:List GuD)(ca cb:Nat)(S:Nat→Prop)(w:World)(h1:GusAt w S a l)(h2:GusAt w S b l)(hB:∀ b,S b→b<w.heap.size) :
  Calls Tryz.prog 49 #[.slice a l.length ca,.slice b l.length cb] w fun e w'=>e=.returned (.bool true)∧Below w.heap.size w w':=by
 have hn:=h1.1
 have hne:((l.length:Int) != (l.length:Int))=false:=by simp
 go_enter Tryz.func49,Tryz.ntmps49
 go_wp2_with fail
 go_loopw [5] (fun i wr=>∃(k:Nat),k≤l.length∧i=.int .i64 k∧Below w.heap.size w wr) (fun i _=>l.length-(intOf i).toNat)
 case atStart=>exact⟨0,Nat.zero_le _,rfl,Below.refl _ _⟩
 case round=>
  obtain⟨k,hk,rfl,hbw⟩:=hrel
  by_cases hlt:k<l.length
  ·obtain⟨b1,off1,rfl,hb1,hc1⟩:=(h1.keep hbw hB).2 (by omega)
   obtain⟨b2,off2,rfl,hb2,hc2⟩:=(h2.keep hbw hB).2 (by omega)
   have N:=hc1 k hlt;have M:=hc2 k hlt
   clear hc1 hc2
   generalize l[k]?.getD GuD.z=x at *
   obtain⟨c0,c1,c2⟩:=N;obtain⟨d0,d1,d2⟩:=M
   go_wp2_with fail
   go_region_with (go_at_call 90;refine(eqGuard_same x.tr x.keep x.hand _).mono ?_;rintro e w' ⟨rfl,hb'⟩)
   all_goals (go_wp2_with fail)
   all_goals go_roundw
   all_goals first | (case rel=>exact⟨k+1,by omega,by go_num,hbw.drew.trans (hb'.mono hbw.size)⟩) | skip
   all_goals (simp[intOf];omega)
  ·go_wp2_with fail
   go_ret
   exact⟨rfl,hbw⟩
theorem eqState_same (r:Bool)(t:List Int)(g:List GuD)(a1 a2 b1 b2:Option Addr)(c1 c2 d1 d2:Nat)(S:Nat→Prop)(w:World)(h1:IntsAt w S a1 t)(h2:GusAt w S a2 g)(k1:IntsAt w S b1 t)(k2:GusAt w S b2 g)(hB:∀ b,S b→b<w.heap.size) :
  Calls Tryz.prog 21 #[.agg #[.bool r,.slice a1 t.length c1,.slice a2 g.length c2],.agg #[.bool r,.slice b1 t.length d1,.slice b2 g.length d2]] w fun e w'=>e=.returned (.bool true)∧Below w.heap.size w w':=by
 have e0:(r != r)=false:=by simp
 have HA:Hid (∀ o1 o2,Below w.heap.size w ((w.alloc o1).alloc o2)):=fun o1 o2=>by
  repeat (first | refine Below.alloc ?_ (by simp<;>omega) _ | exact Below.refl _ _)
 go_enter Tryz.func21,Tryz.ntmps21
 go_wp2_with fail
 refine(eqIntS_same _ _ _ _ _ S _ (h1.keep (HA.out _ _) hB) (k1.keep (HA.out _ _) hB) (fun b h=>Nat.lt_of_lt_of_le (hB b h) (HA.out _ _).size)).mono ?_
 rintro e w1 ⟨rfl,hb1⟩
 have hbw1:Below w.heap.size w w1:=(HA.out _ _).trans (hb1.mono (HA.out _ _).size)
 obtain⟨hc,hf⟩:=bcell hb1
 have hz:w.heap.size+1+1≤w1.heap.size:=by have:=hb1.size;simpa using this
 have hz0:w.heap.size<w1.heap.size:=by omega
 have hz1:w.heap.size+1<w1.heap.size:=by omega
 go_wp2_with fail
 refine(eqGuardS_same _ _ _ _ _ S _ (h2.keep hbw1 hB) (k2.keep hbw1 hB) (fun b h=>Nat.lt_of_lt_of_le (hB b h) hbw1.size)).mono ?_
 rintro e w2 ⟨rfl,hb2⟩
 go_wp2_with fail
 go_ret
 exact⟨rfl,hbw1.trans (hb2.mono hbw1.size)⟩
theorem eqStateS_same (bS1 bT1 bS2 bT2 N ca cb:Nat)(r:Nat→Bool)(t:Nat→List Int)(g:Nat→List GuD)(R1 R2:Nat→Value×Value)(w:World)(h1:SR w bS1 bT1 N r t g R1)(h2:SR w bS2 bT2 N r t g R2)(hN:N≤1048576) :
  Calls Tryz.prog 8 #[.slice (some ⟨bS1,0,none⟩) N ca,.slice (some ⟨bS2,0,none⟩) N cb] w fun e w'=>e=.returned (.bool true)∧Below w.heap.size w w':=by
 have hne:((N:Int) != (N:Int))=false:=by simp
 go_enter Tryz.func8,Tryz.ntmps8
 go_wp2_with fail
 go_loopw [5] (fun i wr=>∃(k:Nat),k≤N∧i=.int .i64 k∧Below w.heap.size w wr) (fun i _=>N-(intOf i).toNat)
 case atStart=>exact⟨0,Nat.zero_le _,rfl,Below.refl _ _⟩
 case round=>
  obtain⟨k,hk,rfl,hbw⟩:=hrel
  by_cases hlt:k<N
  ·have q1:=h1.below hbw
   have q2:=h2.below hbw
   obtain⟨c0,c1,c2⟩:=q1.cells hlt
   obtain⟨d0,d1,d2⟩:=q2.cells hlt
   have ot1:=q1.ty k hlt
   have og1:=q1.gu k hlt
   have ot2:=q2.ty k hlt
   have og2:=q2.gu k hlt
   obtain⟨a1,e1,hv1⟩:=ot1.lenV
   obtain⟨a2,e2,hv2⟩:=og1.lenV
   obtain⟨b1,f1,hv3⟩:=ot2.lenV
   obtain⟨b2,f2,hv4⟩:=og2.lenV
   rw[hv1]at ot1 c1;rw[hv2]at og1 c2;rw[hv3]at ot2 d1;rw[hv4]at og2 d2
   have EQ:=hide (eqState_same (r k) (t k) (g k) a1 a2 b1 b2 e1 e2 f1 f2 (fun b=>b<wr.heap.size) wr.drew ot1.intsAt (og1.gusAt.keep ((Below.refl wr.heap.size wr).drew) (fun b h=>h)) ot2.intsAt (og2.gusAt.keep ((Below.refl wr.heap.size wr).drew) (fun b h=>h)) (fun b h=>h))
   clear q1 q2 ot1 og1 ot2 og2 hv1 hv2 hv3 hv4
   go_wp2_with fail
   go_region_with (go_at_call 21;refine(unhide EQ).mono ?_;rintro e w' ⟨rfl,hb'⟩)
   all_goals (go_wp2_with fail)
   all_goals go_roundw
   all_goals first | (case rel=>exact⟨k+1,by omega,by go_num,hbw.drew.trans (hb'.mono hbw.size)⟩) | skip
   all_goals (simp[intOf];omega)
  ·go_wp2_with fail
   go_ret
   exact⟨rfl,hbw⟩
def mI (k:Int)(n:Nat):List Int:=(List.range n).map fun j=>k+(j:Nat)
def mGu (k:Int)(j:Nat):GuD:=⟨k % 3==0,k+3 * (j:Nat)+1,k+3 * (j:Nat)+2⟩
def mG (k:Int)(n:Nat):List GuD:=(List.range n).map (mGu k)
def OB (v:Value)(b:Nat):Prop:=v.ownBlock=some b
theorem mark_step {α:Type}(f:Nat→α)(t:List α)(j:Nat)(h:j<t.length):((List.range j).map f++t.drop j).set j (f j)=(List.range (j+1)).map f++t.drop (j+1):=by
 have e:t.drop j=t[j]::t.drop (j+1):=List.drop_eq_getElem_cons h
 have e1:((List.range j).map f).length=j:=by simp
 rw[e,List.set_append_right _ _ (by simp),e1,Nat.sub_self,List.set_cons_zero,List.range_succ,List.map_append,List.append_assoc]
 rfl
theorem mark_end {α:Type}(f:Nat→α)(t:List α):(List.range t.length).map f++t.drop t.length=(List.range t.length).map f:=by simp
theorem mark_get {α:Type}(f:Nat→α)(n j:Nat)(d:α)(h:j<n):((List.range n).map f)[j]?.getD d=f j:=by simp[h]
theorem guV_set3 (l:List GuD)(j:Nat)(x:GuD)(hj:j<l.length):(((l.flatMap guV).set (j * 3) (.bool x.tr)).set (j * 3+1) (.int .i64 x.keep)).set (j * 3+2) (.int .i64 x.hand)=(l.set j x).flatMap guV:=by
 induction l generalizing j with
 | nil=>exact absurd hj (Nat.not_lt_zero _)
 | cons a l ih=>
  cases j with
  | zero=>simp[guV]
  | succ j=>
   rw[List.flatMap_cons,List.set_append_right _ _ (by simp[guV];omega),List.set_append_right _ _ (by simp[guV];omega),List.set_append_right _ _ (by simp[guV];omega)]
   have e:(j+1) * 3-(guV a).length=j * 3:=by simp[guV];omega
   have e1:(j+1) * 3+1-(guV a).length=j * 3+1:=by simp[guV];omega
   have e2:(j+1) * 3+2-(guV a).length=j * 3+2:=by simp[guV];omega
   rw[e,e1,e2,ih j (by simpa using hj)]
   simp
theorem OwnG.set3 {w:World}{base g n cap:Nat}{t:List GuD}(h:OwnG w base (.slice (some ⟨g,0,none⟩) n cap) t)(hn:n=t.length)(j:Nat)(x:GuD)(hj:j<t.length) :
  OwnG (((w.setCell ⟨g,j * 3,none⟩ (.bool x.tr)).setCell ⟨g,j * 3+1,none⟩ (.int .i64 x.keep)).setCell ⟨g,j * 3+2,none⟩ (.int .i64 x.hand)) base (.slice (some ⟨g,0,none⟩) n cap) (t.set j x):=by
 subst hn
 have h2:=(World.ownsRow.stored (World.ownsRow.stored (World.ownsRow.stored h (j * 3) (.bool x.tr)).1 (j * 3+1) (.int .i64 x.keep)).1 (j * 3+2) (.int .i64 x.hand)).1
 unfold OwnG
 rw[List.length_set,←guV_set3 t j x hj]
 exact h2
theorem markIntS_own (v:Value)(t:List Int)(k:Int)(base:Nat)(w:World)(h:OwnI w base v t)(h0:0≤k)(hk:k+t.length≤1000000000000) :
  Calls Tryz.prog 24 #[v,.int .i64 k] w fun e w'=>e=.returned (.int .i64 (k+t.length))∧OwnI w' base v (mI k t.length)∧Mk (OB v) w w':=by
 by_cases hn:0<t.length
 case neg=>
  obtain⟨a,c,rfl⟩:=h.lenV
  have ht:t=[]:=List.eq_nil_of_length_eq_zero (by omega)
  subst ht
  have H:=hide h
  clear h
  go_enter Tryz.func24,Tryz.ntmps24
  go_wp2_with fail
  go_loopw [1,5] (fun q i wr=>q=.int .i64 k∧i=.int .i64 0∧wr=w) (fun _ _ _=>0)
  case atStart=>exact⟨rfl,rfl,rfl⟩
  case round=>
   obtain⟨rfl,rfl,rfl⟩:=hrel
   go_wp2_with fail
   go_ret
   exact⟨by simp,H.out,Mk.refl _ _⟩
 obtain⟨g,cap,rfl,_⟩:=h.at hn
 have HN:Hid (0<t.length):=hn
 have START:Hid (OwnI w base (.slice (some ⟨g,0,none⟩) t.length cap) ((List.range 0).map (fun j=>k+(j:Nat))++t.drop 0)):=hide (by simpa using h)
 clear h hn
 go_enter Tryz.func24,Tryz.ntmps24
 go_wp2_with fail
 go_loopw [1,5] (fun q i wr=>∃(j:Nat),j≤t.length∧q=.int .i64 (k+j)∧i=.int .i64 j∧Hid (Mk (OB (.slice (some ⟨g,0,none⟩) t.length cap)) w wr)∧Hid (OwnI wr base (.slice (some ⟨g,0,none⟩) t.length cap) ((List.range j).map (fun j=>k+(j:Nat))++t.drop j))) (fun _ i _=>t.length-(intOf i).toNat)
 case atStart=>exact⟨0,Nat.zero_le _,by simp,rfl,Mk.refl _ _,START⟩
 case round=>
  obtain⟨j,hj,rfl,rfl,hm,hrow⟩:=hrel
  have hll:((List.range j).map (fun j=>k+(j:Nat))++t.drop j).length=t.length:=by simp;omega
  by_cases hlt:j<t.length
  ·have hf:=hrow.out.frozen hll.symm j
   obtain⟨g',cap',hv,_,_,hcc⟩:=hrow.out.at (by omega)
   obtain rfl:g=g':=by injection hv with e;injection e with e;injection e
   have hOB:OB (.slice (some ⟨g,0,none⟩) t.length cap) g:=rfl
   have hg:=hcc j (by omega)
   clear hcc hv
   have NX:Hid (OwnI (wr.setCell ⟨g,j,none⟩ (.int .i64 (k+(j:Nat)))) base (.slice (some ⟨g,0,none⟩) t.length cap) ((List.range (j+1)).map (fun j=>k+(j:Nat))++t.drop (j+1))):=by
    have h1:=hrow.out.set hll.symm j (k+(j:Nat))
    rw[mark_step (fun j=>k+(j:Nat)) t j hlt]at h1
    exact h1
   clear hll
   go_wp2_with fail
   go_roundw
   case rel=>exact⟨j+1,by omega,by go_num,by go_num,hide (hm.out.trans (Mk.set hOB hg trivial _ trivial)),NX⟩
   case measure=>simp[intOf];omega
  ·have HK:Hid (j=t.length):=by show _=_;omega
   clear hll
   go_wp2_with fail
   go_ret
   have e:=HK.out
   subst e
   refine⟨rfl,?_,hm.out⟩
   have h1:=hrow.out
   rw[mark_end]at h1
   exact h1
theorem heldIntS_own (v:Value)(n:Nat)(k:Int)(base:Nat)(w:World)(h:OwnI w base v (mI k n))(h0:0≤k)(hk:k+n≤1000000000000) :
  Calls Tryz.prog 26 #[v,.int .i64 k] w fun e w'=>e=.returned (.int .i64 (k+n))∧Below w.heap.size w w':=by
 have hlen:(mI k n).length=n:=by simp[mI]
 obtain⟨a,c,hv⟩:=h.lenV
 rw[hlen]at hv
 subst hv
 have H:=hide h
 have HL:=hide hlen
 clear h hlen
 go_enter Tryz.func26,Tryz.ntmps26
 go_wp2_with fail
 go_loopw [1,5] (fun q i wr=>∃(j:Nat),j≤n∧q=.int .i64 (k+j)∧i=.int .i64 j∧Below w.heap.size w wr) (fun _ i _=>n-(intOf i).toNat)
 case atStart=>exact⟨0,Nat.zero_le _,by simp,rfl,Below.refl _ _⟩
 case round=>
  obtain⟨j,hj,rfl,rfl,hb⟩:=hrel
  by_cases hlt:j<n
  ·obtain⟨g,cap,hv,_,_,hcc⟩:=(H.out.below hb).at (by rw[HL.out];omega)
   injection hv with e1 e2 e3
   subst e1
   have hg:=hcc j (by rw[HL.out];exact hlt)
   rw[show(mI k n)[j]?.getD 0=k+(j:Nat)from mark_get _ n j 0 hlt]at hg
   clear hcc e2 e3
   have hxx:((k+(j:Int)) != (k+(j:Int)))=false:=by simp
   go_wp2_with fail
   go_roundw
   case rel=>exact⟨j+1,by omega,by go_num,by go_num,hb⟩
   case measure=>simp[intOf];omega
  ·have HK:Hid (j=n):=by show _=_;omega
   go_wp2_with fail
   go_ret
   rw[HK.out]
   exact⟨rfl,hb⟩
theorem markGuardS_own (v:Value)(t:List GuD)(k:Int)(base:Nat)(w:World)(h:OwnG w base v t)(h0:0≤k)(hk:k+3 * t.length≤1000000000000) :
  Calls Tryz.prog 25 #[v,.int .i64 k] w fun e w'=>e=.returned (.int .i64 (k+3 * t.length))∧OwnG w' base v (mG k t.length)∧Mk (OB v) w w':=by
 by_cases hn:0<t.length
 case neg=>
  obtain⟨a,c,rfl⟩:=h.lenV
  have ht:t=[]:=List.eq_nil_of_length_eq_zero (by omega)
  subst ht
  have H:=hide h
  clear h
  go_enter Tryz.func25,Tryz.ntmps25
  go_wp2_with fail
  go_loopw [1,5] (fun q i wr=>q=.int .i64 k∧i=.int .i64 0∧wr=w) (fun _ _ _=>0)
  case atStart=>exact⟨rfl,rfl,rfl⟩
  case round=>
   obtain⟨rfl,rfl,rfl⟩:=hrel
   go_wp2_with fail
   go_ret
   exact⟨by simp,H.out,Mk.refl _ _⟩
 obtain⟨g,cap,rfl,_⟩:=h.at hn
 have START:Hid (OwnG w base (.slice (some ⟨g,0,none⟩) t.length cap) ((List.range 0).map (mGu k)++t.drop 0)):=hide (by simpa using h)
 clear h hn
 go_enter Tryz.func25,Tryz.ntmps25
 go_wp2_with fail
 go_loopw [1,5] (fun q i wr=>∃(j:Nat),j≤t.length∧q=.int .i64 (k+3 * j)∧i=.int .i64 j∧Hid (Mk (OB (.slice (some ⟨g,0,none⟩) t.length cap)) w wr)∧Hid (OwnG wr base (.slice (some ⟨g,0,none⟩) t.length cap) ((List.range j).map (mGu k)++t.drop j))) (fun _ i _=>t.length-(intOf i).toNat)
 case atStart=>exact⟨0,Nat.zero_le _,by simp,rfl,Mk.refl _ _,START⟩
 case round=>
  obtain⟨j,hj,rfl,rfl,hm,hrow⟩:=hrel
  have hll:((List.range j).map (mGu k)++t.drop j).length=t.length:=by simp;omega
  by_cases hlt:j<t.length
  ·have hf:=fun i=>hrow.out.frozen hll.symm i
   obtain⟨g',cap',hv,_,_,_,hcc⟩:=hrow.out.at (by omega)
   obtain rfl:g=g':=by injection hv with e;injection e with e;injection e
   have hOB:OB (.slice (some ⟨g,0,none⟩) t.length cap) g:=rfl
   obtain⟨hg0,hg1,hg2⟩:=hcc j (by omega)
   clear hcc hv
   have NX:Hid (OwnG (((wr.setCell ⟨g,j * 3,none⟩ (.bool (k % 3==0))).setCell ⟨g,j * 3+1,none⟩ (.int .i64 (k+3 * (j:Int)+1))).setCell ⟨g,j * 3+2,none⟩ (.int .i64 (k+3 * (j:Int)+2))) base (.slice (some ⟨g,0,none⟩) t.length cap) ((List.range (j+1)).map (mGu k)++t.drop (j+1))):=by
    have h1:=hrow.out.set3 hll.symm j (mGu k j) (by omega)
    rw[mark_step (mGu k) t j hlt]at h1
    exact h1
   have E2:Hid (k+3 * (j:Int)+1+1=k+3 * (j:Int)+2):=by show _=_;omega
   have E3:Hid (k+3 * (j:Int)+2+1=k+3 * ((j+1:Nat):Int)):=by show _=_;omega
   clear hll
   go_wp2_with fail
   rw[E2.out,E3.out]
   go_roundw
   case rel=>
    refine⟨j+1,by omega,by go_num,by go_num,hide (hm.out.trans ?_),NX⟩
    refine mk_set ?_ hOB ⟨_,hg2,trivial⟩ _ trivial
    refine mk_set ?_ hOB ⟨_,hg1,trivial⟩ _ trivial
    refine mk_set ?_ hOB ⟨_,hg0,trivial⟩ _ trivial
    exact Mk.refl _ _
   case measure=>simp[intOf];omega
  ·have HK:Hid (j=t.length):=by show _=_;omega
   clear hll
   go_wp2_with fail
   go_ret
   have e:=HK.out
   subst e
   refine⟨rfl,?_,hm.out⟩
   have h1:=hrow.out
   rw[mark_end]at h1
   exact h1
theorem heldGuardS_own (v:Value)(n:Nat)(k:Int)(base:Nat)(w:World)(h:OwnG w base v (mG k n))(h0:0≤k)(hk:k+3 * n≤1000000000000) :
  Calls Tryz.prog 27 #[v,.int .i64 k] w fun e w'=>e=.returned (.int .i64 (k+3 * n))∧Below w.heap.size w w':=by
 have hlen:(mG k n).length=n:=by simp[mG]
 obtain⟨a,c,hv⟩:=h.lenV
 rw[hlen]at hv
 subst hv
 have H:=hide h
 have HL:=hide hlen
 clear h hlen
 go_enter Tryz.func27,Tryz.ntmps27
 go_wp2_with fail
 go_loopw [1,5] (fun q i wr=>∃(j:Nat),j≤n∧q=.int .i64 (k+3 * j)∧i=.int .i64 j∧Below w.heap.size w wr) (fun _ i _=>n-(intOf i).toNat)
 case atStart=>exact⟨0,Nat.zero_le _,by simp,rfl,Below.refl _ _⟩
 case round=>
  obtain⟨j,hj,rfl,rfl,hb⟩:=hrel
  by_cases hlt:j<n
  ·obtain⟨g,cap,hv,_,_,_,hcc⟩:=(H.out.below hb).at (by rw[HL.out];omega)
   injection hv with e1 e2 e3
   subst e1
   have hg:=hcc j (by rw[HL.out];exact hlt)
   rw[show(mG k n)[j]?.getD GuD.z=mGu k j from mark_get _ n j _ hlt]at hg
   obtain⟨hg0,hg1,hg2⟩:=hg
   rw[show(mGu k j).tr=((k+3 * (j:Int)) % 3==0)from by show(k % 3==0)=_;rw[show(k+3 * (j:Int)) % 3=k % 3 by omega]]at hg0
   rw[show(mGu k j).keep=k+3 * (j:Int)+1 from rfl]at hg1
   rw[show(mGu k j).hand=k+3 * (j:Int)+1+1 from by show k+3 * (j:Int)+2=_;omega]at hg2
   clear hcc e2 e3
   obtain⟨kj,hkj⟩:∃ kj:Int,kj=k+3 * (j:Int):=⟨_,rfl⟩
   rw[←hkj]at hg0 hg1 hg2 ⊢
   have hkb:0≤kj∧kj+3≤1000000000000:=by omega
   obtain⟨hkb0,hkb1⟩:=hkb
   have E3:Hid (kj+1+1+1=k+3 * ((j+1:Nat):Int)):=by show _=_;omega
   have hx0:((kj % 3==0) != (kj % 3==0))=false:=by simp
   have hx1:((kj+1) != (kj+1))=false:=by simp
   have hx2:((kj+1+1) != (kj+1+1))=false:=by simp
   have hnn:n≤1000000000000:=by omega
   clear hkj hk
   go_wp2_with fail
   rw[E3.out]
   go_roundw
   case rel=>exact⟨j+1,by omega,by go_num,by go_num,hb⟩
   case measure=>simp[intOf];omega
  ·have HK:Hid (j=n):=by show _=_;omega
   go_wp2_with fail
   go_ret
   rw[HK.out]
   exact⟨rfl,hb⟩
def Apt (R:Nat→Value×Value)(N:Nat):Prop:=∀ i j,i<N→j<N→i≠j→Dis (R i).1 (R j).1∧Dis (R i).2 (R j).2
theorem own_cross {w:World}{base base':Nat}{u v:Value}{t:List Int}{g:List GuD}(h1:OwnI w base v t)(h2:OwnG w base' u g):Dis v u:=fun k e1 e2=>by
 rcases h1.2 with⟨rfl,_⟩ | ⟨a,c,cur,rfl,_,k1,_⟩
 ·cases e1
 rcases h2.2 with⟨rfl,_⟩ | ⟨a',c',cur',rfl,_,k2,_⟩
 ·cases e2
 obtain rfl:a=k:=by injection e1
 obtain rfl:a'=a:=by injection e2
 rw[k1]at k2
 injection k2 with k2
 injection k2 with _ k3
 exact absurd k3 (by decide)
section
variable {w w':World} {bS bT N:Nat} {r:Nat→Bool} {t:Nat→List Int} {g:Nat→List GuD} {R:Nat→Value×Value}
theorem SR.setR (h:SR w bS bT N r t g R)(j:Nat)(x:Bool):SR (w.setCell ⟨bS,j * 3,none⟩ (.bool x)) bS bT N (upd r j x) t g R:=
 ⟨h.lt,(h.row.set (j * 3) _).congr (fun i hi=>by
  show(if i=j * 3 then .bool x else sfV r R i)=sfV (upd r j x) R i
  unfold sfV upd
  by_cases e0:i % 3=0
  ·by_cases e:i=j * 3
   ·rw[if_pos e,if_pos e0,if_pos (by omega)]
   ·rw[if_neg e,if_pos e0,if_pos e0,if_neg (by omega)]
  ·rw[if_neg (by omega),if_neg e0,if_neg e0]),fun i hi=>(h.ty i hi).setOther h.lt,fun i hi=>(h.gu i hi).setOther h.lt⟩
theorem SR.setTy (h:SR w bS bT N r t g R)(ha:Apt R N){j:Nat}{x:List Int}(hj:j<N)(hm:Mk (OB (R j).1) w w')(ho:OwnI w' bT (R j).1 x):SR w' bS bT N r (upd t j x) g R:=by
 have key:∀ k,k<w.heap.size→(R j).1.ownBlock≠some k→w'.heap[k]? = w.heap[k]?:=fun k hk hn=>hm.block k hk hn
 refine⟨h.lt,h.row.of_block (key _ h.row.lt (fun e=>by have:=(h.ty j hj).lt' _ e;have:=h.lt;omega)),fun i hi=>?_,fun i hi=>(h.gu i hi).sameBlock (fun k hk=>key k ((h.gu i hi).lt' k hk).2 (fun e=>own_cross (h.ty j hj) (h.gu i hi) k e hk))⟩
 unfold upd
 by_cases e:i=j
 ·rw[if_pos e,e];exact ho
 ·rw[if_neg e];exact(h.ty i hi).sameBlock (fun k hk=>key k ((h.ty i hi).lt' k hk).2 (fun e2=>(ha i j hi hj e).1 k hk e2))
theorem SR.setGu (h:SR w bS bT N r t g R)(ha:Apt R N){j:Nat}{x:List GuD}(hj:j<N)(hm:Mk (OB (R j).2) w w')(ho:OwnG w' bT (R j).2 x):SR w' bS bT N r t (upd g j x) R:=by
 have key:∀ k,k<w.heap.size→(R j).2.ownBlock≠some k→w'.heap[k]? = w.heap[k]?:=fun k hk hn=>hm.block k hk hn
 refine⟨h.lt,h.row.of_block (key _ h.row.lt (fun e=>by have:=(h.gu j hj).lt' _ e;have:=h.lt;omega)),fun i hi=>(h.ty i hi).sameBlock (fun k hk=>key k ((h.ty i hi).lt' k hk).2 (fun e=>own_cross (h.ty i hi) (h.gu j hj) k hk e)),fun i hi=>?_⟩
 unfold upd
 by_cases e:i=j
 ·rw[if_pos e,e];exact ho
 ·rw[if_neg e];exact(h.gu i hi).sameBlock (fun k hk=>key k ((h.gu i hi).lt' k hk).2 (fun e2=>(ha i j hi hj e).2 k hk e2))
theorem SR.congr {r':Nat→Bool}{t':Nat→List Int}{g':Nat→List GuD}(h:SR w bS bT N r t g R)(e:∀ i,i<N→r i=r' i∧t i=t' i∧g i=g' i):SR w bS bT N r' t' g' R:=
 ⟨h.lt,h.row.congr (fun j hj=>by
  unfold sfV
  split
  ·rw[(e (j / 3) (by omega)).1]
  ·rfl),fun i hi=>by rw[←(e i hi).2.1];exact h.ty i hi,fun i hi=>by rw[←(e i hi).2.2];exact h.gu i hi⟩
end
def stK (t:Nat→List Int)(g:Nat→List GuD)(k:Int):Nat→Int
 | 0=>k
 | i+1=>stK t g k i+1+(t i).length+3 * (g i).length
def mkR (t:Nat→List Int)(g:Nat→List GuD)(k:Int)(i:Nat):Bool:=stK t g k i % 3==0
def mkT (t:Nat→List Int)(g:Nat→List GuD)(k:Int)(i:Nat):List Int:=mI (stK t g k i+1) (t i).length
def mkG (t:Nat→List Int)(g:Nat→List GuD)(k:Int)(i:Nat):List GuD:=mG (stK t g k i+1+(t i).length) (g i).length
theorem stK_le {t:Nat→List Int}{g:Nat→List GuD}{k:Int}(h0:0≤k)(hl:∀ i,(t i).length≤1000∧(g i).length≤1000):∀ i:Nat,0≤stK t g k i∧stK t g k i≤k+5000 * i
 | 0=>by simp[stK];exact h0
 | i+1=>by
  have h1:=stK_le h0 hl i
  have h2:=hl i
  simp only[stK]
  omega
theorem markStateS_any (bS bT N c:Nat)(k:Int)(r:Nat→Bool)(t:Nat→List Int)(g:Nat→List GuD)(R:Nat→Value×Value)(w:World)(h:SR w bS bT N r t g R)(ha:Apt R N)(h0:0≤k)(hk:k≤1000)(hl:∀ i,(t i).length≤1000∧(g i).length≤1000)(hN:N≤1048576) :
  Calls Tryz.prog 11 #[.slice (some ⟨bS,0,none⟩) N c,.int .i64 k] w fun e w'=>e=.returned (.int .i64 (stK t g k N))∧SR w' bS bT N (mkR t g k) (mkT t g k) (mkG t g k) R∧Mk (fun b=>bS≤b) w w':=by
 have HK:=hide (stK_le h0 hl)
 have HL:=hide hl
 have HA:=hide ha
 have START:Hid (SR w bS bT N (fun i=>if i<0 then mkR t g k i else r i) (fun i=>if i<0 then mkT t g k i else t i) (fun i=>if i<0 then mkG t g k i else g i) R):=hide (h.congr (fun i hi=>by simp))
 clear h hl ha
 go_enter Tryz.func11,Tryz.ntmps11
 go_wp2_with fail
 go_loopw [1,5] (fun q i wr=>∃(j:Nat),j≤N∧q=.int .i64 (stK t g k j)∧i=.int .i64 j∧Hid (Mk (fun b=>bS≤b) w wr)∧Hid (SR wr bS bT N (fun i=>if i<j then mkR t g k i else r i) (fun i=>if i<j then mkT t g k i else t i) (fun i=>if i<j then mkG t g k i else g i) R)) (fun _ i _=>N-(intOf i).toNat)
 case atStart=>exact⟨0,Nat.zero_le _,rfl,rfl,Mk.refl _ _,START⟩
 case round=>
  clear START
  obtain⟨j,hj,rfl,rfl,hm,hrow⟩:=hrel
  by_cases hlt:j<N
  ·obtain⟨hk0,hk1⟩:=HK.out j
   obtain⟨hl1,hl2⟩:=HL.out j
   have HE:Hid (stK t g k (j+1)=stK t g k j+1+(t j).length+3 * (g j).length):=rfl
   have hq:=hrow.out
   obtain⟨c0,c1,c2⟩:=hq.cells hlt
   have hf:=hq.row.frozen (j * 3)
   have hlb:=hq.lt
   have hrl:=hq.row.lt
   have oT:=hq.ty j hlt
   have oG:=hq.gu j hlt
   simp only[Nat.lt_irrefl,if_false]at c0 oT oG
   have F1:Hid (mkR t g k j=(stK t g k j % 3==0)):=rfl
   have F2:Hid (mkT t g k j=mI (stK t g k j+1) (t j).length):=rfl
   have F3:Hid (mkG t g k j=mG (stK t g k j+1+(t j).length) (g j).length):=rfl
   generalize stK t g k j=kj at *
   have hkb:kj+10000≤1000000000000:=by omega
   have OT:Hid (OwnI (wr.setCell ⟨bS,j * 3,none⟩ (.bool (kj % 3==0))) bT (R j).1 (t j)):=oT.setOther hlb
   have OG:Hid (OwnG wr bT (R j).2 (g j)):=oG
   have M1:Hid (Mk (fun b=>bS≤b) wr (wr.setCell ⟨bS,j * 3,none⟩ (.bool (kj % 3==0)))):=hide (Mk.set (Nat.le_refl _) c0 trivial _ trivial)
   have S1:Hid (SR (wr.setCell ⟨bS,j * 3,none⟩ (.bool (kj % 3==0))) bS bT N _ _ _ R):=hide (hrow.out.setR j (kj % 3==0))
   have hne1:(⟨bS,j * 3,none⟩:Addr)≠⟨bS,j * 3+1,none⟩:=by simp
   clear hq oT oG hk1
   generalize hR1:(R j).1=tv at *
   generalize hR2:(R j).2=gv at *
   have R1:=hide hR1
   have R2:=hide hR2
   clear hR1 hR2
   go_wp2_with fail
   refine(markIntS_own tv (t j) _ bT _ OT.out (by omega) (by omega)).mono ?_
   rintro e w1 ⟨rfl,o1,m1⟩
   have S2:=S1.out.setTy HA.out hlt (by rw[R1.out];exact m1) (by rw[R1.out];exact o1)
   have m1':Mk (fun b=>bS≤b) wr w1:=M1.out.trans (m1.mono (fun b hb=>by have:=OT.out.lt' b hb;omega))
   obtain⟨d0,d1,d2⟩:=S2.cells hlt
   have og:=S2.gu j hlt
   simp only[Nat.lt_irrefl,if_false]at og
   rw[R2.out]at d2 og
   have M2:=hide m1'
   have HS2:=hide S2
   have OG2:=hide og
   clear m1' S2 og d0 d1 o1 m1 M1 S1 OT OG c0 c1 c2 hf
   go_wp2_with fail
   refine(markGuardS_own gv (g j) _ bT _ OG2.out (by omega) (by omega)).mono ?_
   rintro e w2 ⟨rfl,o2,m2⟩
   have S3:=hide (HS2.out.setGu HA.out hlt (by rw[R2.out];exact m2) (by rw[R2.out];exact o2))
   have M3:Hid (Mk (fun b=>bS≤b) w w2):=hide (hm.out.trans (M2.out.trans (m2.mono (fun b hb=>by have:=OG2.out.lt' b hb;omega))))
   clear d2 o2 m2 M2 HS2 OG2 hrow hm
   go_wp2_with fail
   go_roundw
   case rel=>
    refine⟨j+1,by omega,by rw[HE.out],by go_num,M3,hide (S3.out.congr fun i hi=>?_)⟩
    unfold upd
    by_cases e:i=j
    ·subst e
     simp[F1.out,F2.out,F3.out]
    ·have:(i<j+1)=(i<j):=by apply propext;omega
     simp[e,this]
   case measure=>simp[intOf];omega
  ·have HJ:Hid (j=N):=by show _=_;omega
   go_wp2_with fail
   go_ret
   have e:=HJ.out
   subst e
   exact⟨rfl,hrow.out.congr (fun i hi=>by simp[hi]),hm.out⟩
theorem heldStateS_any (bS bT N c:Nat)(k:Int)(t:Nat→List Int)(g:Nat→List GuD)(R:Nat→Value×Value)(w:World)(h:SR w bS bT N (mkR t g k) (mkT t g k) (mkG t g k) R)(h0:0≤k)(hk:k≤1000)(hl:∀ i,(t i).length≤1000∧(g i).length≤1000)(hN:N≤1048576) :
  Calls Tryz.prog 12 #[.slice (some ⟨bS,0,none⟩) N c,.int .i64 k] w fun e w'=>e=.returned (.int .i64 (stK t g k N))∧Below w.heap.size w w':=by
 have HK:=hide (stK_le h0 hl)
 have HL:=hide hl
 have H:=hide h
 clear h hl
 go_enter Tryz.func12,Tryz.ntmps12
 go_wp2_with fail
 go_loopw [1,5] (fun q i wr=>∃(j:Nat),j≤N∧q=.int .i64 (stK t g k j)∧i=.int .i64 j∧Below w.heap.size w wr) (fun _ i _=>N-(intOf i).toNat)
 case atStart=>exact⟨0,Nat.zero_le _,rfl,rfl,Below.refl _ _⟩
 case round=>
  obtain⟨j,hj,rfl,rfl,hb⟩:=hrel
  by_cases hlt:j<N
  ·obtain⟨hk0,hk1⟩:=HK.out j
   obtain⟨hl1,hl2⟩:=HL.out j
   have HE:Hid (stK t g k (j+1)=stK t g k j+1+(t j).length+3 * (g j).length):=rfl
   have hq:=H.out.below hb
   obtain⟨c0,c1,c2⟩:=hq.cells hlt
   have oT:=hq.ty j hlt
   have oG:=hq.gu j hlt
   rw[show mkR t g k j=(stK t g k j % 3==0)from rfl]at c0
   rw[show mkT t g k j=mI (stK t g k j+1) (t j).length from rfl]at oT
   rw[show mkG t g k j=mG (stK t g k j+1+(t j).length) (g j).length from rfl]at oG
   generalize stK t g k j=kj at *
   have hkb:kj+10000≤1000000000000:=by omega
   have OT:=hide oT
   have OG:=hide oG
   have hx0:((kj % 3==0) != (kj % 3==0))=false:=by simp
   have hrl:=hq.row.lt
   clear hq oT oG hk1
   generalize (R j).1=tv at *
   generalize (R j).2=gv at *
   go_wp2_with fail
   refine(heldIntS_own tv (t j).length _ bT _ OT.out (by omega) (by omega)).mono ?_
   rintro e w1 ⟨rfl,b1⟩
   have d2:=(b1.cell (p:=⟨bS,j * 3+2,none⟩) hrl).trans c2
   have hnn:¬(kj+1+((t j).length:Int)<0):=by omega
   have HB1:=hide (hb.trans (b1.mono hb.size))
   have OG1:=hide (OG.out.below b1)
   clear c0 c1 c2 b1 OG OT
   go_wp2_with fail
   refine(heldGuardS_own gv (g j).length _ bT _ OG1.out (by omega) (by omega)).mono ?_
   rintro e w2 ⟨rfl,b2⟩
   have HB2:=hide (HB1.out.trans (b2.mono HB1.out.size))
   have hnn2:¬(kj+1+((t j).length:Int)+3 * ((g j).length:Int)<0):=by omega
   clear b2 d2 hb
   go_wp2_with fail
   go_roundw
   case rel=>exact⟨j+1,by omega,by rw[HE.out],by go_num,HB2.out⟩
   case measure=>simp[intOf];omega
  ·have HJ:Hid (j=N):=by show _=_;omega
   go_wp2_with fail
   go_ret
   rw[HJ.out]
   exact⟨rfl,hb⟩
structure StR (w:World)(lo hi N:Nat)(r:Nat→Bool)(t:Nat→List Int)(g:Nat→List GuD)(ap:Prop)(bS bT:Nat)(R:Nat→Value×Value):Prop where
 sr:SR w bS bT N r t g R
 apt:ap→Apt R N
 ge:lo≤bS
 lt:bS<hi
 ty:∀ i,i<N→∀ k,(R i).1.ownBlock=some k→k<hi
 gu:∀ i,i<N→∀ k,(R i).2.ownBlock=some k→k<hi
def StA (w:World)(lo hi N:Nat)(r:Nat→Bool)(t:Nat→List Int)(g:Nat→List GuD)(ap:Prop)(a:Option Addr):Prop:=
 (a=none∧N=0)∨∃ bS bT R,a=some ⟨bS,0,none⟩∧StR w lo hi N r t g ap bS bT R
section
variable {w w':World} {lo hi lo' hi' N:Nat} {r:Nat→Bool} {t:Nat→List Int} {g:Nat→List GuD} {ap:Prop} {a b:Option Addr}
theorem StA.same (h:StA w lo hi N r t g ap a)(hb:∀ b,lo≤b→b<hi→w'.heap[b]? = w.heap[b]?):StA w' lo hi N r t g ap a:=by
 rcases h with h | ⟨bS,bT,R,e,h⟩
 ·exact .inl h
 ·have hl:=h.sr.lt
  have hg:=h.ge
  exact .inr ⟨bS,bT,R,e,{ h with sr:=⟨hl,h.sr.row.of_block (hb _ hg h.lt),fun i hi=>(h.sr.ty i hi).sameBlock (fun k hk=>hb k (by have:=(h.sr.ty i hi).lt' k hk;omega) (h.ty i hi k hk)),fun i hi=>(h.sr.gu i hi).sameBlock (fun k hk=>hb k (by have:=(h.sr.gu i hi).lt' k hk;omega) (h.gu i hi k hk))⟩ }⟩
theorem StA.below (h:StA w lo hi N r t g ap a)(hh:hi≤w.heap.size)(hb:Below w.heap.size w w'):StA w' lo hi N r t g ap a:=
 h.same (fun b _ h2=>hb.block b (by omega))
theorem StA.marked {S:Nat→Prop}(h:StA w lo hi N r t g ap a)(hh:hi≤w.heap.size)(hm:Mk S w w')(hS:∀ b,lo≤b→b<hi→¬S b):StA w' lo hi N r t g ap a:=
 h.same (fun b h1 h2=>hm.block b (by omega) (hS b h1 h2))
end
theorem eqStateS_none (a b:Option Addr)(ca cb:Nat)(w:World):Calls Tryz.prog 8 #[.slice a (0:Nat) ca,.slice b (0:Nat) cb] w fun e w'=>e=.returned (.bool true)∧Below w.heap.size w w':=by
 go_enter Tryz.func8,Tryz.ntmps8
 go_wp2_with fail
 go_loopw [5] (fun i wr=>i=.int .i64 0∧Below w.heap.size w wr) (fun i _=>0)
 case atStart=>exact⟨rfl,Below.refl _ _⟩
 case round=>
  obtain⟨rfl,hbw⟩:=hrel
  go_wp2_with fail
  go_ret
  exact⟨rfl,hbw⟩
theorem markStateS_none (a:Option Addr)(c:Nat)(k:Int)(w:World):Calls Tryz.prog 11 #[.slice a (0:Nat) c,.int .i64 k] w fun e w'=>e=.returned (.int .i64 k)∧Below w.heap.size w w':=by
 go_enter Tryz.func11,Tryz.ntmps11
 go_wp2_with fail
 go_loopw [1,5] (fun q i wr=>q=.int .i64 k∧i=.int .i64 0∧Below w.heap.size w wr) (fun _ i _=>0)
 case atStart=>exact⟨rfl,rfl,Below.refl _ _⟩
 case round=>
  obtain⟨rfl,rfl,hbw⟩:=hrel
  go_wp2_with fail
  go_ret
  exact⟨rfl,hbw⟩
theorem heldStateS_none (a:Option Addr)(c:Nat)(k:Int)(w:World):Calls Tryz.prog 12 #[.slice a (0:Nat) c,.int .i64 k] w fun e w'=>e=.returned (.int .i64 k)∧Below w.heap.size w w':=by
 go_enter Tryz.func12,Tryz.ntmps12
 go_wp2_with fail
 go_loopw [1,5] (fun q i wr=>q=.int .i64 k∧i=.int .i64 0∧Below w.heap.size w wr) (fun _ i _=>0)
 case atStart=>exact⟨rfl,rfl,Below.refl _ _⟩
 case round=>
  obtain⟨rfl,rfl,hbw⟩:=hrel
  go_wp2_with fail
  go_ret
  exact⟨rfl,hbw⟩
theorem eqStateS_a {lo hi lo' hi' N:Nat}{r:Nat→Bool}{t:Nat→List Int}{g:Nat→List GuD}{ap aq:Prop}{a b:Option Addr}(ca cb:Nat)(w:World)(h1:StA w lo hi N r t g ap a)(h2:StA w lo' hi' N r t g aq b)(hN:N≤1048576) :
  Calls Tryz.prog 8 #[.slice a N ca,.slice b N cb] w fun e w'=>e=.returned (.bool true)∧Below w.heap.size w w':=by
 rcases h1 with⟨_,rfl⟩ | ⟨bS,bT,R,rfl,h1⟩
 ·exact eqStateS_none _ _ _ _ _
 ·rcases h2 with⟨_,rfl⟩ | ⟨bS',bT',R',rfl,h2⟩
  ·exact eqStateS_none _ _ _ _ _
  ·exact eqStateS_same _ _ _ _ _ _ _ r t g _ _ w h1.sr h2.sr hN
theorem markStateS_a {lo hi N:Nat}{r:Nat→Bool}{t:Nat→List Int}{g:Nat→List GuD}{a:Option Addr}(c:Nat)(w:World)(h:StA w lo hi N r t g True a)(hl:∀ i,(t i).length≤1000∧(g i).length≤1000)(hN:N≤1048576) :
  Calls Tryz.prog 11 #[.slice a N c,.int .i64 1] w fun e w'=>e=.returned (.int .i64 (stK t g 1 N))∧StA w' lo hi N (mkR t g 1) (mkT t g 1) (mkG t g 1) True a∧Mk (fun b=>lo≤b) w w':=by
 rcases h with⟨rfl,rfl⟩ | ⟨bS,bT,R,rfl,h⟩
 ·exact(markStateS_none _ _ _ _).mono (fun e w' ⟨h1,h2⟩=>⟨h1,.inl ⟨rfl,rfl⟩,Mk.of_below h2⟩)
 ·exact(markStateS_any bS bT N c 1 r t g R w h.sr (h.apt trivial) (by decide) (by decide) hl hN).mono (fun e w' ⟨h1,h2,h3⟩=>⟨h1,.inr ⟨bS,bT,R,rfl,{ h with sr:=h2 }⟩,h3.mono (fun b hb=>Nat.le_trans h.ge hb)⟩)
theorem heldStateS_a {lo hi N:Nat}{t:Nat→List Int}{g:Nat→List GuD}{a:Option Addr}(c:Nat)(w:World)(h:StA w lo hi N (mkR t g 1) (mkT t g 1) (mkG t g 1) True a)(hl:∀ i,(t i).length≤1000∧(g i).length≤1000)(hN:N≤1048576) :
  Calls Tryz.prog 12 #[.slice a N c,.int .i64 1] w fun e w'=>e=.returned (.int .i64 (stK t g 1 N))∧Below w.heap.size w w':=by
 rcases h with⟨rfl,rfl⟩ | ⟨bS,bT,R,rfl,h⟩
 ·exact heldStateS_none _ _ _ _
 ·exact heldStateS_any bS bT N c 1 t g R w h.sr (by decide) (by decide) hl hN
def rS (σ:Mst)(i:Nat):Bool:=(σ.st i).isSome
def tS (σ:Mst)(i:Nat):List Int:=match σ.st i with | none=>[] | some s=>s.types
def gS (σ:Mst)(i:Nat):List GuD:=match σ.st i with | none=>[] | some s=>s.guards
theorem sr_of {w:World}{bS bT N:Nat}{σ:Mst}{R:Nat→Value×Value}(hl:bS<bT)(hr:w.rowIs bS 62 (N * 3) (stV σ R))(ho:∀ i s,i<N→σ.st i=some s→OwnI w bT (R i).1 s.types∧OwnG w bT (R i).2 s.guards)(hn:∀ i,i<N→σ.st i=none→R i=nil2):SR w bS bT N (rS σ) (tS σ) (gS σ) R where
 lt:=hl
 row:=hr.congr (fun j hj=>rfl)
 ty:=fun i hi=>by
  unfold tS
  cases e:σ.st i with
  | none=>rw[hn i hi e];exact World.ownsRow_nil _ _ _ _
  | some s=>exact(ho i s hi e).1
 gu:=fun i hi=>by
  unfold gS
  cases e:σ.st i with
  | none=>rw[hn i hi e];exact World.ownsRow_nil _ _ _ _
  | some s=>exact(ho i s hi e).2
theorem codeSaid_0 {l:List ProtoD}{f n:Int}(h:CodeSaid l 0 f n):f=0∧n=0∧ShapeSaid l 0 0 0∧∀ g,g<l.length→WalkSaid l (prD l g) 0 0:=by
 rcases h with⟨_,h⟩ | ⟨_,h,_⟩ | ⟨h0,_,h1,h2,h3⟩
 ·exact absurd rfl h
 ·exact absurd rfl h
 ·exact⟨h1,h2,h0,h3⟩
theorem spec_States_any (a:Option Addr)(l:List ProtoD)(c:Nat)(f:Int)(S:Nat→Prop)(w:World)(hs:ProtosAt w S a l)(hB:∀ b,S b→b<w.heap.size)(hl:tProtos l≤1048576) :
  Calls Tryz.prog 5 #[.agg #[.slice a l.length c],.int .i64 f] w (StsPost l f w):=by
 have hll:l.length≤1048576:=by unfold tProtos at hl;omega
 have HBA:Hid (∀ o,Below w.heap.size w (w.alloc o)):=fun o=>(Below.refl _ _).alloc (Nat.le_refl _) o
 have FN:Hid (∀ W:World,Below w.heap.size w W→ProtosAt W S a l∧∀ b,S b→b<W.heap.size):=fun W hW=>⟨hs.keep hW hB,fun b h=>Nat.lt_of_lt_of_le (hB b h) hW.size⟩
 clear hs hB
 go_enter Tryz.func5,Tryz.ntmps5
 go_wp2_with fail
 refine(spec_CheckCode_any a l c S _ (FN.out _ (HBA.out _)).1 (FN.out _ (HBA.out _)).2 hl).mono ?_
 rintro e w1 ⟨x,f0,n0,rfl,hsaid,hb1⟩
 have hw1:Below w.heap.size w w1:=(HBA.out _).trans (hb1.mono (HBA.out _).size)
 have v1:w1.cell? ⟨w.heap.size,0,none⟩=some (.slice a l.length c):=by rw[hb1.cell (p:=⟨w.heap.size,0,none⟩) (by simp)];simp[go_sem]
 have s1:w.heap.size+1≤w1.heap.size:=by have:=hb1.size;simpa using this
 have s1':w.heap.size<w1.heap.size:=by omega
 have HW1:=hide hw1
 have BB:Hid (∀ o,Below w.heap.size w (w1.alloc o)):=fun o=>hw1.alloc hw1.size o
 have HS:=hide hsaid
 clear hb1 hw1 hsaid
 by_cases hx:x=0
 case neg=>
  have hxb:(x != 0)=true:=by simpa using hx
  have RES:Hid (∀ o,StsPost l f w (.returned (.slice none 0 0)) (w1.alloc o)):=fun o=>⟨_,rfl,.inr ⟨fun h=>hx (codeSaid_unique HS.out h.1).1,rfl⟩,BB.out o⟩
  clear hx
  go_wp2_with fail
  go_ret
  exact RES.out _
 subst hx
 obtain⟨rfl,rfl,hsh,hwk⟩:=codeSaid_0 HS.out
 by_cases hf:f<0
 ·have RES:Hid (∀ o,StsPost l f w (.returned (.slice none 0 0)) (w1.alloc o)):=fun o=>⟨_,rfl,.inr ⟨fun h=>by have:=h.2.1;omega,rfl⟩,BB.out o⟩
  clear hsh hwk
  go_wp2_with fail
  go_ret
  exact RES.out _
 by_cases hf2:(l.length:Int)≤f
 ·have RES:Hid (∀ o,StsPost l f w (.returned (.slice none 0 0)) (w1.alloc o)):=fun o=>⟨_,rfl,.inr ⟨fun h=>by have:=h.2.2;omega,rfl⟩,BB.out o⟩
  clear hsh hwk
  go_wp2_with fail
  go_ret
  exact RES.out _
 obtain⟨p,rfl⟩:=Int.eq_ofNat_of_zero_le (show 0≤f by omega)
 have hp:p<l.length:=by omega
 have WK:Hid (∀ o,Calls Tryz.prog 15 #[.agg #[.slice a l.length c],.int .i64 p] (w1.alloc o) (WkPost l p (w1.alloc o))):=fun o=>l6walk_any l p c a S _ (FN.out _ (BB.out o)).1 (FN.out _ (BB.out o)).2 (wkOk_of hsh hp)
 have HWS:=hide (hwk p hp)
 clear hsh hwk FN
 go_wp2_with fail
 refine(WK.out _).mono ?_
 rintro e w3 ⟨v,x3,n3,rfl,hws,hst,hb3⟩
 obtain⟨rfl,rfl⟩:=walkSaid_unique HWS.out hws
 obtain⟨k,σ,bS,bT,R,rfl,g1,g2,g3,g4,g5,g6,g7,g8⟩:=hst rfl
 have hbw:Below w.heap.size w w3:=(BB.out _).trans (hb3.mono (BB.out _).size)
 have RES:Hid (∀ o,StsPost l p w (.returned (.slice (some ⟨bS,0,none⟩) (prD l p).ins.length (prD l p).ins.length)) (w3.alloc o)):=fun o=>by
  have hA:Below w3.heap.size w3 (w3.alloc o):=(Below.refl _ _).alloc (Nat.le_refl _) o
  refine⟨_,rfl,.inl ⟨HS.out,by omega,by omega,k,σ,bS,bT,R,rfl,g1,g2,g3,?_,g5,g6.of_block (hA.block _ g6.lt),fun i s hi hs=>⟨(g7 i s hi hs).1.below hA,(g7 i s hi hs).2.below hA⟩,g8⟩,hbw.trans (hA.mono hbw.size)⟩
  have:=(BB.out (.cells #[.int .i64 0,.int .i64 0,.int .i64 0] 39)).size
  simp at this g4
  omega
 clear hws hst hb3 g1 g2 g3 g4 g5 g6 g7 g8 hbw WK HWS HS
 go_wp2_with fail
 go_ret
 exact RES.out _
end Go.Proofs.YthmjjhfjkgaocaaGreatDoor
