import Derived.Test.YthmjjhfjkgaocaaGreatDoorPart38
import Derived.Test.YthmjjhfjkgaocaaGreatDoorPart17
import Derived.BigRegion
set_option linter.unusedSimpArgs false
set_option linter.unusedVariables false
set_option maxHeartbeats 8000000
set_option maxRecDepth 100000
namespace Go.Proofs.YthmjjhfjkgaocaaGreatDoor
open Go.RowKit
theorem readT_len (x k:Int)(t:TD):(readT x k t).types.length=t.types.length∧(readT x k t).seen.length≤t.seen.length+3∧(readT x k t).taken.length≤t.taken.length+1∧(readT x k t).puts.length≤t.puts.length+1:=by
 unfold readT
 split
 ·exact⟨rfl,by simp,by simp,by simp⟩
 ·exact⟨by simp,by simp,by simp,by simp⟩
theorem fieldT_len {r:Nat}(hr:r≤23)(x:Int)(t:TD):(fieldT r x t).types.length=t.types.length∧(fieldT r x t).seen.length≤t.seen.length+3∧(fieldT r x t).taken.length≤t.taken.length+1∧(fieldT r x t).puts.length≤t.puts.length+1:=by
 have hc:r=0∨r=1∨r=2∨r=3∨r=4∨r=5∨r=6∨r=7∨r=8∨r=9∨r=10∨r=11∨r=12∨r=13∨r=14∨r=15∨r=16∨r=17∨r=18∨r=19∨r=20∨r=21∨r=22∨r=23:=by omega
 rcases hc with rfl | rfl | rfl | rfl | rfl | rfl | rfl | rfl | rfl | rfl | rfl | rfl | rfl | rfl | rfl | rfl | rfl | rfl | rfl | rfl | rfl | rfl | rfl | rfl
 all_goals first | exact readT_len _ _ _ | (simp[fieldT,seeT,putT,takeT])
theorem fieldsT_len {n:InsD}{op:Nat}(ho:n.op=(op:Int))(h43:op<43)(ty:List Int):∀ k,k≤4→(fieldsT n (start ty) k).types.length=ty.length∧(fieldsT n (start ty) k).seen.length≤3 * k∧(fieldsT n (start ty) k).taken.length≤k∧(fieldsT n (start ty) k).puts.length≤k
 | 0,_=>⟨rfl,by simp[fieldsT,start],by simp[fieldsT,start],by simp[fieldsT,start]⟩
 | k+1,hk=>by
  obtain⟨h1,h2,h3,h4⟩:=fieldsT_len ho h43 ty k (by omega)
  have e:n.op.toNat=op:=by rw[ho];rfl
  obtain⟨g1,g2,g3,g4⟩:=fieldT_len (r:=iRole n.op.toNat k) (by rw[e];exact iRole_le op h43 k (by omega)) (insF n k) (fieldsT n (start ty) k)
  show(fieldT _ _ _).types.length=_∧(fieldT _ _ _).seen.length≤_∧(fieldT _ _ _).taken.length≤_∧(fieldT _ _ _).puts.length≤_
  refine⟨g1.trans h1,?_,?_,?_⟩<;>omega
theorem upsT_len (us:List (Bool×Int))(t:TD):∀ k,(upsT us t k).seen.length≤t.seen.length+k
 | 0=>Nat.le_refl _
 | k+1=>by
  have:=upsT_len us t k
  show(if _ then _ else _:TD).seen.length≤_
  split
  ·simp[seeT];omega
  ·omega
theorem putsT_len (ps:List (Nat×Int))(ty:List Int):∀ k,(putsT ps ty k).length=ty.length
 | 0=>rfl
 | k+1=>by rw[putsT,List.length_set,putsT_len ps ty k]
theorem tc_start {w1:World}{B:Nat}{va:Option Addr}{n vc:Nat}{ty:List Int}(ho:OwnI w1 B (.slice va n vc) ty)(hB:B≤w1.heap.size) :
  TcW w1.heap.size B (start ty) (.slice va n vc) (.slice none 0 0) (.slice none 0 0) (.slice none 0 0) (w1.alloc (.cells #[.slice va n vc,.slice none 0 0,.slice none 0 0,.slice none 0 0,.bool false] 132)) where
 ge:=hB
 row:=World.rowIs_alloc w1 #[.slice va n vc,.slice none 0 0,.slice none 0 0,.slice none 0 0,.bool false] 132 _ (fun i hi=>by
  match i,hi with
  | 0,_=>rfl
  | 1,_=>rfl
  | 2,_=>rfl
  | 3,_=>rfl
  | 4,_=>rfl)
 ty:=ho.alloc _
 se:=World.ownsRow_nil _ _ _ _
 ta:=World.ownsRow_nil _ _ _ _
 pu:=World.ownsRow_nil _ _ _ _
 bt0:=fun e=>by have:=(ho.lt' _ e).2;omega
 bs:=fun e=>by cases e
 bk:=fun e=>by cases e
 bp:=fun e=>by cases e
 dts:=fun k _ h=>by cases h
 dtk:=fun k _ h=>by cases h
 dtp:=fun k _ h=>by cases h
 dsk:=fun k h _=>by cases h
 dsp:=fun k h _=>by cases h
 dkp:=fun k h _=>by cases h
def TouPost (l:List ProtoD)(n:InsD)(ty:List Int)(w:World)(e:Ending)(w':World):Prop:=∃ bt tv sv kv pv,e=.returned (.pointer (some ⟨bt,0,none⟩))∧TcW bt (w.heap.size+1) (touchT l n ty) tv sv kv pv w'∧Below w.heap.size w w'
theorem touches_any (l:List ProtoD)(op:Nat)(fa fb fc fd:Int)(ty:List Int)(a ca:Option Addr)(c cc bv:Nat)(S:Nat→Prop)(w:World)(hG:RTab w)(h1:1≤op)(h43:op<43)(hv:w.cell? ⟨bv,0,none⟩=some (.slice ca l.length cc))(hs:ProtosAt w S ca l)(hB:∀ b,S b→b<w.heap.size)(hty:IntsAt w S a ty)(hlen:ty.length≤250)
  (hfit:∀ k,k<4→FldFits (iRole op k) (insF ⟨op,fa,fb,fc,fd⟩ k) ty.length)(hu:RdUps l ⟨op,fa,fb,fc,fd⟩ ty.length)(hul:∀ x,x∈l→x.ups.length≤250)(hll:l.length≤1000000)(hput:∀ q,q∈(readsT l ⟨op,fa,fb,fc,fd⟩ ty).puts→q.1<ty.length) :
  Calls Tryz.prog 81 #[.pointer (some ⟨bv,0,none⟩),.agg #[.int .i64 (op:Int),.int .i64 fa,.int .i64 fb,.int .i64 fc,.int .i64 fd],.slice a ty.length c] w (TouPost l ⟨op,fa,fb,fc,fd⟩ ty w):=by
 have hA:Below w.heap.size w (w.alloc (.cells #[.int .i64 (op:Int),.int .i64 fa,.int .i64 fb,.int .i64 fc,.int .i64 fd] 78)):=(Below.refl _ _).alloc (Nat.le_refl _) _
 have hbv:bv<w.heap.size:=World.block_lt_of_cell? _ _ hv
 have HPS:=hide hs
 have HBS:=hide hB
 have HV:=hide hv
 have HFIT:=hide hfit
 have HUP:=hide hu
 have HULL:=hide hul
 have HPUT:=hide hput
 have CLN:Hid (Calls Tryz.prog 115 #[.slice a ty.length c] (w.alloc (.cells #[.int .i64 (op:Int),.int .i64 fa,.int .i64 fb,.int .i64 fc,.int .i64 fd] 78)) (OwnRet ty (w.alloc (.cells #[.int .i64 (op:Int),.int .i64 fa,.int .i64 fb,.int .i64 fc,.int .i64 fd] 78)))):=
  clone_any a ty c S _ (hty.keep hA hB) (fun b h=>Nat.lt_of_lt_of_le (hB b h) hA.size) (by omega)
 have HGW:=hide hG
 have hz:(w.alloc (.cells #[.int .i64 (op:Int),.int .i64 fa,.int .i64 fb,.int .i64 fc,.int .i64 fd] 78)).heap.size=w.heap.size+1:=by simp
 have HZ:=hide hz
 have HA:=hide hA
 have I0:Hid (InsCells (w.alloc (.cells #[.int .i64 (op:Int),.int .i64 fa,.int .i64 fb,.int .i64 fc,.int .i64 fd] 78)) w.heap.size 0 ⟨op,fa,fb,fc,fd⟩):=⟨by simp[go_sem],by simp[go_sem],by simp[go_sem],by simp[go_sem],by simp[go_sem]⟩
 clear hs hB hfit hu hul hput hG hA hz hv hty
 go_enter Tryz.func81,Tryz.ntmps81
 go_wp2_with fail
 refine(unhide CLN).mono ?_
 rintro e w1 ⟨v0,rfl,hO,hb1⟩
 obtain⟨va,vc,rfl⟩:=hO.lenV
 rw[HZ.out]at hO
 replace hb1:=hb1.mono (Nat.le_of_eq HZ.out.symm)
 have hw1:Below w.heap.size w w1:=HA.out.trans (hb1.mono (by omega))
 have hs1:w.heap.size+1≤w1.heap.size:=by have:=hb1.size;rw[HZ.out]at this;exact this
 have T0:=hide (tc_start hO hs1)
 have hbel:Below (w.heap.size+1) (w.alloc (.cells #[.int .i64 (op:Int),.int .i64 fa,.int .i64 fb,.int .i64 fc,.int .i64 fd] 78)) (w1.alloc (.cells #[.slice va ty.length vc,.slice none 0 0,.slice none 0 0,.slice none 0 0,.bool false] 132)):=hb1.alloc hs1 _
 have HB2:Hid (Below w.heap.size w (w1.alloc (.cells #[.slice va ty.length vc,.slice none 0 0,.slice none 0 0,.slice none 0 0,.bool false] 132))):=HA.out.trans (hbel.mono (by omega))
 have I2:Hid (InsCells (w1.alloc (.cells #[.slice va ty.length vc,.slice none 0 0,.slice none 0 0,.slice none 0 0,.bool false] 132)) w.heap.size 0 ⟨op,fa,fb,fc,fd⟩):=by
  have e:∀ o,(w1.alloc (.cells #[.slice va ty.length vc,.slice none 0 0,.slice none 0 0,.slice none 0 0,.bool false] 132)).cell? ⟨w.heap.size,o,none⟩=(w.alloc (.cells #[.int .i64 (op:Int),.int .i64 fa,.int .i64 fb,.int .i64 fc,.int .i64 fd] 78)).cell? ⟨w.heap.size,o,none⟩:=fun o=>hbel.cell (p:=⟨w.heap.size,o,none⟩) (by show w.heap.size<w.heap.size+1;omega)
  have h:=unhide I0
  exact⟨(e _).trans h.op,(e _).trans h.fa,(e _).trans h.fb,(e _).trans h.fc,(e _).trans h.fd⟩
 obtain⟨j0,j1,j2,j3,j4⟩:=unhide I0
 rw[Nat.zero_add]at j1 j2 j3 j4
 have jj0:=(hb1.cell (p:=⟨w.heap.size,0,none⟩) (by show w.heap.size<w.heap.size+1;omega)).trans j0
 have jj1:=(hb1.cell (p:=⟨w.heap.size,1,none⟩) (by show w.heap.size<w.heap.size+1;omega)).trans j1
 have jj2:=(hb1.cell (p:=⟨w.heap.size,2,none⟩) (by show w.heap.size<w.heap.size+1;omega)).trans j2
 have jj3:=(hb1.cell (p:=⟨w.heap.size,3,none⟩) (by show w.heap.size<w.heap.size+1;omega)).trans j3
 have jj4:=(hb1.cell (p:=⟨w.heap.size,4,none⟩) (by show w.heap.size<w.heap.size+1;omega)).trans j4
 have hsx:w.heap.size<w1.heap.size:=by omega
 have FO:Hid (Calls Tryz.prog 116 #[.agg #[.int .i64 (op:Int),.int .i64 fa,.int .i64 fb,.int .i64 fc,.int .i64 fd]] (w1.alloc (.cells #[.slice va ty.length vc,.slice none 0 0,.slice none 0 0,.slice none 0 0,.bool false] 132)) fun e w'=>e=.returned (.agg #[.int .i64 (iRole op 0:Nat),.int .i64 fa,.int .i64 (iRole op 1:Nat),.int .i64 fb,.int .i64 (iRole op 2:Nat),.int .i64 fc,.int .i64 (iRole op 3:Nat),.int .i64 fd])∧Below (w1.alloc (.cells #[.slice va ty.length vc,.slice none 0 0,.slice none 0 0,.slice none 0 0,.bool false] 132)).heap.size (w1.alloc (.cells #[.slice va ty.length vc,.slice none 0 0,.slice none 0 0,.slice none 0 0,.bool false] 132)) w'):=
  fieldsOf_any op fa fb fc fd _ (HGW.out.keep HB2.out HGW.out.pos) h43
 clear hO hb1 hw1 hbel j0 j1 j2 j3 j4 CLN
 go_wp2_with fail
 refine(unhide FO).mono ?_
 rintro e w3 ⟨rfl,hb3⟩
 have T3:=hide ((unhide T0).below hb3)
 have HB3:Hid (Below w.heap.size w w3):=HB2.out.trans (hb3.mono HB2.out.size)
 have hl0:=(unhide T0).row.lt
 have I3:Hid (InsCells w3 w.heap.size 0 ⟨op,fa,fb,fc,fd⟩):=by
  have e:∀ o,w3.cell? ⟨w.heap.size,o,none⟩=_:=fun o=>hb3.cell (p:=⟨w.heap.size,o,none⟩) (by show w.heap.size<_;omega)
  have h:=unhide I2
  exact⟨(e _).trans h.op,(e _).trans h.fa,(e _).trans h.fb,(e _).trans h.fc,(e _).trans h.fd⟩
 obtain⟨bt,hbt⟩:∃ bt,w1.heap.size=bt:=⟨_,rfl⟩
 rw[hbt]at T3
 rw[hbt]
 clear hb3 T0 HB2 I2 jj0 jj1 jj2 jj3 jj4 hsx FO hl0 hs1 hbt
 have FX:Hid (∀ k:Nat,k<4→(∀ W,(Instr.index 175 (.agg #[.int .i64 (iRole op 0:Nat),.int .i64 fa,.int .i64 (iRole op 1:Nat),.int .i64 fb,.int .i64 (iRole op 2:Nat),.int .i64 fc,.int .i64 (iRole op 3:Nat),.int .i64 fd]) (.int .i64 (k:Int))).run Tryz.prog W=.ok (.agg #[.int .i64 (iRole op k:Nat),.int .i64 (insF ⟨op,fa,fb,fc,fd⟩ k)]) W)):=fun k hk=>by
  have hc:k=0∨k=1∨k=2∨k=3:=by omega
  rcases hc with rfl | rfl | rfl | rfl
  ·exact fun W=>run_index_field 0 hk rfl W
  ·exact fun W=>run_index_field 1 hk rfl W
  ·exact fun W=>run_index_field 2 hk rfl W
  ·exact fun W=>run_index_field 3 hk rfl W
 go_wp2_with fail
 go_loopg [20] 4 (fun gg i wr=>∃(k:Nat) (sv kv pv:Value),k+gg=4∧i=.int .i64 k∧TcW bt (w.heap.size+1) (fieldsT ⟨op,fa,fb,fc,fd⟩ (start ty) k) (.slice va ty.length vc) sv kv pv wr∧Hid (Below w.heap.size w wr)∧Hid (InsCells wr w.heap.size 0 ⟨op,fa,fb,fc,fd⟩))
 case atStart=>exact⟨0,_,_,_,by omega,rfl,unhide T3,HB3,I3⟩
 case round=>
  clear T3 HB3 I3
  obtain⟨k,sv,kv,pv,hk,rfl,hT,hBw,hI⟩:=hrel
  by_cases hk4:k<4
  ·have hx:=unhide FX k hk4
   have hl:=fieldsT_len (n:=⟨op,fa,fb,fc,fd⟩) (op:=op) rfl h43 ty k (by omega)
   have hA:Below wr.heap.size wr (wr.alloc (.cells #[.int .i64 (iRole op k:Nat),.int .i64 (insF ⟨op,fa,fb,fc,fd⟩ k)] 174)):=(Below.refl _ _).alloc (Nat.le_refl _) _
   have FA:Hid (Calls Tryz.prog 117 #[.pointer (some ⟨bt,0,none⟩),.agg #[.int .i64 (iRole op k:Nat),.int .i64 (insF ⟨op,fa,fb,fc,fd⟩ k)]] (wr.alloc (.cells #[.int .i64 (iRole op k:Nat),.int .i64 (insF ⟨op,fa,fb,fc,fd⟩ k)] 174)) (FldPost bt (w.heap.size+1) (fieldT (iRole op k) (insF ⟨op,fa,fb,fc,fd⟩ k) (fieldsT ⟨op,fa,fb,fc,fd⟩ (start ty) k)) (.slice va ty.length vc) sv kv pv (wr.alloc (.cells #[.int .i64 (iRole op k:Nat),.int .i64 (insF ⟨op,fa,fb,fc,fd⟩ k)] 174)))):=
    field_any (iRole op k) (iRole_le op h43 k hk4) bt (w.heap.size+1) _ _ _ _ _ _ _ (hT.below hA) ⟨by rw[hl.1];exact hlen,by omega,by omega,by omega⟩ (by rw[hl.1];exact unhide HFIT k hk4)
   have HAA:=hide hA
   have hbt:=hT.row.lt
   have hgb:=hT.ge
   clear hl hA hT
   have HSX:Hid (w.heap.size<wr.heap.size):=World.block_lt_of_cell? _ _ hI.out.op
   have HN:Hid (∀ t',t'=fieldT (iRole op k) (insF ⟨op,fa,fb,fc,fd⟩ k) (fieldsT ⟨op,fa,fb,fc,fd⟩ (start ty) k)→fieldsT ⟨op,fa,fb,fc,fd⟩ (start ty) (k+1)=t'):=fun t' h=>by rw[h];rfl
   generalize insF ⟨op,fa,fb,fc,fd⟩ k=x at *
   generalize iRole op k=ro at *
   go_wp2_with fail
   refine(unhide FA).mono ?_
   rintro e w5 ⟨rfl,sv',kv',pv',hT5,hb5,_⟩
   have T5:=hide hT5
   have hb5':Below (w.heap.size+1) wr w5:=(HAA.out.mono (by have:=HSX.out;omega)).trans hb5
   have B5:Hid (Below w.heap.size w w5):=hBw.out.trans (hb5'.mono (by omega))
   have I5:Hid (InsCells w5 w.heap.size 0 ⟨op,fa,fb,fc,fd⟩):=by
    have e:∀ o,w5.cell? ⟨w.heap.size,o,none⟩=wr.cell? ⟨w.heap.size,o,none⟩:=fun o=>hb5'.cell (p:=⟨w.heap.size,o,none⟩) (by show w.heap.size<w.heap.size+1;omega)
    have h:=unhide hI
    exact⟨(e _).trans h.op,(e _).trans h.fa,(e _).trans h.fb,(e _).trans h.fc,(e _).trans h.fd⟩
   clear hT5 hb5 hb5' FA hx HAA
   go_wp2_with fail
   go_roundg (4-(k+1))
   case measure=>omega
   case rel=>exact⟨k+1,sv',kv',pv',by omega,by go_num,by rw[unhide HN _ rfl];exact unhide T5,B5,I5⟩
  ·have hk44:k=4:=by omega
   subst hk44
   have hl:=fieldsT_len (n:=⟨op,fa,fb,fc,fd⟩) (op:=op) rfl h43 ty 4 (by omega)
   obtain⟨j0,j1,j2,j3,j4⟩:=unhide hI
   rw[Nat.zero_add]at j1 j2 j3 j4
   have hsx:w.heap.size<wr.heap.size:=World.block_lt_of_cell? _ _ j0
   have HT1:=hide hT
   have hbt:=hT.row.lt
   clear hT FX
   by_cases hop:op=11
   ·have hob:((op:Int)==11)=true:=by rw[hop];rfl
    obtain⟨f0,f1,hups⟩:=HUP.out (show(op:Int)=11 by omega)
    change 0≤fb at f0
    change fb<l.length at f1
    have hFl:fb.toNat<l.length:=by omega
    obtain⟨pb,po,rfl,hpb,hpc⟩:=(unhide HPS).2 (by omega)
    obtain⟨ua,uc,hua0,huI⟩:=(hpc fb.toNat hFl).ups
    have hua:=(hBw.out.cell (p:=⟨pb,po+fb.toNat * 9+5,none⟩) (unhide HBS pb hpb)).trans hua0
    have hvv:=(hBw.out.cell (p:=⟨bv,0,none⟩) hbv).trans (unhide HV)
    have hmem:(l[fb.toNat]?.getD ProtoD.z)∈l:=by rw[List.getElem?_eq_getElem hFl];exact List.getElem_mem hFl
    have hul2:=unhide HULL _ hmem
    change ∀ u,u∈(l[fb.toNat]?.getD ProtoD.z).ups→u.1=true→0≤u.2∧u.2<ty.length at hups
    have HRT:Hid (readsT l ⟨op,fa,fb,fc,fd⟩ ty=upsT (l[fb.toNat]?.getD ProtoD.z).ups (fieldsT ⟨op,fa,fb,fc,fd⟩ (start ty) 4) (l[fb.toNat]?.getD ProtoD.z).ups.length):=by
     show _=_
     unfold readsT
     rw[if_pos (show(op:Int)=11 by omega)]
     rfl
    have hpbs:pb<wr.heap.size:=Nat.lt_of_lt_of_le (unhide HBS pb hpb) hBw.out.size
    have hbvs:bv<wr.heap.size:=Nat.lt_of_lt_of_le hbv hBw.out.size
    have HUI:=hide huI
    have HUPS:=hide hups
    obtain⟨t1,ht1⟩:∃ t1,t1=fieldsT ⟨op,fa,fb,fc,fd⟩ (start ty) 4:=⟨_,rfl⟩
    rw[←ht1]at HT1 hl HRT
    have HL1:=hide hl
    have HTD:=hide ((unhide HT1).below (w2:=wr.drew) ((Below.refl _ _).drew))
    have HBD:Hid (Below w.heap.size w wr.drew):=hBw.out.drew
    clear hpc hua0 huI hmem hups ht1 hl hop HUP
    generalize (l[fb.toNat]?.getD ProtoD.z).ups=us at *
    go_wp2_with fail
    go_region
    all_goals (go_wp2_with fail)
    go_loopg [41] us.length (fun gg i wr=>∃(q:Nat) (sv':Value),q+gg=us.length∧i=.int .i64 q∧TcW bt (w.heap.size+1) (upsT us t1 q) (.slice va ty.length vc) sv' kv pv wr∧Hid (Below w.heap.size w wr))
    case atStart=>exact⟨0,sv,by omega,rfl,unhide HTD,HBD⟩
    case round=>
     clear HTD HBD HT1 hua hvv hpbs hbvs hBw hI j0 j1 j2 j3 j4 hsx hbt
     obtain⟨q,sv1,hq,rfl,hT,hBw⟩:=hrel
     by_cases hql:q<us.length
     ·obtain⟨ub,uo,rfl,hub,huc⟩:=((unhide HUI).keep hBw.out (unhide HBS)).2 (by omega)
      obtain⟨e0,e1⟩:=huc q hql
      have hmem:us[q]?.getD (false,0)∈us:=by rw[List.getElem?_eq_getElem hql];exact List.getElem_mem hql
      have HUq:=hide (unhide HUPS _ hmem)
      have hubs:ub<wr.heap.size:=Nat.lt_of_lt_of_le (unhide HBS ub hub) hBw.out.size
      have HST:Hid (upsT us t1 (q+1)=if(us[q]?.getD (false,0)).1 then seeT (us[q]?.getD (false,0)).2.toNat 2 (upsT us t1 q)else upsT us t1 q):=rfl
      have hlt:(upsT us t1 q).types.length=ty.length:=by rw[(upsT_puts us t1 q).2.1];exact HL1.out.1
      have hsl:(upsT us t1 q).seen.length≤1000:=by have:=upsT_len us t1 q;have:=HL1.out.2.1;omega
      clear huc hmem
      generalize us[q]?.getD (false,0)=u at *
      obtain⟨loc,ix⟩:=u
      dsimp only at *
      have hA:Below wr.heap.size wr (wr.alloc (.cells #[.bool loc,.int .i64 ix] 119)):=(Below.refl _ _).alloc (Nat.le_refl _) _
      have HTA:=hide (hT.below hA)
      have HBA:Hid (Below w.heap.size w (wr.alloc (.cells #[.bool loc,.int .i64 ix] 119))):=hBw.out.trans (hA.mono hBw.out.size)
      have hge:=hT.ge
      have hrl:=hT.row.lt
      clear hT hA
      cases loc
      ·have HE:Hid (upsT us t1 (q+1)=upsT us t1 q):=HST.out
       clear HST hlt hsl
       go_wp2_with fail
       go_roundg (us.length-(q+1))
       case measure=>omega
       case rel=>exact⟨q+1,sv1,by omega,by go_num,by rw[HE.out];exact unhide HTA,HBA⟩
      ·obtain⟨i0,i1⟩:=unhide HUq rfl
       have HE:Hid (upsT us t1 (q+1)=seeT ix.toNat 2 (upsT us t1 q)):=HST.out
       have SE:Hid (Calls Tryz.prog 118 #[.pointer (some ⟨bt,0,none⟩),.int .i64 ix,.int .i64 2] (wr.alloc (.cells #[.bool true,.int .i64 ix] 119)) (SeePost bt (w.heap.size+1) (seeT ix.toNat 2 (upsT us t1 q)) (.slice va ty.length vc) sv1 kv pv (wr.alloc (.cells #[.bool true,.int .i64 ix] 119)))):=
        see_at bt (w.heap.size+1) (upsT us t1 q) _ _ _ _ ix ix.toNat 2 _ (by omega) (unhide HTA) (by omega) (by omega) hsl
       clear HST hlt hsl
       go_wp2_with fail
       refine(unhide SE).mono ?_
       rintro e w6 ⟨rfl,sv6,hT6,hb6,_⟩
       have HT6:=hide hT6
       have HB6:Hid (Below w.heap.size w w6):=HBA.out.trans (hb6.mono (by omega))
       clear hT6 hb6 SE
       go_wp2_with fail
       go_roundg (us.length-(q+1))
       case measure=>omega
       case rel=>exact⟨q+1,sv6,by omega,by go_num,by rw[HE.out];exact unhide HT6,HB6⟩
     ·have hqe:us.length=q:=by omega
      obtain⟨t2,ht2⟩:∃ t2,t2=upsT us t1 us.length:=⟨_,rfl⟩
      have HT2:Hid (TcW bt (w.heap.size+1) t2 (.slice va ty.length vc) sv1 kv pv wr):=by
       show TcW _ _ _ _ _ _ _ _
       rw[ht2,hqe]
       exact hT
      have HB2:=hBw
      obtain⟨g1,g2,g3⟩:=upsT_puts us t1 us.length
      rw[←ht2]at g1 g2 g3
      have HPL:Hid (t2.puts.length≤1000):=by show _≤_;rw[g1];have:=HL1.out.2.2.2;omega
      have HTL:Hid (t2.types.length=ty.length):=by show _=_;rw[g2];exact HL1.out.1
      have HE2:Hid (t2=readsT l ⟨op,fa,fb,fc,fd⟩ ty):=by show _=_;rw[HRT.out];exact ht2
      have HPUT2:Hid (∀ q,q∈t2.puts→q.1<ty.length):=fun q hq=>unhide HPUT q (by rw[←HE2.out];exact hq)
      obtain⟨sv2,rfl⟩:∃ x,x=sv1:=⟨_,rfl⟩
      obtain⟨kv2,rfl⟩:∃ x,x=kv:=⟨_,rfl⟩
      have hge2:¬((q:Int)<(us.length:Int)):=by omega
      clear g1 g2 g3 ht2 hqe hT hBw HPUT HRT
      obtain⟨pa,pc,ePV⟩:=(unhide HT2).pu.lenV
      subst ePV
      obtain⟨d0,d1,d2,d3,d4⟩:=(unhide HT2).cells
      have hl2:=(unhide HT2).row.lt
      have hpl:t2.puts.length≤1000:=HPL.out
      clear d0 d1 d2 d4
      go_wp2_with fail
      go_loopg [57] t2.puts.length (fun gg i wr=>∃ q:Nat,q+gg=t2.puts.length∧i=.int .i64 q∧TcW bt (w.heap.size+1) ⟨putsT t2.puts t2.types q,t2.seen,t2.taken,t2.puts,t2.wrong⟩ (.slice va ty.length vc) sv2 kv2 (.slice pa t2.puts.length pc) wr∧Hid (Below w.heap.size w wr))
      case atStart=>exact⟨0,by omega,rfl,unhide HT2,HB2⟩
      case round=>
       clear d3 hl2 HB2 HT2
       obtain⟨q,hq,rfl,hT,hBw⟩:=hrel
       by_cases hql:q<t2.puts.length
       ·obtain⟨pg,pcap,ePV,_,hpg,hpc⟩:=hT.pu.at (by show 0<t2.puts.length;omega)
        injection ePV with e1 e2 e3
        subst e1
        obtain⟨p0,p1⟩:=hpc q hql
        change wr.cell? ⟨pg,q * 2,none⟩=some (.int .i64 ((t2.puts[q]?.getD (0,0)).1:Int))at p0
        change wr.cell? ⟨pg,q * 2+1,none⟩=some (.int .i64 (t2.puts[q]?.getD (0,0)).2)at p1
        have hmem:t2.puts[q]?.getD (0,0)∈t2.puts:=by rw[List.getElem?_eq_getElem hql];exact List.getElem_mem hql
        have hreg:=unhide HPUT2 _ hmem
        have HSTEP:Hid (putsT t2.puts t2.types (q+1)=(putsT t2.puts t2.types q).set (t2.puts[q]?.getD (0,0)).1 (t2.puts[q]?.getD (0,0)).2):=rfl
        obtain⟨tg,tcap,eTV,htg1,htg,htc⟩:=hT.ty.at (by show 0<(putsT t2.puts t2.types q).length;rw[putsT_len,HTL.out];omega)
        have hpln:(putsT t2.puts t2.types q).length=ty.length:=by rw[putsT_len,HTL.out]
        change Value.slice va ty.length vc=Value.slice (some ⟨tg,0,none⟩) (putsT t2.puts t2.types q).length tcap at eTV
        injection eTV with e4 e5 e6
        subst e4
        have ct:=htc (t2.puts[q]?.getD (0,0)).1 (by show _<(putsT t2.puts t2.types q).length;omega)
        have zt:=hT.ty.frozen (by show ty.length=(putsT t2.puts t2.types q).length;omega) (t2.puts[q]?.getD (0,0)).1
        obtain⟨d0,d1,d2,d3,d4⟩:=hT.cells
        have hlb:=hT.row.lt
        generalize t2.puts[q]?.getD (0,0)=u at *
        obtain⟨ur,uk⟩:=u
        dsimp only at *
        have hS:Below (wr.setCell ⟨tg,ur,none⟩ (.int .i64 uk)).heap.size (wr.setCell ⟨tg,ur,none⟩ (.int .i64 uk)) ((wr.setCell ⟨tg,ur,none⟩ (.int .i64 uk)).alloc (.cells #[.int .i64 (ur:Int),.int .i64 uk] 180)).drew:=((Below.refl _ _).alloc (Nat.le_refl _) _).drew
        have HTA:=hide ((hT.setType hpln.symm ur uk).below hS)
        have HBA:Hid (Below w.heap.size w ((wr.setCell ⟨tg,ur,none⟩ (.int .i64 uk)).alloc (.cells #[.int .i64 (ur:Int),.int .i64 uk] 180)).drew):=(hBw.out.setCell (by show w.heap.size≤tg;omega) _).trans (hS.mono (by have:=hBw.out.size;simp;omega))
        have hurI:(ur:Int)<ty.length:=by omega
        have hne:¬(wr.heap.size=tg):=by omega
        clear hpc hmem htc hS hT d1 d2 d3 d4 hpln e2 e3 e5 e6
        generalize (putsT t2.puts t2.types q)[ur]?.getD 0=ov at *
        go_wp2_with fail
        go_region
        all_goals (go_wp2_with fail)
        go_roundg (t2.puts.length-(q+1))
        case measure=>omega
        case rel=>exact⟨q+1,by omega,by go_num,by rw[HSTEP.out];exact unhide HTA,HBA⟩
       ·have hqe:t2.puts.length=q:=by omega
        have HFIN:Hid (TcW bt (w.heap.size+1) (touchT l ⟨op,fa,fb,fc,fd⟩ ty) (.slice va ty.length vc) sv2 kv2 (.slice pa t2.puts.length pc) wr):=by
         show TcW _ _ _ _ _ _ _ _
         have h:=hT
         rw[←hqe,HE2.out]at h
         rw[←HE2.out]at h
         rw[HE2.out]
         unfold touchT
         simp only
         rw[←HE2.out]
         exact h
        have hge:¬((q:Int)<(t2.puts.length:Int)):=by omega
        clear hqe hT
        go_wp2_with fail
        go_ret
        exact⟨bt,_,_,_,_,rfl,HFIN.out,hBw.out⟩
   ·have hob:((op:Int)==11)=false:=beq_eq_false_iff_ne.2 (by omega)
    obtain⟨t2,ht2⟩:∃ t2,t2=readsT l ⟨op,fa,fb,fc,fd⟩ ty:=⟨_,rfl⟩
    have e2:readsT l ⟨op,fa,fb,fc,fd⟩ ty=fieldsT ⟨op,fa,fb,fc,fd⟩ (start ty) 4:=by unfold readsT;rw[if_neg (fun h:(op:Int)=11=>hop (by omega))]
    rw[e2]at ht2
    rw[←ht2]at HT1 hl
    have HT2:=HT1
    have HB2:=hBw
    have HPL:Hid (t2.puts.length≤1000):=by show _≤_;omega
    have HTL:Hid (t2.types.length=ty.length):=hl.1
    have HE2:Hid (t2=readsT l ⟨op,fa,fb,fc,fd⟩ ty):=by show _=_;rw[e2];exact ht2
    have HPUT2:Hid (∀ q,q∈t2.puts→q.1<ty.length):=fun q hq=>unhide HPUT q (by rw[←HE2.out];exact hq)
    obtain⟨sv2,rfl⟩:∃ x,x=sv:=⟨_,rfl⟩
    obtain⟨kv2,rfl⟩:∃ x,x=kv:=⟨_,rfl⟩
    clear HT1 hBw hl e2 ht2 hop HPUT
    obtain⟨pa,pc,ePV⟩:=(unhide HT2).pu.lenV
    subst ePV
    obtain⟨d0,d1,d2,d3,d4⟩:=(unhide HT2).cells
    have hl2:=(unhide HT2).row.lt
    have hpl:t2.puts.length≤1000:=HPL.out
    clear d0 d1 d2 d4
    go_wp2_with fail
    go_loopg [57] t2.puts.length (fun gg i wr=>∃ q:Nat,q+gg=t2.puts.length∧i=.int .i64 q∧TcW bt (w.heap.size+1) ⟨putsT t2.puts t2.types q,t2.seen,t2.taken,t2.puts,t2.wrong⟩ (.slice va ty.length vc) sv2 kv2 (.slice pa t2.puts.length pc) wr∧Hid (Below w.heap.size w wr))
    case atStart=>exact⟨0,by omega,rfl,unhide HT2,HB2⟩
    case round=>
     clear d3 hl2 HB2 HT2
     obtain⟨q,hq,rfl,hT,hBw⟩:=hrel
     by_cases hql:q<t2.puts.length
     ·obtain⟨pg,pcap,ePV,_,hpg,hpc⟩:=hT.pu.at (by show 0<t2.puts.length;omega)
      injection ePV with e1 e2 e3
      subst e1
      obtain⟨p0,p1⟩:=hpc q hql
      change wr.cell? ⟨pg,q * 2,none⟩=some (.int .i64 ((t2.puts[q]?.getD (0,0)).1:Int))at p0
      change wr.cell? ⟨pg,q * 2+1,none⟩=some (.int .i64 (t2.puts[q]?.getD (0,0)).2)at p1
      have hmem:t2.puts[q]?.getD (0,0)∈t2.puts:=by rw[List.getElem?_eq_getElem hql];exact List.getElem_mem hql
      have hreg:=unhide HPUT2 _ hmem
      have HSTEP:Hid (putsT t2.puts t2.types (q+1)=(putsT t2.puts t2.types q).set (t2.puts[q]?.getD (0,0)).1 (t2.puts[q]?.getD (0,0)).2):=rfl
      obtain⟨tg,tcap,eTV,htg1,htg,htc⟩:=hT.ty.at (by show 0<(putsT t2.puts t2.types q).length;rw[putsT_len,HTL.out];omega)
      have hpln:(putsT t2.puts t2.types q).length=ty.length:=by rw[putsT_len,HTL.out]
      change Value.slice va ty.length vc=Value.slice (some ⟨tg,0,none⟩) (putsT t2.puts t2.types q).length tcap at eTV
      injection eTV with e4 e5 e6
      subst e4
      have ct:=htc (t2.puts[q]?.getD (0,0)).1 (by show _<(putsT t2.puts t2.types q).length;omega)
      have zt:=hT.ty.frozen (by show ty.length=(putsT t2.puts t2.types q).length;omega) (t2.puts[q]?.getD (0,0)).1
      obtain⟨d0,d1,d2,d3,d4⟩:=hT.cells
      have hlb:=hT.row.lt
      generalize t2.puts[q]?.getD (0,0)=u at *
      obtain⟨ur,uk⟩:=u
      dsimp only at *
      have hS:Below (wr.setCell ⟨tg,ur,none⟩ (.int .i64 uk)).heap.size (wr.setCell ⟨tg,ur,none⟩ (.int .i64 uk)) ((wr.setCell ⟨tg,ur,none⟩ (.int .i64 uk)).alloc (.cells #[.int .i64 (ur:Int),.int .i64 uk] 180)).drew:=((Below.refl _ _).alloc (Nat.le_refl _) _).drew
      have HTA:=hide ((hT.setType hpln.symm ur uk).below hS)
      have HBA:Hid (Below w.heap.size w ((wr.setCell ⟨tg,ur,none⟩ (.int .i64 uk)).alloc (.cells #[.int .i64 (ur:Int),.int .i64 uk] 180)).drew):=(hBw.out.setCell (by show w.heap.size≤tg;omega) _).trans (hS.mono (by have:=hBw.out.size;simp;omega))
      have hurI:(ur:Int)<ty.length:=by omega
      have hne:¬(wr.heap.size=tg):=by omega
      clear hpc hmem htc hS hT d1 d2 d3 d4 hpln e2 e3 e5 e6
      generalize (putsT t2.puts t2.types q)[ur]?.getD 0=ov at *
      go_wp2_with fail
      go_region
      all_goals (go_wp2_with fail)
      go_roundg (t2.puts.length-(q+1))
      case measure=>omega
      case rel=>exact⟨q+1,by omega,by go_num,by rw[HSTEP.out];exact unhide HTA,HBA⟩
     ·have hqe:t2.puts.length=q:=by omega
      have HFIN:Hid (TcW bt (w.heap.size+1) (touchT l ⟨op,fa,fb,fc,fd⟩ ty) (.slice va ty.length vc) sv2 kv2 (.slice pa t2.puts.length pc) wr):=by
       show TcW _ _ _ _ _ _ _ _
       have h:=hT
       rw[←hqe,HE2.out]at h
       rw[←HE2.out]at h
       rw[HE2.out]
       unfold touchT
       simp only
       rw[←HE2.out]
       exact h
      have hge:¬((q:Int)<(t2.puts.length:Int)):=by omega
      clear hqe hT
      go_wp2_with fail
      go_ret
      exact⟨bt,_,_,_,_,rfl,HFIN.out,hBw.out⟩
end Go.Proofs.YthmjjhfjkgaocaaGreatDoor
