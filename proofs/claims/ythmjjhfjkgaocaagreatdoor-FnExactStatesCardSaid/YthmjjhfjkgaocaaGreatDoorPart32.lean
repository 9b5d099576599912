import Derived.Test.YthmjjhfjkgaocaaGreatDoorPart31
import Derived.Test.YthmjjhfjkgaocaaGreatDoorPart29
set_option linter.unusedSimpArgs false
set_option linter.unusedVariables false
set_option maxHeartbeats 4000000
set_option maxRecDepth 100000
namespace Go.Proofs.YthmjjhfjkgaocaaGreatDoor
open Go.RowKit
def WrNil (op fa fb fc fd:Int):Prop:=∀ w:World,Calls Tryz.prog 35 #[.agg #[.int .i64 op,.int .i64 fa,.int .i64 fb,.int .i64 fc,.int .i64 fd],.slice none 0 0] w fun e w'=>e=.returned (.tuple #[])∧Below w.heap.size w w'
theorem l6write_nil_no (op:Int)(r:List Nat)(hr:rolesC op=some r)(hr0:r[0]?.getD 0≠1)(hop:op≠6∧op≠22∧op≠27∧op≠28∧op≠40∧op≠41∧op≠42)(fa fb fc fd:Int):WrNil op fa fb fc fd:=by
 intro w
 obtain⟨n6,n22,n27,n28,n40,n41,n42⟩:=hop
 have RO:=hide (fun W=>l6roles_any op W)
 rw[hr]at RO
 have b6:(op==6)=false:=by simpa using n6
 have b22:(op==22)=false:=by simpa using n22
 have b27:(op==27)=false:=by simpa using n27
 have b28:(op==28)=false:=by simpa using n28
 have b40:(op==40)=false:=by simpa using n40
 have b41:(op==41)=false:=by simpa using n41
 have b42:(op==42)=false:=by simpa using n42
 have HR0:=hide hr0
 clear hr hr0 n6 n22 n27 n28 n40 n41 n42
 go_enter Tryz.func35,Tryz.ntmps35
 go_wp2_with fail
 refine(unhide RO _).mono ?_
 rintro e w1 hF
 obtain⟨b1,rfl,hb1,hrow,hbel⟩:=four_open hF
 have f0:=hrow.cell (i:=0) (by omega)
 have hs1:w.heap.size<w1.heap.size:=by have:=hbel.size;simp at this;omega
 have B1:Hid (Below w.heap.size w w1):=((Below.refl _ _).alloc (Nat.le_refl _) _).trans (hbel.mono (by simp))
 have hr1:(((r[0]?.getD 0:Nat):Int)==1)=false:=by have:=HR0.out;simp;omega
 generalize r[0]?.getD 0=q at *
 clear hF hrow hbel RO
 go_wp2_with fail
 go_end0
 exact⟨rfl,unhide B1⟩
theorem l6write_nil (op:Int)(fa fb fc fd:Int)(hop:1≤op∧op≤42)(hf:WrFits op fa fc 0):WrNil op fa fb fc fd:=by
 obtain⟨f1,f2,f3,f4⟩:=hf
 by_cases c6:op=6
 ·subst c6;have:=f1 (by decide);omega
 by_cases c22:op=22
 ·subst c22;have:=f1 (by decide);omega
 by_cases c27:op=27
 ·subst c27;have:=f1 (by decide);omega
 by_cases c28:op=28
 ·subst c28;have:=f1 (by decide);omega
 by_cases c40:op=40
 ·subst c40;have:=f3 rfl;omega
 by_cases c41:op=41
 ·subst c41;have:=f4 rfl;omega
 by_cases c42:op=42
 ·subst c42;have:=f2 rfl;omega
 cases hr:rolesC op with
 | none=>
  obtain⟨k,rfl⟩:∃ k:Nat,op=k:=⟨op.toNat,by omega⟩
  rw[iRole_map k (by omega) (by omega)]at hr
  cases hr
 | some r=>
  rw[hr]at f1
  by_cases h1:r[0]?.getD 0=1
  ·have:=f1 h1;omega
  ·exact l6write_nil_no op r hr h1 ⟨c6,c22,c27,c28,c40,c41,c42⟩ fa fb fc fd
theorem ownI_nil {w:World}{base:Nat}:OwnI w base (.slice none 0 0) []:=World.ownsRow_nil _ _ _ _
theorem writeC_len' (n:InsD)(t:List Int):(writeC n t).length=t.length:=by
 unfold writeC
 repeat' split
 all_goals simp
theorem writeC_nil (n:InsD):writeC n []=[]:=List.eq_nil_of_length_eq_zero (by rw[writeC_len'];rfl)
theorem l6write_all (op:Int)(fa fb fc fd:Int)(base:Nat)(v:Value)(t:List Int)(w:World)(hown:OwnI w base v t)(hlen:t.length≤250)(hbw:base≤w.heap.size)(hop:1≤op∧op≤42)(hf:WrFits op fa fc t.length) :
  Calls Tryz.prog 35 #[.agg #[.int .i64 op,.int .i64 fa,.int .i64 fb,.int .i64 fc,.int .i64 fd],v] w (WrPost base v (writeC ⟨op,fa,fb,fc,fd⟩ t) w):=by
 have hown':=hown
 rcases hown.2 with⟨rfl,h0⟩ | ⟨g,cap,cur,rfl,hb,hg,_⟩
 ·obtain rfl:t=[]:=List.eq_nil_of_length_eq_zero h0
  refine(l6write_nil op fa fb fc fd hop hf w).mono ?_
  rintro e w' ⟨rfl,hb⟩
  refine⟨rfl,?_,hb.mono hbw,fun k hk _=>hb.block k hk⟩
  rw[writeC_nil]
  exact ownI_nil
 ·exact l6write_any op fa fb fc fd base g t.length cap t w hown' rfl hlen hb (Array.getElem?_eq_some_iff.1 hg).1 hop hf
def RdAll (S:Option RdS)(base:Nat)(v:Value)(w:World)(e:Ending)(w':World):Prop:=
 ∃(tv:Value) (b:Bool),e=.returned (.tuple #[tv,.bool b])∧(b=true→∃ s,S=some s∧OwnI w' base v s.types∧OwnI w' w.heap.size tv (natI s.taken))∧(b=false→S=none)∧Below base w w'
theorem rd_nothing {r:List Nat}{n:InsD}(hf:RdFits r n 0){k:Nat}(hk:k<4):(wantsC (r[k]?.getD 0)).1=0:=by
 obtain⟨f1,f2,f3,f4⟩:=hf k hk
 by_cases h:(wantsC (r[k]?.getD 0)).1=0
 ·exact h
 ·rcases wants_cases h with c | c | c | c | c | c | c | c
  ·exact absurd (f1 (.inl c)) (by omega)
  ·exact absurd (f1 (.inr c)) (by omega)
  ·exact absurd (f2 (.inl c)) (by omega)
  ·exact absurd (f2 (.inr (.inl c))) (by omega)
  ·exact absurd (f2 (.inr (.inr c))) (by omega)
  ·exact absurd (f3 c) (by omega)
  ·exact absurd (f4 (.inl c)) (by omega)
  ·exact absurd (f4 (.inr c)) (by omega)
theorem rdUpto_nothing {r:List Nat}{n:InsD}{s:RdS}(hf:RdFits r n 0):∀{k:Nat},k≤4→rdUpto r n s k=some s
 | 0,_=>rfl
 | k+1,h=>by
  rw[rdUpto_next (rdUpto_nothing hf (k:=k) (by omega))]
  exact rdF_skip (rd_nothing hf (by omega))
theorem readC_nothing {l:List ProtoD}{n:InsD}{r:List Nat}{t:List Int}(hr:rolesC n.op=some r)(hf:RdFits r n 0)(hu:RdUps l n 0):readC l n t=some ⟨t,[],[]⟩:=by
 unfold readC
 have e:(rolesC n.op).getD []=r:=by rw[hr];rfl
 rw[e,rdUpto_nothing hf (Nat.le_refl 4)]
 show(if _ then _ else _)=_
 rw[if_neg]
 rintro⟨h1,h2⟩
 rw[List.any_eq_true]at h2
 obtain⟨u,hm,hu2⟩:=h2
 obtain⟨_,_,h3⟩:=hu h1
 cases e1:u.1 with
 | false=>rw[e1]at hu2;cases hu2
 | true=>exact absurd (h3 u hm e1) (by omega)
structure RnW (w:World)(b1 b2:Nat)(a:Option Addr)(m c:Nat)(n:InsD)(r:List Nat)(wr:World):Prop where
 old:Below w.heap.size w wr
 code:wr.cell? ⟨w.heap.size,0,none⟩=some (.slice a m c)
 ins:InsCells wr (w.heap.size+1) 0 n
 roles:wr.rowIs b1 3 4 (fun j=>.int .i64 ((r[j]?.getD 0:Nat):Int))
 flds:wr.rowIs b2 3 4 (fun j=>.int .i64 (insF n j))
theorem RnW.below {w:World}{b1 b2:Nat}{a:Option Addr}{m c:Nat}{n:InsD}{r:List Nat}{wr w2:World}(h:RnW w b1 b2 a m c n r wr)(hb:Below wr.heap.size wr w2):RnW w b1 b2 a m c n r w2:=by
 have hlt:w.heap.size+1<wr.heap.size:=World.block_lt_of_cell? _ _ h.ins.op
 have e1:∀ o,w2.cell? ⟨w.heap.size+1,o,none⟩=wr.cell? ⟨w.heap.size+1,o,none⟩:=fun o=>hb.cell (p:=⟨w.heap.size+1,o,none⟩) hlt
 exact⟨h.old.trans (hb.mono h.old.size),(hb.cell (p:=⟨w.heap.size,0,none⟩) (World.block_lt_of_cell? _ _ h.code)).trans h.code,⟨(e1 _).trans h.ins.op,(e1 _).trans h.ins.fa,(e1 _).trans h.ins.fb,(e1 _).trans h.ins.fc,(e1 _).trans h.ins.fd⟩,
  h.roles.of_block (hb.block _ h.roles.lt),h.flds.of_block (hb.block _ h.flds.lt)⟩
theorem l6read_nil (l:List ProtoD)(op fa fb fc fd:Int)(p:Int)(r:List Nat)(c:Nat)(S:Nat→Prop)(a:Option Addr)(w:World)(hs:ProtosAt w S a l)(hB:∀ b,S b→b<w.heap.size)(hr:rolesC op=some r)(hf:RdFits r ⟨op,fa,fb,fc,fd⟩ 0)(hu:RdUps l ⟨op,fa,fb,fc,fd⟩ 0)(hul:∀ x,x∈l→x.ups.length≤1000000)(hll:l.length≤1000000) :
    Calls Tryz.prog 33 #[.agg #[.slice a l.length c],.int .i64 p,.agg #[.int .i64 op,.int .i64 fa,.int .i64 fb,.int .i64 fc,.int .i64 fd],.slice none 0 0] w fun e w'=>e=.returned (.tuple #[.slice none 0 0,.bool true])∧Below w.heap.size w w':=by
  have hA:∀ o1 o2,Below w.heap.size w ((w.alloc o1).alloc o2):=fun o1 o2=>((Below.refl _ _).alloc (Nat.le_refl _) o1).alloc (by simp) o2
  have HR:=hide hr
  have HF:=hide hf
  have HUP:=hide hu
  have HPS:=hide hs
  have HBS:=hide hB
  have HULL:=hide hul
  obtain⟨m,hm⟩:∃ m,l.length=m:=⟨_,rfl⟩
  have HM:=hide hm
  rw[hm]at hll
  rw[hm]
  have RO:=hide (fun W=>l6roles_any op W)
  rw[HR.out]at RO
  clear hr hf hu hs hB hul hm
  go_enter Tryz.func33,Tryz.ntmps33
  go_wp2_with fail
  refine(unhide RO _).mono ?_
  rintro e w1 hF
  obtain⟨b1,rfl,hb1,hrow1,hbel1⟩:=four_open hF
  have e2:∀ o1 o2,((w.alloc o1).alloc o2).heap.size=w.heap.size+2:=fun _ _=>by simp
  rw[e2]at hb1
  replace hbel1:=hbel1.mono (Nat.le_of_eq (e2 _ _).symm)
  obtain⟨hc1,hf1⟩:=bcell (W:=(w.alloc (.cells #[.slice a m c] 30)).alloc (.cells #[.int .i64 op,.int .i64 fa,.int .i64 fb,.int .i64 fc,.int .i64 fd] 78)) (w1:=w1) (by rw[e2];exact hbel1)
  rw[e2]at hc1
  have j0:w1.cell? ⟨w.heap.size+1,0,none⟩=some (.int .i64 op):=by rw[hc1 _ _ (by omega)];simp[go_sem]
  have j1:w1.cell? ⟨w.heap.size+1,1,none⟩=some (.int .i64 fa):=by rw[hc1 _ _ (by omega)];simp[go_sem]
  have j2:w1.cell? ⟨w.heap.size+1,2,none⟩=some (.int .i64 fb):=by rw[hc1 _ _ (by omega)];simp[go_sem]
  have j3:w1.cell? ⟨w.heap.size+1,3,none⟩=some (.int .i64 fc):=by rw[hc1 _ _ (by omega)];simp[go_sem]
  have j4:w1.cell? ⟨w.heap.size+1,4,none⟩=some (.int .i64 fd):=by rw[hc1 _ _ (by omega)];simp[go_sem]
  have jc:w1.cell? ⟨w.heap.size,0,none⟩=some (.slice a m c):=by rw[hc1 _ _ (by omega)];simp[go_sem]
  have hs1:w.heap.size+1<w1.heap.size:=by have:=hbel1.size;rw[e2]at this;omega
  have HB1:Hid (Below w.heap.size w w1):=(hA _ _).trans (hbel1.mono (by omega))
  have HR1:=hide hrow1
  clear hF hrow1 hbel1 hc1 hf1 RO e2
  go_wp2_with fail
  refine(l6fields_any op fa fb fc fd w1).mono ?_
  rintro e w2 ⟨b2,rfl,hb2,hrow2,hbel2⟩
  have hs2:=hbel2.size
  obtain⟨hc2,hf2⟩:=bcell hbel2
  have hb1l:=(unhide HR1).lt
  have W0:Hid (RnW w b1 b2 a m c ⟨op,fa,fb,fc,fd⟩ r w2):=
    ⟨(unhide HB1).trans (hbel2.mono (unhide HB1).size),(hc2 _ _ (by omega)).trans jc,
     ⟨(hc2 _ _ (by omega)).trans j0,(hc2 _ _ (by omega)).trans j1,(hc2 _ _ (by omega)).trans j2,(hc2 _ _ (by omega)).trans j3,(hc2 _ _ (by omega)).trans j4⟩,
     (unhide HR1).of_block (hbel2.block _ hb1l),hrow2⟩
  clear hbel2 hrow2 hc2 hf2 hs2 j0 j1 j2 j3 j4 jc HR1 HB1 hb1l
  go_wp2_with fail
  go_loopg [10,30] 4 (fun gg tv i wr=>∃ k:Nat,k+gg=4∧i=.int .i64 k∧tv=.slice none 0 0∧RnW w b1 b2 a m c ⟨op,fa,fb,fc,fd⟩ r wr)
  case atStart=>exact⟨0,by omega,rfl,rfl,unhide W0⟩
  case round=>
    clear W0
    obtain⟨k,hk,rfl,rfl,hW⟩:=hrel
    by_cases hk4:k<4
    · have y1:=hW.roles.cell (i:=k) hk4
      have y2:=hW.flds.cell (i:=k) hk4
      have y3:=hW.roles.lt
      have y4:=hW.flds.lt
      have hq21:r[k]?.getD 0≤21:=rolesC_le HR.out k
      have hz:=rd_nothing (unhide HF) hk4
      generalize r[k]?.getD 0=q at *
      have WA:=hide (fun W=>l6wants_any q hq21 W)
      rw[hz]at WA
      have HW:=hide hW
      clear hW hz
      go_wp2_with fail
      refine(unhide WA _).mono ?_
      rintro e w3 ⟨rfl,rfl⟩
      go_wp2_with fail
      go_roundg (4-(k+1))
      case measure=>omega
      case rel=>exact⟨k+1,by omega,by go_num,rfl,unhide HW⟩
    · have HW:=hide hW
      have c0:=hW.ins.op
      have cb:=hW.ins.fb
      have cc:=hW.code
      have zz:w.heap.size+1<wr.heap.size:=World.block_lt_of_cell? _ _ c0
      rw[Nat.zero_add]at cb
      clear hW HF
      by_cases hop:op=11
      · obtain⟨f0,f1,hups⟩:=HUP.out hop
        change 0≤fb at f0
        change fb<l.length at f1
        obtain⟨F,rfl⟩:=Int.eq_ofNat_of_zero_le f0
        have hFl:F<l.length:=by omega
        obtain⟨pb,po,rfl,hpb,hpc⟩:=(unhide HPS).2 (by omega)
        have PC:=hpc F hFl
        obtain⟨ua,uc,hua0,huI⟩:=PC.ups
        have hua:=((unhide HW).old.cell (p:=⟨pb,po+F * 9+5,none⟩) (unhide HBS pb hpb)).trans hua0
        have hmem:(l[F]?.getD ProtoD.z)∈l:=by rw[List.getElem?_eq_getElem hFl];exact List.getElem_mem hFl
        have hul:=unhide HULL _ hmem
        change ∀ u,u∈(l[F]?.getD ProtoD.z).ups→u.1=true→0≤u.2∧u.2<((0:Nat):Int)at hups
        have hpbs:pb<wr.heap.size:=Nat.lt_of_lt_of_le (unhide HBS pb hpb) (unhide HW).old.size
        have HUI:=hide huI
        have HUPS:=hide hups
        have hFm:(F:Int)<m:=by have:=HM.out;omega
        have hFm0:(0:Int)≤(F:Int):=by omega
        have ob:(op==11)=true:=by simpa using hop
        clear hpc PC huI hups hmem f0 f1 hop HUP hua0
        generalize (l[F]?.getD ProtoD.z).ups=us at *
        go_wp2_with fail
        go_loopg [136] us.length (fun gg i wr'=>∃ q:Nat,q+gg=us.length∧i=.int .i64 q∧RnW w b1 b2 (some ⟨pb,po,none⟩) m c ⟨op,fa,(F:Int),fc,fd⟩ r wr')
        case atStart=>exact⟨0,by omega,rfl,unhide HW⟩
        case round=>
          clear HW c0 cb cc hua hpbs
          obtain⟨q,hq,rfl,hW⟩:=hrel
          have zz:w.heap.size+1<wr.heap.size:=World.block_lt_of_cell? _ _ hW.ins.op
          by_cases hql:q<us.length
          · obtain⟨ub,uo,rfl,hub,huc⟩:=((unhide HUI).keep hW.old (unhide HBS)).2 (by omega)
            obtain⟨e0,e1⟩:=huc q hql
            have hmem:us[q]?.getD (false,0)∈us:=by rw[List.getElem?_eq_getElem hql];exact List.getElem_mem hql
            have HUq:=hide (unhide HUPS _ hmem)
            have hubs:ub<wr.heap.size:=Nat.lt_of_lt_of_le (unhide HBS ub hub) hW.old.size
            clear huc hmem
            generalize us[q]?.getD (false,0)=u at *
            obtain⟨loc,ix⟩:=u
            dsimp only at *
            cases loc
            · have HWA:=hide (hW.below ((Below.refl _ _).alloc (Nat.le_refl _) (.cells #[.bool false,.int .i64 ix] 119)))
              clear hW
              go_wp2_with fail
              go_roundg (us.length-(q+1))
              case measure=>omega
              case rel=>exact⟨q+1,by omega,by go_num,unhide HWA⟩
            · exact absurd (unhide HUq rfl) (by omega)
          · have HW:=hide hW
            clear hW
            go_wp2_with fail
            go_ret2
            exact⟨rfl,(unhide HW).old⟩
      · have ob:(op==11)=false:=by simpa using hop
        clear hop
        go_wp2_with fail
        go_ret2
        exact⟨rfl,(unhide HW).old⟩
theorem l6read_all (l:List ProtoD)(op fa fb fc fd:Int)(p:Int)(r:List Nat)(t:List Int)(base c:Nat)(v:Value)(S:Nat→Prop)(a:Option Addr)(w:World)(hs:ProtosAt w S a l)(hB:∀ b,S b→b<base)(hr:rolesC op=some r)(hf:RdFits r ⟨op,fa,fb,fc,fd⟩ t.length)(hu:RdUps l ⟨op,fa,fb,fc,fd⟩ t.length)(hul:∀ x,x∈l→x.ups.length≤1000000)(hll:l.length≤1000000)
  (hown:OwnI w base v t)(hlen:t.length≤250)(hbw:base≤w.heap.size) :
  Calls Tryz.prog 33 #[.agg #[.slice a l.length c],.int .i64 p,.agg #[.int .i64 op,.int .i64 fa,.int .i64 fb,.int .i64 fc,.int .i64 fd],v] w (RdAll (readC l ⟨op,fa,fb,fc,fd⟩ t) base v w):=by
 have hown':=hown
 rcases hown.2 with⟨rfl,h0⟩ | ⟨g,cap,cur,rfl,hb,hg,_⟩
 ·obtain rfl:t=[]:=List.eq_nil_of_length_eq_zero h0
  refine(l6read_nil l op fa fb fc fd p r c S a w hs (fun b h=>Nat.lt_of_lt_of_le (hB b h) hbw) hr hf hu hul hll).mono ?_
  rintro e w' ⟨rfl,hb⟩
  exact⟨_,true,rfl,fun _=>⟨_,readC_nothing hr hf hu,ownI_nil,ownI_nil⟩,fun h=>Bool.noConfusion h,hb.mono hbw⟩
 ·refine(l6read_any l op fa fb fc fd p r t base g t.length cap c S a w hs hB hr hf hu hul hll hown' rfl hlen hb (Array.getElem?_eq_some_iff.1 hg).1).mono ?_
  exact fun e w' h=>h
def stV (σ:Mst)(R:Nat→Value×Value)(j:Nat):Value:=if j % 3=0 then .bool (σ.st (j / 3)).isSome else if j % 3=1 then(R (j / 3)).1 else(R (j / 3)).2
def nil2:Value×Value:=(.slice none 0 0,.slice none 0 0)
structure WkB (w:World)(bC bF bP bS bD bT:Nat):Prop where
 o1:w.heap.size≤bC
 o2:bC<bF
 o3:bF<bP
 o4:bP<bS
 o5:bS<bD
 o6:bD<bT
structure WkW (w:World)(bC bF bP bS bD bT:Nat)(a:Option Addr)(m c:Nat)(nm:ByteArray)(ln pr:Int)(rs:Bool)(rg:Int)(v5 v6 v7 v8:Value)(N:Nat)(σ:Mst)(R:Nat→Value×Value)(wr:World):Prop where
 old:Below w.heap.size w wr
 size:bT≤wr.heap.size
 code:wr.cell? ⟨bC,0,none⟩=some (.slice a m c)
 res:wr.rowIs bF 39 3 (fun _=>.int .i64 0)
 prot:Prot wr bP nm ln pr rs rg v5 v6 v7 v8
 sts:wr.rowIs bS 62 (N * 3) (stV σ R)
 due:wr.rowIs bD 4 N (fun j=>.bool (σ.due j))
 own:∀ i s,i<N→σ.st i=some s→OwnI wr bT (R i).1 s.types∧OwnG wr bT (R i).2 s.guards
 none_:∀ i,i<N→σ.st i=none→R i=nil2
section
variable {w:World} {bC bF bP bS bD bT:Nat} {a:Option Addr} {m c:Nat} {nm:ByteArray} {ln pr:Int} {rs:Bool} {rg:Int} {v5 v6 v7 v8:Value} {N:Nat} {σ σ':Mst} {R R':Nat→Value×Value} {wr w2:World}
theorem WkW.below (h:WkW w bC bF bP bS bD bT a m c nm ln pr rs rg v5 v6 v7 v8 N σ R wr)(hB:WkB w bC bF bP bS bD bT)(hb:Below wr.heap.size wr w2):WkW w bC bF bP bS bD bT a m c nm ln pr rs rg v5 v6 v7 v8 N σ R w2 where
 old:=h.old.trans (hb.mono h.old.size)
 size:=Nat.le_trans h.size hb.size
 code:=(hb.cell (p:=⟨bC,0,none⟩) (by have:=h.size;obtain⟨_,_,_,_,_,_⟩:=hB;show bC<wr.heap.size;omega)).trans h.code
 res:=h.res.of_block (hb.block _ h.res.lt)
 prot:=h.prot.keep hb (by have:=h.size;obtain⟨_,_,_,_,_,_⟩:=hB;omega)
 sts:=h.sts.of_block (hb.block _ h.sts.lt)
 due:=h.due.of_block (hb.block _ h.due.lt)
 own i s hi hs:=⟨(h.own i s hi hs).1.below hb,(h.own i s hi hs).2.below hb⟩
 none_:=h.none_
theorem OwnG.setOther {base:Nat}{v:Value}{t:List GuD}{W:World}(h:OwnG W base v t){D j:Nat}{u:Value}(hD:D<base):OwnG (W.setCell ⟨D,j,none⟩ u) base v t:=by
 refine⟨h.1,?_⟩
 rcases h.2 with hn | ⟨g,cap,cur,rfl,h1,hg,h2⟩
 ·exact .inl hn
 ·exact .inr ⟨g,cap,cur,rfl,h1,(heap_setCell_other W ⟨D,j,none⟩ g u (fun e=>by have e:g=D:=e;omega)).trans hg,h2⟩
theorem prot_set {W:World}{b D j:Nat}{u:Value}(h:Prot W b nm ln pr rs rg v5 v6 v7 v8)(hD:D≠b):Prot (W.setCell ⟨D,j,none⟩ u) b nm ln pr rs rg v5 v6 v7 v8:=by
 obtain⟨h0,h1,h2,h3,h4,h5,h6,h7,h8⟩:=h
 have e:∀ o,(W.setCell ⟨D,j,none⟩ u).cell? ⟨b,o,none⟩=W.cell? ⟨b,o,none⟩:=fun o=>World.cell?_of_block (a:=⟨b,o,none⟩) (heap_setCell_other W ⟨D,j,none⟩ b u (fun e=>hD e.symm))
 exact⟨(e _).trans h0,(e _).trans h1,(e _).trans h2,(e _).trans h3,(e _).trans h4,(e _).trans h5,(e _).trans h6,(e _).trans h7,(e _).trans h8⟩
theorem WkW.setDue (h:WkW w bC bF bP bS bD bT a m c nm ln pr rs rg v5 v6 v7 v8 N σ R wr)(hB:WkB w bC bF bP bS bD bT)(i:Nat)(x:Bool):WkW w bC bF bP bS bD bT a m c nm ln pr rs rg v5 v6 v7 v8 N ⟨σ.st,upd σ.due i x⟩ R (wr.setCell ⟨bD,i,none⟩ (.bool x)):=by
 obtain⟨o1,o2,o3,o4,o5,o6⟩:=hB
 exact {
  old:=h.old.setCell (by show w.heap.size≤bD;omega) _
  size:=by have:=h.size;simpa using this
  code:=by rw[World.cell?_setCell_other (h:=by intro e;injection e;omega)];exact h.code
  res:=h.res.of_block (heap_setCell_other wr ⟨bD,i,none⟩ _ _ (by show bF≠bD;omega))
  prot:=prot_set h.prot (by omega)
  sts:=h.sts.of_block (heap_setCell_other wr ⟨bD,i,none⟩ _ _ (by show bS≠bD;omega))
  due:=(h.due.set i _).congr (fun j hj=>by
   show _=Value.bool (upd σ.due i x j)
   unfold upd
   split<;>rfl)
  own:=fun j s hj hs=>⟨(h.own j s hj hs).1.setOther (by omega),(h.own j s hj hs).2.setOther (by omega)⟩
  none_:=h.none_ }
theorem WkW.setSt (h:WkW w bC bF bP bS bD bT a m c nm ln pr rs rg v5 v6 v7 v8 N σ R wr)(hB:WkB w bC bF bP bS bD bT)(i:Nat)(s:StD)(tv gv:Value)(h1:OwnI wr bT tv s.types)(h2:OwnG wr bT gv s.guards) :
  WkW w bC bF bP bS bD bT a m c nm ln pr rs rg v5 v6 v7 v8 N ⟨upd σ.st i (some s),σ.due⟩ (upd R i (tv,gv)) (((wr.setCell ⟨bS,i * 3,none⟩ (.bool true)).setCell ⟨bS,i * 3+1,none⟩ tv).setCell ⟨bS,i * 3+2,none⟩ gv):=by
 obtain⟨o1,o2,o3,o4,o5,o6⟩:=hB
 have hk:∀ k,k≠bS→(((wr.setCell ⟨bS,i * 3,none⟩ (.bool true)).setCell ⟨bS,i * 3+1,none⟩ tv).setCell ⟨bS,i * 3+2,none⟩ gv).heap[k]? = wr.heap[k]?:=fun k hk=>by
  rw[heap_setCell_other _ ⟨bS,_,none⟩ _ _ hk,heap_setCell_other _ ⟨bS,_,none⟩ _ _ hk,heap_setCell_other _ ⟨bS,_,none⟩ _ _ hk]
 exact {
  old:=((h.old.setCell (by show w.heap.size≤bS;omega) _).setCell (by show w.heap.size≤bS;omega) _).setCell (by show w.heap.size≤bS;omega) _
  size:=by have:=h.size;simpa using this
  code:=(World.cell?_of_block (a:=⟨bC,0,none⟩) (hk bC (by omega))).trans h.code
  res:=h.res.of_block (hk bF (by omega))
  prot:=prot_set (prot_set (prot_set h.prot (by omega)) (by omega)) (by omega)
  sts:=by
   refine(((h.sts.set (i * 3) _).set (i * 3+1) _).set (i * 3+2) _).congr fun j hj=>?_
   show(if j=i * 3+2 then gv else if j=i * 3+1 then tv else if j=i * 3 then .bool true else stV σ R j)=stV ⟨upd σ.st i (some s),σ.due⟩ (upd R i (tv,gv)) j
   unfold stV upd
   by_cases e:j / 3=i
   ·by_cases e0:j % 3=0
    ·rw[if_neg (by omega),if_neg (by omega),if_pos (by omega),if_pos e0]
     simp[e]
    ·by_cases e1:j % 3=1
     ·rw[if_neg (by omega),if_pos (by omega),if_neg e0,if_pos e1]
      simp[e]
     ·rw[if_pos (by omega),if_neg e0,if_neg e1]
      simp[e]
   ·rw[if_neg (by omega),if_neg (by omega),if_neg (by omega)]
    simp[e]
  due:=h.due.of_block (hk bD (by omega))
  own:=fun j t hj ht=>by
   change upd σ.st i (some s) j=some t at ht
   unfold upd at ht ⊢
   by_cases e:j=i
   ·rw[if_pos e]at ht ⊢
    cases ht
    exact⟨((h1.setOther (by omega)).setOther (by omega)).setOther (by omega),((h2.setOther (by omega)).setOther (by omega)).setOther (by omega)⟩
   ·rw[if_neg e]at ht ⊢
    obtain⟨k1,k2⟩:=h.own j t hj ht
    exact⟨((k1.setOther (by omega)).setOther (by omega)).setOther (by omega),((k2.setOther (by omega)).setOther (by omega)).setOther (by omega)⟩
  none_:=fun j hj hn=>by
   change upd σ.st i (some s) j=none at hn
   unfold upd at hn ⊢
   by_cases e:j=i
   ·rw[if_pos e]at hn;cases hn
   ·rw[if_neg e]at hn ⊢;exact h.none_ j hj hn }
theorem WkW.reached (h:WkW w bC bF bP bS bD bT a m c nm ln pr rs rg v5 v6 v7 v8 N σ R wr){i:Nat}(hi:i<N):wr.cell? ⟨bS,i * 3,none⟩=some (.bool (σ.st i).isSome):=by
 have:=h.sts.cell (i:=i * 3) (by omega)
 rw[this]
 unfold stV
 rw[if_pos (by omega),show i * 3 / 3=i by omega]
theorem WkW.typesV (h:WkW w bC bF bP bS bD bT a m c nm ln pr rs rg v5 v6 v7 v8 N σ R wr){i:Nat}(hi:i<N):wr.cell? ⟨bS,i * 3+1,none⟩=some (R i).1:=by
 have:=h.sts.cell (i:=i * 3+1) (by omega)
 rw[this]
 unfold stV
 rw[if_neg (by omega),if_pos (by omega),show(i * 3+1) / 3=i by omega]
theorem WkW.guardsV (h:WkW w bC bF bP bS bD bT a m c nm ln pr rs rg v5 v6 v7 v8 N σ R wr){i:Nat}(hi:i<N):wr.cell? ⟨bS,i * 3+2,none⟩=some (R i).2:=by
 have:=h.sts.cell (i:=i * 3+2) (by omega)
 rw[this]
 unfold stV
 rw[if_neg (by omega),if_neg (by omega),show(i * 3+2) / 3=i by omega]
end
theorem OwnI.ints {w:World}{base:Nat}{v:Value}{t:List Int}(h:OwnI w base v t)(hl:t.length≤1000000):∃ a c,v=.slice a t.length c∧IntsAt w (fun b=>base≤b∧b<w.heap.size) a t:=by
 by_cases h0:0<t.length
 ·obtain⟨g,cap,rfl,h1,h2,h3⟩:=h.at h0
  exact⟨_,_,rfl,by omega,fun _=>⟨g,0,rfl,⟨h1,h2⟩,fun j hj=>by rw[Nat.zero_add];exact h3 j hj⟩⟩
 ·obtain⟨a,c,rfl⟩:=h.lenV
  exact⟨a,c,rfl,by omega,fun h=>absurd h h0⟩
theorem OwnG.gus {w:World}{base:Nat}{v:Value}{t:List GuD}(h:OwnG w base v t)(hl:t.length≤1000000):∃ a c,v=.slice a t.length c∧GusAt w (fun b=>base≤b∧b<w.heap.size) a t:=by
 by_cases h0:0<t.length
 ·obtain⟨g,cap,rfl,h1,h2,_,h3⟩:=h.at h0
  exact⟨_,_,rfl,by omega,fun _=>⟨g,0,rfl,⟨h1,h2⟩,fun j hj=>by rw[Nat.zero_add];exact h3 j hj⟩⟩
 ·obtain⟨a,c,rfl⟩:=h.lenV
  exact⟨a,c,rfl,by omega,fun h=>absurd h h0⟩
theorem rowIs_past {W:World}{G T n i:Nat}{f:Nat→Value}(h:W.rowIs G T n f)(hi:n≤i):W.cell? ⟨G,i,none⟩=none:=by
 obtain⟨cs,h1,h2,_⟩:=h
 unfold World.cell?
 simp only[h1]
 simp
 omega
theorem ints_apart {W:World}{S:Nat→Prop}{a:Option Addr}{t:List Int}{G n T:Nat}{f:Nat→Value}(h:IntsAt W S a t)(hr:W.rowIs G T n f)(hf:∀ j,j<n→∀ x:Int,f j≠.int .i64 x):IntsAt W (fun b=>S b∧b≠G) a t:=
 ⟨h.1,fun h0=>by
  obtain⟨b,off,rfl,hs,hc⟩:=h.2 h0
  refine⟨b,off,rfl,⟨hs,fun e=>?_⟩,hc⟩
  subst e
  have c0:=hc 0 h0
  by_cases hj:off+0<n
  ·rw[hr.cell hj]at c0
   exact hf _ hj _ (Option.some.inj c0)
  ·rw[rowIs_past hr (i:=off+0) (by omega)]at c0
   cases c0⟩
theorem gus_apart {W:World}{S:Nat→Prop}{a:Option Addr}{t:List GuD}{G n T:Nat}{f:Nat→Value}(h:GusAt W S a t)(hr:W.rowIs G T n f)(hf:∀ j,j<n→∀ x:Int,f j≠.int .i64 x):GusAt W (fun b=>S b∧b≠G) a t:=
 ⟨h.1,fun h0=>by
  obtain⟨b,off,rfl,hs,hc⟩:=h.2 h0
  refine⟨b,off,rfl,⟨hs,fun e=>?_⟩,hc⟩
  subst e
  have c0:=(hc 0 h0).keep
  by_cases hj:off+0 * 3+1<n
  ·rw[hr.cell hj]at c0
   exact hf _ hj _ (Option.some.inj c0)
  ·rw[rowIs_past hr (i:=off+0 * 3+1) (by omega)]at c0
   cases c0⟩
theorem stV_int {σ:Mst}{R:Nat→Value×Value}{N:Nat}(h1:∀ i,i<N→∃ a n c,(R i).1=.slice a n c)(h2:∀ i,i<N→∃ a n c,(R i).2=.slice a n c)(j:Nat)(hj:j<N * 3)(x:Int):stV σ R j≠.int .i64 x:=by
 unfold stV
 split
 ·exact fun h=>Value.noConfusion h
 ·split
  ·obtain⟨a,n,c,e⟩:=h1 (j / 3) (by omega);rw[e];exact fun h=>Value.noConfusion h
  ·obtain⟨a,n,c,e⟩:=h2 (j / 3) (by omega);rw[e];exact fun h=>Value.noConfusion h
theorem WkW.slices {w:World}{bC bF bP bS bD bT:Nat}{a:Option Addr}{m c:Nat}{nm:ByteArray}{ln pr:Int}{rs:Bool}{rg:Int}{v5 v6 v7 v8:Value}{N:Nat}{σ:Mst}{R:Nat→Value×Value}{wr:World}(h:WkW w bC bF bP bS bD bT a m c nm ln pr rs rg v5 v6 v7 v8 N σ R wr){i:Nat}(hi:i<N) :
  (∃ a n c,(R i).1=.slice a n c)∧∃ a n c,(R i).2=.slice a n c:=by
 cases e:σ.st i with
 | none=>rw[h.none_ i hi e];exact⟨⟨_,_,_,rfl⟩,⟨_,_,_,rfl⟩⟩
 | some s=>
  obtain⟨o1,o2⟩:=h.own i s hi e
  obtain⟨a1,c1,e1⟩:=o1.lenV
  obtain⟨a2,c2,e2⟩:=o2.lenV
  exact⟨⟨_,_,_,e1⟩,⟨_,_,_,e2⟩⟩
theorem OwnI.sameBlock {W W':World}{base:Nat}{v:Value}{t:List Int}(h:OwnI W base v t)(hb:∀ k,v.ownBlock=some k→W'.heap[k]? = W.heap[k]?):OwnI W' base v t:=by
 refine⟨h.1,?_⟩
 rcases h.2 with hn | ⟨g,cap,cur,rfl,h1,hg,h2⟩
 ·exact .inl hn
 ·exact .inr ⟨g,cap,cur,rfl,h1,(hb g rfl).trans hg,h2⟩
theorem OwnG.sameBlock {W W':World}{base:Nat}{v:Value}{t:List GuD}(h:OwnG W base v t)(hb:∀ k,v.ownBlock=some k→W'.heap[k]? = W.heap[k]?):OwnG W' base v t:=by
 refine⟨h.1,?_⟩
 rcases h.2 with hn | ⟨g,cap,cur,rfl,h1,hg,h2⟩
 ·exact .inl hn
 ·exact .inr ⟨g,cap,cur,rfl,h1,(hb g rfl).trans hg,h2⟩
theorem OwnG.lt' {W:World}{base:Nat}{v:Value}{t:List GuD}(h:OwnG W base v t)(k:Nat)(hk:v.ownBlock=some k):base≤k∧k<W.heap.size:=by
 rcases h.2 with⟨rfl,_⟩ | ⟨g,cap,cur,rfl,h1,hg,_⟩
 ·cases hk
 ·obtain rfl:g=k:=Option.some.inj hk
  exact⟨h1,(Array.getElem?_eq_some_iff.1 hg).1⟩
theorem OwnI.lt' {W:World}{base:Nat}{v:Value}{t:List Int}(h:OwnI W base v t)(k:Nat)(hk:v.ownBlock=some k):base≤k∧k<W.heap.size:=by
 rcases h.2 with⟨rfl,_⟩ | ⟨g,cap,cur,rfl,h1,hg,_⟩
 ·cases hk
 ·obtain rfl:g=k:=Option.some.inj hk
  exact⟨h1,(Array.getElem?_eq_some_iff.1 hg).1⟩
theorem OwnF.lenV {W:World}{base:Nat}{v:Value}{t:List FoR}(h:OwnF W base v t):∃ a c,v=.slice a t.length c:=by
 rcases h.2 with⟨rfl,h0⟩ | ⟨g,cap,cur,rfl,_⟩
 ·rw[h0];exact⟨none,0,rfl⟩
 ·exact⟨_,_,rfl⟩
theorem foV_get (t:List FoR):∀(j i:Nat),j<t.length→i<4→(t.flatMap foV)[j * 4+i]? = (foV (t[j]?.getD FoR.z))[i]?:=by
 induction t with
 | nil=>intro j i hj;cases hj
 | cons x t ih=>
  intro j i hj hi
  have hlen:(foV x).length=4:=rfl
  cases j with
  | zero=>
   rw[List.flatMap_cons,List.getElem?_append_left (by rw[hlen];omega)]
   simp
  | succ j=>
   rw[List.flatMap_cons,List.getElem?_append_right (by rw[hlen];omega),hlen,show(j+1) * 4+i-4=j * 4+i by omega]
   exact ih j i (by simpa using hj) hi
theorem OwnF.at {W:World}{base:Nat}{v:Value}{t:List FoR}(h:OwnF W base v t)(h0:0<t.length):∃ g cap,v=.slice (some ⟨g,0,none⟩) t.length cap∧base≤g∧g<W.heap.size∧∀ j,j<t.length→∀ i,i<4→W.cell? ⟨g,j * 4+i,none⟩=(foV (t[j]?.getD FoR.z))[i]?:=by
 rcases h.2 with⟨_,h1⟩ | ⟨g,cap,cur,rfl,hb,hg,h2⟩
 ·omega
 ·refine⟨g,cap,rfl,hb,(Array.getElem?_eq_some_iff.1 hg).1,fun j hj i hi=>?_⟩
  have h3:=World.ownsRow.cellAt h (j * 4+i) (by omega)
  rw[h3]
  exact foV_get t j i hj hi
theorem OwnF.setOther {W:World}{base:Nat}{v:Value}{t:List FoR}(h:OwnF W base v t){D j:Nat}{u:Value}(hD:D<base):OwnF (W.setCell ⟨D,j,none⟩ u) base v t:=by
 refine⟨h.1,?_⟩
 rcases h.2 with hn | ⟨g,cap,cur,rfl,h1,hg,h2⟩
 ·exact .inl hn
 ·exact .inr ⟨g,cap,cur,rfl,h1,(heap_setCell_other W ⟨D,j,none⟩ g u (fun e=>by have e:g=D:=e;omega)).trans hg,h2⟩
theorem shape_rd {n:ProtoD}{np i:Nat}(h:sInsOk n np i=true)(hr:0≤n.regs):RdFits ((rolesC (inD n i).op).getD []) (inD n i) n.regs.toNat:=by
 obtain⟨_,hf,_⟩:=ins_shape h
 intro k hk
 have f:=hf k hk
 refine⟨fun e=>?_,fun e=>?_,fun e=>?_,fun e=>?_⟩
 ·rcases e with e | e<;>(rw[e]at f;have:=sIn_true (show sIn _ (-n.regs) (n.regs-1)=true from f);omega)
 ·rcases e with e | e | e<;>(rw[e]at f;have:=sIn_true (show sIn _ 0 (n.regs-1)=true from f);omega)
 ·rw[e]at f;have:=sIn_true (show sIn _ 0 (n.regs-3)=true from f);omega
 ·rcases e with e | e<;>(rw[e]at f;have:=sIn_true (show sIn _ 0 (n.regs-2)=true from f);omega)
theorem shape_fit {n:ProtoD}{np i:Nat}(h:sInsOk n np i=true)(hi:i<n.ins.length)(hr:0≤n.regs):InFit (inD n i) i n.regs.toNat n.ins.length:=by
 obtain⟨_,hf,hl⟩:=ins_shape h
 obtain⟨ha,hb⟩:=shape_at h
 have f0:=hf 0 (by omega);have f1:=hf 1 (by omega)
 change sFits n np (inD n i).fa _=true at f0
 change sFits n np (inD n i).fb _=true at f1
 refine⟨fun e=>?_,fun e=>?_,fun e=>?_,fun e=>?_,fun e=>?_⟩
 ·rw[e]at f1;have:=sIn_true (show sIn _ 0 (n.regs-2)=true from f1);omega
 ·by_cases c:i+1=n.ins.length
  ·unfold goesC at e
   rcases hl c with c | c | c<;>(rw[c]at e;exact absurd e (by decide))
  ·omega
 ·have:=ha e;omega
 ·have:=hb e;omega
 ·rcases e with e | e<;>(rw[e]at f0;have:=sIn_true (show sIn _ 0 n.regs=true from f0);omega)
structure WkOk (l:List ProtoD)(p:Nat):Prop where
 here:p<l.length
 many:l.length≤200
 regs:0≤(prD l p).regs∧(prD l p).regs≤250
 pars:0≤(prD l p).params∧(prD l p).params≤(prD l p).regs
 rest:(prD l p).rest=true→(prD l p).params<(prD l p).regs
 some_:0<(prD l p).ins.length
 few:(prD l p).ins.length≤6000
 ins:∀ i,i<(prD l p).ins.length→sInsOk (prD l p) l.length i=true
 made:∀ i,i<(prD l p).ins.length→RdUps l (inD (prD l p) i) (prD l p).regs.toNat
 ups:∀ x,x∈l→x.ups.length≤1000000
theorem le_sumAll {α:Type}(f:α→Nat):∀(l:List α)(x:α),x∈l→f x≤sumAll f l
 | y::l,x,h=>by
  simp only[sumAll,List.map_cons,List.sum_cons]
  rcases List.mem_cons.1 h with rfl | h
  ·omega
  ·have:=le_sumAll f l x h
   unfold sumAll at this
   omega
theorem wkOk_of {l:List ProtoD}(h:ShapeSaid l 0 0 0){p:Nat}(hp:p<l.length):WkOk l p:=by
 have hP:PartsSaid l 0 0 0∧NoC l (len6 l) (bad6 l):=by
  rcases h with⟨_,h⟩ | ⟨_,h,_⟩ | ⟨_,_,h,_⟩ | ⟨h1,h2,_⟩
  ·exact absurd rfl h
  ·exact absurd h (by decide)
  ·exact absurd h (by decide)
  ·exact⟨h1,h2⟩
 obtain⟨h1,h6⟩:=hP
 obtain⟨hs,hh,h5,_,_⟩:=parts_ok h1
 have hmem:∀ g,g<l.length→prD l g∈l:=fun g hg=>by unfold prD;rw[List.getElem?_eq_getElem hg];exact List.getElem_mem hg
 have hd:=hh p hp
 unfold sHeadC at hd
 simp only[Bool.and_eq_true]at hd
 obtain⟨⟨⟨⟨⟨⟨_,_⟩,d2⟩,d3⟩,_⟩,_⟩,_⟩:=hd
 have e2:=sIn_true d2
 have e3:=sIn_true d3
 have hin:(prD l p).ins.length≠0:=fun e=>by
  have:=h5 p 0 hp (by unfold len5;rw[if_pos e];omega)
  unfold bad5 at this
  rw[if_pos e]at this
  cases this
 have hok:∀ i,i<(prD l p).ins.length→sInsOk (prD l p) l.length i=true:=fun i hi=>by
  have:=h5 p i hp (by unfold len5;rw[if_neg hin];exact hi)
  unfold bad5 at this
  rw[if_neg hin]at this
  simpa using this
 unfold sizeBadC at hs
 refine⟨hp,by omega,e2,⟨e3.1,by have:=e3.2;split at this<;>omega⟩,fun hr=>by have:=e3.2;rw[if_pos hr]at this;omega,by omega,?_,hok,fun i hi hop=>?_,fun x hx=>?_⟩
 ·have:=le_sumAll insLen l _ (hmem p hp)
  change (prD l p).ins.length≤_ at this
  omega
 ·have b6:=h6 p i hp hi
  unfold bad6 at b6
  rw[hop]at b6
  simp only[beq_self_eq_true,Bool.true_and,Bool.or_eq_false_iff,decide_eq_false_iff_not,Bool.not_eq_false']at b6
  obtain⟨_,hf,_⟩:=ins_shape (hok i hi)
  have f1:=hf 1 (by omega)
  change sFits (prD l p) l.length (inD (prD l p) i).fb _=true at f1
  rw[hop]at f1
  have g1:=sIn_true (show sIn _ 0 ((l.length:Int)-1)=true from f1)
  refine⟨g1.1,by omega,fun u hu h1=>?_⟩
  have b7:=b6.2
  obtain⟨j,hj,rfl⟩:=List.getElem_of_mem hu
  have:=allFrom_get b7 j (Nat.zero_le _) hj
  rw[List.getElem?_eq_getElem hj]at this
  change upOkC (prD l p) ((prD l (inD (prD l p) i).fb.toNat).ups[j])=true at this
  unfold upOkC at this
  rw[h1]at this
  have:=sIn_true this
  omega
 ·obtain⟨g,hg,rfl⟩:=List.getElem_of_mem hx
  have:=hh g hg
  unfold sHeadC prD at this
  rw[List.getElem?_eq_getElem hg]at this
  simp only[Bool.and_eq_true,Option.getD_some,decide_eq_true_eq]at this
  omega
def cAt:List Nat→Code→Code
 | [],c=>c
 | 0::ds,.seq a _=>cAt ds a
 | _::ds,.seq _ b=>cAt ds b
 | _::ds,.block _ c=>cAt ds c
 | _::ds,.scope c=>cAt ds c
 | _::ds,.loop c=>cAt ds c
 | 0::ds,.cond _ a _=>cAt ds a
 | _::ds,.cond _ _ b=>cAt ds b
 | _,c=>c
def StatesAt (l:List ProtoD)(x:ProtoD)(base:Nat)(v:Value)(w':World):Prop:=
 ∃(k:Nat) (σ:Mst) (bS bT:Nat) (R:Nat→Value×Value),v=.slice (some ⟨bS,0,none⟩) x.ins.length x.ins.length∧Goes l x k σ∧NoDue σ x.ins.length∧MOk x.regs.toNat x.ins.length σ∧base≤bS∧bS<bT∧w'.rowIs bS 62 (x.ins.length * 3) (stV σ R) ∧
  (∀ i s,i<x.ins.length→σ.st i=some s→OwnI w' bT (R i).1 s.types∧OwnG w' bT (R i).2 s.guards)∧(∀ i,i<x.ins.length→σ.st i=none→R i=nil2)
def WkPost (l:List ProtoD)(p:Nat)(w:World)(e:Ending)(w':World):Prop:=
 ∃(v:Value) (x:Int) (n:Nat),e=.returned (.tuple #[v,.agg #[.int .i64 x,.int .i64 (if x=0 then 0 else(p:Int)),.int .i64 (n:Int)]])∧WalkSaid l (prD l p) x n∧(x=0→StatesAt l (prD l p) w.heap.size v w')∧Below w.heap.size w w'
def WkRel (l:List ProtoD)(p:Nat)(w:World)(bC bF bP bS bD bT:Nat)(a:Option Addr)(m c:Nat)(nm:ByteArray)(ln pr:Int)(rs:Bool)(rg:Int)(a5 a6 a7 a8:Option Addr)(n5 n6 ni n8 c5 c6 c7 c8:Nat)(gg:Nat)(wr:World):Prop:=
 ∃(k:Nat) (σ:Mst) (R:Nat→Value×Value),WkW w bC bF bP bS bD bT a m c nm ln pr rs rg (.slice a5 n5 c5) (.slice a6 n6 c6) (.slice a7 ni c7) (.slice a8 n8 c8) ni σ R wr∧Hid (Goes l (prD l p) k σ)∧Hid (MOk (prD l p).regs.toNat ni σ)∧Hid (left ni σ=gg)
theorem wk_fault {l:List ProtoD}{p k:Nat}{σ:Mst}{at_ n:Nat}{x:Int}{w w':World}{v:Value}(hg:Goes l (prD l p) k σ)(ha:LeastDue σ (prD l p).ins.length at_)(hs:stepM l (prD l p) σ at_=.inl (x,n))(hx:x≠0)(hb:Below w.heap.size w w') :
  WkPost l p w (.returned (.tuple #[v,.agg #[.int .i64 x,.int .i64 (p:Int),.int .i64 (n:Int)]])) w':=
 ⟨v,x,n,by rw[if_neg hx],⟨k,σ,hg,.inl ⟨at_,ha,hs⟩⟩,fun h=>absurd h hx,hb⟩
theorem step_10 {l:List ProtoD}{x:ProtoD}{σ:Mst}{a:Nat}{s:StD}(h:σ.st a=some s)(h1:readC l (inD x a) s.types=none):stepM l x σ a=.inl (10,a):=by
 unfold stepM;rw[h];show(match readC l (inD x a) s.types with | none=>_ | some r=>_)=_;rw[h1]
theorem step_11 {l:List ProtoD}{x:ProtoD}{σ:Mst}{a:Nat}{s:StD}{r:RdS}(h:σ.st a=some s)(h1:readC l (inD x a) s.types=some r)(h2:changeC (inD x a) s.guards=none):stepM l x σ a=.inl (11,a):=by
 unfold stepM;rw[h];show(match readC l (inD x a) s.types with | none=>_ | some r=>_)=_;rw[h1]
 show(match changeC (inD x a) s.guards with | none=>_ | some g=>_)=_;rw[h2]
theorem step_go {l:List ProtoD}{x:ProtoD}{σ:Mst}{a:Nat}{s:StD}{r:RdS}{g:List GuD}(h:σ.st a=some s)(h1:readC l (inD x a) s.types=some r)(h2:changeC (inD x a) s.guards=some g) :
  stepM l x σ a=if keptC (inD x a) s.guards r.taken s.types (writeC (inD x a) r.types)then(match allM (followC (inD x a) a s (writeC (inD x a) r.types) g) ⟨σ.st,upd σ.due a false⟩with | .inl y=>.inl (13,y) | .inr σ'=>.inr σ')else .inl (12,a):=by
 unfold stepM;rw[h];show(match readC l (inD x a) s.types with | none=>_ | some r=>_)=_;rw[h1]
 show(match changeC (inD x a) s.guards with | none=>_ | some g=>_)=_;rw[h2];rfl
theorem rdF_taken {q:Nat}{x:Int}{s s':RdS}(h:rdF q x s=some s'):s'.taken.length≤s.taken.length+1:=by
 unfold rdF at h
 repeat' split at h
 all_goals first | (cases h;done) | (cases h;simp)
theorem rdUpto_taken {r:List Nat}{n:InsD}{s:RdS}:∀{k:Nat}{s':RdS},rdUpto r n s k=some s'→s'.taken.length≤s.taken.length+k
 | 0,s',h=>by cases h;omega
 | k+1,s',h=>by
  change (match rdUpto r n s k with | none=>none | some s'=>rdF (r[k]?.getD 0) (insF n k) s')=some s' at h
  cases e:rdUpto r n s k with
  | none=>rw[e]at h;cases h
  | some s1=>rw[e]at h;have:=rdF_taken h;have:=rdUpto_taken e;omega
theorem taken_len {l:List ProtoD}{n:InsD}{t:List Int}{r:RdS}(h:readC l n t=some r):r.taken.length≤4:=by
 unfold readC at h
 cases e:rdUpto ((rolesC n.op).getD []) n ⟨t,[],[]⟩ 4 with
 | none=>rw[e]at h;cases h
 | some s=>
  rw[e]at h
  change (if _ then _ else _)=_ at h
  split at h
  ·cases h
  ·cases h;have:=rdUpto_taken e;simpa using this
theorem allM_app:∀(A:List (Nat×StD)){σ σ':Mst},allM A σ=.inr σ'→∀ B,allM (A++B) σ=allM B σ'
 | [],σ,σ',h,B=>by cases h;rfl
 | x::A,σ,σ',h,B=>by
  change (match oneM σ x with | none=>(Sum.inl x.1:Nat ⊕ Mst) | some σ'=>allM A σ')=.inr σ' at h
  show(match oneM σ x with | none=>(Sum.inl x.1:Nat ⊕ Mst) | some σ'=>allM (A++B) σ')=_
  cases e:oneM σ x with
  | none=>rw[e]at h;cases h
  | some σ1=>rw[e]at h;exact allM_app A h B
theorem allM_one {σ σ':Mst}{y:Nat×StD}(h:oneM σ y=some σ'):allM [y] σ=.inr σ':=by
 show(match oneM σ y with | none=>(Sum.inl y.1:Nat ⊕ Mst) | some σ'=>allM [] σ')=_
 rw[h];rfl
theorem allM_bad {σ:Mst}{y:Nat×StD}{B:List (Nat×StD)}(h:oneM σ y=none):allM (y::B) σ=.inl y.1:=by
 show(match oneM σ y with | none=>(Sum.inl y.1:Nat ⊕ Mst) | some σ'=>allM B σ')=_
 rw[h]
theorem allM_step {F:List (Nat×StD)}{j:Nat}{y:Nat×StD}{σ σ' σ2:Mst}(hj:F[j]? = some y)(h:allM (F.take j) σ=.inr σ')(h1:oneM σ' y=some σ2):allM (F.take (j+1)) σ=.inr σ2:=by
 rw[List.take_add_one,hj,allM_app _ h]
 exact allM_one h1
theorem allM_stop {F:List (Nat×StD)}{j:Nat}{y:Nat×StD}{σ σ':Mst}(hj:F[j]? = some y)(h:allM (F.take j) σ=.inr σ')(h1:oneM σ' y=none):allM F σ=.inl y.1:=by
 have e:F=F.take j++F.drop j:=(List.take_append_drop j F).symm
 have hl:j<F.length:=(List.getElem?_eq_some_iff.1 hj).1
 have e2:F.drop j=y::F.drop (j+1):=by
  rw[List.drop_eq_getElem_cons hl]
  rw[List.getElem?_eq_getElem hl]at hj
  rw[Option.some.inj hj]
 rw[e,allM_app _ h,e2]
 exact allM_bad h1
theorem oneM_new {σ:Mst}{y:Nat×StD}(h:σ.st y.1=none):oneM σ y=some ⟨upd σ.st y.1 (some y.2),upd σ.due y.1 true⟩:=by unfold oneM;rw[h]
theorem oneM_same {σ:Mst}{y:Nat×StD}{s:StD}(h:σ.st y.1=some s)(hs:s.types=y.2.types∧s.guards=y.2.guards):oneM σ y=some σ:=by
 unfold oneM
 rw[h]
 show(if sameSt s y.2=true then some σ else none)=some σ
 rw[if_pos]
 rw[sameSt_iff]
 obtain⟨s1,s2⟩:=s
 obtain⟨y1,t1,t2⟩:=y
 obtain⟨h1,h2⟩:=hs
 simp only at h1 h2
 rw[h1,h2]
theorem oneM_else {σ:Mst}{y:Nat×StD}{s:StD}(h:σ.st y.1=some s)(hs:¬(s.types=y.2.types∧s.guards=y.2.guards)):oneM σ y=none:=by
 unfold oneM
 rw[h]
 show(if sameSt s y.2=true then some σ else none)=none
 rw[if_neg]
 rw[sameSt_iff]
 intro e
 exact hs (by rw[e];exact⟨rfl,rfl⟩)
def FoS (w:World)(S:Nat→Prop)(x:FoR)(y:Nat×StD):Prop:=x.at_=(y.1:Nat)∧x.n=y.2.types.length∧x.n2=y.2.guards.length∧IntsAt w S x.a y.2.types∧GusAt w S x.a2 y.2.guards
theorem set3_old {w wr:World}{bF:Nat}(h:Below w.heap.size w wr)(hb:w.heap.size≤bF)(v0 v1 v2:Value):Below w.heap.size w (((wr.setCell ⟨bF,0,none⟩ v0).setCell ⟨bF,1,none⟩ v1).setCell ⟨bF,2,none⟩ v2):=
 ((h.setCell hb _).setCell hb _).setCell hb _
end Go.Proofs.YthmjjhfjkgaocaaGreatDoor
