import Derived.Test.YthmjjhfjkgaocaaGreatDoorPart07
import Derived.Deep.LoopGhost
set_option linter.unusedSimpArgs false
set_option linter.unusedVariables false
set_option maxHeartbeats 8000000
set_option maxRecDepth 100000
namespace Go.Proofs.YthmjjhfjkgaocaaGreatDoor
open Go.RowKit
theorem rolesC_le {op:Int}{r:List Nat}(h:rolesC op=some r)(k:Nat):r[k]?.getD 0≤21:=by
 have key:∀(t:List (Int×List Nat)),(∀ p,p∈t→∀ x,x∈p.2→x≤21)→lookR op t=some r→∀ x,x∈r→x≤21:=by
  intro t
  induction t with
  | nil=>intro _ h;cases h
  | cons p t ih=>
   intro hp h
   obtain⟨k,q⟩:=p
   unfold lookR at h
   split at h
   ·cases h;exact hp (k,r) (List.mem_cons_self)
   ·exact ih (fun p hq=>hp p (List.mem_cons_of_mem _ hq)) h
 have hall:=key rolesT (by decide) h
 cases e:r[k]? with
 | none=>exact Nat.zero_le _
 | some x=>exact hall x (List.mem_of_getElem? e)
def insF (x:InsD)(k:Nat):Int:=[x.fa,x.fb,x.fc,x.fd][k]?.getD 0
def sInsOk (n:ProtoD)(np i:Nat):Bool:=
 match rolesC (n.ins[i]?.getD InsD.z).op with
 | none=>false
 | some r=>(sFits n np (insF (n.ins[i]?.getD InsD.z) 0) (r[0]?.getD 0)&&sFits n np (insF (n.ins[i]?.getD InsD.z) 1) (r[1]?.getD 0)&&sFits n np (insF (n.ins[i]?.getD InsD.z) 2) (r[2]?.getD 0)&&sFits n np (insF (n.ins[i]?.getD InsD.z) 3) (r[3]?.getD 0)) &&
  (!(decide (i+1=n.ins.length))||(n.ins[i]?.getD InsD.z).op==19||(n.ins[i]?.getD InsD.z).op==29||(n.ins[i]?.getD InsD.z).op==30)
theorem ins_fits {n:ProtoD}{np i:Nat}{r:List Nat}(hr:rolesC (n.ins[i]?.getD InsD.z).op=some r)(h:∀ k,k<4→sFits n np (insF (n.ins[i]?.getD InsD.z) k) (r[k]?.getD 0)=true) :
  sInsOk n np i=(!(decide (i+1=n.ins.length))||(n.ins[i]?.getD InsD.z).op==19||(n.ins[i]?.getD InsD.z).op==29||(n.ins[i]?.getD InsD.z).op==30):=by
 unfold sInsOk
 rw[hr]
 simp only
 rw[h 0 (by omega),h 1 (by omega),h 2 (by omega),h 3 (by omega)]
 simp
theorem ins_not {n:ProtoD}{np i:Nat}{r:List Nat}(hr:rolesC (n.ins[i]?.getD InsD.z).op=some r){k:Nat}(hk:k<4)(h:sFits n np (insF (n.ins[i]?.getD InsD.z) k) (r[k]?.getD 0)=false):sInsOk n np i=false:=by
 unfold sInsOk
 rw[hr]
 simp only
 have hc:k=0∨k=1∨k=2∨k=3:=by omega
 rcases hc with rfl | rfl | rfl | rfl<;>simp[h]
structure InsW (w:World)(a:Option Addr)(nl c:Nat)(op:Int)(br bf:Nat)(r:List Nat)(x:InsD)(wr:World):Prop where
 old:Below w.heap.size w wr
 code:wr.cell? ⟨w.heap.size,0,none⟩=some (.slice a nl c)
 op:wr.cell? ⟨w.heap.size+1,0,none⟩=some (.int .i64 op)
 rr:wr.rowIs br 3 4 (fun j=>.int .i64 ((r[j]?.getD 0:Nat):Int))
 rf:wr.rowIs bf 3 4 (fun j=>.int .i64 (insF x j))
theorem InsW.below {w:World}{a:Option Addr}{nl c:Nat}{op:Int}{br bf:Nat}{r:List Nat}{x:InsD}{wr w2:World}(h:InsW w a nl c op br bf r x wr)(hb:Below wr.heap.size wr w2):InsW w a nl c op br bf r x w2 where
 old:=h.old.trans (hb.mono h.old.size)
 code:=(hb.cell (p:=⟨w.heap.size,0,none⟩) (World.block_lt_of_cell? _ _ h.code)).trans h.code
 op:=(hb.cell (p:=⟨w.heap.size+1,0,none⟩) (World.block_lt_of_cell? _ _ h.op)).trans h.op
 rr:=h.rr.of_block (hb.block _ h.rr.lt)
 rf:=h.rf.of_block (hb.block _ h.rf.lt)
theorem l6insOk_any (a:Option Addr)(l:List ProtoD)(c p i:Nat)(S:Nat→Prop)(w:World)(hs:ProtosAt w S a l)(hB:∀ b,S b→b<w.heap.size)(hp:p<l.length)(hi:i<(prD l p).ins.length)(hrg:0≤(prD l p).regs∧(prD l p).regs≤250) :
  Calls Tryz.prog 100 #[.agg #[.slice a l.length c],.int .i64 p,.int .i64 i] w fun e w'=>e=.returned (.bool (sInsOk (prD l p) l.length i))∧Below w.heap.size w w':=by
 have hn:=hs.1
 have HS:=hide hs
 have HB:=hide hB
 have HRG:=hide hrg
 obtain⟨b,off,rfl,hb,hcc⟩:=hs.2 (by omega)
 have N:ProtoCells w S b (off+p * 9) (prD l p):=hcc p hp
 have hbl:=hB b hb
 obtain⟨a7,c7,h7,H7⟩:=N.ins
 have hil:=H7.1
 obtain⟨bi,offi,rfl,hbi,hci⟩:=H7.2 (by omega)
 have I:=hci i hi
 have hbil:=hB bi hbi
 clear hcc hci hs hB N H7 hrg
 obtain⟨x,hxe⟩:∃ x,x=(prD l p).ins[i]?.getD InsD.z:=⟨_,rfl⟩
 have HXE:=hide hxe
 rw[←hxe]at I
 clear hxe
 have i0:=I.op;have i1:=I.fa;have i2:=I.fb;have i3:=I.fc;have i4:=I.fd
 clear I
 obtain⟨ni,hni⟩:∃ ni,ni=(prD l p).ins.length:=⟨_,rfl⟩
 have HNI:=hide hni
 rw[←hni]at hi h7 hil
 clear hni
 have hinit:Below w.heap.size w ((w.alloc (.cells #[.slice (some ⟨b,off,none⟩) l.length c] 30)).alloc (.cells #[.int .i64 x.op,.int .i64 x.fa,.int .i64 x.fb,.int .i64 x.fc,.int .i64 x.fd] 78)):=((Below.refl _ _).alloc (Nat.le_refl _) _).alloc (by simp) _
 have HIN:=hide hinit
 clear hinit
 have RO:=hide (l6roles_any x.op ((w.alloc (.cells #[.slice (some ⟨b,off,none⟩) l.length c] 30)).alloc (.cells #[.int .i64 x.op,.int .i64 x.fa,.int .i64 x.fb,.int .i64 x.fc,.int .i64 x.fd] 78)))
 cases hr:rolesC x.op with
 | none=>
  have R:Hid (false=sInsOk (prD l p) l.length i):=by
   show _=_
   unfold sInsOk
   rw[←HXE.out,hr]
  rw[hr]at RO
  clear hr
  go_enter Tryz.func100,Tryz.ntmps100
  go_wp2_with fail
  refine(unhide RO).mono ?_
  rintro e w' ⟨rfl,rfl⟩
  go_wp2_with fail
  go_ret
  exact⟨ret_bool (unhide R),unhide HIN⟩
 | some r=>
  rw[hr]at RO
  have HR:Hid (rolesC ((prD l p).ins[i]?.getD InsD.z).op=some r):=by show _=_;rw[←HXE.out];exact hr
  have HLE:Hid (∀ k,r[k]?.getD 0≤21):=fun k=>rolesC_le hr k
  clear hr
  go_enter Tryz.func100,Tryz.ntmps100
  go_wp2_with fail
  refine(unhide RO).mono ?_
  rintro e w1 ⟨br,rfl,hbr,hrow1,hb1⟩
  have hbw1:Below w.heap.size w w1:=(unhide HIN).trans (hb1.mono (by simp;omega))
  have k0:w1.cell? ⟨w.heap.size,0,none⟩=some (.slice (some ⟨b,off,none⟩) l.length c):=by rw[hb1.cell (p:=⟨w.heap.size,0,none⟩) (by simp;omega)];simp[go_sem]
  have j0:w1.cell? ⟨w.heap.size+1,0,none⟩=some (.int .i64 x.op):=by rw[hb1.cell (p:=⟨w.heap.size+1,0,none⟩) (by simp)];simp[go_sem]
  have j1:w1.cell? ⟨w.heap.size+1,1,none⟩=some (.int .i64 x.fa):=by rw[hb1.cell (p:=⟨w.heap.size+1,1,none⟩) (by simp)];simp[go_sem]
  have j2:w1.cell? ⟨w.heap.size+1,2,none⟩=some (.int .i64 x.fb):=by rw[hb1.cell (p:=⟨w.heap.size+1,2,none⟩) (by simp)];simp[go_sem]
  have j3:w1.cell? ⟨w.heap.size+1,3,none⟩=some (.int .i64 x.fc):=by rw[hb1.cell (p:=⟨w.heap.size+1,3,none⟩) (by simp)];simp[go_sem]
  have j4:w1.cell? ⟨w.heap.size+1,4,none⟩=some (.int .i64 x.fd):=by rw[hb1.cell (p:=⟨w.heap.size+1,4,none⟩) (by simp)];simp[go_sem]
  have HW1:=hide hbw1
  have HR1:=hide hrow1
  clear hb1 hbw1 hrow1 hbr RO
  go_wp2_with fail
  refine(l6fields_any x.op x.fa x.fb x.fc x.fd w1).mono ?_
  rintro e w2 ⟨bf,rfl,hbf,hrow2,hb2⟩
  have W0:Hid (InsW w (some ⟨b,off,none⟩) l.length c x.op br bf r x w2):=
   {old:=(unhide HW1).trans (hb2.mono (unhide HW1).size)
    code:=(hb2.cell (p:=⟨w.heap.size,0,none⟩) (World.block_lt_of_cell? _ _ k0)).trans k0
    op:=(hb2.cell (p:=⟨w.heap.size+1,0,none⟩) (World.block_lt_of_cell? _ _ j0)).trans j0
    rr:=(unhide HR1).of_block (hb2.block _ (unhide HR1).lt)
    rf:=hrow2 }
  clear hb2 hbf hrow2 k0 j0 j1 j2 j3 j4 HW1 HR1
  go_wp2_with fail
  go_loopg [30] 4 (fun g v wr=>∃(k:Nat),k+g=4∧v=.int .i64 k∧InsW w (some ⟨b,off,none⟩) l.length c x.op br bf r x wr∧Hid (∀ q,q<k→sFits (prD l p) l.length (insF ((prD l p).ins[i]?.getD InsD.z) q) (r[q]?.getD 0)=true))
  case atStart=>exact⟨0,by omega,rfl,unhide W0,fun q h=>absurd h (Nat.not_lt_zero _)⟩
  case round=>
   clear W0
   obtain⟨k,hk,rfl,hW,hok⟩:=hrel
   by_cases hlt:k<4
   ·have cr:=hW.rr.cell (i:=k) hlt
    have cf:=hW.rf.cell (i:=k) hlt
    have cc:=hW.code
    have FI:Hid (∀ W:World,Below wr.heap.size wr W→Calls Tryz.prog 127 #[.agg #[.slice (some ⟨b,off,none⟩) l.length c],.int .i64 p,.int .i64 ((r[k]?.getD 0:Nat):Int),.int .i64 (insF x k)] W fun e w'=>e=.returned (.bool (sFits (prD l p) l.length (insF x k) (r[k]?.getD 0)))∧Below W.heap.size W w'):=fun W hb'=>
     have hWW:=hW.old.trans (hb'.mono hW.old.size)
     l6fits_any _ l c p _ _ S W ((unhide HS).keep hWW (unhide HB)) (fun b h=>Nat.lt_of_lt_of_le (unhide HB b h) hWW.size) hp (unhide HRG) (unhide HLE k)
    have OKN:Hid (sFits (prD l p) l.length (insF x k) (r[k]?.getD 0)=true→∀ q,q<k+1→sFits (prD l p) l.length (insF ((prD l p).ins[i]?.getD InsD.z) q) (r[q]?.getD 0)=true):=fun h q hq=>by
     by_cases e:q=k
     ·subst e;rw[←HXE.out];exact h
     ·exact hok.out q (by omega)
    have BAD:Hid (sFits (prD l p) l.length (insF x k) (r[k]?.getD 0)=false→false=sInsOk (prD l p) l.length i):=fun h=>(ins_not HR.out hlt (by rw[←HXE.out];exact h)).symm
    generalize sFits (prD l p) l.length (insF x k) (r[k]?.getD 0)=res at *
    generalize insF x k=xv at *
    generalize r[k]?.getD 0=rv at *
    have HW:=hide hW
    clear hW hok
    cases res
    ·go_wp2_with fail
     go_region_with (go_at_call 127;refine(unhide FI _ (by exact(Below.refl _ _).drew)).mono ?_;rintro e w' ⟨rfl,hb'⟩)
     all_goals (go_wp2_with fail)
     all_goals go_ret
     all_goals exact⟨ret_bool (unhide BAD (by first | rfl | trivial)),(unhide HW).old.drew.trans (hb'.mono (unhide HW).old.size)⟩
    ·go_wp2_with fail
     go_region_with (go_at_call 127;refine(unhide FI _ (by exact(Below.refl _ _).drew)).mono ?_;rintro e w' ⟨rfl,hb'⟩)
     all_goals (go_wp2_with fail)
     all_goals go_roundg (4-(k+1))
     all_goals first | (case rel=>exact⟨k+1,by omega,by go_num,(unhide HW).below ((Below.refl _ _).drew.trans hb'),unhide OKN (by first | rfl | trivial)⟩) | skip
     all_goals omega
   ·have hk4:k=4:=by omega
    have E:Hid (sInsOk (prD l p) l.length i=(!(decide (i+1=ni))||x.op==19||x.op==29||x.op==30)):=by
     have h:=ins_fits HR.out (np:=l.length) (fun q hq=>hok.out q (by omega))
     rw[←HXE.out,←HNI.out]at h
     exact h
    have cc:=hW.code
    have co:=hW.op
    have ci:=(hW.old.cell (p:=⟨b,off+p * 9+7,none⟩) hbl).trans h7
    have HO:=hide hW.old
    clear hW hok HR HLE HXE HNI HS HB HRG
    generalize x.op=xo at *
    by_cases hl:i+1=ni
    ·have hlb:((i:Int)==(ni:Int)-1)=true:=by simp;omega
     by_cases t1:xo=19
     ·have R:Hid (true=sInsOk (prD l p) l.length i):=by show _=_;rw[E.out];simp[t1]
      have t1b:(xo==19)=true:=by simpa using t1
      clear t1
      clear E
      go_wp2_with fail
      go_ret
      exact⟨ret_bool (unhide R),unhide HO⟩
     have t1b:(xo==19)=false:=by simpa using t1
     by_cases t2:xo=29
     ·have R:Hid (true=sInsOk (prD l p) l.length i):=by show _=_;rw[E.out];simp[t2]
      have t2b:(xo==29)=true:=by simpa using t2
      clear t1 t2
      clear E
      go_wp2_with fail
      go_ret
      exact⟨ret_bool (unhide R),unhide HO⟩
     have t2b:(xo==29)=false:=by simpa using t2
     by_cases t3:xo=30
     ·have R:Hid (true=sInsOk (prD l p) l.length i):=by show _=_;rw[E.out];simp[t3]
      have t3b:(xo==30)=true:=by simpa using t3
      clear t1 t2 t3
      clear E
      go_wp2_with fail
      go_ret
      exact⟨ret_bool (unhide R),unhide HO⟩
     ·have R:Hid (false=sInsOk (prD l p) l.length i):=by show _=_;rw[E.out];simp[hl,t1,t2,t3]
      have t3b:(xo==30)=false:=by simpa using t3
      clear t1 t2 t3
      clear E
      go_wp2_with fail
      go_ret
      exact⟨ret_bool (unhide R),unhide HO⟩
    ·have hlb:((i:Int)==(ni:Int)-1)=false:=by simp;omega
     have R:Hid (true=sInsOk (prD l p) l.length i):=by show _=_;rw[E.out];simp[hl]
     clear E
     go_wp2_with fail
     go_ret
     exact⟨ret_bool (unhide R),unhide HO⟩
end Go.Proofs.YthmjjhfjkgaocaaGreatDoor
