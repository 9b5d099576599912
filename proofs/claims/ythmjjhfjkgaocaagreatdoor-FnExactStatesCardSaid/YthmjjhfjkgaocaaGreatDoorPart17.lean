import Derived.Test.YthmjjhfjkgaocaaGreatDoorPart16
import Derived.Deep.LoopGhost
import Derived.Test.YthmjjhfjkgaocaaGreatDoorPart15
set_option linter.unusedSimpArgs false
set_option linter.unusedVariables false
set_option maxHeartbeats 4000000
set_option maxRecDepth 100000
namespace Go.Proofs.YthmjjhfjkgaocaaGreatDoor
open Go.RowKit
def sInsF (n:ProtoD)(np:Nat)(x:InsD):Bool:=
 match rolesC x.op with
 | none=>false
 | some r=>sFits n np x.fa (r[0]?.getD 0)&&sFits n np x.fb (r[1]?.getD 0)&&sFits n np x.fc (r[2]?.getD 0)&&sFits n np x.fd (r[3]?.getD 0)
theorem sInsOk_eq (n:ProtoD)(np i:Nat):sInsOk n np i=(sInsF n np (n.ins[i]?.getD InsD.z) && !(decide (i+1=n.ins.length)&&sGoesOn (n.ins[i]?.getD InsD.z).op)):=by
 unfold sInsOk sInsF sGoesOn
 generalize n.ins[i]?.getD InsD.z=x
 cases rolesC x.op with
 | none=>rfl
 | some r=>
  simp only
  show(_&&_)=(_&&_)
  congr 1
  cases decide (i+1=n.ins.length)<;>cases x.op==19<;>cases x.op==29<;>cases x.op==30<;>rfl
theorem agg_field (w:World):(isAgg 174).run Tryz.prog w=.ok true w:=by kernel_rfl
theorem size_field (w:World):(sizeOf 174).run Tryz.prog w=.ok 2 w:=by kernel_rfl
theorem run_index_field {cs F:Array Value}(i:Nat)(hi:i<4)(hcs:cs.extract (i * 2) (i * 2+2)=F)(w:World):(Instr.index 175 (.agg cs) (.int .i64 (i:Int))).run Tryz.prog w=.ok (.agg F) w:=by
 unfold Instr.index
 simp only[asIntOf,Sem.run_bind,Sem.run_pure,Result.andThen_ok,run_underlying Tryz.underlying175]
 rw[if_pos ⟨by omega,by omega⟩]
 simp only[Sem.run_bind,size_field,Result.andThen_ok,part,agg_field,if_true,Int.toNat_natCast,Sem.run_pure,hcs]
def Prot (W:World)(b:Nat)(nm:ByteArray)(ln pr:Int)(rs:Bool)(rg:Int)(s5 s6 s7 s8:Value):Prop:=
 W.cell? ⟨b,0,none⟩=some (.string nm)∧W.cell? ⟨b,1,none⟩=some (.int .i64 ln)∧W.cell? ⟨b,2,none⟩=some (.int .i64 pr)∧W.cell? ⟨b,3,none⟩=some (.bool rs)∧W.cell? ⟨b,4,none⟩=some (.int .i64 rg) ∧
 W.cell? ⟨b,5,none⟩=some s5∧W.cell? ⟨b,6,none⟩=some s6∧W.cell? ⟨b,7,none⟩=some s7∧W.cell? ⟨b,8,none⟩=some s8
theorem Prot.keep {W W':World}{b B:Nat}{nm:ByteArray}{ln pr:Int}{rs:Bool}{rg:Int}{s5 s6 s7 s8:Value}(h:Prot W b nm ln pr rs rg s5 s6 s7 s8)(hb:Below B W W')(hB:b<B):Prot W' b nm ln pr rs rg s5 s6 s7 s8:=by
 obtain⟨h0,h1,h2,h3,h4,h5,h6,h7,h8⟩:=h
 exact⟨(hb.cell (p:=⟨b,0,none⟩) hB).trans h0,(hb.cell (p:=⟨b,1,none⟩) hB).trans h1,(hb.cell (p:=⟨b,2,none⟩) hB).trans h2,(hb.cell (p:=⟨b,3,none⟩) hB).trans h3,(hb.cell (p:=⟨b,4,none⟩) hB).trans h4,(hb.cell (p:=⟨b,5,none⟩) hB).trans h5,(hb.cell (p:=⟨b,6,none⟩) hB).trans h6,(hb.cell (p:=⟨b,7,none⟩) hB).trans h7,(hb.cell (p:=⟨b,8,none⟩) hB).trans h8⟩
theorem insFits_any (op fa fb fc fd:Int)(np:Nat)(nm:ByteArray)(ln pr:Int)(rs:Bool)(rg:Int)(us:List (Bool×Int))(cs:List ValD)(is:List InsD)(ns:List NamD)(a5 a6 a7 a8:Option Addr)(c5 c6 c7 c8:Nat)(w:World)(hG:RTab w)(hu:us.length≤9223372036854775807)(hcl:cs.length≤9223372036854775807)(hil:is.length≤9223372036854775807)(hnp:np≤9223372036854775807)(hrg:0≤rg∧rg≤250) :
  Calls Tryz.prog 109 #[.agg #[.int .i64 op,.int .i64 fa,.int .i64 fb,.int .i64 fc,.int .i64 fd],.agg #[.string nm,.int .i64 ln,.int .i64 pr,.bool rs,.int .i64 rg,.slice a5 us.length c5,.slice a6 cs.length c6,.slice a7 is.length c7,.slice a8 ns.length c8],.int .i64 np] w fun e w'=>e=.returned (.bool (sInsF ⟨nm,ln,pr,rs,rg,us,cs,is,ns⟩ np ⟨op,fa,fb,fc,fd⟩))∧Below w.heap.size w w':=by
 have hbA:∀ o1 o2,Below w.heap.size w ((w.alloc o1).alloc o2):=fun o1 o2=>((Below.refl _ _).alloc (Nat.le_refl _) o1).alloc (by simp) o2
 by_cases hop:1≤op∧op≤42
 case neg=>
  have hs:sIn op 1 42=false:=by
   unfold sIn
   by_cases h1:1≤op
   ·rw[decide_eq_false (p:=op≤42) (fun h=>hop ⟨h1,h⟩)];simp
   ·rw[decide_eq_false h1];rfl
  have R:Hid (sInsF ⟨nm,ln,pr,rs,rg,us,cs,is,ns⟩ np ⟨op,fa,fb,fc,fd⟩=false):=by show(match rolesC op with | none=>false | some r=>_)=false;rw[rolesC_none hop]
  rw[R.out]
  have SI:=hide hs
  clear hs
  go_enter Tryz.func109,Tryz.ntmps109
  go_wp2_with fail
  refine(within_any _ _ _ _).mono ?_
  rintro e w' ⟨rfl,rfl⟩
  rw[SI.out]
  go_wp2_with fail
  go_ret
  exact⟨rfl,hbA _ _⟩
 obtain⟨opn,rfl⟩:∃ n:Nat,op=n:=⟨op.toNat,by omega⟩
 have hlt:opn<43:=by omega
 have SI:Hid (sIn (opn:Int) 1 42=true):=by show(decide _&&decide _)=true;rw[decide_eq_true hop.1,decide_eq_true hop.2];rfl
 have R:Hid (sInsF ⟨nm,ln,pr,rs,rg,us,cs,is,ns⟩ np ⟨opn,fa,fb,fc,fd⟩=(sFits ⟨nm,ln,pr,rs,rg,us,cs,is,ns⟩ np fa (mapR (iRole opn 0))&&sFits ⟨nm,ln,pr,rs,rg,us,cs,is,ns⟩ np fb (mapR (iRole opn 1))&&sFits ⟨nm,ln,pr,rs,rg,us,cs,is,ns⟩ np fc (mapR (iRole opn 2))&&sFits ⟨nm,ln,pr,rs,rg,us,cs,is,ns⟩ np fd (mapR (iRole opn 3)))):=by
  show(match rolesC (opn:Int)with | none=>false | some r=>_)=_
  rw[iRole_map opn hlt (by omega)]
  rfl
 have FO:Hid (∀ W,Below w.heap.size w W→Calls Tryz.prog 116 #[.agg #[.int .i64 (opn:Nat),.int .i64 fa,.int .i64 fb,.int .i64 fc,.int .i64 fd]] W fun e w'=>e=.returned (.agg #[.int .i64 (iRole opn 0:Nat),.int .i64 fa,.int .i64 (iRole opn 1:Nat),.int .i64 fb,.int .i64 (iRole opn 2:Nat),.int .i64 fc,.int .i64 (iRole opn 3:Nat),.int .i64 fd])∧Below W.heap.size W w'):=fun W hW=>fieldsOf_any opn fa fb fc fd W (hG.keep hW hG.pos) hlt
 have l0:=iRole_le opn hlt 0 (by omega);have l1:=iRole_le opn hlt 1 (by omega);have l2:=iRole_le opn hlt 2 (by omega);have l3:=iRole_le opn hlt 3 (by omega)
 have F0:=hide (fun W:World=>fits_any _ l0 fa np nm ln pr rs rg us cs is ns a5 a6 a7 a8 c5 c6 c7 c8 W hu hcl hil hnp hrg)
 have F1:=hide (fun W:World=>fits_any _ l1 fb np nm ln pr rs rg us cs is ns a5 a6 a7 a8 c5 c6 c7 c8 W hu hcl hil hnp hrg)
 have F2:=hide (fun W:World=>fits_any _ l2 fc np nm ln pr rs rg us cs is ns a5 a6 a7 a8 c5 c6 c7 c8 W hu hcl hil hnp hrg)
 have F3:=hide (fun W:World=>fits_any _ l3 fd np nm ln pr rs rg us cs is ns a5 a6 a7 a8 c5 c6 c7 c8 W hu hcl hil hnp hrg)
 clear l0 l1 l2 l3 hG hop hlt
 generalize iRole opn 0=R0 at *
 generalize iRole opn 1=R1 at *
 generalize iRole opn 2=R2 at *
 generalize iRole opn 3=R3 at *
 generalize sInsF ⟨nm,ln,pr,rs,rg,us,cs,is,ns⟩ np ⟨opn,fa,fb,fc,fd⟩=res at *
 generalize sFits ⟨nm,ln,pr,rs,rg,us,cs,is,ns⟩ np fa (mapR R0)=t0 at *
 generalize sFits ⟨nm,ln,pr,rs,rg,us,cs,is,ns⟩ np fb (mapR R1)=t1 at *
 generalize sFits ⟨nm,ln,pr,rs,rg,us,cs,is,ns⟩ np fc (mapR R2)=t2 at *
 generalize sFits ⟨nm,ln,pr,rs,rg,us,cs,is,ns⟩ np fd (mapR R3)=t3 at *
 obtain⟨T,hT0,hT1,hT2,hT3⟩:∃ T:Nat→Bool,T 0=t0∧T 1=t1∧T 2=t2∧T 3=t3:=⟨fun k=>[t0,t1,t2,t3][k]?.getD true,rfl,rfl,rfl,rfl⟩
 have FF:Hid (∀ k:Nat,k<4→∃(r:Nat) (x:Int),(∀ W,(Instr.index 175 (.agg #[.int .i64 (R0:Nat),.int .i64 fa,.int .i64 (R1:Nat),.int .i64 fb,.int .i64 (R2:Nat),.int .i64 fc,.int .i64 (R3:Nat),.int .i64 fd]) (.int .i64 (k:Int))).run Tryz.prog W=.ok (.agg #[.int .i64 (r:Nat),.int .i64 x]) W)∧∀ W:World,Calls Tryz.prog 131 #[.agg #[.int .i64 (r:Nat),.int .i64 x],.agg #[.string nm,.int .i64 ln,.int .i64 pr,.bool rs,.int .i64 rg,.slice a5 us.length c5,.slice a6 cs.length c6,.slice a7 is.length c7,.slice a8 ns.length c8],.int .i64 np] W fun e w'=>e=.returned (.bool (T k))∧Below W.heap.size W w'):=fun k hk=>by
  have hc:k=0∨k=1∨k=2∨k=3:=by omega
  rcases hc with rfl | rfl | rfl | rfl
  ·exact⟨R0,fa,fun W=>run_index_field 0 hk rfl W,fun W=>by rw[hT0];exact F0.out W⟩
  ·exact⟨R1,fb,fun W=>run_index_field 1 hk rfl W,fun W=>by rw[hT1];exact F1.out W⟩
  ·exact⟨R2,fc,fun W=>run_index_field 2 hk rfl W,fun W=>by rw[hT2];exact F2.out W⟩
  ·exact⟨R3,fd,fun W=>run_index_field 3 hk rfl W,fun W=>by rw[hT3];exact F3.out W⟩
 have RT:Hid ((∀ k:Nat,k<4→T k=true)→res=true):=fun h=>by rw[R.out,←hT0,←hT1,←hT2,←hT3,h 0 (by omega),h 1 (by omega),h 2 (by omega),h 3 (by omega)];rfl
 have RF:Hid (∀ k:Nat,k<4→T k=false→res=false):=fun k hk h=>by
  have hc:k=0∨k=1∨k=2∨k=3:=by omega
  rw[R.out,←hT0,←hT1,←hT2,←hT3]
  rcases hc with rfl | rfl | rfl | rfl<;>simp[h]
 have PR:Hid (∀ o1 W,Below (w.heap.size+2) ((w.alloc o1).alloc (.cells #[.string nm,.int .i64 ln,.int .i64 pr,.bool rs,.int .i64 rg,.slice a5 us.length c5,.slice a6 cs.length c6,.slice a7 is.length c7,.slice a8 ns.length c8] 53)) W→Prot W (w.heap.size+1) nm ln pr rs rg (.slice a5 us.length c5) (.slice a6 cs.length c6) (.slice a7 is.length c7) (.slice a8 ns.length c8)):=fun o1 W hW=>by
  have h0:Prot ((w.alloc o1).alloc (.cells #[.string nm,.int .i64 ln,.int .i64 pr,.bool rs,.int .i64 rg,.slice a5 us.length c5,.slice a6 cs.length c6,.slice a7 is.length c7,.slice a8 ns.length c8] 53)) (w.heap.size+1) nm ln pr rs rg (.slice a5 us.length c5) (.slice a6 cs.length c6) (.slice a7 is.length c7) (.slice a8 ns.length c8):=by
   refine⟨?_,?_,?_,?_,?_,?_,?_,?_,?_⟩<;>simp[go_sem]
  exact h0.keep hW (by omega)
 clear F0 F1 F2 F3 hT0 hT1 hT2 hT3 R hu hcl hil hnp hrg
 go_enter Tryz.func109,Tryz.ntmps109
 go_wp2_with fail
 refine(within_any _ _ _ _).mono ?_
 rintro e w' ⟨rfl,rfl⟩
 rw[SI.out]
 go_wp2_with fail
 refine(unhide FO _ (hbA _ _)).mono ?_
 rintro e w1 ⟨rfl,hb1⟩
 generalize hwb:(w.alloc (.cells #[.int .i64 (opn:Nat),.int .i64 fa,.int .i64 fb,.int .i64 fc,.int .i64 fd] 78)).alloc (.cells #[.string nm,.int .i64 ln,.int .i64 pr,.bool rs,.int .i64 rg,.slice a5 us.length c5,.slice a6 cs.length c6,.slice a7 is.length c7,.slice a8 ns.length c8] 53)=wb at *
 have HWB:=hide hwb
 have hbb:Below w.heap.size w wb:=hwb ▸ hbA _ _
 have hsz:wb.heap.size=w.heap.size+2:=by rw[←hwb];simp
 have PRO:Hid (∀ W,Below (w.heap.size+2) wb W→Prot W (w.heap.size+1) nm ln pr rs rg (.slice a5 us.length c5) (.slice a6 cs.length c6) (.slice a7 is.length c7) (.slice a8 ns.length c8)):=fun W hW=>by
  have h1:=unhide PR (.cells #[.int .i64 (opn:Nat),.int .i64 fa,.int .i64 fb,.int .i64 fc,.int .i64 fd] 78) W
  rw[unhide HWB]at h1
  exact h1 hW
 rw[hsz]at hb1
 have HBB:=hide hbb
 clear hwb HWB PR FO SI hbA hbb
 go_wp2_with fail
 go_loopg [15] 4 (fun g i wr=>∃(k:Nat),k+g=4∧i=.int .i64 k∧Below (w.heap.size+2) wb wr∧Hid (∀ j,j<k→T j=true))
 case atStart=>exact⟨0,by omega,rfl,hb1,fun j h=>absurd h (Nat.not_lt_zero _)⟩
 case round=>
  clear hb1
  obtain⟨k,hk,rfl,hb,hall⟩:=hrel
  by_cases hlt:k<4
  ·obtain⟨r,x,hix,hfit⟩:=unhide FF k hlt
   have FIT:=hide hfit
   obtain⟨p0,p1,p2,p3,p4,p5,p6,p7,p8⟩:=unhide PRO _ hb
   have hbs:=hb.size
   have hlt1:w.heap.size+1<wr.heap.size:=by omega
   have HBI:=hide hb
   clear hfit hb
   cases ht:T k
   ·rw[ht]at FIT
    have HR:Hid (res=false):=unhide RF k hlt ht
    clear ht
    go_wp2_with fail
    refine(unhide FIT _).mono ?_
    rintro e w2 ⟨rfl,hb2⟩
    go_wp2_with fail
    go_ret
    exact⟨ret_bool HR.out.symm,(unhide HBB).trans (((unhide HBI).alloc (by omega) _).trans (hb2.mono (by simp;omega)) |>.mono (by omega))⟩
   ·rw[ht]at FIT
    have HT:Hid (∀ j,j<k+1→T j=true):=fun j hj=>by
     by_cases e:j=k
     ·subst e;exact ht
     ·exact hall.out j (by omega)
    clear ht
    go_wp2_with fail
    refine(unhide FIT _).mono ?_
    rintro e w2 ⟨rfl,hb2⟩
    go_wp2_with fail
    go_roundg (4-(k+1))
    case measure=>omega
    case rel=>exact⟨k+1,by omega,by go_num,((unhide HBI).alloc (by omega) _).trans (hb2.mono (by simp;omega)),HT⟩
  ·have HR:Hid (res=true):=unhide RT (fun j hj=>hall.out j (by omega))
   go_wp2_with fail
   go_ret
   exact⟨ret_bool HR.out.symm,(unhide HBB).trans (hb.mono (by omega))⟩
attribute [local go_sem] run_store_float
theorem sum_le (l:List ProtoD)(hl:tProtos l≤1048576):∀ k,sumTo insLen l k≤1048576:=fun k=>by
 have h1:=sumTo_le insLen l k
 have h2:sumAll insLen l≤sumAll tProto l:=by
  clear h1 hl
  unfold sumAll
  induction l with
  | nil=>simp
  | cons x r ih=>
   simp only[List.map_cons,List.sum_cons]
   have:insLen x≤tProto x:=by unfold insLen tProto;omega
   omega
 unfold tProtos at hl;omega
def CountsSaid (l:List ProtoD)(c f n:Int):Prop:=(sizeBadC l∧c=1∧f=0∧n=0)∨(¬sizeBadC l∧c=0∧f=0∧n=0)
theorem checkCounts_any (a:Option Addr)(l:List ProtoD)(c:Nat)(S:Nat→Prop)(w:World)(hs:ProtosAt w S a l)(hB:∀ b,S b→b<w.heap.size)(hl:tProtos l≤1048576) :
  Calls Tryz.prog 71 #[.agg #[.slice a l.length c]] w fun e w'=>∃ x f n,e=.returned (.agg #[.int .i64 x,.int .i64 f,.int .i64 n])∧CountsSaid l x f n∧Below w.heap.size w w':=by
 have hn:=hs.1
 have hll:l.length≤1048576:=by unfold tProtos at hl;omega
 have HT:Hid (∀ k,sumTo insLen l k≤1048576):=sum_le l hl
 clear hl
 have HS:=hide hs
 have HB:=hide hB
 have X0:Hid (Box2 w a l.length c (box2 w a l.length c)):=Box2.start w a l.length c
 clear hs hB
 go_enter Tryz.func71,Tryz.ntmps71
 go_wp2_with fail
 go_loopg [3,9] l.length (fun g t i wr=>∃(k:Nat),k+g=l.length∧i=.int .i64 k∧t=.int .i64 (sumTo insLen l k:Nat)∧Box2 w a l.length c wr)
 case atStart=>exact⟨0,by omega,rfl,by rw[sumTo_zero];rfl,X0.out⟩
 case round=>
  clear X0
  obtain⟨k,hk,rfl,rfl,hx⟩:=hrel
  have u0:=hx.unit
  by_cases hlt:k<l.length
  ·obtain⟨b,off,rfl,hb,hcc⟩:=((unhide HS).keep hx.old (unhide HB)).2 (by omega)
   have N:ProtoCells wr S b (off+k * 9) (prD l k):=hcc k hlt
   have HSU:Hid (sumTo insLen l (k+1)=sumTo insLen l k+(prD l k).ins.length):=sumTo_succ insLen l k ProtoD.z hlt
   have t1:=unhide HT k;have t2:=unhide HT (k+1)
   have hadd:sumTo insLen l k+(prD l k).ins.length≤1048576:=by have:=HSU.out;omega
   clear hcc
   generalize prD l k=x at *
   obtain⟨a5,c5,h5,H5⟩:=N.ups
   obtain⟨a6,c6,h6,H6⟩:=N.consts
   obtain⟨a7,c7,h7,H7⟩:=N.ins
   obtain⟨a8,c8,h8,H8⟩:=N.named
   have c0:=N.name;have c1:=N.line;have c2:=N.params;have c3:=N.rest;have c4:=N.regs
   clear N H5 H6 H7 H8
   generalize sumTo insLen l k=T at *
   go_wp2_with fail
   go_roundg (l.length-(k+1))
   case measure=>omega
   case rel=>
    have h1:=unhide HSU
    exact⟨k+1,by omega,by go_num,by rw[h1];go_num,hx.alloc _⟩
  ·have HK:Hid (k=l.length):=by show _=_;omega
   have hkl:=HK.out
   subst hkl
   rw[sumTo_len]at *
   have hTT:=unhide HT l.length
   rw[sumTo_len]at hTT
   clear HK hk hlt HT
   by_cases b1:1≤l.length∧l.length≤200
   case neg=>
    have HBAD:Hid (sizeBadC l):=by
     by_cases h:l.length=0
     ·exact .inl h
     ·exact .inr (.inl (by omega))
    have SI:Hid (sIn (l.length:Int) 1 200=false):=by
     show(decide _&&decide _)=false
     simp only[Bool.and_eq_false_iff,decide_eq_false_iff_not];omega
    clear b1
    generalize sumAll insLen l=T at *
    go_wp2_with fail
    refine(within_any _ _ _ _).mono ?_
    rintro e w2 ⟨rfl,rfl⟩
    rw[SI.out]
    have hx2:=hx
    clear hx
    have r0:=hx2.res 0 (by omega);have r1:=hx2.res 1 (by omega);have r2:=hx2.res 2 (by omega)
    have z0:=hx2.frozen 0;have z1:=hx2.frozen 1;have z2:=hx2.frozen 2
    have BB:Hid (∀ v0 v1 v2,Below w.heap.size w (((w2.setCell ⟨w.heap.size+1,0,none⟩ v0).setCell ⟨w.heap.size+1,1,none⟩ v1).setCell ⟨w.heap.size+1,2,none⟩ v2)):=fun v0 v1 v2=>box2_set3 hx2 v0 v1 v2
    go_wp2_with fail
    exact bodyPost_ret (v:=.agg #[.int .i64 1,.int .i64 0,.int .i64 0]) (by simp[results,Tryz.results71,go_sem,r0,r1,r2]) rfl ⟨1,0,0,rfl,.inl ⟨unhide HBAD,rfl,rfl,rfl⟩,BB.out _ _ _⟩
   have SI:Hid (sIn (l.length:Int) 1 200=true):=by
    show(decide _&&decide _)=true
    rw[decide_eq_true (by omega),decide_eq_true (by omega)];rfl
   by_cases b3:6000<sumAll insLen l
   ·have HBAD:Hid (sizeBadC l):=.inr (.inr b3)
    have e3:decide ((6000:Int)<(sumAll insLen l:Nat))=true:=decide_eq_true (by omega)
    clear b3
    generalize sumAll insLen l=T at *
    go_wp2_with fail
    refine(within_any _ _ _ _).mono ?_
    rintro e w2 ⟨rfl,rfl⟩
    rw[SI.out]
    have hx2:=hx
    clear hx
    have r0:=hx2.res 0 (by omega);have r1:=hx2.res 1 (by omega);have r2:=hx2.res 2 (by omega)
    have z0:=hx2.frozen 0;have z1:=hx2.frozen 1;have z2:=hx2.frozen 2
    have BB:Hid (∀ v0 v1 v2,Below w.heap.size w (((w2.setCell ⟨w.heap.size+1,0,none⟩ v0).setCell ⟨w.heap.size+1,1,none⟩ v1).setCell ⟨w.heap.size+1,2,none⟩ v2)):=fun v0 v1 v2=>box2_set3 hx2 v0 v1 v2
    go_wp2_with fail
    exact bodyPost_ret (v:=.agg #[.int .i64 1,.int .i64 0,.int .i64 0]) (by simp[results,Tryz.results71,go_sem,r0,r1,r2]) rfl ⟨1,0,0,rfl,.inl ⟨unhide HBAD,rfl,rfl,rfl⟩,BB.out _ _ _⟩
   ·have HG:Hid (¬sizeBadC l):=by
     rintro(h | h | h)<;>omega
    have e3:decide ((6000:Int)<(sumAll insLen l:Nat))=false:=decide_eq_false (by omega)
    clear b3
    generalize sumAll insLen l=T at *
    go_wp2_with fail
    refine(within_any _ _ _ _).mono ?_
    rintro e w2 ⟨rfl,rfl⟩
    rw[SI.out]
    have hx2:=hx
    clear hx
    have r0:=hx2.res 0 (by omega);have r1:=hx2.res 1 (by omega);have r2:=hx2.res 2 (by omega)
    have z0:=hx2.frozen 0;have z1:=hx2.frozen 1;have z2:=hx2.frozen 2
    have BB:Hid (∀ v0 v1 v2,Below w.heap.size w (((w2.setCell ⟨w.heap.size+1,0,none⟩ v0).setCell ⟨w.heap.size+1,1,none⟩ v1).setCell ⟨w.heap.size+1,2,none⟩ v2)):=fun v0 v1 v2=>box2_set3 hx2 v0 v1 v2
    go_wp2_with fail
    exact bodyPost_ret (v:=.agg #[.int .i64 0,.int .i64 0,.int .i64 0]) (by simp[results,Tryz.results71,go_sem,r0,r1,r2]) rfl ⟨0,0,0,rfl,.inr ⟨unhide HG,rfl,rfl,rfl⟩,BB.out _ _ _⟩
def HeadSaid (l:List ProtoD)(c f n:Int):Prop:=
 (c=2∧n=0∧∃ F:Nat,f=F∧F<l.length∧sHeadC (prD l F) F=false∧∀ g,g<F→sHeadC (prD l g) g=true)∨(HeadsC l∧c=0∧f=0∧n=0)
theorem checkProtos_any (a:Option Addr)(l:List ProtoD)(c:Nat)(S:Nat→Prop)(w:World)(hs:ProtosAt w S a l)(hB:∀ b,S b→b<w.heap.size)(hl:tProtos l≤1048576) :
  Calls Tryz.prog 72 #[.agg #[.slice a l.length c]] w fun e w'=>∃ x f n,e=.returned (.agg #[.int .i64 x,.int .i64 f,.int .i64 n])∧HeadSaid l x f n∧Below w.heap.size w w':=by
 have hn:=hs.1
 have HS:=hide hs
 have HB:=hide hB
 have X0:Hid (Box2 w a l.length c (box2 w a l.length c)):=Box2.start w a l.length c
 clear hs hB hl
 go_enter Tryz.func72,Tryz.ntmps72
 go_wp2_with fail
 go_loopg [8] l.length (fun g i wr=>∃(k:Nat),k+g=l.length∧i=.int .i64 k∧Box2 w a l.length c wr∧Hid (∀ j,j<k→sHeadC (prD l j) j=true))
 case atStart=>exact⟨0,by omega,rfl,X0.out,fun j h=>absurd h (Nat.not_lt_zero _)⟩
 case round=>
  clear X0
  obtain⟨k,hk,rfl,hx,hok⟩:=hrel
  have u0:=hx.unit
  by_cases hlt:k<l.length
  ·obtain⟨b,off,rfl,hb,hcc⟩:=((unhide HS).keep hx.old (unhide HB)).2 (by omega)
   have N:ProtoCells wr S b (off+k * 9) (prD l k):=hcc k hlt
   have EQ:Hid (sHeadC (prD l k) k=(sFitsP (prD l k)&&(decide (0<k)||((prD l k).params==0&&(prD l k).ups.length==0)))):=rfl
   have FST:Hid (sHeadC (prD l k) k=false→HeadSaid l 2 k 0):=fun h=>.inl ⟨rfl,rfl,k,rfl,hlt,h,hok.out⟩
   have NXT:Hid (sHeadC (prD l k) k=true→∀ j,j<k+1→sHeadC (prD l j) j=true):=fun h j hj=>by
    by_cases e:j=k
    ·subst e;exact h
    ·exact hok.out j (by omega)
   clear hcc hok
   generalize sHeadC (prD l k) k=res at *
   generalize prD l k=x at *
   obtain⟨a5,c5,h5,H5⟩:=N.ups
   obtain⟨a6,c6,h6,H6⟩:=N.consts
   obtain⟨a7,c7,h7,H7⟩:=N.ins
   obtain⟨a8,c8,h8,H8⟩:=N.named
   have c0:=N.name;have c1:=N.line;have c2:=N.params;have c3:=N.rest;have c4:=N.regs
   have hns:=N.names;have hu:=H5.1;have hcl:=H6.1
   clear N H5 H6 H7 H8
   obtain⟨nm,ln,pr,rs,rg,us,cs,is,ns⟩:=x
   simp only at *
   have PF:=hide (fun W=>protoFits_any nm ln pr rs rg us cs is ns a5 a6 a7 a8 c5 c6 c7 c8 W hns hu hcl)
   generalize sFitsP ⟨nm,ln,pr,rs,rg,us,cs,is,ns⟩=ft at *
   have HX:=hide hx
   clear hx
   cases ft
   ·have RR:Hid (HeadSaid l 2 k 0):=unhide FST (by rw[EQ.out];rfl)
    clear FST NXT EQ
    go_wp2_with fail
    refine(unhide PF _).mono ?_
    rintro e w2 ⟨rfl,hb2⟩
    have hx2:=((unhide HX).alloc _).below' hb2
    clear hb2 HX
    have r0:=hx2.res 0 (by omega);have r1:=hx2.res 1 (by omega);have r2:=hx2.res 2 (by omega)
    have z0:=hx2.frozen 0;have z1:=hx2.frozen 1;have z2:=hx2.frozen 2
    have BB:Hid (∀ v0 v1 v2,Below w.heap.size w (((w2.setCell ⟨w.heap.size+1,0,none⟩ v0).setCell ⟨w.heap.size+1,1,none⟩ v1).setCell ⟨w.heap.size+1,2,none⟩ v2)):=fun v0 v1 v2=>box2_set3 hx2 v0 v1 v2
    go_wp2_with fail
    exact bodyPost_ret (v:=.agg #[.int .i64 2,.int .i64 k,.int .i64 0]) (by simp[results,Tryz.results72,go_sem,r0,r1,r2]) rfl ⟨2,k,0,rfl,unhide RR,BB.out _ _ _⟩
   by_cases hk0:0<k
   ·have RR:Hid (∀ j,j<k+1→sHeadC (prD l j) j=true):=unhide NXT (by rw[EQ.out];simp[hk0])
    have e0:((k:Int)==0)=false:=beq_eq_false_iff_ne.2 (by omega)
    clear FST NXT EQ
    go_wp2_with fail
    refine(unhide PF _).mono ?_
    rintro e w2 ⟨rfl,hb2⟩
    have hx2:=((unhide HX).alloc _).below' hb2
    clear hb2 HX
    go_wp2_with fail
    go_roundg (l.length-(k+1))
    case measure=>omega
    case rel=>exact⟨k+1,by omega,by go_num,hx2,RR⟩
   have e0:((k:Int)==0)=true:=by simp;omega
   by_cases hp0:pr=0
   case neg=>
    have RR:Hid (HeadSaid l 2 k 0):=unhide FST (by rw[EQ.out];simp[hp0,hk0])
    have e1:(pr != 0)=true:=by simpa using hp0
    clear FST NXT EQ hp0
    go_wp2_with fail
    refine(unhide PF _).mono ?_
    rintro e w2 ⟨rfl,hb2⟩
    have hxa:=(unhide HX).alloc (.cells #[.string nm,.int .i64 ln,.int .i64 pr,.bool rs,.int .i64 rg,.slice a5 us.length c5,.slice a6 cs.length c6,.slice a7 is.length c7,.slice a8 ns.length c8] 53)
    have PP:Prot w2 wr.heap.size nm ln pr rs rg (.slice a5 us.length c5) (.slice a6 cs.length c6) (.slice a7 is.length c7) (.slice a8 ns.length c8):=Prot.keep (by refine⟨?_,?_,?_,?_,?_,?_,?_,?_,?_⟩<;>simp[go_sem]) hb2 (by simp)
    obtain⟨p0,p1,p2,p3,p4,p5,p6,p7,p8⟩:=PP
    have hlt2:wr.heap.size<w2.heap.size:=by have:=hb2.size;simp at this;omega
    have hx2:=hxa.below' hb2
    clear hb2 HX hxa
    have r0:=hx2.res 0 (by omega);have r1:=hx2.res 1 (by omega);have r2:=hx2.res 2 (by omega)
    have z0:=hx2.frozen 0;have z1:=hx2.frozen 1;have z2:=hx2.frozen 2
    have BB:Hid (∀ v0 v1 v2,Below w.heap.size w (((w2.setCell ⟨w.heap.size+1,0,none⟩ v0).setCell ⟨w.heap.size+1,1,none⟩ v1).setCell ⟨w.heap.size+1,2,none⟩ v2)):=fun v0 v1 v2=>box2_set3 hx2 v0 v1 v2
    go_wp2_with fail
    exact bodyPost_ret (v:=.agg #[.int .i64 2,.int .i64 k,.int .i64 0]) (by simp[results,Tryz.results72,go_sem,r0,r1,r2]) rfl ⟨2,k,0,rfl,unhide RR,BB.out _ _ _⟩
   have e1:(pr != 0)=false:=by simpa using hp0
   by_cases hu0:us.length=0
   ·have RR:Hid (∀ j,j<k+1→sHeadC (prD l j) j=true):=unhide NXT (by rw[EQ.out];simp[hp0,hu0,hk0])
    have e2:((us.length:Int) != 0)=false:=by simp[hu0]
    clear FST NXT EQ hp0 hu0
    go_wp2_with fail
    refine(unhide PF _).mono ?_
    rintro e w2 ⟨rfl,hb2⟩
    have hxa:=(unhide HX).alloc (.cells #[.string nm,.int .i64 ln,.int .i64 pr,.bool rs,.int .i64 rg,.slice a5 us.length c5,.slice a6 cs.length c6,.slice a7 is.length c7,.slice a8 ns.length c8] 53)
    have PP:Prot w2 wr.heap.size nm ln pr rs rg (.slice a5 us.length c5) (.slice a6 cs.length c6) (.slice a7 is.length c7) (.slice a8 ns.length c8):=Prot.keep (by refine⟨?_,?_,?_,?_,?_,?_,?_,?_,?_⟩<;>simp[go_sem]) hb2 (by simp)
    obtain⟨p0,p1,p2,p3,p4,p5,p6,p7,p8⟩:=PP
    have hlt2:wr.heap.size<w2.heap.size:=by have:=hb2.size;simp at this;omega
    have hx2:=hxa.below' hb2
    clear hb2 HX hxa
    go_wp2_with fail
    go_roundg (l.length-(k+1))
    case measure=>omega
    case rel=>exact⟨k+1,by omega,by go_num,hx2,RR⟩
   ·have RR:Hid (HeadSaid l 2 k 0):=unhide FST (by rw[EQ.out,show(us.length==0)=false from beq_eq_false_iff_ne.2 hu0];simp[hp0,hk0])
    have e2:((us.length:Int) != 0)=true:=bne_iff_ne.2 (by omega)
    clear FST NXT EQ hp0 hu0
    go_wp2_with fail
    refine(unhide PF _).mono ?_
    rintro e w2 ⟨rfl,hb2⟩
    have hxa:=(unhide HX).alloc (.cells #[.string nm,.int .i64 ln,.int .i64 pr,.bool rs,.int .i64 rg,.slice a5 us.length c5,.slice a6 cs.length c6,.slice a7 is.length c7,.slice a8 ns.length c8] 53)
    have PP:Prot w2 wr.heap.size nm ln pr rs rg (.slice a5 us.length c5) (.slice a6 cs.length c6) (.slice a7 is.length c7) (.slice a8 ns.length c8):=Prot.keep (by refine⟨?_,?_,?_,?_,?_,?_,?_,?_,?_⟩<;>simp[go_sem]) hb2 (by simp)
    obtain⟨p0,p1,p2,p3,p4,p5,p6,p7,p8⟩:=PP
    have hlt2:wr.heap.size<w2.heap.size:=by have:=hb2.size;simp at this;omega
    have hx2:=hxa.below' hb2
    clear hb2 HX hxa
    have r0:=hx2.res 0 (by omega);have r1:=hx2.res 1 (by omega);have r2:=hx2.res 2 (by omega)
    have z0:=hx2.frozen 0;have z1:=hx2.frozen 1;have z2:=hx2.frozen 2
    have BB:Hid (∀ v0 v1 v2,Below w.heap.size w (((w2.setCell ⟨w.heap.size+1,0,none⟩ v0).setCell ⟨w.heap.size+1,1,none⟩ v1).setCell ⟨w.heap.size+1,2,none⟩ v2)):=fun v0 v1 v2=>box2_set3 hx2 v0 v1 v2
    go_wp2_with fail
    exact bodyPost_ret (v:=.agg #[.int .i64 2,.int .i64 k,.int .i64 0]) (by simp[results,Tryz.results72,go_sem,r0,r1,r2]) rfl ⟨2,k,0,rfl,unhide RR,BB.out _ _ _⟩
  ·have RR:Hid (HeadSaid l 0 0 0):=.inr ⟨fun g hg=>hok.out g (by omega),rfl,rfl,rfl⟩
   obtain⟨w2,rfl⟩:∃ w2,w2=wr:=⟨wr,rfl⟩
   have hx2:=hx
   clear hx hok
   have r0:=hx2.res 0 (by omega);have r1:=hx2.res 1 (by omega);have r2:=hx2.res 2 (by omega)
   have z0:=hx2.frozen 0;have z1:=hx2.frozen 1;have z2:=hx2.frozen 2
   have BB:Hid (∀ v0 v1 v2,Below w.heap.size w (((w2.setCell ⟨w.heap.size+1,0,none⟩ v0).setCell ⟨w.heap.size+1,1,none⟩ v1).setCell ⟨w.heap.size+1,2,none⟩ v2)):=fun v0 v1 v2=>box2_set3 hx2 v0 v1 v2
   go_wp2_with fail
   exact bodyPost_ret (v:=.agg #[.int .i64 0,.int .i64 0,.int .i64 0]) (by simp[results,Tryz.results72,go_sem,r0,r1,r2]) rfl ⟨0,0,0,rfl,unhide RR,BB.out _ _ _⟩
end Go.Proofs.YthmjjhfjkgaocaaGreatDoor
