import Derived.Test.YtgghbbpbdaghnaaDoorPart18
import Derived.Deep.LoopGhost
set_option linter.unusedSimpArgs false
set_option linter.unusedVariables false
set_option maxHeartbeats 4000000
set_option maxRecDepth 100000
namespace Go.Proofs.YtgghbbpbdaghnaaDoor
open Go.RowKit
def sInsF (n:ProtoD)(np:Nat)(x:InsD):Bool:=
 match rolesC x.op with
 | none=>false
 | some r=>sFits n np x.fa (r[0]?.getD 0)&&sFits n np x.fb (r[1]?.getD 0)&&sFits n np x.fc (r[2]?.getD 0)&&sFits n np x.fd (r[3]?.getD 0)
theorem sInsOk_eq (n:ProtoD)(np i:Nat):sInsOk n np i=(sInsF n np (n.ins[i]?.getD InsD.z) && !(decide (i+1=n.ins.length)&&sGoesOn (n.ins[i]?.getD InsD.z).op)):=by
 unfold sInsOk sInsF sGoesOn;generalize n.ins[i]?.getD InsD.z=x;cases rolesC x.op with
 | none=>rfl
 | some r=>
  simp only;show(_&&_)=(_&&_)
  congr 1
  cases decide (i+1=n.ins.length)<;>cases x.op==19<;>cases x.op==29<;>cases x.op==30<;>rfl
theorem agg_field (w:World):(isAgg 91).run Tryd.prog w=.ok true w:=by kernel_rfl
theorem size_field (w:World):(sizeOf 91).run Tryd.prog w=.ok 2 w:=by kernel_rfl
theorem run_index_field {cs F:Array Value}(i:Nat)(hi:i<4)(hcs:cs.extract (i * 2) (i * 2+2)=F)(w:World):(Instr.index 92 (.agg cs) (.int .i64 (i:Int))).run Tryd.prog w=.ok (.agg F) w:=by
 unfold Instr.index;simp only[asIntOf,Sem.run_bind,Sem.run_pure,Result.andThen_ok,run_underlying Tryd.underlying92];rw[if_pos ⟨by omega,by omega⟩];simp only[Sem.run_bind,size_field,Result.andThen_ok,part,agg_field,if_true,Int.toNat_natCast,Sem.run_pure,hcs]
def Prot (W:World)(b:Nat)(nm:ByteArray)(ln pr:Int)(rs:Bool)(rg:Int)(s5 s6 s7 s8:Value):Prop:=
 W.cell? ⟨b,0,none⟩=some (.string nm)/\W.cell? ⟨b,1,none⟩=some (.int .i64 ln)/\W.cell? ⟨b,2,none⟩=some (.int .i64 pr)/\W.cell? ⟨b,3,none⟩=some (.bool rs)/\W.cell? ⟨b,4,none⟩=some (.int .i64 rg) /\
 W.cell? ⟨b,5,none⟩=some s5/\W.cell? ⟨b,6,none⟩=some s6/\W.cell? ⟨b,7,none⟩=some s7/\W.cell? ⟨b,8,none⟩=some s8
theorem Prot.keep {W W':World}{b B:Nat}{nm:ByteArray}{ln pr:Int}{rs:Bool}{rg:Int}{s5 s6 s7 s8:Value}(h:Prot W b nm ln pr rs rg s5 s6 s7 s8)(hb:Below B W W')(hB:b<B):Prot W' b nm ln pr rs rg s5 s6 s7 s8:=by
 obtain⟨h0,h1,h2,h3,h4,h5,h6,h7,h8⟩:=h;exact⟨(hb.cell (p:=⟨b,0,none⟩) hB).trans h0,(hb.cell (p:=⟨b,1,none⟩) hB).trans h1,(hb.cell (p:=⟨b,2,none⟩) hB).trans h2,(hb.cell (p:=⟨b,3,none⟩) hB).trans h3,(hb.cell (p:=⟨b,4,none⟩) hB).trans h4,(hb.cell (p:=⟨b,5,none⟩) hB).trans h5,(hb.cell (p:=⟨b,6,none⟩) hB).trans h6,(hb.cell (p:=⟨b,7,none⟩) hB).trans h7,(hb.cell (p:=⟨b,8,none⟩) hB).trans h8⟩
theorem insFits_any (op fa fb fc fd:Int)(np:Nat)(nm:ByteArray)(ln pr:Int)(rs:Bool)(rg:Int)(us:List (Bool×Int))(cs:List ValD)(is:List InsD)(ns:List NamD)(a5 a6 a7 a8:Option Addr)(c5 c6 c7 c8:Nat)(w:World)(hG:RTab w)(hu:us.length<=9223372036854775807)(hcl:cs.length<=9223372036854775807)(hil:is.length<=9223372036854775807)(hnp:np<=9223372036854775807)(hrg:0<=rg/\rg<=250) :
  Calls Tryd.prog 34 #[.agg #[.int .i64 op,.int .i64 fa,.int .i64 fb,.int .i64 fc,.int .i64 fd],.agg #[.string nm,.int .i64 ln,.int .i64 pr,.bool rs,.int .i64 rg,.slice a5 us.length c5,.slice a6 cs.length c6,.slice a7 is.length c7,.slice a8 ns.length c8],.int .i64 np] w fun e w'=>e=.returned (.bool (sInsF ⟨nm,ln,pr,rs,rg,us,cs,is,ns⟩ np ⟨op,fa,fb,fc,fd⟩))/\Below w.heap.size w w':=by
 have hbA:∀ o1 o2,Below w.heap.size w ((w.alloc o1).alloc o2):=fun o1 o2=>((Below.refl _ _).alloc (Nat.le_refl _) o1).alloc (by simp) o2;by_cases hop:1<=op/\op<=42
 case neg=>
  have hs:sIn op 1 42=false:=by
   unfold sIn;by_cases h1:1<=op
   ·rw[decide_eq_false (p:=op<=42) (fun h=>hop ⟨h1,h⟩)];simp
   ·rw[decide_eq_false h1];rfl
  have R:Hid (sInsF ⟨nm,ln,pr,rs,rg,us,cs,is,ns⟩ np ⟨op,fa,fb,fc,fd⟩=false):=by show(match rolesC op with | none=>false | some r=>_)=false;rw[rolesC_none hop]
  rw[R.out];have SI:=hide hs;clear hs;go_enter Tryd.func34,Tryd.ntmps34;go_wp2_with fail
  refine(within_any _ _ _ _).mono ?_;rintro e w' ⟨rfl,rfl⟩;rw[SI.out];go_wp2_with fail
  go_ret;exact⟨rfl,hbA _ _⟩
 obtain⟨opn,rfl⟩:∃ n:Nat,op=n:=⟨op.toNat,by omega⟩;have hlt:opn<43:=by omega
 have SI:Hid (sIn (opn:Int) 1 42=true):=by show(decide _&&decide _)=true;rw[decide_eq_true hop.1,decide_eq_true hop.2];rfl
 have R:Hid (sInsF ⟨nm,ln,pr,rs,rg,us,cs,is,ns⟩ np ⟨opn,fa,fb,fc,fd⟩=(sFits ⟨nm,ln,pr,rs,rg,us,cs,is,ns⟩ np fa (mapR (iRole opn 0))&&sFits ⟨nm,ln,pr,rs,rg,us,cs,is,ns⟩ np fb (mapR (iRole opn 1))&&sFits ⟨nm,ln,pr,rs,rg,us,cs,is,ns⟩ np fc (mapR (iRole opn 2))&&sFits ⟨nm,ln,pr,rs,rg,us,cs,is,ns⟩ np fd (mapR (iRole opn 3)))):=by
  show(match rolesC (opn:Int)with | none=>false | some r=>_)=_;rw[iRole_map opn hlt (by omega)];rfl
 have FO:Hid (∀ W,Below w.heap.size w W->Calls Tryd.prog 53 #[.agg #[.int .i64 (opn:Nat),.int .i64 fa,.int .i64 fb,.int .i64 fc,.int .i64 fd]] W fun e w'=>e=.returned (.agg #[.int .i64 (iRole opn 0:Nat),.int .i64 fa,.int .i64 (iRole opn 1:Nat),.int .i64 fb,.int .i64 (iRole opn 2:Nat),.int .i64 fc,.int .i64 (iRole opn 3:Nat),.int .i64 fd])/\Below W.heap.size W w'):=fun W hW=>fieldsOf_any opn fa fb fc fd W (hG.keep hW hG.pos) hlt;have l0:=iRole_le opn hlt 0 (by omega);have l1:=iRole_le opn hlt 1 (by omega);have l2:=iRole_le opn hlt 2 (by omega);have l3:=iRole_le opn hlt 3 (by omega);have F0:=hide (fun W:World=>fits_any _ l0 fa np nm ln pr rs rg us cs is ns a5 a6 a7 a8 c5 c6 c7 c8 W hu hcl hil hnp hrg);have F1:=hide (fun W:World=>fits_any _ l1 fb np nm ln pr rs rg us cs is ns a5 a6 a7 a8 c5 c6 c7 c8 W hu hcl hil hnp hrg);have F2:=hide (fun W:World=>fits_any _ l2 fc np nm ln pr rs rg us cs is ns a5 a6 a7 a8 c5 c6 c7 c8 W hu hcl hil hnp hrg);have F3:=hide (fun W:World=>fits_any _ l3 fd np nm ln pr rs rg us cs is ns a5 a6 a7 a8 c5 c6 c7 c8 W hu hcl hil hnp hrg);clear l0 l1 l2 l3 hG hop hlt;generalize iRole opn 0=R0 at *;generalize iRole opn 1=R1 at *;generalize iRole opn 2=R2 at *;generalize iRole opn 3=R3 at *;generalize sInsF ⟨nm,ln,pr,rs,rg,us,cs,is,ns⟩ np ⟨opn,fa,fb,fc,fd⟩=res at *;generalize sFits ⟨nm,ln,pr,rs,rg,us,cs,is,ns⟩ np fa (mapR R0)=t0 at *;generalize sFits ⟨nm,ln,pr,rs,rg,us,cs,is,ns⟩ np fb (mapR R1)=t1 at *;generalize sFits ⟨nm,ln,pr,rs,rg,us,cs,is,ns⟩ np fc (mapR R2)=t2 at *;generalize sFits ⟨nm,ln,pr,rs,rg,us,cs,is,ns⟩ np fd (mapR R3)=t3 at *;obtain⟨T,hT0,hT1,hT2,hT3⟩:∃ T:Nat->Bool,T 0=t0/\T 1=t1/\T 2=t2/\T 3=t3:=⟨fun k=>[t0,t1,t2,t3][k]?.getD true,rfl,rfl,rfl,rfl⟩;have FF:Hid (∀ k:Nat,k<4->∃(r:Nat) (x:Int),(∀ W,(Instr.index 92 (.agg #[.int .i64 (R0:Nat),.int .i64 fa,.int .i64 (R1:Nat),.int .i64 fb,.int .i64 (R2:Nat),.int .i64 fc,.int .i64 (R3:Nat),.int .i64 fd]) (.int .i64 (k:Int))).run Tryd.prog W=.ok (.agg #[.int .i64 (r:Nat),.int .i64 x]) W)/\∀ W:World,Calls Tryd.prog 54 #[.agg #[.int .i64 (r:Nat),.int .i64 x],.agg #[.string nm,.int .i64 ln,.int .i64 pr,.bool rs,.int .i64 rg,.slice a5 us.length c5,.slice a6 cs.length c6,.slice a7 is.length c7,.slice a8 ns.length c8],.int .i64 np] W fun e w'=>e=.returned (.bool (T k))/\Below W.heap.size W w'):=fun k hk=>by
  have hc:k=0\/k=1\/k=2\/k=3:=by omega
  rcases hc with rfl | rfl | rfl | rfl
  ·exact⟨R0,fa,fun W=>run_index_field 0 hk rfl W,fun W=>by rw[hT0];exact F0.out W⟩
  ·exact⟨R1,fb,fun W=>run_index_field 1 hk rfl W,fun W=>by rw[hT1];exact F1.out W⟩
  ·exact⟨R2,fc,fun W=>run_index_field 2 hk rfl W,fun W=>by rw[hT2];exact F2.out W⟩
  ·exact⟨R3,fd,fun W=>run_index_field 3 hk rfl W,fun W=>by rw[hT3];exact F3.out W⟩
 have RT:Hid ((∀ k:Nat,k<4->T k=true)->res=true):=fun h=>by rw[R.out,<-hT0,<-hT1,<-hT2,<-hT3,h 0 (by omega),h 1 (by omega),h 2 (by omega),h 3 (by omega)];rfl
 have RF:Hid (∀ k:Nat,k<4->T k=false->res=false):=fun k hk h=>by
  have hc:k=0\/k=1\/k=2\/k=3:=by omega
  rw[R.out,<-hT0,<-hT1,<-hT2,<-hT3];rcases hc with rfl | rfl | rfl | rfl<;>simp[h]
 have PR:Hid (∀ o1 W,Below (w.heap.size+2) ((w.alloc o1).alloc (.cells #[.string nm,.int .i64 ln,.int .i64 pr,.bool rs,.int .i64 rg,.slice a5 us.length c5,.slice a6 cs.length c6,.slice a7 is.length c7,.slice a8 ns.length c8] 43)) W->Prot W (w.heap.size+1) nm ln pr rs rg (.slice a5 us.length c5) (.slice a6 cs.length c6) (.slice a7 is.length c7) (.slice a8 ns.length c8)):=fun o1 W hW=>by
  have h0:Prot ((w.alloc o1).alloc (.cells #[.string nm,.int .i64 ln,.int .i64 pr,.bool rs,.int .i64 rg,.slice a5 us.length c5,.slice a6 cs.length c6,.slice a7 is.length c7,.slice a8 ns.length c8] 43)) (w.heap.size+1) nm ln pr rs rg (.slice a5 us.length c5) (.slice a6 cs.length c6) (.slice a7 is.length c7) (.slice a8 ns.length c8):=by
   refine⟨?_,?_,?_,?_,?_,?_,?_,?_,?_⟩<;>simp[go_sem]
  exact h0.keep hW (by omega)
 clear F0 F1 F2 F3 hT0 hT1 hT2 hT3 R hu hcl hil hnp hrg;go_enter Tryd.func34,Tryd.ntmps34;go_wp2_with fail
 refine(within_any _ _ _ _).mono ?_;rintro e w' ⟨rfl,rfl⟩;rw[SI.out];go_wp2_with fail
 refine(unhide FO _ (hbA _ _)).mono ?_;rintro e w1 ⟨rfl,hb1⟩;generalize hwb:(w.alloc (.cells #[.int .i64 (opn:Nat),.int .i64 fa,.int .i64 fb,.int .i64 fc,.int .i64 fd] 45)).alloc (.cells #[.string nm,.int .i64 ln,.int .i64 pr,.bool rs,.int .i64 rg,.slice a5 us.length c5,.slice a6 cs.length c6,.slice a7 is.length c7,.slice a8 ns.length c8] 43)=wb at *;have HWB:=hide hwb;have hbb:Below w.heap.size w wb:=hwb ▸ hbA _ _;have hsz:wb.heap.size=w.heap.size+2:=by rw[<-hwb];simp
 have PRO:Hid (∀ W,Below (w.heap.size+2) wb W->Prot W (w.heap.size+1) nm ln pr rs rg (.slice a5 us.length c5) (.slice a6 cs.length c6) (.slice a7 is.length c7) (.slice a8 ns.length c8)):=fun W hW=>by
  have h1:=unhide PR (.cells #[.int .i64 (opn:Nat),.int .i64 fa,.int .i64 fb,.int .i64 fc,.int .i64 fd] 45) W;rw[unhide HWB]at h1;exact h1 hW
 rw[hsz]at hb1;have HBB:=hide hbb;clear hwb HWB PR FO SI hbA hbb;go_wp2_with fail
 go_loopg [15] 4 (fun g i wr=>∃(k:Nat),k+g=4/\i=.int .i64 k/\Below (w.heap.size+2) wb wr/\Hid (∀ j,j<k->T j=true))
 case atStart=>exact⟨0,by omega,rfl,hb1,fun j h=>absurd h (Nat.not_lt_zero _)⟩
 case round=>
  clear hb1;obtain⟨k,hk,rfl,hb,hall⟩:=hrel;by_cases hlt:k<4
  ·obtain⟨r,x,hix,hfit⟩:=unhide FF k hlt;have FIT:=hide hfit;obtain⟨p0,p1,p2,p3,p4,p5,p6,p7,p8⟩:=unhide PRO _ hb;have hbs:=hb.size;have hlt1:w.heap.size+1<wr.heap.size:=by omega
   have HBI:=hide hb;clear hfit hb;cases ht:T k
   ·rw[ht]at FIT;have HR:Hid (res=false):=unhide RF k hlt ht;clear ht;go_wp2_with fail
    refine(unhide FIT _).mono ?_;rintro e w2 ⟨rfl,hb2⟩;go_wp2_with fail
    go_ret;exact⟨ret_bool HR.out.symm,(unhide HBB).trans (((unhide HBI).alloc (by omega) _).trans (hb2.mono (by simp;omega)) |>.mono (by omega))⟩
   ·rw[ht]at FIT;have HT:Hid (∀ j,j<k+1->T j=true):=fun j hj=>by
     by_cases e:j=k
     ·subst e;exact ht
     ·exact hall.out j (by omega)
    clear ht;go_wp2_with fail
    refine(unhide FIT _).mono ?_;rintro e w2 ⟨rfl,hb2⟩;go_wp2_with fail
    go_roundg (4-(k+1))
    case measure=>omega
    case rel=>exact⟨k+1,by omega,by go_num,((unhide HBI).alloc (by omega) _).trans (hb2.mono (by simp;omega)),HT⟩
  ·have HR:Hid (res=true):=unhide RT (fun j hj=>hall.out j (by omega));go_wp2_with fail
   go_ret;exact⟨ret_bool HR.out.symm,(unhide HBB).trans (hb.mono (by omega))⟩
end Go.Proofs.YtgghbbpbdaghnaaDoor
