import Derived.Test.YtcjfjflljdojlaaGreatDoorPart16
import Derived.Deep.LoopGhost
import Derived.Test.YtcjfjflljdojlaaGreatDoorPart15
set_option linter.unusedSimpArgs false
set_option linter.unusedVariables false
set_option maxHeartbeats 4000000
set_option maxRecDepth 100000
namespace Go.Proofs.YtcjfjflljdojlaaGreatDoor
open Go.RowKit
def si (n:ak)(np:Nat)(x:aA):Bool:=
 match bj x.op with
 | none=>false
 | some r=>dh n np x.fa (r[0]?.getD 0)&&dh n np x.fb (r[1]?.getD 0)&&dh n np x.fc (r[2]?.getD 0)&&dh n np x.fd (r[3]?.getD 0)
theorem Gj (n:ak)(np i:Nat):dr n np i=(si n np (n.ins[i]?.getD aA.z) && !(decide (i+1=n.ins.length)&&eF (n.ins[i]?.getD aA.z).op)):=by
 unfold dr si eF;generalize n.ins[i]?.getD aA.z=x;cases bj x.op with
 | none=>rfl
 | some r=>
  simp only;show(_&&_)=(_&&_)
  congr 1
  cases decide (i+1=n.ins.length)<;>cases x.op==19<;>cases x.op==29<;>cases x.op==30<;>rfl
theorem Gn (w:World):(isAgg 184).run Tryz.prog w=.ok true w:=by kernel_rfl
theorem Dm (w:World):(sizeOf 184).run Tryz.prog w=.ok 2 w:=by kernel_rfl
theorem cK {cs F:Array Value}(i:Nat)(hi:i<4)(Ip:cs.extract (i * 2) (i * 2+2)=F)(w:World):(Instr.index 185 (.agg cs) (.int .i64 (i:Int))).run Tryz.prog w=.ok (.agg F) w:=by
 unfold Instr.index;simp only[asIntOf,Sem.run_bind,Sem.run_pure,Result.andThen_ok,run_underlying Tryz.underlying185];rw[if_pos ⟨by omega,by omega⟩];simp only[Sem.run_bind,Dm,Result.andThen_ok,part,Gn,Fq,Int.toNat_natCast,Sem.run_pure,Ip]
def gN (W:World)(b:Nat)(nm:ByteArray)(ln pr:Int)(rs:Bool)(rg:Int)(s5 s6 s7 s8:Value):Prop:=
 W.cell? ⟨b,0,none⟩=some (.string nm)/\W.cell? ⟨b,1,none⟩=some (.int .i64 ln)/\W.cell? ⟨b,2,none⟩=some (.int .i64 pr)/\W.cell? ⟨b,3,none⟩=some (.bool rs)/\W.cell? ⟨b,4,none⟩=some (.int .i64 rg) /\
 W.cell? ⟨b,5,none⟩=some s5/\W.cell? ⟨b,6,none⟩=some s6/\W.cell? ⟨b,7,none⟩=some s7/\W.cell? ⟨b,8,none⟩=some s8
theorem gN.keep {W W':World}{b B:Nat}{nm:ByteArray}{ln pr:Int}{rs:Bool}{rg:Int}{s5 s6 s7 s8:Value}(h:gN W b nm ln pr rs rg s5 s6 s7 s8)(hb:Below B W W')(hB:b<B):gN W' b nm ln pr rs rg s5 s6 s7 s8:=by
 obtain⟨h0,h1,h2,h3,h4,h5,h6,h7,h8⟩:=h;exact⟨(hb.cell (p:=⟨b,0,none⟩) hB).trans h0,(hb.cell (p:=⟨b,1,none⟩) hB).trans h1,(hb.cell (p:=⟨b,2,none⟩) hB).trans h2,(hb.cell (p:=⟨b,3,none⟩) hB).trans h3,(hb.cell (p:=⟨b,4,none⟩) hB).trans h4,(hb.cell (p:=⟨b,5,none⟩) hB).trans h5,(hb.cell (p:=⟨b,6,none⟩) hB).trans h6,(hb.cell (p:=⟨b,7,none⟩) hB).trans h7,(hb.cell (p:=⟨b,8,none⟩) hB).trans h8⟩
theorem Ar (op fa fb fc fd:Int)(np:Nat)(nm:ByteArray)(ln pr:Int)(rs:Bool)(rg:Int)(us:List (Bool×Int))(cs:List cS)(is:List aA)(ns:List bE)(a5 a6 a7 a8:Option Addr)(c5 c6 c7 c8:Nat)(w:World)(hG:gh w)(hu:us.length<=9223372036854775807)(qJ:cs.length<=9223372036854775807)(jn:is.length<=9223372036854775807)(hnp:np<=9223372036854775807)(ko:0<=rg/\rg<=250) :
  Calls Tryz.prog 115 #[.agg #[.int .i64 op,.int .i64 fa,.int .i64 fb,.int .i64 fc,.int .i64 fd],.agg #[.string nm,.int .i64 ln,.int .i64 pr,.bool rs,.int .i64 rg,.slice a5 us.length c5,.slice a6 cs.length c6,.slice a7 is.length c7,.slice a8 ns.length c8],.int .i64 np] w fun e w'=>e=.returned (.bool (si ⟨nm,ln,pr,rs,rg,us,cs,is,ns⟩ np ⟨op,fa,fb,fc,fd⟩))/\Below w.heap.size w w':=by
 have dF:∀ o1 o2,Below w.heap.size w ((w.alloc o1).alloc o2):=fun o1 o2=>((Below.refl _ _).alloc (Nat.le_refl _) o1).alloc (by simp) o2;by_cases fo:1<=op/\op<=42
 case neg=>
  have hs:dw op 1 42=false:=by
   unfold dw;by_cases h1:1<=op
   ·rw[decide_eq_false (p:=op<=42) (fun h=>fo ⟨h1,h⟩)];simp
   ·rw[decide_eq_false h1];rfl
  have R:Hid (si ⟨nm,ln,pr,rs,rg,us,cs,is,ns⟩ np ⟨op,fa,fb,fc,fd⟩=false):=by show(match bj op with | none=>false | some r=>_)=false;rw[ny fo]
  rw[R.out];have SI:=af hs;clear hs;go_enter Tryz.func115,Tryz.ntmps115;go_wp2_with fail
  refine(az _ _ _ _).mono ?_;rintro e w' ⟨rfl,rfl⟩;rw[SI.out];go_wp2_with fail
  go_ret;exact⟨rfl,dF _ _⟩
 obtain⟨opn,rfl⟩:∃ n:Nat,op=n:=⟨op.toNat,by omega⟩;have ax:opn<43:=by omega
 have SI:Hid (dw (opn:Int) 1 42=true):=by show(decide _&&decide _)=true;rw[decide_eq_true fo.1,decide_eq_true fo.2];rfl
 have R:Hid (si ⟨nm,ln,pr,rs,rg,us,cs,is,ns⟩ np ⟨opn,fa,fb,fc,fd⟩=(dh ⟨nm,ln,pr,rs,rg,us,cs,is,ns⟩ np fa (iD (aC opn 0))&&dh ⟨nm,ln,pr,rs,rg,us,cs,is,ns⟩ np fb (iD (aC opn 1))&&dh ⟨nm,ln,pr,rs,rg,us,cs,is,ns⟩ np fc (iD (aC opn 2))&&dh ⟨nm,ln,pr,rs,rg,us,cs,is,ns⟩ np fd (iD (aC opn 3)))):=by
  show(match bj (opn:Int)with | none=>false | some r=>_)=_;rw[kQ opn ax (by omega)];rfl
 have FO:Hid (∀ W,Below w.heap.size w W->Calls Tryz.prog 128 #[.agg #[.int .i64 (opn:Nat),.int .i64 fa,.int .i64 fb,.int .i64 fc,.int .i64 fd]] W fun e w'=>e=.returned (.agg #[.int .i64 (aC opn 0:Nat),.int .i64 fa,.int .i64 (aC opn 1:Nat),.int .i64 fb,.int .i64 (aC opn 2:Nat),.int .i64 fc,.int .i64 (aC opn 3:Nat),.int .i64 fd])/\Below W.heap.size W w'):=fun W hW=>lE opn fa fb fc fd W (hG.keep hW hG.pos) ax;have l0:=fE opn ax 0 (by omega);have l1:=fE opn ax 1 (by omega);have l2:=fE opn ax 2 (by omega);have l3:=fE opn ax 3 (by omega);have F0:=af (fun W:World=>pA _ l0 fa np nm ln pr rs rg us cs is ns a5 a6 a7 a8 c5 c6 c7 c8 W hu qJ jn hnp ko);have F1:=af (fun W:World=>pA _ l1 fb np nm ln pr rs rg us cs is ns a5 a6 a7 a8 c5 c6 c7 c8 W hu qJ jn hnp ko);have F2:=af (fun W:World=>pA _ l2 fc np nm ln pr rs rg us cs is ns a5 a6 a7 a8 c5 c6 c7 c8 W hu qJ jn hnp ko);have F3:=af (fun W:World=>pA _ l3 fd np nm ln pr rs rg us cs is ns a5 a6 a7 a8 c5 c6 c7 c8 W hu qJ jn hnp ko);clear l0 l1 l2 l3 hG fo ax;generalize aC opn 0=R0 at *;generalize aC opn 1=R1 at *;generalize aC opn 2=R2 at *;generalize aC opn 3=R3 at *;generalize si ⟨nm,ln,pr,rs,rg,us,cs,is,ns⟩ np ⟨opn,fa,fb,fc,fd⟩=res at *;generalize dh ⟨nm,ln,pr,rs,rg,us,cs,is,ns⟩ np fa (iD R0)=t0 at *;generalize dh ⟨nm,ln,pr,rs,rg,us,cs,is,ns⟩ np fb (iD R1)=t1 at *;generalize dh ⟨nm,ln,pr,rs,rg,us,cs,is,ns⟩ np fc (iD R2)=t2 at *;generalize dh ⟨nm,ln,pr,rs,rg,us,cs,is,ns⟩ np fd (iD R3)=t3 at *;obtain⟨T,Ri,YO,YD,Yh⟩:∃ T:Nat->Bool,T 0=t0/\T 1=t1/\T 2=t2/\T 3=t3:=⟨fun k=>[t0,t1,t2,t3][k]?.getD true,rfl,rfl,rfl,rfl⟩;have FF:Hid (∀ k:Nat,k<4->∃(r:Nat) (x:Int),(∀ W,(Instr.index 185 (.agg #[.int .i64 (R0:Nat),.int .i64 fa,.int .i64 (R1:Nat),.int .i64 fb,.int .i64 (R2:Nat),.int .i64 fc,.int .i64 (R3:Nat),.int .i64 fd]) (.int .i64 (k:Int))).run Tryz.prog W=.ok (.agg #[.int .i64 (r:Nat),.int .i64 x]) W)/\∀ W:World,Calls Tryz.prog 139 #[.agg #[.int .i64 (r:Nat),.int .i64 x],.agg #[.string nm,.int .i64 ln,.int .i64 pr,.bool rs,.int .i64 rg,.slice a5 us.length c5,.slice a6 cs.length c6,.slice a7 is.length c7,.slice a8 ns.length c8],.int .i64 np] W fun e w'=>e=.returned (.bool (T k))/\Below W.heap.size W w'):=fun k hk=>by
  have hc:k=0\/k=1\/k=2\/k=3:=by omega
  rcases hc with rfl | rfl | rfl | rfl
  ·exact⟨R0,fa,fun W=>cK 0 hk rfl W,fun W=>by rw[Ri];exact F0.out W⟩
  ·exact⟨R1,fb,fun W=>cK 1 hk rfl W,fun W=>by rw[YO];exact F1.out W⟩
  ·exact⟨R2,fc,fun W=>cK 2 hk rfl W,fun W=>by rw[YD];exact F2.out W⟩
  ·exact⟨R3,fd,fun W=>cK 3 hk rfl W,fun W=>by rw[Yh];exact F3.out W⟩
 have RT:Hid ((∀ k:Nat,k<4->T k=true)->res=true):=fun h=>by rw[R.out,<-Ri,<-YO,<-YD,<-Yh,h 0 (by omega),h 1 (by omega),h 2 (by omega),h 3 (by omega)];rfl
 have RF:Hid (∀ k:Nat,k<4->T k=false->res=false):=fun k hk h=>by
  have hc:k=0\/k=1\/k=2\/k=3:=by omega
  rw[R.out,<-Ri,<-YO,<-YD,<-Yh];rcases hc with rfl | rfl | rfl | rfl<;>simp[h]
 have PR:Hid (∀ o1 W,Below (w.heap.size+2) ((w.alloc o1).alloc (.cells #[.string nm,.int .i64 ln,.int .i64 pr,.bool rs,.int .i64 rg,.slice a5 us.length c5,.slice a6 cs.length c6,.slice a7 is.length c7,.slice a8 ns.length c8] 43)) W->gN W (w.heap.size+1) nm ln pr rs rg (.slice a5 us.length c5) (.slice a6 cs.length c6) (.slice a7 is.length c7) (.slice a8 ns.length c8)):=fun o1 W hW=>by
  have h0:gN ((w.alloc o1).alloc (.cells #[.string nm,.int .i64 ln,.int .i64 pr,.bool rs,.int .i64 rg,.slice a5 us.length c5,.slice a6 cs.length c6,.slice a7 is.length c7,.slice a8 ns.length c8] 43)) (w.heap.size+1) nm ln pr rs rg (.slice a5 us.length c5) (.slice a6 cs.length c6) (.slice a7 is.length c7) (.slice a8 ns.length c8):=by
   refine⟨?_,?_,?_,?_,?_,?_,?_,?_,?_⟩<;>simp[go_sem]
  exact h0.keep hW (by omega)
 clear F0 F1 F2 F3 Ri YO YD Yh R hu qJ jn hnp ko;go_enter Tryz.func115,Tryz.ntmps115;go_wp2_with fail
 refine(az _ _ _ _).mono ?_;rintro e w' ⟨rfl,rfl⟩;rw[SI.out];go_wp2_with fail
 refine(aa FO _ (dF _ _)).mono ?_;rintro e w1 ⟨rfl,au⟩;generalize Qa:(w.alloc (.cells #[.int .i64 (opn:Nat),.int .i64 fa,.int .i64 fb,.int .i64 fc,.int .i64 fd] 51)).alloc (.cells #[.string nm,.int .i64 ln,.int .i64 pr,.bool rs,.int .i64 rg,.slice a5 us.length c5,.slice a6 cs.length c6,.slice a7 is.length c7,.slice a8 ns.length c8] 43)=wb at *;have HWB:=af Qa;have T9:Below w.heap.size w wb:=Qa ▸ dF _ _;have kq:wb.heap.size=w.heap.size+2:=by rw[<-Qa];simp
 have PRO:Hid (∀ W,Below (w.heap.size+2) wb W->gN W (w.heap.size+1) nm ln pr rs rg (.slice a5 us.length c5) (.slice a6 cs.length c6) (.slice a7 is.length c7) (.slice a8 ns.length c8)):=fun W hW=>by
  have h1:=aa PR (.cells #[.int .i64 (opn:Nat),.int .i64 fa,.int .i64 fb,.int .i64 fc,.int .i64 fd] 51) W;rw[aa HWB]at h1;exact h1 hW
 rw[kq]at au;have oH:=af T9;clear Qa HWB PR FO SI dF T9;go_wp2_with fail
 go_loopg [15] 4 (fun g i wr=>∃(k:Nat),k+g=4/\i=.int .i64 k/\Below (w.heap.size+2) wb wr/\Hid (∀ j,j<k->T j=true))
 case atStart=>exact⟨0,by omega,rfl,au,fun j h=>absurd h (Nat.not_lt_zero _)⟩
 case round=>
  clear au;obtain⟨k,hk,rfl,hb,bN⟩:=hrel;by_cases ax:k<4
  ·obtain⟨r,x,hix,jh⟩:=aa FF k ax;have X1:=af jh;obtain⟨p0,p1,p2,p3,p4,p5,p6,p7,p8⟩:=aa PRO _ hb;have kO:=hb.size;have abR:w.heap.size+1<wr.heap.size:=by omega
   have HBI:=af hb;clear jh hb;cases ht:T k
   ·rw[ht]at X1;have HR:Hid (res=false):=aa RF k ax ht;clear ht;go_wp2_with fail
    refine(aa X1 _).mono ?_;rintro e w2 ⟨rfl,bo⟩;go_wp2_with fail
    go_ret;exact⟨al HR.out.symm,(aa oH).trans (((aa HBI).alloc (by omega) _).trans (bo.mono (by simp;omega)) |>.mono (by omega))⟩
   ·rw[ht]at X1;have HT:Hid (∀ j,j<k+1->T j=true):=fun j hj=>by
     by_cases e:j=k
     ·aj e;exact ht
     ·exact bN.out j (by omega)
    clear ht;go_wp2_with fail
    refine(aa X1 _).mono ?_;rintro e w2 ⟨rfl,bo⟩;go_wp2_with fail
    go_roundg (4-(k+1))
    case measure=>omega
    case rel=>exact⟨k+1,by omega,by go_num,((aa HBI).alloc (by omega) _).trans (bo.mono (by simp;omega)),HT⟩
  ·have HR:Hid (res=true):=aa RT (fun j hj=>bN.out j (by omega));go_wp2_with fail
   go_ret;exact⟨al HR.out.symm,(aa oH).trans (hb.mono (by omega))⟩
attribute [local go_sem] cp
theorem Kc (l:List ak)(hl:aI l<=1048576):∀ k,bw cd l k<=1048576:=fun k=>by
 have h1:=gw cd l k;have h2:aS cd l<=aS dx l:=by
  clear h1 hl;unfold aS
  induction l with
  | nil=>simp
  | cons x r ih=>
   simp only[List.map_cons,List.sum_cons];have:cd x<=dx x:=by unfold cd dx;omega
   omega
 unfold aI at hl;omega
def Dy (l:List ak)(c f n:Int):Prop:=(eE l/\c=1/\f=0/\n=0)\/(¬eE l/\c=0/\f=0/\n=0)
theorem sH (a:o_)(l:List ak)(c:Nat)(S:Nat->Prop)(w:World)(hs:ao w S a l)(hB:∀ b,S b->b<w.heap.size)(hl:aI l<=1048576) :
  c_ 70 #[.agg #[.slice a l.length c]] w fun e w'=>∃ x f n,e=.returned (.agg #[i_ x,i_ f,i_ n])/\Dy l x f n/\b_ w w':=by
 have hn:=hs.1;have py:l.length<=1048576:=by unfold aI at hl;omega
 have HT:Hid (∀ k,bw cd l k<=1048576):=Kc l hl;clear hl;have HS:=af hs;have HB:=af hB;have X0:Hid (dP w a l.length c (kd w a l.length c)):=dP.start w a l.length c;clear hs hB;go_enter Tryz.func70,Tryz.ntmps70;go_wp2_with fail
 go_loopg [3,9] l.length (fun g t i wr=>∃(k:Nat),k+g=l.length/\i=i_ k/\t=i_ (bw cd l k:Nat)/\dP w a l.length c wr)
 case atStart=>exact⟨0,by omega,rfl,by rw[fi];rfl,X0.out⟩
 case round=>
  clear X0;obtain⟨k,hk,rfl,rfl,hx⟩:=hrel;have u0:=hx.unit;by_cases ax:k<l.length
  ·obtain⟨b,off,rfl,hb,aE⟩:=((aa HS).keep hx.old (aa HB)).2 (by omega);have N:aU wr S b (off+k * 9) (am l k):=aE k ax;have UV:Hid (bw cd l (k+1)=bw cd l k+(am l k).ins.length):=dJ cd l k ak.z ax;have t1:=aa HT k;have t2:=aa HT (k+1);have aa8:bw cd l k+(am l k).ins.length<=1048576:=by have:=UV.out;omega
   clear aE;generalize am l k=x at *;obtain⟨a5,c5,h5,H5⟩:=N.ups;obtain⟨a6,c6,h6,H6⟩:=N.consts;obtain⟨a7,c7,h7,H7⟩:=N.ins;obtain⟨a8,c8,h8,H8⟩:=N.named;have c0:=N.name;have c1:=N.line;have c2:=N.params;have c3:=N.rest;have c4:=N.regs;clear N H5 H6 H7 H8;generalize bw cd l k=T at *;go_wp2_with fail
   go_roundg (l.length-(k+1))
   case measure=>omega
   case rel=>
    have h1:=aa UV;exact⟨k+1,by omega,by go_num,by rw[h1];go_num,hx.alloc _⟩
  ·have HK:Hid (k=l.length):=by show _=_;omega
   have iK:=HK.out
   aj iK
   rw[fI]at *;have Yn:=aa HT l.length;rw[fI]at Yn;clear HK hk ax HT;by_cases b1:1<=l.length/\l.length<=200
   case neg=>
    have EA:Hid (eE l):=by
     by_cases h:l.length=0
     ·exact .inl h
     ·exact .inr (.inl (by omega))
    have SI:Hid (dw (l.length:Int) 1 200=false):=by
     show(decide _&&decide _)=false;simp only[Bool.and_eq_false_iff,decide_eq_false_iff_not];omega
    clear b1;generalize aS cd l=T at *;go_wp2_with fail
    refine(az _ _ _ _).mono ?_;rintro e w2 ⟨rfl,rfl⟩;rw[SI.out];have aO:=hx;clear hx;have r0:=aO.res 0 (by omega);have r1:=aO.res 1 (by omega);have r2:=aO.res 2 (by omega);have z0:=aO.frozen 0;have z1:=aO.frozen 1;have z2:=aO.frozen 2;have BB:Hid (∀ v0 v1 v2,b_ w (((w2.setCell (a_ (w.heap.size+1) 0) v0).setCell (a_ (w.heap.size+1) 1) v1).setCell (a_ (w.heap.size+1) 2) v2)):=fun v0 v1 v2=>aK aO v0 v1 v2;go_wp2_with fail
    exact bodyPost_ret (v:=.agg #[i_ 1,i_ 0,i_ 0]) (by simp[results,Tryz.results70,go_sem,r0,r1,r2]) rfl ⟨1,0,0,rfl,.inl ⟨aa EA,rfl,rfl,rfl⟩,BB.out _ _ _⟩
   have SI:Hid (dw (l.length:Int) 1 200=true):=by
    show(decide _&&decide _)=true;rw[decide_eq_true (by omega),decide_eq_true (by omega)];rfl
   by_cases b3:6000<aS cd l
   ·have EA:Hid (eE l):=.inr (.inr b3);have e3:decide ((6000:Int)<(aS cd l:Nat))=true:=decide_eq_true (by omega);clear b3;generalize aS cd l=T at *;go_wp2_with fail
    refine(az _ _ _ _).mono ?_;rintro e w2 ⟨rfl,rfl⟩;rw[SI.out];have aO:=hx;clear hx;have r0:=aO.res 0 (by omega);have r1:=aO.res 1 (by omega);have r2:=aO.res 2 (by omega);have z0:=aO.frozen 0;have z1:=aO.frozen 1;have z2:=aO.frozen 2;have BB:Hid (∀ v0 v1 v2,b_ w (((w2.setCell (a_ (w.heap.size+1) 0) v0).setCell (a_ (w.heap.size+1) 1) v1).setCell (a_ (w.heap.size+1) 2) v2)):=fun v0 v1 v2=>aK aO v0 v1 v2;go_wp2_with fail
    exact bodyPost_ret (v:=.agg #[i_ 1,i_ 0,i_ 0]) (by simp[results,Tryz.results70,go_sem,r0,r1,r2]) rfl ⟨1,0,0,rfl,.inl ⟨aa EA,rfl,rfl,rfl⟩,BB.out _ _ _⟩
   ·have HG:Hid (¬eE l):=by
     rintro(h | h | h)<;>omega
    have e3:decide ((6000:Int)<(aS cd l:Nat))=false:=decide_eq_false (by omega);clear b3;generalize aS cd l=T at *;go_wp2_with fail
    refine(az _ _ _ _).mono ?_;rintro e w2 ⟨rfl,rfl⟩;rw[SI.out];have aO:=hx;clear hx;have r0:=aO.res 0 (by omega);have r1:=aO.res 1 (by omega);have r2:=aO.res 2 (by omega);have z0:=aO.frozen 0;have z1:=aO.frozen 1;have z2:=aO.frozen 2;have BB:Hid (∀ v0 v1 v2,b_ w (((w2.setCell (a_ (w.heap.size+1) 0) v0).setCell (a_ (w.heap.size+1) 1) v1).setCell (a_ (w.heap.size+1) 2) v2)):=fun v0 v1 v2=>aK aO v0 v1 v2;go_wp2_with fail
    exact bodyPost_ret (v:=.agg #[i_ 0,i_ 0,i_ 0]) (by simp[results,Tryz.results70,go_sem,r0,r1,r2]) rfl ⟨0,0,0,rfl,.inr ⟨aa HG,rfl,rfl,rfl⟩,BB.out _ _ _⟩
def la (l:List ak)(c f n:Int):Prop:=
 (c=2/\n=0/\∃ F:Nat,f=F/\F<l.length/\ee (am l F) F=false/\∀ g,g<F->ee (am l g) g=true)\/(km l/\c=0/\f=0/\n=0)
theorem sC (a:o_)(l:List ak)(c:Nat)(S:Nat->Prop)(w:World)(hs:ao w S a l)(hB:∀ b,S b->b<w.heap.size)(hl:aI l<=1048576) :
  c_ 71 #[.agg #[.slice a l.length c]] w fun e w'=>∃ x f n,e=.returned (.agg #[i_ x,i_ f,i_ n])/\la l x f n/\b_ w w':=by
 have hn:=hs.1;have HS:=af hs;have HB:=af hB;have X0:Hid (dP w a l.length c (kd w a l.length c)):=dP.start w a l.length c;clear hs hB hl;go_enter Tryz.func71,Tryz.ntmps71;go_wp2_with fail
 go_loopg [8] l.length (fun g i wr=>∃(k:Nat),k+g=l.length/\i=i_ k/\dP w a l.length c wr/\Hid (∀ j,j<k->ee (am l j) j=true))
 case atStart=>exact⟨0,by omega,rfl,X0.out,fun j h=>absurd h (Nat.not_lt_zero _)⟩
 case round=>
  clear X0;obtain⟨k,hk,rfl,hx,dZ⟩:=hrel;have u0:=hx.unit;by_cases ax:k<l.length
  ·obtain⟨b,off,rfl,hb,aE⟩:=((aa HS).keep hx.old (aa HB)).2 (by omega);have N:aU wr S b (off+k * 9) (am l k):=aE k ax;have EQ:Hid (ee (am l k) k=(o9 (am l k)&&(decide (0<k)||((am l k).params==0&&(am l k).ups.length==0)))):=rfl;have Pn:Hid (ee (am l k) k=false->la l 2 k 0):=fun h=>.inl ⟨rfl,rfl,k,rfl,ax,h,dZ.out⟩;have qL:Hid (ee (am l k) k=true->∀ j,j<k+1->ee (am l j) j=true):=fun h j hj=>by
    by_cases e:j=k
    ·aj e;exact h
    ·exact dZ.out j (by omega)
   clear aE dZ;generalize ee (am l k) k=res at *;generalize am l k=x at *;obtain⟨a5,c5,h5,H5⟩:=N.ups;obtain⟨a6,c6,h6,H6⟩:=N.consts;obtain⟨a7,c7,h7,H7⟩:=N.ins;obtain⟨a8,c8,h8,H8⟩:=N.named;have c0:=N.name;have c1:=N.line;have c2:=N.params;have c3:=N.rest;have c4:=N.regs;have RZ:=N.names;have hu:=H5.1;have qJ:=H6.1;clear N H5 H6 H7 H8;obtain⟨nm,ln,pr,rs,rg,us,cs,is,ns⟩:=x;simp only at *;have PF:=af (fun W=>vv nm ln pr rs rg us cs is ns a5 a6 a7 a8 c5 c6 c7 c8 W RZ hu qJ);generalize o9 ⟨nm,ln,pr,rs,rg,us,cs,is,ns⟩=ft at *;have HX:=af hx;clear hx;cases ft
   ·have RR:Hid (la l 2 k 0):=aa Pn (by rw[EQ.out];rfl);clear Pn qL EQ;go_wp2_with fail
    refine(aa PF _).mono ?_;rintro e w2 ⟨rfl,bo⟩;have aO:=((aa HX).alloc _).below' bo;clear bo HX;have r0:=aO.res 0 (by omega);have r1:=aO.res 1 (by omega);have r2:=aO.res 2 (by omega);have z0:=aO.frozen 0;have z1:=aO.frozen 1;have z2:=aO.frozen 2;have BB:Hid (∀ v0 v1 v2,b_ w (((w2.setCell (a_ (w.heap.size+1) 0) v0).setCell (a_ (w.heap.size+1) 1) v1).setCell (a_ (w.heap.size+1) 2) v2)):=fun v0 v1 v2=>aK aO v0 v1 v2;go_wp2_with fail
    exact bodyPost_ret (v:=.agg #[i_ 2,i_ k,i_ 0]) (by simp[results,Tryz.results71,go_sem,r0,r1,r2]) rfl ⟨2,k,0,rfl,aa RR,BB.out _ _ _⟩
   by_cases sN:0<k
   ·have RR:Hid (∀ j,j<k+1->ee (am l j) j=true):=aa qL (by rw[EQ.out];simp[sN]);have e0:((k:Int)==0)=false:=beq_eq_false_iff_ne.2 (by omega);clear Pn qL EQ;go_wp2_with fail
    refine(aa PF _).mono ?_;rintro e w2 ⟨rfl,bo⟩;have aO:=((aa HX).alloc _).below' bo;clear bo HX;go_wp2_with fail
    go_roundg (l.length-(k+1))
    case measure=>omega
    case rel=>exact⟨k+1,by omega,by go_num,aO,RR⟩
   have e0:((k:Int)==0)=true:=by simp;omega
   by_cases ON:pr=0
   case neg=>
    have RR:Hid (la l 2 k 0):=aa Pn (by rw[EQ.out];simp[ON,sN]);have e1:(pr != 0)=true:=by simpa using ON
    clear Pn qL EQ ON;go_wp2_with fail
    refine(aa PF _).mono ?_;rintro e w2 ⟨rfl,bo⟩;have A8:=(aa HX).alloc (.cells #[.string nm,i_ ln,i_ pr,.bool rs,i_ rg,.slice a5 us.length c5,.slice a6 cs.length c6,.slice a7 is.length c7,.slice a8 ns.length c8] 43);have PP:gN w2 wr.heap.size nm ln pr rs rg (.slice a5 us.length c5) (.slice a6 cs.length c6) (.slice a7 is.length c7) (.slice a8 ns.length c8):=gN.keep (by refine⟨?_,?_,?_,?_,?_,?_,?_,?_,?_⟩<;>simp[go_sem]) bo (by simp);obtain⟨p0,p1,p2,p3,p4,p5,p6,p7,p8⟩:=PP;have ws:wr.heap.size<w2.heap.size:=by have:=bo.size;simp at this;omega
    have aO:=A8.below' bo;clear bo HX A8;have r0:=aO.res 0 (by omega);have r1:=aO.res 1 (by omega);have r2:=aO.res 2 (by omega);have z0:=aO.frozen 0;have z1:=aO.frozen 1;have z2:=aO.frozen 2;have BB:Hid (∀ v0 v1 v2,b_ w (((w2.setCell (a_ (w.heap.size+1) 0) v0).setCell (a_ (w.heap.size+1) 1) v1).setCell (a_ (w.heap.size+1) 2) v2)):=fun v0 v1 v2=>aK aO v0 v1 v2;go_wp2_with fail
    exact bodyPost_ret (v:=.agg #[i_ 2,i_ k,i_ 0]) (by simp[results,Tryz.results71,go_sem,r0,r1,r2]) rfl ⟨2,k,0,rfl,aa RR,BB.out _ _ _⟩
   have e1:(pr != 0)=false:=by simpa using ON
   by_cases hu0:us.length=0
   ·have RR:Hid (∀ j,j<k+1->ee (am l j) j=true):=aa qL (by rw[EQ.out];simp[ON,hu0,sN]);have e2:((us.length:Int) != 0)=false:=by simp[hu0]
    clear Pn qL EQ ON hu0;go_wp2_with fail
    refine(aa PF _).mono ?_;rintro e w2 ⟨rfl,bo⟩;have A8:=(aa HX).alloc (.cells #[.string nm,i_ ln,i_ pr,.bool rs,i_ rg,.slice a5 us.length c5,.slice a6 cs.length c6,.slice a7 is.length c7,.slice a8 ns.length c8] 43);have PP:gN w2 wr.heap.size nm ln pr rs rg (.slice a5 us.length c5) (.slice a6 cs.length c6) (.slice a7 is.length c7) (.slice a8 ns.length c8):=gN.keep (by refine⟨?_,?_,?_,?_,?_,?_,?_,?_,?_⟩<;>simp[go_sem]) bo (by simp);obtain⟨p0,p1,p2,p3,p4,p5,p6,p7,p8⟩:=PP;have ws:wr.heap.size<w2.heap.size:=by have:=bo.size;simp at this;omega
    have aO:=A8.below' bo;clear bo HX A8;go_wp2_with fail
    go_roundg (l.length-(k+1))
    case measure=>omega
    case rel=>exact⟨k+1,by omega,by go_num,aO,RR⟩
   ·have RR:Hid (la l 2 k 0):=aa Pn (by rw[EQ.out,show(us.length==0)=false from beq_eq_false_iff_ne.2 hu0];simp[ON,sN]);have e2:((us.length:Int) != 0)=true:=bne_iff_ne.2 (by omega);clear Pn qL EQ ON hu0;go_wp2_with fail
    refine(aa PF _).mono ?_;rintro e w2 ⟨rfl,bo⟩;have A8:=(aa HX).alloc (.cells #[.string nm,i_ ln,i_ pr,.bool rs,i_ rg,.slice a5 us.length c5,.slice a6 cs.length c6,.slice a7 is.length c7,.slice a8 ns.length c8] 43);have PP:gN w2 wr.heap.size nm ln pr rs rg (.slice a5 us.length c5) (.slice a6 cs.length c6) (.slice a7 is.length c7) (.slice a8 ns.length c8):=gN.keep (by refine⟨?_,?_,?_,?_,?_,?_,?_,?_,?_⟩<;>simp[go_sem]) bo (by simp);obtain⟨p0,p1,p2,p3,p4,p5,p6,p7,p8⟩:=PP;have ws:wr.heap.size<w2.heap.size:=by have:=bo.size;simp at this;omega
    have aO:=A8.below' bo;clear bo HX A8;have r0:=aO.res 0 (by omega);have r1:=aO.res 1 (by omega);have r2:=aO.res 2 (by omega);have z0:=aO.frozen 0;have z1:=aO.frozen 1;have z2:=aO.frozen 2;have BB:Hid (∀ v0 v1 v2,b_ w (((w2.setCell (a_ (w.heap.size+1) 0) v0).setCell (a_ (w.heap.size+1) 1) v1).setCell (a_ (w.heap.size+1) 2) v2)):=fun v0 v1 v2=>aK aO v0 v1 v2;go_wp2_with fail
    exact bodyPost_ret (v:=.agg #[i_ 2,i_ k,i_ 0]) (by simp[results,Tryz.results71,go_sem,r0,r1,r2]) rfl ⟨2,k,0,rfl,aa RR,BB.out _ _ _⟩
  ·have RR:Hid (la l 0 0 0):=.inr ⟨fun g hg=>dZ.out g (by omega),rfl,rfl,rfl⟩;obtain⟨w2,rfl⟩:∃ w2,w2=wr:=⟨wr,rfl⟩;have aO:=hx;clear hx dZ;have r0:=aO.res 0 (by omega);have r1:=aO.res 1 (by omega);have r2:=aO.res 2 (by omega);have z0:=aO.frozen 0;have z1:=aO.frozen 1;have z2:=aO.frozen 2;have BB:Hid (∀ v0 v1 v2,b_ w (((w2.setCell (a_ (w.heap.size+1) 0) v0).setCell (a_ (w.heap.size+1) 1) v1).setCell (a_ (w.heap.size+1) 2) v2)):=fun v0 v1 v2=>aK aO v0 v1 v2;go_wp2_with fail
   exact bodyPost_ret (v:=.agg #[i_ 0,i_ 0,i_ 0]) (by simp[results,Tryz.results71,go_sem,r0,r1,r2]) rfl ⟨0,0,0,rfl,aa RR,BB.out _ _ _⟩
end Go.Proofs.YtcjfjflljdojlaaGreatDoor
