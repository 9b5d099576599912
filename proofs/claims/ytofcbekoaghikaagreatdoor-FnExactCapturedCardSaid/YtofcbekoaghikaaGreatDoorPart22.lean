import Derived.Test.YtofcbekoaghikaaGreatDoorPart21
import Derived.Test.YtofcbekoaghikaaGreatDoorPart19
import Derived.Deep.RegionHeld3
set_option linter.unusedSimpArgs false
set_option linter.unusedVariables false
set_option maxHeartbeats 8000000
namespace Go.Proofs.YtofcbekoaghikaaGreatDoor
open Go.RowKit
attribute [local go_sem] run_store_float
def lineFit (x:NodeD):Bool:=if isStat x.kind then inR x.line 1 100000 else x.line==0
def roleFitsD (x:NodeD)(u r0 r1 k0 k1:Nat):Bool:=lineFit x&&fieldsFits x u&&inR x.refs.length r0 r1&&inR x.kids.length k0 k1
theorem box_pair (w:World)(o1 o2:Obj):Below w.heap.size w ((w.alloc o1).alloc o2):=((Below.refl _ _).alloc (Nat.le_refl _) o1).alloc (by simp) o2
theorem roleFits_any (x:NodeD)(ra ka:Option Addr)(rc kc:Nat)(kd:Int)(u r0 r1 k0 k1:Nat)(w:World)(hu:u<=8)(hkl:x.kids.length<=1048576)(hrl:x.refs.length<=1048576)(hsl:x.str.size<=9223372036854775807) :
  Calls Tryz.prog 68 #[.agg #[.int .i64 x.kind,.int .i64 x.line,.int .i64 x.op,.int .i64 x.num,.float .f64 x.flt,.string x.str,.slice ra x.refs.length rc,.slice ka x.kids.length kc],.agg #[.int .i64 kd,.int .i64 u,.int .i64 r0,.int .i64 r1,.int .i64 k0,.int .i64 k1]] w fun e w'=>e=.returned (.bool (roleFitsD x u r0 r1 k0 k1))/\Below w.heap.size w w':=by
 have HBA:Hid (∀ o o',Below w.heap.size w ((w.alloc o).alloc o')):=box_pair w;have FF:Hid (∀ W:World,Calls Tryz.prog 86 #[.agg #[.int .i64 x.kind,.int .i64 x.line,.int .i64 x.op,.int .i64 x.num,.float .f64 x.flt,.string x.str,.slice ra x.refs.length rc,.slice ka x.kids.length kc],.int .i64 u] W fun e w'=>e=.returned (.bool (fieldsFits x u))/\Below W.heap.size W w'):=fun W=>fieldsFit_any u hu x ra ka rc kc W hkl (by omega) hsl;have E0:Hid (roleFitsD x u r0 r1 k0 k1=(lineFit x&&fieldsFits x u&&inR x.refs.length r0 r1&&inR x.kids.length k0 k1)):=rfl;have EL:Hid (lineFit x=if isStat x.kind then inR x.line 1 100000 else x.line==0):=rfl;generalize fieldsFits x u=ff at *;generalize lineFit x=lf at *;generalize roleFitsD x u r0 r1 k0 k1=res at *;obtain⟨kind,line,op,num,flt,str,refs,kids⟩:=x;simp only at *;have LINE:Hid (lf=false->res=false):=fun h=>by rw[E0.out,h];rfl
 have GO:Hid (lf=true->res=(ff&&inR refs.length r0 r1&&inR kids.length k0 k1)):=fun h=>by rw[E0.out,h];rfl
 clear E0;have CELLS:Hid (∀ w1,Below ((w.alloc (.cells #[.int .i64 kind,.int .i64 line,.int .i64 op,.int .i64 num,.float .f64 flt,.string str,.slice ra refs.length rc,.slice ka kids.length kc] 58)).alloc (.cells #[.int .i64 kd,.int .i64 u,.int .i64 r0,.int .i64 r1,.int .i64 k0,.int .i64 k1] 106)).heap.size ((w.alloc (.cells #[.int .i64 kind,.int .i64 line,.int .i64 op,.int .i64 num,.float .f64 flt,.string str,.slice ra refs.length rc,.slice ka kids.length kc] 58)).alloc (.cells #[.int .i64 kd,.int .i64 u,.int .i64 r0,.int .i64 r1,.int .i64 k0,.int .i64 k1] 106)) w1 ->
   (w1.cell? ⟨w.heap.size,6,none⟩=some (.slice ra refs.length rc)/\w1.cell? ⟨w.heap.size,7,none⟩=some (.slice ka kids.length kc))/\(w1.cell? ⟨w.heap.size+1,2,none⟩=some (.int .i64 r0)/\w1.cell? ⟨w.heap.size+1,3,none⟩=some (.int .i64 r1))/\(w1.cell? ⟨w.heap.size+1,4,none⟩=some (.int .i64 k0)/\w1.cell? ⟨w.heap.size+1,5,none⟩=some (.int .i64 k1))/\Below w.heap.size w w1):=fun w1 h1=>by
  have hz:w.heap.size<((w.alloc (.cells #[.int .i64 kind,.int .i64 line,.int .i64 op,.int .i64 num,.float .f64 flt,.string str,.slice ra refs.length rc,.slice ka kids.length kc] 58)).alloc (.cells #[.int .i64 kd,.int .i64 u,.int .i64 r0,.int .i64 r1,.int .i64 k0,.int .i64 k1] 106)).heap.size:=by simp;omega
  have hz1:w.heap.size+1<((w.alloc (.cells #[.int .i64 kind,.int .i64 line,.int .i64 op,.int .i64 num,.float .f64 flt,.string str,.slice ra refs.length rc,.slice ka kids.length kc] 58)).alloc (.cells #[.int .i64 kd,.int .i64 u,.int .i64 r0,.int .i64 r1,.int .i64 k0,.int .i64 k1] 106)).heap.size:=by simp
  refine⟨⟨?_,?_⟩,⟨?_,?_⟩,⟨?_,?_⟩,(box_pair w _ _).trans (h1.mono (by simp;omega))⟩
  ·rw[h1.cell (p:=⟨w.heap.size,6,none⟩) hz];simp[go_sem]
  ·rw[h1.cell (p:=⟨w.heap.size,7,none⟩) hz];simp[go_sem]
  ·rw[h1.cell (p:=⟨w.heap.size+1,2,none⟩) hz1];simp[go_sem]
  ·rw[h1.cell (p:=⟨w.heap.size+1,3,none⟩) hz1];simp[go_sem]
  ·rw[h1.cell (p:=⟨w.heap.size+1,4,none⟩) hz1];simp[go_sem]
  ·rw[h1.cell (p:=⟨w.heap.size+1,5,none⟩) hz1];simp[go_sem]
 cases hst:isStat kind
 ·have HST:=hide hst;cases hl:line==0
  ·have E:Hid (res=false):=LINE.out (by rw[EL.out,hst];exact hl);clear hst;go_enter Tryz.func68,Tryz.ntmps68;go_wp2_with fail
   refine(isStatement_any _ _).mono ?_;rintro e w' ⟨rfl,rfl⟩;rw[unhide HST];go_wp2_with fail
   go_ret;exact⟨ret_bool E.out.symm,unhide HBA _ _⟩
  ·have LT:Hid (lf=true):=by show _=_;rw[EL.out,hst];exact hl
   clear hst;cases ff
   ·skip
    have E:Hid (res=false):=GO.out LT.out;go_enter Tryz.func68,Tryz.ntmps68;go_wp2_with fail
    refine(isStatement_any _ _).mono ?_;rintro e w' ⟨rfl,rfl⟩;rw[unhide HST];go_wp2_with fail
    refine(unhide FF _).mono ?_;rintro e w1 ⟨rfl,hb1⟩;obtain⟨⟨k6,k7⟩,⟨k2,k3⟩,⟨k4,k5⟩,hbw⟩:=unhide CELLS w1 hb1;have HBW:=hide hbw;clear hb1 hbw;go_wp2_with fail
    go_ret;exact⟨ret_bool E.out.symm,unhide HBW⟩
   ·skip
    cases hr:inR refs.length r0 r1
    ·have HR:=hide hr;have E:Hid (res=false):=by have h:=GO.out LT.out;rw[hr]at h;exact h
     clear hr;go_enter Tryz.func68,Tryz.ntmps68;go_wp2_with fail
     refine(isStatement_any _ _).mono ?_;rintro e w' ⟨rfl,rfl⟩;rw[unhide HST];go_wp2_with fail
     refine(unhide FF _).mono ?_;rintro e w1 ⟨rfl,hb1⟩;obtain⟨⟨k6,k7⟩,⟨k2,k3⟩,⟨k4,k5⟩,hbw⟩:=unhide CELLS w1 hb1;have HBW:=hide hbw;clear hb1 hbw;go_wp2_with fail
     refine(within_any _ _ _ _).mono ?_;rintro e w' ⟨rfl,rfl⟩;rw[unhide HR];go_wp2_with fail
     go_ret;exact⟨ret_bool E.out.symm,unhide HBW⟩
    ·have HR:=hide hr;have E:Hid (res=inR kids.length k0 k1):=by have h:=GO.out LT.out;rw[hr]at h;exact h
     clear hr;go_enter Tryz.func68,Tryz.ntmps68;go_wp2_with fail
     refine(isStatement_any _ _).mono ?_;rintro e w' ⟨rfl,rfl⟩;rw[unhide HST];go_wp2_with fail
     refine(unhide FF _).mono ?_;rintro e w1 ⟨rfl,hb1⟩;obtain⟨⟨k6,k7⟩,⟨k2,k3⟩,⟨k4,k5⟩,hbw⟩:=unhide CELLS w1 hb1;have HBW:=hide hbw;clear hb1 hbw;go_wp2_with fail
     refine(within_any _ _ _ _).mono ?_;rintro e w' ⟨rfl,rfl⟩;rw[unhide HR];go_wp2_with fail
     refine(within_any _ _ _ _).mono ?_;rintro e w' ⟨rfl,rfl⟩;go_wp2_with fail
     go_ret;exact⟨ret_bool E.out.symm,unhide HBW⟩
 ·have HST:=hide hst;cases hl:inR line 1 100000
  ·have HL:=hide hl;have E:Hid (res=false):=LINE.out (by rw[EL.out,hst];exact hl);clear hst hl;go_enter Tryz.func68,Tryz.ntmps68;go_wp2_with fail
   refine(isStatement_any _ _).mono ?_;rintro e w' ⟨rfl,rfl⟩;rw[unhide HST];go_wp2_with fail
   refine(within_any _ _ _ _).mono ?_;rintro e w' ⟨rfl,rfl⟩;rw[unhide HL];go_wp2_with fail
   go_ret;exact⟨ret_bool E.out.symm,unhide HBA _ _⟩
  ·have HL:=hide hl;have LT:Hid (lf=true):=by show _=_;rw[EL.out,hst];exact hl
   clear hst hl;cases ff
   ·skip
    have E:Hid (res=false):=GO.out LT.out;go_enter Tryz.func68,Tryz.ntmps68;go_wp2_with fail
    refine(isStatement_any _ _).mono ?_;rintro e w' ⟨rfl,rfl⟩;rw[unhide HST];go_wp2_with fail
    refine(within_any _ _ _ _).mono ?_;rintro e w' ⟨rfl,rfl⟩;rw[unhide HL];go_wp2_with fail
    refine(unhide FF _).mono ?_;rintro e w1 ⟨rfl,hb1⟩;obtain⟨⟨k6,k7⟩,⟨k2,k3⟩,⟨k4,k5⟩,hbw⟩:=unhide CELLS w1 hb1;have HBW:=hide hbw;clear hb1 hbw;go_wp2_with fail
    go_ret;exact⟨ret_bool E.out.symm,unhide HBW⟩
   ·skip
    cases hr:inR refs.length r0 r1
    ·have HR:=hide hr;have E:Hid (res=false):=by have h:=GO.out LT.out;rw[hr]at h;exact h
     clear hr;go_enter Tryz.func68,Tryz.ntmps68;go_wp2_with fail
     refine(isStatement_any _ _).mono ?_;rintro e w' ⟨rfl,rfl⟩;rw[unhide HST];go_wp2_with fail
     refine(within_any _ _ _ _).mono ?_;rintro e w' ⟨rfl,rfl⟩;rw[unhide HL];go_wp2_with fail
     refine(unhide FF _).mono ?_;rintro e w1 ⟨rfl,hb1⟩;obtain⟨⟨k6,k7⟩,⟨k2,k3⟩,⟨k4,k5⟩,hbw⟩:=unhide CELLS w1 hb1;have HBW:=hide hbw;clear hb1 hbw;go_wp2_with fail
     refine(within_any _ _ _ _).mono ?_;rintro e w' ⟨rfl,rfl⟩;rw[unhide HR];go_wp2_with fail
     go_ret;exact⟨ret_bool E.out.symm,unhide HBW⟩
    ·have HR:=hide hr;have E:Hid (res=inR kids.length k0 k1):=by have h:=GO.out LT.out;rw[hr]at h;exact h
     clear hr;go_enter Tryz.func68,Tryz.ntmps68;go_wp2_with fail
     refine(isStatement_any _ _).mono ?_;rintro e w' ⟨rfl,rfl⟩;rw[unhide HST];go_wp2_with fail
     refine(within_any _ _ _ _).mono ?_;rintro e w' ⟨rfl,rfl⟩;rw[unhide HL];go_wp2_with fail
     refine(unhide FF _).mono ?_;rintro e w1 ⟨rfl,hb1⟩;obtain⟨⟨k6,k7⟩,⟨k2,k3⟩,⟨k4,k5⟩,hbw⟩:=unhide CELLS w1 hb1;have HBW:=hide hbw;clear hb1 hbw;go_wp2_with fail
     refine(within_any _ _ _ _).mono ?_;rintro e w' ⟨rfl,rfl⟩;rw[unhide HR];go_wp2_with fail
     refine(within_any _ _ _ _).mono ?_;rintro e w' ⟨rfl,rfl⟩;go_wp2_with fail
     go_ret;exact⟨ret_bool E.out.symm,unhide HBW⟩
attribute [local go_sem] run_store_float
def kidFit (ns:List NodeD)(p i:Nat):Bool:=inR (kidI (nd ns p) i) 0 ((p:Int)-1)&&mayFit (nd ns p) i (nd ns (kidI (nd ns p) i).toNat).kind
def kidsFits (ns:List NodeD)(p:Nat):Bool:=allFrom (kidFit ns p) 0 (nd ns p).kids.length&&(!((nd ns p).kind==35)||((nd ns p).kids.length % 2==0))
theorem kidsFit_any (a:Option Addr)(ns:List NodeD)(c p:Nat)(S:Nat->Prop)(w:World)(hs:NodesAt w S a ns)(hB:∀ b,S b->b<w.heap.size)(hp:p<ns.length)(hkl:(nd ns p).kids.length<=1048576) :
  Calls Tryz.prog 69 #[.slice a ns.length c,.int .i64 p] w fun e w'=>e=.returned (.bool (kidsFits ns p))/\Below w.heap.size w w':=by
 have hn:=hs.1;obtain⟨b,off,rfl,hb,hcc⟩:=hs.2 (by omega);have N:NodeCells w S b (off+p * 8) (nd ns p):=hcc p hp;obtain⟨ra,rc,hr,hrI⟩:=N.refs;obtain⟨ka,kc,hkk,hkI⟩:=N.kids;have c0:=N.kind;have c1:=N.line;have c2:=N.op;have c3:=N.num;have c4:=N.flt;have c5:=N.str;have hrl:=hrI.1;have KI:=hide hkI;have HCC:Hid (∀ j,j<ns.length->w.cell? ⟨b,off+j * 8,none⟩=some (.int .i64 (nd ns j).kind)):=fun j hj=>(hcc j hj).kind;have HB:=hide hB;have hbs:b<w.heap.size:=hB b hb;have MS:Hid (∀(i:Nat) (k:Int) (W:World),i<(nd ns p).kids.length->Calls Tryz.prog 87 #[.agg #[.int .i64 (nd ns p).kind,.int .i64 (nd ns p).line,.int .i64 (nd ns p).op,.int .i64 (nd ns p).num,.float .f64 (nd ns p).flt,.string (nd ns p).str,.slice ra (nd ns p).refs.length rc,.slice ka (nd ns p).kids.length kc],.int .i64 i,.int .i64 k] W fun e w'=>e=.returned (.bool (mayFit (nd ns p) i k))/\Below W.heap.size W w'):=fun i k W hi=>mayStand_any (nd ns p) ra ka rc kc i k W hi (by omega) hrl;have KF:Hid (∀ i,kidFit ns p i=(inR ((nd ns p).kids[i]?.getD 0) 0 ((p:Int)-1)&&mayFit (nd ns p) i (nd ns ((nd ns p).kids[i]?.getD 0).toNat).kind)):=fun i=>rfl;have EF:Hid (kidsFits ns p=(allFrom (kidFit ns p) 0 (nd ns p).kids.length&&(!((nd ns p).kind==35)||((nd ns p).kids.length % 2==0)))):=rfl;clear N hrI hkI hcc hs hB;generalize hy:nd ns p=y at *;clear hy;obtain⟨kind,line,op,num,flt,str,refs,kids⟩:=y;simp only at *;generalize kidsFits ns p=res at *;have X:Hid (∀ W,Below (w.heap.size+1) (w.alloc (.cells #[.int .i64 kind,.int .i64 line,.int .i64 op,.int .i64 num,.float .f64 flt,.string str,.slice ra refs.length rc,.slice ka kids.length kc] 58)) W ->
   (W.cell? ⟨w.heap.size,0,none⟩=some (.int .i64 kind)/\W.cell? ⟨w.heap.size,1,none⟩=some (.int .i64 line)/\W.cell? ⟨w.heap.size,2,none⟩=some (.int .i64 op)/\W.cell? ⟨w.heap.size,3,none⟩=some (.int .i64 num))/\(W.cell? ⟨w.heap.size,4,none⟩=some (.float .f64 flt)/\W.cell? ⟨w.heap.size,5,none⟩=some (.string str)/\W.cell? ⟨w.heap.size,6,none⟩=some (.slice ra refs.length rc)/\W.cell? ⟨w.heap.size,7,none⟩=some (.slice ka kids.length kc))/\Below w.heap.size w W):=fun W hW=>by
  have hc:∀ j,W.cell? ⟨w.heap.size,j,none⟩=_:=fun j=>hW.cell (p:=⟨w.heap.size,j,none⟩) (by simp);exact⟨⟨by rw[hc];simp[go_sem],by rw[hc];simp[go_sem],by rw[hc];simp[go_sem],by rw[hc];simp[go_sem]⟩,⟨by rw[hc];simp[go_sem],by rw[hc];simp[go_sem],by rw[hc];simp[go_sem],by rw[hc];simp[go_sem]⟩,((Below.refl _ _).alloc (Nat.le_refl _) _).trans (hW.mono (by omega))⟩
 have X0:Hid (Below (w.heap.size+1) (w.alloc (.cells #[.int .i64 kind,.int .i64 line,.int .i64 op,.int .i64 num,.float .f64 flt,.string str,.slice ra refs.length rc,.slice ka kids.length kc] 58)) (w.alloc (.cells #[.int .i64 kind,.int .i64 line,.int .i64 op,.int .i64 num,.float .f64 flt,.string str,.slice ra refs.length rc,.slice ka kids.length kc] 58))):=Below.refl _ _;have hwp:IntKind.i64.wrap ((p:Int)-1)=(p:Int)-1:=wrap_ok _ (by omega) (by omega);go_enter Tryz.func69,Tryz.ntmps69;go_wp2_with fail
 go_loopg [15] kids.length (fun g i wr=>∃(k:Nat),k+g=kids.length/\i=.int .i64 k/\Below (w.heap.size+1) (w.alloc (.cells #[.int .i64 kind,.int .i64 line,.int .i64 op,.int .i64 num,.float .f64 flt,.string str,.slice ra refs.length rc,.slice ka kids.length kc] 58)) wr/\Hid (∀ j,j<k->kidFit ns p j=true))
 case atStart=>exact⟨0,by omega,rfl,unhide X0,fun j h=>absurd h (Nat.not_lt_zero _)⟩
 case round=>
  clear c0 c1 c2 c3 c4 c5 hr hkk X0;obtain⟨k,hk,rfl,hx,hall⟩:=hrel;obtain⟨⟨d0,d1,d2,d3⟩,⟨d4,d5,d6,d7⟩,hbw⟩:=unhide X wr hx;have HX:=hide hx;have HBW:=hide hbw;have sz:w.heap.size+1<=wr.heap.size:=by have:=hx.size;simpa using this
  by_cases hlt:k<kids.length
  ·obtain⟨b2,off2,rfl,hb2,hc2⟩:=((unhide KI).keep hbw (unhide HB)).2 (by omega);have hck:=hc2 k hlt;have hf:=unhide KF k;clear hc2;cases hq:inR (kids[k]?.getD 0) 0 ((p:Int)-1)
   ·have E:Hid (res=false):=by show _=_;rw[EF.out,allFrom_false (Nat.zero_le _) hlt (by rw[hf,hq];rfl)];rfl
    have HQ:Hid (∀ W:World,Calls Tryz.prog 26 #[.int .i64 (kids[k]?.getD 0),.int .i64 0,.int .i64 ((p:Int)-1)] W fun e w'=>e=.returned (.bool false)/\w'=W):=fun W=>(within_any _ _ _ W).mono (by rintro e w' ⟨rfl,rfl⟩;exact⟨ret_bool hq,rfl⟩);have HBQ:Hid (∀ q,Below w.heap.size w (wr.drewN q)):=fun q=>hbw.trans (below_drewN _ _ q);clear hq hf hx hbw;generalize kids[k]?.getD 0=kv at *;go_wp2_with fail
    go_quiet (first | (go_at_call 26;refine Calls.quiet_of_same (unhide HQ _)))
    go_wp2_with fail
    go_ret;exact⟨ret_bool E.out.symm,unhide HBQ _⟩
   ·have hr0:0<=kids[k]?.getD 0/\kids[k]?.getD 0<=(p:Int)-1:=by
     unfold inR at hq;rw[Bool.and_eq_true]at hq;exact⟨of_decide_eq_true hq.1,of_decide_eq_true hq.2⟩
    obtain⟨m,hm⟩:=Int.eq_ofNat_of_zero_le hr0.1;have hml:m<ns.length:=by omega
    have hckm:wr.cell? ⟨b,off+m * 8,none⟩=some (.int .i64 (nd ns m).kind):=by rw[hbw.cell (p:=⟨b,off+m * 8,none⟩) hbs];exact unhide HCC m hml
    have hf:kidFit ns p k=mayFit (⟨kind,line,op,num,flt,str,refs,kids⟩:NodeD) k (nd ns m).kind:=by rw[hf,hq,hm];rfl
    have HQ:Hid (inR (m:Int) 0 ((p:Int)-1)=true):=by show _=_;rw[<-hm];exact hq
    rw[hm]at hck;have hm0:(0:Int)<=m:=by omega
    have hm1:(m:Int)<ns.length:=by omega
    have CALL:Hid (Calls Tryz.prog 87 #[.agg #[.int .i64 kind,.int .i64 line,.int .i64 op,.int .i64 num,.float .f64 flt,.string str,.slice ra refs.length rc,.slice (some ⟨b2,off2,none⟩) kids.length kc],.int .i64 k,.int .i64 (nd ns m).kind] wr.drew fun e w'=>e=.returned (.bool (mayFit (⟨kind,line,op,num,flt,str,refs,kids⟩:NodeD) k (nd ns m).kind))/\Below (w.heap.size+1) (w.alloc (.cells #[.int .i64 kind,.int .i64 line,.int .i64 op,.int .i64 num,.float .f64 flt,.string str,.slice ra refs.length rc,.slice (some ⟨b2,off2,none⟩) kids.length kc] 58)) w' /\
      ((w'.cell? ⟨w.heap.size,0,none⟩=some (.int .i64 kind)/\w'.cell? ⟨w.heap.size,1,none⟩=some (.int .i64 line)/\w'.cell? ⟨w.heap.size,2,none⟩=some (.int .i64 op)/\w'.cell? ⟨w.heap.size,3,none⟩=some (.int .i64 num))/\(w'.cell? ⟨w.heap.size,4,none⟩=some (.float .f64 flt)/\w'.cell? ⟨w.heap.size,5,none⟩=some (.string str)/\w'.cell? ⟨w.heap.size,6,none⟩=some (.slice ra refs.length rc)/\w'.cell? ⟨w.heap.size,7,none⟩=some (.slice (some ⟨b2,off2,none⟩) kids.length kc))/\Below w.heap.size w w')/\w'.cell? ⟨b,off+m * 8,none⟩=some (.int .i64 (nd ns m).kind)):=by
     refine(unhide MS k (nd ns m).kind wr.drew hlt).mono ?_;rintro e w' ⟨rfl,hb'⟩;have hx':Below (w.heap.size+1) (w.alloc (.cells #[.int .i64 kind,.int .i64 line,.int .i64 op,.int .i64 num,.float .f64 flt,.string str,.slice ra refs.length rc,.slice (some ⟨b2,off2,none⟩) kids.length kc] 58)) w':=hx.drew.trans (hb'.mono sz);exact⟨rfl,hx',unhide X w' hx',by rw[hb'.cell (p:=⟨b,off+m * 8,none⟩) (Nat.lt_of_lt_of_le hbs (Nat.le_trans (Nat.le_succ _) sz))];exact hckm⟩
    have EF1:Hid (mayFit (⟨kind,line,op,num,flt,str,refs,kids⟩:NodeD) k (nd ns m).kind=false->res=false):=fun h=>by rw[EF.out,allFrom_false (Nat.zero_le _) hlt (by rw[hf];exact h)];rfl
    have EF2:Hid (mayFit (⟨kind,line,op,num,flt,str,refs,kids⟩:NodeD) k (nd ns m).kind=true->∀ j,j<k+1->kidFit ns p j=true):=fun h j hj=>by
     by_cases e:j=k
     ·subst e;rw[hf];exact h
     ·exact hall.out j (by omega)
    clear hq hr0 hm hf hx hbw hall;generalize (nd ns m).kind=km at *;generalize mayFit (⟨kind,line,op,num,flt,str,refs,kids⟩:NodeD) k km=mf at *;cases mf
    ·have E:Hid (res=false):=EF1.out rfl;go_wp2_with fail
     go_region_held3 (fun w'=>w'.cell? ⟨w.heap.size,0,none⟩=some (.int .i64 kind)/\w'.cell? ⟨w.heap.size,1,none⟩=some (.int .i64 line)/\w'.cell? ⟨w.heap.size,2,none⟩=some (.int .i64 op)/\w'.cell? ⟨w.heap.size,3,none⟩=some (.int .i64 num)/\w'.cell? ⟨w.heap.size,4,none⟩=some (.float .f64 flt)/\w'.cell? ⟨w.heap.size,5,none⟩=some (.string str)/\w'.cell? ⟨w.heap.size,6,none⟩=some (.slice ra refs.length rc)/\w'.cell? ⟨w.heap.size,7,none⟩=some (.slice (some ⟨b2,off2,none⟩) kids.length kc)/\w'.cell? ⟨b,off+m * 8,none⟩=some (.int .i64 km)) (simp[go_sem, *])
      (first | (go_at_call 26;refine(within_any _ _ _ _).mono ?_;rintro e w' ⟨rfl,rfl⟩;(first | rw[unhide HQ] | rw[hwp,unhide HQ])) | (go_at_call 87;refine(unhide CALL).mono ?_;rintro e w7 ⟨rfl,hx7,⟨⟨g0,g1,g2,g3⟩,⟨g4,g5,g6,g7⟩,hbw7⟩,g8⟩))
     go_wp2_with fail
     go_ret;exact⟨ret_bool E.out.symm,hbw7⟩
    ·have HT:Hid (∀ j,j<k+1->kidFit ns p j=true):=EF2.out rfl;clear EF1 EF2;go_wp2_with fail
     go_region_held3 (fun w'=>w'.cell? ⟨w.heap.size,0,none⟩=some (.int .i64 kind)/\w'.cell? ⟨w.heap.size,1,none⟩=some (.int .i64 line)/\w'.cell? ⟨w.heap.size,2,none⟩=some (.int .i64 op)/\w'.cell? ⟨w.heap.size,3,none⟩=some (.int .i64 num)/\w'.cell? ⟨w.heap.size,4,none⟩=some (.float .f64 flt)/\w'.cell? ⟨w.heap.size,5,none⟩=some (.string str)/\w'.cell? ⟨w.heap.size,6,none⟩=some (.slice ra refs.length rc)/\w'.cell? ⟨w.heap.size,7,none⟩=some (.slice (some ⟨b2,off2,none⟩) kids.length kc)/\w'.cell? ⟨b,off+m * 8,none⟩=some (.int .i64 km)) (simp[go_sem, *])
      (first | (go_at_call 26;refine(within_any _ _ _ _).mono ?_;rintro e w' ⟨rfl,rfl⟩;(first | rw[unhide HQ] | rw[hwp,unhide HQ])) | (go_at_call 87;refine(unhide CALL).mono ?_;rintro e w7 ⟨rfl,hx7,⟨⟨g0,g1,g2,g3⟩,⟨g4,g5,g6,g7⟩,hbw7⟩,g8⟩))
     go_wp2_with fail
     go_roundg (kids.length-(k+1))
     case measure=>omega
     case rel=>exact⟨k+1,by omega,by go_num,hx7,HT⟩
  ·have E1:Hid (res=(!(kind==35)||(kids.length % 2==0))):=by show _=_;rw[EF.out,allFrom_true (fun j _ h2=>hall.out j (by omega))];rfl
   clear hx hbw;cases h35:kind==35
   ·have E:Hid (res=true):=by show _=_;rw[E1.out,h35];rfl
    have h35':(kind != 35)=true:=by simp[bne,h35]
    go_wp2_with fail
    go_ret;exact⟨ret_bool E.out.symm,unhide HBW⟩
   ·have E:Hid (res=(kids.length % 2==0)):=by show _=_;rw[E1.out,h35];rfl
    have h35':(kind != 35)=false:=by simp[bne,h35]
    go_wp2_with fail
    go_ret;refine⟨ret_bool ?_,unhide HBW⟩;rw[E.out,Bool.eq_iff_iff];simp only[beq_iff_eq];omega
end Go.Proofs.YtofcbekoaghikaaGreatDoor
