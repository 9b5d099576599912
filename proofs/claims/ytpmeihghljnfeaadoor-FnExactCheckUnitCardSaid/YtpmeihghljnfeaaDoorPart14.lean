import Derived.Test.YtpmeihghljnfeaaDoorPart13
import Derived.Test.YtpmeihghljnfeaaDoorPart11
import Derived.Deep.RegionHeld3
set_option linter.unusedSimpArgs false
set_option linter.unusedVariables false
set_option maxHeartbeats 8000000
set_option maxRecDepth 100000
namespace Go.Proofs.YtpmeihghljnfeaaDoor
open Go.RowKit
attribute [local go_sem] run_store_float
def lineFit (x:NodeD):Bool:=if isStat x.kind then inR x.line 1 100000 else x.line==0
def roleFitsD (x:NodeD)(u r0 r1 k0 k1:Nat):Bool:=lineFit x&&fieldsFits x u&&inR x.refs.length r0 r1&&inR x.kids.length k0 k1
theorem box_pair (w:World)(o1 o2:Obj):Below w.heap.size w ((w.alloc o1).alloc o2):=((Below.refl _ _).alloc (Nat.le_refl _) o1).alloc (by simp) o2
theorem roleFits_any (x:NodeD)(ra ka:Option Addr)(rc kc:Nat)(kd:Int)(u r0 r1 k0 k1:Nat)(w:World)(hu:u<=8)(hkl:x.kids.length<=1048576)(hrl:x.refs.length<=1048576)(hsl:x.str.size<=9223372036854775807) :
  Calls Tryd.prog 34 #[.agg #[.int .i64 x.kind,.int .i64 x.line,.int .i64 x.op,.int .i64 x.num,.float .f64 x.flt,.string x.str,.slice ra x.refs.length rc,.slice ka x.kids.length kc],.agg #[.int .i64 kd,.int .i64 u,.int .i64 r0,.int .i64 r1,.int .i64 k0,.int .i64 k1]] w fun e w'=>e=.returned (.bool (roleFitsD x u r0 r1 k0 k1))/\Below w.heap.size w w':=by
 have HBA:Hid (∀ o o',Below w.heap.size w ((w.alloc o).alloc o')):=box_pair w;have FF:Hid (∀ W:World,Calls Tryd.prog 53 #[.agg #[.int .i64 x.kind,.int .i64 x.line,.int .i64 x.op,.int .i64 x.num,.float .f64 x.flt,.string x.str,.slice ra x.refs.length rc,.slice ka x.kids.length kc],.int .i64 u] W fun e w'=>e=.returned (.bool (fieldsFits x u))/\Below W.heap.size W w'):=fun W=>fieldsFit_any u hu x ra ka rc kc W hkl (by omega) hsl;have E0:Hid (roleFitsD x u r0 r1 k0 k1=(lineFit x&&fieldsFits x u&&inR x.refs.length r0 r1&&inR x.kids.length k0 k1)):=rfl;have EL:Hid (lineFit x=if isStat x.kind then inR x.line 1 100000 else x.line==0):=rfl;generalize fieldsFits x u=ff at *;generalize lineFit x=lf at *;generalize roleFitsD x u r0 r1 k0 k1=res at *;obtain⟨kind,line,op,num,flt,str,refs,kids⟩:=x;simp only at *;have LINE:Hid (lf=false->res=false):=fun h=>by rw[E0.out,h];rfl
 have GO:Hid (lf=true->res=(ff&&inR refs.length r0 r1&&inR kids.length k0 k1)):=fun h=>by rw[E0.out,h];rfl
 clear E0;have CELLS:Hid (∀ w1,Below ((w.alloc (.cells #[.int .i64 kind,.int .i64 line,.int .i64 op,.int .i64 num,.float .f64 flt,.string str,.slice ra refs.length rc,.slice ka kids.length kc] 59)).alloc (.cells #[.int .i64 kd,.int .i64 u,.int .i64 r0,.int .i64 r1,.int .i64 k0,.int .i64 k1] 70)).heap.size ((w.alloc (.cells #[.int .i64 kind,.int .i64 line,.int .i64 op,.int .i64 num,.float .f64 flt,.string str,.slice ra refs.length rc,.slice ka kids.length kc] 59)).alloc (.cells #[.int .i64 kd,.int .i64 u,.int .i64 r0,.int .i64 r1,.int .i64 k0,.int .i64 k1] 70)) w1 ->
   (w1.cell? ⟨w.heap.size,6,none⟩=some (.slice ra refs.length rc)/\w1.cell? ⟨w.heap.size,7,none⟩=some (.slice ka kids.length kc))/\(w1.cell? ⟨w.heap.size+1,2,none⟩=some (.int .i64 r0)/\w1.cell? ⟨w.heap.size+1,3,none⟩=some (.int .i64 r1))/\(w1.cell? ⟨w.heap.size+1,4,none⟩=some (.int .i64 k0)/\w1.cell? ⟨w.heap.size+1,5,none⟩=some (.int .i64 k1))/\Below w.heap.size w w1):=fun w1 h1=>by
  have hz:w.heap.size<((w.alloc (.cells #[.int .i64 kind,.int .i64 line,.int .i64 op,.int .i64 num,.float .f64 flt,.string str,.slice ra refs.length rc,.slice ka kids.length kc] 59)).alloc (.cells #[.int .i64 kd,.int .i64 u,.int .i64 r0,.int .i64 r1,.int .i64 k0,.int .i64 k1] 70)).heap.size:=by simp;omega
  have hz1:w.heap.size+1<((w.alloc (.cells #[.int .i64 kind,.int .i64 line,.int .i64 op,.int .i64 num,.float .f64 flt,.string str,.slice ra refs.length rc,.slice ka kids.length kc] 59)).alloc (.cells #[.int .i64 kd,.int .i64 u,.int .i64 r0,.int .i64 r1,.int .i64 k0,.int .i64 k1] 70)).heap.size:=by simp
  refine⟨⟨?_,?_⟩,⟨?_,?_⟩,⟨?_,?_⟩,(box_pair w _ _).trans (h1.mono (by simp;omega))⟩
  ·rw[h1.cell (p:=⟨w.heap.size,6,none⟩) hz];simp[go_sem]
  ·rw[h1.cell (p:=⟨w.heap.size,7,none⟩) hz];simp[go_sem]
  ·rw[h1.cell (p:=⟨w.heap.size+1,2,none⟩) hz1];simp[go_sem]
  ·rw[h1.cell (p:=⟨w.heap.size+1,3,none⟩) hz1];simp[go_sem]
  ·rw[h1.cell (p:=⟨w.heap.size+1,4,none⟩) hz1];simp[go_sem]
  ·rw[h1.cell (p:=⟨w.heap.size+1,5,none⟩) hz1];simp[go_sem]
 cases hst:isStat kind
 ·have HST:=hide hst;cases hl:line==0
  ·have E:Hid (res=false):=LINE.out (by rw[EL.out,hst];exact hl);clear hst;go_enter Tryd.func34,Tryd.ntmps34;go_wp2_with fail
   refine(isStatement_any _ _).mono ?_;rintro e w' ⟨rfl,rfl⟩;rw[unhide HST];go_wp2_with fail
   go_ret;exact⟨ret_bool E.out.symm,unhide HBA _ _⟩
  ·have LT:Hid (lf=true):=by show _=_;rw[EL.out,hst];exact hl
   clear hst;cases ff
   ·skip
    have E:Hid (res=false):=GO.out LT.out;go_enter Tryd.func34,Tryd.ntmps34;go_wp2_with fail
    refine(isStatement_any _ _).mono ?_;rintro e w' ⟨rfl,rfl⟩;rw[unhide HST];go_wp2_with fail
    refine(unhide FF _).mono ?_;rintro e w1 ⟨rfl,hb1⟩;obtain⟨⟨k6,k7⟩,⟨k2,k3⟩,⟨k4,k5⟩,hbw⟩:=unhide CELLS w1 hb1;have HBW:=hide hbw;clear hb1 hbw;go_wp2_with fail
    go_ret;exact⟨ret_bool E.out.symm,unhide HBW⟩
   ·skip
    cases hr:inR refs.length r0 r1
    ·have HR:=hide hr;have E:Hid (res=false):=by have h:=GO.out LT.out;rw[hr]at h;exact h
     clear hr;go_enter Tryd.func34,Tryd.ntmps34;go_wp2_with fail
     refine(isStatement_any _ _).mono ?_;rintro e w' ⟨rfl,rfl⟩;rw[unhide HST];go_wp2_with fail
     refine(unhide FF _).mono ?_;rintro e w1 ⟨rfl,hb1⟩;obtain⟨⟨k6,k7⟩,⟨k2,k3⟩,⟨k4,k5⟩,hbw⟩:=unhide CELLS w1 hb1;have HBW:=hide hbw;clear hb1 hbw;go_wp2_with fail
     refine(within_any _ _ _ _).mono ?_;rintro e w' ⟨rfl,rfl⟩;rw[unhide HR];go_wp2_with fail
     go_ret;exact⟨ret_bool E.out.symm,unhide HBW⟩
    ·have HR:=hide hr;have E:Hid (res=inR kids.length k0 k1):=by have h:=GO.out LT.out;rw[hr]at h;exact h
     clear hr;go_enter Tryd.func34,Tryd.ntmps34;go_wp2_with fail
     refine(isStatement_any _ _).mono ?_;rintro e w' ⟨rfl,rfl⟩;rw[unhide HST];go_wp2_with fail
     refine(unhide FF _).mono ?_;rintro e w1 ⟨rfl,hb1⟩;obtain⟨⟨k6,k7⟩,⟨k2,k3⟩,⟨k4,k5⟩,hbw⟩:=unhide CELLS w1 hb1;have HBW:=hide hbw;clear hb1 hbw;go_wp2_with fail
     refine(within_any _ _ _ _).mono ?_;rintro e w' ⟨rfl,rfl⟩;rw[unhide HR];go_wp2_with fail
     refine(within_any _ _ _ _).mono ?_;rintro e w' ⟨rfl,rfl⟩;go_wp2_with fail
     go_ret;exact⟨ret_bool E.out.symm,unhide HBW⟩
 ·have HST:=hide hst;cases hl:inR line 1 100000
  ·have HL:=hide hl;have E:Hid (res=false):=LINE.out (by rw[EL.out,hst];exact hl);clear hst hl;go_enter Tryd.func34,Tryd.ntmps34;go_wp2_with fail
   refine(isStatement_any _ _).mono ?_;rintro e w' ⟨rfl,rfl⟩;rw[unhide HST];go_wp2_with fail
   refine(within_any _ _ _ _).mono ?_;rintro e w' ⟨rfl,rfl⟩;rw[unhide HL];go_wp2_with fail
   go_ret;exact⟨ret_bool E.out.symm,unhide HBA _ _⟩
  ·have HL:=hide hl;have LT:Hid (lf=true):=by show _=_;rw[EL.out,hst];exact hl
   clear hst hl;cases ff
   ·skip
    have E:Hid (res=false):=GO.out LT.out;go_enter Tryd.func34,Tryd.ntmps34;go_wp2_with fail
    refine(isStatement_any _ _).mono ?_;rintro e w' ⟨rfl,rfl⟩;rw[unhide HST];go_wp2_with fail
    refine(within_any _ _ _ _).mono ?_;rintro e w' ⟨rfl,rfl⟩;rw[unhide HL];go_wp2_with fail
    refine(unhide FF _).mono ?_;rintro e w1 ⟨rfl,hb1⟩;obtain⟨⟨k6,k7⟩,⟨k2,k3⟩,⟨k4,k5⟩,hbw⟩:=unhide CELLS w1 hb1;have HBW:=hide hbw;clear hb1 hbw;go_wp2_with fail
    go_ret;exact⟨ret_bool E.out.symm,unhide HBW⟩
   ·skip
    cases hr:inR refs.length r0 r1
    ·have HR:=hide hr;have E:Hid (res=false):=by have h:=GO.out LT.out;rw[hr]at h;exact h
     clear hr;go_enter Tryd.func34,Tryd.ntmps34;go_wp2_with fail
     refine(isStatement_any _ _).mono ?_;rintro e w' ⟨rfl,rfl⟩;rw[unhide HST];go_wp2_with fail
     refine(within_any _ _ _ _).mono ?_;rintro e w' ⟨rfl,rfl⟩;rw[unhide HL];go_wp2_with fail
     refine(unhide FF _).mono ?_;rintro e w1 ⟨rfl,hb1⟩;obtain⟨⟨k6,k7⟩,⟨k2,k3⟩,⟨k4,k5⟩,hbw⟩:=unhide CELLS w1 hb1;have HBW:=hide hbw;clear hb1 hbw;go_wp2_with fail
     refine(within_any _ _ _ _).mono ?_;rintro e w' ⟨rfl,rfl⟩;rw[unhide HR];go_wp2_with fail
     go_ret;exact⟨ret_bool E.out.symm,unhide HBW⟩
    ·have HR:=hide hr;have E:Hid (res=inR kids.length k0 k1):=by have h:=GO.out LT.out;rw[hr]at h;exact h
     clear hr;go_enter Tryd.func34,Tryd.ntmps34;go_wp2_with fail
     refine(isStatement_any _ _).mono ?_;rintro e w' ⟨rfl,rfl⟩;rw[unhide HST];go_wp2_with fail
     refine(within_any _ _ _ _).mono ?_;rintro e w' ⟨rfl,rfl⟩;rw[unhide HL];go_wp2_with fail
     refine(unhide FF _).mono ?_;rintro e w1 ⟨rfl,hb1⟩;obtain⟨⟨k6,k7⟩,⟨k2,k3⟩,⟨k4,k5⟩,hbw⟩:=unhide CELLS w1 hb1;have HBW:=hide hbw;clear hb1 hbw;go_wp2_with fail
     refine(within_any _ _ _ _).mono ?_;rintro e w' ⟨rfl,rfl⟩;rw[unhide HR];go_wp2_with fail
     refine(within_any _ _ _ _).mono ?_;rintro e w' ⟨rfl,rfl⟩;go_wp2_with fail
     go_ret;exact⟨ret_bool E.out.symm,unhide HBW⟩
attribute [local go_sem] run_store_float
def kidFit (ns:List NodeD)(p i:Nat):Bool:=inR (kidI (nd ns p) i) 0 ((p:Int)-1)&&mayFit (nd ns p) i (nd ns (kidI (nd ns p) i).toNat).kind
def kidsFits (ns:List NodeD)(p:Nat):Bool:=allFrom (kidFit ns p) 0 (nd ns p).kids.length&&(!((nd ns p).kind==35)||((nd ns p).kids.length % 2==0))
theorem kidsFit_any (a:Option Addr)(ns:List NodeD)(c p:Nat)(S:Nat->Prop)(w:World)(hs:NodesAt w S a ns)(hB:∀ b,S b->b<w.heap.size)(hp:p<ns.length)(hkl:(nd ns p).kids.length<=1048576) :
  Calls Tryd.prog 35 #[.slice a ns.length c,.int .i64 p] w fun e w'=>e=.returned (.bool (kidsFits ns p))/\Below w.heap.size w w':=by
 have hn:=hs.1;obtain⟨b,off,rfl,hb,hcc⟩:=hs.2 (by omega);have N:NodeCells w S b (off+p * 8) (nd ns p):=hcc p hp;obtain⟨ra,rc,hr,hrI⟩:=N.refs;obtain⟨ka,kc,hkk,hkI⟩:=N.kids;have c0:=N.kind;have c1:=N.line;have c2:=N.op;have c3:=N.num;have c4:=N.flt;have c5:=N.str;have hrl:=hrI.1;have KI:=hide hkI;have HCC:Hid (∀ j,j<ns.length->w.cell? ⟨b,off+j * 8,none⟩=some (.int .i64 (nd ns j).kind)):=fun j hj=>(hcc j hj).kind;have HB:=hide hB;have hbs:b<w.heap.size:=hB b hb;have MS:Hid (∀(i:Nat) (k:Int) (W:World),i<(nd ns p).kids.length->Calls Tryd.prog 54 #[.agg #[.int .i64 (nd ns p).kind,.int .i64 (nd ns p).line,.int .i64 (nd ns p).op,.int .i64 (nd ns p).num,.float .f64 (nd ns p).flt,.string (nd ns p).str,.slice ra (nd ns p).refs.length rc,.slice ka (nd ns p).kids.length kc],.int .i64 i,.int .i64 k] W fun e w'=>e=.returned (.bool (mayFit (nd ns p) i k))/\Below W.heap.size W w'):=fun i k W hi=>mayStand_any (nd ns p) ra ka rc kc i k W hi (by omega) hrl;have KF:Hid (∀ i,kidFit ns p i=(inR ((nd ns p).kids[i]?.getD 0) 0 ((p:Int)-1)&&mayFit (nd ns p) i (nd ns ((nd ns p).kids[i]?.getD 0).toNat).kind)):=fun i=>rfl;have EF:Hid (kidsFits ns p=(allFrom (kidFit ns p) 0 (nd ns p).kids.length&&(!((nd ns p).kind==35)||((nd ns p).kids.length % 2==0)))):=rfl;clear N hrI hkI hcc hs hB;generalize hy:nd ns p=y at *;clear hy;obtain⟨kind,line,op,num,flt,str,refs,kids⟩:=y;simp only at *;generalize kidsFits ns p=res at *;have X:Hid (∀ W,Below (w.heap.size+1) (w.alloc (.cells #[.int .i64 kind,.int .i64 line,.int .i64 op,.int .i64 num,.float .f64 flt,.string str,.slice ra refs.length rc,.slice ka kids.length kc] 59)) W ->
   (W.cell? ⟨w.heap.size,0,none⟩=some (.int .i64 kind)/\W.cell? ⟨w.heap.size,1,none⟩=some (.int .i64 line)/\W.cell? ⟨w.heap.size,2,none⟩=some (.int .i64 op)/\W.cell? ⟨w.heap.size,3,none⟩=some (.int .i64 num))/\(W.cell? ⟨w.heap.size,4,none⟩=some (.float .f64 flt)/\W.cell? ⟨w.heap.size,5,none⟩=some (.string str)/\W.cell? ⟨w.heap.size,6,none⟩=some (.slice ra refs.length rc)/\W.cell? ⟨w.heap.size,7,none⟩=some (.slice ka kids.length kc))/\Below w.heap.size w W):=fun W hW=>by
  have hc:∀ j,W.cell? ⟨w.heap.size,j,none⟩=_:=fun j=>hW.cell (p:=⟨w.heap.size,j,none⟩) (by simp);exact⟨⟨by rw[hc];simp[go_sem],by rw[hc];simp[go_sem],by rw[hc];simp[go_sem],by rw[hc];simp[go_sem]⟩,⟨by rw[hc];simp[go_sem],by rw[hc];simp[go_sem],by rw[hc];simp[go_sem],by rw[hc];simp[go_sem]⟩,((Below.refl _ _).alloc (Nat.le_refl _) _).trans (hW.mono (by omega))⟩
 have X0:Hid (Below (w.heap.size+1) (w.alloc (.cells #[.int .i64 kind,.int .i64 line,.int .i64 op,.int .i64 num,.float .f64 flt,.string str,.slice ra refs.length rc,.slice ka kids.length kc] 59)) (w.alloc (.cells #[.int .i64 kind,.int .i64 line,.int .i64 op,.int .i64 num,.float .f64 flt,.string str,.slice ra refs.length rc,.slice ka kids.length kc] 59))):=Below.refl _ _;have hwp:IntKind.i64.wrap ((p:Int)-1)=(p:Int)-1:=wrap_ok _ (by omega) (by omega);go_enter Tryd.func35,Tryd.ntmps35;go_wp2_with fail
 go_loopg [15] kids.length (fun g i wr=>∃(k:Nat),k+g=kids.length/\i=.int .i64 k/\Below (w.heap.size+1) (w.alloc (.cells #[.int .i64 kind,.int .i64 line,.int .i64 op,.int .i64 num,.float .f64 flt,.string str,.slice ra refs.length rc,.slice ka kids.length kc] 59)) wr/\Hid (∀ j,j<k->kidFit ns p j=true))
 case atStart=>exact⟨0,by omega,rfl,unhide X0,fun j h=>absurd h (Nat.not_lt_zero _)⟩
 case round=>
  clear c0 c1 c2 c3 c4 c5 hr hkk X0;obtain⟨k,hk,rfl,hx,hall⟩:=hrel;obtain⟨⟨d0,d1,d2,d3⟩,⟨d4,d5,d6,d7⟩,hbw⟩:=unhide X wr hx;have HX:=hide hx;have HBW:=hide hbw;have sz:w.heap.size+1<=wr.heap.size:=by have:=hx.size;simpa using this
  by_cases hlt:k<kids.length
  ·obtain⟨b2,off2,rfl,hb2,hc2⟩:=((unhide KI).keep hbw (unhide HB)).2 (by omega);have hck:=hc2 k hlt;have hf:=unhide KF k;clear hc2;cases hq:inR (kids[k]?.getD 0) 0 ((p:Int)-1)
   ·have E:Hid (res=false):=by show _=_;rw[EF.out,allFrom_false (Nat.zero_le _) hlt (by rw[hf,hq];rfl)];rfl
    have HQ:Hid (∀ W:World,Calls Tryd.prog 31 #[.int .i64 (kids[k]?.getD 0),.int .i64 0,.int .i64 ((p:Int)-1)] W fun e w'=>e=.returned (.bool false)/\w'=W):=fun W=>(within_any _ _ _ W).mono (by rintro e w' ⟨rfl,rfl⟩;exact⟨ret_bool hq,rfl⟩);have HBQ:Hid (∀ q,Below w.heap.size w (wr.drewN q)):=fun q=>hbw.trans (below_drewN _ _ q);clear hq hf hx hbw;generalize kids[k]?.getD 0=kv at *;go_wp2_with fail
    go_quiet (first | (go_at_call 31;refine Calls.quiet_of_same (unhide HQ _)))
    go_wp2_with fail
    go_ret;exact⟨ret_bool E.out.symm,unhide HBQ _⟩
   ·have hr0:0<=kids[k]?.getD 0/\kids[k]?.getD 0<=(p:Int)-1:=by
     unfold inR at hq;rw[Bool.and_eq_true]at hq;exact⟨of_decide_eq_true hq.1,of_decide_eq_true hq.2⟩
    obtain⟨m,hm⟩:=Int.eq_ofNat_of_zero_le hr0.1;have hml:m<ns.length:=by omega
    have hckm:wr.cell? ⟨b,off+m * 8,none⟩=some (.int .i64 (nd ns m).kind):=by rw[hbw.cell (p:=⟨b,off+m * 8,none⟩) hbs];exact unhide HCC m hml
    have hf:kidFit ns p k=mayFit (⟨kind,line,op,num,flt,str,refs,kids⟩:NodeD) k (nd ns m).kind:=by rw[hf,hq,hm];rfl
    have HQ:Hid (inR (m:Int) 0 ((p:Int)-1)=true):=by show _=_;rw[<-hm];exact hq
    rw[hm]at hck;have hm0:(0:Int)<=m:=by omega
    have hm1:(m:Int)<ns.length:=by omega
    have CALL:Hid (Calls Tryd.prog 54 #[.agg #[.int .i64 kind,.int .i64 line,.int .i64 op,.int .i64 num,.float .f64 flt,.string str,.slice ra refs.length rc,.slice (some ⟨b2,off2,none⟩) kids.length kc],.int .i64 k,.int .i64 (nd ns m).kind] wr.drew fun e w'=>e=.returned (.bool (mayFit (⟨kind,line,op,num,flt,str,refs,kids⟩:NodeD) k (nd ns m).kind))/\Below (w.heap.size+1) (w.alloc (.cells #[.int .i64 kind,.int .i64 line,.int .i64 op,.int .i64 num,.float .f64 flt,.string str,.slice ra refs.length rc,.slice (some ⟨b2,off2,none⟩) kids.length kc] 59)) w' /\
      ((w'.cell? ⟨w.heap.size,0,none⟩=some (.int .i64 kind)/\w'.cell? ⟨w.heap.size,1,none⟩=some (.int .i64 line)/\w'.cell? ⟨w.heap.size,2,none⟩=some (.int .i64 op)/\w'.cell? ⟨w.heap.size,3,none⟩=some (.int .i64 num))/\(w'.cell? ⟨w.heap.size,4,none⟩=some (.float .f64 flt)/\w'.cell? ⟨w.heap.size,5,none⟩=some (.string str)/\w'.cell? ⟨w.heap.size,6,none⟩=some (.slice ra refs.length rc)/\w'.cell? ⟨w.heap.size,7,none⟩=some (.slice (some ⟨b2,off2,none⟩) kids.length kc))/\Below w.heap.size w w')/\w'.cell? ⟨b,off+m * 8,none⟩=some (.int .i64 (nd ns m).kind)):=by
     refine(unhide MS k (nd ns m).kind wr.drew hlt).mono ?_;rintro e w' ⟨rfl,hb'⟩;have hx':Below (w.heap.size+1) (w.alloc (.cells #[.int .i64 kind,.int .i64 line,.int .i64 op,.int .i64 num,.float .f64 flt,.string str,.slice ra refs.length rc,.slice (some ⟨b2,off2,none⟩) kids.length kc] 59)) w':=hx.drew.trans (hb'.mono sz);exact⟨rfl,hx',unhide X w' hx',by rw[hb'.cell (p:=⟨b,off+m * 8,none⟩) (Nat.lt_of_lt_of_le hbs (Nat.le_trans (Nat.le_succ _) sz))];exact hckm⟩
    have EF1:Hid (mayFit (⟨kind,line,op,num,flt,str,refs,kids⟩:NodeD) k (nd ns m).kind=false->res=false):=fun h=>by rw[EF.out,allFrom_false (Nat.zero_le _) hlt (by rw[hf];exact h)];rfl
    have EF2:Hid (mayFit (⟨kind,line,op,num,flt,str,refs,kids⟩:NodeD) k (nd ns m).kind=true->∀ j,j<k+1->kidFit ns p j=true):=fun h j hj=>by
     by_cases e:j=k
     ·subst e;rw[hf];exact h
     ·exact hall.out j (by omega)
    clear hq hr0 hm hf hx hbw hall;generalize (nd ns m).kind=km at *;generalize mayFit (⟨kind,line,op,num,flt,str,refs,kids⟩:NodeD) k km=mf at *;cases mf
    ·have E:Hid (res=false):=EF1.out rfl;go_wp2_with fail
     go_region_held3 (fun w'=>w'.cell? ⟨w.heap.size,0,none⟩=some (.int .i64 kind)/\w'.cell? ⟨w.heap.size,1,none⟩=some (.int .i64 line)/\w'.cell? ⟨w.heap.size,2,none⟩=some (.int .i64 op)/\w'.cell? ⟨w.heap.size,3,none⟩=some (.int .i64 num)/\w'.cell? ⟨w.heap.size,4,none⟩=some (.float .f64 flt)/\w'.cell? ⟨w.heap.size,5,none⟩=some (.string str)/\w'.cell? ⟨w.heap.size,6,none⟩=some (.slice ra refs.length rc)/\w'.cell? ⟨w.heap.size,7,none⟩=some (.slice (some ⟨b2,off2,none⟩) kids.length kc)/\w'.cell? ⟨b,off+m * 8,none⟩=some (.int .i64 km)) (simp[go_sem, *])
      (first | (go_at_call 31;refine(within_any _ _ _ _).mono ?_;rintro e w' ⟨rfl,rfl⟩;(first | rw[unhide HQ] | rw[hwp,unhide HQ])) | (go_at_call 54;refine(unhide CALL).mono ?_;rintro e w7 ⟨rfl,hx7,⟨⟨g0,g1,g2,g3⟩,⟨g4,g5,g6,g7⟩,hbw7⟩,g8⟩))
     go_wp2_with fail
     go_ret;exact⟨ret_bool E.out.symm,hbw7⟩
    ·have HT:Hid (∀ j,j<k+1->kidFit ns p j=true):=EF2.out rfl;clear EF1 EF2;go_wp2_with fail
     go_region_held3 (fun w'=>w'.cell? ⟨w.heap.size,0,none⟩=some (.int .i64 kind)/\w'.cell? ⟨w.heap.size,1,none⟩=some (.int .i64 line)/\w'.cell? ⟨w.heap.size,2,none⟩=some (.int .i64 op)/\w'.cell? ⟨w.heap.size,3,none⟩=some (.int .i64 num)/\w'.cell? ⟨w.heap.size,4,none⟩=some (.float .f64 flt)/\w'.cell? ⟨w.heap.size,5,none⟩=some (.string str)/\w'.cell? ⟨w.heap.size,6,none⟩=some (.slice ra refs.length rc)/\w'.cell? ⟨w.heap.size,7,none⟩=some (.slice (some ⟨b2,off2,none⟩) kids.length kc)/\w'.cell? ⟨b,off+m * 8,none⟩=some (.int .i64 km)) (simp[go_sem, *])
      (first | (go_at_call 31;refine(within_any _ _ _ _).mono ?_;rintro e w' ⟨rfl,rfl⟩;(first | rw[unhide HQ] | rw[hwp,unhide HQ])) | (go_at_call 54;refine(unhide CALL).mono ?_;rintro e w7 ⟨rfl,hx7,⟨⟨g0,g1,g2,g3⟩,⟨g4,g5,g6,g7⟩,hbw7⟩,g8⟩))
     go_wp2_with fail
     go_roundg (kids.length-(k+1))
     case measure=>omega
     case rel=>exact⟨k+1,by omega,by go_num,hx7,HT⟩
  ·have E1:Hid (res=(!(kind==35)||(kids.length % 2==0))):=by show _=_;rw[EF.out,allFrom_true (fun j _ h2=>hall.out j (by omega))];rfl
   clear hx hbw;cases h35:kind==35
   ·have E:Hid (res=true):=by show _=_;rw[E1.out,h35];rfl
    have h35':(kind != 35)=true:=by simp[bne,h35]
    go_wp2_with fail
    go_ret;exact⟨ret_bool E.out.symm,unhide HBW⟩
   ·have E:Hid (res=(kids.length % 2==0)):=by show _=_;rw[E1.out,h35];rfl
    have h35':(kind != 35)=false:=by simp[bne,h35]
    go_wp2_with fail
    go_ret;refine⟨ret_bool ?_,unhide HBW⟩;rw[E.out,Bool.eq_iff_iff];simp only[beq_iff_eq];omega
attribute [local go_sem] run_store_float
structure Role where
 kind:Int
 u:Nat
 r0:Nat
 r1:Nat
 k0:Nat
 k1:Nat
def roleT:List Role:=[
 ⟨1,0,0,0,0,200⟩,⟨2,0,1,9223372036854775807,0,200⟩,⟨3,1,0,0,2,200⟩,⟨4,0,0,0,1,1⟩,⟨5,0,0,0,2,3⟩,⟨6,0,0,0,2,2⟩,⟨7,0,1,1,4,4⟩,⟨8,0,1,4,2,2⟩,
 ⟨9,0,0,0,0,0⟩,⟨10,0,0,0,0,0⟩,⟨11,0,0,0,0,200⟩,⟨12,0,2,2,2,2⟩,⟨13,0,0,0,1,1⟩,⟨14,0,0,0,1,1⟩,
 ⟨20,0,0,0,0,0⟩,⟨21,0,0,0,0,0⟩,⟨22,0,0,0,0,0⟩,⟨23,2,0,0,0,0⟩,⟨24,3,0,0,0,0⟩,⟨25,4,0,0,0,0⟩,⟨26,0,1,1,0,0⟩,⟨27,0,1,1,0,0⟩,⟨28,5,0,0,0,0⟩,
 ⟨29,0,0,0,2,2⟩,⟨30,0,0,0,2,2⟩,⟨31,6,0,0,1,1⟩,⟨32,7,0,0,2,2⟩,⟨33,0,0,0,2,2⟩,⟨34,0,0,0,1,200⟩,⟨35,8,0,0,0,200⟩,⟨36,0,1,1,0,0⟩,⟨37,0,0,0,0,0⟩,⟨38,0,0,0,1,1⟩]
def roleAt (i:Nat):Role:=roleT[i]?.getD ⟨0,0,0,0,0,0⟩
def roleV (i:Nat):Array Value:=#[.int .i64 (roleAt i).kind,.int .i64 (roleAt i).u,.int .i64 (roleAt i).r0,.int .i64 (roleAt i).r1,.int .i64 (roleAt i).k0,.int .i64 (roleAt i).k1]
def roleIx:Nat->Int->Option Nat
 | 0,_=>none
 | k+1,kd=>if kd=(roleAt k).kind then some k else roleIx k kd
theorem roleIx_new:∀ k,k<33->roleIx k (roleAt k).kind=none:=by decide
theorem roleIx_lt:∀ k kd i,roleIx k kd=some i->i<k/\(roleAt i).kind=kd
 | 0,_,_,h=>by cases h
 | k+1,kd,i,h=>by
  unfold roleIx at h;split at h
  ·rename_i e;cases h;exact⟨Nat.lt_succ_self _,e.symm⟩
  ·obtain⟨h1,h2⟩:=roleIx_lt k kd i h;exact⟨by omega,h2⟩
def GTab (w:World):Prop:=∃ cs t fr,w.heap[0]? = some (.cells cs t fr)/\cs.size=198/\∀ i,i<33->cs.extract (i * 6) (i * 6+6)=roleV i
theorem GTab.keep {w w':World}{B:Nat}(h:GTab w)(hb:Below B w w')(hB:0<B):GTab w':=by
 obtain⟨cs,t,fr,h1,h2⟩:=h;exact⟨cs,t,fr,(hb.block 0 hB).trans h1,h2⟩
theorem GTab.pos {w:World}(h:GTab w):0<w.heap.size:=by
 obtain⟨cs,t,fr,h1,h2⟩:=h;exact(Array.getElem?_eq_some_iff.1 h1).1
theorem info_roles:(Tryd.prog.info? 96).map (·.size)=some 198:=by kernel_rfl
theorem zero_role (w:World):(zeroValue 70).run Tryd.prog w=.ok (.agg #[.int .i64 0,.int .i64 0,.int .i64 0,.int .i64 0,.int .i64 0,.int .i64 0]) w:=by kernel_rfl
theorem agg_role (w:World):(isAgg 70).run Tryd.prog w=.ok true w:=by kernel_rfl
theorem size_role (w:World):(sizeOf 70).run Tryd.prog w=.ok 6 w:=by kernel_rfl
theorem run_index_role {cs:Array Value}(hcs:∀ i,i<33->cs.extract (i * 6) (i * 6+6)=roleV i)(w:World)(i:Nat)(hi:i<33):(Instr.index 96 (.agg cs) (.int .i64 (i:Int))).run Tryd.prog w=.ok (.agg (roleV i)) w:=by
 unfold Instr.index;simp only[asIntOf,Sem.run_bind,Sem.run_pure,Result.andThen_ok,run_underlying Tryd.underlying96];rw[if_pos ⟨by omega,by omega⟩];simp only[Sem.run_bind,size_role,Result.andThen_ok,part,agg_role,if_true,Int.toNat_natCast,Sem.run_pure,hcs i hi]
theorem run_makeRoles (w:World):(Instr.makeMap 67 (some (.int .i64 33))).run Tryd.prog w=.ok (.map (some w.heap.size)) (w.alloc (.map #[] 0)):=by
 simp[Instr.makeMap,run_underlying Tryd.underlying67,asInt,asIntOf,Result.andThen]
theorem rolesByKind_any (w:World)(hG:GTab w):Calls Tryd.prog 33 #[] w fun e w'=>∃ b,e=.returned (.map (some b))/\MapI w' b (fun kd=>(roleIx 33 kd).map fun i=>.agg (roleV i))/\w.heap.size<=b/\Below w.heap.size w w':=by
 obtain⟨cs,t,fr,hc,hsz,hcs⟩:=hG;have h0:0<w.heap.size:=(Array.getElem?_eq_some_iff.1 hc).1;have HCS:=hide hcs;have HC:=hide hc;clear hcs;have hmm:=run_makeRoles;have hz:(w.alloc (.map #[] 0)).heap[0]? = some (.cells cs t fr):=(Below.heap_alloc w _ 0 h0).trans hc;have HZ:=hide hz;clear hc hz;go_enter Tryd.func33,Tryd.ntmps33;go_wp2_with (first | (show wpList _ _ _ (Oper.mk _ (Op.load _ (Operand.global _)) _ _ _ _::_) _ _;refine wpList_load_row rfl _ _ rfl 0 rfl t cs fr _ (unhide HZ) Tryd.underlying96 rfl (by rw[hsz];exact info_roles) ?_) | go_in)
 clear hmm;go_loopg [6] 33 (fun g i wr=>∃(k:Nat),k+g=33/\i=.int .i64 k/\Below w.heap.size w wr/\MapI wr w.heap.size (fun kd=>(roleIx k kd).map fun i=>.agg (roleV i)))
 case atStart=>exact⟨0,by omega,rfl,(Below.refl _ _).alloc (Nat.le_refl _) _,MapI.made w⟩
 case round=>
  obtain⟨k,hk,rfl,hb,hM⟩:=hrel;by_cases hlt:k<33
  ·have hix:=run_index_role (unhide HCS) wr k hlt;have HN:Hid (roleIx k (roleAt k).kind=none):=roleIx_new k hlt;have HMS:Hid (∀ kd,(roleIx (k+1) kd).map (fun i=>Value.agg (roleV i))=if kd=(roleAt k).kind then some (.agg (roleV k))else(roleIx k kd).map fun i=>.agg (roleV i)):=fun kd=>by
    show(if kd=(roleAt k).kind then some k else roleIx k kd).map _=_;split<;>rfl
   have hV:roleV k=#[.int .i64 (roleAt k).kind,.int .i64 (roleAt k).u,.int .i64 (roleAt k).r0,.int .i64 (roleAt k).r1,.int .i64 (roleAt k).k0,.int .i64 (roleAt k).k1]:=rfl;rw[hV]at hix HMS;clear hV;generalize roleAt k=ro at *;obtain⟨kd,u,r0,r1,k0,k1⟩:=ro;simp only at *;have HM:=hide hM;clear hM;have hbs:=hb.size;obtain⟨w1,hrun,hM1,hg1⟩:=MapI.put (P:=Tryd.prog) ((unhide HM).block (Below.heap_alloc wr (.cells #[.int .i64 kd,.int .i64 u,.int .i64 r0,.int .i64 r1,.int .i64 k0,.int .i64 k1] 70) _ (unhide HM).lt)) Tryd.underlying67 Tryd.underlying3 kd (.agg #[.int .i64 kd,.int .i64 u,.int .i64 r0,.int .i64 r1,.int .i64 k0,.int .i64 k1]) (by rw[unhide HN];rfl);have HM1:=hide hM1;have HG1:=hide hg1;clear hM1 hg1;go_wp2_with fail
   go_roundg (33-(k+1))
   case measure=>omega
   case rel=>
    refine⟨k+1,by omega,by go_num,?_,(unhide HM1).congr (fun j=>unhide HMS j)⟩;exact(hb.alloc hb.size _).grown (unhide HG1) (by simp;omega) (fun j hj=>by cases hj;exact Nat.le_refl _)
  ·obtain rfl:k=33:=by omega
   go_wp2_with fail
   go_ret;exact⟨_,rfl,hM,Nat.le_refl _,hb⟩
attribute [local go_sem] run_store_float
def nodeFits (ns:List NodeD)(p:Nat):Bool:=match roleIx 33 (nd ns p).kind with
 | none=>false
 | some i=>roleFitsD (nd ns p) (roleAt i).u (roleAt i).r0 (roleAt i).r1 (roleAt i).k0 (roleAt i).k1&&kidsFits ns p
theorem roleAt_u:∀ i,i<33->(roleAt i).u<=8:=by decide
structure NodeW (w:World)(a:Option Addr)(nl c bm:Nat)(wr:World):Prop where
 box:Box2 w a nl c wr
 m:MapI wr bm (fun kd=>(roleIx 33 kd).map fun i=>.agg (roleV i))
section
variable {w:World} {a:Option Addr} {nl c bm:Nat} {wr w2:World}
theorem NodeW.alloc (h:NodeW w a nl c bm wr)(o:Obj):NodeW w a nl c bm (wr.alloc o):=⟨h.box.alloc o,h.m.block (Below.heap_alloc wr o _ h.m.lt)⟩
theorem NodeW.drew (h:NodeW w a nl c bm wr):NodeW w a nl c bm wr.drew:=⟨h.box.drew,h.m⟩
theorem NodeW.below (h:NodeW w a nl c bm wr)(hb:Below wr.heap.size wr w2):NodeW w a nl c bm w2:=⟨h.box.below' hb,h.m.keep hb h.m.lt⟩
end
theorem checkNodes_any (a:Option Addr)(l:List FnD)(c:Nat)(S:Nat->Prop)(w:World)(hG:GTab w)(hs:FnsAt w S a l)(hB:∀ b,S b->b<w.heap.size)(hl:tFns l<=1048576) :
  Calls Tryd.prog 17 #[.agg #[.slice a l.length c]] w fun e w'=>∃ x f n:Int,e=.returned (.agg #[.int .i64 x,.int .i64 f,.int .i64 n]) /\
   ((x=3/\∃ F P:Nat,f=F/\n=P/\First l (fun f p=>!nodeFits (fnD l f).nodes p) F P)\/(x=0/\f=0/\n=0/\NoBad l (fun f p=>!nodeFits (fnD l f).nodes p)))/\Below w.heap.size w w':=by
 have hn:=hs.1;have hll:l.length<=1048576:=by unfold tFns at hl;omega
 have HEL:Hid (∀ f p,f<l.length->p<(fnD l f).nodes.length->(fnD l f).nodes.length<=1048576/\(nd (fnD l f).nodes p).refs.length<=1048576/\(nd (fnD l f).nodes p).kids.length<=1048576):=fun f p hf hp=>by
  have h1:=sumTo_succ tFn l f FnD.z hf;have h2:=sumTo_le tFn l (f+1);have h1:sumTo tFn l (f+1)=sumTo tFn l f+tFn (fnD l f):=h1;have h3:=sumTo_succ tNode (fnD l f).nodes p NodeD.z hp;have h3:sumTo tNode (fnD l f).nodes (p+1)=sumTo tNode (fnD l f).nodes p+tNode (nd (fnD l f).nodes p):=h3;have h4:=sumTo_le tNode (fnD l f).nodes (p+1);unfold tFns at hl;unfold tFn tNodes at h1;unfold tNode at h3;have e:sumAll tFn l=sumAll tFn l:=rfl;unfold tFn tNodes at h2 hl;unfold tNode at h4;refine⟨?_,?_,?_⟩<;>first | omega | (unfold tNode at h1 h2 hl;omega)
 clear hl;have HS:=hide hs;have HB:=hide hB;have X0:Hid (Box2 w a l.length c (box2 w a l.length c)):=Box2.start w a l.length c;have RB:Hid (Calls Tryd.prog 33 #[] (box2 w a l.length c) fun e w'=>∃ b,e=.returned (.map (some b))/\MapI w' b (fun kd=>(roleIx 33 kd).map fun i=>.agg (roleV i))/\(box2 w a l.length c).heap.size<=b/\Below (box2 w a l.length c).heap.size (box2 w a l.length c) w'):=rolesByKind_any _ (hG.keep (box2_below w a l.length c) hG.pos);clear hs hB hG;go_enter Tryd.func17,Tryd.ntmps17;go_wp2_with fail
 refine(unhide RB).mono ?_;rintro e w1 ⟨bm,rfl,hM1,hbm,hb1⟩;have W0:Hid (NodeW w a l.length c bm w1):=⟨(unhide X0).below' hb1,hM1⟩;have u1:=(unhide W0).box.unit;clear hM1 hbm hb1 RB X0;go_wp2_with fail
 go_loopg [14] l.length (fun g i wr=>∃(k:Nat),k+g=l.length/\i=.int .i64 k/\NodeW w a l.length c bm wr/\Hid (∀ f' p',f'<k->p'<(fnD l f').nodes.length->nodeFits (fnD l f').nodes p'=true))
 case atStart=>exact⟨0,by omega,rfl,unhide W0,fun f' p' h=>absurd h (Nat.not_lt_zero _)⟩
 case round=>
  clear u1 W0;obtain⟨f,hk,rfl,hw,hgood⟩:=hrel;have hx:=hw.box;have u0:=hx.unit;by_cases hlt:f<l.length
  ·obtain⟨b,off,rfl,hb,hcc⟩:=((unhide HS).keep hx.old (unhide HB)).2 (by omega);have N:FnCells wr S b (off+f * 7) (fnD l f):=hcc f hlt;have HE2:Hid (∀ p,p<(fnD l f).nodes.length->(fnD l f).nodes.length<=1048576/\(nd (fnD l f).nodes p).refs.length<=1048576/\(nd (fnD l f).nodes p).kids.length<=1048576):=fun p hp=>unhide HEL f p hlt hp;have FIN1:Hid ((∀ p,p<(fnD l f).nodes.length->nodeFits (fnD l f).nodes p=true)->∀ f' p',f'<f+1->p'<(fnD l f').nodes.length->nodeFits (fnD l f').nodes p'=true):=fun h f' p' h1 h2=>by
    by_cases e:f'=f
    ·subst e;exact h p' h2
    ·exact hgood.out f' p' (by omega) h2
   have FIN2:Hid (∀ p,p<(fnD l f).nodes.length->nodeFits (fnD l f).nodes p=false->(∀ q,q<p->nodeFits (fnD l f).nodes q=true)->First l (fun f p=>!nodeFits (fnD l f).nodes p) f p):=fun p hp h1 h2=>
    ⟨hlt,hp,by simp only;rw[h1];rfl,fun f' p' g1 g2 g3=>by
     simp only;rcases g3 with g3 | ⟨rfl,g3⟩
     ·rw[hgood.out f' p' g3 g2];rfl
     ·rw[h2 p' g3];rfl⟩
   clear hcc hgood;generalize fnD l f=x at *;obtain⟨va,vc,hv,hvI⟩:=N.vars;obtain⟨ua,uc,hu,huI⟩:=N.ups;obtain⟨na,nc,hno,hnI⟩:=N.nodes;have c0:=N.name;have c1:=N.line;have c2:=N.params;have c3:=N.rest;have NN:=hide hnI;have hnl:=hnI.1;have HBr:Hid (∀ b,S b->b<wr.heap.size):=fun b h=>Nat.lt_of_lt_of_le (unhide HB b h) hx.old.size;have sz:=hx.size;obtain⟨nm,ln,pr,rs,vars,ups,ns⟩:=x;simp only at *;clear N hvI huI hnI;obtain⟨wo,rfl⟩:∃ wo,wo=wr:=⟨wr,rfl⟩;have P0:Hid (∀ W,Below (wo.heap.size+1) (wo.alloc (.cells #[.string nm,.int .i64 ln,.int .i64 pr,.bool rs,.slice va vars.length vc,.slice ua ups.length uc,.slice na ns.length nc] 49)) W->NodeW w (some ⟨b,off,none⟩) l.length c bm W/\W.cell? ⟨wo.heap.size,6,none⟩=some (.slice na ns.length nc)/\Below wo.heap.size wo W):=fun W hW=>
    ⟨(hw.alloc (.cells #[.string nm,.int .i64 ln,.int .i64 pr,.bool rs,.slice va vars.length vc,.slice ua ups.length uc,.slice na ns.length nc] 49)).below (by simpa using hW),by rw[hW.cell (p:=⟨wo.heap.size,6,none⟩) (by simp)];simp[go_sem],((Below.refl _ _).alloc (Nat.le_refl _) _).trans (hW.mono (by omega))⟩
   clear hw hx;go_wp2_with fail
   clear hv hu hno c0 c1 c2 c3 u0;go_loopg [22] ns.length (fun g i wr=>∃(k:Nat),k+g=ns.length/\i=.int .i64 k/\Below (wo.heap.size+1) (wo.alloc (.cells #[.string nm,.int .i64 ln,.int .i64 pr,.bool rs,.slice va vars.length vc,.slice ua ups.length uc,.slice na ns.length nc] 49)) wr/\Hid (∀ p,p<k->nodeFits ns p=true))
   case atStart=>exact⟨0,by omega,rfl,Below.refl _ _,fun p h=>absurd h (Nat.not_lt_zero _)⟩
   case round=>
    obtain⟨p,hp,rfl,hW,hok⟩:=hrel;obtain⟨hw,f6,hold⟩:=unhide P0 wr hW;have hx:=hw.box;have szr:wo.heap.size+1<=wr.heap.size:=by have:=hW.size;simpa using this
    by_cases hpl:p<ns.length
    ·skip
     obtain⟨bn,offn,rfl,hbn,hcn⟩:=((unhide NN).keep hold (unhide HBr)).2 (by omega);have M:NodeCells wr S bn (offn+p * 8) (nd ns p):=hcn p hpl;clear hcn;obtain⟨ra,rc,hr,hrI⟩:=M.refs;obtain⟨ka,kc,hkk,hkI⟩:=M.kids;have c0:=M.kind;have c1:=M.line;have c2:=M.op;have c3:=M.num;have c4:=M.flt;have c5:=M.str;have hsl:=M.strs;obtain⟨hnn,hrl,hkl⟩:=unhide HE2 p hpl;clear M hrI hkI;have HT:Hid (nodeFits ns p=true->∀ q,q<p+1->nodeFits ns q=true):=fun h q hq=>by
      by_cases e:q=p
      ·subst e;exact h
      ·exact hok.out q (by omega)
     have HF:Hid (nodeFits ns p=false->First l (fun f p=>!nodeFits (fnD l f).nodes p) f p):=fun h=>unhide FIN2 p hpl h hok.out;have KF:Hid (∀ W:World,Below wo.heap.size wo W->Calls Tryd.prog 35 #[.slice (some ⟨bn,offn,none⟩) ns.length nc,.int .i64 p] W fun e w'=>e=.returned (.bool (kidsFits ns p))/\Below W.heap.size W w'):=fun W hW0=>kidsFit_any _ ns nc p S W ((unhide NN).keep hW0 (unhide HBr)) (fun b h=>Nat.lt_of_lt_of_le (unhide HBr b h) hW0.size) hpl hkl;have RF:Hid (∀(kd:Int) (u r0 r1 k0 k1:Nat) (W:World),u<=8->Calls Tryd.prog 34 #[.agg #[.int .i64 (nd ns p).kind,.int .i64 (nd ns p).line,.int .i64 (nd ns p).op,.int .i64 (nd ns p).num,.float .f64 (nd ns p).flt,.string (nd ns p).str,.slice ra (nd ns p).refs.length rc,.slice ka (nd ns p).kids.length kc],.agg #[.int .i64 kd,.int .i64 u,.int .i64 r0,.int .i64 r1,.int .i64 k0,.int .i64 k1]] W fun e w'=>e=.returned (.bool (roleFitsD (nd ns p) u r0 r1 k0 k1))/\Below W.heap.size W w'):=fun kd u r0 r1 k0 k1 W hu=>roleFits_any (nd ns p) ra ka rc kc kd u r0 r1 k0 k1 W hu hkl hrl hsl;have NFE:Hid (nodeFits ns p=match roleIx 33 (nd ns p).kind with | none=>false | some i=>roleFitsD (nd ns p) (roleAt i).u (roleAt i).r0 (roleAt i).r1 (roleAt i).k0 (roleAt i).k1&&kidsFits ns p):=rfl;have HWW:=hide hW;have LK:Hid (∀ o,(Instr.lookup 67 (.map (some bm)) (.int .i64 (nd ns p).kind) true).run Tryd.prog (wr.alloc o)=.ok (.tuple #[((roleIx 33 (nd ns p).kind).map fun i=>Value.agg (roleV i)).getD (.agg #[.int .i64 0,.int .i64 0,.int .i64 0,.int .i64 0,.int .i64 0,.int .i64 0]),.bool ((roleIx 33 (nd ns p).kind).map fun i=>Value.agg (roleV i)).isSome]) (wr.alloc o)):=fun o=>(hw.alloc o).m.look Tryd.underlying67 Tryd.underlying3 (zero_role _) _ true;have hws:w.heap.size+2<=wr.heap.size:=hx.size;have HXW:=hide hx;clear hx hw hW hok hold;cases hri:roleIx 33 (nd ns p).kind with
     | none=>
      have NF:Hid (nodeFits ns p=false):=by show _=_;rw[NFE.out,hri]
      rw[hri]at LK;generalize nd ns p=y at *;obtain⟨kind,line,op,num,flt,str,refs,kids⟩:=y;simp only at *;have lk:(Instr.lookup 67 (.map (some bm)) (.int .i64 kind) true).run Tryd.prog (wr.alloc (.cells #[.int .i64 kind,.int .i64 line,.int .i64 op,.int .i64 num,.float .f64 flt,.string str,.slice ra refs.length rc,.slice ka kids.length kc] 59))=.ok (.tuple #[.agg #[.int .i64 0,.int .i64 0,.int .i64 0,.int .i64 0,.int .i64 0,.int .i64 0],.bool false]) (wr.alloc (.cells #[.int .i64 kind,.int .i64 line,.int .i64 op,.int .i64 num,.float .f64 flt,.string str,.slice ra refs.length rc,.slice ka kids.length kc] 59)):=unhide LK _;have hx2:=unhide HXW;have r0:=hx2.res 0 (by omega);have r1:=hx2.res 1 (by omega);have r2:=hx2.res 2 (by omega);have z0:=hx2.frozen 0;have z1:=hx2.frozen 1;have z2:=hx2.frozen 2;have BB:Hid (∀ v0 v1 v2,Below w.heap.size w (((wr.setCell ⟨w.heap.size+1,0,none⟩ v0).setCell ⟨w.heap.size+1,1,none⟩ v1).setCell ⟨w.heap.size+1,2,none⟩ v2)):=fun v0 v1 v2=>box2_set3 hx2 v0 v1 v2;have hw1:w.heap.size+1<wr.heap.size:=by omega
      have hw2:w.heap.size+1<wr.heap.size+1:=by omega
      have hw3:w.heap.size+1<wr.heap.size+1+1:=by omega
      clear RF KF NFE hri;go_wp2_with fail
      refine bodyPost_ret (v:=.agg #[.int .i64 3,.int .i64 f,.int .i64 p]) (by simp[results,Tryd.results17,go_sem,r0,r1,r2,hw1,hw2]) rfl ⟨3,f,p,rfl,.inl ⟨rfl,f,p,rfl,rfl,unhide HF NF.out⟩,((BB.out _ _ _).alloc (by simp;omega) _).alloc (by simp;omega) _⟩
     | some i=>
      obtain⟨hi33,hki⟩:=roleIx_lt 33 _ i hri;have hu8:=roleAt_u i hi33;have NFI:Hid (nodeFits ns p=(roleFitsD (nd ns p) (roleAt i).u (roleAt i).r0 (roleAt i).r1 (roleAt i).k0 (roleAt i).k1&&kidsFits ns p)):=by show _=_;rw[NFE.out,hri]
      rw[hri]at LK;have LK:Hid (∀ o,(Instr.lookup 67 (.map (some bm)) (.int .i64 (nd ns p).kind) true).run Tryd.prog (wr.alloc o)=.ok (.tuple #[.agg #[.int .i64 (roleAt i).kind,.int .i64 (roleAt i).u,.int .i64 (roleAt i).r0,.int .i64 (roleAt i).r1,.int .i64 (roleAt i).k0,.int .i64 (roleAt i).k1],.bool true]) (wr.alloc o)):=LK;clear NFE hri hki hi33;have RF:Hid (∀ W:World,Calls Tryd.prog 34 #[.agg #[.int .i64 (nd ns p).kind,.int .i64 (nd ns p).line,.int .i64 (nd ns p).op,.int .i64 (nd ns p).num,.float .f64 (nd ns p).flt,.string (nd ns p).str,.slice ra (nd ns p).refs.length rc,.slice ka (nd ns p).kids.length kc],.agg #[.int .i64 (roleAt i).kind,.int .i64 (roleAt i).u,.int .i64 (roleAt i).r0,.int .i64 (roleAt i).r1,.int .i64 (roleAt i).k0,.int .i64 (roleAt i).k1]] W fun e w'=>e=.returned (.bool (roleFitsD (nd ns p) (roleAt i).u (roleAt i).r0 (roleAt i).r1 (roleAt i).k0 (roleAt i).k1))/\Below W.heap.size W w'):=fun W=>unhide RF _ _ _ _ _ _ W hu8;generalize roleAt i=ro at *;obtain⟨kd,u,r0,r1,k0,k1⟩:=ro;generalize nd ns p=y at *;generalize roleFitsD y u r0 r1 k0 k1=rf at *;obtain⟨kind,line,op,num,flt,str,refs,kids⟩:=y;simp only at *;have RF2:Hid (∀ W:World,Calls Tryd.prog 34 #[.agg #[.int .i64 kind,.int .i64 line,.int .i64 op,.int .i64 num,.float .f64 flt,.string str,.slice ra refs.length rc,.slice ka kids.length kc],.agg #[.int .i64 kd,.int .i64 u,.int .i64 r0,.int .i64 r1,.int .i64 k0,.int .i64 k1]] W fun e w'=>e=.returned (.bool rf)/\Below W.heap.size W w'):=RF;have lk:(Instr.lookup 67 (.map (some bm)) (.int .i64 kind) true).run Tryd.prog (wr.alloc (.cells #[.int .i64 kind,.int .i64 line,.int .i64 op,.int .i64 num,.float .f64 flt,.string str,.slice ra refs.length rc,.slice ka kids.length kc] 59))=.ok (.tuple #[.agg #[.int .i64 kd,.int .i64 u,.int .i64 r0,.int .i64 r1,.int .i64 k0,.int .i64 k1],.bool true]) (wr.alloc (.cells #[.int .i64 kind,.int .i64 line,.int .i64 op,.int .i64 num,.float .f64 flt,.string str,.slice ra refs.length rc,.slice ka kids.length kc] 59)):=unhide LK _;have CONT:Hid (∀ W,Below ((wr.alloc (.cells #[.int .i64 kind,.int .i64 line,.int .i64 op,.int .i64 num,.float .f64 flt,.string str,.slice ra refs.length rc,.slice ka kids.length kc] 59)).alloc (.cells #[.int .i64 kd,.int .i64 u,.int .i64 r0,.int .i64 r1,.int .i64 k0,.int .i64 k1] 70)).heap.size ((wr.alloc (.cells #[.int .i64 kind,.int .i64 line,.int .i64 op,.int .i64 num,.float .f64 flt,.string str,.slice ra refs.length rc,.slice ka kids.length kc] 59)).alloc (.cells #[.int .i64 kd,.int .i64 u,.int .i64 r0,.int .i64 r1,.int .i64 k0,.int .i64 k1] 70)) W->Below (wo.heap.size+1) (wo.alloc (.cells #[.string nm,.int .i64 ln,.int .i64 pr,.bool rs,.slice va vars.length vc,.slice ua ups.length uc,.slice (some ⟨bn,offn,none⟩) ns.length nc] 49)) W):=fun W hW=>(((unhide HWW).alloc (by omega) (.cells #[.int .i64 kind,.int .i64 line,.int .i64 op,.int .i64 num,.float .f64 flt,.string str,.slice ra refs.length rc,.slice ka kids.length kc] 59)).alloc (by simp;omega) (.cells #[.int .i64 kd,.int .i64 u,.int .i64 r0,.int .i64 r1,.int .i64 k0,.int .i64 k1] 70)).trans (hW.mono (by simp;omega));clear RF;cases rf
      ·have NF:Hid (nodeFits ns p=false):=NFI.out;go_wp2_with fail
       refine(unhide RF2 _).mono ?_;rintro e w2 ⟨rfl,hb2⟩;have hx2:Box2 w (some ⟨b,off,none⟩) l.length c w2:=(unhide P0 w2 (unhide CONT w2 hb2)).1.box;have r0:=hx2.res 0 (by omega);have r1:=hx2.res 1 (by omega);have r2:=hx2.res 2 (by omega);have z0:=hx2.frozen 0;have z1:=hx2.frozen 1;have z2:=hx2.frozen 2;have BB:Hid (∀ v0 v1 v2,Below w.heap.size w (((w2.setCell ⟨w.heap.size+1,0,none⟩ v0).setCell ⟨w.heap.size+1,1,none⟩ v1).setCell ⟨w.heap.size+1,2,none⟩ v2)):=fun v0 v1 v2=>box2_set3 hx2 v0 v1 v2;clear hb2;go_wp2_with fail
       refine bodyPost_ret (v:=.agg #[.int .i64 3,.int .i64 f,.int .i64 p]) (by simp[results,Tryd.results17,go_sem,r0,r1,r2]) rfl ⟨3,f,p,rfl,.inl ⟨rfl,f,p,rfl,rfl,unhide HF NF.out⟩,BB.out _ _ _⟩
      ·have NFK:Hid (nodeFits ns p=kidsFits ns p):=NFI.out;cases hkf:kidsFits ns p
       ·have NF:Hid (nodeFits ns p=false):=NFK.out.trans hkf;rw[hkf]at KF;go_wp2_with fail
        refine(unhide RF2 _).mono ?_;rintro e w2 ⟨rfl,hb2⟩;obtain⟨hwn2,f62,hold2⟩:=unhide P0 w2 (unhide CONT w2 hb2);have HB2:=hide (unhide CONT w2 hb2);have szw2:wo.heap.size+1<=w2.heap.size:=by have:=(unhide HB2).size;simpa using this
        have KF2:=hide (unhide KF w2 hold2);clear hb2 hwn2 hold2 KF;go_wp2_with fail
        refine(unhide KF2).mono ?_;rintro e w3 ⟨rfl,hb3⟩;have hx2:Box2 w (some ⟨b,off,none⟩) l.length c w3:=(unhide P0 w3 ((unhide HB2).trans (hb3.mono szw2))).1.box;have r0:=hx2.res 0 (by omega);have r1:=hx2.res 1 (by omega);have r2:=hx2.res 2 (by omega);have z0:=hx2.frozen 0;have z1:=hx2.frozen 1;have z2:=hx2.frozen 2;have BB:Hid (∀ v0 v1 v2,Below w.heap.size w (((w3.setCell ⟨w.heap.size+1,0,none⟩ v0).setCell ⟨w.heap.size+1,1,none⟩ v1).setCell ⟨w.heap.size+1,2,none⟩ v2)):=fun v0 v1 v2=>box2_set3 hx2 v0 v1 v2;clear hb3;go_wp2_with fail
        refine bodyPost_ret (v:=.agg #[.int .i64 3,.int .i64 f,.int .i64 p]) (by simp[results,Tryd.results17,go_sem,r0,r1,r2]) rfl ⟨3,f,p,rfl,.inl ⟨rfl,f,p,rfl,rfl,unhide HF NF.out⟩,BB.out _ _ _⟩
       ·have NF:Hid (nodeFits ns p=true):=NFK.out.trans hkf;rw[hkf]at KF;go_wp2_with fail
        refine(unhide RF2 _).mono ?_;rintro e w2 ⟨rfl,hb2⟩;obtain⟨hwn2,f62,hold2⟩:=unhide P0 w2 (unhide CONT w2 hb2);have HB2:=hide (unhide CONT w2 hb2);have szw2:wo.heap.size+1<=w2.heap.size:=by have:=(unhide HB2).size;simpa using this
        have KF2:=hide (unhide KF w2 hold2);clear hb2 hwn2 hold2 KF;go_wp2_with fail
        refine(unhide KF2).mono ?_;rintro e w3 ⟨rfl,hb3⟩;have HB3:=hide ((unhide HB2).trans (hb3.mono szw2));clear hb3;go_wp2_with fail
        go_roundg (ns.length-(p+1))
        case measure=>omega
        case rel=>exact⟨p+1,by omega,by go_num,unhide HB3,unhide HT NF.out⟩
    ·go_wp2_with fail
     go_roundg (l.length-(f+1))
     case measure=>omega
     case rel=>exact⟨f+1,by omega,by go_num,hw,unhide FIN1 (fun p' hp'=>hok.out p' (by omega))⟩
  ·have HH:Hid (NoBad l (fun f p=>!nodeFits (fnD l f).nodes p)):=fun f' p' h1 h2=>by simp only;rw[hgood.out f' p' (by omega) h2];rfl
   have r0:=hx.res 0 (by omega);have r1:=hx.res 1 (by omega);have r2:=hx.res 2 (by omega);have z0:=hx.frozen 0;have z1:=hx.frozen 1;have z2:=hx.frozen 2;have BB:Hid (∀ v0 v1 v2,Below w.heap.size w (((wr.setCell ⟨w.heap.size+1,0,none⟩ v0).setCell ⟨w.heap.size+1,1,none⟩ v1).setCell ⟨w.heap.size+1,2,none⟩ v2)):=fun v0 v1 v2=>box2_set3 hx v0 v1 v2;go_wp2_with fail
   refine bodyPost_ret (v:=.agg #[.int .i64 0,.int .i64 0,.int .i64 0]) (by simp[results,Tryd.results17,go_sem,r0,r1,r2]) rfl ⟨0,0,0,rfl,.inr ⟨rfl,rfl,rfl,unhide HH⟩,BB.out _ _ _⟩
end Go.Proofs.YtpmeihghljnfeaaDoor
