import Derived.Test.YtofcbekoaghikaaGreatDoorPart36
import Derived.Test.YtofcbekoaghikaaGreatDoorPart15
set_option linter.unusedSimpArgs false
set_option linter.unusedVariables false
set_option maxHeartbeats 2000000
set_option maxRecDepth 100000
namespace Go.Proofs.YtofcbekoaghikaaGreatDoor
open Go.RowKit Go.Maps
def Plans (l:List FnD)(f:Int):Prop:=0<=f/\f<l.length/\UnitFault l 0 0 0
theorem tFns_len (l:List FnD):l.length<=tFns l:=by unfold tFns;omega
theorem canPlan_any (G:World->Prop)(hG:∀ w w',Below w.heap.size w w'->G w->G w')(himp:ImplSaid G)(a:Option Addr)(l:List FnD)(c:Nat)(f:Int)(S:Nat->Prop)(w:World)(g0:G w)(hs:FnsAt w S a l)(hB:∀ b,S b->b<w.heap.size)(hl:tFns l<=1048576) :
  Calls Tryz.prog 17 #[.agg #[.slice a l.length c],.int .i64 f] w fun e w'=>∃ r,e=.returned (.bool r)/\(r=true↔Plans l f)/\Below w.heap.size w w':=by
 have hbA:Below w.heap.size w (w.alloc (.cells #[.slice a l.length c] 30)):=(Below.refl _ _).alloc (Nat.le_refl _) _;have hlen:=tFns_len l;have CU:Hid (Calls Tryz.prog 27 #[.agg #[.slice a l.length c]] (w.alloc (.cells #[.slice a l.length c] 30)) fun e w'=>∃ x f n,e=.returned (.agg #[.int .i64 x,.int .i64 f,.int .i64 n])/\UnitFault l x f n/\Below (w.alloc (.cells #[.slice a l.length c] 30)).heap.size (w.alloc (.cells #[.slice a l.length c] 30)) w'):=
  himp a l c S _ (hG _ _ hbA g0) (hs.keep hbA hB) (fun b h=>Nat.lt_of_lt_of_le (hB b h) hbA.size) hl
 have HBA:=hide hbA;clear hbA;by_cases q:0<=f/\f<=(l.length:Int)-1
 ·have e1:inR f 0 ((l.length:Int)-1)=true:=by unfold inR;simp[q.1,q.2]
  have HQ:=hide q;clear q;go_enter Tryz.func17,Tryz.ntmps17;go_wp2_with fail
  refine(within_any _ _ _ _).mono ?_;rintro e w1 ⟨rfl,rfl⟩;rw[e1];go_wp2_with fail
  refine(unhide CU).mono ?_;rintro e w1 ⟨x,y,n,rfl,hU,hb1⟩;have HU:=hide hU;have HB1:=hide ((unhide HBA).trans (hb1.mono (unhide HBA).size));clear hb1;by_cases x0:x=0
  ·subst x0;obtain⟨rfl,rfl⟩:=unitFault_00 hU;clear hU;go_wp2_with fail
   go_ret;exact⟨true,rfl,⟨fun _=>⟨(unhide HQ).1,by have:=(unhide HQ).2;omega,unhide HU⟩,fun _=>rfl⟩,unhide HB1⟩
  ·have hx0:(x==0)=false:=by simpa using x0
   clear hU;have HX:=hide x0;clear x0;go_wp2_with fail
   all_goals go_ret
   all_goals exact⟨false,rfl,⟨fun h=>(by cases h),fun h=>absurd (unitFault_unique (unhide HU) h.2.2).1 (unhide HX)⟩,unhide HB1⟩
 ·have e1:inR f 0 ((l.length:Int)-1)=false:=by
   unfold inR;by_cases q1:0<=f
   ·rw[decide_eq_false (show ¬f<=(l.length:Int)-1 by omega),Bool.and_false]
   ·rw[decide_eq_false q1,Bool.false_and]
  have HQ:=hide q;clear q;go_enter Tryz.func17,Tryz.ntmps17;go_wp2_with fail
  refine(within_any _ _ _ _).mono ?_;rintro e w1 ⟨rfl,rfl⟩;rw[e1];go_wp2_with fail
  go_ret;exact⟨false,rfl,⟨fun h=>(by cases h),fun h=>absurd ⟨h.1,by have:=h.2.1;omega⟩ (unhide HQ)⟩,unhide HBA⟩
def CapPost (l:List FnD)(f:Int)(w:World)(e:Ending)(w':World):Prop:=
 ∃ a n c,e=.returned (.slice a n c)/\((Plans l f/\n=(fnD l f.toNat).vars.length/\∃ b,a=some ⟨b,0,none⟩/\w.heap.size<=b/\w'.rowIs b 4 n (fun j=>.bool (captured l f.toNat j)))\/(¬Plans l f/\a=none/\n=0))/\Below w.heap.size w w'
theorem spec_Captured_any (a:Option Addr)(l:List FnD)(c:Nat)(f:Int)(S:Nat->Prop)(w:World)(hs:FnsAt w S a l)(hB:∀ b,S b->b<w.heap.size)(hl:tFns l<=1048576) :
  Calls Tryz.prog 5 #[.agg #[.slice a l.length c],.int .i64 f] w (CapPost l f w):=by
 have hbA:Below w.heap.size w (w.alloc (.cells #[.slice a l.length c] 30)):=(Below.refl _ _).alloc (Nat.le_refl _) _;have hlen:=tFns_len l;have FN:Hid (∀ W:World,Below w.heap.size w W->FnsAt W S a l/\∀ b,S b->b<W.heap.size):=fun W hW=>⟨hs.keep hW hB,fun b h=>Nat.lt_of_lt_of_le (hB b h) hW.size⟩;have HBA:=hide hbA;clear hbA hs hB;go_enter Tryz.func5,Tryz.ntmps5;go_wp2_with fail
 refine(spec_CheckUnit_any a l c S _ (unhide FN _ (unhide HBA)).1 (unhide FN _ (unhide HBA)).2 hl).mono ?_;rintro e w1 ⟨x,y,n,rfl,hU,hb1⟩;have HU:=hide hU;have HB1:=hide ((unhide HBA).trans (hb1.mono (unhide HBA).size));have v1:w1.cell? ⟨w.heap.size,0,none⟩=some (.slice a l.length c):=by rw[hb1.cell (p:=⟨w.heap.size,0,none⟩) (by simp)];simp[go_sem]
 have s1:w.heap.size+1<=w1.heap.size:=by have:=hb1.size;simpa using this
 have s1':w.heap.size<w1.heap.size:=by omega
 clear hb1;have HA2:Hid (∀ o,Below w.heap.size w (w1.alloc o)):=fun o=>(unhide HB1).alloc (unhide HB1).size _;by_cases x0:x=0
 ·subst x0;obtain⟨rfl,rfl⟩:=unitFault_00 hU;clear hU;by_cases q1:f<0
  ·have HP:Hid (¬Plans l f):=fun h=>by have:=h.1;omega
   go_wp2_with fail
   go_ret;exact⟨none,0,0,rfl,.inr ⟨unhide HP,rfl,rfl⟩,unhide HA2 _⟩
  by_cases q2:(l.length:Int)<=f
  ·have HP:Hid (¬Plans l f):=fun h=>by have:=h.2.1;omega
   go_wp2_with fail
   go_ret;exact⟨none,0,0,rfl,.inr ⟨unhide HP,rfl,rfl⟩,unhide HA2 _⟩
  obtain⟨fn,rfl⟩:∃ fn:Nat,f=fn:=⟨f.toNat,by omega⟩;have hfn:fn<l.length:=by omega
  have HP:Hid (Plans l fn):=⟨by omega,by omega,unhide HU⟩;have R:=hide (ready_of (unhide HU) hfn);go_wp2_with fail
  refine(l8captured_any a l c fn S _ (unhide FN _ (unhide HA2 _)).1 (unhide FN _ (unhide HA2 _)).2 hfn (unhide R).len (unhide R).vars (unhide R).nodes (unhide R).ups (unhide R).ok).mono ?_;rintro e w2 ⟨b2,rfl,hr2,hb2,hw2⟩;have H2:=hide (And.intro hr2 (And.intro hb2 hw2));clear hr2 hb2 hw2;go_wp2_with fail
  go_ret;obtain⟨hr2,hb2,hw2⟩:=unhide H2;have z:=(unhide HA2 (.cells #[.int .i64 0,.int .i64 0,.int .i64 0] 39)).size;exact⟨_,_,_,rfl,.inl ⟨unhide HP,rfl,b2,rfl,Nat.le_trans z hb2,hr2⟩,(unhide HA2 _).trans (hw2.mono z)⟩
 ·have hx0:(x != 0)=true:=by simpa using x0
  have HP:Hid (¬Plans l f):=fun h=>x0 (unitFault_unique hU h.2.2).1;clear hU x0;go_wp2_with fail
  go_ret;exact⟨none,0,0,rfl,.inr ⟨unhide HP,rfl,rfl⟩,unhide HA2 _⟩
theorem len_set (w:World)(b:Nat)(es:Array MapEntry)(clk:Nat)(h:w.heap[b]? = some (.map es clk))(ty:TypeId):(Builtin.len_ #[66] ty #[.map (some b)]).run Tryz.prog w=.ok (.int .i64 es.size) w:=by
 simp[Builtin.len_,run_underlying Tryz.underlying66,MapKept.run_getObj_map h,goInt,Result.andThen]
theorem len_set_nil (w:World)(ty:TypeId):(Builtin.len_ #[66] ty #[.map none]).run Tryz.prog w=.ok (.int .i64 0) w:=by
 simp[Builtin.len_,run_underlying Tryz.underlying66,goInt,Result.andThen]
theorem capturedOf_any (a:Option Addr)(l:List FnD)(c fn:Nat)(S:Nat->Prop)(w:World)(hs:FnsAt w S a l)(hB:∀ b,S b->b<w.heap.size)(HP:Hid (Plans l fn)) :
  Calls Tryz.prog 18 #[.agg #[.slice a l.length c],.int .i64 (fn:Int)] w (CapPost l fn w):=by
 have hbA:Below w.heap.size w (w.alloc (.cells #[.slice a l.length c] 30)):=(Below.refl _ _).alloc (Nat.le_refl _) _;have FN:Hid (∀ W:World,Below w.heap.size w W->FnsAt W S a l/\∀ b,S b->b<W.heap.size):=fun W hW=>⟨hs.keep hW hB,fun b h=>Nat.lt_of_lt_of_le (hB b h) hW.size⟩;have HB1:=hide hbA;have hfn:fn<l.length:=by have:=(unhide HP).2.1;omega
 have R:=hide (ready_of (unhide HP).2.2 hfn);have hlen:=(unhide R).len;clear hbA hs hB;go_enter Tryz.func18,Tryz.ntmps18;go_wp2_with fail
 refine(closers_any a l c fn S _ (unhide FN _ (unhide HB1)).1 (unhide FN _ (unhide HB1)).2 hfn (unhide R).len (unhide R).vars (unhide R).nodes (unhide R).ups (unhide R).ok).mono ?_;rintro e w2 ⟨bm,m,rfl,hC,hb2⟩;have v2:w2.cell? ⟨w.heap.size,0,none⟩=some (.slice a l.length c):=by rw[hb2.cell (p:=⟨w.heap.size,0,none⟩) (by simp)];simp[go_sem]
 have s2:w.heap.size+1<=w2.heap.size:=by have:=hb2.size;simpa using this
 have s2':w.heap.size<w2.heap.size:=by omega
 have HB2:=hide ((unhide HB1).trans (hb2.mono (unhide HB1).size));have HC:=hide hC;clear hb2 hC;obtain⟨b,off,rfl,hb,hcc⟩:=(unhide FN w2 (unhide HB2)).1.2 (by omega);have NF:FnCells w2 S b (off+fn * 7) (fnD l fn):=hcc fn hfn;obtain⟨va,vc,hva,hvI⟩:=NF.vars;have hbs:b<w2.heap.size:=(unhide FN w2 (unhide HB2)).2 b hb;have hfI:(fn:Int)<l.length:=by omega
 have hfI0:(0:Int)<=(fn:Int):=by omega
 have hv:=(unhide R).vars;clear hcc NF hvI;have HNV:Hid ((fnD l (Int.toNat (fn:Int))).vars.length=(fnD l fn).vars.length):=rfl;have HCF:Hid (∀ j,captured l (Int.toNat (fn:Int)) j=captured l fn j):=fun j=>rfl;have FRZ:Hid (fn<=1000000):=by have:=(unhide R).len;show fn<=1000000;omega
 generalize (fnD l fn).vars.length=nv at *;have hmk:=run_make_row' (P:=Tryz.prog) 26 4 (.bool false) 1 Tryz.underlying26 info_bool rfl .i64 .i64 nv (by omega) (by omega);go_wp2_with fail
 clear hmk;go_loopg [21] nv (fun gg i wr=>∃(k:Nat),k+gg=nv/\i=.int .i64 k/\Below w2.heap.size w2 wr/\wr.rowIs w2.heap.size 4 nv (fun j=>.bool (if j<k then captured l fn j else false)))
 case atStart=>
  refine⟨0,by omega,rfl,(Below.refl _ _).alloc (Nat.le_refl _) _,?_⟩;have:=World.rowIs_made w2 (.bool false) nv 4;simpa using this
 case round=>
  obtain⟨k,hkg,rfl,hw,hrow⟩:=hrel;clear hva v2;by_cases hlt:k<nv
  ·have hC:=(unhide HC).keep hw;obtain⟨lk,hkey⟩:=key_var fn k (unhide FRZ) (by omega);have hlk:=hC.map.look keyed_var Tryz.underlying63 (zero_set _) hkey false;have hg:=hrow.cell hlt;have hf:=hrow.frozen k;have HROW:=hide hrow;have HW:=hide hw;have HS:Hid (∀ x,x=captured l fn k->(wr.setCell ⟨w2.heap.size,k,none⟩ (.bool x)).rowIs w2.heap.size 4 nv (fun j=>.bool (if j<k+1 then captured l fn j else false))):=fun x hx=>((unhide HROW).set k _).congr fun i hi=>by
    by_cases e:i=k
    ·subst e;simp[hx]
    ·have:(i<k+1)=(i<k):=by apply propext;omega
     simp[e,this]
   clear hrow hw;cases hcap:captured l fn k
   ·have hm:=hC.no k hcap;rw[hm]at hlk;unfold varK at hlk;dsimp only[Option.getD_none,if_false,Bool.false_eq_true]at hlk;have HCAP:=hide hcap;have hle:=len_set_nil;clear hC hm hcap;go_wp2_with fail
    go_roundg (nv-(k+1))
    case rel=>exact⟨k+1,by omega,by go_num,(unhide HW).setCell (Nat.le_refl _) _,unhide HS _ (unhide HCAP).symm⟩
    case measure=>omega
   ·obtain⟨bs,hm,hbs',_,_⟩:=hC.yes k hcap;rw[hm]at hlk;unfold varK at hlk;dsimp only[Option.getD_some,if_false,Bool.false_eq_true]at hlk;obtain⟨ms,k0,v0,hms,hk0⟩:=hbs';obtain⟨es,clk,hes,hpos⟩:=hms.some_pos hk0;have hpI:(0:Int)<(es.size:Int):=by omega
    have HCAP:=hide hcap;have hle:=len_set wr bs es clk hes;clear hC hm hcap hms;go_wp2_with fail
    go_roundg (nv-(k+1))
    case rel=>exact⟨k+1,by omega,by go_num,(unhide HW).setCell (Nat.le_refl _) _,unhide HS _ (unhide HCAP).symm⟩
    case measure=>omega
  ·have HK:Hid (k=nv):=by show _=_;omega
   go_wp2_with fail
   go_ret;have e:=HK.out;subst e;refine⟨_,_,_,rfl,.inl ⟨unhide HP,(unhide HNV).symm,_,rfl,(unhide HB2).size,hrow.congr (fun i hi=>by rw[if_pos hi,unhide HCF i])⟩,(unhide HB2).trans (hw.mono (unhide HB2).size)⟩
theorem impl_Captured_any (G:World->Prop)(hG:∀ w w',Below w.heap.size w w'->G w->G w')(himp:ImplSaid G)(a:Option Addr)(l:List FnD)(c:Nat)(f:Int)(S:Nat->Prop)(w:World)(g0:G w)(hs:FnsAt w S a l)(hB:∀ b,S b->b<w.heap.size)(hl:tFns l<=1048576) :
  Calls Tryz.prog 7 #[.agg #[.slice a l.length c],.int .i64 f] w (CapPost l f w):=by
 have hbA:Below w.heap.size w (w.alloc (.cells #[.slice a l.length c] 30)):=(Below.refl _ _).alloc (Nat.le_refl _) _;have FN:Hid (∀ W:World,Below w.heap.size w W->FnsAt W S a l/\∀ b,S b->b<W.heap.size):=fun W hW=>⟨hs.keep hW hB,fun b h=>Nat.lt_of_lt_of_le (hB b h) hW.size⟩;have HBA:=hide hbA;have CP:Hid (Calls Tryz.prog 17 #[.agg #[.slice a l.length c],.int .i64 f] (w.alloc (.cells #[.slice a l.length c] 30)) fun e w'=>∃ r,e=.returned (.bool r)/\(r=true↔Plans l f)/\Below (w.alloc (.cells #[.slice a l.length c] 30)).heap.size (w.alloc (.cells #[.slice a l.length c] 30)) w'):=
  canPlan_any G hG himp a l c f S _ (hG _ _ hbA g0) (hs.keep hbA hB) (fun b h=>Nat.lt_of_lt_of_le (hB b h) hbA.size) hl
 clear hbA hs hB hG himp g0;go_enter Tryz.func7,Tryz.ntmps7;go_wp2_with fail
 refine(unhide CP).mono ?_;rintro e w1 ⟨r,rfl,hr,hb1⟩;have HR:=hide hr;have HB1:=hide ((unhide HBA).trans (hb1.mono (unhide HBA).size));have v1:w1.cell? ⟨w.heap.size,0,none⟩=some (.slice a l.length c):=by rw[hb1.cell (p:=⟨w.heap.size,0,none⟩) (by simp)];simp[go_sem]
 have s1:w.heap.size+1<=w1.heap.size:=by have:=hb1.size;simpa using this
 have s1':w.heap.size<w1.heap.size:=by omega
 clear hb1 hr CP HBA;cases r
 ·go_wp2_with fail
  go_ret;exact⟨none,0,0,rfl,.inr ⟨fun h=>(by have:=(unhide HR).2 h;cases this),rfl,rfl⟩,unhide HB1⟩
 have HP:Hid (Plans l f):=(unhide HR).1 rfl;obtain⟨fn,rfl⟩:∃ fn:Nat,f=fn:=⟨f.toNat,by have:=(unhide HP).1;omega⟩;have FNS:=unhide FN _ (unhide HB1);have CO:=hide (capturedOf_any a l c fn S _ FNS.1 FNS.2 HP);clear HR FNS;go_wp2_with fail
 refine(unhide CO).mono ?_;rintro e w2 ⟨a2,n2,c2,rfl,h2,hb2⟩;have RES:Hid (CapPost l fn w (.returned (.slice a2 n2 c2)) w2):=by
  refine⟨a2,n2,c2,rfl,?_,(unhide HB1).trans (hb2.mono (unhide HB1).size)⟩;rcases h2 with⟨h3,h4,b,h5,h6,h7⟩ | h2
  ·exact .inl ⟨h3,h4,b,h5,Nat.le_trans (unhide HB1).size h6,h7⟩
  ·exact .inr h2
 clear h2 hb2 CO;go_wp2_with fail
 go_ret;exact unhide RES
end Go.Proofs.YtofcbekoaghikaaGreatDoor
