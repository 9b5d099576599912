import Derived.Test.YtofcbekoaghikaaGreatDoorRows
import Derived.Test.YtofcbekoaghikaaGreatDoorPart01
import Derived.WalkKit
import Derived.WalkSpells
import Derived.WalkLawsBesides
set_option linter.unusedSimpArgs false
set_option linter.unusedVariables false
set_option maxHeartbeats 400000
namespace Go.Proofs.YtofcbekoaghikaaGreatDoor
open Go.RowKit
def sumTo {α:Type}(f:α->Nat)(l:List α)(k:Nat):Nat:=((l.take k).map f).sum
def sumAll {α:Type}(f:α->Nat)(l:List α):Nat:=(l.map f).sum
theorem sumTo_zero {α:Type}(f:α->Nat)(l:List α):sumTo f l 0=0:=by simp[sumTo]
theorem sumTo_succ {α:Type}(f:α->Nat)(l:List α)(k:Nat)(d:α)(h:k<l.length):sumTo f l (k+1)=sumTo f l k+f (l[k]?.getD d):=by
 unfold sumTo;rw[List.take_succ_eq_append_getElem h,List.map_append,List.sum_append,List.getElem?_eq_getElem h];simp only[List.map_cons,List.map_nil,List.sum_cons,List.sum_nil,Nat.add_zero,Option.getD_some]
theorem sumTo_len {α:Type}(f:α->Nat)(l:List α):sumTo f l l.length=sumAll f l:=by simp[sumTo,sumAll]
theorem sumTo_le {α:Type}(f:α->Nat)(l:List α)(k:Nat):sumTo f l k<=sumAll f l:=by
 unfold sumTo sumAll
 conv=>rhs;rw[<-List.take_append_drop k l]
 rw[List.map_append,List.sum_append];exact Nat.le_add_right _ _
def bud (left:Int)(t:Nat):Int:=if left<t then -1 else left-t
theorem bud_no {left:Int}{t:Nat}(h:left<t):bud left t=-1:=by simp[bud,h]
theorem bud_yes {left:Int}{t:Nat}(h:(t:Int)<=left):bud left t=left-t:=by unfold bud;rw[if_neg (by omega)]
def tStrs (l:List ByteArray):Nat:=l.length+sumAll ByteArray.size l
def tNode (n:NodeD):Nat:=n.str.size+n.refs.length+n.kids.length
def tNodes (l:List NodeD):Nat:=l.length+sumAll tNode l
def tFn (f:FnD):Nat:=f.name.size+tStrs f.vars+f.ups.length+tNodes f.nodes
def tFns (l:List FnD):Nat:=l.length+sumAll tFn l
theorem ret_int {k:IntKind}{a b:Int}(h:a=b):Ending.returned (.int k a)=.returned (.int k b):=by rw[h]
theorem szIntS_any (a:Option Addr)(n c:Nat)(left:Int)(w:World)(hn:n<=9223372036854775807)(hl:0<=left)(hl2:left<=1048576) :
  Calls Tryz.prog 76 #[.slice a n c,.int .i64 left] w fun e w'=>e=.returned (.int .i64 (bud left n))/\w'=w:=by
 by_cases h:left<n
 ·go_enter Tryz.func76,Tryz.ntmps76
  go_wp2
  go_ret;exact⟨ret_int (bud_no h).symm,rfl⟩
 ·go_enter Tryz.func76,Tryz.ntmps76
  go_wp2
  go_ret;exact⟨ret_int (bud_yes (by omega)).symm,rfl⟩
theorem szUpS_any (a:Option Addr)(n c:Nat)(left:Int)(w:World)(hn:n<=9223372036854775807)(hl:0<=left)(hl2:left<=1048576) :
  Calls Tryz.prog 35 #[.slice a n c,.int .i64 left] w fun e w'=>e=.returned (.int .i64 (bud left n))/\w'=w:=by
 by_cases h:left<n
 ·go_enter Tryz.func35,Tryz.ntmps35
  go_wp2
  go_ret;exact⟨ret_int (bud_no h).symm,rfl⟩
 ·go_enter Tryz.func35,Tryz.ntmps35
  go_wp2
  go_ret;exact⟨ret_int (bud_yes (by omega)).symm,rfl⟩
theorem szStringS_any (a:Option Addr)(l:List ByteArray)(c:Nat)(S:Nat->Prop)(left:Int)(w:World)(hs:StrsAt w S a l)(hl:0<=left)(hl2:left<=1048576) :
  Calls Tryz.prog 34 #[.slice a l.length c,.int .i64 left] w fun e w'=>e=.returned (.int .i64 (bud left (tStrs l)))/\w'=w:=by
 obtain⟨hn,hc⟩:=hs;by_cases h:left<l.length
 ·go_enter Tryz.func34,Tryz.ntmps34
  go_wp2
  go_ret;exact⟨ret_int (bud_no (by unfold tStrs;omega)).symm,rfl⟩
 ·have hle:(l.length:Int)<=left:=by omega
  clear h;have hbig:=hn;go_enter Tryz.func34,Tryz.ntmps34
  go_wp2
  go_loop [1,5] (fun t i=>∃(k:Nat) (x:Int),k<=l.length/\i=.int .i64 k/\t=.int .i64 x/\0<=x/\x<=1048576/\Hid (x=left-l.length-sumTo ByteArray.size l k)) (fun _ i=>l.length-(intOf i).toNat)
  case atStart=>exact⟨0,_,Nat.zero_le _,rfl,rfl,by omega,by omega,show _=_ by rw[sumTo_zero];omega⟩
  case round=>
   obtain⟨k,x,hk,rfl,rfl,hx,hx2,hxe⟩:=hrel;by_cases hlt:k<l.length
   ·obtain⟨b,off,rfl,hb,hcc⟩:=hc (by omega);obtain⟨hsz,hcell⟩:=hcc k hlt;have hsucc:=sumTo_succ ByteArray.size l k ByteArray.empty hlt;have hle2:=sumTo_le ByteArray.size l (k+1);have HS:Hid (sumTo ByteArray.size l (k+1)=sumTo ByteArray.size l k+(l[k]?.getD ByteArray.empty).size/\sumTo ByteArray.size l (k+1)<=sumAll ByteArray.size l):=⟨hsucc,hle2⟩;clear hsucc hle2 hcc;generalize l[k]?.getD ByteArray.empty=s at *;by_cases hq:x<s.size
    ·go_wp2
     go_ret;have h1:=HS.out;have h2:=hxe.out;exact⟨ret_int (bud_no (by unfold tStrs;omega)).symm,rfl⟩
    ·go_wp2
     go_round
     case rel=>
      have h1:=HS.out;have h2:=hxe.out;exact⟨k+1,x-s.size,by omega,by go_num,by go_num,by omega,by omega,show _=_ by omega⟩
     case measure=>simp[intOf];omega
   ·have hkk:k=l.length:=by omega
    have HK:Hid (k=l.length):=hkk;clear hkk
    go_wp2
    go_ret;have h1:=sumTo_len ByteArray.size l;have h2:=hxe.out;have h3:=HK.out;rw[h3,h1]at h2;exact⟨ret_int (by rw[bud_yes (by unfold tStrs;omega)];unfold tStrs;omega),rfl⟩
theorem szNode_any (k ln op nm:Int)(fl:Nat)(s:ByteArray)(a1 a2:Option Addr)(n1 c1 n2 c2:Nat)(left:Int)(w:World)(hs:s.size<=9223372036854775807)(h1:n1<=9223372036854775807)(h2:n2<=9223372036854775807)(hl:0<=left)(hl2:left<=1048576) :
  Calls Tryz.prog 58 #[.agg #[.int .i64 k,.int .i64 ln,.int .i64 op,.int .i64 nm,.float .f64 fl,.string s,.slice a1 n1 c1,.slice a2 n2 c2],.int .i64 left] w fun e w'=>
   e=.returned (.int .i64 (bud left (s.size+n1+n2)))/\Below w.heap.size w w':=by
 by_cases q1:left<s.size
 ·go_enter Tryz.func58,Tryz.ntmps58;go_wp2_with fail
  go_ret;exact⟨ret_int (bud_no (by omega)).symm,(Below.refl _ _).alloc (Nat.le_refl _) _⟩
 by_cases q2:left-s.size<n1
 ·have B1:Hid (bud (left-s.size) n1=-1):=bud_no q2;go_enter Tryz.func58,Tryz.ntmps58;go_wp2_with fail
  refine(szIntS_any _ _ _ _ _ h1 (by omega) (by omega)).mono ?_;rintro e w' ⟨rfl,rfl⟩;rw[B1.out];go_wp2_with fail
  go_ret;exact⟨ret_int (bud_no (by omega)).symm,(Below.refl _ _).alloc (Nat.le_refl _) _⟩
 have B1:Hid (bud (left-s.size) n1=left-s.size-n1):=bud_yes (by omega);by_cases q3:left-s.size-n1<n2
 ·have B2:Hid (bud (left-s.size-n1) n2=-1):=bud_no q3;go_enter Tryz.func58,Tryz.ntmps58;go_wp2_with fail
  refine(szIntS_any _ _ _ _ _ h1 (by omega) (by omega)).mono ?_;rintro e w' ⟨rfl,rfl⟩;rw[B1.out];go_wp2_with fail
  refine(szIntS_any _ _ _ _ _ h2 (by omega) (by omega)).mono ?_;rintro e w' ⟨rfl,rfl⟩;rw[B2.out];go_wp2_with fail
  go_ret;exact⟨ret_int (bud_no (by omega)).symm,(Below.refl _ _).alloc (Nat.le_refl _) _⟩
 ·have B2:Hid (bud (left-s.size-n1) n2=left-s.size-n1-n2):=bud_yes (by omega);go_enter Tryz.func58,Tryz.ntmps58;go_wp2_with fail
  refine(szIntS_any _ _ _ _ _ h1 (by omega) (by omega)).mono ?_;rintro e w' ⟨rfl,rfl⟩;rw[B1.out];go_wp2_with fail
  refine(szIntS_any _ _ _ _ _ h2 (by omega) (by omega)).mono ?_;rintro e w' ⟨rfl,rfl⟩;rw[B2.out];go_wp2_with fail
  go_ret;exact⟨ret_int (by rw[bud_yes (by omega)];omega),(Below.refl _ _).alloc (Nat.le_refl _) _⟩
theorem szNodeS_any (a:Option Addr)(l:List NodeD)(c:Nat)(S:Nat->Prop)(left:Int)(w:World)(hs:NodesAt w S a l)(hB:∀ b,S b->b<w.heap.size)(hl:0<=left)(hl2:left<=1048576) :
  Calls Tryz.prog 36 #[.slice a l.length c,.int .i64 left] w fun e w'=>e=.returned (.int .i64 (bud left (tNodes l)))/\Below w.heap.size w w':=by
 have hn:=hs.1;by_cases h:left<l.length
 ·go_enter Tryz.func36,Tryz.ntmps36;go_wp2_with fail
  go_ret;exact⟨ret_int (bud_no (by unfold tNodes;omega)).symm,Below.refl _ _⟩
 ·have hle:(l.length:Int)<=left:=by omega
  clear h;go_enter Tryz.func36,Tryz.ntmps36;go_wp2_with fail
  go_loopw [1,5] (fun t i wr=>∃(k:Nat) (x:Int),k<=l.length/\i=.int .i64 k/\t=.int .i64 x/\0<=x/\x<=1048576/\Hid (x=left-l.length-sumTo tNode l k)/\Below w.heap.size w wr) (fun _ i _=>l.length-(intOf i).toNat)
  case atStart=>exact⟨0,_,Nat.zero_le _,rfl,rfl,by omega,by omega,show _=_ by rw[sumTo_zero];omega,Below.refl _ _⟩
  case round=>
   obtain⟨k,x,hk,rfl,rfl,hx,hx2,hxe,hbw⟩:=hrel;by_cases hlt:k<l.length
   ·obtain⟨b,off,rfl,hb,hcc⟩:=(hs.keep hbw hB).2 (by omega);have N:=hcc k hlt;have HS:Hid (sumTo tNode l (k+1)=sumTo tNode l k+tNode (l[k]?.getD NodeD.z)/\sumTo tNode l (k+1)<=sumAll tNode l):=⟨sumTo_succ tNode l k NodeD.z hlt,sumTo_le tNode l (k+1)⟩;clear hcc;generalize l[k]?.getD NodeD.z=nd at *;obtain⟨ra,rc,hr,hrI⟩:=N.refs;obtain⟨ka,kc,hkk,hkI⟩:=N.kids;have c0:=N.kind;have c1:=N.line;have c2:=N.op;have c3:=N.num;have c4:=N.flt;have c5:=N.str;by_cases hq:x<tNode nd
    ·have B1:Hid (bud x (nd.str.size+nd.refs.length+nd.kids.length)=-1):=bud_no (by unfold tNode at hq;omega);go_wp2_with fail
     refine(szNode_any _ _ _ _ _ _ _ _ _ _ _ _ _ _ N.strs hrI.1 hkI.1 (by omega) (by omega)).mono ?_;rintro e w' ⟨rfl,hb'⟩;rw[B1.out];go_wp2_with fail
     go_ret;have h1:=HS.out;have h2:=hxe.out;exact⟨ret_int (bud_no (by unfold tNodes;omega)).symm,hbw.trans (hb'.mono hbw.size)⟩
    ·have B1:Hid (bud x (nd.str.size+nd.refs.length+nd.kids.length)=x-tNode nd):=by show _=_;rw[bud_yes (by unfold tNode at hq;omega)];unfold tNode;omega
     generalize tNode nd=tn at *;go_wp2_with fail
     refine(szNode_any _ _ _ _ _ _ _ _ _ _ _ _ _ _ N.strs hrI.1 hkI.1 (by omega) (by omega)).mono ?_;rintro e w' ⟨rfl,hb'⟩;rw[B1.out];go_wp2_with fail
     go_roundw
     case rel=>
      have h1:=HS.out;have h2:=hxe.out;exact⟨k+1,x-tn,by omega,by go_num,by go_num,by omega,by omega,show _=_ by omega,hbw.trans (hb'.mono hbw.size)⟩
     case measure=>simp[intOf];omega
   ·have HK:Hid (k=l.length):=by show _=_;omega
    go_wp2_with fail
    go_ret;have h1:=sumTo_len tNode l;have h2:=hxe.out;have h3:=HK.out;rw[h3,h1]at h2;exact⟨ret_int (by rw[bud_yes (by unfold tNodes;omega)];unfold tNodes;omega),hbw⟩
theorem szFn_any (nm:ByteArray)(ln pr:Int)(rs:Bool)(vs:List ByteArray)(us:List (Bool×Int))(ns:List NodeD)(a4 a5 a6:Option Addr)(c4 c5 c6:Nat)(S:Nat->Prop)(left:Int)(w:World)
  (hnm:nm.size<=9223372036854775807)(h4:StrsAt w S a4 vs)(h5:UpsAt w S a5 us)(h6:NodesAt w S a6 ns)(hB:∀ b,S b->b<w.heap.size)(hl:0<=left)(hl2:left<=1048576) :
  Calls Tryz.prog 21 #[.agg #[.string nm,.int .i64 ln,.int .i64 pr,.bool rs,.slice a4 vs.length c4,.slice a5 us.length c5,.slice a6 ns.length c6],.int .i64 left] w fun e w'=>
   e=.returned (.int .i64 (bud left (nm.size+tStrs vs+us.length+tNodes ns)))/\Below w.heap.size w w':=by
 have hbA:∀ o,Below w.heap.size w (w.alloc o):=fun o=>(Below.refl _ _).alloc (Nat.le_refl _) o;have hBA:∀ o:Obj,∀ b,S b->b<(w.alloc o).heap.size:=fun o b h=>Nat.lt_of_lt_of_le (hB b h) (hbA o).size;have K4:Hid (∀ o,StrsAt (w.alloc o) S a4 vs):=fun o=>h4.keep (hbA o) hB;have K5:Hid (∀ o,UpsAt (w.alloc o) S a5 us):=fun o=>h5.keep (hbA o) hB;have K6:Hid (∀ o,NodesAt (w.alloc o) S a6 ns):=fun o=>h6.keep (hbA o) hB;have H5:=h5.1;by_cases q1:left<nm.size
 ·go_enter Tryz.func21,Tryz.ntmps21;go_wp2_with fail
  go_ret;exact⟨ret_int (bud_no (by omega)).symm,hbA _⟩
 by_cases q2:left-nm.size<tStrs vs
 ·have B1:Hid (bud (left-nm.size) (tStrs vs)=-1):=bud_no q2;go_enter Tryz.func21,Tryz.ntmps21;go_wp2_with fail
  refine(szStringS_any _ _ _ S _ _ (K4.out _) (by omega) (by omega)).mono ?_;rintro e w' ⟨rfl,rfl⟩;rw[B1.out];go_wp2_with fail
  go_ret;exact⟨ret_int (bud_no (by omega)).symm,hbA _⟩
 have B1:Hid (bud (left-nm.size) (tStrs vs)=left-nm.size-tStrs vs):=bud_yes (by omega);by_cases q3:left-nm.size-tStrs vs<us.length
 ·have B2:Hid (bud (left-nm.size-tStrs vs) us.length=-1):=bud_no q3;go_enter Tryz.func21,Tryz.ntmps21;go_wp2_with fail
  refine(szStringS_any _ _ _ S _ _ (K4.out _) (by omega) (by omega)).mono ?_;rintro e w' ⟨rfl,rfl⟩;rw[B1.out];go_wp2_with fail
  refine(szUpS_any _ _ _ _ _ H5 (by omega) (by omega)).mono ?_;rintro e w' ⟨rfl,rfl⟩;rw[B2.out];go_wp2_with fail
  go_ret;exact⟨ret_int (bud_no (by omega)).symm,hbA _⟩
 have B2:Hid (bud (left-nm.size-tStrs vs) us.length=left-nm.size-tStrs vs-us.length):=bud_yes (by omega);by_cases q4:left-nm.size-tStrs vs-us.length<tNodes ns
 ·have B3:Hid (bud (left-nm.size-tStrs vs-us.length) (tNodes ns)=-1):=bud_no q4;go_enter Tryz.func21,Tryz.ntmps21;go_wp2_with fail
  refine(szStringS_any _ _ _ S _ _ (K4.out _) (by omega) (by omega)).mono ?_;rintro e w' ⟨rfl,rfl⟩;rw[B1.out];go_wp2_with fail
  refine(szUpS_any _ _ _ _ _ H5 (by omega) (by omega)).mono ?_;rintro e w' ⟨rfl,rfl⟩;rw[B2.out];go_wp2_with fail
  refine(szNodeS_any _ _ _ S _ _ (K6.out _) (hBA _) (by omega) (by omega)).mono ?_;rintro e w' ⟨rfl,hb'⟩;rw[B3.out];go_wp2_with fail
  go_ret;exact⟨ret_int (bud_no (by omega)).symm,(hbA _).trans (hb'.mono (by simp))⟩
 ·have B3:Hid (bud (left-nm.size-tStrs vs-us.length) (tNodes ns)=left-nm.size-tStrs vs-us.length-tNodes ns):=bud_yes (by omega);go_enter Tryz.func21,Tryz.ntmps21;go_wp2_with fail
  refine(szStringS_any _ _ _ S _ _ (K4.out _) (by omega) (by omega)).mono ?_;rintro e w' ⟨rfl,rfl⟩;rw[B1.out];go_wp2_with fail
  refine(szUpS_any _ _ _ _ _ H5 (by omega) (by omega)).mono ?_;rintro e w' ⟨rfl,rfl⟩;rw[B2.out];go_wp2_with fail
  refine(szNodeS_any _ _ _ S _ _ (K6.out _) (hBA _) (by omega) (by omega)).mono ?_;rintro e w' ⟨rfl,hb'⟩;rw[B3.out];go_wp2_with fail
  go_ret;exact⟨ret_int (by rw[bud_yes (by omega)];omega),(hbA _).trans (hb'.mono (by simp))⟩
theorem szFnS_any (a:Option Addr)(l:List FnD)(c:Nat)(S:Nat->Prop)(left:Int)(w:World)(hs:FnsAt w S a l)(hB:∀ b,S b->b<w.heap.size)(hl:0<=left)(hl2:left<=1048576) :
  Calls Tryz.prog 13 #[.slice a l.length c,.int .i64 left] w fun e w'=>e=.returned (.int .i64 (bud left (tFns l)))/\Below w.heap.size w w':=by
 have hn:=hs.1;by_cases h:left<l.length
 ·go_enter Tryz.func13,Tryz.ntmps13;go_wp2_with fail
  go_ret;exact⟨ret_int (bud_no (by unfold tFns;omega)).symm,Below.refl _ _⟩
 ·have hle:(l.length:Int)<=left:=by omega
  clear h;go_enter Tryz.func13,Tryz.ntmps13;go_wp2_with fail
  go_loopw [1,5] (fun t i wr=>∃(k:Nat) (x:Int),k<=l.length/\i=.int .i64 k/\t=.int .i64 x/\0<=x/\x<=1048576/\Hid (x=left-l.length-sumTo tFn l k)/\Below w.heap.size w wr) (fun _ i _=>l.length-(intOf i).toNat)
  case atStart=>exact⟨0,_,Nat.zero_le _,rfl,rfl,by omega,by omega,show _=_ by rw[sumTo_zero];omega,Below.refl _ _⟩
  case round=>
   obtain⟨k,x,hk,rfl,rfl,hx,hx2,hxe,hbw⟩:=hrel;have hBr:∀ b,S b->b<wr.heap.size:=fun b h=>Nat.lt_of_lt_of_le (hB b h) hbw.size;by_cases hlt:k<l.length
   ·obtain⟨b,off,rfl,hb,hcc⟩:=(hs.keep hbw hB).2 (by omega);have N:=hcc k hlt;have HS:Hid (sumTo tFn l (k+1)=sumTo tFn l k+tFn (l[k]?.getD FnD.z)/\sumTo tFn l (k+1)<=sumAll tFn l):=⟨sumTo_succ tFn l k FnD.z hlt,sumTo_le tFn l (k+1)⟩;clear hcc;generalize l[k]?.getD FnD.z=fd at *;obtain⟨a4,c4,h4,H4⟩:=N.vars;obtain⟨a5,c5,h5,H5⟩:=N.ups;obtain⟨a6,c6,h6,H6⟩:=N.nodes;have c0:=N.name;have c1:=N.line;have c2:=N.params;have c3:=N.rest;by_cases hq:x<tFn fd
    ·have B1:Hid (bud x (fd.name.size+tStrs fd.vars+fd.ups.length+tNodes fd.nodes)=-1):=bud_no (by unfold tFn at hq;omega);go_wp2_with fail
     refine(szFn_any _ _ _ _ _ _ _ _ _ _ _ _ _ S _ _ N.names H4 H5 H6 hBr (by omega) (by omega)).mono ?_;rintro e w' ⟨rfl,hb'⟩;rw[B1.out];go_wp2_with fail
     go_ret;have h1:=HS.out;have h2:=hxe.out;exact⟨ret_int (bud_no (by unfold tFns;omega)).symm,hbw.trans (hb'.mono hbw.size)⟩
    ·have B1:Hid (bud x (fd.name.size+tStrs fd.vars+fd.ups.length+tNodes fd.nodes)=x-tFn fd):=by show _=_;rw[bud_yes (by unfold tFn at hq;omega)];unfold tFn;omega
     generalize tFn fd=tn at *;go_wp2_with fail
     refine(szFn_any _ _ _ _ _ _ _ _ _ _ _ _ _ S _ _ N.names H4 H5 H6 hBr (by omega) (by omega)).mono ?_;rintro e w' ⟨rfl,hb'⟩;rw[B1.out];go_wp2_with fail
     go_roundw
     case rel=>
      have h1:=HS.out;have h2:=hxe.out;exact⟨k+1,x-tn,by omega,by go_num,by go_num,by omega,by omega,show _=_ by omega,hbw.trans (hb'.mono hbw.size)⟩
     case measure=>simp[intOf];omega
   ·have HK:Hid (k=l.length):=by show _=_;omega
    go_wp2_with fail
    go_ret;have h1:=sumTo_len tFn l;have h2:=hxe.out;have h3:=HK.out;rw[h3,h1]at h2;exact⟨ret_int (by rw[bud_yes (by unfold tFns;omega)];unfold tFns;omega),hbw⟩
theorem szUnit_any (a:Option Addr)(l:List FnD)(c:Nat)(S:Nat->Prop)(w:World)(hs:FnsAt w S a l)(hB:∀ b,S b->b<w.heap.size) :
  Calls Tryz.prog 4 #[.agg #[.slice a l.length c],.int .i64 1048576] w fun e w'=>e=.returned (.int .i64 (bud 1048576 (tFns l)))/\Below w.heap.size w w':=by
 have hbA:∀ o,Below w.heap.size w (w.alloc o):=fun o=>(Below.refl _ _).alloc (Nat.le_refl _) o;have hBA:∀ o:Obj,∀ b,S b->b<(w.alloc o).heap.size:=fun o b h=>Nat.lt_of_lt_of_le (hB b h) (hbA o).size;have K:Hid (∀ o,FnsAt (w.alloc o) S a l):=fun o=>hs.keep (hbA o) hB;by_cases q:(1048576:Int)<tFns l
 ·have B1:Hid (bud 1048576 (tFns l)=-1):=bud_no q;go_enter Tryz.func4,Tryz.ntmps4;go_wp2_with fail
  refine(szFnS_any _ _ _ S _ _ (K.out _) (hBA _) (by omega) (by omega)).mono ?_;rintro e w' ⟨rfl,hb'⟩;rw[B1.out];go_wp2_with fail
  go_ret;exact⟨ret_int B1.out.symm,(hbA _).trans (hb'.mono (by simp))⟩
 ·have B1:Hid (bud 1048576 (tFns l)=1048576-tFns l):=bud_yes (by omega);go_enter Tryz.func4,Tryz.ntmps4;go_wp2_with fail
  refine(szFnS_any _ _ _ S _ _ (K.out _) (hBA _) (by omega) (by omega)).mono ?_;rintro e w' ⟨rfl,hb'⟩;rw[B1.out];go_wp2_with fail
  go_ret;exact⟨ret_int B1.out.symm,(hbA _).trans (hb'.mono (by simp))⟩
end Go.Proofs.YtofcbekoaghikaaGreatDoor
