import Derived.Test.YtgghbbpbdaghnaaDoorPart01
import Derived.Test.YtgghbbpbdaghnaaDoorChecked
import Derived.WalkKit
import Derived.WalkSpells
import Derived.WalkLawsBesides
set_option linter.unusedSimpArgs false
set_option linter.unusedVariables false
set_option maxHeartbeats 1000000
namespace Go.Proofs.YtgghbbpbdaghnaaDoor
open Go.RowKit
def sumTo {α:Type}(f:α->Nat)(l:List α)(k:Nat):Nat:=((l.take k).map f).sum
def sumAll {α:Type}(f:α->Nat)(l:List α):Nat:=(l.map f).sum
theorem sumTo_zero {α:Type}(f:α->Nat)(l:List α):sumTo f l 0=0:=by simp[sumTo]
theorem sumTo_succ {α:Type}(f:α->Nat)(l:List α)(k:Nat)(d:α)(h:k<l.length):sumTo f l (k+1)=sumTo f l k+f (l[k]?.getD d):=by
 unfold sumTo;rw[List.take_succ_eq_append_getElem h,List.map_append,List.sum_append,List.getElem?_eq_getElem h];simp only[List.map_cons,List.map_nil,List.sum_cons,List.sum_nil,Nat.add_zero,Option.getD_some]
theorem sumTo_len {α:Type}(f:α->Nat)(l:List α):sumTo f l l.length=sumAll f l:=by simp[sumTo,sumAll]
theorem sumTo_le {α:Type}(f:α->Nat)(l:List α)(k:Nat):sumTo f l k<=sumAll f l:=by
 unfold sumTo sumAll
 conv=>rhs;rw[<-List.take_append_drop k l]
 rw[List.map_append,List.sum_append];exact Nat.le_add_right _ _
def bud (left:Int)(t:Nat):Int:=if left<t then -1 else left-t
theorem bud_no {left:Int}{t:Nat}(h:left<t):bud left t=-1:=by simp[bud,h]
theorem bud_yes {left:Int}{t:Nat}(h:(t:Int)<=left):bud left t=left-t:=by unfold bud;rw[if_neg (by omega)]
def tVal (n:ValD):Nat:=n.str.size
def tVals (l:List ValD):Nat:=l.length+sumAll tVal l
def tNam (n:NamD):Nat:=n.name.size
def tNams (l:List NamD):Nat:=l.length+sumAll tNam l
def tProto (p:ProtoD):Nat:=p.name.size+p.ups.length+tVals p.consts+p.ins.length+tNams p.named
def tProtos (l:List ProtoD):Nat:=l.length+sumAll tProto l
theorem ret_int {k:IntKind}{a b:Int}(h:a=b):Ending.returned (.int k a)=.returned (.int k b):=by rw[h]
theorem szUpS_any (a:Option Addr)(n c:Nat)(left:Int)(w:World)(hn:n<=9223372036854775807)(hl:0<=left)(hl2:left<=1048576) :
  Calls Tryd.prog 38 #[.slice a n c,.int .i64 left] w fun e w'=>e=.returned (.int .i64 (bud left n))/\w'=w:=by
 by_cases h:left<n
 ·go_enter Tryd.func38,Tryd.ntmps38
  go_wp2
  go_ret;exact⟨ret_int (bud_no h).symm,rfl⟩
 ·go_enter Tryd.func38,Tryd.ntmps38
  go_wp2
  go_ret;exact⟨ret_int (bud_yes (by omega)).symm,rfl⟩
theorem szInsS_any (a:Option Addr)(n c:Nat)(left:Int)(w:World)(hn:n<=9223372036854775807)(hl:0<=left)(hl2:left<=1048576) :
  Calls Tryd.prog 40 #[.slice a n c,.int .i64 left] w fun e w'=>e=.returned (.int .i64 (bud left n))/\w'=w:=by
 by_cases h:left<n
 ·go_enter Tryd.func40,Tryd.ntmps40
  go_wp2
  go_ret;exact⟨ret_int (bud_no h).symm,rfl⟩
 ·go_enter Tryd.func40,Tryd.ntmps40
  go_wp2
  go_ret;exact⟨ret_int (bud_yes (by omega)).symm,rfl⟩
theorem szValue_any (kind num:Int)(flt:Nat)(s:ByteArray)(ref:Int)(left:Int)(w:World)(hs:s.size<=9223372036854775807)(hl:0<=left)(hl2:left<=1048576) :
  Calls Tryd.prog 59 #[.agg #[.int .i64 kind,.int .i64 num,.float .f64 flt,.string s,.int .i64 ref],.int .i64 left] w fun e w'=>e=.returned (.int .i64 (bud left s.size))/\Below w.heap.size w w':=by
 by_cases q1:left<s.size
 ·go_enter Tryd.func59,Tryd.ntmps59;go_wp2_with fail
  go_ret;exact⟨ret_int (bud_no (by omega)).symm,(Below.refl _ _).alloc (Nat.le_refl _) _⟩
 ·go_enter Tryd.func59,Tryd.ntmps59;go_wp2_with fail
  go_ret;exact⟨ret_int (by rw[bud_yes (by omega)]),(Below.refl _ _).alloc (Nat.le_refl _) _⟩
theorem szValueS_any (a:Option Addr)(l:List ValD)(c:Nat)(S:Nat->Prop)(left:Int)(w:World)(hs:ValsAt w S a l)(hB:∀ b,S b->b<w.heap.size)(hl:0<=left)(hl2:left<=1048576) :
  Calls Tryd.prog 39 #[.slice a l.length c,.int .i64 left] w fun e w'=>e=.returned (.int .i64 (bud left (tVals l)))/\Below w.heap.size w w':=by
 have hn:=hs.1;by_cases h:left<l.length
 ·go_enter Tryd.func39,Tryd.ntmps39;go_wp2_with fail
  go_ret;exact⟨ret_int (bud_no (by unfold tVals;omega)).symm,Below.refl _ _⟩
 ·have hle:(l.length:Int)<=left:=by omega
  clear h;go_enter Tryd.func39,Tryd.ntmps39;go_wp2_with fail
  go_loopw [1,5] (fun t i wr=>∃(k:Nat) (x:Int),k<=l.length/\i=.int .i64 k/\t=.int .i64 x/\0<=x/\x<=1048576/\Hid (x=left-l.length-sumTo tVal l k)/\Below w.heap.size w wr) (fun _ i _=>l.length-(intOf i).toNat)
  case atStart=>exact⟨0,_,Nat.zero_le _,rfl,rfl,by omega,by omega,show _=_ by rw[sumTo_zero];omega,Below.refl _ _⟩
  case round=>
   obtain⟨k,x,hk,rfl,rfl,hx,hx2,hxe,hbw⟩:=hrel;by_cases hlt:k<l.length
   ·obtain⟨b,off,rfl,hb,hcc⟩:=(hs.keep hbw hB).2 (by omega);have N:=hcc k hlt;have HS:Hid (sumTo tVal l (k+1)=sumTo tVal l k+tVal (l[k]?.getD ValD.z)/\sumTo tVal l (k+1)<=sumAll tVal l):=⟨sumTo_succ tVal l k ValD.z hlt,sumTo_le tVal l (k+1)⟩;clear hcc;generalize l[k]?.getD ValD.z=nd at *;have c0:=N.kind;have c1:=N.num;have c2:=N.flt;have c3:=N.str;have c4:=N.ref;by_cases hq:x<tVal nd
    ·have B1:Hid (bud x nd.str.size=-1):=bud_no (by unfold tVal at hq;omega);go_wp2_with fail
     refine(szValue_any _ _ _ _ _ _ _ N.strs (by omega) (by omega)).mono ?_;rintro e w' ⟨rfl,hb'⟩;rw[B1.out];go_wp2_with fail
     go_ret;have h1:=HS.out;have h2:=hxe.out;exact⟨ret_int (bud_no (by unfold tVals;omega)).symm,hbw.trans (hb'.mono hbw.size)⟩
    ·have B1:Hid (bud x nd.str.size=x-tVal nd):=by show _=_;rw[bud_yes (by unfold tVal at hq;omega)];rfl
     generalize tVal nd=tn at *;go_wp2_with fail
     refine(szValue_any _ _ _ _ _ _ _ N.strs (by omega) (by omega)).mono ?_;rintro e w' ⟨rfl,hb'⟩;rw[B1.out];go_wp2_with fail
     go_roundw
     case rel=>
      have h1:=HS.out;have h2:=hxe.out;exact⟨k+1,x-tn,by omega,by go_num,by go_num,by omega,by omega,show _=_ by omega,hbw.trans (hb'.mono hbw.size)⟩
     case measure=>simp[intOf];omega
   ·have HK:Hid (k=l.length):=by show _=_;omega
    go_wp2_with fail
    go_ret;have h1:=sumTo_len tVal l;have h2:=hxe.out;have h3:=HK.out;rw[h3,h1]at h2;exact⟨ret_int (by rw[bud_yes (by unfold tVals;omega)];unfold tVals;omega),hbw⟩
theorem szNamed_any (s:ByteArray)(reg fro til:Int)(left:Int)(w:World)(hs:s.size<=9223372036854775807)(hl:0<=left)(hl2:left<=1048576) :
  Calls Tryd.prog 60 #[.agg #[.string s,.int .i64 reg,.int .i64 fro,.int .i64 til],.int .i64 left] w fun e w'=>e=.returned (.int .i64 (bud left s.size))/\Below w.heap.size w w':=by
 by_cases q1:left<s.size
 ·go_enter Tryd.func60,Tryd.ntmps60;go_wp2_with fail
  go_ret;exact⟨ret_int (bud_no (by omega)).symm,(Below.refl _ _).alloc (Nat.le_refl _) _⟩
 ·go_enter Tryd.func60,Tryd.ntmps60;go_wp2_with fail
  go_ret;exact⟨ret_int (by rw[bud_yes (by omega)]),(Below.refl _ _).alloc (Nat.le_refl _) _⟩
theorem szNamedS_any (a:Option Addr)(l:List NamD)(c:Nat)(S:Nat->Prop)(left:Int)(w:World)(hs:NamsAt w S a l)(hB:∀ b,S b->b<w.heap.size)(hl:0<=left)(hl2:left<=1048576) :
  Calls Tryd.prog 41 #[.slice a l.length c,.int .i64 left] w fun e w'=>e=.returned (.int .i64 (bud left (tNams l)))/\Below w.heap.size w w':=by
 have hn:=hs.1;by_cases h:left<l.length
 ·go_enter Tryd.func41,Tryd.ntmps41;go_wp2_with fail
  go_ret;exact⟨ret_int (bud_no (by unfold tNams;omega)).symm,Below.refl _ _⟩
 ·have hle:(l.length:Int)<=left:=by omega
  clear h;go_enter Tryd.func41,Tryd.ntmps41;go_wp2_with fail
  go_loopw [1,5] (fun t i wr=>∃(k:Nat) (x:Int),k<=l.length/\i=.int .i64 k/\t=.int .i64 x/\0<=x/\x<=1048576/\Hid (x=left-l.length-sumTo tNam l k)/\Below w.heap.size w wr) (fun _ i _=>l.length-(intOf i).toNat)
  case atStart=>exact⟨0,_,Nat.zero_le _,rfl,rfl,by omega,by omega,show _=_ by rw[sumTo_zero];omega,Below.refl _ _⟩
  case round=>
   obtain⟨k,x,hk,rfl,rfl,hx,hx2,hxe,hbw⟩:=hrel;by_cases hlt:k<l.length
   ·obtain⟨b,off,rfl,hb,hcc⟩:=(hs.keep hbw hB).2 (by omega);have N:=hcc k hlt;have HS:Hid (sumTo tNam l (k+1)=sumTo tNam l k+tNam (l[k]?.getD NamD.z)/\sumTo tNam l (k+1)<=sumAll tNam l):=⟨sumTo_succ tNam l k NamD.z hlt,sumTo_le tNam l (k+1)⟩;clear hcc;generalize l[k]?.getD NamD.z=nd at *;have c0:=N.name;have c1:=N.reg;have c2:=N.fro;have c3:=N.til;by_cases hq:x<tNam nd
    ·have B1:Hid (bud x nd.name.size=-1):=bud_no (by unfold tNam at hq;omega);go_wp2_with fail
     refine(szNamed_any _ _ _ _ _ _ N.names (by omega) (by omega)).mono ?_;rintro e w' ⟨rfl,hb'⟩;rw[B1.out];go_wp2_with fail
     go_ret;have h1:=HS.out;have h2:=hxe.out;exact⟨ret_int (bud_no (by unfold tNams;omega)).symm,hbw.trans (hb'.mono hbw.size)⟩
    ·have B1:Hid (bud x nd.name.size=x-tNam nd):=by show _=_;rw[bud_yes (by unfold tNam at hq;omega)];rfl
     generalize tNam nd=tn at *;go_wp2_with fail
     refine(szNamed_any _ _ _ _ _ _ N.names (by omega) (by omega)).mono ?_;rintro e w' ⟨rfl,hb'⟩;rw[B1.out];go_wp2_with fail
     go_roundw
     case rel=>
      have h1:=HS.out;have h2:=hxe.out;exact⟨k+1,x-tn,by omega,by go_num,by go_num,by omega,by omega,show _=_ by omega,hbw.trans (hb'.mono hbw.size)⟩
     case measure=>simp[intOf];omega
   ·have HK:Hid (k=l.length):=by show _=_;omega
    go_wp2_with fail
    go_ret;have h1:=sumTo_len tNam l;have h2:=hxe.out;have h3:=HK.out;rw[h3,h1]at h2;exact⟨ret_int (by rw[bud_yes (by unfold tNams;omega)];unfold tNams;omega),hbw⟩
theorem szProto_any (nm:ByteArray)(ln pr:Int)(rs:Bool)(rg:Int)(us:List (Bool×Int))(cs:List ValD)(is:List InsD)(ns:List NamD)(a5 a6 a7 a8:Option Addr)(c5 c6 c7 c8:Nat)(S:Nat->Prop)(left:Int)(w:World)
  (hnm:nm.size<=9223372036854775807)(h5:UpsAt w S a5 us)(h6:ValsAt w S a6 cs)(h7:InssAt w S a7 is)(h8:NamsAt w S a8 ns)(hB:∀ b,S b->b<w.heap.size)(hl:0<=left)(hl2:left<=1048576) :
  Calls Tryd.prog 23 #[.agg #[.string nm,.int .i64 ln,.int .i64 pr,.bool rs,.int .i64 rg,.slice a5 us.length c5,.slice a6 cs.length c6,.slice a7 is.length c7,.slice a8 ns.length c8],.int .i64 left] w fun e w'=>
   e=.returned (.int .i64 (bud left (nm.size+us.length+tVals cs+is.length+tNams ns)))/\Below w.heap.size w w':=by
 have hbA:∀ o,Below w.heap.size w (w.alloc o):=fun o=>(Below.refl _ _).alloc (Nat.le_refl _) o;have WS:∀ W:World,Below w.heap.size w W->∀ b,S b->b<W.heap.size:=fun W hW b h=>Nat.lt_of_lt_of_le (hB b h) hW.size;have K6:Hid (∀ W,Below w.heap.size w W->ValsAt W S a6 cs):=fun W hW=>h6.keep hW hB;have K8:Hid (∀ W,Below w.heap.size w W->NamsAt W S a8 ns):=fun W hW=>h8.keep hW hB;have HA:=hide hbA;have HWS:=hide WS;have H5:=h5.1;have H7:=h7.1;clear h6 h8 hbA WS hB;by_cases q0:left<nm.size
 ·go_enter Tryd.func23,Tryd.ntmps23;go_wp2_with fail
  go_ret;exact⟨ret_int (bud_no (by omega)).symm,unhide HA _⟩
 by_cases q1:left-nm.size<us.length
 ·have B1:Hid (bud (left-nm.size) (us.length)=-1):=bud_no q1;go_enter Tryd.func23,Tryd.ntmps23;go_wp2_with fail
  refine(szUpS_any _ _ _ _ _ H5 (by omega) (by omega)).mono ?_;rintro e w' ⟨rfl,rfl⟩;rw[B1.out];go_wp2_with fail
  go_ret;exact⟨ret_int (bud_no (by omega)).symm,unhide HA _⟩
 have B1:Hid (bud (left-nm.size) (us.length)=left-nm.size-us.length):=bud_yes (by omega);by_cases q2:left-nm.size-us.length<tVals cs
 ·have B2:Hid (bud (left-nm.size-us.length) (tVals cs)=-1):=bud_no q2;go_enter Tryd.func23,Tryd.ntmps23;go_wp2_with fail
  refine(szUpS_any _ _ _ _ _ H5 (by omega) (by omega)).mono ?_;rintro e w' ⟨rfl,rfl⟩;rw[B1.out];go_wp2_with fail
  refine(szValueS_any _ _ _ S _ _ (unhide K6 _ (unhide HA _)) (unhide HWS _ (unhide HA _)) (by omega) (by omega)).mono ?_;rintro e w1 ⟨rfl,hb1⟩;obtain⟨hc1,hf1⟩:=bcell hb1;have hsz1:w.heap.size+1<=w1.heap.size:=by have:=hb1.size;simpa using this
  have hz1:w.heap.size<w1.heap.size:=by omega
  have HB1:Hid (Below w.heap.size w w1):=(unhide HA _).trans (hb1.mono (by simp));clear hb1;rw[B2.out];go_wp2_with fail
  go_ret;exact⟨ret_int (bud_no (by omega)).symm,unhide HB1⟩
 have B2:Hid (bud (left-nm.size-us.length) (tVals cs)=left-nm.size-us.length-tVals cs):=bud_yes (by omega);by_cases q3:left-nm.size-us.length-tVals cs<is.length
 ·have B3:Hid (bud (left-nm.size-us.length-tVals cs) (is.length)=-1):=bud_no q3;go_enter Tryd.func23,Tryd.ntmps23;go_wp2_with fail
  refine(szUpS_any _ _ _ _ _ H5 (by omega) (by omega)).mono ?_;rintro e w' ⟨rfl,rfl⟩;rw[B1.out];go_wp2_with fail
  refine(szValueS_any _ _ _ S _ _ (unhide K6 _ (unhide HA _)) (unhide HWS _ (unhide HA _)) (by omega) (by omega)).mono ?_;rintro e w1 ⟨rfl,hb1⟩;obtain⟨hc1,hf1⟩:=bcell hb1;have hsz1:w.heap.size+1<=w1.heap.size:=by have:=hb1.size;simpa using this
  have hz1:w.heap.size<w1.heap.size:=by omega
  have HB1:Hid (Below w.heap.size w w1):=(unhide HA _).trans (hb1.mono (by simp));clear hb1;rw[B2.out];go_wp2_with fail
  refine(szInsS_any _ _ _ _ _ H7 (by omega) (by omega)).mono ?_;rintro e w' ⟨rfl,rfl⟩;rw[B3.out];go_wp2_with fail
  go_ret;exact⟨ret_int (bud_no (by omega)).symm,unhide HB1⟩
 have B3:Hid (bud (left-nm.size-us.length-tVals cs) (is.length)=left-nm.size-us.length-tVals cs-is.length):=bud_yes (by omega);by_cases q4:left-nm.size-us.length-tVals cs-is.length<tNams ns
 ·have B4:Hid (bud (left-nm.size-us.length-tVals cs-is.length) (tNams ns)=-1):=bud_no q4;go_enter Tryd.func23,Tryd.ntmps23;go_wp2_with fail
  refine(szUpS_any _ _ _ _ _ H5 (by omega) (by omega)).mono ?_;rintro e w' ⟨rfl,rfl⟩;rw[B1.out];go_wp2_with fail
  refine(szValueS_any _ _ _ S _ _ (unhide K6 _ (unhide HA _)) (unhide HWS _ (unhide HA _)) (by omega) (by omega)).mono ?_;rintro e w1 ⟨rfl,hb1⟩;obtain⟨hc1,hf1⟩:=bcell hb1;have hsz1:w.heap.size+1<=w1.heap.size:=by have:=hb1.size;simpa using this
  have hz1:w.heap.size<w1.heap.size:=by omega
  have HB1:Hid (Below w.heap.size w w1):=(unhide HA _).trans (hb1.mono (by simp));clear hb1;rw[B2.out];go_wp2_with fail
  refine(szInsS_any _ _ _ _ _ H7 (by omega) (by omega)).mono ?_;rintro e w' ⟨rfl,rfl⟩;rw[B3.out];go_wp2_with fail
  refine(szNamedS_any _ _ _ S _ _ (unhide K8 _ (unhide HB1)) (unhide HWS _ (unhide HB1)) (by omega) (by omega)).mono ?_;rintro e w2 ⟨rfl,hb2⟩;have HB2:Hid (Below w.heap.size w w2):=(unhide HB1).trans (hb2.mono (unhide HB1).size);clear hb2;rw[B4.out];go_wp2_with fail
  go_ret;exact⟨ret_int (bud_no (by omega)).symm,unhide HB2⟩
 have B4:Hid (bud (left-nm.size-us.length-tVals cs-is.length) (tNams ns)=left-nm.size-us.length-tVals cs-is.length-tNams ns):=bud_yes (by omega);go_enter Tryd.func23,Tryd.ntmps23;go_wp2_with fail
 refine(szUpS_any _ _ _ _ _ H5 (by omega) (by omega)).mono ?_;rintro e w' ⟨rfl,rfl⟩;rw[B1.out];go_wp2_with fail
 refine(szValueS_any _ _ _ S _ _ (unhide K6 _ (unhide HA _)) (unhide HWS _ (unhide HA _)) (by omega) (by omega)).mono ?_;rintro e w1 ⟨rfl,hb1⟩;obtain⟨hc1,hf1⟩:=bcell hb1;have hsz1:w.heap.size+1<=w1.heap.size:=by have:=hb1.size;simpa using this
 have hz1:w.heap.size<w1.heap.size:=by omega
 have HB1:Hid (Below w.heap.size w w1):=(unhide HA _).trans (hb1.mono (by simp));clear hb1;rw[B2.out];go_wp2_with fail
 refine(szInsS_any _ _ _ _ _ H7 (by omega) (by omega)).mono ?_;rintro e w' ⟨rfl,rfl⟩;rw[B3.out];go_wp2_with fail
 refine(szNamedS_any _ _ _ S _ _ (unhide K8 _ (unhide HB1)) (unhide HWS _ (unhide HB1)) (by omega) (by omega)).mono ?_;rintro e w2 ⟨rfl,hb2⟩;have HB2:Hid (Below w.heap.size w w2):=(unhide HB1).trans (hb2.mono (unhide HB1).size);clear hb2;rw[B4.out];go_wp2_with fail
 go_ret;exact⟨ret_int (by rw[bud_yes (by omega)];omega),unhide HB2⟩
end Go.Proofs.YtgghbbpbdaghnaaDoor
