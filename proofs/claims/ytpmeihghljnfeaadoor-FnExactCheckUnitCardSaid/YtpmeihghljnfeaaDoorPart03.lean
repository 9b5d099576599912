import Derived.Test.YtpmeihghljnfeaaDoorPart02
import Derived.Deep.RegionWith
import Derived.BigQuiet
import Derived.WalkSmall
import Derived.Test.YtpmeihghljnfeaaDoorPart01
set_option linter.unusedSimpArgs false
set_option linter.unusedVariables false
set_option maxHeartbeats 1000000
namespace Go.Proofs.YtpmeihghljnfeaaDoor
open Go.RowKit
theorem eqIntS_same (a b:Option Addr)(l:List Int)(ca cb:Nat)(S:Nat->Prop)(w:World)(h1:IntsAt w S a l)(h2:IntsAt w S b l)(hB:∀ b,S b->b<w.heap.size) :
  Calls Tryd.prog 97 #[.slice a l.length ca,.slice b l.length cb] w fun e w'=>e=.returned (.bool true)/\Below w.heap.size w w':=by
 have hn:=h1.1;have hne:((l.length:Int) != (l.length:Int))=false:=by simp
 go_enter Tryd.func97,Tryd.ntmps97;go_wp2_with fail
 go_loopw [5] (fun i wr=>∃(k:Nat),k<=l.length/\i=.int .i64 k/\Below w.heap.size w wr) (fun i _=>l.length-(intOf i).toNat)
 case atStart=>exact⟨0,Nat.zero_le _,rfl,Below.refl _ _⟩
 case round=>
  obtain⟨k,hk,rfl,hbw⟩:=hrel;by_cases hlt:k<l.length
  ·obtain⟨b1,off1,rfl,hb1,hc1⟩:=(h1.keep hbw hB).2 (by omega);obtain⟨b2,off2,rfl,hb2,hc2⟩:=(h2.keep hbw hB).2 (by omega);have e1:=hc1 k hlt;have e2:=hc2 k hlt;clear hc1 hc2;generalize l[k]?.getD 0=x at *;have hxx:(x != x)=false:=by simp
   go_wp2_with fail
   go_region
   all_goals (go_wp2_with fail)
   all_goals go_roundw
   all_goals first | (case rel=>exact⟨k+1,by omega,by go_num,hbw.drew⟩) | skip
   all_goals (simp[intOf];omega)
  ·go_wp2_with fail
   go_ret;exact⟨rfl,hbw⟩
theorem read_one:Ieee.double.read 4607182418800017408=.number false 4503599627370496 (-52):=by decide +kernel
theorem quo_one (x:Nat)(h:(FloatKind.f64.format.order x x==some Ordering.eq)=true):∃ q,floatBits .quo .f64 4607182418800017408 x=some q:=by
 have h2:FloatKind.f64.format.order x x=some Ordering.eq:=by simpa using h
 have h':(Ieee.double.read x).order (Ieee.double.read x)=some Ordering.eq:=h2;show ∃ q,((Ieee.double.read 4607182418800017408).quotient (Ieee.double.fractionBits+2) (Ieee.double.read x)).map Ieee.double.write=some q;rw[read_one];generalize Ieee.double.read x=d at h';cases d with
 | number s m i=>
  simp only[Ieee.Datum.quotient];by_cases e:m=0
  ·simp[e]
  ·simp[e]
 | infinity s=>simp[Ieee.Datum.quotient]
 | nan s f=>simp[Ieee.Datum.order]at h'
theorem sameFloat_same (x:Nat)(w:World):Calls Tryd.prog 96 #[.float .f64 x,.float .f64 x] w fun e w'=>e=.returned (.bool true)/\w'=w:=by
 cases h1:FloatKind.f64.format.order x x != some Ordering.eq
 ·have h2:(FloatKind.f64.format.order x x==some Ordering.eq)=true:=by simpa using h1
  cases h0:FloatKind.f64.format.order x 0==some Ordering.eq
  ·go_enter Tryd.func96,Tryd.ntmps96;go_wp2_with fail
   go_ret;exact⟨rfl,rfl⟩
  ·obtain⟨q,hq⟩:=quo_one x h2;have hrun:∀ w:World,(binOp .quo 57 (.float .f64 4607182418800017408) (.float .f64 x)).run Tryd.prog w=.ok (.float .f64 q) w:=fun w=>run_float_arith (w:=w) (P:=Tryd.prog) .quo 57 .f64 4607182418800017408 x q hq;clear hq;go_enter Tryd.func96,Tryd.ntmps96;go_wp2_with fail
   go_ret;exact⟨by simp,rfl⟩
 ·go_enter Tryd.func96,Tryd.ntmps96;go_wp2_with fail
  go_ret;exact⟨rfl,rfl⟩
theorem eqStringS_same (a b:Option Addr)(l:List ByteArray)(ca cb:Nat)(S:Nat->Prop)(w:World)(h1:StrsAt w S a l)(h2:StrsAt w S b l)(hB:∀ b,S b->b<w.heap.size) :
  Calls Tryd.prog 67 #[.slice a l.length ca,.slice b l.length cb] w fun e w'=>e=.returned (.bool true)/\Below w.heap.size w w':=by
 have hn:=h1.1;have hne:((l.length:Int) != (l.length:Int))=false:=by simp
 go_enter Tryd.func67,Tryd.ntmps67;go_wp2_with fail
 go_loopw [5] (fun i wr=>∃(k:Nat),k<=l.length/\i=.int .i64 k/\Below w.heap.size w wr) (fun i _=>l.length-(intOf i).toNat)
 case atStart=>exact⟨0,Nat.zero_le _,rfl,Below.refl _ _⟩
 case round=>
  obtain⟨k,hk,rfl,hbw⟩:=hrel;by_cases hlt:k<l.length
  ·obtain⟨b1,off1,rfl,hb1,hc1⟩:=(h1.keep hbw hB).2 (by omega);obtain⟨b2,off2,rfl,hb2,hc2⟩:=(h2.keep hbw hB).2 (by omega);have e1:=(hc1 k hlt).2;have e2:=(hc2 k hlt).2;clear hc1 hc2;generalize l[k]?.getD ByteArray.empty=x at *;go_wp2_with fail
   go_region
   all_goals (go_wp2_with fail)
   all_goals go_roundw
   all_goals first | (case rel=>exact⟨k+1,by omega,by go_num,hbw.drew⟩) | skip
   all_goals (simp[intOf];omega)
  ·go_wp2_with fail
   go_ret;exact⟨rfl,hbw⟩
theorem eqUp_same (x:Bool)(i:Int)(w:World):Calls Tryd.prog 90 #[.agg #[.bool x,.int .i64 i],.agg #[.bool x,.int .i64 i]] w fun e w'=>e=.returned (.bool true)/\Below w.heap.size w w':=by
 have h1:(x != x)=false:=by simp
 have h2:(i != i)=false:=by simp
 go_enter Tryd.func90,Tryd.ntmps90;go_wp2_with fail
 go_ret;exact⟨rfl,by repeat (first | refine Below.alloc ?_ (by simp<;>omega) _ | exact Below.refl _ _)⟩
theorem eqUpS_same (a b:Option Addr)(l:List (Bool×Int))(ca cb:Nat)(S:Nat->Prop)(w:World)(h1:UpsAt w S a l)(h2:UpsAt w S b l)(hB:∀ b,S b->b<w.heap.size) :
  Calls Tryd.prog 68 #[.slice a l.length ca,.slice b l.length cb] w fun e w'=>e=.returned (.bool true)/\Below w.heap.size w w':=by
 have hn:=h1.1;have hne:((l.length:Int) != (l.length:Int))=false:=by simp
 go_enter Tryd.func68,Tryd.ntmps68;go_wp2_with fail
 go_loopw [5] (fun i wr=>∃(k:Nat),k<=l.length/\i=.int .i64 k/\Below w.heap.size w wr) (fun i _=>l.length-(intOf i).toNat)
 case atStart=>exact⟨0,Nat.zero_le _,rfl,Below.refl _ _⟩
 case round=>
  obtain⟨k,hk,rfl,hbw⟩:=hrel;by_cases hlt:k<l.length
  ·obtain⟨b1,off1,rfl,hb1,hc1⟩:=(h1.keep hbw hB).2 (by omega);obtain⟨b2,off2,rfl,hb2,hc2⟩:=(h2.keep hbw hB).2 (by omega);obtain⟨e1,e2⟩:=hc1 k hlt;obtain⟨e3,e4⟩:=hc2 k hlt;clear hc1 hc2;generalize l[k]?.getD (false,0)=x at *;go_wp2_with fail
   go_region_with (go_at_call 90;refine(eqUp_same x.1 x.2 _).mono ?_;rintro e w' ⟨rfl,hb'⟩)
   all_goals (go_wp2_with fail)
   all_goals go_roundw
   all_goals first | (case rel=>exact⟨k+1,by omega,by go_num,hbw.drew.trans (hb'.mono hbw.size)⟩) | skip
   all_goals (simp[intOf];omega)
  ·go_wp2_with fail
   go_ret;exact⟨rfl,hbw⟩
theorem eqIntS_from {a b:Option Addr}{l:List Int}{ca cb:Nat}{S:Nat->Prop}(w W:World)(h1:IntsAt w S a l)(h2:IntsAt w S b l)(hB:∀ b,S b->b<w.heap.size)(hW:Below w.heap.size w W) :
  Calls Tryd.prog 97 #[.slice a l.length ca,.slice b l.length cb] W fun e w'=>e=.returned (.bool true)/\Below W.heap.size W w':=
 eqIntS_same a b l ca cb S W (h1.keep hW hB) (h2.keep hW hB) (fun b h=>Nat.lt_of_lt_of_le (hB b h) hW.size)
theorem eqStringS_from {a b:Option Addr}{l:List ByteArray}{ca cb:Nat}{S:Nat->Prop}(w W:World)(h1:StrsAt w S a l)(h2:StrsAt w S b l)(hB:∀ b,S b->b<w.heap.size)(hW:Below w.heap.size w W) :
  Calls Tryd.prog 67 #[.slice a l.length ca,.slice b l.length cb] W fun e w'=>e=.returned (.bool true)/\Below W.heap.size W w':=
 eqStringS_same a b l ca cb S W (h1.keep hW hB) (h2.keep hW hB) (fun b h=>Nat.lt_of_lt_of_le (hB b h) hW.size)
theorem eqUpS_from {a b:Option Addr}{l:List (Bool×Int)}{ca cb:Nat}{S:Nat->Prop}(w W:World)(h1:UpsAt w S a l)(h2:UpsAt w S b l)(hB:∀ b,S b->b<w.heap.size)(hW:Below w.heap.size w W) :
  Calls Tryd.prog 68 #[.slice a l.length ca,.slice b l.length cb] W fun e w'=>e=.returned (.bool true)/\Below W.heap.size W w':=
 eqUpS_same a b l ca cb S W (h1.keep hW hB) (h2.keep hW hB) (fun b h=>Nat.lt_of_lt_of_le (hB b h) hW.size)
theorem eqNode_same (k ln op nm:Int)(fl:Nat)(s:ByteArray)(a1 a2 b1 b2:Option Addr)(l1 l2:List Int)(c1 c2 d1 d2:Nat)(S:Nat->Prop)(w:World)(h1:IntsAt w S a1 l1)(h2:IntsAt w S a2 l2)(g1:IntsAt w S b1 l1)(g2:IntsAt w S b2 l2)(hB:∀ b,S b->b<w.heap.size) :
  Calls Tryd.prog 91 #[.agg #[.int .i64 k,.int .i64 ln,.int .i64 op,.int .i64 nm,.float .f64 fl,.string s,.slice a1 l1.length c1,.slice a2 l2.length c2],.agg #[.int .i64 k,.int .i64 ln,.int .i64 op,.int .i64 nm,.float .f64 fl,.string s,.slice b1 l1.length d1,.slice b2 l2.length d2]] w fun e w'=>
   e=.returned (.bool true)/\Below w.heap.size w w':=by
 have e1:(k != k)=false:=by simp
 have e2:(ln != ln)=false:=by simp
 have e3:(op != op)=false:=by simp
 have e4:(nm != nm)=false:=by simp
 go_enter Tryd.func91,Tryd.ntmps91;go_wp2_with fail
 refine(sameFloat_same _ _).mono ?_;rintro e w0 ⟨rfl,rfl⟩;go_wp2_with fail
 refine(eqIntS_from w _ h1 g1 hB ?hW).mono ?_
 case hW=>repeat (first | refine Below.alloc ?_ (by simp<;>omega) _ | exact Below.refl _ _)
 rintro e w1 ⟨rfl,hb1⟩;have hbw1:Below w.heap.size w w1:=by
  refine Below.trans (b:=_) ?_ (hb1.mono (by simp<;>omega))
  repeat (first | refine Below.alloc ?_ (by simp<;>omega) _ | exact Below.refl _ _)
 obtain⟨hc,hf⟩:=bcell hb1;go_wp2_with fail
 refine(eqIntS_from w _ h2 g2 hB hbw1).mono ?_;rintro e w2 ⟨rfl,hb2⟩;go_wp2_with fail
 go_ret;exact⟨rfl,hbw1.trans (hb2.mono hbw1.size)⟩
theorem eqNode_from {k ln op nm:Int}{fl:Nat}{s:ByteArray}{a1 a2 b1 b2:Option Addr}{l1 l2:List Int}{c1 c2 d1 d2:Nat}{S:Nat->Prop}(w W:World)(h1:IntsAt w S a1 l1)(h2:IntsAt w S a2 l2)(g1:IntsAt w S b1 l1)(g2:IntsAt w S b2 l2)(hB:∀ b,S b->b<w.heap.size)(hW:Below w.heap.size w W) :
  Calls Tryd.prog 91 #[.agg #[.int .i64 k,.int .i64 ln,.int .i64 op,.int .i64 nm,.float .f64 fl,.string s,.slice a1 l1.length c1,.slice a2 l2.length c2],.agg #[.int .i64 k,.int .i64 ln,.int .i64 op,.int .i64 nm,.float .f64 fl,.string s,.slice b1 l1.length d1,.slice b2 l2.length d2]] W fun e w'=>
   e=.returned (.bool true)/\Below W.heap.size W w':=
 eqNode_same k ln op nm fl s a1 a2 b1 b2 l1 l2 c1 c2 d1 d2 S W (h1.keep hW hB) (h2.keep hW hB) (g1.keep hW hB) (g2.keep hW hB) (fun b h=>Nat.lt_of_lt_of_le (hB b h) hW.size)
theorem eqNodeS_same (a b:Option Addr)(l:List NodeD)(ca cb:Nat)(S:Nat->Prop)(w:World)(h1:NodesAt w S a l)(h2:NodesAt w S b l)(hB:∀ b,S b->b<w.heap.size) :
  Calls Tryd.prog 69 #[.slice a l.length ca,.slice b l.length cb] w fun e w'=>e=.returned (.bool true)/\Below w.heap.size w w':=by
 have hn:=h1.1;have hne:((l.length:Int) != (l.length:Int))=false:=by simp
 go_enter Tryd.func69,Tryd.ntmps69;go_wp2_with fail
 go_loopw [5] (fun i wr=>∃(k:Nat),k<=l.length/\i=.int .i64 k/\Below w.heap.size w wr) (fun i _=>l.length-(intOf i).toNat)
 case atStart=>exact⟨0,Nat.zero_le _,rfl,Below.refl _ _⟩
 case round=>
  obtain⟨k,hk,rfl,hbw⟩:=hrel;have hBr:∀ b,S b->b<wr.heap.size:=fun b h=>Nat.lt_of_lt_of_le (hB b h) hbw.size;by_cases hlt:k<l.length
  ·obtain⟨b1,off1,rfl,hb1,hc1⟩:=(h1.keep hbw hB).2 (by omega);obtain⟨b2,off2,rfl,hb2,hc2⟩:=(h2.keep hbw hB).2 (by omega);have N:=hc1 k hlt;have M:=hc2 k hlt;clear hc1 hc2;generalize l[k]?.getD NodeD.z=nd at *;obtain⟨ra,rc,hr,hrI⟩:=N.refs;obtain⟨ka,kc,hkk,hkI⟩:=N.kids;obtain⟨ra',rc',hr',hrI'⟩:=M.refs;obtain⟨ka',kc',hkk',hkI'⟩:=M.kids;have c0:=N.kind;have c1:=N.line;have c2:=N.op;have c3:=N.num;have c4:=N.flt;have c5:=N.str;have d0:=M.kind;have d1:=M.line;have d2:=M.op;have d3:=M.num;have d4:=M.flt;have d5:=M.str;go_wp2_with fail
   go_region_with (go_at_call 91;refine(eqNode_from wr _ hrI hkI hrI' hkI' hBr (by exact(Below.refl _ _).drew)).mono ?_;rintro e w' ⟨rfl,hb'⟩)
   all_goals (go_wp2_with fail)
   all_goals go_roundw
   all_goals first | (case rel=>exact⟨k+1,by omega,by go_num,hbw.drew.trans (hb'.mono hbw.size)⟩) | skip
   all_goals (simp[intOf];omega)
  ·go_wp2_with fail
   go_ret;exact⟨rfl,hbw⟩
theorem eqNodeS_from {a b:Option Addr}{l:List NodeD}{ca cb:Nat}{S:Nat->Prop}(w W:World)(h1:NodesAt w S a l)(h2:NodesAt w S b l)(hB:∀ b,S b->b<w.heap.size)(hW:Below w.heap.size w W) :
  Calls Tryd.prog 69 #[.slice a l.length ca,.slice b l.length cb] W fun e w'=>e=.returned (.bool true)/\Below W.heap.size W w':=
 eqNodeS_same a b l ca cb S W (h1.keep hW hB) (h2.keep hW hB) (fun b h=>Nat.lt_of_lt_of_le (hB b h) hW.size)
theorem eqFn_same (nm:ByteArray)(ln pr:Int)(rs:Bool)(vs:List ByteArray)(us:List (Bool×Int))(ns:List NodeD)(a4 a5 a6 b4 b5 b6:Option Addr)(c4 c5 c6 d4 d5 d6:Nat)(S:Nat->Prop)(w:World)
  (h4:StrsAt w S a4 vs)(h5:UpsAt w S a5 us)(h6:NodesAt w S a6 ns)(g4:StrsAt w S b4 vs)(g5:UpsAt w S b5 us)(g6:NodesAt w S b6 ns)(hB:∀ b,S b->b<w.heap.size) :
  Calls Tryd.prog 40 #[.agg #[.string nm,.int .i64 ln,.int .i64 pr,.bool rs,.slice a4 vs.length c4,.slice a5 us.length c5,.slice a6 ns.length c6],.agg #[.string nm,.int .i64 ln,.int .i64 pr,.bool rs,.slice b4 vs.length d4,.slice b5 us.length d5,.slice b6 ns.length d6]] w fun e w'=>
   e=.returned (.bool true)/\Below w.heap.size w w':=by
 have e2:(ln != ln)=false:=by simp
 have e3:(pr != pr)=false:=by simp
 have e4:(rs != rs)=false:=by simp
 go_enter Tryd.func40,Tryd.ntmps40;go_wp2_with fail
 refine(eqStringS_from w _ h4 g4 hB ?hW).mono ?_
 case hW=>repeat (first | refine Below.alloc ?_ (by simp<;>omega) _ | exact Below.refl _ _)
 rintro e w1 ⟨rfl,hb1⟩;have hbw1:Below w.heap.size w w1:=by
  refine Below.trans (b:=_) ?_ (hb1.mono (by simp<;>omega))
  repeat (first | refine Below.alloc ?_ (by simp<;>omega) _ | exact Below.refl _ _)
 obtain⟨hc,hf⟩:=bcell hb1;have hz:w.heap.size+1+1<=w1.heap.size:=by have:=hb1.size;simpa using this
 have hz0:w.heap.size<w1.heap.size:=by omega
 have hz1:w.heap.size+1<w1.heap.size:=by omega
 go_wp2_with fail
 refine(eqUpS_from w _ h5 g5 hB hbw1).mono ?_;rintro e w2 ⟨rfl,hb2⟩;have hbw2:Below w.heap.size w w2:=hbw1.trans (hb2.mono hbw1.size);obtain⟨hc2,hf2⟩:=bcell hb2;go_wp2_with fail
 refine(eqNodeS_from w _ h6 g6 hB hbw2).mono ?_;rintro e w3 ⟨rfl,hb3⟩;go_wp2_with fail
 go_ret;exact⟨rfl,hbw2.trans (hb3.mono hbw2.size)⟩
theorem eqFn_from {nm:ByteArray}{ln pr:Int}{rs:Bool}{vs:List ByteArray}{us:List (Bool×Int)}{ns:List NodeD}{a4 a5 a6 b4 b5 b6:Option Addr}{c4 c5 c6 d4 d5 d6:Nat}{S:Nat->Prop}(w W:World)
  (h4:StrsAt w S a4 vs)(h5:UpsAt w S a5 us)(h6:NodesAt w S a6 ns)(g4:StrsAt w S b4 vs)(g5:UpsAt w S b5 us)(g6:NodesAt w S b6 ns)(hB:∀ b,S b->b<w.heap.size)(hW:Below w.heap.size w W) :
  Calls Tryd.prog 40 #[.agg #[.string nm,.int .i64 ln,.int .i64 pr,.bool rs,.slice a4 vs.length c4,.slice a5 us.length c5,.slice a6 ns.length c6],.agg #[.string nm,.int .i64 ln,.int .i64 pr,.bool rs,.slice b4 vs.length d4,.slice b5 us.length d5,.slice b6 ns.length d6]] W fun e w'=>
   e=.returned (.bool true)/\Below W.heap.size W w':=
 eqFn_same nm ln pr rs vs us ns a4 a5 a6 b4 b5 b6 c4 c5 c6 d4 d5 d6 S W (h4.keep hW hB) (h5.keep hW hB) (h6.keep hW hB) (g4.keep hW hB) (g5.keep hW hB) (g6.keep hW hB) (fun b h=>Nat.lt_of_lt_of_le (hB b h) hW.size)
theorem eqFnS_same (a b:Option Addr)(l:List FnD)(ca cb:Nat)(S:Nat->Prop)(w:World)(h1:FnsAt w S a l)(h2:FnsAt w S b l)(hB:∀ b,S b->b<w.heap.size) :
  Calls Tryd.prog 21 #[.slice a l.length ca,.slice b l.length cb] w fun e w'=>e=.returned (.bool true)/\Below w.heap.size w w':=by
 have hn:=h1.1;have hne:((l.length:Int) != (l.length:Int))=false:=by simp
 go_enter Tryd.func21,Tryd.ntmps21;go_wp2_with fail
 go_loopw [5] (fun i wr=>∃(k:Nat),k<=l.length/\i=.int .i64 k/\Below w.heap.size w wr) (fun i _=>l.length-(intOf i).toNat)
 case atStart=>exact⟨0,Nat.zero_le _,rfl,Below.refl _ _⟩
 case round=>
  obtain⟨k,hk,rfl,hbw⟩:=hrel;have hBr:∀ b,S b->b<wr.heap.size:=fun b h=>Nat.lt_of_lt_of_le (hB b h) hbw.size;by_cases hlt:k<l.length
  ·obtain⟨b1,off1,rfl,hb1,hc1⟩:=(h1.keep hbw hB).2 (by omega);obtain⟨b2,off2,rfl,hb2,hc2⟩:=(h2.keep hbw hB).2 (by omega);have N:=hc1 k hlt;have M:=hc2 k hlt;clear hc1 hc2;generalize l[k]?.getD FnD.z=nd at *;obtain⟨a4,c4,h4,H4⟩:=N.vars;obtain⟨a5,c5,h5,H5⟩:=N.ups;obtain⟨a6,c6,h6,H6⟩:=N.nodes;obtain⟨b4,d4,k4,K4⟩:=M.vars;obtain⟨b5,d5,k5,K5⟩:=M.ups;obtain⟨b6,d6,k6,K6⟩:=M.nodes;have c0:=N.name;have c1:=N.line;have c2:=N.params;have c3:=N.rest;have d0:=M.name;have d1:=M.line;have d2:=M.params;have d3:=M.rest;go_wp2_with fail
   go_region_with (go_at_call 40;refine(eqFn_from wr _ H4 H5 H6 K4 K5 K6 hBr (by exact(Below.refl _ _).drew)).mono ?_;rintro e w' ⟨rfl,hb'⟩)
   all_goals (go_wp2_with fail)
   all_goals go_roundw
   all_goals first | (case rel=>exact⟨k+1,by omega,by go_num,hbw.drew.trans (hb'.mono hbw.size)⟩) | skip
   all_goals (simp[intOf];omega)
  ·go_wp2_with fail
   go_ret;exact⟨rfl,hbw⟩
theorem eqUnit_same (a b:Option Addr)(l:List FnD)(ca cb:Nat)(S:Nat->Prop)(w:World)(h1:FnsAt w S a l)(h2:FnsAt w S b l)(hB:∀ b,S b->b<w.heap.size) :
  Calls Tryd.prog 9 #[.agg #[.slice a l.length ca],.agg #[.slice b l.length cb]] w fun e w'=>e=.returned (.bool true)/\Below w.heap.size w w':=by
 go_enter Tryd.func9,Tryd.ntmps9;go_wp2_with fail
 have hbA:∀ o1 o2,Below w.heap.size w ((w.alloc o1).alloc o2):=fun o1 o2=>by
  repeat (first | refine Below.alloc ?_ (by simp<;>omega) _ | exact Below.refl _ _)
 refine(eqFnS_same a b l ca cb S _ (h1.keep (hbA _ _) hB) (h2.keep (hbA _ _) hB) (fun b h=>Nat.lt_of_lt_of_le (hB b h) (hbA _ _).size)).mono ?_;rintro e w1 ⟨rfl,hb1⟩;go_wp2_with fail
 go_ret;exact⟨rfl,(hbA _ _).trans (hb1.mono (hbA _ _).size)⟩
end Go.Proofs.YtpmeihghljnfeaaDoor
namespace Go.Proofs.YtpmeihghljnfeaaDoor
def isStat (k:Int):Bool:=decide (1<=k)&&decide (k<=14)
def isExpr (k:Int):Bool:=decide (20<=k)&&decide (k<=38)
def isTarget (k:Int):Bool:=k==26||k==27||k==33
def isMany (k:Int):Bool:=k==34||k==37
def nd (ns:List NodeD)(p:Nat):NodeD:=ns[p]?.getD NodeD.z
def kidI (n:NodeD)(i:Nat):Int:=n.kids[i]?.getD 0
def fltZero (x:Nat):Bool:=FloatKind.f64.format.order x 0==some Ordering.eq
def fltNum (x:Nat):Bool:=FloatKind.f64.format.order x x==some Ordering.eq
def strNone (s:ByteArray):Bool:=s.toList.isEmpty
def sKid (ns:List NodeD)(p i:Nat):Int:=
 if(nd ns p).kids.length<=i then 0
 else if kidI (nd ns p) i<0\/(p:Int)<=kidI (nd ns p) i then 0
 else(nd ns (kidI (nd ns p) i).toNat).kind
def allFrom (q:Nat->Bool)(f t:Nat):Bool:=(List.range' f (t-f)).all q
theorem allFrom_true {q:Nat->Bool}{f t:Nat}(h:∀ i,f<=i->i<t->q i=true):allFrom q f t=true:=by
 unfold allFrom;rw[List.all_eq_true];intro x hx;rw[List.mem_range'_1]at hx;exact h x hx.1 (by omega)
theorem allFrom_false {q:Nat->Bool}{f t i:Nat}(h1:f<=i)(h2:i<t)(h:q i=false):allFrom q f t=false:=by
 unfold allFrom;rw[List.all_eq_false];exact⟨i,by rw[List.mem_range'_1];omega,by simp[h]⟩
theorem allFrom_get {q:Nat->Bool}{f t:Nat}(h:allFrom q f t=true)(i:Nat)(h1:f<=i)(h2:i<t):q i=true:=by
 unfold allFrom at h;rw[List.all_eq_true]at h;exact h i (by rw[List.mem_range'_1];omega)
def sKidI (ns:List NodeD)(p:Nat)(i:Int):Int:=sKid ns p i.toNat
def sExprs (ns:List NodeD)(p f t:Nat):Bool:=allFrom (fun i=>isExpr (sKid ns p i)) f t
def sExprsI (ns:List NodeD)(p:Nat)(f t:Int):Bool:=sExprs ns p f.toNat t.toNat
def sBareV (op num:Int)(flt:Nat)(str:ByteArray)(nr:Nat)(bo bn bf bs:Bool)(refs:Int):Bool:=
 (bo||op==0)&&(bn||num==0)&&(bf||fltZero flt)&&(bs||strNone str)&&((nr:Int)==refs)
def sBare (n:NodeD)(bo bn bf bs:Bool)(refs:Int):Bool:=sBareV n.op n.num n.flt n.str n.refs.length bo bn bf bs refs
def nkids (ns:List NodeD)(p:Nat):Nat:=(nd ns p).kids.length
def sBlock (ns:List NodeD)(p:Nat)(k:Int):Bool:=decide (0<k)&&sKidI ns p (k-1)==1
def allStats (ns:List NodeD)(p:Nat)(k:Int):Bool:=allFrom (fun i=>isStat (sKid ns p i)) 0 k.toNat
def allTargets (ns:List NodeD)(p:Nat)(k:Int):Bool:=allFrom (fun i=>isTarget (sKid ns p i)) 0 k.toNat
def stArm (ns:List NodeD)(p:Nat)(n:NodeD)(k r:Int):Int->Bool
 | 1=>allStats ns p k&&sBare n false false false false 0
 | 2=>decide (0<r)&&sBare n false false false false r&&sExprsI ns p 0 k
 | 3=>!(decide (n.num<1)||decide (k<=n.num))&&allTargets ns p n.num&&(sBare n false true false false 0&&sExprsI ns p n.num k)
 | 4=>(k==1)&&(sKidI ns p 0==34)&&sBare n false false false false 0
 | 5=>((k==2)||(k==3)&&((sKidI ns p 2==1)||(sKidI ns p 2==5)))&&sExprsI ns p 0 1&&(sKidI ns p 1==1)&&sBare n false false false false 0
 | 6=>(k==2)&&sExprsI ns p 0 1&&sBlock ns p k&&sBare n false false false false 0
 | 7=>(k==4)&&sExprsI ns p 0 3&&sBlock ns p k&&sBare n false false false false 1
 | 8=>(k==2)&&decide (1<=r)&&decide (r<=4)&&sExprsI ns p 0 1&&sBlock ns p k&&sBare n false false false false r
 | 9=>(k==0)&&sBare n false false false false 0
 | 10=>(k==0)&&sBare n false false false false 0
 | 11=>sExprsI ns p 0 k&&sBare n false false false false 0
 | 12=>(k==2)&&(sKidI ns p 0==1)&&sBlock ns p k&&sBare n false false false false 2
 | 13=>(k==1)&&sExprsI ns p 0 1&&sBare n false false false false 0
 | 14=>(k==1)&&(sKidI ns p 0==34)&&sBare n false false false false 0
 | _=>false
def sStatement (ns:List NodeD)(p:Nat):Bool:=stArm ns p (nd ns p) (nd ns p).kids.length (nd ns p).refs.length (nd ns p).kind
def exArm (ns:List NodeD)(p:Nat)(n:NodeD)(k:Int):Int->Bool
 | 20=>(k==0)&&sBare n false false false false 0
 | 21=>(k==0)&&sBare n false false false false 0
 | 22=>(k==0)&&sBare n false false false false 0
 | 37=>(k==0)&&sBare n false false false false 0
 | 23=>(k==0)&&sBare n false true false false 0
 | 24=>(k==0)&&fltNum n.flt&&sBare n false false true false 0
 | 25=>(k==0)&&decide ((n.str.size:Int)<=4000)&&sBare n false false false true 0
 | 26=>(k==0)&&sBare n false false false false 1
 | 27=>(k==0)&&sBare n false false false false 1
 | 36=>(k==0)&&sBare n false false false false 1
 | 28=>(k==0)&&decide (0<=n.num)&&decide (n.num<15)&&sBare n false true false false 0
 | 29=>(k==2)&&sExprsI ns p 0 k&&sBare n false false false false 0
 | 30=>(k==2)&&sExprsI ns p 0 k&&sBare n false false false false 0
 | 33=>(k==2)&&sExprsI ns p 0 k&&sBare n false false false false 0
 | 31=>(k==1)&&sExprsI ns p 0 k&&decide (19<=n.op)&&decide (n.op<=22)&&sBare n true false false false 0
 | 32=>(k==2)&&sExprsI ns p 0 k&&decide (1<=n.op)&&decide (n.op<=18)&&sBare n true false false false 0
 | 34=>decide (1<=k)&&sExprsI ns p 0 k&&sBare n false false false false 0
 | 35=>(k % 2==0)&&sExprsI ns p 0 k&&((n.op==0)||(n.op==1)&&decide (2<=k)&&(sKidI ns p (k-2)==23)&&isMany (sKidI ns p (k-1)))&&sBare n true false false false 0
 | 38=>(k==1)&&isMany (sKidI ns p 0)&&sBare n false false false false 0
 | _=>false
def sExpression (ns:List NodeD)(p:Nat):Bool:=exArm ns p (nd ns p) (nd ns p).kids.length (nd ns p).kind
def kidOk (p:Nat)(x:Int):Bool:=decide (0<=x)&&decide (x<p)
def kidsIn (ns:List NodeD)(p:Nat):Bool:=allFrom (fun i=>kidOk p (kidI (nd ns p) i)) 0 (nkids ns p)
def sShape (ns:List NodeD)(p:Nat):Bool:=
 decide (nkids ns p<=200)&&kidsIn ns p &&
  (if isStat (nd ns p).kind then decide (1<=(nd ns p).line)&&decide ((nd ns p).line<=100000)&&sStatement ns p else(nd ns p).line==0&&sExpression ns p)
def sName (s:ByteArray)(least:Int):Bool:=decide (least<=s.size)&&decide (s.size<=40)
def sHead (l:List FnD)(f:Nat):Bool:=
 let x:=l[f]?.getD FnD.z
 decide (x.nodes.length≠0)&&decide (x.vars.length<=200)&&decide (x.ups.length<=200)&&decide (0<=x.params)&&decide (x.params<=x.vars.length) &&
 decide (0<=x.line)&&decide (x.line<=100000)&&sName x.name 0 && !(f==0&&(decide (0<x.params)||decide (0<x.ups.length))) &&
 allFrom (fun i=>sName (x.vars[i]?.getD ByteArray.empty) 1) 0 x.vars.length
end Go.Proofs.YtpmeihghljnfeaaDoor
namespace Go.Proofs.YtpmeihghljnfeaaDoor
open Go.RowKit
theorem ret_bool {a b:Bool}(h:a=b):Ending.returned (.bool a)=.returned (.bool b):=by rw[h]
theorem l3stat_any (k:Int)(w:World):Calls Tryd.prog 45 #[.int .i64 k] w fun e w'=>e=.returned (.bool (isStat k))/\w'=w:=by
 by_cases h1:1<=k
 ·go_enter Tryd.func45,Tryd.ntmps45
  go_wp2
  go_ret;exact⟨by simp[isStat,h1],rfl⟩
 ·go_enter Tryd.func45,Tryd.ntmps45
  go_wp2
  go_ret;exact⟨by simp[isStat];omega,rfl⟩
theorem l3expr_any (k:Int)(w:World):Calls Tryd.prog 93 #[.int .i64 k] w fun e w'=>e=.returned (.bool (isExpr k))/\w'=w:=by
 by_cases h1:20<=k
 ·go_enter Tryd.func93,Tryd.ntmps93
  go_wp2
  go_ret;exact⟨by simp[isExpr,h1],rfl⟩
 ·go_enter Tryd.func93,Tryd.ntmps93
  go_wp2
  go_ret;exact⟨by simp[isExpr];omega,rfl⟩
theorem l3target_any (k:Int)(w:World):Calls Tryd.prog 74 #[.int .i64 k] w fun e w'=>e=.returned (.bool (isTarget k))/\w'=w:=by
 cases h1:k==26
 ·cases h2:k==27
  ·go_enter Tryd.func74,Tryd.ntmps74
   go_wp2
   go_ret;exact⟨by simp[isTarget,h1,h2],rfl⟩
  ·go_enter Tryd.func74,Tryd.ntmps74
   go_wp2
   go_ret;exact⟨by simp[isTarget,h1,h2],rfl⟩
 ·go_enter Tryd.func74,Tryd.ntmps74
  go_wp2
  go_ret;exact⟨by simp[isTarget,h1],rfl⟩
theorem l3many_any (k:Int)(w:World):Calls Tryd.prog 75 #[.int .i64 k] w fun e w'=>e=.returned (.bool (isMany k))/\w'=w:=by
 cases h1:k==34
 ·go_enter Tryd.func75,Tryd.ntmps75
  go_wp2
  go_ret;exact⟨by simp[isMany,h1],rfl⟩
 ·go_enter Tryd.func75,Tryd.ntmps75
  go_wp2
  go_ret;exact⟨by simp[isMany,h1],rfl⟩
theorem l3kid_any (a:Option Addr)(ns:List NodeD)(c p i:Nat)(S:Nat->Prop)(w:World)(hs:NodesAt w S a ns)(hp:p<ns.length)(hi:i<=1048576) :
  Calls Tryd.prog 71 #[.slice a ns.length c,.int .i64 p,.int .i64 i] w fun e w'=>e=.returned (.int .i64 (sKid ns p i))/\w'=w:=by
 have hn:=hs.1;obtain⟨b,off,rfl,hb,hcc⟩:=hs.2 (by omega);have N:=hcc p hp;obtain⟨ka,kc,hk,hkI⟩:=N.kids;have hkn:=hkI.1;have ed:Hid (sKid ns p i=sKid ns p i):=rfl;by_cases q1:(nd ns p).kids.length<=i
 ·have E:Hid (sKid ns p i=0):=by show _=_;simp[sKid,q1]
  have q1':(ns[p]?.getD NodeD.z).kids.length<=i:=q1;generalize ns[p]?.getD NodeD.z=n at *;go_enter Tryd.func71,Tryd.ntmps71
  go_wp2
  go_ret;exact⟨ret_int E.out.symm,rfl⟩
 ·have q1':¬(ns[p]?.getD NodeD.z).kids.length<=i:=q1;obtain⟨b2,off2,rfl,hb2,hc2⟩:=hkI.2 (by omega);have hki:=hc2 i (by omega);by_cases q2:kidI (nd ns p) i<0\/(p:Int)<=kidI (nd ns p) i
  ·have E:Hid (sKid ns p i=0):=by show _=_;simp only[sKid,if_neg q1,if_pos q2]
   have q2':(ns[p]?.getD NodeD.z).kids[i]?.getD 0<0\/(p:Int)<=(ns[p]?.getD NodeD.z).kids[i]?.getD 0:=q2;clear hc2 q2 q1 hcc;generalize (ns[p]?.getD NodeD.z).kids[i]?.getD 0=k at *;generalize ns[p]?.getD NodeD.z=n at *;by_cases q3:k<0
   ·clear q2';go_enter Tryd.func71,Tryd.ntmps71
    go_wp2
    go_ret;exact⟨ret_int E.out.symm,rfl⟩
   ·have q4:(p:Int)<=k:=by omega
    clear q2';go_enter Tryd.func71,Tryd.ntmps71
    go_wp2
    go_ret;exact⟨ret_int E.out.symm,rfl⟩
  ·have E:Hid (sKid ns p i=(nd ns (kidI (nd ns p) i).toNat).kind):=by show _=_;simp only[sKid,if_neg q1,if_neg q2]
   obtain⟨k,hk0⟩:∃ k:Nat,kidI (nd ns p) i=k:=⟨(kidI (nd ns p) i).toNat,by omega⟩;have hkp:k<p:=by omega
   have N2:=(hcc k (by omega)).kind;have hk0':(ns[p]?.getD NodeD.z).kids[i]?.getD 0=k:=hk0;rw[hk0']at hki;have E2:Hid (sKid ns p i=(ns[k]?.getD NodeD.z).kind):=by show _=_;rw[E.out,hk0];simp[nd]
   clear hc2 q2 q1 hcc hk0 hk0' E;generalize (ns[k]?.getD NodeD.z).kind=kk at *;generalize ns[p]?.getD NodeD.z=n at *;go_enter Tryd.func71,Tryd.ntmps71
   go_wp2
   go_ret;exact⟨ret_int E2.out.symm,rfl⟩
theorem l3exprs_any (a:Option Addr)(ns:List NodeD)(c p f t:Nat)(S:Nat->Prop)(w:World)(hs:NodesAt w S a ns)(hp:p<ns.length)(ht:t<=1048576) :
  Calls Tryd.prog 73 #[.slice a ns.length c,.int .i64 p,.int .i64 f,.int .i64 t] w fun e w'=>e=.returned (.bool (sExprs ns p f t))/\w'=w:=by
 go_enter Tryd.func73,Tryd.ntmps73;go_wp2_with fail
 go_loop [9] (fun i=>∃(k:Nat),f<=k/\i=.int .i64 k/\Hid (∀ j,f<=j->j<k->isExpr (sKid ns p j)=true)) (fun i=>t-(intOf i).toNat)
 case atStart=>exact⟨f,Nat.le_refl _,rfl,fun j h1 h2=>by omega⟩
 case round=>
  obtain⟨k,hk,rfl,hall⟩:=hrel;by_cases hlt:k<t
  ·cases hq:isExpr (sKid ns p k)
   ·have HQ:=hide hq;clear hq;go_wp2_with fail
    refine(l3kid_any _ _ _ _ _ S _ hs hp (by omega)).mono ?_;rintro e w' ⟨rfl,rfl⟩;go_wp2_with fail
    refine(l3expr_any _ _).mono ?_;rintro e w' ⟨rfl,rfl⟩;rw[unhide HQ];go_wp2_with fail
    go_ret;exact⟨ret_bool (allFrom_false hk hlt (unhide HQ)).symm,rfl⟩
   ·have HQ:=hide hq;clear hq;go_wp2_with fail
    refine(l3kid_any _ _ _ _ _ S _ hs hp (by omega)).mono ?_;rintro e w' ⟨rfl,rfl⟩;go_wp2_with fail
    refine(l3expr_any _ _).mono ?_;rintro e w' ⟨rfl,rfl⟩;rw[unhide HQ];go_wp2_with fail
    go_round
    case rel=>
     refine⟨k+1,by omega,by go_num,fun j h1 h2=>?_⟩;by_cases e:j=k
     ·subst e;exact unhide HQ
     ·exact hall.out j h1 (by omega)
    case measure=>simp[intOf];omega
  ·go_wp2_with fail
   go_ret;exact⟨ret_bool (allFrom_true (fun j h1 h2=>hall.out j h1 (by omega))).symm,rfl⟩
theorem l3exprs_from {a:Option Addr}{ns:List NodeD}{c p:Nat}{S:Nat->Prop}(w W:World)(hs:NodesAt w S a ns)(hB:∀ b,S b->b<w.heap.size)(hp:p<ns.length)(f t:Int)(hf:0<=f)(ht0:0<=t)(ht:t<=1048576)(hW:Below w.heap.size w W) :
  Calls Tryd.prog 73 #[.slice a ns.length c,.int .i64 p,.int .i64 f,.int .i64 t] W fun e w'=>e=.returned (.bool (sExprsI ns p f t))/\w'=W:=by
 obtain⟨f,rfl⟩:=Int.eq_ofNat_of_zero_le hf;obtain⟨t,rfl⟩:=Int.eq_ofNat_of_zero_le ht0;exact l3exprs_any a ns c p f t S W (hs.keep hW hB) hp (by omega)
theorem l3kid_from {a:Option Addr}{ns:List NodeD}{c p:Nat}{S:Nat->Prop}(w W:World)(hs:NodesAt w S a ns)(hB:∀ b,S b->b<w.heap.size)(hp:p<ns.length)(i:Int)(hi0:0<=i)(hi:i<=1048576)(hW:Below w.heap.size w W) :
  Calls Tryd.prog 71 #[.slice a ns.length c,.int .i64 p,.int .i64 i] W fun e w'=>e=.returned (.int .i64 (sKidI ns p i))/\w'=W:=by
 obtain⟨i,rfl⟩:=Int.eq_ofNat_of_zero_le hi0;exact l3kid_any a ns c p i S W (hs.keep hW hB) hp (by omega)
theorem l3bare_any (kind line op num:Int)(flt:Nat)(str:ByteArray)(n1 n2:Nat)(a1 a2:Option Addr)(c1 c2:Nat)(bo bn bf bs:Bool)(r:Int)(w:World) :
    Calls Tryd.prog 72 #[.agg #[.int .i64 kind,.int .i64 line,.int .i64 op,.int .i64 num,.float .f64 flt,.string str,.slice a1 n1 c1,.slice a2 n2 c2],.bool bo,.bool bn,.bool bf,.bool bs,.int .i64 r] w fun e w'=>
      e=.returned (.bool (sBareV op num flt str n1 bo bn bf bs r))/\Below w.heap.size w w':=by
  have hbA:∀ o,Below w.heap.size w (w.alloc o):=fun o=>(Below.refl _ _).alloc (Nat.le_refl _) o;simp only[sBareV,fltZero,strNone];cases bo<;>cases bn<;>cases bf<;>cases bs<;>
  (go_enter Tryd.func72,Tryd.ntmps72
   go_wp2_with fail
   all_goals (go_ret;refine⟨?_,hbA _⟩;simp[*]))
end Go.Proofs.YtpmeihghljnfeaaDoor
