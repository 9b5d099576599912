import Derived.Test.YtofcbekoaghikaaGreatDoorPart03
import Derived.Deep.RegionWith
import Derived.BigQuiet
import Derived.WalkSmall
set_option linter.unusedSimpArgs false
set_option linter.unusedVariables false
set_option maxHeartbeats 800000
namespace Go.Proofs.YtofcbekoaghikaaGreatDoor
open Go.RowKit
theorem eqIntS_same (a b:Option Addr)(l:List Int)(ca cb:Nat)(S:Nat->Prop)(w:World)(h1:IntsAt w S a l)(h2:IntsAt w S b l)(hB:∀ b,S b->b<w.heap.size) :
  Calls Tryz.prog 101 #[.slice a l.length ca,.slice b l.length cb] w fun e w'=>e=.returned (.bool true)/\Below w.heap.size w w':=by
 have hn:=h1.1;have hne:((l.length:Int) != (l.length:Int))=false:=by simp
 go_enter Tryz.func101,Tryz.ntmps101;go_wp2_with fail
 go_loopw [5] (fun i wr=>∃(k:Nat),k<=l.length/\i=.int .i64 k/\Below w.heap.size w wr) (fun i _=>l.length-(intOf i).toNat)
 case atStart=>exact⟨0,Nat.zero_le _,rfl,Below.refl _ _⟩
 case round=>
  obtain⟨k,hk,rfl,hbw⟩:=hrel;by_cases hlt:k<l.length
  ·obtain⟨b1,off1,rfl,hb1,hc1⟩:=(h1.keep hbw hB).2 (by omega);obtain⟨b2,off2,rfl,hb2,hc2⟩:=(h2.keep hbw hB).2 (by omega);have e1:=hc1 k hlt;have e2:=hc2 k hlt;clear hc1 hc2;generalize l[k]?.getD 0=x at *;have hxx:(x != x)=false:=by simp
   go_wp2_with fail
   go_region
   all_goals (go_wp2_with fail)
   all_goals go_roundw
   all_goals first | (case rel=>exact⟨k+1,by omega,by go_num,hbw.drew⟩) | skip
   all_goals (simp[intOf];omega)
  ·go_wp2_with fail
   go_ret;exact⟨rfl,hbw⟩
theorem read_one:Ieee.double.read 4607182418800017408=.number false 4503599627370496 (-52):=by decide +kernel
theorem quo_one (x:Nat)(h:(FloatKind.f64.format.order x x==some Ordering.eq)=true):∃ q,floatBits .quo .f64 4607182418800017408 x=some q:=by
 have h2:FloatKind.f64.format.order x x=some Ordering.eq:=by simpa using h
 have h':(Ieee.double.read x).order (Ieee.double.read x)=some Ordering.eq:=h2;show ∃ q,((Ieee.double.read 4607182418800017408).quotient (Ieee.double.fractionBits+2) (Ieee.double.read x)).map Ieee.double.write=some q;rw[read_one];generalize Ieee.double.read x=d at h';cases d with
 | number s m i=>
  simp only[Ieee.Datum.quotient];by_cases e:m=0
  ·simp[e]
  ·simp[e]
 | infinity s=>simp[Ieee.Datum.quotient]
 | nan s f=>simp[Ieee.Datum.order]at h'
theorem sameFloat_same (x:Nat)(w:World):Calls Tryz.prog 100 #[.float .f64 x,.float .f64 x] w fun e w'=>e=.returned (.bool true)/\w'=w:=by
 cases h1:FloatKind.f64.format.order x x != some Ordering.eq
 ·have h2:(FloatKind.f64.format.order x x==some Ordering.eq)=true:=by simpa using h1
  cases h0:FloatKind.f64.format.order x 0==some Ordering.eq
  ·go_enter Tryz.func100,Tryz.ntmps100;go_wp2_with fail
   go_ret;exact⟨rfl,rfl⟩
  ·obtain⟨q,hq⟩:=quo_one x h2;have hrun:∀ w:World,(binOp .quo 55 (.float .f64 4607182418800017408) (.float .f64 x)).run Tryz.prog w=.ok (.float .f64 q) w:=fun w=>run_float_arith (w:=w) (P:=Tryz.prog) .quo 55 .f64 4607182418800017408 x q hq;clear hq;go_enter Tryz.func100,Tryz.ntmps100;go_wp2_with fail
   go_ret;exact⟨by simp,rfl⟩
 ·go_enter Tryz.func100,Tryz.ntmps100;go_wp2_with fail
  go_ret;exact⟨rfl,rfl⟩
theorem eqStringS_same (a b:Option Addr)(l:List ByteArray)(ca cb:Nat)(S:Nat->Prop)(w:World)(h1:StrsAt w S a l)(h2:StrsAt w S b l)(hB:∀ b,S b->b<w.heap.size) :
  Calls Tryz.prog 54 #[.slice a l.length ca,.slice b l.length cb] w fun e w'=>e=.returned (.bool true)/\Below w.heap.size w w':=by
 have hn:=h1.1;have hne:((l.length:Int) != (l.length:Int))=false:=by simp
 go_enter Tryz.func54,Tryz.ntmps54;go_wp2_with fail
 go_loopw [5] (fun i wr=>∃(k:Nat),k<=l.length/\i=.int .i64 k/\Below w.heap.size w wr) (fun i _=>l.length-(intOf i).toNat)
 case atStart=>exact⟨0,Nat.zero_le _,rfl,Below.refl _ _⟩
 case round=>
  obtain⟨k,hk,rfl,hbw⟩:=hrel;by_cases hlt:k<l.length
  ·obtain⟨b1,off1,rfl,hb1,hc1⟩:=(h1.keep hbw hB).2 (by omega);obtain⟨b2,off2,rfl,hb2,hc2⟩:=(h2.keep hbw hB).2 (by omega);have e1:=(hc1 k hlt).2;have e2:=(hc2 k hlt).2;clear hc1 hc2;generalize l[k]?.getD ByteArray.empty=x at *;go_wp2_with fail
   go_region
   all_goals (go_wp2_with fail)
   all_goals go_roundw
   all_goals first | (case rel=>exact⟨k+1,by omega,by go_num,hbw.drew⟩) | skip
   all_goals (simp[intOf];omega)
  ·go_wp2_with fail
   go_ret;exact⟨rfl,hbw⟩
theorem eqUp_same (x:Bool)(i:Int)(w:World):Calls Tryz.prog 74 #[.agg #[.bool x,.int .i64 i],.agg #[.bool x,.int .i64 i]] w fun e w'=>e=.returned (.bool true)/\Below w.heap.size w w':=by
 have h1:(x != x)=false:=by simp
 have h2:(i != i)=false:=by simp
 go_enter Tryz.func74,Tryz.ntmps74;go_wp2_with fail
 go_ret;exact⟨rfl,by repeat (first | refine Below.alloc ?_ (by simp<;>omega) _ | exact Below.refl _ _)⟩
theorem eqUpS_same (a b:Option Addr)(l:List (Bool×Int))(ca cb:Nat)(S:Nat->Prop)(w:World)(h1:UpsAt w S a l)(h2:UpsAt w S b l)(hB:∀ b,S b->b<w.heap.size) :
  Calls Tryz.prog 55 #[.slice a l.length ca,.slice b l.length cb] w fun e w'=>e=.returned (.bool true)/\Below w.heap.size w w':=by
 have hn:=h1.1;have hne:((l.length:Int) != (l.length:Int))=false:=by simp
 go_enter Tryz.func55,Tryz.ntmps55;go_wp2_with fail
 go_loopw [5] (fun i wr=>∃(k:Nat),k<=l.length/\i=.int .i64 k/\Below w.heap.size w wr) (fun i _=>l.length-(intOf i).toNat)
 case atStart=>exact⟨0,Nat.zero_le _,rfl,Below.refl _ _⟩
 case round=>
  obtain⟨k,hk,rfl,hbw⟩:=hrel;by_cases hlt:k<l.length
  ·obtain⟨b1,off1,rfl,hb1,hc1⟩:=(h1.keep hbw hB).2 (by omega);obtain⟨b2,off2,rfl,hb2,hc2⟩:=(h2.keep hbw hB).2 (by omega);obtain⟨e1,e2⟩:=hc1 k hlt;obtain⟨e3,e4⟩:=hc2 k hlt;clear hc1 hc2;generalize l[k]?.getD (false,0)=x at *;go_wp2_with fail
   go_region_with (go_at_call 74;refine(eqUp_same x.1 x.2 _).mono ?_;rintro e w' ⟨rfl,hb'⟩)
   all_goals (go_wp2_with fail)
   all_goals go_roundw
   all_goals first | (case rel=>exact⟨k+1,by omega,by go_num,hbw.drew.trans (hb'.mono hbw.size)⟩) | skip
   all_goals (simp[intOf];omega)
  ·go_wp2_with fail
   go_ret;exact⟨rfl,hbw⟩
theorem eqIntS_from {a b:Option Addr}{l:List Int}{ca cb:Nat}{S:Nat->Prop}(w W:World)(h1:IntsAt w S a l)(h2:IntsAt w S b l)(hB:∀ b,S b->b<w.heap.size)(hW:Below w.heap.size w W) :
  Calls Tryz.prog 101 #[.slice a l.length ca,.slice b l.length cb] W fun e w'=>e=.returned (.bool true)/\Below W.heap.size W w':=
 eqIntS_same a b l ca cb S W (h1.keep hW hB) (h2.keep hW hB) (fun b h=>Nat.lt_of_lt_of_le (hB b h) hW.size)
theorem eqStringS_from {a b:Option Addr}{l:List ByteArray}{ca cb:Nat}{S:Nat->Prop}(w W:World)(h1:StrsAt w S a l)(h2:StrsAt w S b l)(hB:∀ b,S b->b<w.heap.size)(hW:Below w.heap.size w W) :
  Calls Tryz.prog 54 #[.slice a l.length ca,.slice b l.length cb] W fun e w'=>e=.returned (.bool true)/\Below W.heap.size W w':=
 eqStringS_same a b l ca cb S W (h1.keep hW hB) (h2.keep hW hB) (fun b h=>Nat.lt_of_lt_of_le (hB b h) hW.size)
theorem eqUpS_from {a b:Option Addr}{l:List (Bool×Int)}{ca cb:Nat}{S:Nat->Prop}(w W:World)(h1:UpsAt w S a l)(h2:UpsAt w S b l)(hB:∀ b,S b->b<w.heap.size)(hW:Below w.heap.size w W) :
  Calls Tryz.prog 55 #[.slice a l.length ca,.slice b l.length cb] W fun e w'=>e=.returned (.bool true)/\Below W.heap.size W w':=
 eqUpS_same a b l ca cb S W (h1.keep hW hB) (h2.keep hW hB) (fun b h=>Nat.lt_of_lt_of_le (hB b h) hW.size)
theorem eqNode_same (k ln op nm:Int)(fl:Nat)(s:ByteArray)(a1 a2 b1 b2:Option Addr)(l1 l2:List Int)(c1 c2 d1 d2:Nat)(S:Nat->Prop)(w:World)(h1:IntsAt w S a1 l1)(h2:IntsAt w S a2 l2)(g1:IntsAt w S b1 l1)(g2:IntsAt w S b2 l2)(hB:∀ b,S b->b<w.heap.size) :
  Calls Tryz.prog 75 #[.agg #[.int .i64 k,.int .i64 ln,.int .i64 op,.int .i64 nm,.float .f64 fl,.string s,.slice a1 l1.length c1,.slice a2 l2.length c2],.agg #[.int .i64 k,.int .i64 ln,.int .i64 op,.int .i64 nm,.float .f64 fl,.string s,.slice b1 l1.length d1,.slice b2 l2.length d2]] w fun e w'=>
   e=.returned (.bool true)/\Below w.heap.size w w':=by
 have e1:(k != k)=false:=by simp
 have e2:(ln != ln)=false:=by simp
 have e3:(op != op)=false:=by simp
 have e4:(nm != nm)=false:=by simp
 go_enter Tryz.func75,Tryz.ntmps75;go_wp2_with fail
 refine(sameFloat_same _ _).mono ?_;rintro e w0 ⟨rfl,rfl⟩;go_wp2_with fail
 refine(eqIntS_from w _ h1 g1 hB ?hW).mono ?_
 case hW=>repeat (first | refine Below.alloc ?_ (by simp<;>omega) _ | exact Below.refl _ _)
 rintro e w1 ⟨rfl,hb1⟩;have hbw1:Below w.heap.size w w1:=by
  refine Below.trans (b:=_) ?_ (hb1.mono (by simp<;>omega))
  repeat (first | refine Below.alloc ?_ (by simp<;>omega) _ | exact Below.refl _ _)
 obtain⟨hc,hf⟩:=bcell hb1;go_wp2_with fail
 refine(eqIntS_from w _ h2 g2 hB hbw1).mono ?_;rintro e w2 ⟨rfl,hb2⟩;go_wp2_with fail
 go_ret;exact⟨rfl,hbw1.trans (hb2.mono hbw1.size)⟩
theorem eqNode_from {k ln op nm:Int}{fl:Nat}{s:ByteArray}{a1 a2 b1 b2:Option Addr}{l1 l2:List Int}{c1 c2 d1 d2:Nat}{S:Nat->Prop}(w W:World)(h1:IntsAt w S a1 l1)(h2:IntsAt w S a2 l2)(g1:IntsAt w S b1 l1)(g2:IntsAt w S b2 l2)(hB:∀ b,S b->b<w.heap.size)(hW:Below w.heap.size w W) :
  Calls Tryz.prog 75 #[.agg #[.int .i64 k,.int .i64 ln,.int .i64 op,.int .i64 nm,.float .f64 fl,.string s,.slice a1 l1.length c1,.slice a2 l2.length c2],.agg #[.int .i64 k,.int .i64 ln,.int .i64 op,.int .i64 nm,.float .f64 fl,.string s,.slice b1 l1.length d1,.slice b2 l2.length d2]] W fun e w'=>
   e=.returned (.bool true)/\Below W.heap.size W w':=
 eqNode_same k ln op nm fl s a1 a2 b1 b2 l1 l2 c1 c2 d1 d2 S W (h1.keep hW hB) (h2.keep hW hB) (g1.keep hW hB) (g2.keep hW hB) (fun b h=>Nat.lt_of_lt_of_le (hB b h) hW.size)
theorem eqNodeS_same (a b:Option Addr)(l:List NodeD)(ca cb:Nat)(S:Nat->Prop)(w:World)(h1:NodesAt w S a l)(h2:NodesAt w S b l)(hB:∀ b,S b->b<w.heap.size) :
  Calls Tryz.prog 56 #[.slice a l.length ca,.slice b l.length cb] w fun e w'=>e=.returned (.bool true)/\Below w.heap.size w w':=by
 have hn:=h1.1;have hne:((l.length:Int) != (l.length:Int))=false:=by simp
 go_enter Tryz.func56,Tryz.ntmps56;go_wp2_with fail
 go_loopw [5] (fun i wr=>∃(k:Nat),k<=l.length/\i=.int .i64 k/\Below w.heap.size w wr) (fun i _=>l.length-(intOf i).toNat)
 case atStart=>exact⟨0,Nat.zero_le _,rfl,Below.refl _ _⟩
 case round=>
  obtain⟨k,hk,rfl,hbw⟩:=hrel;have hBr:∀ b,S b->b<wr.heap.size:=fun b h=>Nat.lt_of_lt_of_le (hB b h) hbw.size;by_cases hlt:k<l.length
  ·obtain⟨b1,off1,rfl,hb1,hc1⟩:=(h1.keep hbw hB).2 (by omega);obtain⟨b2,off2,rfl,hb2,hc2⟩:=(h2.keep hbw hB).2 (by omega);have N:=hc1 k hlt;have M:=hc2 k hlt;clear hc1 hc2;generalize l[k]?.getD NodeD.z=nd at *;obtain⟨ra,rc,hr,hrI⟩:=N.refs;obtain⟨ka,kc,hkk,hkI⟩:=N.kids;obtain⟨ra',rc',hr',hrI'⟩:=M.refs;obtain⟨ka',kc',hkk',hkI'⟩:=M.kids;have c0:=N.kind;have c1:=N.line;have c2:=N.op;have c3:=N.num;have c4:=N.flt;have c5:=N.str;have d0:=M.kind;have d1:=M.line;have d2:=M.op;have d3:=M.num;have d4:=M.flt;have d5:=M.str;go_wp2_with fail
   go_region_with (go_at_call 75;refine(eqNode_from wr _ hrI hkI hrI' hkI' hBr (by exact(Below.refl _ _).drew)).mono ?_;rintro e w' ⟨rfl,hb'⟩)
   all_goals (go_wp2_with fail)
   all_goals go_roundw
   all_goals first | (case rel=>exact⟨k+1,by omega,by go_num,hbw.drew.trans (hb'.mono hbw.size)⟩) | skip
   all_goals (simp[intOf];omega)
  ·go_wp2_with fail
   go_ret;exact⟨rfl,hbw⟩
theorem eqNodeS_from {a b:Option Addr}{l:List NodeD}{ca cb:Nat}{S:Nat->Prop}(w W:World)(h1:NodesAt w S a l)(h2:NodesAt w S b l)(hB:∀ b,S b->b<w.heap.size)(hW:Below w.heap.size w W) :
  Calls Tryz.prog 56 #[.slice a l.length ca,.slice b l.length cb] W fun e w'=>e=.returned (.bool true)/\Below W.heap.size W w':=
 eqNodeS_same a b l ca cb S W (h1.keep hW hB) (h2.keep hW hB) (fun b h=>Nat.lt_of_lt_of_le (hB b h) hW.size)
theorem eqFn_same (nm:ByteArray)(ln pr:Int)(rs:Bool)(vs:List ByteArray)(us:List (Bool×Int))(ns:List NodeD)(a4 a5 a6 b4 b5 b6:Option Addr)(c4 c5 c6 d4 d5 d6:Nat)(S:Nat->Prop)(w:World)
  (h4:StrsAt w S a4 vs)(h5:UpsAt w S a5 us)(h6:NodesAt w S a6 ns)(g4:StrsAt w S b4 vs)(g5:UpsAt w S b5 us)(g6:NodesAt w S b6 ns)(hB:∀ b,S b->b<w.heap.size) :
  Calls Tryz.prog 29 #[.agg #[.string nm,.int .i64 ln,.int .i64 pr,.bool rs,.slice a4 vs.length c4,.slice a5 us.length c5,.slice a6 ns.length c6],.agg #[.string nm,.int .i64 ln,.int .i64 pr,.bool rs,.slice b4 vs.length d4,.slice b5 us.length d5,.slice b6 ns.length d6]] w fun e w'=>
   e=.returned (.bool true)/\Below w.heap.size w w':=by
 have e2:(ln != ln)=false:=by simp
 have e3:(pr != pr)=false:=by simp
 have e4:(rs != rs)=false:=by simp
 go_enter Tryz.func29,Tryz.ntmps29;go_wp2_with fail
 refine(eqStringS_from w _ h4 g4 hB ?hW).mono ?_
 case hW=>repeat (first | refine Below.alloc ?_ (by simp<;>omega) _ | exact Below.refl _ _)
 rintro e w1 ⟨rfl,hb1⟩;have hbw1:Below w.heap.size w w1:=by
  refine Below.trans (b:=_) ?_ (hb1.mono (by simp<;>omega))
  repeat (first | refine Below.alloc ?_ (by simp<;>omega) _ | exact Below.refl _ _)
 obtain⟨hc,hf⟩:=bcell hb1;have hz:w.heap.size+1+1<=w1.heap.size:=by have:=hb1.size;simpa using this
 have hz0:w.heap.size<w1.heap.size:=by omega
 have hz1:w.heap.size+1<w1.heap.size:=by omega
 go_wp2_with fail
 refine(eqUpS_from w _ h5 g5 hB hbw1).mono ?_;rintro e w2 ⟨rfl,hb2⟩;have hbw2:Below w.heap.size w w2:=hbw1.trans (hb2.mono hbw1.size);obtain⟨hc2,hf2⟩:=bcell hb2;go_wp2_with fail
 refine(eqNodeS_from w _ h6 g6 hB hbw2).mono ?_;rintro e w3 ⟨rfl,hb3⟩;go_wp2_with fail
 go_ret;exact⟨rfl,hbw2.trans (hb3.mono hbw2.size)⟩
theorem eqFn_from {nm:ByteArray}{ln pr:Int}{rs:Bool}{vs:List ByteArray}{us:List (Bool×Int)}{ns:List NodeD}{a4 a5 a6 b4 b5 b6:Option Addr}{c4 c5 c6 d4 d5 d6:Nat}{S:Nat->Prop}(w W:World)
  (h4:StrsAt w S a4 vs)(h5:UpsAt w S a5 us)(h6:NodesAt w S a6 ns)(g4:StrsAt w S b4 vs)(g5:UpsAt w S b5 us)(g6:NodesAt w S b6 ns)(hB:∀ b,S b->b<w.heap.size)(hW:Below w.heap.size w W) :
  Calls Tryz.prog 29 #[.agg #[.string nm,.int .i64 ln,.int .i64 pr,.bool rs,.slice a4 vs.length c4,.slice a5 us.length c5,.slice a6 ns.length c6],.agg #[.string nm,.int .i64 ln,.int .i64 pr,.bool rs,.slice b4 vs.length d4,.slice b5 us.length d5,.slice b6 ns.length d6]] W fun e w'=>
   e=.returned (.bool true)/\Below W.heap.size W w':=
 eqFn_same nm ln pr rs vs us ns a4 a5 a6 b4 b5 b6 c4 c5 c6 d4 d5 d6 S W (h4.keep hW hB) (h5.keep hW hB) (h6.keep hW hB) (g4.keep hW hB) (g5.keep hW hB) (g6.keep hW hB) (fun b h=>Nat.lt_of_lt_of_le (hB b h) hW.size)
theorem eqFnS_same (a b:Option Addr)(l:List FnD)(ca cb:Nat)(S:Nat->Prop)(w:World)(h1:FnsAt w S a l)(h2:FnsAt w S b l)(hB:∀ b,S b->b<w.heap.size) :
  Calls Tryz.prog 19 #[.slice a l.length ca,.slice b l.length cb] w fun e w'=>e=.returned (.bool true)/\Below w.heap.size w w':=by
 have hn:=h1.1;have hne:((l.length:Int) != (l.length:Int))=false:=by simp
 go_enter Tryz.func19,Tryz.ntmps19;go_wp2_with fail
 go_loopw [5] (fun i wr=>∃(k:Nat),k<=l.length/\i=.int .i64 k/\Below w.heap.size w wr) (fun i _=>l.length-(intOf i).toNat)
 case atStart=>exact⟨0,Nat.zero_le _,rfl,Below.refl _ _⟩
 case round=>
  obtain⟨k,hk,rfl,hbw⟩:=hrel;have hBr:∀ b,S b->b<wr.heap.size:=fun b h=>Nat.lt_of_lt_of_le (hB b h) hbw.size;by_cases hlt:k<l.length
  ·obtain⟨b1,off1,rfl,hb1,hc1⟩:=(h1.keep hbw hB).2 (by omega);obtain⟨b2,off2,rfl,hb2,hc2⟩:=(h2.keep hbw hB).2 (by omega);have N:=hc1 k hlt;have M:=hc2 k hlt;clear hc1 hc2;generalize l[k]?.getD FnD.z=nd at *;obtain⟨a4,c4,h4,H4⟩:=N.vars;obtain⟨a5,c5,h5,H5⟩:=N.ups;obtain⟨a6,c6,h6,H6⟩:=N.nodes;obtain⟨b4,d4,k4,K4⟩:=M.vars;obtain⟨b5,d5,k5,K5⟩:=M.ups;obtain⟨b6,d6,k6,K6⟩:=M.nodes;have c0:=N.name;have c1:=N.line;have c2:=N.params;have c3:=N.rest;have d0:=M.name;have d1:=M.line;have d2:=M.params;have d3:=M.rest;go_wp2_with fail
   go_region_with (go_at_call 29;refine(eqFn_from wr _ H4 H5 H6 K4 K5 K6 hBr (by exact(Below.refl _ _).drew)).mono ?_;rintro e w' ⟨rfl,hb'⟩)
   all_goals (go_wp2_with fail)
   all_goals go_roundw
   all_goals first | (case rel=>exact⟨k+1,by omega,by go_num,hbw.drew.trans (hb'.mono hbw.size)⟩) | skip
   all_goals (simp[intOf];omega)
  ·go_wp2_with fail
   go_ret;exact⟨rfl,hbw⟩
theorem eqUnit_same (a b:Option Addr)(l:List FnD)(ca cb:Nat)(S:Nat->Prop)(w:World)(h1:FnsAt w S a l)(h2:FnsAt w S b l)(hB:∀ b,S b->b<w.heap.size) :
  Calls Tryz.prog 9 #[.agg #[.slice a l.length ca],.agg #[.slice b l.length cb]] w fun e w'=>e=.returned (.bool true)/\Below w.heap.size w w':=by
 go_enter Tryz.func9,Tryz.ntmps9;go_wp2_with fail
 have hbA:∀ o1 o2,Below w.heap.size w ((w.alloc o1).alloc o2):=fun o1 o2=>by
  repeat (first | refine Below.alloc ?_ (by simp<;>omega) _ | exact Below.refl _ _)
 refine(eqFnS_same a b l ca cb S _ (h1.keep (hbA _ _) hB) (h2.keep (hbA _ _) hB) (fun b h=>Nat.lt_of_lt_of_le (hB b h) (hbA _ _).size)).mono ?_;rintro e w1 ⟨rfl,hb1⟩;go_wp2_with fail
 go_ret;exact⟨rfl,(hbA _ _).trans (hb1.mono (hbA _ _).size)⟩
end Go.Proofs.YtofcbekoaghikaaGreatDoor
