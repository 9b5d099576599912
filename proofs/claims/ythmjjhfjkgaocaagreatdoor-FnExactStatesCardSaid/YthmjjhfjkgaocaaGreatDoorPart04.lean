import Derived.Test.YthmjjhfjkgaocaaGreatDoorPart02
import Derived.Deep.RegionWith
import Derived.BigQuiet
import Derived.WalkSmall
set_option linter.unusedSimpArgs false
set_option linter.unusedVariables false
set_option maxHeartbeats 1600000
namespace Go.Proofs.YthmjjhfjkgaocaaGreatDoor
open Go.RowKit
attribute [local go_sem] run_store_float
theorem read_one:Ieee.double.read 4607182418800017408=.number false 4503599627370496 (-52):=by decide +kernel
theorem quo_one (x:Nat)(h:(FloatKind.f64.format.order x x==some Ordering.eq)=true):∃ q,floatBits .quo .f64 4607182418800017408 x=some q:=by
 have h2:FloatKind.f64.format.order x x=some Ordering.eq:=by simpa using h
 have h':(Ieee.double.read x).order (Ieee.double.read x)=some Ordering.eq:=h2
 show ∃ q,((Ieee.double.read 4607182418800017408).quotient (Ieee.double.fractionBits+2) (Ieee.double.read x)).map Ieee.double.write=some q
 rw[read_one]
 generalize Ieee.double.read x=d at h'
 cases d with
 | number s m i=>
  simp only[Ieee.Datum.quotient]
  by_cases e:m=0
  ·simp[e]
  ·simp[e]
 | infinity s=>simp[Ieee.Datum.quotient]
 | nan s f=>simp[Ieee.Datum.order]at h'
theorem sameFloat_same (x:Nat)(w:World):Calls Tryz.prog 138 #[.float .f64 x,.float .f64 x] w fun e w'=>e=.returned (.bool true)∧w'=w:=by
 cases h1:FloatKind.f64.format.order x x != some Ordering.eq
 ·have h2:(FloatKind.f64.format.order x x==some Ordering.eq)=true:=by simpa using h1
  cases h0:FloatKind.f64.format.order x 0==some Ordering.eq
  ·go_enter Tryz.func138,Tryz.ntmps138
   go_wp2_with fail
   go_ret
   exact⟨rfl,rfl⟩
  ·obtain⟨q,hq⟩:=quo_one x h2
   have hrun:∀ w:World,(binOp .quo 149 (.float .f64 4607182418800017408) (.float .f64 x)).run Tryz.prog w=.ok (.float .f64 q) w:=fun w=>run_float_arith (w:=w) (P:=Tryz.prog) .quo 149 .f64 4607182418800017408 x q hq
   clear hq
   go_enter Tryz.func138,Tryz.ntmps138
   go_wp2_with fail
   go_ret
   exact⟨by simp,rfl⟩
 ·go_enter Tryz.func138,Tryz.ntmps138
  go_wp2_with fail
  go_ret
  exact⟨rfl,rfl⟩
theorem eqUp_same (v0:Bool)(v1:Int)(w:World):Calls Tryz.prog 122 #[.agg #[.bool v0,.int .i64 v1],.agg #[.bool v0,.int .i64 v1]] w fun e w'=>e=.returned (.bool true)∧Below w.heap.size w w':=by
 have e0:(v0 != v0)=false:=by simp
 have e1:(v1 != v1)=false:=by simp
 go_enter Tryz.func122,Tryz.ntmps122
 go_wp2_with fail
 go_ret
 exact⟨rfl,by repeat (first | refine Below.alloc ?_ (by simp<;>omega) _ | exact Below.refl _ _)⟩
theorem eqUpS_same (a b:Option Addr)(l:List (Bool×Int))(ca cb:Nat)(S:Nat→Prop)(w:World)(h1:UpsAt w S a l)(h2:UpsAt w S b l)(hB:∀ b,S b→b<w.heap.size) :
  Calls Tryz.prog 91 #[.slice a l.length ca,.slice b l.length cb] w fun e w'=>e=.returned (.bool true)∧Below w.heap.size w w':=by
 have hn:=h1.1
 have hne:((l.length:Int) != (l.length:Int))=false:=by simp
 go_enter Tryz.func91,Tryz.ntmps91
 go_wp2_with fail
 go_loopw [5] (fun i wr=>∃(k:Nat),k≤l.length∧i=.int .i64 k∧Below w.heap.size w wr) (fun i _=>l.length-(intOf i).toNat)
 case atStart=>exact⟨0,Nat.zero_le _,rfl,Below.refl _ _⟩
 case round=>
  obtain⟨k,hk,rfl,hbw⟩:=hrel
  by_cases hlt:k<l.length
  ·obtain⟨b1,off1,rfl,hb1,hc1⟩:=(h1.keep hbw hB).2 (by omega)
   obtain⟨b2,off2,rfl,hb2,hc2⟩:=(h2.keep hbw hB).2 (by omega)
   have N:=hc1 k hlt;have M:=hc2 k hlt
   clear hc1 hc2
   generalize l[k]?.getD (false,0)=x at *
   obtain⟨c0,c1⟩:=N;obtain⟨d0,d1⟩:=M
   go_wp2_with fail
   go_region_with (go_at_call 122;refine(eqUp_same x.1 x.2 _).mono ?_;rintro e w' ⟨rfl,hb'⟩)
   all_goals (go_wp2_with fail)
   all_goals go_roundw
   all_goals first | (case rel=>exact⟨k+1,by omega,by go_num,hbw.drew.trans (hb'.mono hbw.size)⟩) | skip
   all_goals (simp[intOf];omega)
  ·go_wp2_with fail
   go_ret
   exact⟨rfl,hbw⟩
theorem eqUpS_from {a b:Option Addr}{l:List (Bool×Int)}{ca cb:Nat}{S:Nat→Prop}(w W:World)(h1:UpsAt w S a l)(h2:UpsAt w S b l)(hB:∀ b,S b→b<w.heap.size)(hW:Below w.heap.size w W) :
  Calls Tryz.prog 91 #[.slice a l.length ca,.slice b l.length cb] W fun e w'=>e=.returned (.bool true)∧Below W.heap.size W w':=
 eqUpS_same a b l ca cb S W (h1.keep hW hB) (h2.keep hW hB) (fun b h=>Nat.lt_of_lt_of_le (hB b h) hW.size)
theorem eqValue_same (v0:Int)(v1:Int)(v2:Nat)(v3:ByteArray)(v4:Int)(w:World):Calls Tryz.prog 123 #[.agg #[.int .i64 v0,.int .i64 v1,.float .f64 v2,.string v3,.int .i64 v4],.agg #[.int .i64 v0,.int .i64 v1,.float .f64 v2,.string v3,.int .i64 v4]] w fun e w'=>e=.returned (.bool true)∧Below w.heap.size w w':=by
 have e0:(v0 != v0)=false:=by simp
 have e1:(v1 != v1)=false:=by simp
 have e4:(v4 != v4)=false:=by simp
 go_enter Tryz.func123,Tryz.ntmps123
 go_wp2_with fail
 refine(sameFloat_same _ _).mono ?_
 rintro e w0 ⟨rfl,rfl⟩
 go_wp2_with fail
 go_ret
 exact⟨rfl,by repeat (first | refine Below.alloc ?_ (by simp<;>omega) _ | exact Below.refl _ _)⟩
theorem eqValueS_same (a b:Option Addr)(l:List (ValD))(ca cb:Nat)(S:Nat→Prop)(w:World)(h1:ValsAt w S a l)(h2:ValsAt w S b l)(hB:∀ b,S b→b<w.heap.size) :
  Calls Tryz.prog 92 #[.slice a l.length ca,.slice b l.length cb] w fun e w'=>e=.returned (.bool true)∧Below w.heap.size w w':=by
 have hn:=h1.1
 have hne:((l.length:Int) != (l.length:Int))=false:=by simp
 go_enter Tryz.func92,Tryz.ntmps92
 go_wp2_with fail
 go_loopw [5] (fun i wr=>∃(k:Nat),k≤l.length∧i=.int .i64 k∧Below w.heap.size w wr) (fun i _=>l.length-(intOf i).toNat)
 case atStart=>exact⟨0,Nat.zero_le _,rfl,Below.refl _ _⟩
 case round=>
  obtain⟨k,hk,rfl,hbw⟩:=hrel
  by_cases hlt:k<l.length
  ·obtain⟨b1,off1,rfl,hb1,hc1⟩:=(h1.keep hbw hB).2 (by omega)
   obtain⟨b2,off2,rfl,hb2,hc2⟩:=(h2.keep hbw hB).2 (by omega)
   have N:=hc1 k hlt;have M:=hc2 k hlt
   clear hc1 hc2
   generalize l[k]?.getD ValD.z=x at *
   have c0:=N.kind;have d0:=M.kind;have c1:=N.num;have d1:=M.num;have c2:=N.flt;have d2:=M.flt;have c3:=N.str;have d3:=M.str;have c4:=N.ref;have d4:=M.ref
   go_wp2_with fail
   go_region_with (go_at_call 123;refine(eqValue_same x.kind x.num x.flt x.str x.ref _).mono ?_;rintro e w' ⟨rfl,hb'⟩)
   all_goals (go_wp2_with fail)
   all_goals go_roundw
   all_goals first | (case rel=>exact⟨k+1,by omega,by go_num,hbw.drew.trans (hb'.mono hbw.size)⟩) | skip
   all_goals (simp[intOf];omega)
  ·go_wp2_with fail
   go_ret
   exact⟨rfl,hbw⟩
theorem eqValueS_from {a b:Option Addr}{l:List (ValD)}{ca cb:Nat}{S:Nat→Prop}(w W:World)(h1:ValsAt w S a l)(h2:ValsAt w S b l)(hB:∀ b,S b→b<w.heap.size)(hW:Below w.heap.size w W) :
  Calls Tryz.prog 92 #[.slice a l.length ca,.slice b l.length cb] W fun e w'=>e=.returned (.bool true)∧Below W.heap.size W w':=
 eqValueS_same a b l ca cb S W (h1.keep hW hB) (h2.keep hW hB) (fun b h=>Nat.lt_of_lt_of_le (hB b h) hW.size)
theorem eqIns_same (v0:Int)(v1:Int)(v2:Int)(v3:Int)(v4:Int)(w:World):Calls Tryz.prog 124 #[.agg #[.int .i64 v0,.int .i64 v1,.int .i64 v2,.int .i64 v3,.int .i64 v4],.agg #[.int .i64 v0,.int .i64 v1,.int .i64 v2,.int .i64 v3,.int .i64 v4]] w fun e w'=>e=.returned (.bool true)∧Below w.heap.size w w':=by
 have e0:(v0 != v0)=false:=by simp
 have e1:(v1 != v1)=false:=by simp
 have e2:(v2 != v2)=false:=by simp
 have e3:(v3 != v3)=false:=by simp
 have e4:(v4 != v4)=false:=by simp
 go_enter Tryz.func124,Tryz.ntmps124
 go_wp2_with fail
 go_ret
 exact⟨rfl,by repeat (first | refine Below.alloc ?_ (by simp<;>omega) _ | exact Below.refl _ _)⟩
theorem eqInsS_same (a b:Option Addr)(l:List (InsD))(ca cb:Nat)(S:Nat→Prop)(w:World)(h1:InssAt w S a l)(h2:InssAt w S b l)(hB:∀ b,S b→b<w.heap.size) :
  Calls Tryz.prog 93 #[.slice a l.length ca,.slice b l.length cb] w fun e w'=>e=.returned (.bool true)∧Below w.heap.size w w':=by
 have hn:=h1.1
 have hne:((l.length:Int) != (l.length:Int))=false:=by simp
 go_enter Tryz.func93,Tryz.ntmps93
 go_wp2_with fail
 go_loopw [5] (fun i wr=>∃(k:Nat),k≤l.length∧i=.int .i64 k∧Below w.heap.size w wr) (fun i _=>l.length-(intOf i).toNat)
 case atStart=>exact⟨0,Nat.zero_le _,rfl,Below.refl _ _⟩
 case round=>
  obtain⟨k,hk,rfl,hbw⟩:=hrel
  by_cases hlt:k<l.length
  ·obtain⟨b1,off1,rfl,hb1,hc1⟩:=(h1.keep hbw hB).2 (by omega)
   obtain⟨b2,off2,rfl,hb2,hc2⟩:=(h2.keep hbw hB).2 (by omega)
   have N:=hc1 k hlt;have M:=hc2 k hlt
   clear hc1 hc2
   generalize l[k]?.getD InsD.z=x at *
   have c0:=N.op;have d0:=M.op;have c1:=N.fa;have d1:=M.fa;have c2:=N.fb;have d2:=M.fb;have c3:=N.fc;have d3:=M.fc;have c4:=N.fd;have d4:=M.fd
   go_wp2_with fail
   go_region_with (go_at_call 124;refine(eqIns_same x.op x.fa x.fb x.fc x.fd _).mono ?_;rintro e w' ⟨rfl,hb'⟩)
   all_goals (go_wp2_with fail)
   all_goals go_roundw
   all_goals first | (case rel=>exact⟨k+1,by omega,by go_num,hbw.drew.trans (hb'.mono hbw.size)⟩) | skip
   all_goals (simp[intOf];omega)
  ·go_wp2_with fail
   go_ret
   exact⟨rfl,hbw⟩
theorem eqInsS_from {a b:Option Addr}{l:List (InsD)}{ca cb:Nat}{S:Nat→Prop}(w W:World)(h1:InssAt w S a l)(h2:InssAt w S b l)(hB:∀ b,S b→b<w.heap.size)(hW:Below w.heap.size w W) :
  Calls Tryz.prog 93 #[.slice a l.length ca,.slice b l.length cb] W fun e w'=>e=.returned (.bool true)∧Below W.heap.size W w':=
 eqInsS_same a b l ca cb S W (h1.keep hW hB) (h2.keep hW hB) (fun b h=>Nat.lt_of_lt_of_le (hB b h) hW.size)
theorem eqNamed_same (v0:ByteArray)(v1:Int)(v2:Int)(v3:Int)(w:World):Calls Tryz.prog 125 #[.agg #[.string v0,.int .i64 v1,.int .i64 v2,.int .i64 v3],.agg #[.string v0,.int .i64 v1,.int .i64 v2,.int .i64 v3]] w fun e w'=>e=.returned (.bool true)∧Below w.heap.size w w':=by
 have e1:(v1 != v1)=false:=by simp
 have e2:(v2 != v2)=false:=by simp
 have e3:(v3 != v3)=false:=by simp
 go_enter Tryz.func125,Tryz.ntmps125
 go_wp2_with fail
 go_ret
 exact⟨rfl,by repeat (first | refine Below.alloc ?_ (by simp<;>omega) _ | exact Below.refl _ _)⟩
theorem eqNamedS_same (a b:Option Addr)(l:List (NamD))(ca cb:Nat)(S:Nat→Prop)(w:World)(h1:NamsAt w S a l)(h2:NamsAt w S b l)(hB:∀ b,S b→b<w.heap.size) :
  Calls Tryz.prog 94 #[.slice a l.length ca,.slice b l.length cb] w fun e w'=>e=.returned (.bool true)∧Below w.heap.size w w':=by
 have hn:=h1.1
 have hne:((l.length:Int) != (l.length:Int))=false:=by simp
 go_enter Tryz.func94,Tryz.ntmps94
 go_wp2_with fail
 go_loopw [5] (fun i wr=>∃(k:Nat),k≤l.length∧i=.int .i64 k∧Below w.heap.size w wr) (fun i _=>l.length-(intOf i).toNat)
 case atStart=>exact⟨0,Nat.zero_le _,rfl,Below.refl _ _⟩
 case round=>
  obtain⟨k,hk,rfl,hbw⟩:=hrel
  by_cases hlt:k<l.length
  ·obtain⟨b1,off1,rfl,hb1,hc1⟩:=(h1.keep hbw hB).2 (by omega)
   obtain⟨b2,off2,rfl,hb2,hc2⟩:=(h2.keep hbw hB).2 (by omega)
   have N:=hc1 k hlt;have M:=hc2 k hlt
   clear hc1 hc2
   generalize l[k]?.getD NamD.z=x at *
   have c0:=N.name;have d0:=M.name;have c1:=N.reg;have d1:=M.reg;have c2:=N.fro;have d2:=M.fro;have c3:=N.til;have d3:=M.til
   go_wp2_with fail
   go_region_with (go_at_call 125;refine(eqNamed_same x.name x.reg x.fro x.til _).mono ?_;rintro e w' ⟨rfl,hb'⟩)
   all_goals (go_wp2_with fail)
   all_goals go_roundw
   all_goals first | (case rel=>exact⟨k+1,by omega,by go_num,hbw.drew.trans (hb'.mono hbw.size)⟩) | skip
   all_goals (simp[intOf];omega)
  ·go_wp2_with fail
   go_ret
   exact⟨rfl,hbw⟩
theorem eqNamedS_from {a b:Option Addr}{l:List (NamD)}{ca cb:Nat}{S:Nat→Prop}(w W:World)(h1:NamsAt w S a l)(h2:NamsAt w S b l)(hB:∀ b,S b→b<w.heap.size)(hW:Below w.heap.size w W) :
  Calls Tryz.prog 94 #[.slice a l.length ca,.slice b l.length cb] W fun e w'=>e=.returned (.bool true)∧Below W.heap.size W w':=
 eqNamedS_same a b l ca cb S W (h1.keep hW hB) (h2.keep hW hB) (fun b h=>Nat.lt_of_lt_of_le (hB b h) hW.size)
theorem eqProto_same (nm:ByteArray)(ln pr:Int)(rs:Bool)(rg:Int)(us:List (Bool×Int))(cs:List ValD)(is:List InsD)(ns:List NamD)(a5 a6 a7 a8 b5 b6 b7 b8:Option Addr)(c5 c6 c7 c8 d5 d6 d7 d8:Nat)(S:Nat→Prop)(w:World)
  (h5:UpsAt w S a5 us)(h6:ValsAt w S a6 cs)(h7:InssAt w S a7 is)(h8:NamsAt w S a8 ns)(g5:UpsAt w S b5 us)(g6:ValsAt w S b6 cs)(g7:InssAt w S b7 is)(g8:NamsAt w S b8 ns)(hB:∀ b,S b→b<w.heap.size) :
  Calls Tryz.prog 50 #[.agg #[.string nm,.int .i64 ln,.int .i64 pr,.bool rs,.int .i64 rg,.slice a5 us.length c5,.slice a6 cs.length c6,.slice a7 is.length c7,.slice a8 ns.length c8],.agg #[.string nm,.int .i64 ln,.int .i64 pr,.bool rs,.int .i64 rg,.slice b5 us.length d5,.slice b6 cs.length d6,.slice b7 is.length d7,.slice b8 ns.length d8]] w fun e w'=>e=.returned (.bool true)∧Below w.heap.size w w':=by
 have e2:(ln != ln)=false:=by simp
 have e3:(pr != pr)=false:=by simp
 have e4:(rs != rs)=false:=by simp
 have e5:(rg != rg)=false:=by simp
 go_enter Tryz.func50,Tryz.ntmps50
 go_wp2_with fail
 refine(eqUpS_from w _ h5 g5 hB ?hW).mono ?_
 case hW=>repeat (first | refine Below.alloc ?_ (by simp<;>omega) _ | exact Below.refl _ _)
 rintro e w1 ⟨rfl,hb1⟩
 have hbw1:Below w.heap.size w w1:=by
  refine Below.trans (b:=_) ?_ (hb1.mono (by simp<;>omega))
  repeat (first | refine Below.alloc ?_ (by simp<;>omega) _ | exact Below.refl _ _)
 obtain⟨hc,hf⟩:=bcell hb1
 have hz:w.heap.size+1+1≤w1.heap.size:=by have:=hb1.size;simpa using this
 have hz0:w.heap.size<w1.heap.size:=by omega
 have hz1:w.heap.size+1<w1.heap.size:=by omega
 go_wp2_with fail
 refine(eqValueS_from w _ h6 g6 hB hbw1).mono ?_
 rintro e w2 ⟨rfl,hb2⟩
 have hbw2:Below w.heap.size w w2:=hbw1.trans (hb2.mono hbw1.size)
 obtain⟨hc2,hf2⟩:=bcell hb2
 have hy0:w.heap.size<w2.heap.size:=Nat.lt_of_lt_of_le hz0 hb2.size
 have hy1:w.heap.size+1<w2.heap.size:=Nat.lt_of_lt_of_le hz1 hb2.size
 go_wp2_with fail
 refine(eqInsS_from w _ h7 g7 hB hbw2).mono ?_
 rintro e w3 ⟨rfl,hb3⟩
 have hbw3:Below w.heap.size w w3:=hbw2.trans (hb3.mono hbw2.size)
 obtain⟨hc3,hf3⟩:=bcell hb3
 go_wp2_with fail
 refine(eqNamedS_from w _ h8 g8 hB hbw3).mono ?_
 rintro e w4 ⟨rfl,hb4⟩
 go_wp2_with fail
 go_ret
 exact⟨rfl,hbw3.trans (hb4.mono hbw3.size)⟩
theorem eqProto_from {nm:ByteArray}{ln pr:Int}{rs:Bool}{rg:Int}{us:List (Bool×Int)}{cs:List ValD}{is:List InsD}{ns:List NamD}{a5 a6 a7 a8 b5 b6 b7 b8:Option Addr}{c5 c6 c7 c8 d5 d6 d7 d8:Nat}{S:Nat→Prop}(w W:World)
  (h5:UpsAt w S a5 us)(h6:ValsAt w S a6 cs)(h7:InssAt w S a7 is)(h8:NamsAt w S a8 ns)(g5:UpsAt w S b5 us)(g6:ValsAt w S b6 cs)(g7:InssAt w S b7 is)(g8:NamsAt w S b8 ns)(hB:∀ b,S b→b<w.heap.size)(hW:Below w.heap.size w W) :
  Calls Tryz.prog 50 #[.agg #[.string nm,.int .i64 ln,.int .i64 pr,.bool rs,.int .i64 rg,.slice a5 us.length c5,.slice a6 cs.length c6,.slice a7 is.length c7,.slice a8 ns.length c8],.agg #[.string nm,.int .i64 ln,.int .i64 pr,.bool rs,.int .i64 rg,.slice b5 us.length d5,.slice b6 cs.length d6,.slice b7 is.length d7,.slice b8 ns.length d8]] W fun e w'=>e=.returned (.bool true)∧Below W.heap.size W w':=
 eqProto_same nm ln pr rs rg us cs is ns a5 a6 a7 a8 b5 b6 b7 b8 c5 c6 c7 c8 d5 d6 d7 d8 S W (h5.keep hW hB) (h6.keep hW hB) (h7.keep hW hB) (h8.keep hW hB) (g5.keep hW hB) (g6.keep hW hB) (g7.keep hW hB) (g8.keep hW hB) (fun b h=>Nat.lt_of_lt_of_le (hB b h) hW.size)
theorem eqProtoS_same (a b:Option Addr)(l:List ProtoD)(ca cb:Nat)(S:Nat→Prop)(w:World)(h1:ProtosAt w S a l)(h2:ProtosAt w S b l)(hB:∀ b,S b→b<w.heap.size) :
  Calls Tryz.prog 22 #[.slice a l.length ca,.slice b l.length cb] w fun e w'=>e=.returned (.bool true)∧Below w.heap.size w w':=by
 have hn:=h1.1
 have hne:((l.length:Int) != (l.length:Int))=false:=by simp
 go_enter Tryz.func22,Tryz.ntmps22
 go_wp2_with fail
 go_loopw [5] (fun i wr=>∃(k:Nat),k≤l.length∧i=.int .i64 k∧Below w.heap.size w wr) (fun i _=>l.length-(intOf i).toNat)
 case atStart=>exact⟨0,Nat.zero_le _,rfl,Below.refl _ _⟩
 case round=>
  obtain⟨k,hk,rfl,hbw⟩:=hrel
  have hBr:∀ b,S b→b<wr.heap.size:=fun b h=>Nat.lt_of_lt_of_le (hB b h) hbw.size
  by_cases hlt:k<l.length
  ·obtain⟨b1,off1,rfl,hb1,hc1⟩:=(h1.keep hbw hB).2 (by omega)
   obtain⟨b2,off2,rfl,hb2,hc2⟩:=(h2.keep hbw hB).2 (by omega)
   have N:=hc1 k hlt;have M:=hc2 k hlt
   clear hc1 hc2
   generalize l[k]?.getD ProtoD.z=nd at *
   obtain⟨a5,c5,h5,H5⟩:=N.ups
   obtain⟨b5,d5,k5,K5⟩:=M.ups
   obtain⟨a6,c6,h6,H6⟩:=N.consts
   obtain⟨b6,d6,k6,K6⟩:=M.consts
   obtain⟨a7,c7,h7,H7⟩:=N.ins
   obtain⟨b7,d7,k7,K7⟩:=M.ins
   obtain⟨a8,c8,h8,H8⟩:=N.named
   obtain⟨b8,d8,k8,K8⟩:=M.named
   have c0:=N.name;have c1:=N.line;have c2:=N.params;have c3:=N.rest;have c4:=N.regs
   have d0:=M.name;have d1:=M.line;have d2:=M.params;have d3:=M.rest;have d4:=M.regs
   go_wp2_with fail
   go_region_with (go_at_call 50;refine(eqProto_from wr _ H5 H6 H7 H8 K5 K6 K7 K8 hBr (by exact(Below.refl _ _).drew)).mono ?_;rintro e w' ⟨rfl,hb'⟩)
   all_goals (go_wp2_with fail)
   all_goals go_roundw
   all_goals first | (case rel=>exact⟨k+1,by omega,by go_num,hbw.drew.trans (hb'.mono hbw.size)⟩) | skip
   all_goals (simp[intOf];omega)
  ·go_wp2_with fail
   go_ret
   exact⟨rfl,hbw⟩
theorem eqCode_same (a b:Option Addr)(l:List ProtoD)(ca cb:Nat)(S:Nat→Prop)(w:World)(h1:ProtosAt w S a l)(h2:ProtosAt w S b l)(hB:∀ b,S b→b<w.heap.size) :
  Calls Tryz.prog 9 #[.agg #[.slice a l.length ca],.agg #[.slice b l.length cb]] w fun e w'=>e=.returned (.bool true)∧Below w.heap.size w w':=by
 go_enter Tryz.func9,Tryz.ntmps9
 go_wp2_with fail
 have hbA:∀ o1 o2,Below w.heap.size w ((w.alloc o1).alloc o2):=fun o1 o2=>by
  repeat (first | refine Below.alloc ?_ (by simp<;>omega) _ | exact Below.refl _ _)
 refine(eqProtoS_same a b l ca cb S _ (h1.keep (hbA _ _) hB) (h2.keep (hbA _ _) hB) (fun b h=>Nat.lt_of_lt_of_le (hB b h) (hbA _ _).size)).mono ?_
 rintro e w1 ⟨rfl,hb1⟩
 go_wp2_with fail
 go_ret
 exact⟨rfl,(hbA _ _).trans (hb1.mono (hbA _ _).size)⟩
end Go.Proofs.YthmjjhfjkgaocaaGreatDoor
