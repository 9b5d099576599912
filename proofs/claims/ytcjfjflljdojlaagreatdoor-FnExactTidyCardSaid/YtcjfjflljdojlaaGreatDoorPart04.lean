import Derived.Test.YtcjfjflljdojlaaGreatDoorPart02
import Derived.Deep.RegionWith
import Derived.BigQuiet
import Derived.WalkSmall
set_option linter.unusedSimpArgs false
set_option linter.unusedVariables false
set_option maxHeartbeats 1600000
namespace Go.Proofs.YtcjfjflljdojlaaGreatDoor
open Go.RowKit
attribute [local go_sem] cp
theorem tJ:Ieee.double.read 4607182418800017408=.number false 4503599627370496 (-52):=by decide +kernel
theorem Mv (x:Nat)(h:(FloatKind.f64.format.order x x==some Ordering.eq)=true):∃ q,floatBits .quo .f64 4607182418800017408 x=some q:=by
 have h2:FloatKind.f64.format.order x x=some Ordering.eq:=by simpa using h
 have h':(Ieee.double.read x).order (Ieee.double.read x)=some Ordering.eq:=h2;show ∃ q,((Ieee.double.read 4607182418800017408).quotient (Ieee.double.fractionBits+2) (Ieee.double.read x)).map Ieee.double.write=some q;rw[tJ];generalize Ieee.double.read x=d at h';cases d with
 | number s m i=>
  simp only[Ieee.Datum.quotient];by_cases e:m=0
  ·simp[e]
  ·simp[e]
 | infinity s=>simp[Ieee.Datum.quotient]
 | nan s f=>simp[Ieee.Datum.order]at h'
theorem tZ (x:Nat)(w:World):c_ 150 #[.float .f64 x,.float .f64 x] w fun e w'=>e=.returned (.bool true)/\w'=w:=by
 cases h1:FloatKind.f64.format.order x x != some Ordering.eq
 ·have h2:(FloatKind.f64.format.order x x==some Ordering.eq)=true:=by simpa using h1
  cases h0:FloatKind.f64.format.order x 0==some Ordering.eq
  ·go_enter Tryz.func150,Tryz.ntmps150;go_wp2_with fail
   go_ret;exact⟨rfl,rfl⟩
  ·obtain⟨q,hq⟩:=Mv x h2;have Ia:∀ w:World,(binOp .quo 47 (.float .f64 4607182418800017408) (.float .f64 x)).run Tryz.prog w=.ok (.float .f64 q) w:=fun w=>run_float_arith (w:=w) (P:=Tryz.prog) .quo 47 .f64 4607182418800017408 x q hq;clear hq;go_enter Tryz.func150,Tryz.ntmps150;go_wp2_with fail
   go_ret;exact⟨by simp,rfl⟩
 ·go_enter Tryz.func150,Tryz.ntmps150;go_wp2_with fail
  go_ret;exact⟨rfl,rfl⟩
theorem Gb (v0:Bool)(v1:Int)(w:World):c_ 130 #[.agg #[.bool v0,i_ v1],.agg #[.bool v0,i_ v1]] w fun e w'=>e=.returned (.bool true)/\b_ w w':=by
 have e0:(v0 != v0)=false:=by simp
 have e1:(v1 != v1)=false:=by simp
 go_enter Tryz.func130,Tryz.ntmps130;go_wp2_with fail
 go_ret;exact⟨rfl,by repeat (first | refine Below.alloc ?_ (by simp<;>omega) _ | exact r_)⟩
theorem D6 (a b:o_)(l:List (Bool×Int))(ca cb:Nat)(S:Nat->Prop)(w:World)(h1:dH w S a l)(h2:dH w S b l)(hB:∀ b,S b->b<w.heap.size) :
  c_ 91 #[.slice a l.length ca,.slice b l.length cb] w fun e w'=>e=.returned (.bool true)/\b_ w w':=by
 have hn:=h1.1;have ei:((l.length:Int) != (l.length:Int))=false:=by simp
 go_enter Tryz.func91,Tryz.ntmps91;go_wp2_with fail
 go_loopw [5] (fun i wr=>∃(k:Nat),k<=l.length/\i=i_ k/\b_ w wr) (fun i _=>l.length-(intOf i).toNat)
 case atStart=>exact⟨0,Nat.zero_le _,rfl,r_⟩
 case round=>
  obtain⟨k,hk,rfl,eo⟩:=hrel;by_cases ax:k<l.length
  ·obtain⟨b1,NI,rfl,au,cU⟩:=(h1.keep eo hB).2 (by omega);obtain⟨b2,Eo,rfl,bo,fe⟩:=(h2.keep eo hB).2 (by omega);have N:=cU k ax;have M:=fe k ax;clear cU fe;generalize l[k]?.getD (false,0)=x at *;obtain⟨c0,c1⟩:=N;obtain⟨d0,d1⟩:=M;go_wp2_with fail
   go_region_with (go_at_call 130;refine(Gb x.1 x.2 _).mono ?_;rintro e w' ⟨rfl,dW⟩)
   all_goals (go_wp2_with fail)
   all_goals go_roundw
   all_goals first | (case rel=>exact⟨k+1,by omega,by go_num,eo.drew.trans (dW.mono eo.size)⟩) | skip
   all_goals (simp[intOf];omega)
  ·go_wp2_with fail
   go_ret;exact⟨rfl,eo⟩
theorem DI {a b:o_}{l:List (Bool×Int)}{ca cb:Nat}{S:Nat->Prop}(w W:World)(h1:dH w S a l)(h2:dH w S b l)(hB:∀ b,S b->b<w.heap.size)(hW:b_ w W) :
  c_ 91 #[.slice a l.length ca,.slice b l.length cb] W fun e w'=>e=.returned (.bool true)/\b_ W w':=
 D6 a b l ca cb S W (h1.keep hW hB) (h2.keep hW hB) (fun b h=>l_ (hB b h) hW.size)
theorem xO (v0:Int)(v1:Int)(v2:Nat)(v3:ByteArray)(v4:Int)(w:World):c_ 131 #[.agg #[i_ v0,i_ v1,.float .f64 v2,.string v3,i_ v4],.agg #[i_ v0,i_ v1,.float .f64 v2,.string v3,i_ v4]] w fun e w'=>e=.returned (.bool true)/\b_ w w':=by
 have e0:(v0 != v0)=false:=by simp
 have e1:(v1 != v1)=false:=by simp
 have e4:(v4 != v4)=false:=by simp
 go_enter Tryz.func131,Tryz.ntmps131;go_wp2_with fail
 refine(tZ _ _).mono ?_;rintro e w0 ⟨rfl,rfl⟩;go_wp2_with fail
 go_ret;exact⟨rfl,by repeat (first | refine Below.alloc ?_ (by simp<;>omega) _ | exact r_)⟩
theorem vZ (a b:o_)(l:List (cS))(ca cb:Nat)(S:Nat->Prop)(w:World)(h1:cQ w S a l)(h2:cQ w S b l)(hB:∀ b,S b->b<w.heap.size) :
  c_ 92 #[.slice a l.length ca,.slice b l.length cb] w fun e w'=>e=.returned (.bool true)/\b_ w w':=by
 have hn:=h1.1;have ei:((l.length:Int) != (l.length:Int))=false:=by simp
 go_enter Tryz.func92,Tryz.ntmps92;go_wp2_with fail
 go_loopw [5] (fun i wr=>∃(k:Nat),k<=l.length/\i=i_ k/\b_ w wr) (fun i _=>l.length-(intOf i).toNat)
 case atStart=>exact⟨0,Nat.zero_le _,rfl,r_⟩
 case round=>
  obtain⟨k,hk,rfl,eo⟩:=hrel;by_cases ax:k<l.length
  ·obtain⟨b1,NI,rfl,au,cU⟩:=(h1.keep eo hB).2 (by omega);obtain⟨b2,Eo,rfl,bo,fe⟩:=(h2.keep eo hB).2 (by omega);have N:=cU k ax;have M:=fe k ax;clear cU fe;generalize l[k]?.getD cS.z=x at *;have c0:=N.kind;have d0:=M.kind;have c1:=N.num;have d1:=M.num;have c2:=N.flt;have d2:=M.flt;have c3:=N.str;have d3:=M.str;have c4:=N.ref;have d4:=M.ref;go_wp2_with fail
   go_region_with (go_at_call 131;refine(xO x.kind x.num x.flt x.str x.ref _).mono ?_;rintro e w' ⟨rfl,dW⟩)
   all_goals (go_wp2_with fail)
   all_goals go_roundw
   all_goals first | (case rel=>exact⟨k+1,by omega,by go_num,eo.drew.trans (dW.mono eo.size)⟩) | skip
   all_goals (simp[intOf];omega)
  ·go_wp2_with fail
   go_ret;exact⟨rfl,eo⟩
theorem vO {a b:o_}{l:List (cS)}{ca cb:Nat}{S:Nat->Prop}(w W:World)(h1:cQ w S a l)(h2:cQ w S b l)(hB:∀ b,S b->b<w.heap.size)(hW:b_ w W) :
  c_ 92 #[.slice a l.length ca,.slice b l.length cb] W fun e w'=>e=.returned (.bool true)/\b_ W w':=
 vZ a b l ca cb S W (h1.keep hW hB) (h2.keep hW hB) (fun b h=>l_ (hB b h) hW.size)
theorem Cz (v0:Int)(v1:Int)(v2:Int)(v3:Int)(v4:Int)(w:World):c_ 132 #[.agg #[i_ v0,i_ v1,i_ v2,i_ v3,i_ v4],.agg #[i_ v0,i_ v1,i_ v2,i_ v3,i_ v4]] w fun e w'=>e=.returned (.bool true)/\b_ w w':=by
 have e0:(v0 != v0)=false:=by simp
 have e1:(v1 != v1)=false:=by simp
 have e2:(v2 != v2)=false:=by simp
 have e3:(v3 != v3)=false:=by simp
 have e4:(v4 != v4)=false:=by simp
 go_enter Tryz.func132,Tryz.ntmps132;go_wp2_with fail
 go_ret;exact⟨rfl,by repeat (first | refine Below.alloc ?_ (by simp<;>omega) _ | exact r_)⟩
theorem Ap (a b:o_)(l:List (aA))(ca cb:Nat)(S:Nat->Prop)(w:World)(h1:bQ w S a l)(h2:bQ w S b l)(hB:∀ b,S b->b<w.heap.size) :
  c_ 93 #[.slice a l.length ca,.slice b l.length cb] w fun e w'=>e=.returned (.bool true)/\b_ w w':=by
 have hn:=h1.1;have ei:((l.length:Int) != (l.length:Int))=false:=by simp
 go_enter Tryz.func93,Tryz.ntmps93;go_wp2_with fail
 go_loopw [5] (fun i wr=>∃(k:Nat),k<=l.length/\i=i_ k/\b_ w wr) (fun i _=>l.length-(intOf i).toNat)
 case atStart=>exact⟨0,Nat.zero_le _,rfl,r_⟩
 case round=>
  obtain⟨k,hk,rfl,eo⟩:=hrel;by_cases ax:k<l.length
  ·obtain⟨b1,NI,rfl,au,cU⟩:=(h1.keep eo hB).2 (by omega);obtain⟨b2,Eo,rfl,bo,fe⟩:=(h2.keep eo hB).2 (by omega);have N:=cU k ax;have M:=fe k ax;clear cU fe;generalize l[k]?.getD aA.z=x at *;have c0:=N.op;have d0:=M.op;have c1:=N.fa;have d1:=M.fa;have c2:=N.fb;have d2:=M.fb;have c3:=N.fc;have d3:=M.fc;have c4:=N.fd;have d4:=M.fd;go_wp2_with fail
   go_region_with (go_at_call 132;refine(Cz x.op x.fa x.fb x.fc x.fd _).mono ?_;rintro e w' ⟨rfl,dW⟩)
   all_goals (go_wp2_with fail)
   all_goals go_roundw
   all_goals first | (case rel=>exact⟨k+1,by omega,by go_num,eo.drew.trans (dW.mono eo.size)⟩) | skip
   all_goals (simp[intOf];omega)
  ·go_wp2_with fail
   go_ret;exact⟨rfl,eo⟩
theorem AE {a b:o_}{l:List (aA)}{ca cb:Nat}{S:Nat->Prop}(w W:World)(h1:bQ w S a l)(h2:bQ w S b l)(hB:∀ b,S b->b<w.heap.size)(hW:b_ w W) :
  c_ 93 #[.slice a l.length ca,.slice b l.length cb] W fun e w'=>e=.returned (.bool true)/\b_ W w':=
 Ap a b l ca cb S W (h1.keep hW hB) (h2.keep hW hB) (fun b h=>l_ (hB b h) hW.size)
theorem yi (v0:ByteArray)(v1:Int)(v2:Int)(v3:Int)(w:World):c_ 133 #[.agg #[.string v0,i_ v1,i_ v2,i_ v3],.agg #[.string v0,i_ v1,i_ v2,i_ v3]] w fun e w'=>e=.returned (.bool true)/\b_ w w':=by
 have e1:(v1 != v1)=false:=by simp
 have e2:(v2 != v2)=false:=by simp
 have e3:(v3 != v3)=false:=by simp
 go_enter Tryz.func133,Tryz.ntmps133;go_wp2_with fail
 go_ret;exact⟨rfl,by repeat (first | refine Below.alloc ?_ (by simp<;>omega) _ | exact r_)⟩
theorem vu (a b:o_)(l:List (bE))(ca cb:Nat)(S:Nat->Prop)(w:World)(h1:dc w S a l)(h2:dc w S b l)(hB:∀ b,S b->b<w.heap.size) :
  c_ 94 #[.slice a l.length ca,.slice b l.length cb] w fun e w'=>e=.returned (.bool true)/\b_ w w':=by
 have hn:=h1.1;have ei:((l.length:Int) != (l.length:Int))=false:=by simp
 go_enter Tryz.func94,Tryz.ntmps94;go_wp2_with fail
 go_loopw [5] (fun i wr=>∃(k:Nat),k<=l.length/\i=i_ k/\b_ w wr) (fun i _=>l.length-(intOf i).toNat)
 case atStart=>exact⟨0,Nat.zero_le _,rfl,r_⟩
 case round=>
  obtain⟨k,hk,rfl,eo⟩:=hrel;by_cases ax:k<l.length
  ·obtain⟨b1,NI,rfl,au,cU⟩:=(h1.keep eo hB).2 (by omega);obtain⟨b2,Eo,rfl,bo,fe⟩:=(h2.keep eo hB).2 (by omega);have N:=cU k ax;have M:=fe k ax;clear cU fe;generalize l[k]?.getD bE.z=x at *;have c0:=N.name;have d0:=M.name;have c1:=N.reg;have d1:=M.reg;have c2:=N.fro;have d2:=M.fro;have c3:=N.til;have d3:=M.til;go_wp2_with fail
   go_region_with (go_at_call 133;refine(yi x.name x.reg x.fro x.til _).mono ?_;rintro e w' ⟨rfl,dW⟩)
   all_goals (go_wp2_with fail)
   all_goals go_roundw
   all_goals first | (case rel=>exact⟨k+1,by omega,by go_num,eo.drew.trans (dW.mono eo.size)⟩) | skip
   all_goals (simp[intOf];omega)
  ·go_wp2_with fail
   go_ret;exact⟨rfl,eo⟩
theorem vT {a b:o_}{l:List (bE)}{ca cb:Nat}{S:Nat->Prop}(w W:World)(h1:dc w S a l)(h2:dc w S b l)(hB:∀ b,S b->b<w.heap.size)(hW:b_ w W) :
  c_ 94 #[.slice a l.length ca,.slice b l.length cb] W fun e w'=>e=.returned (.bool true)/\b_ W w':=
 vu a b l ca cb S W (h1.keep hW hB) (h2.keep hW hB) (fun b h=>l_ (hB b h) hW.size)
theorem yu (nm:ByteArray)(ln pr:Int)(rs:Bool)(rg:Int)(us:List (Bool×Int))(cs:List cS)(is:List aA)(ns:List bE)(a5 a6 a7 a8 b5 b6 b7 b8:o_)(c5 c6 c7 c8 d5 d6 d7 d8:Nat)(S:Nat->Prop)(w:World)
  (h5:dH w S a5 us)(h6:cQ w S a6 cs)(h7:bQ w S a7 is)(h8:dc w S a8 ns)(g5:dH w S b5 us)(g6:cQ w S b6 cs)(g7:bQ w S b7 is)(g8:dc w S b8 ns)(hB:∀ b,S b->b<w.heap.size) :
  c_ 39 #[.agg #[.string nm,i_ ln,i_ pr,.bool rs,i_ rg,.slice a5 us.length c5,.slice a6 cs.length c6,.slice a7 is.length c7,.slice a8 ns.length c8],.agg #[.string nm,i_ ln,i_ pr,.bool rs,i_ rg,.slice b5 us.length d5,.slice b6 cs.length d6,.slice b7 is.length d7,.slice b8 ns.length d8]] w fun e w'=>e=.returned (.bool true)/\b_ w w':=by
 have e2:(ln != ln)=false:=by simp
 have e3:(pr != pr)=false:=by simp
 have e4:(rs != rs)=false:=by simp
 have e5:(rg != rg)=false:=by simp
 go_enter Tryz.func39,Tryz.ntmps39;go_wp2_with fail
 refine(DI w _ h5 g5 hB ?hW).mono ?_
 case hW=>repeat (first | refine Below.alloc ?_ (by simp<;>omega) _ | exact r_)
 rintro e w1 ⟨rfl,au⟩;have sL:b_ w w1:=by
  refine Below.trans (b:=_) ?_ (au.mono (by simp<;>omega))
  repeat (first | refine Below.alloc ?_ (by simp<;>omega) _ | exact r_)
 obtain⟨hc,hf⟩:=cz au;have hz:w.heap.size+1+1<=w1.heap.size:=by have:=au.size;simpa using this
 have dE:w.heap.size<w1.heap.size:=by omega
 have cT:w.heap.size+1<w1.heap.size:=by omega
 go_wp2_with fail
 refine(vO w _ h6 g6 hB sL).mono ?_;rintro e w2 ⟨rfl,bo⟩;have Ed:b_ w w2:=sL.trans (bo.mono sL.size);obtain⟨fe,wd⟩:=cz bo;have Tr:w.heap.size<w2.heap.size:=l_ dE bo.size;have Oj:w.heap.size+1<w2.heap.size:=l_ cT bo.size;go_wp2_with fail
 refine(AE w _ h7 g7 hB Ed).mono ?_;rintro e w3 ⟨rfl,bY⟩;have Eq:b_ w w3:=Ed.trans (bY.mono Ed.size);obtain⟨jD,BM⟩:=cz bY;go_wp2_with fail
 refine(vT w _ h8 g8 hB Eq).mono ?_;rintro e w4 ⟨rfl,lx⟩;go_wp2_with fail
 go_ret;exact⟨rfl,Eq.trans (lx.mono Eq.size)⟩
theorem yf {nm:ByteArray}{ln pr:Int}{rs:Bool}{rg:Int}{us:List (Bool×Int)}{cs:List cS}{is:List aA}{ns:List bE}{a5 a6 a7 a8 b5 b6 b7 b8:o_}{c5 c6 c7 c8 d5 d6 d7 d8:Nat}{S:Nat->Prop}(w W:World)
  (h5:dH w S a5 us)(h6:cQ w S a6 cs)(h7:bQ w S a7 is)(h8:dc w S a8 ns)(g5:dH w S b5 us)(g6:cQ w S b6 cs)(g7:bQ w S b7 is)(g8:dc w S b8 ns)(hB:∀ b,S b->b<w.heap.size)(hW:b_ w W) :
  c_ 39 #[.agg #[.string nm,i_ ln,i_ pr,.bool rs,i_ rg,.slice a5 us.length c5,.slice a6 cs.length c6,.slice a7 is.length c7,.slice a8 ns.length c8],.agg #[.string nm,i_ ln,i_ pr,.bool rs,i_ rg,.slice b5 us.length d5,.slice b6 cs.length d6,.slice b7 is.length d7,.slice b8 ns.length d8]] W fun e w'=>e=.returned (.bool true)/\b_ W w':=
 yu nm ln pr rs rg us cs is ns a5 a6 a7 a8 b5 b6 b7 b8 c5 c6 c7 c8 d5 d6 d7 d8 S W (h5.keep hW hB) (h6.keep hW hB) (h7.keep hW hB) (h8.keep hW hB) (g5.keep hW hB) (g6.keep hW hB) (g7.keep hW hB) (g8.keep hW hB) (fun b h=>l_ (hB b h) hW.size)
theorem vE (a b:o_)(l:List ak)(ca cb:Nat)(S:Nat->Prop)(w:World)(h1:ao w S a l)(h2:ao w S b l)(hB:∀ b,S b->b<w.heap.size) :
  c_ 17 #[.slice a l.length ca,.slice b l.length cb] w fun e w'=>e=.returned (.bool true)/\b_ w w':=by
 have hn:=h1.1;have ei:((l.length:Int) != (l.length:Int))=false:=by simp
 go_enter Tryz.func17,Tryz.ntmps17;go_wp2_with fail
 go_loopw [5] (fun i wr=>∃(k:Nat),k<=l.length/\i=i_ k/\b_ w wr) (fun i _=>l.length-(intOf i).toNat)
 case atStart=>exact⟨0,Nat.zero_le _,rfl,r_⟩
 case round=>
  obtain⟨k,hk,rfl,eo⟩:=hrel;have Hw:∀ b,S b->b<wr.heap.size:=fun b h=>l_ (hB b h) eo.size;by_cases ax:k<l.length
  ·obtain⟨b1,NI,rfl,au,cU⟩:=(h1.keep eo hB).2 (by omega);obtain⟨b2,Eo,rfl,bo,fe⟩:=(h2.keep eo hB).2 (by omega);have N:=cU k ax;have M:=fe k ax;clear cU fe;generalize l[k]?.getD ak.z=nd at *;obtain⟨a5,c5,h5,H5⟩:=N.ups;obtain⟨b5,d5,k5,K5⟩:=M.ups;obtain⟨a6,c6,h6,H6⟩:=N.consts;obtain⟨b6,d6,k6,K6⟩:=M.consts;obtain⟨a7,c7,h7,H7⟩:=N.ins;obtain⟨b7,d7,k7,K7⟩:=M.ins;obtain⟨a8,c8,h8,H8⟩:=N.named;obtain⟨b8,d8,k8,K8⟩:=M.named;have c0:=N.name;have c1:=N.line;have c2:=N.params;have c3:=N.rest;have c4:=N.regs;have d0:=M.name;have d1:=M.line;have d2:=M.params;have d3:=M.rest;have d4:=M.regs;go_wp2_with fail
   go_region_with (go_at_call 39;refine(yf wr _ H5 H6 H7 H8 K5 K6 K7 K8 Hw (by exact r_.drew)).mono ?_;rintro e w' ⟨rfl,dW⟩)
   all_goals (go_wp2_with fail)
   all_goals go_roundw
   all_goals first | (case rel=>exact⟨k+1,by omega,by go_num,eo.drew.trans (dW.mono eo.size)⟩) | skip
   all_goals (simp[intOf];omega)
  ·go_wp2_with fail
   go_ret;exact⟨rfl,eo⟩
theorem zS (a b:o_)(l:List ak)(ca cb:Nat)(S:Nat->Prop)(w:World)(h1:ao w S a l)(h2:ao w S b l)(hB:∀ b,S b->b<w.heap.size) :
  c_ 8 #[.agg #[.slice a l.length ca],.agg #[.slice b l.length cb]] w fun e w'=>e=.returned (.bool true)/\b_ w w':=by
 go_enter Tryz.func8,Tryz.ntmps8;go_wp2_with fail
 have dF:∀ o1 o2,b_ w ((w.alloc o1).alloc o2):=fun o1 o2=>by
  repeat (first | refine Below.alloc ?_ (by simp<;>omega) _ | exact r_)
 refine(vE a b l ca cb S _ (h1.keep (dF _ _) hB) (h2.keep (dF _ _) hB) (fun b h=>l_ (hB b h) (dF _ _).size)).mono ?_;rintro e w1 ⟨rfl,au⟩;go_wp2_with fail
 go_ret;exact⟨rfl,(dF _ _).trans (au.mono (dF _ _).size)⟩
end Go.Proofs.YtcjfjflljdojlaaGreatDoor
