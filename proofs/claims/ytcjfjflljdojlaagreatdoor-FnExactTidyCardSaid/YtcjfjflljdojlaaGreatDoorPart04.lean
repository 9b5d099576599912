import Derived.Test.YtcjfjflljdojlaaGreatDoorPart02
import Derived.Deep.RegionWith
import Derived.BigQuiet
set_option linter.all false
set_option maxHeartbeats 4000000
set_option maxRecDepth 100000
namespace Go.Proofs.YtcjfjflljdojlaaGreatDoor
open Go.RowKit
attribute [local go_sem] cn
theorem uv:Ieee.double.read 4607182418800017408=.number false 4503599627370496 (-52):=by decide +kernel
theorem MV (x:Nat)(h:(FloatKind.f64.format.order x x==some Ordering.eq)=true):∃ q,floatBits .quo .f64 4607182418800017408 x=some q:=by
 have h2:FloatKind.f64.format.order x x=some Ordering.eq:=by simpa using h
 have h':(Ieee.double.read x).order (Ieee.double.read x)=some Ordering.eq:=h2;show ∃ q,((Ieee.double.read 4607182418800017408).quotient (Ieee.double.fractionBits+2) (Ieee.double.read x)).map Ieee.double.write=some q;rw[uv];generalize Ieee.double.read x=d at h';cases d with
 | number s m i=>
  simp only[Ieee.Datum.quotient];by_cases e:m=0;{simp[e]};{simp[e]}
 | infinity s=>simp[Ieee.Datum.quotient]
 | nan s f=>simp[Ieee.Datum.order]at h'
theorem tY (x:Nat)(w:w_):c_ 150 #[.float .f64 x,.float .f64 x] w fun e w'=>e=.returned (.bool true)/\w'=w:=by
 cases h1:FloatKind.f64.format.order x x != some Ordering.eq
 ·have h2:(FloatKind.f64.format.order x x==some Ordering.eq)=true:=by{simpa using h1};cases h0:FloatKind.f64.format.order x 0==some Ordering.eq;{go_enter Tryz.func150,Tryz.ntmps150;go_wp2;go_ret;exact⟨rfl,rfl⟩}
  ·obtain⟨q,hq⟩:=MV x h2;have Hl:∀ w:w_,(binOp .quo 47 (.float .f64 4607182418800017408) (.float .f64 x)).run Tryz.prog w=.ok (.float .f64 q) w:=fun w=>run_float_arith (w:=w) (P:=Tryz.prog) .quo 47 .f64 4607182418800017408 x q hq;clear hq;go_enter Tryz.func150,Tryz.ntmps150;go_wp2
   go_ret;exact⟨by simp,rfl⟩
 {go_enter Tryz.func150,Tryz.ntmps150;go_wp2;go_ret;exact⟨rfl,rfl⟩}
theorem Gz (v0:Bool)(v1:Int)(w:w_):c_ 130 #[.agg #[.bool v0,i_ v1],.agg #[.bool v0,i_ v1]] w fun e w'=>e=.returned (.bool true)/\b_ w w':=by
 have e0:(v0 != v0)=false:=by{simp};have e1:(v1 != v1)=false:=by{simp};go_enter Tryz.func130,Tryz.ntmps130;go_wp2;go_ret;exact⟨rfl,by repeat (first | refine Below.alloc ?_ (by simp<;>omega) _ | exact r_)⟩
theorem Cj (a b:o_)(l:List (Bool×Int))(ca cb:Nat)(S:Nat->Prop)(w:w_)(h1:dG w S a l)(h2:dG w S b l)(hB:∀ b,S b->b<w.heap.size) :
  c_ 91 #[.slice a l.length ca,.slice b l.length cb] w fun e w'=>e=.returned (.bool true)/\b_ w w':=by
 have hn:=h1.1;have eh:((l.length:Int) != (l.length:Int))=false:=by{simp};go_enter Tryz.func91,Tryz.ntmps91;go_wp2;go_loopw [5] (fun i wr=>∃(k:Nat),k<=l.length/\i=i_ k/\b_ w wr) (fun i _=>l.length-(intOf i).toNat);(case atStart=>exact⟨0,Nat.zero_le _,rfl,r_⟩);case round=>obtain⟨k,hk,rfl,ei⟩:=hrel;by_cases au:k<l.length;{obtain⟨b1,NL,rfl,ar,cT⟩:=(h1.keep ei hB).2 (by omega);obtain⟨b2,D9,rfl,bj,e9⟩:=(h2.keep ei hB).2 (by omega);have N:=cT k au;have M:=e9 k au;clear cT e9;generalize l[k]?.getD (false,0)=x at *;obtain⟨c0,c1⟩:=N;obtain⟨d0,d1⟩:=M;go_wp2_with fail;go_region_with (go_at_call 130;refine(Gz x.1 x.2 _).mono ?_;rintro e w' ⟨rfl,dV⟩);(all_goals (go_wp2_with fail));(all_goals go_roundw);(all_goals first | (case rel=>exact⟨k+1,by omega,by go_num,ei.drew.trans (dV.mono ei.size)⟩) | skip);all_goals (simp[intOf];omega)};{go_wp2;go_ret;exact⟨rfl,ei⟩}
theorem DE {a b:o_}{l:List (Bool×Int)}{ca cb:Nat}{S:Nat->Prop}(w W:w_)(h1:dG w S a l)(h2:dG w S b l)(hB:∀ b,S b->b<w.heap.size)(hW:b_ w W) :
  c_ 91 #[.slice a l.length ca,.slice b l.length cb] W fun e w'=>e=.returned (.bool true)/\b_ W w':=
 Cj a b l ca cb S W (h1.keep hW hB) (h2.keep hW hB) (fun b h=>l_ (hB b h) hW.size)
theorem yj (v0:Int)(v1:Int)(v2:Nat)(v3:ByteArray)(v4:Int)(w:w_):c_ 131 #[.agg #[i_ v0,i_ v1,.float .f64 v2,.string v3,i_ v4],.agg #[i_ v0,i_ v1,.float .f64 v2,.string v3,i_ v4]] w fun e w'=>e=.returned (.bool true)/\b_ w w':=by
 have e0:(v0 != v0)=false:=by{simp};have e1:(v1 != v1)=false:=by{simp};have e4:(v4 != v4)=false:=by{simp};go_enter Tryz.func131,Tryz.ntmps131;go_wp2_with fail;refine(tY _ _).mono ?_;rintro e w0 ⟨rfl,rfl⟩;go_wp2;go_ret;exact⟨rfl,by repeat (first | refine Below.alloc ?_ (by simp<;>omega) _ | exact r_)⟩
theorem vD (a b:o_)(l:List (cN))(ca cb:Nat)(S:Nat->Prop)(w:w_)(h1:cQ w S a l)(h2:cQ w S b l)(hB:∀ b,S b->b<w.heap.size) :
  c_ 92 #[.slice a l.length ca,.slice b l.length cb] w fun e w'=>e=.returned (.bool true)/\b_ w w':=by
 have hn:=h1.1;have eh:((l.length:Int) != (l.length:Int))=false:=by{simp};go_enter Tryz.func92,Tryz.ntmps92;go_wp2;go_loopw [5] (fun i wr=>∃(k:Nat),k<=l.length/\i=i_ k/\b_ w wr) (fun i _=>l.length-(intOf i).toNat);(case atStart=>exact⟨0,Nat.zero_le _,rfl,r_⟩);case round=>obtain⟨k,hk,rfl,ei⟩:=hrel;by_cases au:k<l.length;{obtain⟨b1,NL,rfl,ar,cT⟩:=(h1.keep ei hB).2 (by omega);obtain⟨b2,D9,rfl,bj,e9⟩:=(h2.keep ei hB).2 (by omega);have N:=cT k au;have M:=e9 k au;clear cT e9;generalize l[k]?.getD cN.z=x at *;have c0:=N.kind;have d0:=M.kind;have c1:=N.num;have d1:=M.num;have c2:=N.flt;have d2:=M.flt;have c3:=N.str;have d3:=M.str;have c4:=N.ref;have d4:=M.ref;go_wp2_with fail;go_region_with (go_at_call 131;refine(yj x.kind x.num x.flt x.str x.ref _).mono ?_;rintro e w' ⟨rfl,dV⟩);(all_goals (go_wp2_with fail));(all_goals go_roundw);(all_goals first | (case rel=>exact⟨k+1,by omega,by go_num,ei.drew.trans (dV.mono ei.size)⟩) | skip);all_goals (simp[intOf];omega)};{go_wp2;go_ret;exact⟨rfl,ei⟩}
theorem vW {a b:o_}{l:List (cN)}{ca cb:Nat}{S:Nat->Prop}(w W:w_)(h1:cQ w S a l)(h2:cQ w S b l)(hB:∀ b,S b->b<w.heap.size)(hW:b_ w W) :
  c_ 92 #[.slice a l.length ca,.slice b l.length cb] W fun e w'=>e=.returned (.bool true)/\b_ W w':=
 vD a b l ca cb S W (h1.keep hW hB) (h2.keep hW hB) (fun b h=>l_ (hB b h) hW.size)
theorem DW (v0:Int)(v1:Int)(v2:Int)(v3:Int)(v4:Int)(w:w_):c_ 132 #[.agg #[i_ v0,i_ v1,i_ v2,i_ v3,i_ v4],.agg #[i_ v0,i_ v1,i_ v2,i_ v3,i_ v4]] w fun e w'=>e=.returned (.bool true)/\b_ w w':=by
 have e0:(v0 != v0)=false:=by{simp};have e1:(v1 != v1)=false:=by{simp};have e2:(v2 != v2)=false:=by{simp};have e3:(v3 != v3)=false:=by{simp};have e4:(v4 != v4)=false:=by{simp};go_enter Tryz.func132,Tryz.ntmps132;go_wp2;go_ret;exact⟨rfl,by repeat (first | refine Below.alloc ?_ (by simp<;>omega) _ | exact r_)⟩
theorem Ai (a b:o_)(l:List (az))(ca cb:Nat)(S:Nat->Prop)(w:w_)(h1:bN w S a l)(h2:bN w S b l)(hB:∀ b,S b->b<w.heap.size) :
  c_ 93 #[.slice a l.length ca,.slice b l.length cb] w fun e w'=>e=.returned (.bool true)/\b_ w w':=by
 have hn:=h1.1;have eh:((l.length:Int) != (l.length:Int))=false:=by{simp};go_enter Tryz.func93,Tryz.ntmps93;go_wp2;go_loopw [5] (fun i wr=>∃(k:Nat),k<=l.length/\i=i_ k/\b_ w wr) (fun i _=>l.length-(intOf i).toNat);(case atStart=>exact⟨0,Nat.zero_le _,rfl,r_⟩);case round=>obtain⟨k,hk,rfl,ei⟩:=hrel;by_cases au:k<l.length;{obtain⟨b1,NL,rfl,ar,cT⟩:=(h1.keep ei hB).2 (by omega);obtain⟨b2,D9,rfl,bj,e9⟩:=(h2.keep ei hB).2 (by omega);have N:=cT k au;have M:=e9 k au;clear cT e9;generalize l[k]?.getD az.z=x at *;have c0:=N.op;have d0:=M.op;have c1:=N.fa;have d1:=M.fa;have c2:=N.fb;have d2:=M.fb;have c3:=N.fc;have d3:=M.fc;have c4:=N.fd;have d4:=M.fd;go_wp2_with fail;go_region_with (go_at_call 132;refine(DW x.op x.fa x.fb x.fc x.fd _).mono ?_;rintro e w' ⟨rfl,dV⟩);(all_goals (go_wp2_with fail));(all_goals go_roundw);(all_goals first | (case rel=>exact⟨k+1,by omega,by go_num,ei.drew.trans (dV.mono ei.size)⟩) | skip);all_goals (simp[intOf];omega)};{go_wp2;go_ret;exact⟨rfl,ei⟩}
theorem AJ {a b:o_}{l:List (az)}{ca cb:Nat}{S:Nat->Prop}(w W:w_)(h1:bN w S a l)(h2:bN w S b l)(hB:∀ b,S b->b<w.heap.size)(hW:b_ w W) :
  c_ 93 #[.slice a l.length ca,.slice b l.length cb] W fun e w'=>e=.returned (.bool true)/\b_ W w':=
 Ai a b l ca cb S W (h1.keep hW hB) (h2.keep hW hB) (fun b h=>l_ (hB b h) hW.size)
theorem xR (v0:ByteArray)(v1:Int)(v2:Int)(v3:Int)(w:w_):c_ 133 #[.agg #[.string v0,i_ v1,i_ v2,i_ v3],.agg #[.string v0,i_ v1,i_ v2,i_ v3]] w fun e w'=>e=.returned (.bool true)/\b_ w w':=by
 have e1:(v1 != v1)=false:=by{simp};have e2:(v2 != v2)=false:=by{simp};have e3:(v3 != v3)=false:=by{simp};go_enter Tryz.func133,Tryz.ntmps133;go_wp2;go_ret;exact⟨rfl,by repeat (first | refine Below.alloc ?_ (by simp<;>omega) _ | exact r_)⟩
theorem vB (a b:o_)(l:List (bB))(ca cb:Nat)(S:Nat->Prop)(w:w_)(h1:da w S a l)(h2:da w S b l)(hB:∀ b,S b->b<w.heap.size) :
  c_ 94 #[.slice a l.length ca,.slice b l.length cb] w fun e w'=>e=.returned (.bool true)/\b_ w w':=by
 have hn:=h1.1;have eh:((l.length:Int) != (l.length:Int))=false:=by{simp};go_enter Tryz.func94,Tryz.ntmps94;go_wp2;go_loopw [5] (fun i wr=>∃(k:Nat),k<=l.length/\i=i_ k/\b_ w wr) (fun i _=>l.length-(intOf i).toNat);(case atStart=>exact⟨0,Nat.zero_le _,rfl,r_⟩);case round=>obtain⟨k,hk,rfl,ei⟩:=hrel;by_cases au:k<l.length;{obtain⟨b1,NL,rfl,ar,cT⟩:=(h1.keep ei hB).2 (by omega);obtain⟨b2,D9,rfl,bj,e9⟩:=(h2.keep ei hB).2 (by omega);have N:=cT k au;have M:=e9 k au;clear cT e9;generalize l[k]?.getD bB.z=x at *;have c0:=N.name;have d0:=M.name;have c1:=N.reg;have d1:=M.reg;have c2:=N.fro;have d2:=M.fro;have c3:=N.til;have d3:=M.til;go_wp2_with fail;go_region_with (go_at_call 133;refine(xR x.name x.reg x.fro x.til _).mono ?_;rintro e w' ⟨rfl,dV⟩);(all_goals (go_wp2_with fail));(all_goals go_roundw);(all_goals first | (case rel=>exact⟨k+1,by omega,by go_num,ei.drew.trans (dV.mono ei.size)⟩) | skip);all_goals (simp[intOf];omega)};{go_wp2;go_ret;exact⟨rfl,ei⟩}
theorem vG {a b:o_}{l:List (bB)}{ca cb:Nat}{S:Nat->Prop}(w W:w_)(h1:da w S a l)(h2:da w S b l)(hB:∀ b,S b->b<w.heap.size)(hW:b_ w W) :
  c_ 94 #[.slice a l.length ca,.slice b l.length cb] W fun e w'=>e=.returned (.bool true)/\b_ W w':=
 vB a b l ca cb S W (h1.keep hW hB) (h2.keep hW hB) (fun b h=>l_ (hB b h) hW.size)
theorem xC (nm:ByteArray)(ln pr:Int)(rs:Bool)(rg:Int)(us:List (Bool×Int))(cs:List cN)(is:List az)(ns:List bB)(a5 a6 a7 a8 b5 b6 b7 b8:o_)(c5 c6 c7 c8 d5 d6 d7 d8:Nat)(S:Nat->Prop)(w:w_)
  (h5:dG w S a5 us)(h6:cQ w S a6 cs)(h7:bN w S a7 is)(h8:da w S a8 ns)(g5:dG w S b5 us)(g6:cQ w S b6 cs)(g7:bN w S b7 is)(g8:da w S b8 ns)(hB:∀ b,S b->b<w.heap.size) :
  c_ 39 #[.agg #[.string nm,i_ ln,i_ pr,.bool rs,i_ rg,.slice a5 us.length c5,.slice a6 cs.length c6,.slice a7 is.length c7,.slice a8 ns.length c8],.agg #[.string nm,i_ ln,i_ pr,.bool rs,i_ rg,.slice b5 us.length d5,.slice b6 cs.length d6,.slice b7 is.length d7,.slice b8 ns.length d8]] w fun e w'=>e=.returned (.bool true)/\b_ w w':=by
 have e2:(ln != ln)=false:=by{simp};have e3:(pr != pr)=false:=by{simp};have e4:(rs != rs)=false:=by{simp};have e5:(rg != rg)=false:=by{simp};go_enter Tryz.func39,Tryz.ntmps39;go_wp2_with fail;refine(DE w _ h5 g5 hB ?hW).mono ?_;(case hW=>repeat (first | refine Below.alloc ?_ (by simp<;>omega) _ | exact r_));rintro e w1 ⟨rfl,ar⟩;have sS:b_ w w1:=by{refine Below.trans (b:=_) ?_ (ar.mono (by simp<;>omega));repeat (first | refine Below.alloc ?_ (by simp<;>omega) _ | exact r_)};obtain⟨hc,hf⟩:=cz ar;have hz:w.heap.size+1+1<=w1.heap.size:=by{have:=ar.size;simpa using this};have dE:w.heap.size<w1.heap.size:=by{omega};have cS:w.heap.size+1<w1.heap.size:=by{omega};go_wp2_with fail;refine(vW w _ h6 g6 hB sS).mono ?_;rintro e w2 ⟨rfl,bj⟩;have Es:b_ w w2:=sS.trans (bj.mono sS.size);obtain⟨e9,wd⟩:=cz bj;have Ud:w.heap.size<w2.heap.size:=l_ dE bj.size;have OI:w.heap.size+1<w2.heap.size:=l_ cS bj.size;go_wp2_with fail;refine(AJ w _ h7 g7 hB Es).mono ?_;rintro e w3 ⟨rfl,bU⟩;have Eu:b_ w w3:=Es.trans (bU.mono Es.size);obtain⟨jB,BI⟩:=cz bU;go_wp2_with fail;refine(vG w _ h8 g8 hB Eu).mono ?_;rintro e w4 ⟨rfl,lx⟩;go_wp2;go_ret;exact⟨rfl,Eu.trans (lx.mono Eu.size)⟩
theorem yq {nm:ByteArray}{ln pr:Int}{rs:Bool}{rg:Int}{us:List (Bool×Int)}{cs:List cN}{is:List az}{ns:List bB}{a5 a6 a7 a8 b5 b6 b7 b8:o_}{c5 c6 c7 c8 d5 d6 d7 d8:Nat}{S:Nat->Prop}(w W:w_)
  (h5:dG w S a5 us)(h6:cQ w S a6 cs)(h7:bN w S a7 is)(h8:da w S a8 ns)(g5:dG w S b5 us)(g6:cQ w S b6 cs)(g7:bN w S b7 is)(g8:da w S b8 ns)(hB:∀ b,S b->b<w.heap.size)(hW:b_ w W) :
  c_ 39 #[.agg #[.string nm,i_ ln,i_ pr,.bool rs,i_ rg,.slice a5 us.length c5,.slice a6 cs.length c6,.slice a7 is.length c7,.slice a8 ns.length c8],.agg #[.string nm,i_ ln,i_ pr,.bool rs,i_ rg,.slice b5 us.length d5,.slice b6 cs.length d6,.slice b7 is.length d7,.slice b8 ns.length d8]] W fun e w'=>e=.returned (.bool true)/\b_ W w':=
 xC nm ln pr rs rg us cs is ns a5 a6 a7 a8 b5 b6 b7 b8 c5 c6 c7 c8 d5 d6 d7 d8 S W (h5.keep hW hB) (h6.keep hW hB) (h7.keep hW hB) (h8.keep hW hB) (g5.keep hW hB) (g6.keep hW hB) (g7.keep hW hB) (g8.keep hW hB) (fun b h=>l_ (hB b h) hW.size)
theorem vH (a b:o_)(l:List aj)(ca cb:Nat)(S:Nat->Prop)(w:w_)(h1:am w S a l)(h2:am w S b l)(hB:∀ b,S b->b<w.heap.size) :
  c_ 17 #[.slice a l.length ca,.slice b l.length cb] w fun e w'=>e=.returned (.bool true)/\b_ w w':=by
 have hn:=h1.1;have eh:((l.length:Int) != (l.length:Int))=false:=by{simp};go_enter Tryz.func17,Tryz.ntmps17;go_wp2;go_loopw [5] (fun i wr=>∃(k:Nat),k<=l.length/\i=i_ k/\b_ w wr) (fun i _=>l.length-(intOf i).toNat);(case atStart=>exact⟨0,Nat.zero_le _,rfl,r_⟩);case round=>
  obtain⟨k,hk,rfl,ei⟩:=hrel;have Hz:∀ b,S b->b<wr.heap.size:=fun b h=>l_ (hB b h) ei.size;by_cases au:k<l.length
  {obtain⟨b1,NL,rfl,ar,cT⟩:=(h1.keep ei hB).2 (by omega);obtain⟨b2,D9,rfl,bj,e9⟩:=(h2.keep ei hB).2 (by omega);have N:=cT k au;have M:=e9 k au;clear cT e9;generalize l[k]?.getD aj.z=nd at *;obtain⟨a5,c5,h5,H5⟩:=N.s;obtain⟨b5,d5,k5,K5⟩:=M.s;obtain⟨a6,c6,h6,H6⟩:=N.k;obtain⟨b6,d6,k6,K6⟩:=M.k;obtain⟨a7,c7,h7,H7⟩:=N.u;obtain⟨b7,d7,k7,K7⟩:=M.u;obtain⟨a8,c8,h8,H8⟩:=N.g;obtain⟨b8,d8,k8,K8⟩:=M.g;have c0:=N.name;have c1:=N.f;have c2:=N.l;have c3:=N.e;have c4:=N.m;have d0:=M.name;have d1:=M.f;have d2:=M.l;have d3:=M.e;have d4:=M.m;go_wp2_with fail;go_region_with (go_at_call 39;refine(yq wr _ H5 H6 H7 H8 K5 K6 K7 K8 Hz (by exact r_.drew)).mono ?_;rintro e w' ⟨rfl,dV⟩);(all_goals (go_wp2_with fail));(all_goals go_roundw);(all_goals first | (case rel=>exact⟨k+1,by omega,by go_num,ei.drew.trans (dV.mono ei.size)⟩) | skip);all_goals (simp[intOf];omega)};{go_wp2;go_ret;exact⟨rfl,ei⟩}
theorem zI (a b:o_)(l:List aj)(ca cb:Nat)(S:Nat->Prop)(w:w_)(h1:am w S a l)(h2:am w S b l)(hB:∀ b,S b->b<w.heap.size) :
  c_ 8 #[.agg #[.slice a l.length ca],.agg #[.slice b l.length cb]] w fun e w'=>e=.returned (.bool true)/\b_ w w':=by
 go_enter Tryz.func8,Tryz.ntmps8;go_wp2_with fail
 have dD:∀ o1 o2,b_ w ((w.alloc o1).alloc o2):=fun o1 o2=>by
  repeat (first | refine Below.alloc ?_ (by simp<;>omega) _ | exact r_)
 refine(vH a b l ca cb S _ (h1.keep (dD _ _) hB) (h2.keep (dD _ _) hB) (fun b h=>l_ (hB b h) (dD _ _).size)).mono ?_;rintro e w1 ⟨rfl,ar⟩;go_wp2;go_ret;exact⟨rfl,(dD _ _).trans (ar.mono (dD _ _).size)⟩
theorem ak {a b:Bool}(h:a=b):Ending.returned (.bool a)=.returned (.bool b):=by rw[h]
def dw (x lo hi:Int):Bool:=decide (lo<=x)&&decide (x<=hi)
theorem aU {x lo hi:Int}(h:dw x lo hi=true):lo<=x/\x<=hi:=by
 unfold dw at h;rw[Bool.and_eq_true]at h;exact⟨of_decide_eq_true h.1,of_decide_eq_true h.2⟩
theorem aB (x lo hi:Int)(w:w_):c_ 101 #[i_ x,i_ lo,i_ hi] w fun e w'=>e=.returned (.bool (dw x lo hi))/\w'=w:=by
 by_cases h1:lo<=x;{go_enter Tryz.func101,Tryz.ntmps101;go_wp2;go_ret;exact⟨by simp[dw,h1],rfl⟩};{go_enter Tryz.func101,Tryz.ntmps101;go_wp2;go_ret;exact⟨by simp[dw];omega,rfl⟩}
theorem cU (c p i:Int)(w:w_):c_ 55 #[i_ c,i_ p,i_ i] w fun e w'=>e=.returned (.agg #[i_ c,i_ p,i_ i])/\b_ w w':=by
 go_enter Tryz.func55,Tryz.ntmps55;go_wp2_with fail;exact zcd (v:=.agg #[i_ c,i_ p,i_ i]) (by simp[results,Tryz.results55,go_sem]) rfl ⟨rfl,by repeat (first | refine Below.alloc ?_ (by simp<;>omega) _ | exact r_)⟩
def kJ (rg:Int)(ni:Nat)(n:bB)(i:Nat):Bool:=
 decide ((i:Int)<500)&&dw n.name.size 1 40&&dw n.reg 0 (rg-1)&&decide (0<=n.fro)&&decide (n.fro<=n.til)&&decide (n.til<=ni)
theorem vI (nm:ByteArray)(ln pr:Int)(rs:Bool)(rg:Int)(us:List (Bool×Int))(cs:List cN)(is:List az)(ns:List bB)(a5 a6 a7 a8:o_)(c5 c6 c7 c8:Nat)(i:Nat)(S:Nat->Prop)(w:w_)(h8:da w S a8 ns)(hB:∀ b,S b->b<w.heap.size)(hi:i<ns.length)(ko:0<=rg/\rg<=250)(jl:is.length<=9223372036854775807) :
  c_ 99 #[.agg #[.string nm,i_ ln,i_ pr,.bool rs,i_ rg,.slice a5 us.length c5,.slice a6 cs.length c6,.slice a7 is.length c7,.slice a8 ns.length c8],i_ i] w fun e w'=>e=.returned (.bool (kJ rg is.length (ns[i]?.getD bB.z) i))/\b_ w w':=by
 have hn:=h8.1;obtain⟨b,off,rfl,hb,aC⟩:=h8.2 (by omega);have N:=aC i hi;have cY:=hB b hb;clear aC h8 hB;have dQ:H_ (∀ o1 o2,b_ w ((w.alloc o1).alloc o2)):=fun o1 o2=>(r_.alloc n_ o1).alloc (by simp) o2;obtain⟨qK,vl⟩:=ko;generalize ns[i]?.getD bB.z=n at *;have c0:=N.name;have c1:=N.reg;have c2:=N.fro;have c3:=N.til;have QO:=N.names;clear N;obtain⟨name,reg,fro,til⟩:=n;simp only at *;have E:H_ (kJ rg is.length ⟨name,reg,fro,til⟩ i=(decide ((i:Int)<500)&&dw name.size 1 40&&dw reg 0 (rg-1)&&decide (0<=fro)&&decide (fro<=til)&&decide (til<=is.length))):=rfl;generalize kJ rg is.length ⟨name,reg,fro,til⟩ i=res at *;by_cases q0:(i:Int)<500
 ·skip;cases q1:dw name.size 1 40
  ·have R:H_ (false=res):=by show _=_;rw[E.o];simp[q1]
   have Q1:=af q1;clear q1;clear E;go_enter Tryz.func99,Tryz.ntmps99;go_wp2_with fail
   refine(aB _ _ _ _).mono ?_;rintro e w' ⟨rfl,rfl⟩;rw[Q1.o];go_wp2;go_ret;refine⟨ak ?_,aa dQ _ _⟩;first | exact aa R | (rw[<-aa R];simp;omega)
  ·have Q1:=af q1;clear q1;cases q2:dw reg 0 (rg-1)
   ·have R:H_ (false=res):=by show _=_;rw[E.o];simp[q2]
    have Q2:=af q2;clear q2;clear E;go_enter Tryz.func99,Tryz.ntmps99;go_wp2_with fail
    refine(aB _ _ _ _).mono ?_;rintro e w' ⟨rfl,rfl⟩;rw[Q1.o];go_wp2_with fail;refine(aB _ _ _ _).mono ?_;rintro e w' ⟨rfl,rfl⟩;rw[Q2.o];go_wp2;go_ret;refine⟨ak ?_,aa dQ _ _⟩;first | exact aa R | (rw[<-aa R];simp;omega)
   ·have Q2:=af q2;clear q2;by_cases q3:0<=fro
    ·skip;by_cases q4:fro<=til
     ·skip;by_cases q5:til<=is.length
      ·skip;have R:H_ (true=res):=by show _=_;rw[E.o];simp[q0,Q1.o,Q2.o,q3,q4,q5]
       clear E;go_enter Tryz.func99,Tryz.ntmps99;go_wp2_with fail
       refine(aB _ _ _ _).mono ?_;rintro e w' ⟨rfl,rfl⟩;rw[Q1.o];go_wp2_with fail;refine(aB _ _ _ _).mono ?_;rintro e w' ⟨rfl,rfl⟩;rw[Q2.o];go_wp2;go_ret;refine⟨ak ?_,aa dQ _ _⟩;first | exact aa R | (rw[<-aa R];simp;omega)
      ·have R:H_ (false=res):=by show _=_;rw[E.o];simp[q5]
       clear E;go_enter Tryz.func99,Tryz.ntmps99;go_wp2_with fail
       refine(aB _ _ _ _).mono ?_;rintro e w' ⟨rfl,rfl⟩;rw[Q1.o];go_wp2_with fail;refine(aB _ _ _ _).mono ?_;rintro e w' ⟨rfl,rfl⟩;rw[Q2.o];go_wp2;go_ret;refine⟨ak ?_,aa dQ _ _⟩;first | exact aa R | (rw[<-aa R];simp;omega)
     ·have R:H_ (false=res):=by show _=_;rw[E.o];simp[q4]
      clear E;go_enter Tryz.func99,Tryz.ntmps99;go_wp2_with fail
      refine(aB _ _ _ _).mono ?_;rintro e w' ⟨rfl,rfl⟩;rw[Q1.o];go_wp2_with fail;refine(aB _ _ _ _).mono ?_;rintro e w' ⟨rfl,rfl⟩;rw[Q2.o];go_wp2;go_ret;refine⟨ak ?_,aa dQ _ _⟩;first | exact aa R | (rw[<-aa R];simp;omega)
    ·have R:H_ (false=res):=by show _=_;rw[E.o];simp[q3]
     clear E;go_enter Tryz.func99,Tryz.ntmps99;go_wp2_with fail
     refine(aB _ _ _ _).mono ?_;rintro e w' ⟨rfl,rfl⟩;rw[Q1.o];go_wp2_with fail;refine(aB _ _ _ _).mono ?_;rintro e w' ⟨rfl,rfl⟩;rw[Q2.o];go_wp2;go_ret;refine⟨ak ?_,aa dQ _ _⟩;first | exact aa R | (rw[<-aa R];simp;omega)
 ·have R:H_ (false=res):=by show _=_;rw[E.o];simp[q0]
  clear E;go_enter Tryz.func99,Tryz.ntmps99;go_wp2
  go_ret;refine⟨ak ?_,aa dQ _ _⟩;first | exact aa R | (rw[<-aa R];simp;omega)
def al (l:List aj)(p:Nat):aj:=l[p]?.getD aj.z
def ef (n:aj)(p:Nat):Bool:=
 decide ((n.name.size:Int)<=40)&&dw n.f 0 100000&&dw n.m 0 250&&dw n.l 0 (if n.e then n.m-1 else n.m)&&decide ((n.s.length:Int)<=250)&&decide ((n.k.length:Int)<=500)&&(decide (0<p)||(n.l==0&&n.s.length==0))
theorem yG (a:o_)(l:List aj)(c p:Nat)(S:Nat->Prop)(w:w_)(hs:am w S a l)(hB:∀ b,S b->b<w.heap.size)(hp:p<l.length) :
  c_ 97 #[.agg #[.slice a l.length c],i_ p] w fun e w'=>e=.returned (.bool (ef (al l p) p))/\b_ w w':=by
 have hn:=hs.1;obtain⟨b,off,rfl,hb,aC⟩:=hs.2 (by omega);have N:aT w S b (off+p * 9) (al l p):=aC p hp;have cY:=hB b hb;clear aC hs hB;have dQ:H_ (∀ o1 o2,b_ w ((w.alloc o1).alloc o2)):=fun o1 o2=>(r_.alloc n_ o1).alloc (by simp) o2;generalize al l p=n at *;obtain⟨a5,c5,h5,H5⟩:=N.s;obtain⟨a6,c6,h6,H6⟩:=N.k;obtain⟨a7,c7,h7,H7⟩:=N.u;obtain⟨a8,c8,h8,H8⟩:=N.g;have c0:=N.name;have c1:=N.f;have c2:=N.l;have c3:=N.e;have c4:=N.m;have QO:=N.names;have hu:=H5.1;have qI:=H6.1;have jl:=H7.1;have Bc:=H8.1;clear N H5 H6 H7 H8;obtain⟨nm,ln,pr,rs,rg,us,cs,is,ns⟩:=n;simp only at *;cases rs
 ·have E:H_ (ef ⟨nm,ln,pr,false,rg,us,cs,is,ns⟩ p=(decide ((nm.size:Int)<=40)&&dw ln 0 100000&&dw rg 0 250&&dw pr 0 (rg)&&decide ((us.length:Int)<=250)&&decide ((cs.length:Int)<=500)&&(decide (0<p)||(pr==0&&us.length==0)))):=rfl;generalize ef ⟨nm,ln,pr,false,rg,us,cs,is,ns⟩ p=res at *;by_cases q0:(nm.size:Int)<=40
  ·skip;cases q1:dw ln 0 100000
   ·have R:H_ (false=res):=by show _=_;rw[E.o];simp[q1]
    have Q1:=af q1;clear q1;clear E;go_enter Tryz.func97,Tryz.ntmps97;go_wp2_with fail
    refine(aB _ _ _ _).mono ?_;rintro e w' ⟨rfl,rfl⟩;rw[Q1.o];go_wp2;go_ret;refine⟨ak ?_,aa dQ _ _⟩;first | exact aa R | (rw[<-aa R];simp;omega) | (rw[<-aa R];simp)
   ·have Q1:=af q1;clear q1;cases q2:dw rg 0 250
    ·have R:H_ (false=res):=by show _=_;rw[E.o];simp[q2]
     have Q2:=af q2;clear q2;clear E;go_enter Tryz.func97,Tryz.ntmps97;go_wp2_with fail
     refine(aB _ _ _ _).mono ?_;rintro e w' ⟨rfl,rfl⟩;rw[Q1.o];go_wp2_with fail;refine(aB _ _ _ _).mono ?_;rintro e w' ⟨rfl,rfl⟩;rw[Q2.o];go_wp2;go_ret;refine⟨ak ?_,aa dQ _ _⟩;first | exact aa R | (rw[<-aa R];simp;omega) | (rw[<-aa R];simp)
    ·have Q2:=af q2;clear q2;have ko:=aU Q2.o;cases q3:dw pr 0 (rg)
     ·have R:H_ (false=res):=by show _=_;rw[E.o];simp[q3]
      have Q3:=af q3;clear q3;clear E;go_enter Tryz.func97,Tryz.ntmps97;go_wp2_with fail
      refine(aB _ _ _ _).mono ?_;rintro e w' ⟨rfl,rfl⟩;rw[Q1.o];go_wp2_with fail;refine(aB _ _ _ _).mono ?_;rintro e w' ⟨rfl,rfl⟩;rw[Q2.o];go_wp2_with fail;refine(aB _ _ _ _).mono ?_;rintro e w' ⟨rfl,rfl⟩;rw[Q3.o];go_wp2;go_ret;refine⟨ak ?_,aa dQ _ _⟩;first | exact aa R | (rw[<-aa R];simp;omega) | (rw[<-aa R];simp)
     ·have Q3:=af q3;clear q3;by_cases q4:(us.length:Int)<=250
      ·skip;by_cases q5:(cs.length:Int)<=500
       ·skip;by_cases t0:0<p
        ·have R:H_ (true=res):=by{show _=_;rw[E.o];simp[q0,Q1.o,Q2.o,Q3.o,q4,q5,t0]};have t0i:(0:Int)<(p:Int):=by omega
         clear E;go_enter Tryz.func97,Tryz.ntmps97;go_wp2_with fail
         refine(aB _ _ _ _).mono ?_;rintro e w' ⟨rfl,rfl⟩;rw[Q1.o];go_wp2_with fail;refine(aB _ _ _ _).mono ?_;rintro e w' ⟨rfl,rfl⟩;rw[Q2.o];go_wp2_with fail;refine(aB _ _ _ _).mono ?_;rintro e w' ⟨rfl,rfl⟩;rw[Q3.o];go_wp2;go_ret;refine⟨ak ?_,aa dQ _ _⟩;first | exact aa R | (rw[<-aa R];simp;omega) | (rw[<-aa R];simp)
        have t0i:¬(0:Int)<(p:Int):=by{omega};by_cases t1:pr=0
        ·by_cases t2:us.length=0
         ·have R:H_ (true=res):=by{show _=_;rw[E.o,show(us.length==0)=true from by rw[t2];rfl,show(pr==0)=true from by simpa using t1];simp[q0,Q1.o,Q2.o,Q3.o,q4,q5,t0]};have Rd:(pr==0)=true:=by{simpa using t1};have WQ:((us.length:Int)==0)=true:=by rw[t2];rfl
          clear t1 t2;clear E;go_enter Tryz.func97,Tryz.ntmps97;go_wp2_with fail
          refine(aB _ _ _ _).mono ?_;rintro e w' ⟨rfl,rfl⟩;rw[Q1.o];go_wp2_with fail;refine(aB _ _ _ _).mono ?_;rintro e w' ⟨rfl,rfl⟩;rw[Q2.o];go_wp2_with fail;refine(aB _ _ _ _).mono ?_;rintro e w' ⟨rfl,rfl⟩;rw[Q3.o];go_wp2;go_ret;refine⟨ak ?_,aa dQ _ _⟩;first | exact aa R | (rw[<-aa R];simp;omega) | (rw[<-aa R];simp)
         ·have R:H_ (false=res):=by{show _=_;rw[E.o,show(us.length==0)=false from zag.2 t2];simp[q0,Q1.o,Q2.o,Q3.o,q4,q5,t0]};have Rd:(pr==0)=true:=by simpa using t1
          have WQ:((us.length:Int)==0)=false:=zag.2 (by omega);clear t1 t2;clear E;go_enter Tryz.func97,Tryz.ntmps97;go_wp2_with fail
          refine(aB _ _ _ _).mono ?_;rintro e w' ⟨rfl,rfl⟩;rw[Q1.o];go_wp2_with fail;refine(aB _ _ _ _).mono ?_;rintro e w' ⟨rfl,rfl⟩;rw[Q2.o];go_wp2_with fail;refine(aB _ _ _ _).mono ?_;rintro e w' ⟨rfl,rfl⟩;rw[Q3.o];go_wp2;go_ret;refine⟨ak ?_,aa dQ _ _⟩;first | exact aa R | (rw[<-aa R];simp;omega) | (rw[<-aa R];simp)
        ·have R:H_ (false=res):=by{show _=_;rw[E.o];simp[q0,Q1.o,Q2.o,Q3.o,q4,q5,t0,t1]};have Rd:(pr==0)=false:=by simpa using t1
         clear t1;clear E;go_enter Tryz.func97,Tryz.ntmps97;go_wp2_with fail
         refine(aB _ _ _ _).mono ?_;rintro e w' ⟨rfl,rfl⟩;rw[Q1.o];go_wp2_with fail;refine(aB _ _ _ _).mono ?_;rintro e w' ⟨rfl,rfl⟩;rw[Q2.o];go_wp2_with fail;refine(aB _ _ _ _).mono ?_;rintro e w' ⟨rfl,rfl⟩;rw[Q3.o];go_wp2;go_ret;refine⟨ak ?_,aa dQ _ _⟩;first | exact aa R | (rw[<-aa R];simp;omega) | (rw[<-aa R];simp)
       ·have R:H_ (false=res):=by show _=_;rw[E.o];simp[q5]
        clear E;go_enter Tryz.func97,Tryz.ntmps97;go_wp2_with fail
        refine(aB _ _ _ _).mono ?_;rintro e w' ⟨rfl,rfl⟩;rw[Q1.o];go_wp2_with fail;refine(aB _ _ _ _).mono ?_;rintro e w' ⟨rfl,rfl⟩;rw[Q2.o];go_wp2_with fail;refine(aB _ _ _ _).mono ?_;rintro e w' ⟨rfl,rfl⟩;rw[Q3.o];go_wp2;go_ret;refine⟨ak ?_,aa dQ _ _⟩;first | exact aa R | (rw[<-aa R];simp;omega) | (rw[<-aa R];simp)
      ·have R:H_ (false=res):=by show _=_;rw[E.o];simp[q4]
       clear E;go_enter Tryz.func97,Tryz.ntmps97;go_wp2_with fail
       refine(aB _ _ _ _).mono ?_;rintro e w' ⟨rfl,rfl⟩;rw[Q1.o];go_wp2_with fail;refine(aB _ _ _ _).mono ?_;rintro e w' ⟨rfl,rfl⟩;rw[Q2.o];go_wp2_with fail;refine(aB _ _ _ _).mono ?_;rintro e w' ⟨rfl,rfl⟩;rw[Q3.o];go_wp2;go_ret;refine⟨ak ?_,aa dQ _ _⟩;first | exact aa R | (rw[<-aa R];simp;omega) | (rw[<-aa R];simp)
  ·have R:H_ (false=res):=by show _=_;rw[E.o];simp[q0]
   clear E;go_enter Tryz.func97,Tryz.ntmps97;go_wp2
   go_ret;refine⟨ak ?_,aa dQ _ _⟩;first | exact aa R | (rw[<-aa R];simp;omega) | (rw[<-aa R];simp)
 ·have E:H_ (ef ⟨nm,ln,pr,true,rg,us,cs,is,ns⟩ p=(decide ((nm.size:Int)<=40)&&dw ln 0 100000&&dw rg 0 250&&dw pr 0 (rg-1)&&decide ((us.length:Int)<=250)&&decide ((cs.length:Int)<=500)&&(decide (0<p)||(pr==0&&us.length==0)))):=rfl;generalize ef ⟨nm,ln,pr,true,rg,us,cs,is,ns⟩ p=res at *;by_cases q0:(nm.size:Int)<=40
  ·skip;cases q1:dw ln 0 100000
   ·have R:H_ (false=res):=by show _=_;rw[E.o];simp[q1]
    have Q1:=af q1;clear q1;clear E;go_enter Tryz.func97,Tryz.ntmps97;go_wp2_with fail
    refine(aB _ _ _ _).mono ?_;rintro e w' ⟨rfl,rfl⟩;rw[Q1.o];go_wp2;go_ret;refine⟨ak ?_,aa dQ _ _⟩;first | exact aa R | (rw[<-aa R];simp;omega) | (rw[<-aa R];simp)
   ·have Q1:=af q1;clear q1;cases q2:dw rg 0 250
    ·have R:H_ (false=res):=by show _=_;rw[E.o];simp[q2]
     have Q2:=af q2;clear q2;clear E;go_enter Tryz.func97,Tryz.ntmps97;go_wp2_with fail
     refine(aB _ _ _ _).mono ?_;rintro e w' ⟨rfl,rfl⟩;rw[Q1.o];go_wp2_with fail;refine(aB _ _ _ _).mono ?_;rintro e w' ⟨rfl,rfl⟩;rw[Q2.o];go_wp2;go_ret;refine⟨ak ?_,aa dQ _ _⟩;first | exact aa R | (rw[<-aa R];simp;omega) | (rw[<-aa R];simp)
    ·have Q2:=af q2;clear q2;have ko:=aU Q2.o;cases q3:dw pr 0 (rg-1)
     ·have R:H_ (false=res):=by show _=_;rw[E.o];simp[q3]
      have Q3:=af q3;clear q3;clear E;go_enter Tryz.func97,Tryz.ntmps97;go_wp2_with fail
      refine(aB _ _ _ _).mono ?_;rintro e w' ⟨rfl,rfl⟩;rw[Q1.o];go_wp2_with fail;refine(aB _ _ _ _).mono ?_;rintro e w' ⟨rfl,rfl⟩;rw[Q2.o];go_wp2_with fail;refine(aB _ _ _ _).mono ?_;rintro e w' ⟨rfl,rfl⟩;rw[Q3.o];go_wp2;go_ret;refine⟨ak ?_,aa dQ _ _⟩;first | exact aa R | (rw[<-aa R];simp;omega) | (rw[<-aa R];simp)
     ·have Q3:=af q3;clear q3;by_cases q4:(us.length:Int)<=250
      ·skip;by_cases q5:(cs.length:Int)<=500
       ·skip;by_cases t0:0<p
        ·have R:H_ (true=res):=by{show _=_;rw[E.o];simp[q0,Q1.o,Q2.o,Q3.o,q4,q5,t0]};have t0i:(0:Int)<(p:Int):=by omega
         clear E;go_enter Tryz.func97,Tryz.ntmps97;go_wp2_with fail
         refine(aB _ _ _ _).mono ?_;rintro e w' ⟨rfl,rfl⟩;rw[Q1.o];go_wp2_with fail;refine(aB _ _ _ _).mono ?_;rintro e w' ⟨rfl,rfl⟩;rw[Q2.o];go_wp2_with fail;refine(aB _ _ _ _).mono ?_;rintro e w' ⟨rfl,rfl⟩;rw[Q3.o];go_wp2;go_ret;refine⟨ak ?_,aa dQ _ _⟩;first | exact aa R | (rw[<-aa R];simp;omega) | (rw[<-aa R];simp)
        have t0i:¬(0:Int)<(p:Int):=by{omega};by_cases t1:pr=0
        ·by_cases t2:us.length=0
         ·have R:H_ (true=res):=by{show _=_;rw[E.o,show(us.length==0)=true from by rw[t2];rfl,show(pr==0)=true from by simpa using t1];simp[q0,Q1.o,Q2.o,Q3.o,q4,q5,t0]};have Rd:(pr==0)=true:=by{simpa using t1};have WQ:((us.length:Int)==0)=true:=by rw[t2];rfl
          clear t1 t2;clear E;go_enter Tryz.func97,Tryz.ntmps97;go_wp2_with fail
          refine(aB _ _ _ _).mono ?_;rintro e w' ⟨rfl,rfl⟩;rw[Q1.o];go_wp2_with fail;refine(aB _ _ _ _).mono ?_;rintro e w' ⟨rfl,rfl⟩;rw[Q2.o];go_wp2_with fail;refine(aB _ _ _ _).mono ?_;rintro e w' ⟨rfl,rfl⟩;rw[Q3.o];go_wp2;go_ret;refine⟨ak ?_,aa dQ _ _⟩;first | exact aa R | (rw[<-aa R];simp;omega) | (rw[<-aa R];simp)
         ·have R:H_ (false=res):=by{show _=_;rw[E.o,show(us.length==0)=false from zag.2 t2];simp[q0,Q1.o,Q2.o,Q3.o,q4,q5,t0]};have Rd:(pr==0)=true:=by simpa using t1
          have WQ:((us.length:Int)==0)=false:=zag.2 (by omega);clear t1 t2;clear E;go_enter Tryz.func97,Tryz.ntmps97;go_wp2_with fail
          refine(aB _ _ _ _).mono ?_;rintro e w' ⟨rfl,rfl⟩;rw[Q1.o];go_wp2_with fail;refine(aB _ _ _ _).mono ?_;rintro e w' ⟨rfl,rfl⟩;rw[Q2.o];go_wp2_with fail;refine(aB _ _ _ _).mono ?_;rintro e w' ⟨rfl,rfl⟩;rw[Q3.o];go_wp2;go_ret;refine⟨ak ?_,aa dQ _ _⟩;first | exact aa R | (rw[<-aa R];simp;omega) | (rw[<-aa R];simp)
        ·have R:H_ (false=res):=by{show _=_;rw[E.o];simp[q0,Q1.o,Q2.o,Q3.o,q4,q5,t0,t1]};have Rd:(pr==0)=false:=by simpa using t1
         clear t1;clear E;go_enter Tryz.func97,Tryz.ntmps97;go_wp2_with fail
         refine(aB _ _ _ _).mono ?_;rintro e w' ⟨rfl,rfl⟩;rw[Q1.o];go_wp2_with fail;refine(aB _ _ _ _).mono ?_;rintro e w' ⟨rfl,rfl⟩;rw[Q2.o];go_wp2_with fail;refine(aB _ _ _ _).mono ?_;rintro e w' ⟨rfl,rfl⟩;rw[Q3.o];go_wp2;go_ret;refine⟨ak ?_,aa dQ _ _⟩;first | exact aa R | (rw[<-aa R];simp;omega) | (rw[<-aa R];simp)
       ·have R:H_ (false=res):=by show _=_;rw[E.o];simp[q5]
        clear E;go_enter Tryz.func97,Tryz.ntmps97;go_wp2_with fail
        refine(aB _ _ _ _).mono ?_;rintro e w' ⟨rfl,rfl⟩;rw[Q1.o];go_wp2_with fail;refine(aB _ _ _ _).mono ?_;rintro e w' ⟨rfl,rfl⟩;rw[Q2.o];go_wp2_with fail;refine(aB _ _ _ _).mono ?_;rintro e w' ⟨rfl,rfl⟩;rw[Q3.o];go_wp2;go_ret;refine⟨ak ?_,aa dQ _ _⟩;first | exact aa R | (rw[<-aa R];simp;omega) | (rw[<-aa R];simp)
      ·have R:H_ (false=res):=by show _=_;rw[E.o];simp[q4]
       clear E;go_enter Tryz.func97,Tryz.ntmps97;go_wp2_with fail
       refine(aB _ _ _ _).mono ?_;rintro e w' ⟨rfl,rfl⟩;rw[Q1.o];go_wp2_with fail;refine(aB _ _ _ _).mono ?_;rintro e w' ⟨rfl,rfl⟩;rw[Q2.o];go_wp2_with fail;refine(aB _ _ _ _).mono ?_;rintro e w' ⟨rfl,rfl⟩;rw[Q3.o];go_wp2;go_ret;refine⟨ak ?_,aa dQ _ _⟩;first | exact aa R | (rw[<-aa R];simp;omega) | (rw[<-aa R];simp)
  ·have R:H_ (false=res):=by show _=_;rw[E.o];simp[q0]
   clear E;go_enter Tryz.func97,Tryz.ntmps97;go_wp2
   go_ret;refine⟨ak ?_,aa dQ _ _⟩;first | exact aa R | (rw[<-aa R];simp;omega) | (rw[<-aa R];simp)
end Go.Proofs.YtcjfjflljdojlaaGreatDoor
