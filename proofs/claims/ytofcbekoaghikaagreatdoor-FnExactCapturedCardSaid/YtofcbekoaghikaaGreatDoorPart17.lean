import Derived.Test.YtofcbekoaghikaaGreatDoorPart16
import Derived.Deep.RegionHeld3
import Derived.BigQuiet
set_option linter.unusedSimpArgs false
set_option linter.unusedVariables false
set_option maxHeartbeats 8000000
namespace Go.Proofs.YtofcbekoaghikaaGreatDoor
open Go.RowKit
section
variable {C:VC} {s:VS} {w:World}
theorem Vis.c0 (h:Vis C s w):w.cell? ⟨C.vb,0,none⟩=some (.slice C.a C.l.length C.c):=h.v.cell (i:=0) (by omega)
theorem Vis.c1 (h:Vis C s w):w.cell? ⟨C.vb,1,none⟩=some (.int .i64 C.f):=h.v.cell (i:=1) (by omega)
theorem Vis.c5 (h:Vis C s w):w.cell? ⟨C.vb,5,none⟩=some (.bool C.x.rest):=h.v.cell (i:=5) (by omega)
theorem Vis.c6 (h:Vis C s w):w.cell? ⟨C.vb,6,none⟩=some (.slice C.R.va C.x.vars.length C.R.vc):=h.v.cell (i:=6) (by omega)
theorem Vis.c7 (h:Vis C s w):w.cell? ⟨C.vb,7,none⟩=some (.slice C.R.ua C.x.ups.length C.R.uc):=h.v.cell (i:=7) (by omega)
theorem Vis.c8 (h:Vis C s w):w.cell? ⟨C.vb,8,none⟩=some (.slice C.R.na C.x.nodes.length C.R.nc):=h.v.cell (i:=8) (by omega)
theorem Vis.c9 (h:Vis C s w):w.cell? ⟨C.vb,9,none⟩=some (.map (some C.kb)):=h.v.cell (i:=9) (by omega)
theorem Vis.c10 (h:Vis C s w):w.cell? ⟨C.vb,10,none⟩=some (.map (some C.mb)):=h.v.cell (i:=10) (by omega)
theorem Vis.c11 (h:Vis C s w):w.cell? ⟨C.vb,11,none⟩=some (.slice (some ⟨C.sb,0,none⟩) C.x.vars.length C.x.vars.length):=h.v.cell (i:=11) (by omega)
theorem Vis.c12 (h:Vis C s w):w.cell? ⟨C.vb,12,none⟩=some (.int .i64 s.lo):=h.v.cell (i:=12) (by omega)
theorem Vis.c13 (h:Vis C s w):w.cell? ⟨C.vb,13,none⟩=some (.int .i64 s.dp):=h.v.cell (i:=13) (by omega)
theorem Vis.c14 (h:Vis C s w):w.cell? ⟨C.vb,14,none⟩=some (.int .i64 s.lc):=h.v.cell (i:=14) (by omega)
theorem Vis.c15 (h:Vis C s w):w.cell? ⟨C.vb,15,none⟩=some (.int .i64 s.lf):=h.v.cell (i:=15) (by omega)
theorem Vis.c16 (h:Vis C s w):w.cell? ⟨C.vb,16,none⟩=some (.int .i64 s.ln):=h.v.cell (i:=16) (by omega)
end
def isVar (C:VC)(r:Int):Bool:=inR r 0 ((C.x.vars.length:Int)-1)
def inSc (C:VC)(s:VS)(r:Int):Bool:=isVar C r&&decide (0<s.sc r.toNat)
theorem isVariable_any (C:VC)(s:VS)(r:Int)(w:World)(hV:Vis C s w):Calls Tryz.prog 97 #[.pointer (some ⟨C.vb,0,none⟩),.int .i64 r] w fun e w'=>e=.returned (.bool (isVar C r))/\w'=w:=by
 have c6:=hV.c6;have hnv:=hV.nv;have E:Hid (isVar C r=inR r 0 ((C.x.vars.length:Int)-1)):=rfl;clear hV;generalize C.x.vars.length=nv at *;go_enter Tryz.func97,Tryz.ntmps97;go_wp2_with fail
 refine(within_any _ _ _ _).mono ?_;rintro e w' ⟨rfl,rfl⟩;go_wp2_with fail
 go_ret;exact⟨ret_bool E.out.symm,rfl⟩
theorem inScope_any (C:VC)(s:VS)(r:Int)(w:World)(hV:Vis C s w):Calls Tryz.prog 109 #[.pointer (some ⟨C.vb,0,none⟩),.int .i64 r] w fun e w'=>e=.returned (.bool (inSc C s r))/\w'=w:=by
 have HV:=hide hV;have hnv:=hV.nv;cases hq:isVar C r
 ·have E:Hid (inSc C s r=false):=by show _=_;rw[inSc,hq];rfl
  have HQ:=hide hq;clear hq hV;go_enter Tryz.func109,Tryz.ntmps109;go_wp2_with fail
  refine(isVariable_any C s r _ (unhide HV)).mono ?_;rintro e w' ⟨rfl,rfl⟩;rw[unhide HQ];go_wp2_with fail
  go_ret;exact⟨ret_bool E.out.symm,rfl⟩
 ·have E:Hid (inSc C s r=decide (0<s.sc r.toNat)):=by show _=_;rw[inSc,hq];rfl
  have HQ:=hide hq;have hr:0<=r/\r<=(C.x.vars.length:Int)-1:=by
   unfold isVar inR at hq;rw[Bool.and_eq_true]at hq;exact⟨of_decide_eq_true hq.1,of_decide_eq_true hq.2⟩
  obtain⟨k,rfl⟩:=Int.eq_ofNat_of_zero_le hr.1;have hk:k<C.x.vars.length:=by omega
  have ck:=hV.sc.cell (i:=k) hk;have c11:=hV.c11;have E:Hid (inSc C s (k:Int)=decide (0<s.sc k)):=E;clear hq hV hr;generalize C.x.vars.length=nv at *;generalize s.sc k=v at *;go_enter Tryz.func109,Tryz.ntmps109;go_wp2_with fail
  refine(isVariable_any C s k _ (unhide HV)).mono ?_;rintro e w' ⟨rfl,rfl⟩;rw[unhide HQ];go_wp2_with fail
  go_ret;exact⟨ret_bool E.out.symm,rfl⟩
def tellS (C:VC)(s:VS)(c n:Int):VS:=
 if s.lc=0\/or3 (cmp3 c s.lc) (cmp3 C.f s.lf) (cmp3 n s.ln)<0 then { s with lc:=c,lf:=C.f,ln:=n }else s
theorem setCell3_vis {C:VC}{s:VS}{w:World}(h:Vis C s w)(x y z:Int):Vis C { s with lc:=x,lf:=y,ln:=z } (((w.setCell ⟨C.vb,14,none⟩ (.int .i64 x)).setCell ⟨C.vb,15,none⟩ (.int .i64 y)).setCell ⟨C.vb,16,none⟩ (.int .i64 z)):=
 ((h.setLc x).setLf y).setLn z
theorem setCell3_but {C:VC}{w W:World}{B:Nat}(h:ButS C.T B W w)(x y z:Value):ButS C.T B W (((w.setCell ⟨C.vb,14,none⟩ x).setCell ⟨C.vb,15,none⟩ y).setCell ⟨C.vb,16,none⟩ z):=
 ((h.set C.Tv _ _).set C.Tv _ _).set C.Tv _ _
theorem tell_any (C:VC)(s:VS)(c n:Int)(w:World)(hV:Vis C s w):Calls Tryz.prog 98 #[.pointer (some ⟨C.vb,0,none⟩),.int .i64 c,.int .i64 n] w fun e w'=>e=.returned (.tuple #[])/\Vis C (tellS C s c n) w'/\ButS C.T w.heap.size w w':=by
 have HV:=hide hV;have hvs:C.vb<w.heap.size:=hV.v.lt;have c1:=hV.c1;have c14:=hV.c14;have c15:=hV.c15;have c16:=hV.c16;have z14:=hV.v.frozen 14;have z15:=hV.v.frozen 15;have z16:=hV.v.frozen 16;have hv1:C.vb<w.heap.size+1:=by omega
 have hv2:C.vb<w.heap.size+1+1:=by omega
 have BW:Hid (∀ o o',Below w.heap.size w ((w.alloc o).alloc o').drew):=fun o o'=>(((Below.refl _ _).alloc (Nat.le_refl _) o).alloc (by simp) o').drew;clear hV;have FIN:Hid (∀ W:World,Below w.heap.size w W->Vis C s W/\ButS C.T w.heap.size w W):=fun W hW=>⟨(unhide HV).keep hW,ButS.of_below hW⟩;have hbA:Hid (∀ o,Below w.heap.size w (w.alloc o)):=fun o=>(Below.refl _ _).alloc (Nat.le_refl _) o;have OR:Hid (∀ o,Calls Tryz.prog 111 #[.slice (some ⟨w.heap.size+1,0,none⟩) 3 3] (((w.alloc o).alloc (.cells #[.int .i64 (cmp3 c s.lc),.int .i64 (cmp3 C.f s.lf),.int .i64 (cmp3 n s.ln)] 3)).drew) fun e w'=>
   e=.returned (.int .i64 (or3 (cmp3 c s.lc) (cmp3 C.f s.lf) (cmp3 n s.ln)))/\w'=(((w.alloc o).alloc (.cells #[.int .i64 (cmp3 c s.lc),.int .i64 (cmp3 C.f s.lf),.int .i64 (cmp3 n s.ln)] 3)).drew)):=fun o=>
  cmpOr_any (cmp3 c s.lc) (cmp3 C.f s.lf) (cmp3 n s.ln) (w.heap.size+1) _ (by simp[go_sem]) (by simp[go_sem]) (by simp[go_sem])
 go_enter Tryz.func98,Tryz.ntmps98;go_wp2_with fail
 go_region_held3 (fun w'=>w'.cell? ⟨C.vb,14,none⟩=some (.int .i64 s.lc)/\w'.cell? ⟨C.vb,15,none⟩=some (.int .i64 s.lf)/\w'.cell? ⟨C.vb,16,none⟩=some (.int .i64 s.ln)/\w'.cell? ⟨w.heap.size,0,none⟩=some (.int .i64 c)/\w'.cell? ⟨w.heap.size,1,none⟩=some (.int .i64 C.f)/\w'.cell? ⟨w.heap.size,2,none⟩=some (.int .i64 n)) (simp[go_sem, *])
  (first
   | (go_at_call 112;refine(cmpCompare_any _ _ _).mono ?_;rintro e w7 ⟨rfl,rfl⟩)
   | (go_at_call 111;refine(unhide OR _).mono ?_;rintro e w8 ⟨rfl,rfl⟩))
 generalize ho:or3 (cmp3 c s.lc) (cmp3 C.f s.lf) (cmp3 n s.ln)=o at *;have HO:=hide ho;clear ho;by_cases q:s.lc=0
 ·have q':(s.lc==0)=true:=by simp[q]
  have E:Hid (tellS C s c n={ s with lc:=c,lf:=C.f,ln:=n }):=by show _=_;rw[tellS,if_pos (.inl q)]
  clear q;go_wp2_with fail
  go_end0
  exact⟨rfl,by rw[E.out];exact(((setCell3_vis (unhide HV) _ _ _).alloc _).alloc _).drew,(((setCell3_but (ButS.refl _ _ _) _ _ _).alloc (by simp) _).alloc (by simp) _).drew⟩
 ·have q':(s.lc==0)=false:=by simp[q]
  by_cases q2:o<0
  ·have E:Hid (tellS C s c n={ s with lc:=c,lf:=C.f,ln:=n }):=by show _=_;rw[tellS,if_pos (.inr (by rw[HO.out];exact q2))]
   clear q;go_wp2_with fail
   go_end0
   exact⟨rfl,by rw[E.out];exact(((setCell3_vis (unhide HV) _ _ _).alloc _).alloc _).drew,(((setCell3_but (ButS.refl _ _ _) _ _ _).alloc (by simp) _).alloc (by simp) _).drew⟩
  ·have E:Hid (tellS C s c n=s):=by show _=_;rw[tellS,if_neg (by rintro(h | h);exact q h;rw[HO.out]at h;exact q2 h)]
   clear q;go_wp2_with fail
   go_end0
   exact⟨rfl,by rw[E.out];exact(unhide FIN _ (unhide BW _ _)).1,(unhide FIN _ (unhide BW _ _)).2⟩
theorem Vis.node {C:VC}{s:VS}{w:World}(h:Vis C s w){n:Nat}(hn:n<C.x.nodes.length) :
  ∃ b off,C.R.na=some ⟨b,off,none⟩/\(C.S b/\b<w.heap.size)/\NodeCells w C.S b (off+n * 8) (nd C.x.nodes n):=by
 obtain⟨b,off,e,hb,hc⟩:=h.nodes.2 (by omega);exact⟨b,off,e,⟨hb,(h.sS b hb).1⟩,hc n hn⟩
def cntTo (refs:List Int):Nat->Nat->Int
 | 0,_=>0
 | k+1,v=>cntTo refs k v+if refs[k]?.getD 0=(v:Int)then 1 else 0
theorem cntTo_bd (refs:List Int):∀(k v:Nat),0<=cntTo refs k v/\cntTo refs k v<=k
 | 0,_=>⟨Int.le_refl _,Int.le_refl _⟩
 | k+1,v=>by
  have:=cntTo_bd refs k v;unfold cntTo;split<;>omega
def shiftTo (s:VS)(refs:List Int)(x:Int)(k:Nat):VS:={ s with sc:=fun v=>s.sc v+x * cntTo refs k v }
def shiftS (C:VC)(s:VS)(n:Nat)(x:Int):VS:=shiftTo s (nd C.x.nodes n).refs x (nd C.x.nodes n).refs.length
def Small (C:VC)(s:VS):Prop:=∀ v,v<C.x.vars.length->-1152921504606846976<=s.sc v/\s.sc v<=1152921504606846976
theorem Vis.scEq {C:VC}{s:VS}{w:World}(h:Vis C s w){s':VS}(e:∀ v,v<C.x.vars.length->s'.sc v=s.sc v)(hr:s'.lo=s.lo/\s'.dp=s.dp/\s'.lc=s.lc/\s'.lf=s.lf/\s'.ln=s.ln):Vis C s' w:=by
 refine h.turn (ButS.refl _ _ _) ?_ (h.sc.congr fun i hi=>by rw[e i hi]);obtain⟨h1,h2,h3,h4,h5⟩:=hr;obtain⟨a1,a2,a3,a4,a5,a6⟩:=s';obtain⟨b1,b2,b3,b4,b5,b6⟩:=s;simp only at h1 h2 h3 h4 h5;subst h1 h2 h3 h4 h5;exact h.v.congr fun i hi=>by
  match i,hi with
  | 0,_=>rfl | 1,_=>rfl | 2,_=>rfl | 3,_=>rfl | 4,_=>rfl | 5,_=>rfl | 6,_=>rfl | 7,_=>rfl | 8,_=>rfl | 9,_=>rfl | 10,_=>rfl | 11,_=>rfl | 12,_=>rfl | 13,_=>rfl | 14,_=>rfl | 15,_=>rfl | 16,_=>rfl | n+17,h=>exact absurd h (by omega)
theorem shift_any (C:VC)(s:VS)(n:Nat)(x:Int)(w:World)(hV:Vis C s w)(hn:n<C.x.nodes.length)(hx:x=1\/x=-1)(hr:(nd C.x.nodes n).refs.length<=1048576)(hs:Small C s) :
  Calls Tryz.prog 107 #[.pointer (some ⟨C.vb,0,none⟩),.int .i64 n,.int .i64 x] w fun e w'=>e=.returned (.tuple #[])/\Vis C (shiftS C s n x) w'/\ButS C.T w.heap.size w w':=by
 obtain⟨b,off,hna,hb,N⟩:=hV.node hn;obtain⟨ra,rc,hrf,hrI⟩:=N.refs;have c8:=hV.c8;rw[hna]at c8;have hnl:=hV.nodes.1;have HV:=hide hV;have HS:=hide hs;have HI:=hide hrI;have E:Hid (shiftS C s n x=shiftTo s (nd C.x.nodes n).refs x (nd C.x.nodes n).refs.length):=rfl;have hnv:=hV.nv;have SSS:Hid (∀ b,C.S b->b<w.heap.size/\¬C.T b):=hV.sS;clear N hV hs hrI;generalize (nd C.x.nodes n).refs=refs at *;go_enter Tryz.func107,Tryz.ntmps107;go_wp2_with fail
 go_loopg [18] refs.length (fun g i wr=>∃(k:Nat),k+g=refs.length/\i=.int .i64 k/\Vis C (shiftTo s refs x k) wr/\ButS C.T w.heap.size w wr)
 case atStart=>exact⟨0,by omega,rfl,(unhide HV).scEq (fun v _=>by simp[shiftTo,cntTo]) ⟨rfl,rfl,rfl,rfl,rfl⟩,ButS.refl _ _ _⟩
 case round=>
  obtain⟨k,hk,rfl,hV1,hb1⟩:=hrel;by_cases hlt:k<refs.length
  ·obtain⟨b2,off2,rfl,hb2,hc2⟩:=((unhide HI).same (hb1.same (unhide SSS))).2 (by omega);have hki:=hc2 k hlt;have HK:Hid (refs[k]?.getD 0=refs[k]?.getD 0):=rfl;have HV1:=hide hV1;clear hc2;cases hq:isVar C (refs[k]?.getD 0)
   ·have HQ:=hide hq;have HE:Hid (∀ v,v<C.x.vars.length->(shiftTo s refs x (k+1)).sc v=(shiftTo s refs x k).sc v):=fun v hv=>by
     have:refs[k]?.getD 0≠(v:Int):=fun e=>by
      rw[e]at hq;simp[isVar,inR]at hq;omega
     simp[shiftTo,cntTo,this]
    clear hq;generalize refs[k]?.getD 0=r at *;go_wp2_with fail
    refine(isVariable_any C _ r _ (unhide HV1)).mono ?_;rintro e w' ⟨rfl,rfl⟩;rw[unhide HQ];go_wp2_with fail
    go_roundg (refs.length-(k+1))
    case measure=>omega
    case rel=>exact⟨k+1,by omega,by go_num,(unhide HV1).scEq (unhide HE) ⟨rfl,rfl,rfl,rfl,rfl⟩,hb1⟩
   ·have HQ:=hide hq;have hr0:0<=refs[k]?.getD 0/\refs[k]?.getD 0<=(C.x.vars.length:Int)-1:=by
     unfold isVar inR at hq;rw[Bool.and_eq_true]at hq;exact⟨of_decide_eq_true hq.1,of_decide_eq_true hq.2⟩
    obtain⟨m,hm⟩:=Int.eq_ofNat_of_zero_le hr0.1;have hmv:m<C.x.vars.length:=by omega
    have ck:=hV1.sc.cell (i:=m) hmv;have c11:=hV1.c11;have zk:=hV1.sc.frozen m;have HE:Hid (∀ v,v<C.x.vars.length->(shiftTo s refs x (k+1)).sc v=if v=m then(shiftTo s refs x k).sc m+x else(shiftTo s refs x k).sc v):=fun v hv=>by
     simp only[shiftTo,cntTo,hm];by_cases e:v=m
     ·subst e;simp;rcases hx with rfl | rfl<;>omega
     ·rw[if_neg e,if_neg (by omega)];simp
    have bd:=(unhide HS) m hmv;have cb:=cntTo_bd refs k m;have hsum:-4611686018427387904<=(shiftTo s refs x k).sc m+x/\(shiftTo s refs x k).sc m+x<=4611686018427387904:=by
     simp only[shiftTo];rcases hx with rfl | rfl<;>omega
    have hs1:=hsum.1;have hs2:=hsum.2;rw[hm]at hki HQ;clear hq hr0 hm bd cb hsum;generalize (shiftTo s refs x k).sc m=q at *;go_wp2_with fail
    refine(isVariable_any C _ m _ (unhide HV1)).mono ?_;rintro e w' ⟨rfl,rfl⟩;rw[unhide HQ];go_wp2_with fail
    go_roundg (refs.length-(k+1))
    case measure=>omega
    case rel=>
     exact⟨k+1,by omega,by go_num,(unhide HV1).setSc m _ _ (unhide HE),hb1.set C.Ts _ _⟩
  ·have:k=refs.length:=by omega
   subst this;go_wp2_with fail
   go_end0
   exact⟨rfl,by rw[E.out];exact hV1,hb1⟩
theorem wrap_ok (x:Int)(h0:-9223372036854775808<=x)(h1:x<=9223372036854775807):IntKind.i64.wrap x=x:=by rw[IntKind.wrap_i64];omega
def leaveS (C:VC)(s:VS)(n:Nat):VS:=if s.lo=0 then tellS C s 7 n else s
def variableS (C:VC)(s:VS)(n:Nat):VS:=if inSc C s (ref0 (nd C.x.nodes n))then s else tellS C s 6 n
def upS (C:VC)(s:VS)(n:Nat):VS:=if inR (ref0 (nd C.x.nodes n)) 0 ((C.x.ups.length:Int)-1)then s else tellS C s 6 n
def restS (C:VC)(s:VS)(n:Nat):VS:=if C.x.rest then s else tellS C s 8 n
theorem leave_any (C:VC)(s:VS)(n:Nat)(w:World)(hV:Vis C s w) :
  Calls Tryz.prog 92 #[.pointer (some ⟨C.vb,0,none⟩),.int .i64 n] w fun e w'=>e=.returned (.tuple #[])/\Vis C (leaveS C s n) w'/\ButS C.T w.heap.size w w':=by
 have c12:=hV.c12;have HV:=hide hV;clear hV;by_cases q:s.lo=0
 ·have q':(s.lo==0)=true:=by simp[q]
  have E:Hid (leaveS C s n=tellS C s 7 n):=if_pos q;clear q;go_enter Tryz.func92,Tryz.ntmps92;go_wp2_with fail
  refine(tell_any C s 7 n _ (unhide HV)).mono ?_;rintro e w' ⟨rfl,hV',hb'⟩;go_wp2_with fail
  go_end0
  exact⟨rfl,by rw[E.out];exact hV',hb'⟩
 ·have q':(s.lo==0)=false:=by simp[q]
  have E:Hid (leaveS C s n=s):=if_neg q;clear q;go_enter Tryz.func92,Tryz.ntmps92;go_wp2_with fail
  go_end0
  exact⟨rfl,by rw[E.out];exact unhide HV,ButS.refl _ _ _⟩
theorem rest_any (C:VC)(s:VS)(n:Nat)(w:World)(hV:Vis C s w) :
  Calls Tryz.prog 96 #[.pointer (some ⟨C.vb,0,none⟩),.int .i64 n] w fun e w'=>e=.returned (.tuple #[])/\Vis C (restS C s n) w'/\ButS C.T w.heap.size w w':=by
 have c5:=hV.c5;have HV:=hide hV;clear hV;rcases Bool.eq_false_or_eq_true C.x.rest with q | q
 ·have E:Hid (restS C s n=s):=if_pos q;rw[q]at c5;clear q;go_enter Tryz.func96,Tryz.ntmps96;go_wp2_with fail
  go_end0
  exact⟨rfl,by rw[E.out];exact unhide HV,ButS.refl _ _ _⟩
 ·have E:Hid (restS C s n=tellS C s 8 n):=if_neg (by simp[q]);rw[q]at c5;clear q;go_enter Tryz.func96,Tryz.ntmps96;go_wp2_with fail
  refine(tell_any C s 8 n _ (unhide HV)).mono ?_;rintro e w' ⟨rfl,hV',hb'⟩;go_wp2_with fail
  go_end0
  exact⟨rfl,by rw[E.out];exact hV',hb'⟩
theorem variable_any (C:VC)(s:VS)(n:Nat)(w:World)(hV:Vis C s w)(hn:n<C.x.nodes.length)(hr:0<(nd C.x.nodes n).refs.length) :
  Calls Tryz.prog 93 #[.pointer (some ⟨C.vb,0,none⟩),.int .i64 n] w fun e w'=>e=.returned (.tuple #[])/\Vis C (variableS C s n) w'/\ButS C.T w.heap.size w w':=by
 obtain⟨b,off,hna,hb,N⟩:=hV.node hn;obtain⟨ra,rc,hrf,hrI⟩:=N.refs;obtain⟨b2,off2,rfl,hb2,hc2⟩:=hrI.2 hr;have hk:=hc2 0 hr;have hk:w.cell? ⟨b2,off2,none⟩=some (.int .i64 (ref0 (nd C.x.nodes n))):=hk;have hlen:=hrI.1;have c8:=hV.c8;rw[hna]at c8;have hnl:=hV.nodes.1;have HV:=hide hV;clear N hV hrI hc2;cases hq:inSc C s (ref0 (nd C.x.nodes n))
 ·have E:Hid (variableS C s n=tellS C s 6 n):=if_neg (by simp[hq]);have HQ:=hide hq;clear hq;generalize ref0 (nd C.x.nodes n)=r at *;generalize (nd C.x.nodes n).refs.length=nr at *;go_enter Tryz.func93,Tryz.ntmps93;go_wp2_with fail
  refine(inScope_any C s r _ (unhide HV)).mono ?_;rintro e w' ⟨rfl,rfl⟩;rw[unhide HQ];go_wp2_with fail
  refine(tell_any C s 6 n _ (unhide HV)).mono ?_;rintro e w' ⟨rfl,hV',hb'⟩;go_wp2_with fail
  go_end0
  exact⟨rfl,by rw[E.out];exact hV',hb'⟩
 ·have E:Hid (variableS C s n=s):=if_pos hq;have HQ:=hide hq;clear hq;generalize ref0 (nd C.x.nodes n)=r at *;generalize (nd C.x.nodes n).refs.length=nr at *;go_enter Tryz.func93,Tryz.ntmps93;go_wp2_with fail
  refine(inScope_any C s r _ (unhide HV)).mono ?_;rintro e w' ⟨rfl,rfl⟩;rw[unhide HQ];go_wp2_with fail
  go_end0
  exact⟨rfl,by rw[E.out];exact unhide HV,ButS.refl _ _ _⟩
theorem up_any (C:VC)(s:VS)(n:Nat)(w:World)(hV:Vis C s w)(hn:n<C.x.nodes.length)(hr:0<(nd C.x.nodes n).refs.length) :
  Calls Tryz.prog 94 #[.pointer (some ⟨C.vb,0,none⟩),.int .i64 n] w fun e w'=>e=.returned (.tuple #[])/\Vis C (upS C s n) w'/\ButS C.T w.heap.size w w':=by
 obtain⟨b,off,hna,hb,N⟩:=hV.node hn;obtain⟨ra,rc,hrf,hrI⟩:=N.refs;obtain⟨b2,off2,rfl,hb2,hc2⟩:=hrI.2 hr;have hk:=hc2 0 hr;have hk:w.cell? ⟨b2,off2,none⟩=some (.int .i64 (ref0 (nd C.x.nodes n))):=hk;have hlen:=hrI.1;have c8:=hV.c8;have c7:=hV.c7;rw[hna]at c8;have hnl:=hV.nodes.1;have hul:=hV.ups.1;have HV:=hide hV;clear N hV hrI hc2;cases hq:inR (ref0 (nd C.x.nodes n)) 0 ((C.x.ups.length:Int)-1)
 ·have E:Hid (upS C s n=tellS C s 6 n):=if_neg (by simp[hq]);have HQ:=hide hq;clear hq;generalize ref0 (nd C.x.nodes n)=r at *;generalize (nd C.x.nodes n).refs.length=nr at *;generalize C.x.ups.length=nu at *;have HW:Hid (IntKind.i64.wrap ((nu:Int)-1)=(nu:Int)-1):=wrap_ok _ (by omega) (by omega);go_enter Tryz.func94,Tryz.ntmps94;go_wp2_with fail
  go_region_held3 (fun w'=>w'.cell? ⟨C.vb,8,none⟩=some (.slice (some ⟨b,off,none⟩) C.x.nodes.length C.R.nc)/\w'.cell? ⟨C.vb,7,none⟩=some (.slice C.R.ua nu C.R.uc)/\w'.cell? ⟨b,off+n * 8+6,none⟩=some (.slice (some ⟨b2,off2,none⟩) nr rc)/\w'.cell? ⟨b2,off2,none⟩=some (.int .i64 r)) (simp[go_sem, *]) (first | (go_at_call 26;refine(within_any _ _ _ _).mono ?_;rintro e w' ⟨rfl,rfl⟩;rw[unhide HW,unhide HQ]))
  go_wp2_with fail
  refine(tell_any C s 6 n _ (unhide HV).drew).mono ?_;rintro e w' ⟨rfl,hV',hb'⟩;go_wp2_with fail
  go_end0
  exact⟨rfl,by rw[E.out];exact hV',(ButS.of_below (Below.refl _ _).drew).trans hb'⟩
 ·have E:Hid (upS C s n=s):=if_pos hq;have HQ:=hide hq;clear hq;generalize ref0 (nd C.x.nodes n)=r at *;generalize (nd C.x.nodes n).refs.length=nr at *;generalize C.x.ups.length=nu at *;have HW:Hid (IntKind.i64.wrap ((nu:Int)-1)=(nu:Int)-1):=wrap_ok _ (by omega) (by omega);go_enter Tryz.func94,Tryz.ntmps94;go_wp2_with fail
  go_region_held3 (fun w'=>w'.cell? ⟨C.vb,8,none⟩=some (.slice (some ⟨b,off,none⟩) C.x.nodes.length C.R.nc)/\w'.cell? ⟨C.vb,7,none⟩=some (.slice C.R.ua nu C.R.uc)/\w'.cell? ⟨b,off+n * 8+6,none⟩=some (.slice (some ⟨b2,off2,none⟩) nr rc)/\w'.cell? ⟨b2,off2,none⟩=some (.int .i64 r)) (simp[go_sem, *]) (first | (go_at_call 26;refine(within_any _ _ _ _).mono ?_;rintro e w' ⟨rfl,rfl⟩;rw[unhide HW,unhide HQ]))
  go_wp2_with fail
  go_end0
  exact⟨rfl,by rw[E.out];exact(unhide HV).drew,ButS.of_below (Below.refl _ _).drew⟩
theorem below_drewN (B:Nat)(w:World):∀ n,Below B w (w.drewN n)
 | 0=>Below.refl _ _
 | n+1=>(below_drewN B w n).drew
theorem Vis.drewN {C:VC}{s:VS}{w:World}(h:Vis C s w)(n:Nat):Vis C s (w.drewN n):=h.keep (below_drewN _ _ n)
def upFits (C:VC)(s:VS)(u:Bool×Int):Bool:=if u.1 then inSc C s u.2 else inR u.2 0 ((C.x.ups.length:Int)-1)
def upsFits (C:VC)(s:VS)(us:List (Bool×Int)):Bool:=allFrom (fun i=>upFits C s (us[i]?.getD (false,0))) 0 us.length
theorem upsFit_any (C:VC)(s:VS)(a:Option Addr)(us:List (Bool×Int))(c:Nat)(w:World)(hV:Vis C s w)(hU:UpsAt w C.S a us) :
  Calls Tryz.prog 110 #[.pointer (some ⟨C.vb,0,none⟩),.slice a us.length c] w fun e w'=>e=.returned (.bool (upsFits C s us))/\Below w.heap.size w w':=by
 have hul:=hU.1;have hul2:=hV.ups.1;have HV:=hide hV;have HU:=hide hU;have HSS:Hid (∀ b,C.S b->b<w.heap.size):=fun b h=>(hV.sS b h).1;clear hV hU;have HW:Hid (IntKind.i64.wrap ((C.x.ups.length:Int)-1)=(C.x.ups.length:Int)-1):=wrap_ok _ (by omega) (by omega);go_enter Tryz.func110,Tryz.ntmps110;go_wp2_with fail
 go_loopg [9] us.length (fun g i wr=>∃(k:Nat),k+g=us.length/\i=.int .i64 k/\Below w.heap.size w wr/\Hid (∀ j,j<k->upFits C s (us[j]?.getD (false,0))=true))
 case atStart=>exact⟨0,by omega,rfl,Below.refl _ _,fun j h=>absurd h (Nat.not_lt_zero _)⟩
 case round=>
  obtain⟨k,hk,rfl,hb1,hall⟩:=hrel;by_cases hlt:k<us.length
  ·have hV1:=(unhide HV).keep hb1;obtain⟨b,off,rfl,hb,hcc⟩:=((unhide HU).keep hb1 (unhide HSS)).2 (by omega);obtain⟨u0,u1⟩:=hcc k hlt;clear hcc;have hbw:b<wr.heap.size:=Nat.lt_of_lt_of_le (unhide HSS b hb) hb1.size;have c7:=hV1.c7;have hvw:C.vb<wr.heap.size:=hV1.v.lt;have hvw1:C.vb<wr.heap.size+1:=by omega
   have HVN:Hid (∀ o n,Vis C s ((wr.alloc o).drewN n)):=fun o n=>(hV1.alloc o).drewN n;have HBA:Hid (∀ o n,Below w.heap.size w ((wr.alloc o).drewN n)):=fun o n=>(hb1.alloc hb1.size o).trans (below_drewN _ _ n);obtain⟨⟨loc,ix⟩,hu⟩:∃ u,us[k]?.getD (false,0)=u:=⟨_,rfl⟩;have hu1:(us[k]?.getD (false,0)).1=loc:=by rw[hu]
   have hu2:(us[k]?.getD (false,0)).2=ix:=by rw[hu]
   rw[hu1]at u0;rw[hu2]at u1;clear hV1 hu1 hu2;cases hq:upFits C s (loc,ix)
   ·have HF:Hid (upsFits C s us=false):=allFrom_false (Nat.zero_le _) hlt (by rw[hu];exact hq);clear hu hall;cases loc
    ·have HQ:Hid (∀ W:World,Calls Tryz.prog 26 #[.int .i64 ix,.int .i64 0,.int .i64 ((C.x.ups.length:Int)-1)] W fun e w'=>e=.returned (.bool false)/\w'=W):=fun W=>(within_any _ _ _ W).mono (by rintro e w' ⟨rfl,rfl⟩;exact⟨ret_bool hq,rfl⟩);clear hq;go_wp2_with fail
     go_quiet (first | (go_at_call 26;refine Calls.quiet_of_same (unhide HQ _)))
     go_wp2_with fail
     go_ret;exact⟨ret_bool HF.out.symm,unhide HBA _ _⟩
    ·have HQ:Hid (∀ o n,Calls Tryz.prog 109 #[.pointer (some ⟨C.vb,0,none⟩),.int .i64 ix] ((wr.alloc o).drewN n) fun e w'=>e=.returned (.bool false)/\w'=(wr.alloc o).drewN n):=fun o n=>(inScope_any C s ix _ (unhide HVN o n)).mono (by rintro e w' ⟨rfl,rfl⟩;exact⟨ret_bool hq,rfl⟩);clear hq;go_wp2_with fail
     go_quiet (first | (go_at_call 109;refine Calls.quiet_of_same (unhide HQ _ _)))
     go_wp2_with fail
     go_ret;exact⟨ret_bool HF.out.symm,unhide HBA _ _⟩
   ·have HT:Hid (∀ j,j<k+1->upFits C s (us[j]?.getD (false,0))=true):=fun j hj=>by
     by_cases e:j=k
     ·subst e;rw[hu];exact hq
     ·exact hall.out j (by omega)
    clear hu hall;cases loc
    ·have HQ:Hid (∀ W:World,Calls Tryz.prog 26 #[.int .i64 ix,.int .i64 0,.int .i64 ((C.x.ups.length:Int)-1)] W fun e w'=>e=.returned (.bool true)/\w'=W):=fun W=>(within_any _ _ _ W).mono (by rintro e w' ⟨rfl,rfl⟩;exact⟨ret_bool hq,rfl⟩);clear hq;go_wp2_with fail
     go_quiet (first | (go_at_call 26;refine Calls.quiet_of_same (unhide HQ _)))
     go_wp2_with fail
     go_roundg (us.length-(k+1))
     case measure=>omega
     case rel=>exact⟨k+1,by omega,by go_num,unhide HBA _ _,HT⟩
    ·have HQ:Hid (∀ o n,Calls Tryz.prog 109 #[.pointer (some ⟨C.vb,0,none⟩),.int .i64 ix] ((wr.alloc o).drewN n) fun e w'=>e=.returned (.bool true)/\w'=(wr.alloc o).drewN n):=fun o n=>(inScope_any C s ix _ (unhide HVN o n)).mono (by rintro e w' ⟨rfl,rfl⟩;exact⟨ret_bool hq,rfl⟩);clear hq;go_wp2_with fail
     go_quiet (first | (go_at_call 109;refine Calls.quiet_of_same (unhide HQ _ _)))
     go_wp2_with fail
     go_roundg (us.length-(k+1))
     case measure=>omega
     case rel=>exact⟨k+1,by omega,by go_num,unhide HBA _ _,HT⟩
  ·have HF:Hid (upsFits C s us=true):=allFrom_true (fun j _ h2=>hall.out j (by omega));go_wp2_with fail
   go_ret;exact⟨ret_bool HF.out.symm,hb1⟩
def siteV (f n:Nat):Value:=.agg #[.int .i64 f,.int .i64 n]
def closureS (C:VC)(s:VS)(n f' n':Nat):VS:=
 if inR (ref0 (nd C.x.nodes n)) 0 ((C.l.length:Int)-1)then
  if ref0 (nd C.x.nodes n)<=C.f\/¬(f'=C.f/\n'=n)\/upsFits C s (fnD C.l (ref0 (nd C.x.nodes n)).toNat).ups=false then tellS C s 8 n else s
 else tellS C s 6 n
theorem zero_site (w:World):(zeroValue 118).run Tryz.prog w=.ok (.agg #[.int .i64 0,.int .i64 0]) w:=by kernel_rfl
theorem closure_any (C:VC)(s:VS)(n f' n':Nat)(w:World)(hV:Vis C s w)(hn:n<C.x.nodes.length)(hr:0<(nd C.x.nodes n).refs.length)(hM:C.M (ref0 (nd C.x.nodes n))=some (siteV f' n')) :
  Calls Tryz.prog 95 #[.pointer (some ⟨C.vb,0,none⟩),.int .i64 n] w fun e w'=>e=.returned (.tuple #[])/\Vis C (closureS C s n f' n') w'/\ButS C.T w.heap.size w w':=by
 obtain⟨b,off,hna,hb,N⟩:=hV.node hn;obtain⟨ra,rc,hrf,hrI⟩:=N.refs;obtain⟨b2,off2,rfl,hb2,hc2⟩:=hrI.2 hr;have hk:=hc2 0 hr;have hk:w.cell? ⟨b2,off2,none⟩=some (.int .i64 (ref0 (nd C.x.nodes n))):=hk;have hlen:=hrI.1;have c0:=hV.c0;have c1:=hV.c1;have c8:=hV.c8;have c10:=hV.c10;rw[hna]at c8;have hnl:=hV.nodes.1;have hll:=hV.u.1;have HV:=hide hV;have hL:∀ q,(Instr.lookup 109 (.map (some C.mb)) (.int .i64 (ref0 (nd C.x.nodes n))) false).run Tryz.prog (w.drewN q)=.ok (.agg #[.int .i64 f',.int .i64 n']) (w.drewN q):=fun q=>by
  rw[(hV.drewN q).m.look Tryz.underlying109 Tryz.underlying3 (zero_site _) _ false,hM];rfl
 have hL0:(Instr.lookup 109 (.map (some C.mb)) (.int .i64 (ref0 (nd C.x.nodes n))) false).run Tryz.prog w.drew=.ok (.agg #[.int .i64 f',.int .i64 n']) w.drew:=hL 1;clear N hrI hc2 hM;have hcf:=hV.hf;cases hq:inR (ref0 (nd C.x.nodes n)) 0 ((C.l.length:Int)-1)
 ·have E:Hid (closureS C s n f' n'=tellS C s 6 n):=if_neg (by simp[hq]);have HQ:=hide hq;clear hq hL hL0 hV;generalize ref0 (nd C.x.nodes n)=g at *;generalize (nd C.x.nodes n).refs.length=nr at *;go_enter Tryz.func95,Tryz.ntmps95;go_wp2_with fail
  refine(within_any _ _ _ _).mono ?_;rintro e w' ⟨rfl,rfl⟩;rw[unhide HQ];go_wp2_with fail
  refine(tell_any C s 6 n _ (unhide HV)).mono ?_;rintro e w' ⟨rfl,hV',hb'⟩;go_wp2_with fail
  refine bodyPost_ret (results_none rfl _ _ _) rfl ?_;exact⟨rfl,by rw[E.out];exact hV',hb'⟩
 ·have HQ:=hide hq;have hr0:0<=ref0 (nd C.x.nodes n)/\ref0 (nd C.x.nodes n)<=(C.l.length:Int)-1:=by
   unfold inR at hq;rw[Bool.and_eq_true]at hq;exact⟨of_decide_eq_true hq.1,of_decide_eq_true hq.2⟩
  obtain⟨g,hg⟩:=Int.eq_ofNat_of_zero_le hr0.1;have hgl:g<C.l.length:=by omega
  by_cases q1:(g:Int)<=C.f
  ·have E:Hid (closureS C s n f' n'=tellS C s 8 n):=by show _=_;rw[closureS,if_pos hq,if_pos (.inl (by rw[hg];exact q1))]
   rw[hg]at hk hL hL0 HQ;have d1:decide ((g:Int)<=C.f)=true:=decide_eq_true q1;clear hq hr0 hV hg;generalize (nd C.x.nodes n).refs.length=nr at *;go_enter Tryz.func95,Tryz.ntmps95;go_wp2_with fail
   refine(within_any _ _ _ _).mono ?_;rintro e w' ⟨rfl,rfl⟩;rw[unhide HQ];go_wp2_with fail
   go_quiet (fail)
   go_wp2_with fail
   refine(tell_any C s 8 n _ ((unhide HV).drewN _)).mono ?_;rintro e w' ⟨rfl,hV',hb'⟩;go_wp2_with fail
   go_end0
   exact⟨rfl,by rw[E.out];exact hV',(ButS.of_below (below_drewN _ _ _)).trans hb'⟩
  ·have d1:decide (g<=C.f)=false:=decide_eq_false (by omega);by_cases q2:f'=C.f/\n'=n
   ·obtain⟨rfl,rfl⟩:=q2;obtain⟨bu,offu,hca,hbu,hcc⟩:=hV.u.2 (by omega);have hbus:bu<w.heap.size:=(hV.sS bu hbu).1;have hvs:C.vb<w.heap.size:=hV.v.lt;have F:FnCells w C.S bu (offu+g * 7) (fnD C.l g):=hcc g hgl;obtain⟨ua,uc,hu5,huI⟩:=F.ups;have HUI:=hide huI;rw[hca]at c0;have hul:=huI.1;have E:Hid (closureS C s n' C.f n'=if upsFits C s (fnD C.l g).ups=false then tellS C s 8 n' else s):=by
     show _=_;rw[closureS,if_pos hq,hg];by_cases e:upsFits C s (fnD C.l g).ups=false
     ·rw[if_pos (.inr (.inr e)),if_pos e]
     ·rw[if_neg,if_neg e];rintro(h | h | h)
      ·exact q1 h
      ·exact h ⟨rfl,rfl⟩
      ·exact e h
    rw[hg]at hk hL hL0 HQ;clear hq hr0 hV hg hcc F huI;generalize (nd C.x.nodes n').refs.length=nr at *;generalize hgu:(fnD C.l g).ups=us at *;clear hgu;have UF:Hid (Calls Tryz.prog 110 #[.pointer (some ⟨C.vb,0,none⟩),.slice ua us.length uc] w.drew fun e w'=>e=.returned (.bool (upsFits C s us))/\Below w.heap.size w w'/\w'.cell? ⟨C.vb,0,none⟩=some (.slice (some ⟨bu,offu,none⟩) C.l.length C.c)/\w'.cell? ⟨C.vb,1,none⟩=some (.int .i64 C.f)/\w'.cell? ⟨C.vb,10,none⟩=some (.map (some C.mb))/\w'.cell? ⟨bu,offu+g * 7+5,none⟩=some (.slice ua us.length uc)):=(upsFit_any C s ua us uc w.drew (unhide HV).drew (unhide HUI)).mono (by
     rintro e w7 ⟨rfl,hb7⟩;have hb7:Below w.heap.size w w7:=(Below.refl _ _).drew.trans hb7;exact⟨rfl,hb7,(hb7.cell (p:=⟨C.vb,0,none⟩) hvs).trans c0,(hb7.cell (p:=⟨C.vb,1,none⟩) hvs).trans c1,(hb7.cell (p:=⟨C.vb,10,none⟩) hvs).trans c10,(hb7.cell (p:=⟨bu,offu+g * 7+5,none⟩) hbus).trans hu5⟩)
    cases hq3:upsFits C s us
    ·rw[hq3]at UF E;have E:Hid (closureS C s n' C.f n'=tellS C s 8 n'):=E;clear hq3;go_enter Tryz.func95,Tryz.ntmps95;go_wp2_with fail
     refine(within_any _ _ _ _).mono ?_;rintro e w' ⟨rfl,rfl⟩;rw[unhide HQ];go_wp2_with fail
     go_region_held3 (fun w'=>w'.cell? ⟨C.vb,0,none⟩=some (.slice (some ⟨bu,offu,none⟩) C.l.length C.c)/\w'.cell? ⟨C.vb,1,none⟩=some (.int .i64 C.f)/\w'.cell? ⟨C.vb,10,none⟩=some (.map (some C.mb))/\w'.cell? ⟨bu,offu+g * 7+5,none⟩=some (.slice ua us.length uc)) (simp[go_sem, *])
      (first | (go_at_call 110;refine(unhide UF).mono ?_;rintro e w7 ⟨rfl,hb7,k1,k2,k3,k4⟩))
     go_wp2_with fail
     refine(tell_any C s 8 n' _ ((unhide HV).keep hb7)).mono ?_;rintro e w' ⟨rfl,hV',hb'⟩;go_wp2_with fail
     go_end0
     exact⟨rfl,by rw[E.out];exact hV',(ButS.of_below hb7).next hb'⟩
    ·rw[hq3]at UF E;have E:Hid (closureS C s n' C.f n'=s):=E;clear hq3;go_enter Tryz.func95,Tryz.ntmps95;go_wp2_with fail
     refine(within_any _ _ _ _).mono ?_;rintro e w' ⟨rfl,rfl⟩;rw[unhide HQ];go_wp2_with fail
     go_region_held3 (fun w'=>w'.cell? ⟨C.vb,0,none⟩=some (.slice (some ⟨bu,offu,none⟩) C.l.length C.c)/\w'.cell? ⟨C.vb,1,none⟩=some (.int .i64 C.f)/\w'.cell? ⟨C.vb,10,none⟩=some (.map (some C.mb))/\w'.cell? ⟨bu,offu+g * 7+5,none⟩=some (.slice ua us.length uc)) (simp[go_sem, *])
      (first | (go_at_call 110;refine(unhide UF).mono ?_;rintro e w7 ⟨rfl,hb7,k1,k2,k3,k4⟩))
     go_wp2_with fail
     go_end0
     exact⟨rfl,by rw[E.out];exact(unhide HV).keep hb7,ButS.of_below hb7⟩
   ·have E:Hid (closureS C s n f' n'=tellS C s 8 n):=by show _=_;rw[closureS,if_pos hq,if_pos (.inr (.inl q2))]
    rw[hg]at hk hL hL0 HQ;clear hq hr0 hV hg;generalize (nd C.x.nodes n).refs.length=nr at *;by_cases q3:f'=C.f
    ·have q4:¬n'=n:=fun e=>q2 ⟨q3,e⟩;subst q3;have e1:((n':Int)==(n:Int))=false:=beq_eq_false_iff_ne.2 (by omega);have e2:(n'==n)=false:=beq_eq_false_iff_ne.2 q4;have e3:decide (n'=n)=false:=decide_eq_false q4;clear q2;go_enter Tryz.func95,Tryz.ntmps95;go_wp2_with fail
     refine(within_any _ _ _ _).mono ?_;rintro e w' ⟨rfl,rfl⟩;rw[unhide HQ];go_wp2_with fail
     go_quiet (fail)
     go_wp2_with fail
     refine(tell_any C s 8 n _ ((unhide HV).drewN _)).mono ?_;rintro e w' ⟨rfl,hV',hb'⟩;go_wp2_with fail
     go_end0
     exact⟨rfl,by rw[E.out];exact hV',(ButS.of_below (below_drewN _ _ _)).trans hb'⟩
    ·have e1:((f':Int)==(C.f:Int))=false:=beq_eq_false_iff_ne.2 (by omega);have e2:(f'==C.f)=false:=beq_eq_false_iff_ne.2 q3;have e3:decide (f'=C.f)=false:=decide_eq_false q3;clear q2;go_enter Tryz.func95,Tryz.ntmps95;go_wp2_with fail
     refine(within_any _ _ _ _).mono ?_;rintro e w' ⟨rfl,rfl⟩;rw[unhide HQ];go_wp2_with fail
     go_quiet (fail)
     go_wp2_with fail
     refine(tell_any C s 8 n _ ((unhide HV).drewN _)).mono ?_;rintro e w' ⟨rfl,hV',hb'⟩;go_wp2_with fail
     go_end0
     exact⟨rfl,by rw[E.out];exact hV',(ButS.of_below (below_drewN _ _ _)).trans hb'⟩
end Go.Proofs.YtofcbekoaghikaaGreatDoor
