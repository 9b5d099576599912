import Derived.Test.YtofcbekoaghikaaGreatDoorPart14
import Derived.Test.YtofcbekoaghikaaGreatDoorPart32
import Derived.Deep.OwnRows
import Derived.Deep.RegionWith
import Derived.BigQuiet
import Derived.WalkSmall
import Derived.Deep.LoopGhost
import Derived.BigRegion
set_option linter.unusedSimpArgs false
set_option linter.unusedVariables false
set_option maxHeartbeats 4000000
set_option maxRecDepth 100000
namespace Go.Proofs.YtofcbekoaghikaaGreatDoor
def upD (us:List (Bool×Int))(j:Nat):Bool×Int:=us[j]?.getD (false,0)
def capUps (us:List (Bool×Int)):Nat->Nat->Bool
 | 0,_=>false
 | q+1,i=>capUps us q i||((upD us q).1&&decide ((upD us q).2=(i:Int)))
def madeBy (l:List FnD)(f p:Nat):Nat:=(ref0 (nd (fnD l f).nodes p)).toNat
def capTo (l:List FnD)(f:Nat):Nat->Nat->Bool
 | 0,_=>false
 | p+1,i=>capTo l f p i||((nd (fnD l f).nodes p).kind==36&&capUps (fnD l (madeBy l f p)).ups (fnD l (madeBy l f p)).ups.length i)
def captured (l:List FnD)(f i:Nat):Bool:=capTo l f (fnD l f).nodes.length i
structure MadeOk (l:List FnD)(f p:Nat):Prop where
 one:(nd (fnD l f).nodes p).refs.length=1
 low:0<=ref0 (nd (fnD l f).nodes p)
 high:ref0 (nd (fnD l f).nodes p)<l.length
 ups:∀ q,q<(fnD l (madeBy l f p)).ups.length->(upD (fnD l (madeBy l f p)).ups q).1=true->0<=(upD (fnD l (madeBy l f p)).ups q).2/\(upD (fnD l (madeBy l f p)).ups q).2<(fnD l f).vars.length
theorem unitFault_zero {l:List FnD}{f n:Int}(h:UnitFault l 0 f n):Shaped l/\f=0/\n=0/\NoBad l (refsBad l)/\NoBad l (fnBad l):=by
 rcases h with⟨_,h⟩ | ⟨_,_,h⟩ | ⟨h1,_,h3⟩
 ·exact absurd rfl h
 ·exact absurd rfl h
 ·obtain⟨hs,_,_⟩:=fault13_shaped h1;rcases h3 with⟨h,_⟩ | ⟨_,h,_⟩ | ⟨_,_,h,_⟩ | ⟨_,_,_,h,_⟩ | ⟨a1,a2,a3,_,a4,a5,_⟩
  ·cases h
  ·cases h
  ·cases h
  ·cases h
  ·exact⟨hs,a4,a5,a1,a3⟩
theorem made_ok {l:List FnD}{x y:Int}(h:UnitFault l 0 x y){f p:Nat}(hf:f<l.length)(hp:p<(fnD l f).nodes.length)(hk:(nd (fnD l f).nodes p).kind=36):MadeOk l f p:=by
 obtain⟨hs,_,_,hr,hn⟩:=unitFault_zero h;have h2:=hr f p hf hp;have h3:=hn f p hf hp;unfold refsBad sRefs at h2;simp only[hk]at h2;rw[if_neg (by decide),if_pos trivial]at h2;simp only[Bool.not_eq_false',Bool.and_eq_true,decide_eq_true_eq]at h2;unfold fnBad at h3;rw[hk]at h3;simp only[Bool.or_eq_false_iff,beq_self_eq_true,Bool.true_and,decide_eq_false_iff_not,Bool.not_eq_false']at h3;refine⟨hs.ref1 hf hp (.inr (.inr hk)),h2.1,h2.2,fun q hq hu=>?_⟩;have h4:=allFrom_get h3.2.2 q (Nat.zero_le _) hq;unfold upOk at h4;have hu':((fnD l (madeBy l f p)).ups[q]?.getD (false,0)).1=true:=hu;have h5:(if((fnD l (madeBy l f p)).ups[q]?.getD (false,0)).1=true then _ else _)=true:=h4;rw[if_pos hu']at h5;simp only[Bool.and_eq_true,decide_eq_true_eq]at h5;exact⟨h5.1.1,h5.1.2⟩
theorem unitFault_00 {l:List FnD}{f n:Int}(h:UnitFault l 0 f n):f=0/\n=0:=⟨(unitFault_zero h).2.1,(unitFault_zero h).2.2.1⟩
structure Ready (l:List FnD)(f:Nat):Prop where
 len:l.length<=1000000
 vars:(fnD l f).vars.length<=200
 nodes:(fnD l f).nodes.length<=1000000
 ups:∀ g,g<l.length->(fnD l g).ups.length<=200
 ok:∀ p,p<(fnD l f).nodes.length->(nd (fnD l f).nodes p).kind=36->MadeOk l f p
theorem ready_of {l:List FnD}{x y:Int}(h:UnitFault l 0 x y){f:Nat}(hf:f<l.length):Ready l f:=by
 obtain⟨hs,_⟩:=unitFault_zero h;refine⟨?_,(hs.head hf).1,?_,fun g hg=>(hs.head hg).2.1,fun p hp hk=>made_ok h hf hp hk⟩
 ·have:=hs.fns.2;omega
 ·have:=hs.len hf;omega
end Go.Proofs.YtofcbekoaghikaaGreatDoor
namespace Go.Proofs.YtofcbekoaghikaaGreatDoor
open Go.RowKit
attribute [local go_sem] run_store_float
structure CapW (w:World)(a:Option Addr)(nl c nv:Nat)(g:Nat->Bool)(wr:World):Prop where
 old:Below w.heap.size w wr
 u0:wr.cell? ⟨w.heap.size,0,none⟩=some (.slice a nl c)
 row:wr.rowIs (w.heap.size+1) 4 nv (fun j=>.bool (g j))
section
variable {w wr:World} {a:Option Addr} {nl c nv:Nat} {g g':Nat->Bool}
theorem CapW.size (h:CapW w a nl c nv g wr):w.heap.size+2<=wr.heap.size:=h.row.lt
theorem CapW.alloc (h:CapW w a nl c nv g wr)(o:Obj):CapW w a nl c nv g (wr.alloc o):=
 ⟨h.old.alloc h.old.size _,by rw[Below.cell (B:=wr.heap.size) ((Below.refl _ _).alloc (Nat.le_refl _) _) (p:=⟨w.heap.size,0,none⟩) (by have:=h.size;show w.heap.size<wr.heap.size;omega)];exact h.u0,h.row.alloc _⟩
theorem CapW.drew (h:CapW w a nl c nv g wr):CapW w a nl c nv g wr.drew:=⟨h.old.drew,h.u0,h.row.drew⟩
theorem CapW.congr (h:CapW w a nl c nv g wr)(e:∀ i,i<nv->g i=g' i):CapW w a nl c nv g' wr:=⟨h.old,h.u0,h.row.congr (fun i hi=>by rw[e i hi])⟩
theorem CapW.set (h:CapW w a nl c nv g wr)(i:Nat)(b:Bool):CapW w a nl c nv (fun j=>if j=i then b else g j) (wr.setCell ⟨w.heap.size+1,i,none⟩ (.bool b)):=
 ⟨h.old.setCell (by show w.heap.size<=w.heap.size+1;omega) _,by rw[World.cell?_setCell_other (h:=by intro e;injection e;omega)];exact h.u0,(h.row.set i _).congr (fun j hj=>by split<;>rfl)⟩
end
theorem l8captured_any (a:Option Addr)(l:List FnD)(c f:Nat)(S:Nat->Prop)(w:World)(hs:FnsAt w S a l)(hB:∀ b,S b->b<w.heap.size)(hf:f<l.length)(hl:l.length<=1000000)
  (hv:(fnD l f).vars.length<=200)(hnl:(fnD l f).nodes.length<=1000000)(hul:∀ g,g<l.length->(fnD l g).ups.length<=200)(hok:∀ p,p<(fnD l f).nodes.length->(nd (fnD l f).nodes p).kind=36->MadeOk l f p) :
  Calls Tryz.prog 15 #[.agg #[.slice a l.length c],.int .i64 f] w fun e w'=>∃ b,e=.returned (.slice (some ⟨b,0,none⟩) (fnD l f).vars.length (fnD l f).vars.length) /\
   w'.rowIs b 4 (fnD l f).vars.length (fun j=>.bool (captured l f j))/\w.heap.size<=b/\Below w.heap.size w w':=by
 obtain⟨b,off,rfl,hb,hcc⟩:=hs.2 (by omega);have hbs:b<w.heap.size:=hB b hb;have NF:FnCells w S b (off+f * 7) (fnD l f):=hcc f hf;obtain⟨va,vc,hva,hvI⟩:=NF.vars;obtain⟨na,nc,hna,hnI⟩:=NF.nodes;have HN:=hide hnI;have HB:=hide hB;have HS:=hide hs;have HOK:Hid (∀ p,p<(fnD l f).nodes.length->(nd (fnD l f).nodes p).kind=36->(nd (fnD l f).nodes p).refs.length=1/\((madeBy l f p:Nat):Int)=(nd (fnD l f).nodes p).refs[0]?.getD 0/\madeBy l f p<l.length /\
   ∀ q,q<(fnD l (madeBy l f p)).ups.length->(upD (fnD l (madeBy l f p)).ups q).1=true->0<=(upD (fnD l (madeBy l f p)).ups q).2/\(upD (fnD l (madeBy l f p)).ups q).2<(fnD l f).vars.length):=fun p hp hk=>by
  obtain⟨h1,h2,h3,h4⟩:=hok p hp hk;have e:((madeBy l f p:Nat):Int)=ref0 (nd (fnD l f).nodes p):=by unfold madeBy;omega
  exact⟨h1,e,by omega,h4⟩
 have HUL:=hide hul;have hfI:(f:Int)<l.length:=by omega
 have hfI0:(0:Int)<=(f:Int):=by omega
 have HT:Hid (∀ p i,capTo l f (p+1) i=(capTo l f p i||((nd (fnD l f).nodes p).kind==36&&capUps (fnD l (madeBy l f p)).ups (fnD l (madeBy l f p)).ups.length i))):=fun p i=>rfl;have HC:Hid (∀ i,captured l f i=capTo l f (fnD l f).nodes.length i):=fun i=>rfl;clear hs hB hok hul hcc NF hvI hnI;generalize hnv:(fnD l f).vars.length=nv at *;generalize hns:(fnD l f).nodes=ns at *;clear hns hnv;have hmk:=run_make_row' (P:=Tryz.prog) 26 4 (.bool false) 1 Tryz.underlying26 info_bool rfl .i64 .i64 nv (by omega) (by omega);go_enter Tryz.func15,Tryz.ntmps15;go_wp2_with fail
 clear hmk;go_loopg [25] ns.length (fun gg i wr=>∃(k:Nat),k+gg=ns.length/\i=.int .i64 k/\CapW w (some ⟨b,off,none⟩) l.length c nv (capTo l f k) wr)
 case atStart=>
  refine⟨0,by omega,rfl,⟨((Below.refl _ _).alloc (Nat.le_refl _) _).alloc (by simp) _,by simp[go_sem],?_⟩⟩;have:=World.rowIs_made (w.alloc (.cells #[.slice (some ⟨b,off,none⟩) l.length c] 30)) (.bool false) nv 4;simpa[capTo]using this
 case round=>
  obtain⟨k,hkg,rfl,hx⟩:=hrel;clear hva hna;have u0:=hx.u0;have z:=hx.size;have z1:w.heap.size<wr.heap.size:=by omega
  have z2:b<wr.heap.size:=by omega
  by_cases hlt:k<ns.length
  ·obtain⟨nb,noff,rfl,hnb,hnc⟩:=((unhide HN).keep hx.old (unhide HB)).2 (by omega);have N:NodeCells wr S nb (noff+k * 8) (nd ns k):=hnc k hlt;have HOKk:=hide (unhide HOK k hlt);have HTk:=hide (unhide HT k);have hnbs:nb<wr.heap.size:=Nat.lt_of_lt_of_le (unhide HB nb hnb) hx.old.size;clear hnc;generalize madeBy l f k=g at *;generalize nd ns k=x at *;obtain⟨ra,rc,hr,hrI⟩:=N.refs;obtain⟨ka,kc,hk,hkI⟩:=N.kids;have c0:=N.kind;have c1:=N.line;have c2:=N.op;have c3:=N.num;have c4:=N.flt;have c5:=N.str;clear N hkI;have CW:=hide hx;have nw:wr.cell? ⟨w.heap.size,0,none⟩=some (.slice (some ⟨b,off,none⟩) l.length c):=u0;by_cases hk36:x.kind=36
   ·obtain⟨h1,h2,h3,h4⟩:=unhide HOKk hk36;obtain⟨rb,roff,rfl,hrb,hrc⟩:=hrI.2 (by omega);have hr0:wr.cell? ⟨rb,roff,none⟩=some (.int .i64 (g:Int)):=by rw[h2];exact hrc 0 (by omega)
    have hrbs:rb<wr.heap.size:=Nat.lt_of_lt_of_le (unhide HB rb hrb) hx.old.size;have hul:=unhide HUL g h3;obtain⟨b',off',e',hb',hcc⟩:=(unhide HS).2 (by omega);cases e';have NG:FnCells w S b (off+g * 7) (fnD l g):=hcc g h3;obtain⟨ua,uc,hua0,huI⟩:=NG.ups;have hua:=(hx.old.cell (p:=⟨b,off+g * 7+5,none⟩) hbs).trans hua0;clear hua0;have HT2:Hid (∀ i,capTo l f (k+1) i=(capTo l f k i||capUps (fnD l g).ups (fnD l g).ups.length i)):=fun i=>by rw[unhide HTk i,hk36];simp
    have HU:=hide huI;have H4:=hide h4;have hgI:(g:Int)<l.length:=by omega
    have hgI0:(0:Int)<=g:=by omega
    have hne:(x.kind != 36)=false:=by rw[hk36];rfl
    have HUS:Hid (∀(q i:Nat),capUps (fnD l g).ups (q+1) i=(capUps (fnD l g).ups q i||((upD (fnD l g).ups q).1&&decide ((upD (fnD l g).ups q).2=(i:Int))))):=fun q i=>rfl;have HU0:Hid (∀ i,capUps (fnD l g).ups 0 i=false):=fun i=>rfl;clear hrc hcc NG huI h4 h2 HOKk HTk hrI HT;generalize (fnD l g).ups=us at *;go_wp2_with fail
    go_region
    all_goals (go_wp2_with fail)
    go_loopg [42] us.length (fun gg i wr=>∃(q:Nat),q+gg=us.length/\i=.int .i64 q/\CapW w (some ⟨b,off,none⟩) l.length c nv (fun i=>capTo l f k i||capUps us q i) wr)
    case atStart=>exact⟨0,by omega,rfl,((unhide CW).alloc _).drew.congr (fun i _=>by rw[unhide HU0 i,Bool.or_false])⟩
    case round=>
     obtain⟨q,hqg,rfl,hy⟩:=hrel;have hfz:=hy.row.frozen;have sz:=hy.size;have z3:w.heap.size+1<wr.heap.size:=by omega
     by_cases hlq:q<us.length
     ·obtain⟨ub,uoff,rfl,hub,huc⟩:=((unhide HU).keep hy.old (unhide HB)).2 (by omega);obtain⟨e0,e1⟩:=huc q hlq;have H4q:=hide (unhide H4 q hlq);have HUq:=hide (unhide HUS q);have hubs:ub<wr.heap.size:=Nat.lt_of_lt_of_le (unhide HB ub hub) hy.old.size;change wr.cell? ⟨ub,uoff+q * 2,none⟩=some (.bool (upD us q).1)at e0;change wr.cell? ⟨ub,uoff+q * 2+1,none⟩=some (.int .i64 (upD us q).2)at e1;clear huc;generalize upD us q=u at *;obtain⟨loc,ix⟩:=u;dsimp only at *;have CY:=hide hy;cases loc
      ·have HE:Hid (∀ i,(capTo l f k i||capUps us q i)=(capTo l f k i||capUps us (q+1) i)):=fun i=>by rw[unhide HUq i];simp
       go_wp2_with fail
       go_roundg (us.length-(q+1))
       case rel=>exact⟨q+1,by omega,by go_num,((unhide CY).alloc _).congr (fun i _=>unhide HE i)⟩
       case measure=>omega
      ·obtain⟨i0,i1⟩:=unhide H4q rfl;obtain⟨ixn,rfl⟩:∃ ixn:Nat,ix=ixn:=⟨ix.toNat,by omega⟩;have hixn:ixn<nv:=by omega
       have hg:=hy.row.cell hixn;have hfi:=hfz ixn;have HE:Hid (∀ i,(if i=ixn then true else(capTo l f k i||capUps us q i))=(capTo l f k i||capUps us (q+1) i)):=fun i=>by
        rw[unhide HUq i];by_cases e:i=ixn
        ·subst e;simp
        ·have e':¬((ixn:Int)=(i:Int)):=by omega
         simp[e,e']
       clear hfz;go_wp2_with fail
       go_roundg (us.length-(q+1))
       case rel=>exact⟨q+1,by omega,by go_num,(((unhide CY).set ixn true).alloc _).congr (fun i _=>unhide HE i)⟩
       case measure=>omega
     ·have HK:Hid (q=us.length):=by show _=_;omega
      go_wp2_with fail
      go_roundg (ns.length-(k+1))
      case rel=>exact⟨k+1,by omega,by go_num,hy.congr (fun i _=>by rw[HK.out,unhide HT2 i])⟩
      case measure=>omega
   ·have hne:(x.kind != 36)=true:=by simpa using hk36
    have HT2:Hid (∀ i,capTo l f k i=capTo l f (k+1) i):=fun i=>by
     rw[unhide HTk i];have e:(x.kind==36)=false:=by simpa using hk36
     rw[e,Bool.false_and,Bool.or_false]
    go_wp2_with fail
    go_roundg (ns.length-(k+1))
    case rel=>exact⟨k+1,by omega,by go_num,((unhide CW).alloc _).congr (fun i _=>unhide HT2 i)⟩
    case measure=>omega
  ·have HK:Hid (k=ns.length):=by show _=_;omega
   go_wp2_with fail
   go_ret;refine⟨_,rfl,?_,by omega,hx.old⟩;have e:=HK.out;subst e;exact hx.row.congr (fun i hi=>by rw[unhide HC i])
end Go.Proofs.YtofcbekoaghikaaGreatDoor
