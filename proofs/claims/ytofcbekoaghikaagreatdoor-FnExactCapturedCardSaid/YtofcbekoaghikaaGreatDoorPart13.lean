import Derived.Test.YtofcbekoaghikaaGreatDoorPart12
import Derived.Deep.RegionHeld3
set_option linter.unusedSimpArgs false
set_option linter.unusedVariables false
set_option maxHeartbeats 8000000
set_option maxRecDepth 100000
namespace Go.Proofs.YtofcbekoaghikaaGreatDoor
open Go.RowKit
attribute [local go_sem] run_store_float
theorem l3visible_from {nm:ByteArray}{ln pr:Int}{rs:Bool}{n4 n5:Nat}{a4 a5 a6:Option Addr}{c4 c5 c6:Nat}{ns:List NodeD}{bp:Nat}{dv:Option Addr}{p:Nat}{v:Int}{S:Nat->Prop}(w W:World)
  (hs:NodesAt w S a6 ns)(hB:∀ b,S b->b<w.heap.size)(hrp:w.rowIs bp 3 ns.length (fun j=>.int .i64 (sPar ns j)))(hk:∀ p,p<ns.length->kidsIn ns p=true)(hl:ns.length<=3000)(hp:p<ns.length)(hW:Below w.heap.size w W) :
  Calls Tryz.prog 63 #[.agg #[.string nm,.int .i64 ln,.int .i64 pr,.bool rs,.slice a4 n4 c4,.slice a5 n5 c5,.slice a6 ns.length c6],.agg #[.slice (some ⟨bp,0,none⟩) ns.length ns.length,.slice dv ns.length ns.length],.int .i64 p,.int .i64 v] W fun e w'=>
   e=.returned (.bool (sVisible pr ns p v))/\Below W.heap.size W w':=
 l3visible_any nm ln pr rs n4 n5 a4 a5 a6 c4 c5 c6 ns bp dv p v S W (hs.keep hW hB) (fun b h=>Nat.lt_of_lt_of_le (hB b h) hW.size) (hrp.of_block (hW.block bp hrp.lt)) hk hl hp
def upOk (x:FnD)(p:Nat)(u:Bool×Int):Bool:=
 if u.1 then decide (0<=u.2)&&decide (u.2<x.vars.length)&&sVisible x.params x.nodes p u.2 else decide (0<=u.2)&&decide (u.2<x.ups.length)
def sUps (x:FnD)(p:Nat)(us:List (Bool×Int)):Bool:=allFrom (fun i=>upOk x p (us[i]?.getD (false,0))) 0 us.length
theorem l3ups_any (a:Option Addr)(l:List FnD)(c f g p:Nat)(bp:Nat)(dv:Option Addr)(S:Nat->Prop)(w:World)(hs:FnsAt w S a l)(hB:∀ b,S b->b<w.heap.size)(hf:f<l.length)(hg:g<l.length)
  (hrp:w.rowIs bp 3 (fnD l f).nodes.length (fun j=>.int .i64 (sPar (fnD l f).nodes j)))(hk:∀ p,p<(fnD l f).nodes.length->kidsIn (fnD l f).nodes p=true)(hl:(fnD l f).nodes.length<=3000)(hp:p<(fnD l f).nodes.length) :
  Calls Tryz.prog 43 #[.agg #[.slice a l.length c],.int .i64 f,.agg #[.slice (some ⟨bp,0,none⟩) (fnD l f).nodes.length (fnD l f).nodes.length,.slice dv (fnD l f).nodes.length (fnD l f).nodes.length],.int .i64 p,.int .i64 g] w fun e w'=>
   e=.returned (.bool (sUps (fnD l f) p (fnD l g).ups))/\Below w.heap.size w w':=by
 have X0:=hide (FT.start w (.cells #[.slice a l.length c] 30) (.cells #[.slice (some ⟨bp,0,none⟩) (fnD l f).nodes.length (fnD l f).nodes.length,.slice dv (fnD l f).nodes.length (fnD l f).nodes.length] 79));have hn:=hs.1;obtain⟨b,off,rfl,hb,hcc⟩:=hs.2 (by omega);have hbs:b<w.heap.size:=hB b hb;have NF:FnCells w S b (off+f * 7) (fnD l f):=hcc f hf;have NG:FnCells w S b (off+g * 7) (fnD l g):=hcc g hg;obtain⟨ga,gc,hgu,hgI⟩:=NG.ups;obtain⟨va,vc,hva,hvI⟩:=NF.vars;obtain⟨ua,uc,hua,huI⟩:=NF.ups;obtain⟨na,nc,hna,hnI⟩:=NF.nodes;have c0:=NF.name;have c1:=NF.line;have c2:=NF.params;have c3:=NF.rest;have hgl:=hgI.1;have hvl:=hvI.1;have hul:=huI.1;have CELLS:=hide (And.intro hva (And.intro hua (And.intro hna (And.intro c0 (And.intro c1 (And.intro c2 c3))))));have HG:=hide hgI;have HN:=hide hnI;have HB:=hide hB;have HK:=hide hk;have HR:=hide hrp;have HSU:Hid (sUps (fnD l f) p (fnD l g).ups=allFrom (fun i=>upOk (fnD l f) p ((fnD l g).ups[i]?.getD (false,0))) 0 (fnD l g).ups.length):=rfl;have HUO:Hid (∀ u:Bool×Int,upOk (fnD l f) p u=if u.1 then decide (0<=u.2)&&decide (u.2<(fnD l f).vars.length)&&sVisible (fnD l f).params (fnD l f).nodes p u.2 else decide (0<=u.2)&&decide (u.2<(fnD l f).ups.length)):=fun u=>rfl;clear hs hB hk hrp hcc NF NG hgI hvI huI hnI c0 c1 c2 c3 hva hua hna;generalize sUps (fnD l f) p (fnD l g).ups=RES at *;generalize hup:upOk (fnD l f) p=UO at *;generalize (fnD l g).ups=us at *;generalize fnD l f=x at *;obtain⟨name,line,params,rest,vars,ups,nodes⟩:=x;dsimp only at *;clear hup;go_enter Tryz.func43,Tryz.ntmps43;go_wp2_with fail
 go_loopg [20] us.length (fun gg i wr=>∃(k:Nat),k+gg=us.length/\i=.int .i64 k/\FT w (.cells #[.slice (some ⟨b,off,none⟩) l.length c] 30) (.cells #[.slice (some ⟨bp,0,none⟩) nodes.length nodes.length,.slice dv nodes.length nodes.length] 79) wr/\Hid (∀ j,0<=j->j<k->UO (us[j]?.getD (false,0))=true))
 case atStart=>exact⟨0,by omega,rfl,unhide X0,fun j _ h=>absurd h (Nat.not_lt_zero _)⟩
 case round=>
  clear X0 hgu;obtain⟨k,hkg,rfl,hx,hall⟩:=hrel;have u0:wr.cell? ⟨w.heap.size,0,none⟩=some (.slice (some ⟨b,off,none⟩) l.length c):=by rw[hx.cell0];simp[go_sem]
  have t0:wr.cell? ⟨w.heap.size+1,0,none⟩=some (.slice (some ⟨bp,0,none⟩) nodes.length nodes.length):=by rw[hx.cell1];simp[go_sem]
  have t1:wr.cell? ⟨w.heap.size+1,1,none⟩=some (.slice dv nodes.length nodes.length):=by rw[hx.cell1];simp[go_sem]
  have hsz:=hx.size;have z1:w.heap.size<wr.heap.size:=by omega
  have z2:w.heap.size+1<wr.heap.size:=by omega
  have z4:b<wr.heap.size:=by omega
  have hfI:(f:Int)<l.length:=by omega
  have hfI0:(0:Int)<=(f:Int):=by omega
  by_cases hlt:k<us.length
  ·obtain⟨b2,off2,rfl,hb2,hc2⟩:=((unhide HG).keep hx.old (unhide HB)).2 (by omega);obtain⟨e0,e1⟩:=hc2 k hlt;have HUk:=hide (unhide HUO (us[k]?.getD (false,0)));obtain⟨hva,hua,hna,c0,c1,c2,c3⟩:=unhide CELLS;have old:∀ o,wr.cell? ⟨b,o,none⟩=w.cell? ⟨b,o,none⟩:=fun o=>hx.old.cell (p:=⟨b,o,none⟩) hbs;have hva':=(old _).trans hva;have hua':=(old _).trans hua;have hna':=(old _).trans hna;have d0:=(old _).trans c0;have d1:=(old _).trans c1;have d2:=(old _).trans c2;have d3:=(old _).trans c3;have hrow:=(unhide HR).of_block (hx.old.block bp (unhide HR).lt);have HRr:=hide hrow;have HNr:=hide ((unhide HN).keep hx.old (unhide HB));have HBr:Hid (∀ b,S b->b<wr.heap.size):=fun b h=>Nat.lt_of_lt_of_le (unhide HB b h) hx.old.size;have hbl:Below wr.heap.size wr (wr.alloc (.cells #[.bool (us[k]?.getD (false,0)).1,.int .i64 (us[k]?.getD (false,0)).2] 60)):=(Below.refl _ _).alloc (Nat.le_refl _) _;have HBL:=hide hbl;have HKU:Hid (∀ r,UO (us[k]?.getD (false,0))=r->r=true->∀ j,0<=j->j<k+1->UO (us[j]?.getD (false,0))=true):=fun r h1 h2 j _ hj=>by
    by_cases e:j=k
    ·subst e;rw[h1,h2]
    ·exact hall.out j (Nat.zero_le _) (by omega)
   have HKF:Hid (UO (us[k]?.getD (false,0))=false->RES=false):=fun h=>by
    rw[unhide HSU];exact allFrom_false (q:=fun i=>UO (us[i]?.getD (false,0))) (Nat.zero_le k) hlt h
   clear hc2 old hrow hva hua hna c0 c1 c2 c3 hbl;generalize us[k]?.getD (false,0)=u at *;obtain⟨loc,ix⟩:=u;dsimp only at *;cases loc
   ·
    have HU2:Hid (UO (false,ix)=(decide (0<=ix)&&decide (ix<ups.length))):=unhide HUk;by_cases q1:ix<0
    ·have s1:decide (ix<0)=true:=decide_eq_true q1;have HF:Hid (RES=false):=unhide HKF (by rw[unhide HU2,decide_eq_false (show ¬0<=ix by omega)];rfl);go_wp2_with fail
     go_big_region
     all_goals (go_wp2_with fail)
     all_goals go_ret
     all_goals exact⟨ret_bool (unhide HF).symm,(hx.alloc _).drew.old⟩
    ·have s1:decide (ix<0)=false:=decide_eq_false q1;by_cases q2:(ups.length:Int)<=ix
     ·have s2:decide ((ups.length:Int)<=ix)=true:=decide_eq_true q2;have HF:Hid (RES=false):=unhide HKF (by rw[unhide HU2,decide_eq_false (show ¬ix<ups.length by omega),Bool.and_false]);go_wp2_with fail
      go_big_region
      all_goals (go_wp2_with fail)
      all_goals go_ret
      all_goals exact⟨ret_bool (unhide HF).symm,(hx.alloc _).drew.old⟩
     ·have s2:decide ((ups.length:Int)<=ix)=false:=decide_eq_false q2;have HT:Hid (UO (false,ix)=true):=by show _=_;rw[unhide HU2,decide_eq_true (show 0<=ix by omega),decide_eq_true (show ix<ups.length by omega)];rfl
      go_wp2_with fail
      go_big_region
      all_goals (go_wp2_with fail)
      all_goals go_roundg (us.length-(k+1))
      all_goals first
       | (case measure=>omega)
       | skip
      all_goals exact⟨k+1,by omega,by go_num,(hx.alloc _).drew,unhide HKU _ rfl (unhide HT)⟩
   ·have HU2:Hid (UO (true,ix)=(decide (0<=ix)&&decide (ix<vars.length)&&sVisible params nodes p ix)):=unhide HUk;by_cases q1:ix<0
    ·have s1:decide (ix<0)=true:=decide_eq_true q1;have HF:Hid (RES=false):=unhide HKF (by rw[unhide HU2,decide_eq_false (show ¬0<=ix by omega)];rfl);go_wp2_with fail
     go_big_region
     all_goals (go_wp2_with fail)
     all_goals go_ret
     all_goals exact⟨ret_bool (unhide HF).symm,(hx.alloc _).drew.old⟩
    ·have s1:decide (ix<0)=false:=decide_eq_false q1;by_cases q2:(vars.length:Int)<=ix
     ·have s2:decide ((vars.length:Int)<=ix)=true:=decide_eq_true q2;have HF:Hid (RES=false):=unhide HKF (by rw[unhide HU2,decide_eq_false (show ¬ix<vars.length by omega),Bool.and_false];rfl);go_wp2_with fail
      go_big_region
      all_goals (go_wp2_with fail)
      all_goals go_ret
      all_goals exact⟨ret_bool (unhide HF).symm,(hx.alloc _).drew.old⟩
     ·have s2:decide ((vars.length:Int)<=ix)=false:=decide_eq_false q2;have HU3:Hid (UO (true,ix)=sVisible params nodes p ix):=by show _=_;rw[unhide HU2,decide_eq_true (show 0<=ix by omega),decide_eq_true (show ix<vars.length by omega)];rfl
      cases hvis:sVisible params nodes p ix
      ·have HV:=hide hvis;have HF:Hid (RES=false):=unhide HKF (by rw[unhide HU3,hvis]);clear hvis;go_wp2_with fail
       go_region_held3 (fun w'=>w'.cell? ⟨wr.heap.size,1,none⟩=some (.int .i64 ix)/\w'.cell? ⟨w.heap.size,0,none⟩=some (.slice (some ⟨b,off,none⟩) l.length c)/\w'.cell? ⟨b,off+f * 7,none⟩=some (.string name)/\w'.cell? ⟨b,off+f * 7+1,none⟩=some (.int .i64 line)/\w'.cell? ⟨b,off+f * 7+2,none⟩=some (.int .i64 params)/\w'.cell? ⟨b,off+f * 7+3,none⟩=some (.bool rest)/\w'.cell? ⟨b,off+f * 7+4,none⟩=some (.slice va vars.length vc)/\w'.cell? ⟨b,off+f * 7+5,none⟩=some (.slice ua ups.length uc)/\w'.cell? ⟨b,off+f * 7+6,none⟩=some (.slice na nodes.length nc)/\w'.cell? ⟨w.heap.size+1,0,none⟩=some (.slice (some ⟨bp,0,none⟩) nodes.length nodes.length)/\w'.cell? ⟨w.heap.size+1,1,none⟩=some (.slice dv nodes.length nodes.length)) (simp[go_sem, *])
        (first | (go_at_call 63;refine(l3visible_from wr _ (unhide HNr) (unhide HBr) (unhide HRr) (unhide HK) hl hp (by exact(unhide HBL).drew)).mono ?_;rintro e w2 ⟨rfl,hb2'⟩;rw[unhide HV];obtain⟨hcx,hfx⟩:=bcell hb2'))
       all_goals (go_wp2_with fail)
       all_goals go_ret
       all_goals exact⟨ret_bool (unhide HF).symm,((hx.alloc _).drew.below' hb2').old⟩
      ·have HV:=hide hvis;have HT:Hid (UO (true,ix)=true):=by show _=_;rw[unhide HU3,hvis]
       clear hvis;go_wp2_with fail
       go_region_held3 (fun w'=>w'.cell? ⟨wr.heap.size,1,none⟩=some (.int .i64 ix)/\w'.cell? ⟨w.heap.size,0,none⟩=some (.slice (some ⟨b,off,none⟩) l.length c)/\w'.cell? ⟨b,off+f * 7,none⟩=some (.string name)/\w'.cell? ⟨b,off+f * 7+1,none⟩=some (.int .i64 line)/\w'.cell? ⟨b,off+f * 7+2,none⟩=some (.int .i64 params)/\w'.cell? ⟨b,off+f * 7+3,none⟩=some (.bool rest)/\w'.cell? ⟨b,off+f * 7+4,none⟩=some (.slice va vars.length vc)/\w'.cell? ⟨b,off+f * 7+5,none⟩=some (.slice ua ups.length uc)/\w'.cell? ⟨b,off+f * 7+6,none⟩=some (.slice na nodes.length nc)/\w'.cell? ⟨w.heap.size+1,0,none⟩=some (.slice (some ⟨bp,0,none⟩) nodes.length nodes.length)/\w'.cell? ⟨w.heap.size+1,1,none⟩=some (.slice dv nodes.length nodes.length)) (simp[go_sem, *])
        (first | (go_at_call 63;refine(l3visible_from wr _ (unhide HNr) (unhide HBr) (unhide HRr) (unhide HK) hl hp (by exact(unhide HBL).drew)).mono ?_;rintro e w2 ⟨rfl,hb2'⟩;rw[unhide HV];obtain⟨hcx,hfx⟩:=bcell hb2'))
       all_goals (go_wp2_with fail)
       all_goals go_roundg (us.length-(k+1))
       all_goals first
        | (case measure=>omega)
        | skip
       all_goals exact⟨k+1,by omega,by go_num,(hx.alloc _).drew.below' hb2',unhide HKU _ rfl (unhide HT)⟩
  ·have HT:Hid (RES=true):=by show _=_;rw[unhide HSU];exact allFrom_true (q:=fun i=>UO (us[i]?.getD (false,0))) (fun j h1 h2=>hall.out j h1 (by omega))
   go_wp2_with fail
   go_ret;exact⟨ret_bool (unhide HT).symm,hx.old⟩
attribute [local go_sem] run_store_float
structure But (s B:Nat)(w w':World):Prop where
 os:w'.os=w.os
 tape:w'.tape=w.tape
 output:w'.output=w.output
 size:w.heap.size<=w'.heap.size
 block:∀ k,k<B->k≠s->w'.heap[k]? = w.heap[k]?
section
variable {s B B':Nat} {w w' w2:World}
theorem But.refl (s B:Nat)(w:World):But s B w w:=⟨rfl,rfl,rfl,Nat.le_refl _,fun _ _ _=>rfl⟩
theorem But.trans (h:But s B w w')(k:But s B w' w2):But s B w w2:=⟨k.os.trans h.os,k.tape.trans h.tape,k.output.trans h.output,Nat.le_trans h.size k.size,fun i hi hs=>(k.block i hi hs).trans (h.block i hi hs)⟩
theorem But.mono (h:But s B w w')(hB:B'<=B):But s B' w w':=⟨h.os,h.tape,h.output,h.size,fun k hk hs=>h.block k (Nat.lt_of_lt_of_le hk hB) hs⟩
theorem But.of_below (h:Below B w w'):But s B w w':=⟨h.os,h.tape,h.output,h.size,fun k hk _=>h.block k hk⟩
theorem But.below (h:But s B w w')(hb:Below B' w' w2)(hB:B<=B'):But s B w w2:=h.trans ((But.of_below hb).mono hB)
theorem But.alloc (h:But s B w w')(hB:B<=w'.heap.size)(o:Obj):But s B w (w'.alloc o):=h.trans (.of_below ((Below.refl _ _).alloc hB o))
theorem But.drew (h:But s B w w'):But s B w w'.drew:=⟨h.os,h.tape,h.output,h.size,h.block⟩
theorem But.set (h:But s B w w')(j:Nat)(v:Value):But s B w (w'.setCell ⟨s,j,none⟩ v):=
 ⟨h.os,h.tape,h.output,by simpa using h.size,fun k hk hs=>(Below.heap_setCell w' ⟨s,j,none⟩ v k hs).trans (h.block k hk hs)⟩
theorem But.cell (h:But s B w w'){b:Nat}(hb:b<B)(hs:b≠s)(o:Nat):w'.cell? ⟨b,o,none⟩=w.cell? ⟨b,o,none⟩:=World.cell?_of_block (a:=⟨b,o,none⟩) (h.block b hb hs)
theorem But.same {S:Nat->Prop}(h:But s B w w')(hS:∀ b,S b->b<B/\b≠s):Same S w w':=fun b hb=>h.block b (hS b hb).1 (hS b hb).2
end
def seenTo (seen:Nat->Bool)(refs:List Int):Nat->Nat->Bool
 | 0,v=>seen v
 | k+1,v=>seenTo seen refs k v||decide (refs[k]?.getD 0=(v:Int))
def refGood (nv:Nat)(seen:Nat->Bool)(refs:List Int)(k:Nat):Bool:=decide (0<=refs[k]?.getD 0)&&decide (refs[k]?.getD 0<nv) && !(seenTo seen refs k (refs[k]?.getD 0).toNat)
def ref0 (n:NodeD):Int:=n.refs[0]?.getD 0
def sRefs (nf:Nat)(x:FnD)(p:Nat)(seen:Nat->Bool):Bool:=
 let n:=nd x.nodes p
 if n.kind=27 then decide (0<=ref0 n)&&decide (ref0 n<x.ups.length)
 else if n.kind=36 then decide (0<=ref0 n)&&decide (ref0 n<nf)
 else if n.kind=26 then decide (0<=ref0 n)&&decide (ref0 n<x.vars.length)&&sVisible x.params x.nodes p (ref0 n)
 else allFrom (refGood x.vars.length seen n.refs) 0 n.refs.length
def sSeen (x:FnD)(p:Nat)(seen:Nat->Bool):Nat->Bool:=
 let n:=nd x.nodes p
 if n.kind=27\/n.kind=36\/n.kind=26 then seen else seenTo seen n.refs n.refs.length
def box4 (w:World)(o1 o2 o3 o4:Obj):World:=(((w.alloc o1).alloc o2).alloc o3).alloc o4
theorem l3refs_one (a:Option Addr)(nf c:Nat)(nm:ByteArray)(ln pr:Int)(rs:Bool)(n4 n5:Nat)(a4 a5 a6:Option Addr)(c4 c5 c6:Nat)(ns:List NodeD)(bp bs nv:Nat)(dv:Option Addr)(p:Nat)(S:Nat->Prop)(w:World)
  (_hnf:nf<=1048576)(_h4:n4<=1048576)(_h5:n5<=1048576)
  (hs:NodesAt w S a6 ns)(hB:∀ b,S b->b<w.heap.size)(hp:p<ns.length)(hone:(nd ns p).refs.length=1)(hk:(nd ns p).kind=27\/(nd ns p).kind=36) :
  Calls Tryz.prog 41 #[.agg #[.slice a nf c],.agg #[.string nm,.int .i64 ln,.int .i64 pr,.bool rs,.slice a4 n4 c4,.slice a5 n5 c5,.slice a6 ns.length c6],.agg #[.slice (some ⟨bp,0,none⟩) ns.length ns.length,.slice dv ns.length ns.length],.int .i64 p,.slice (some ⟨bs,0,none⟩) nv nv] w fun e w'=>
   e=.returned (.bool (decide (0<=ref0 (nd ns p))&&decide (ref0 (nd ns p)<(if(nd ns p).kind=27 then(n5:Int)else nf))))/\Below w.heap.size w w':=by
 have hn:=hs.1;obtain⟨b,off,rfl,hb,hcc⟩:=hs.2 (by omega);have hbs:b<w.heap.size:=hB b hb;have N:NodeCells w S b (off+p * 8) (nd ns p):=hcc p hp;obtain⟨ra,rc,hr,hrI⟩:=N.refs;obtain⟨ka,kc,hkk,hkI⟩:=N.kids;obtain⟨b2,off2,ea,hb2,hc2⟩:=hrI.2 (by omega);have hb2s:b2<w.heap.size:=hB b2 hb2;have m1:b<w.heap.size+1:=by omega
 have m2:b<w.heap.size+1+1:=by omega
 have m3:b<w.heap.size+1+1+1:=by omega
 have m4:b2<w.heap.size+1:=by omega
 have m5:b2<w.heap.size+1+1:=by omega
 have m6:b2<w.heap.size+1+1+1:=by omega
 have r0:w.cell? ⟨b2,off2,none⟩=some (.int .i64 (ref0 (nd ns p))):=by have:=hc2 0 (by omega);rw[Nat.add_zero]at this;exact this
 have c0:=N.kind;have c1:=N.line;have c2:=N.op;have c3:=N.num;have c4':=N.flt;have c5':=N.str;rw[hone]at hr;clear hs hB hcc N hrI hkI hc2 hone;generalize ref0 (nd ns p)=r at *;generalize nd ns p=n at *;obtain⟨kind,line,op,num,flt,str,refs,kids⟩:=n;dsimp only at *;subst ea;have BB:Hid (∀ o1 o2 o3 o4,Below w.heap.size w (box4 w o1 o2 o3 o4)):=fun o1 o2 o3 o4=>blkB w o1 o2 o3 o4;by_cases q1:0<=r
 ·have s1:decide (0<=r)=true:=decide_eq_true q1;rcases hk with rfl | rfl
  ·by_cases q2:r<n5
   ·have s2:decide (r<(n5:Int))=true:=decide_eq_true q2;go_enter Tryz.func41,Tryz.ntmps41;go_wp2_with fail
    go_big_region
    all_goals (go_wp2_with fail)
    all_goals go_ret
    all_goals exact⟨ret_bool (by simp),(BB.out _ _ _ _).drew⟩
   ·have s2:decide (r<(n5:Int))=false:=decide_eq_false q2;go_enter Tryz.func41,Tryz.ntmps41;go_wp2_with fail
    go_big_region
    all_goals (go_wp2_with fail)
    all_goals go_ret
    all_goals exact⟨ret_bool (by simp),(BB.out _ _ _ _).drew⟩
  ·by_cases q2:r<nf
   ·have s2:decide (r<(nf:Int))=true:=decide_eq_true q2;go_enter Tryz.func41,Tryz.ntmps41;go_wp2_with fail
    go_big_region
    all_goals (go_wp2_with fail)
    all_goals go_ret
    all_goals exact⟨ret_bool (by simp),(BB.out _ _ _ _).drew⟩
   ·have s2:decide (r<(nf:Int))=false:=decide_eq_false q2;go_enter Tryz.func41,Tryz.ntmps41;go_wp2_with fail
    go_big_region
    all_goals (go_wp2_with fail)
    all_goals go_ret
    all_goals exact⟨ret_bool (by simp),(BB.out _ _ _ _).drew⟩
 ·have s1:decide (0<=r)=false:=decide_eq_false q1;rcases hk with rfl | rfl
  all_goals
   go_enter Tryz.func41,Tryz.ntmps41;go_wp2_with fail
   go_big_region
   all_goals (go_wp2_with fail)
   all_goals go_ret
   all_goals exact⟨ret_bool (by simp),(BB.out _ _ _ _).drew⟩
attribute [local go_sem] run_store_float
theorem l3refs_var (a:Option Addr)(nf c:Nat)(nm:ByteArray)(ln pr:Int)(rs:Bool)(n4 n5:Nat)(a4 a5 a6:Option Addr)(c4 c5 c6:Nat)(ns:List NodeD)(bp bs nv:Nat)(dv:Option Addr)(p:Nat)(S:Nat->Prop)(w:World)
  (_h4:n4<=1048576)(hs:NodesAt w S a6 ns)(hB:∀ b,S b->b<w.heap.size)(hp:p<ns.length)(hone:(nd ns p).refs.length=1)(hk:(nd ns p).kind=26)
  (hrp:w.rowIs bp 3 ns.length (fun j=>.int .i64 (sPar ns j)))(hki:∀ p,p<ns.length->kidsIn ns p=true)(hl:ns.length<=3000) :
  Calls Tryz.prog 41 #[.agg #[.slice a nf c],.agg #[.string nm,.int .i64 ln,.int .i64 pr,.bool rs,.slice a4 n4 c4,.slice a5 n5 c5,.slice a6 ns.length c6],.agg #[.slice (some ⟨bp,0,none⟩) ns.length ns.length,.slice dv ns.length ns.length],.int .i64 p,.slice (some ⟨bs,0,none⟩) nv nv] w fun e w'=>
   e=.returned (.bool (decide (0<=ref0 (nd ns p))&&decide (ref0 (nd ns p)<(n4:Int))&&sVisible pr ns p (ref0 (nd ns p))))/\Below w.heap.size w w':=by
 have hn:=hs.1;have HSN:=hide hs;have HB:=hide hB;have HKI:=hide hki;have HR:=hide hrp;obtain⟨b,off,rfl,hb,hcc⟩:=hs.2 (by omega);have hbs:b<w.heap.size:=hB b hb;have N:NodeCells w S b (off+p * 8) (nd ns p):=hcc p hp;obtain⟨ra,rc,hr,hrI⟩:=N.refs;obtain⟨ka,kc,hkk,hkI⟩:=N.kids;obtain⟨b2,off2,ea,hb2,hc2⟩:=hrI.2 (by omega);have hb2s:b2<w.heap.size:=hB b2 hb2;have m1:b<w.heap.size+1:=by omega
 have m2:b<w.heap.size+1+1:=by omega
 have m3:b<w.heap.size+1+1+1:=by omega
 have r0:w.cell? ⟨b2,off2,none⟩=some (.int .i64 (ref0 (nd ns p))):=by have:=hc2 0 (by omega);rw[Nat.add_zero]at this;exact this
 have c0:=N.kind;have c1:=N.line;have c2:=N.op;have c3:=N.num;have c4':=N.flt;have c5':=N.str;rw[hone]at hr;clear hs hB hcc N hrI hkI hc2 hone hki hrp;generalize ref0 (nd ns p)=r at *;generalize nd ns p=n at *;obtain⟨kind,line,op,num,flt,str,refs,kids⟩:=n;dsimp only at *;subst ea hk;go_enter Tryz.func41,Tryz.ntmps41;go_wp2_with fail
 go_loopg [58] 1 (fun g i wr=>i=.int .i64 0/\Below (w.heap.size+4) ((((w.alloc (.cells #[.slice a nf c] 30)).alloc (.cells #[.string nm,.int .i64 ln,.int .i64 pr,.bool rs,.slice a4 n4 c4,.slice a5 n5 c5,.slice (some ⟨b,off,none⟩) ns.length c6] 54)).alloc (.cells #[.slice (some ⟨bp,0,none⟩) ns.length ns.length,.slice dv ns.length ns.length] 79)).alloc (.cells #[.int .i64 26,.int .i64 line,.int .i64 op,.int .i64 num,.float .f64 flt,.string str,.slice (some ⟨b2,off2,none⟩) 1 rc,.slice ka kids.length kc] 58)) wr)
 case atStart=>exact⟨rfl,Below.refl _ _⟩
 case round=>
  obtain⟨rfl,hx⟩:=hrel;have hold:Below w.heap.size w wr:=(blkB w _ _ _ _).trans (hx.mono (by omega));have cl:∀(d j:Nat),d<4->wr.cell? ⟨w.heap.size+d,j,none⟩=_:=fun d j hd=>hx.cell (p:=⟨w.heap.size+d,j,none⟩) (by show w.heap.size+d<w.heap.size+4;omega);have f0:wr.cell? ⟨w.heap.size+1,0,none⟩=some (.string nm):=by rw[cl 1 0 (by omega)];simp[go_sem]
  have f1:wr.cell? ⟨w.heap.size+1,1,none⟩=some (.int .i64 ln):=by rw[cl 1 1 (by omega)];simp[go_sem]
  have f2:wr.cell? ⟨w.heap.size+1,2,none⟩=some (.int .i64 pr):=by rw[cl 1 2 (by omega)];simp[go_sem]
  have f3:wr.cell? ⟨w.heap.size+1,3,none⟩=some (.bool rs):=by rw[cl 1 3 (by omega)];simp[go_sem]
  have f4:wr.cell? ⟨w.heap.size+1,4,none⟩=some (.slice a4 n4 c4):=by rw[cl 1 4 (by omega)];simp[go_sem]
  have f5:wr.cell? ⟨w.heap.size+1,5,none⟩=some (.slice a5 n5 c5):=by rw[cl 1 5 (by omega)];simp[go_sem]
  have f6:wr.cell? ⟨w.heap.size+1,6,none⟩=some (.slice (some ⟨b,off,none⟩) ns.length c6):=by rw[cl 1 6 (by omega)];simp[go_sem]
  have t0:wr.cell? ⟨w.heap.size+1+1,0,none⟩=some (.slice (some ⟨bp,0,none⟩) ns.length ns.length):=by rw[show w.heap.size+1+1=w.heap.size+2 from rfl,cl 2 0 (by omega)];simp[go_sem]
  have t1:wr.cell? ⟨w.heap.size+1+1,1,none⟩=some (.slice dv ns.length ns.length):=by rw[show w.heap.size+1+1=w.heap.size+2 from rfl,cl 2 1 (by omega)];simp[go_sem]
  have k0:wr.cell? ⟨w.heap.size+1+1+1,0,none⟩=some (.int .i64 26):=by rw[show w.heap.size+1+1+1=w.heap.size+3 from rfl,cl 3 0 (by omega)];simp[go_sem]
  have r0':wr.cell? ⟨b2,off2,none⟩=some (.int .i64 r):=(hold.cell (p:=⟨b2,off2,none⟩) hb2s).trans r0;clear cl hx;by_cases q1:r<0
  ·have s1:decide (r<0)=true:=decide_eq_true q1;go_wp2_with fail
   go_ret;exact⟨ret_bool (by rw[decide_eq_false (show ¬0<=r by omega)];rfl),hold⟩
  ·by_cases q2:(n4:Int)<=r
   ·have s2:decide ((n4:Int)<=r)=true:=decide_eq_true q2;go_wp2_with fail
    go_ret;exact⟨ret_bool (by rw[decide_eq_false (show ¬r<n4 by omega)];simp),hold⟩
   ·have s1:decide (r<0)=false:=decide_eq_false q1;have s2:decide ((n4:Int)<=r)=false:=decide_eq_false q2;go_wp2_with fail
    refine(l3visible_from w _ (unhide HSN) (unhide HB) (unhide HR) (unhide HKI) hl hp hold).mono ?_;rintro e w2 ⟨rfl,hb2'⟩;go_wp2_with fail
    go_ret;exact⟨ret_bool (by rw[decide_eq_true (show 0<=r by omega),decide_eq_true (show r<n4 by omega)];rfl),hold.trans (hb2'.mono hold.size)⟩
theorem rowIs_alloc4 {w:World}{b t n:Nat}{f:Nat->Value}(h:w.rowIs b t n f)(o1 o2 o3 o4:Obj):((((w.alloc o1).alloc o2).alloc o3).alloc o4).rowIs b t n f:=(((h.alloc o1).alloc o2).alloc o3).alloc o4
theorem l3refs_decl (a:Option Addr)(nf c:Nat)(nm:ByteArray)(ln pr:Int)(rs:Bool)(n4 n5:Nat)(a4 a5 a6:Option Addr)(c4 c5 c6:Nat)(ns:List NodeD)(bp bs:Nat)(dv:Option Addr)(seen:Nat->Bool)(p:Nat)(S:Nat->Prop)(w:World)
  (_h4:n4<=1048576)(hs:NodesAt w S a6 ns)(hB:∀ b,S b->b<w.heap.size)(hSs:∀ b,S b->b≠bs)(hp:p<ns.length)(hk26:(nd ns p).kind≠26)(hk27:(nd ns p).kind≠27)(hk36:(nd ns p).kind≠36)
  (hrow:w.rowIs bs 4 n4 (fun j=>.bool (seen j))) :
  Calls Tryz.prog 41 #[.agg #[.slice a nf c],.agg #[.string nm,.int .i64 ln,.int .i64 pr,.bool rs,.slice a4 n4 c4,.slice a5 n5 c5,.slice a6 ns.length c6],.agg #[.slice (some ⟨bp,0,none⟩) ns.length ns.length,.slice dv ns.length ns.length],.int .i64 p,.slice (some ⟨bs,0,none⟩) n4 n4] w fun e w'=>
   e=.returned (.bool (allFrom (refGood n4 seen (nd ns p).refs) 0 (nd ns p).refs.length))/\But bs w.heap.size w w'/\(allFrom (refGood n4 seen (nd ns p).refs) 0 (nd ns p).refs.length=true->w'.rowIs bs 4 n4 (fun j=>.bool (seenTo seen (nd ns p).refs (nd ns p).refs.length j))):=by
 have hn:=hs.1;have hbsl:=hrow.lt;obtain⟨b,off,rfl,hb,hcc⟩:=hs.2 (by omega);have hbs:b<w.heap.size:=hB b hb;have N:NodeCells w S b (off+p * 8) (nd ns p):=hcc p hp;obtain⟨ra,rc,hr,hrI⟩:=N.refs;obtain⟨ka,kc,hkk,hkI⟩:=N.kids;have hrl:=hrI.1;have m1:b<w.heap.size+1:=by omega
 have m2:b<w.heap.size+1+1:=by omega
 have m3:b<w.heap.size+1+1+1:=by omega
 have c0:=N.kind;have c1:=N.line;have c2:=N.op;have c3:=N.num;have c4':=N.flt;have c5':=N.str;have HRI:=hide hrI;have HSS:Hid (∀ b,S b->b<w.heap.size/\b≠bs):=fun b h=>⟨hB b h,hSs b h⟩;have HROW:=hide hrow;clear hs hB hcc N hrI hkI hSs hrow;generalize nd ns p=n at *;obtain⟨kind,line,op,num,flt,str,refs,kids⟩:=n;dsimp only at *;have k1:(kind==27)=false:=beq_eq_false_iff_ne.2 hk27;have k2:(kind==36)=false:=beq_eq_false_iff_ne.2 hk36;have k3:(kind==26)=false:=beq_eq_false_iff_ne.2 hk26;clear hk26 hk27 hk36;go_enter Tryz.func41,Tryz.ntmps41;go_wp2_with fail
 go_loopg [58] refs.length (fun g i wr=>∃(k:Nat),k+g=refs.length/\i=.int .i64 k/\But bs (w.heap.size+4) ((((w.alloc (.cells #[.slice a nf c] 30)).alloc (.cells #[.string nm,.int .i64 ln,.int .i64 pr,.bool rs,.slice a4 n4 c4,.slice a5 n5 c5,.slice (some ⟨b,off,none⟩) ns.length c6] 54)).alloc (.cells #[.slice (some ⟨bp,0,none⟩) ns.length ns.length,.slice dv ns.length ns.length] 79)).alloc (.cells #[.int .i64 kind,.int .i64 line,.int .i64 op,.int .i64 num,.float .f64 flt,.string str,.slice ra refs.length rc,.slice ka kids.length kc] 58)) wr/\wr.rowIs bs 4 n4 (fun j=>.bool (seenTo seen refs k j))/\Hid (∀ j,0<=j->j<k->refGood n4 seen refs j=true))
 case atStart=>exact⟨0,by omega,rfl,But.refl _ _ _,rowIs_alloc4 (unhide HROW) _ _ _ _,fun j _ h=>absurd h (Nat.not_lt_zero _)⟩
 case round=>
  obtain⟨k,hkg,rfl,hx,hrow,hall⟩:=hrel;have hold:But bs w.heap.size w wr:=(But.of_below (blkB w _ _ _ _)).trans (hx.mono (by omega));have hsz:w.heap.size+4<=wr.heap.size:=by have:=hx.size;simpa using this
  have cl:∀(d j:Nat),d<4->wr.cell? ⟨w.heap.size+d,j,none⟩=_:=fun d j hd=>hx.cell (b:=w.heap.size+d) (by omega) (by omega) j;have f4:wr.cell? ⟨w.heap.size+1,4,none⟩=some (.slice a4 n4 c4):=by rw[cl 1 4 (by omega)];simp[go_sem]
  have k0:wr.cell? ⟨w.heap.size+1+1+1,0,none⟩=some (.int .i64 kind):=by rw[show w.heap.size+1+1+1=w.heap.size+3 from rfl,cl 3 0 (by omega)];simp[go_sem]
  clear cl;by_cases hlt:k<refs.length
  ·obtain⟨b2,off2,rfl,hb2,hc2⟩:=((unhide HRI).same (hold.same (unhide HSS))).2 (by omega);have rc':=hc2 k hlt;clear hc2;have HGk:Hid (refGood n4 seen refs k=(decide (0<=refs[k]?.getD 0)&&decide (refs[k]?.getD 0<n4) && !(seenTo seen refs k (refs[k]?.getD 0).toNat))):=rfl;have HSk:Hid (∀ v,seenTo seen refs (k+1) v=(seenTo seen refs k v||decide (refs[k]?.getD 0=(v:Int)))):=fun v=>rfl;generalize refs[k]?.getD 0=r at *;by_cases q1:r<0
   ·have s1:decide (r<0)=true:=decide_eq_true q1;have HF:Hid (allFrom (refGood n4 seen refs) 0 refs.length=false):=allFrom_false (Nat.zero_le k) hlt (by rw[unhide HGk,decide_eq_false (show ¬0<=r by omega)];rfl);go_wp2_with fail
    go_ret;exact⟨ret_bool (unhide HF).symm,hold,fun h=>by rw[unhide HF]at h;cases h⟩
   ·by_cases q2:(n4:Int)<=r
    ·have s2:decide ((n4:Int)<=r)=true:=decide_eq_true q2;have HF:Hid (allFrom (refGood n4 seen refs) 0 refs.length=false):=allFrom_false (Nat.zero_le k) hlt (by rw[unhide HGk,decide_eq_false (show ¬r<n4 by omega)];simp);go_wp2_with fail
     go_ret;exact⟨ret_bool (unhide HF).symm,hold,fun h=>by rw[unhide HF]at h;cases h⟩
    ·have s1:decide (r<0)=false:=decide_eq_false q1;obtain⟨v,rfl⟩:=Int.eq_ofNat_of_zero_le (show 0<=r by omega);have s2:decide (n4<=v)=false:=decide_eq_false (by omega);have hvn:v<n4:=by omega
     have sc:=hrow.cell hvn;have sf:=hrow.frozen v;cases hsn:seenTo seen refs k v
     ·rw[hsn]at sc;have HN:=hide hsn;have HG:Hid (refGood n4 seen refs k=true):=by show _=_;rw[unhide HGk,decide_eq_true (show(0:Int)<=v by omega),decide_eq_true (show(v:Int)<n4 by omega),Int.toNat_natCast,hsn];rfl
      clear hsn;go_wp2_with fail
      go_roundg (refs.length-(k+1))
      case measure=>omega
      case rel=>
       refine⟨k+1,by omega,by go_num,hx.set v _,(hrow.set v _).congr fun j hj=>?_,fun j _ hj=>?_⟩
       ·rw[unhide HSk j];by_cases e:j=v
        ·subst e;simp
        ·have:¬((v:Int)=j):=by omega
         simp[e,this]
       ·by_cases e:j=k
        ·subst e;exact unhide HG
        ·exact hall.out j (Nat.zero_le _) (by omega)
     ·rw[hsn]at sc;have HF:Hid (allFrom (refGood n4 seen refs) 0 refs.length=false):=allFrom_false (Nat.zero_le k) hlt (by rw[unhide HGk,Int.toNat_natCast,hsn];simp);clear hsn;go_wp2_with fail
      go_ret;exact⟨ret_bool (unhide HF).symm,hold,fun h=>by rw[unhide HF]at h;cases h⟩
  ·have HT:Hid (allFrom (refGood n4 seen refs) 0 refs.length=true):=allFrom_true (fun j h1 h2=>hall.out j h1 (by omega));have e:k=refs.length:=by omega
   have HROW2:Hid (wr.rowIs bs 4 n4 (fun j=>.bool (seenTo seen refs refs.length j))):=by subst e;exact hrow
   go_wp2_with fail
   go_ret;exact⟨ret_bool (unhide HT).symm,hold,fun _=>unhide HROW2⟩
attribute [local go_sem] run_store_float
theorem headBad_of {l:List FnD}{f:Nat}(h:sHead l f=true):¬headBad (fnD l f) f:=fun hb=>by rw[sHead_bad hb]at h;cases h
theorem Shaped.head {l:List FnD}(h:Shaped l){f:Nat}(hf:f<l.length):(fnD l f).vars.length<=200/\(fnD l f).ups.length<=200/\0<=(fnD l f).params/\(fnD l f).params<=(fnD l f).vars.length:=by
 have hb:=headBad_of (h.heads f hf);unfold headBad at hb;simp only[not_or]at hb;obtain⟨_,h2,h3,h4,h5,_⟩:=hb;omega
theorem stat_no {k:Int}(h:k=26\/k=27\/k=36):isStat k=false:=by rcases h with rfl | rfl | rfl<;>rfl
theorem Shaped.ref1 {l:List FnD}(h:Shaped l){f p:Nat}(hf:f<l.length)(hp:p<(fnD l f).nodes.length)(hk:(nd (fnD l f).nodes p).kind=26\/(nd (fnD l f).nodes p).kind=27\/(nd (fnD l f).nodes p).kind=36) :
  (nd (fnD l f).nodes p).refs.length=1:=by
 have hs:=h.node hf hp;unfold sShape at hs;rw[stat_no hk]at hs;simp only[Bool.false_eq_true,if_false,Bool.and_eq_true]at hs;have hx:=hs.2.2;unfold sExpression at hx;generalize (fnD l f).nodes=ns at *;have hb:sBare (nd ns p) false false false false 1=true:=by
  rcases hk with hk | hk | hk
  all_goals
   rw[hk]at hx;simp only[exArm,Bool.and_eq_true]at hx;exact hx.2
 unfold sBare sBareV at hb;simp only[Bool.and_eq_true]at hb;have h3:((nd ns p).refs.length:Int)=1:=by simpa using hb.2
 omega
def seenAt (x:FnD):Nat->Nat->Bool
 | 0=>fun v=>decide ((v:Int)<x.params)
 | p+1=>sSeen x p (seenAt x p)
def refsBad (l:List FnD)(f p:Nat):Bool:=!sRefs l.length (fnD l f) p (seenAt (fnD l f) p)
def breakBad (l:List FnD)(f p:Nat):Bool:=((nd (fnD l f).nodes p).kind==9||(nd (fnD l f).nodes p).kind==10) && !sInloop (fnD l f).nodes p
def madeFn (x:FnD)(m:Nat->Bool):Nat->Nat->Bool
 | 0=>m
 | p+1=>if(nd x.nodes p).kind=36 then(fun g=>madeFn x m p g||decide (ref0 (nd x.nodes p)=(g:Int)))else madeFn x m p
def madeUpto (l:List FnD):Nat->Nat->Bool
 | 0=>fun _=>false
 | f+1=>madeFn (fnD l f) (madeUpto l f) (fnD l f).nodes.length
def madeAt (l:List FnD)(f p:Nat):Nat->Bool:=madeFn (fnD l f) (madeUpto l f) p
def fnBad (l:List FnD)(f p:Nat):Bool:=
 ((nd (fnD l f).nodes p).kind==37 && !(fnD l f).rest) ||
 ((nd (fnD l f).nodes p).kind==36&&(decide (ref0 (nd (fnD l f).nodes p)<=f)||madeAt l f p (ref0 (nd (fnD l f).nodes p)).toNat || !sUps (fnD l f) p (fnD l (ref0 (nd (fnD l f).nodes p)).toNat).ups))
def Fault69 (l:List FnD)(c f n:Int):Prop:=
 (c=6/\∃ F P:Nat,f=F/\n=P/\First l (refsBad l) F P) \/
 (NoBad l (refsBad l)/\c=7/\∃ F P:Nat,f=F/\n=P/\First l (breakBad l) F P) \/
 (NoBad l (refsBad l)/\NoBad l (breakBad l)/\c=8/\∃ F P:Nat,f=F/\n=P/\First l (fnBad l) F P) \/
 (NoBad l (refsBad l)/\NoBad l (breakBad l)/\NoBad l (fnBad l)/\c=9/\n=0/\∃ F:Nat,f=F/\1<=F/\F<l.length/\madeUpto l l.length F=false/\∀ g,1<=g->g<F->madeUpto l l.length g=true) \/
 (NoBad l (refsBad l)/\NoBad l (breakBad l)/\NoBad l (fnBad l)/\c=0/\f=0/\n=0/\∀ g,1<=g->g<l.length->madeUpto l l.length g=true)
theorem l3refs_any (a:Option Addr)(nf c:Nat)(x:FnD)(a4 a5 a6:Option Addr)(c4 c5 c6:Nat)(bp bs:Nat)(dv:Option Addr)(seen:Nat->Bool)(p:Nat)(S:Nat->Prop)(w:World)
  (hnf:nf<=1048576)(h4:x.vars.length<=1048576)(h5:x.ups.length<=1048576)(hs:NodesAt w S a6 x.nodes)(hB:∀ b,S b->b<w.heap.size)(hSs:∀ b,S b->b≠bs)(hp:p<x.nodes.length)
  (hone:(nd x.nodes p).kind=26\/(nd x.nodes p).kind=27\/(nd x.nodes p).kind=36->(nd x.nodes p).refs.length=1)
  (hrow:w.rowIs bs 4 x.vars.length (fun j=>.bool (seen j)))(hrp:w.rowIs bp 3 x.nodes.length (fun j=>.int .i64 (sPar x.nodes j)))(hki:∀ p,p<x.nodes.length->kidsIn x.nodes p=true)(hl:x.nodes.length<=3000) :
  Calls Tryz.prog 41 #[.agg #[.slice a nf c],.agg #[.string x.name,.int .i64 x.line,.int .i64 x.params,.bool x.rest,.slice a4 x.vars.length c4,.slice a5 x.ups.length c5,.slice a6 x.nodes.length c6],.agg #[.slice (some ⟨bp,0,none⟩) x.nodes.length x.nodes.length,.slice dv x.nodes.length x.nodes.length],.int .i64 p,.slice (some ⟨bs,0,none⟩) x.vars.length x.vars.length] w fun e w'=>
   e=.returned (.bool (sRefs nf x p seen))/\But bs w.heap.size w w'/\(sRefs nf x p seen=true->w'.rowIs bs 4 x.vars.length (fun j=>.bool (sSeen x p seen j))):=by
 have keep:∀ w':World,Below w.heap.size w w'->w'.rowIs bs 4 x.vars.length (fun j=>.bool (seen j)):=fun w' h=>hrow.of_block (h.block bs hrow.lt);by_cases k27:(nd x.nodes p).kind=27
 ·have e1:sRefs nf x p seen=(decide (0<=ref0 (nd x.nodes p))&&decide (ref0 (nd x.nodes p)<(if(nd x.nodes p).kind=27 then(x.ups.length:Int)else nf))):=by unfold sRefs;rw[if_pos k27,if_pos k27]
  have e2:sSeen x p seen=seen:=by unfold sSeen;rw[if_pos (.inl k27)]
  rw[e1,e2];refine(l3refs_one a nf c x.name x.line x.params x.rest x.vars.length x.ups.length a4 a5 a6 c4 c5 c6 x.nodes bp bs x.vars.length dv p S w hnf h4 h5 hs hB hp (hone (.inr (.inl k27))) (.inl k27)).mono ?_;rintro e w' ⟨h1,h2⟩;exact⟨h1,.of_below h2,fun _=>keep w' h2⟩
 by_cases k36:(nd x.nodes p).kind=36
 ·have e1:sRefs nf x p seen=(decide (0<=ref0 (nd x.nodes p))&&decide (ref0 (nd x.nodes p)<(if(nd x.nodes p).kind=27 then(x.ups.length:Int)else nf))):=by unfold sRefs;rw[if_neg k27,if_pos k36,if_neg k27]
  have e2:sSeen x p seen=seen:=by unfold sSeen;rw[if_pos (.inr (.inl k36))]
  rw[e1,e2];refine(l3refs_one a nf c x.name x.line x.params x.rest x.vars.length x.ups.length a4 a5 a6 c4 c5 c6 x.nodes bp bs x.vars.length dv p S w hnf h4 h5 hs hB hp (hone (.inr (.inr k36))) (.inr k36)).mono ?_;rintro e w' ⟨h1,h2⟩;exact⟨h1,.of_below h2,fun _=>keep w' h2⟩
 by_cases k26:(nd x.nodes p).kind=26
 ·have e1:sRefs nf x p seen=(decide (0<=ref0 (nd x.nodes p))&&decide (ref0 (nd x.nodes p)<(x.vars.length:Int))&&sVisible x.params x.nodes p (ref0 (nd x.nodes p))):=by unfold sRefs;rw[if_neg k27,if_neg k36,if_pos k26]
  have e2:sSeen x p seen=seen:=by unfold sSeen;rw[if_pos (.inr (.inr k26))]
  rw[e1,e2];refine(l3refs_var a nf c x.name x.line x.params x.rest x.vars.length x.ups.length a4 a5 a6 c4 c5 c6 x.nodes bp bs x.vars.length dv p S w h4 hs hB hp (hone (.inl k26)) k26 hrp hki hl).mono ?_;rintro e w' ⟨h1,h2⟩;exact⟨h1,.of_below h2,fun _=>keep w' h2⟩
 ·have e1:sRefs nf x p seen=allFrom (refGood x.vars.length seen (nd x.nodes p).refs) 0 (nd x.nodes p).refs.length:=by unfold sRefs;rw[if_neg k27,if_neg k36,if_neg k26]
  have e2:sSeen x p seen=seenTo seen (nd x.nodes p).refs (nd x.nodes p).refs.length:=by unfold sSeen;rw[if_neg (by rintro(h | h | h)<;>contradiction)]
  rw[e1,e2];exact l3refs_decl a nf c x.name x.line x.params x.rest x.vars.length x.ups.length a4 a5 a6 c4 c5 c6 x.nodes bp bs dv seen p S w h4 hs hB hSs hp k26 k27 k36 hrow
end Go.Proofs.YtofcbekoaghikaaGreatDoor
