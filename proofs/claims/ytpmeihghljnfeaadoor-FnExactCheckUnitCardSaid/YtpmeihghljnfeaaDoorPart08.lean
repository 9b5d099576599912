import Derived.Test.YtpmeihghljnfeaaDoorPart07
import Derived.Deep.RegionHeld3
set_option linter.unusedSimpArgs false
set_option linter.unusedVariables false
set_option maxHeartbeats 8000000
set_option maxRecDepth 100000
namespace Go.Proofs.YtpmeihghljnfeaaDoor
open Go.RowKit
attribute [local go_sem] run_store_float
theorem l3visible_from {nm:ByteArray}{ln pr:Int}{rs:Bool}{n4 n5:Nat}{a4 a5 a6:Option Addr}{c4 c5 c6:Nat}{ns:List NodeD}{bp:Nat}{dv:Option Addr}{p:Nat}{v:Int}{S:Nat->Prop}(w W:World)
  (hs:NodesAt w S a6 ns)(hB:∀ b,S b->b<w.heap.size)(hrp:w.rowIs bp 3 ns.length (fun j=>.int .i64 (sPar ns j)))(hk:∀ p,p<ns.length->kidsIn ns p=true)(hl:ns.length<=3000)(hp:p<ns.length)(hW:Below w.heap.size w W) :
  Calls Tryd.prog 48 #[.agg #[.string nm,.int .i64 ln,.int .i64 pr,.bool rs,.slice a4 n4 c4,.slice a5 n5 c5,.slice a6 ns.length c6],.agg #[.slice (some ⟨bp,0,none⟩) ns.length ns.length,.slice dv ns.length ns.length],.int .i64 p,.int .i64 v] W fun e w'=>
   e=.returned (.bool (sVisible pr ns p v))/\Below W.heap.size W w':=
 l3visible_any nm ln pr rs n4 n5 a4 a5 a6 c4 c5 c6 ns bp dv p v S W (hs.keep hW hB) (fun b h=>Nat.lt_of_lt_of_le (hB b h) hW.size) (hrp.of_block (hW.block bp hrp.lt)) hk hl hp
def upOk (x:FnD)(p:Nat)(u:Bool×Int):Bool:=
 if u.1 then decide (0<=u.2)&&decide (u.2<x.vars.length)&&sVisible x.params x.nodes p u.2 else decide (0<=u.2)&&decide (u.2<x.ups.length)
def sUps (x:FnD)(p:Nat)(us:List (Bool×Int)):Bool:=allFrom (fun i=>upOk x p (us[i]?.getD (false,0))) 0 us.length
theorem l3ups_any (a:Option Addr)(l:List FnD)(c f g p:Nat)(bp:Nat)(dv:Option Addr)(S:Nat->Prop)(w:World)(hs:FnsAt w S a l)(hB:∀ b,S b->b<w.heap.size)(hf:f<l.length)(hg:g<l.length)
  (hrp:w.rowIs bp 3 (fnD l f).nodes.length (fun j=>.int .i64 (sPar (fnD l f).nodes j)))(hk:∀ p,p<(fnD l f).nodes.length->kidsIn (fnD l f).nodes p=true)(hl:(fnD l f).nodes.length<=3000)(hp:p<(fnD l f).nodes.length) :
  Calls Tryd.prog 29 #[.agg #[.slice a l.length c],.int .i64 f,.agg #[.slice (some ⟨bp,0,none⟩) (fnD l f).nodes.length (fnD l f).nodes.length,.slice dv (fnD l f).nodes.length (fnD l f).nodes.length],.int .i64 p,.int .i64 g] w fun e w'=>
   e=.returned (.bool (sUps (fnD l f) p (fnD l g).ups))/\Below w.heap.size w w':=by
 have X0:=hide (FT.start w (.cells #[.slice a l.length c] 31) (.cells #[.slice (some ⟨bp,0,none⟩) (fnD l f).nodes.length (fnD l f).nodes.length,.slice dv (fnD l f).nodes.length (fnD l f).nodes.length] 55));have hn:=hs.1;obtain⟨b,off,rfl,hb,hcc⟩:=hs.2 (by omega);have hbs:b<w.heap.size:=hB b hb;have NF:FnCells w S b (off+f * 7) (fnD l f):=hcc f hf;have NG:FnCells w S b (off+g * 7) (fnD l g):=hcc g hg;obtain⟨ga,gc,hgu,hgI⟩:=NG.ups;obtain⟨va,vc,hva,hvI⟩:=NF.vars;obtain⟨ua,uc,hua,huI⟩:=NF.ups;obtain⟨na,nc,hna,hnI⟩:=NF.nodes;have c0:=NF.name;have c1:=NF.line;have c2:=NF.params;have c3:=NF.rest;have hgl:=hgI.1;have hvl:=hvI.1;have hul:=huI.1;have CELLS:=hide (And.intro hva (And.intro hua (And.intro hna (And.intro c0 (And.intro c1 (And.intro c2 c3))))));have HG:=hide hgI;have HN:=hide hnI;have HB:=hide hB;have HK:=hide hk;have HR:=hide hrp;have HSU:Hid (sUps (fnD l f) p (fnD l g).ups=allFrom (fun i=>upOk (fnD l f) p ((fnD l g).ups[i]?.getD (false,0))) 0 (fnD l g).ups.length):=rfl;have HUO:Hid (∀ u:Bool×Int,upOk (fnD l f) p u=if u.1 then decide (0<=u.2)&&decide (u.2<(fnD l f).vars.length)&&sVisible (fnD l f).params (fnD l f).nodes p u.2 else decide (0<=u.2)&&decide (u.2<(fnD l f).ups.length)):=fun u=>rfl;clear hs hB hk hrp hcc NF NG hgI hvI huI hnI c0 c1 c2 c3 hva hua hna;generalize sUps (fnD l f) p (fnD l g).ups=RES at *;generalize hup:upOk (fnD l f) p=UO at *;generalize (fnD l g).ups=us at *;generalize fnD l f=x at *;obtain⟨name,line,params,rest,vars,ups,nodes⟩:=x;dsimp only at *;clear hup;go_enter Tryd.func29,Tryd.ntmps29;go_wp2_with fail
 go_loopg [20] us.length (fun gg i wr=>∃(k:Nat),k+gg=us.length/\i=.int .i64 k/\FT w (.cells #[.slice (some ⟨b,off,none⟩) l.length c] 31) (.cells #[.slice (some ⟨bp,0,none⟩) nodes.length nodes.length,.slice dv nodes.length nodes.length] 55) wr/\Hid (∀ j,0<=j->j<k->UO (us[j]?.getD (false,0))=true))
 case atStart=>exact⟨0,by omega,rfl,unhide X0,fun j _ h=>absurd h (Nat.not_lt_zero _)⟩
 case round=>
  clear X0 hgu;obtain⟨k,hkg,rfl,hx,hall⟩:=hrel;have u0:wr.cell? ⟨w.heap.size,0,none⟩=some (.slice (some ⟨b,off,none⟩) l.length c):=by rw[hx.cell0];simp[go_sem]
  have t0:wr.cell? ⟨w.heap.size+1,0,none⟩=some (.slice (some ⟨bp,0,none⟩) nodes.length nodes.length):=by rw[hx.cell1];simp[go_sem]
  have t1:wr.cell? ⟨w.heap.size+1,1,none⟩=some (.slice dv nodes.length nodes.length):=by rw[hx.cell1];simp[go_sem]
  have hsz:=hx.size;have z1:w.heap.size<wr.heap.size:=by omega
  have z2:w.heap.size+1<wr.heap.size:=by omega
  have z4:b<wr.heap.size:=by omega
  have hfI:(f:Int)<l.length:=by omega
  have hfI0:(0:Int)<=(f:Int):=by omega
  by_cases hlt:k<us.length
  ·obtain⟨b2,off2,rfl,hb2,hc2⟩:=((unhide HG).keep hx.old (unhide HB)).2 (by omega);obtain⟨e0,e1⟩:=hc2 k hlt;have HUk:=hide (unhide HUO (us[k]?.getD (false,0)));obtain⟨hva,hua,hna,c0,c1,c2,c3⟩:=unhide CELLS;have old:∀ o,wr.cell? ⟨b,o,none⟩=w.cell? ⟨b,o,none⟩:=fun o=>hx.old.cell (p:=⟨b,o,none⟩) hbs;have hva':=(old _).trans hva;have hua':=(old _).trans hua;have hna':=(old _).trans hna;have d0:=(old _).trans c0;have d1:=(old _).trans c1;have d2:=(old _).trans c2;have d3:=(old _).trans c3;have hrow:=(unhide HR).of_block (hx.old.block bp (unhide HR).lt);have HRr:=hide hrow;have HNr:=hide ((unhide HN).keep hx.old (unhide HB));have HBr:Hid (∀ b,S b->b<wr.heap.size):=fun b h=>Nat.lt_of_lt_of_le (unhide HB b h) hx.old.size;have hbl:Below wr.heap.size wr (wr.alloc (.cells #[.bool (us[k]?.getD (false,0)).1,.int .i64 (us[k]?.getD (false,0)).2] 92)):=(Below.refl _ _).alloc (Nat.le_refl _) _;have HBL:=hide hbl;have HKU:Hid (∀ r,UO (us[k]?.getD (false,0))=r->r=true->∀ j,0<=j->j<k+1->UO (us[j]?.getD (false,0))=true):=fun r h1 h2 j _ hj=>by
    by_cases e:j=k
    ·subst e;rw[h1,h2]
    ·exact hall.out j (Nat.zero_le _) (by omega)
   have HKF:Hid (UO (us[k]?.getD (false,0))=false->RES=false):=fun h=>by
    rw[unhide HSU];exact allFrom_false (q:=fun i=>UO (us[i]?.getD (false,0))) (Nat.zero_le k) hlt h
   clear hc2 old hrow hva hua hna c0 c1 c2 c3 hbl;generalize us[k]?.getD (false,0)=u at *;obtain⟨loc,ix⟩:=u;dsimp only at *;cases loc
   ·
    have HU2:Hid (UO (false,ix)=(decide (0<=ix)&&decide (ix<ups.length))):=unhide HUk;by_cases q1:ix<0
    ·have s1:decide (ix<0)=true:=decide_eq_true q1;have HF:Hid (RES=false):=unhide HKF (by rw[unhide HU2,decide_eq_false (show ¬0<=ix by omega)];rfl);go_wp2_with fail
     go_big_region
     all_goals (go_wp2_with fail)
     all_goals go_ret
     all_goals exact⟨ret_bool (unhide HF).symm,(hx.alloc _).drew.old⟩
    ·have s1:decide (ix<0)=false:=decide_eq_false q1;by_cases q2:(ups.length:Int)<=ix
     ·have s2:decide ((ups.length:Int)<=ix)=true:=decide_eq_true q2;have HF:Hid (RES=false):=unhide HKF (by rw[unhide HU2,decide_eq_false (show ¬ix<ups.length by omega),Bool.and_false]);go_wp2_with fail
      go_big_region
      all_goals (go_wp2_with fail)
      all_goals go_ret
      all_goals exact⟨ret_bool (unhide HF).symm,(hx.alloc _).drew.old⟩
     ·have s2:decide ((ups.length:Int)<=ix)=false:=decide_eq_false q2;have HT:Hid (UO (false,ix)=true):=by show _=_;rw[unhide HU2,decide_eq_true (show 0<=ix by omega),decide_eq_true (show ix<ups.length by omega)];rfl
      go_wp2_with fail
      go_big_region
      all_goals (go_wp2_with fail)
      all_goals go_roundg (us.length-(k+1))
      all_goals first
       | (case measure=>omega)
       | skip
      all_goals exact⟨k+1,by omega,by go_num,(hx.alloc _).drew,unhide HKU _ rfl (unhide HT)⟩
   ·have HU2:Hid (UO (true,ix)=(decide (0<=ix)&&decide (ix<vars.length)&&sVisible params nodes p ix)):=unhide HUk;by_cases q1:ix<0
    ·have s1:decide (ix<0)=true:=decide_eq_true q1;have HF:Hid (RES=false):=unhide HKF (by rw[unhide HU2,decide_eq_false (show ¬0<=ix by omega)];rfl);go_wp2_with fail
     go_big_region
     all_goals (go_wp2_with fail)
     all_goals go_ret
     all_goals exact⟨ret_bool (unhide HF).symm,(hx.alloc _).drew.old⟩
    ·have s1:decide (ix<0)=false:=decide_eq_false q1;by_cases q2:(vars.length:Int)<=ix
     ·have s2:decide ((vars.length:Int)<=ix)=true:=decide_eq_true q2;have HF:Hid (RES=false):=unhide HKF (by rw[unhide HU2,decide_eq_false (show ¬ix<vars.length by omega),Bool.and_false];rfl);go_wp2_with fail
      go_big_region
      all_goals (go_wp2_with fail)
      all_goals go_ret
      all_goals exact⟨ret_bool (unhide HF).symm,(hx.alloc _).drew.old⟩
     ·have s2:decide ((vars.length:Int)<=ix)=false:=decide_eq_false q2;have HU3:Hid (UO (true,ix)=sVisible params nodes p ix):=by show _=_;rw[unhide HU2,decide_eq_true (show 0<=ix by omega),decide_eq_true (show ix<vars.length by omega)];rfl
      cases hvis:sVisible params nodes p ix
      ·have HV:=hide hvis;have HF:Hid (RES=false):=unhide HKF (by rw[unhide HU3,hvis]);clear hvis;go_wp2_with fail
       go_region_held3 (fun w'=>w'.cell? ⟨wr.heap.size,1,none⟩=some (.int .i64 ix)/\w'.cell? ⟨w.heap.size,0,none⟩=some (.slice (some ⟨b,off,none⟩) l.length c)/\w'.cell? ⟨b,off+f * 7,none⟩=some (.string name)/\w'.cell? ⟨b,off+f * 7+1,none⟩=some (.int .i64 line)/\w'.cell? ⟨b,off+f * 7+2,none⟩=some (.int .i64 params)/\w'.cell? ⟨b,off+f * 7+3,none⟩=some (.bool rest)/\w'.cell? ⟨b,off+f * 7+4,none⟩=some (.slice va vars.length vc)/\w'.cell? ⟨b,off+f * 7+5,none⟩=some (.slice ua ups.length uc)/\w'.cell? ⟨b,off+f * 7+6,none⟩=some (.slice na nodes.length nc)/\w'.cell? ⟨w.heap.size+1,0,none⟩=some (.slice (some ⟨bp,0,none⟩) nodes.length nodes.length)/\w'.cell? ⟨w.heap.size+1,1,none⟩=some (.slice dv nodes.length nodes.length)) (simp[go_sem, *])
        (first | (go_at_call 48;refine(l3visible_from wr _ (unhide HNr) (unhide HBr) (unhide HRr) (unhide HK) hl hp (by exact(unhide HBL).drew)).mono ?_;rintro e w2 ⟨rfl,hb2'⟩;rw[unhide HV];obtain⟨hcx,hfx⟩:=bcell hb2'))
       all_goals (go_wp2_with fail)
       all_goals go_ret
       all_goals exact⟨ret_bool (unhide HF).symm,((hx.alloc _).drew.below' hb2').old⟩
      ·have HV:=hide hvis;have HT:Hid (UO (true,ix)=true):=by show _=_;rw[unhide HU3,hvis]
       clear hvis;go_wp2_with fail
       go_region_held3 (fun w'=>w'.cell? ⟨wr.heap.size,1,none⟩=some (.int .i64 ix)/\w'.cell? ⟨w.heap.size,0,none⟩=some (.slice (some ⟨b,off,none⟩) l.length c)/\w'.cell? ⟨b,off+f * 7,none⟩=some (.string name)/\w'.cell? ⟨b,off+f * 7+1,none⟩=some (.int .i64 line)/\w'.cell? ⟨b,off+f * 7+2,none⟩=some (.int .i64 params)/\w'.cell? ⟨b,off+f * 7+3,none⟩=some (.bool rest)/\w'.cell? ⟨b,off+f * 7+4,none⟩=some (.slice va vars.length vc)/\w'.cell? ⟨b,off+f * 7+5,none⟩=some (.slice ua ups.length uc)/\w'.cell? ⟨b,off+f * 7+6,none⟩=some (.slice na nodes.length nc)/\w'.cell? ⟨w.heap.size+1,0,none⟩=some (.slice (some ⟨bp,0,none⟩) nodes.length nodes.length)/\w'.cell? ⟨w.heap.size+1,1,none⟩=some (.slice dv nodes.length nodes.length)) (simp[go_sem, *])
        (first | (go_at_call 48;refine(l3visible_from wr _ (unhide HNr) (unhide HBr) (unhide HRr) (unhide HK) hl hp (by exact(unhide HBL).drew)).mono ?_;rintro e w2 ⟨rfl,hb2'⟩;rw[unhide HV];obtain⟨hcx,hfx⟩:=bcell hb2'))
       all_goals (go_wp2_with fail)
       all_goals go_roundg (us.length-(k+1))
       all_goals first
        | (case measure=>omega)
        | skip
       all_goals exact⟨k+1,by omega,by go_num,(hx.alloc _).drew.below' hb2',unhide HKU _ rfl (unhide HT)⟩
  ·have HT:Hid (RES=true):=by show _=_;rw[unhide HSU];exact allFrom_true (q:=fun i=>UO (us[i]?.getD (false,0))) (fun j h1 h2=>hall.out j h1 (by omega))
   go_wp2_with fail
   go_ret;exact⟨ret_bool (unhide HT).symm,hx.old⟩
attribute [local go_sem] run_store_float
structure But (s B:Nat)(w w':World):Prop where
 os:w'.os=w.os
 tape:w'.tape=w.tape
 output:w'.output=w.output
 size:w.heap.size<=w'.heap.size
 block:∀ k,k<B->k≠s->w'.heap[k]? = w.heap[k]?
section
variable {s B B':Nat} {w w' w2:World}
theorem But.refl (s B:Nat)(w:World):But s B w w:=⟨rfl,rfl,rfl,Nat.le_refl _,fun _ _ _=>rfl⟩
theorem But.trans (h:But s B w w')(k:But s B w' w2):But s B w w2:=⟨k.os.trans h.os,k.tape.trans h.tape,k.output.trans h.output,Nat.le_trans h.size k.size,fun i hi hs=>(k.block i hi hs).trans (h.block i hi hs)⟩
theorem But.mono (h:But s B w w')(hB:B'<=B):But s B' w w':=⟨h.os,h.tape,h.output,h.size,fun k hk hs=>h.block k (Nat.lt_of_lt_of_le hk hB) hs⟩
theorem But.of_below (h:Below B w w'):But s B w w':=⟨h.os,h.tape,h.output,h.size,fun k hk _=>h.block k hk⟩
theorem But.below (h:But s B w w')(hb:Below B' w' w2)(hB:B<=B'):But s B w w2:=h.trans ((But.of_below hb).mono hB)
theorem But.alloc (h:But s B w w')(hB:B<=w'.heap.size)(o:Obj):But s B w (w'.alloc o):=h.trans (.of_below ((Below.refl _ _).alloc hB o))
theorem But.drew (h:But s B w w'):But s B w w'.drew:=⟨h.os,h.tape,h.output,h.size,h.block⟩
theorem But.set (h:But s B w w')(j:Nat)(v:Value):But s B w (w'.setCell ⟨s,j,none⟩ v):=
 ⟨h.os,h.tape,h.output,by simpa using h.size,fun k hk hs=>(Below.heap_setCell w' ⟨s,j,none⟩ v k hs).trans (h.block k hk hs)⟩
theorem But.cell (h:But s B w w'){b:Nat}(hb:b<B)(hs:b≠s)(o:Nat):w'.cell? ⟨b,o,none⟩=w.cell? ⟨b,o,none⟩:=World.cell?_of_block (a:=⟨b,o,none⟩) (h.block b hb hs)
theorem But.same {S:Nat->Prop}(h:But s B w w')(hS:∀ b,S b->b<B/\b≠s):Same S w w':=fun b hb=>h.block b (hS b hb).1 (hS b hb).2
end
def seenTo (seen:Nat->Bool)(refs:List Int):Nat->Nat->Bool
 | 0,v=>seen v
 | k+1,v=>seenTo seen refs k v||decide (refs[k]?.getD 0=(v:Int))
def refGood (nv:Nat)(seen:Nat->Bool)(refs:List Int)(k:Nat):Bool:=decide (0<=refs[k]?.getD 0)&&decide (refs[k]?.getD 0<nv) && !(seenTo seen refs k (refs[k]?.getD 0).toNat)
def ref0 (n:NodeD):Int:=n.refs[0]?.getD 0
def sRefs (nf:Nat)(x:FnD)(p:Nat)(seen:Nat->Bool):Bool:=
 let n:=nd x.nodes p
 if n.kind=27 then decide (0<=ref0 n)&&decide (ref0 n<x.ups.length)
 else if n.kind=36 then decide (0<=ref0 n)&&decide (ref0 n<nf)
 else if n.kind=26 then decide (0<=ref0 n)&&decide (ref0 n<x.vars.length)&&sVisible x.params x.nodes p (ref0 n)
 else allFrom (refGood x.vars.length seen n.refs) 0 n.refs.length
def sSeen (x:FnD)(p:Nat)(seen:Nat->Bool):Nat->Bool:=
 let n:=nd x.nodes p
 if n.kind=27\/n.kind=36\/n.kind=26 then seen else seenTo seen n.refs n.refs.length
def box4 (w:World)(o1 o2 o3 o4:Obj):World:=(((w.alloc o1).alloc o2).alloc o3).alloc o4
theorem l3refs_one (a:Option Addr)(nf c:Nat)(nm:ByteArray)(ln pr:Int)(rs:Bool)(n4 n5:Nat)(a4 a5 a6:Option Addr)(c4 c5 c6:Nat)(ns:List NodeD)(bp bs nv:Nat)(dv:Option Addr)(p:Nat)(S:Nat->Prop)(w:World)
  (_hnf:nf<=1048576)(_h4:n4<=1048576)(_h5:n5<=1048576)
  (hs:NodesAt w S a6 ns)(hB:∀ b,S b->b<w.heap.size)(hp:p<ns.length)(hone:(nd ns p).refs.length=1)(hk:(nd ns p).kind=27\/(nd ns p).kind=36) :
  Calls Tryd.prog 27 #[.agg #[.slice a nf c],.agg #[.string nm,.int .i64 ln,.int .i64 pr,.bool rs,.slice a4 n4 c4,.slice a5 n5 c5,.slice a6 ns.length c6],.agg #[.slice (some ⟨bp,0,none⟩) ns.length ns.length,.slice dv ns.length ns.length],.int .i64 p,.slice (some ⟨bs,0,none⟩) nv nv] w fun e w'=>
   e=.returned (.bool (decide (0<=ref0 (nd ns p))&&decide (ref0 (nd ns p)<(if(nd ns p).kind=27 then(n5:Int)else nf))))/\Below w.heap.size w w':=by
 have hn:=hs.1;obtain⟨b,off,rfl,hb,hcc⟩:=hs.2 (by omega);have hbs:b<w.heap.size:=hB b hb;have N:NodeCells w S b (off+p * 8) (nd ns p):=hcc p hp;obtain⟨ra,rc,hr,hrI⟩:=N.refs;obtain⟨ka,kc,hkk,hkI⟩:=N.kids;obtain⟨b2,off2,ea,hb2,hc2⟩:=hrI.2 (by omega);have hb2s:b2<w.heap.size:=hB b2 hb2;have m1:b<w.heap.size+1:=by omega
 have m2:b<w.heap.size+1+1:=by omega
 have m3:b<w.heap.size+1+1+1:=by omega
 have m4:b2<w.heap.size+1:=by omega
 have m5:b2<w.heap.size+1+1:=by omega
 have m6:b2<w.heap.size+1+1+1:=by omega
 have r0:w.cell? ⟨b2,off2,none⟩=some (.int .i64 (ref0 (nd ns p))):=by have:=hc2 0 (by omega);rw[Nat.add_zero]at this;exact this
 have c0:=N.kind;have c1:=N.line;have c2:=N.op;have c3:=N.num;have c4':=N.flt;have c5':=N.str;rw[hone]at hr;clear hs hB hcc N hrI hkI hc2 hone;generalize ref0 (nd ns p)=r at *;generalize nd ns p=n at *;obtain⟨kind,line,op,num,flt,str,refs,kids⟩:=n;dsimp only at *;subst ea;have BB:Hid (∀ o1 o2 o3 o4,Below w.heap.size w (box4 w o1 o2 o3 o4)):=fun o1 o2 o3 o4=>blkB w o1 o2 o3 o4;by_cases q1:0<=r
 ·have s1:decide (0<=r)=true:=decide_eq_true q1;rcases hk with rfl | rfl
  ·by_cases q2:r<n5
   ·have s2:decide (r<(n5:Int))=true:=decide_eq_true q2;go_enter Tryd.func27,Tryd.ntmps27;go_wp2_with fail
    go_big_region
    all_goals (go_wp2_with fail)
    all_goals go_ret
    all_goals exact⟨ret_bool (by simp),(BB.out _ _ _ _).drew⟩
   ·have s2:decide (r<(n5:Int))=false:=decide_eq_false q2;go_enter Tryd.func27,Tryd.ntmps27;go_wp2_with fail
    go_big_region
    all_goals (go_wp2_with fail)
    all_goals go_ret
    all_goals exact⟨ret_bool (by simp),(BB.out _ _ _ _).drew⟩
  ·by_cases q2:r<nf
   ·have s2:decide (r<(nf:Int))=true:=decide_eq_true q2;go_enter Tryd.func27,Tryd.ntmps27;go_wp2_with fail
    go_big_region
    all_goals (go_wp2_with fail)
    all_goals go_ret
    all_goals exact⟨ret_bool (by simp),(BB.out _ _ _ _).drew⟩
   ·have s2:decide (r<(nf:Int))=false:=decide_eq_false q2;go_enter Tryd.func27,Tryd.ntmps27;go_wp2_with fail
    go_big_region
    all_goals (go_wp2_with fail)
    all_goals go_ret
    all_goals exact⟨ret_bool (by simp),(BB.out _ _ _ _).drew⟩
 ·have s1:decide (0<=r)=false:=decide_eq_false q1;rcases hk with rfl | rfl
  all_goals
   go_enter Tryd.func27,Tryd.ntmps27;go_wp2_with fail
   go_big_region
   all_goals (go_wp2_with fail)
   all_goals go_ret
   all_goals exact⟨ret_bool (by simp),(BB.out _ _ _ _).drew⟩
attribute [local go_sem] run_store_float
theorem l3refs_var (a:Option Addr)(nf c:Nat)(nm:ByteArray)(ln pr:Int)(rs:Bool)(n4 n5:Nat)(a4 a5 a6:Option Addr)(c4 c5 c6:Nat)(ns:List NodeD)(bp bs nv:Nat)(dv:Option Addr)(p:Nat)(S:Nat->Prop)(w:World)
  (_h4:n4<=1048576)(hs:NodesAt w S a6 ns)(hB:∀ b,S b->b<w.heap.size)(hp:p<ns.length)(hone:(nd ns p).refs.length=1)(hk:(nd ns p).kind=26)
  (hrp:w.rowIs bp 3 ns.length (fun j=>.int .i64 (sPar ns j)))(hki:∀ p,p<ns.length->kidsIn ns p=true)(hl:ns.length<=3000) :
  Calls Tryd.prog 27 #[.agg #[.slice a nf c],.agg #[.string nm,.int .i64 ln,.int .i64 pr,.bool rs,.slice a4 n4 c4,.slice a5 n5 c5,.slice a6 ns.length c6],.agg #[.slice (some ⟨bp,0,none⟩) ns.length ns.length,.slice dv ns.length ns.length],.int .i64 p,.slice (some ⟨bs,0,none⟩) nv nv] w fun e w'=>
   e=.returned (.bool (decide (0<=ref0 (nd ns p))&&decide (ref0 (nd ns p)<(n4:Int))&&sVisible pr ns p (ref0 (nd ns p))))/\Below w.heap.size w w':=by
 have hn:=hs.1;have HSN:=hide hs;have HB:=hide hB;have HKI:=hide hki;have HR:=hide hrp;obtain⟨b,off,rfl,hb,hcc⟩:=hs.2 (by omega);have hbs:b<w.heap.size:=hB b hb;have N:NodeCells w S b (off+p * 8) (nd ns p):=hcc p hp;obtain⟨ra,rc,hr,hrI⟩:=N.refs;obtain⟨ka,kc,hkk,hkI⟩:=N.kids;obtain⟨b2,off2,ea,hb2,hc2⟩:=hrI.2 (by omega);have hb2s:b2<w.heap.size:=hB b2 hb2;have m1:b<w.heap.size+1:=by omega
 have m2:b<w.heap.size+1+1:=by omega
 have m3:b<w.heap.size+1+1+1:=by omega
 have r0:w.cell? ⟨b2,off2,none⟩=some (.int .i64 (ref0 (nd ns p))):=by have:=hc2 0 (by omega);rw[Nat.add_zero]at this;exact this
 have c0:=N.kind;have c1:=N.line;have c2:=N.op;have c3:=N.num;have c4':=N.flt;have c5':=N.str;rw[hone]at hr;clear hs hB hcc N hrI hkI hc2 hone hki hrp;generalize ref0 (nd ns p)=r at *;generalize nd ns p=n at *;obtain⟨kind,line,op,num,flt,str,refs,kids⟩:=n;dsimp only at *;subst ea hk;go_enter Tryd.func27,Tryd.ntmps27;go_wp2_with fail
 go_loopg [58] 1 (fun g i wr=>i=.int .i64 0/\Below (w.heap.size+4) ((((w.alloc (.cells #[.slice a nf c] 31)).alloc (.cells #[.string nm,.int .i64 ln,.int .i64 pr,.bool rs,.slice a4 n4 c4,.slice a5 n5 c5,.slice (some ⟨b,off,none⟩) ns.length c6] 49)).alloc (.cells #[.slice (some ⟨bp,0,none⟩) ns.length ns.length,.slice dv ns.length ns.length] 55)).alloc (.cells #[.int .i64 26,.int .i64 line,.int .i64 op,.int .i64 num,.float .f64 flt,.string str,.slice (some ⟨b2,off2,none⟩) 1 rc,.slice ka kids.length kc] 59)) wr)
 case atStart=>exact⟨rfl,Below.refl _ _⟩
 case round=>
  obtain⟨rfl,hx⟩:=hrel;have hold:Below w.heap.size w wr:=(blkB w _ _ _ _).trans (hx.mono (by omega));have cl:∀(d j:Nat),d<4->wr.cell? ⟨w.heap.size+d,j,none⟩=_:=fun d j hd=>hx.cell (p:=⟨w.heap.size+d,j,none⟩) (by show w.heap.size+d<w.heap.size+4;omega);have f0:wr.cell? ⟨w.heap.size+1,0,none⟩=some (.string nm):=by rw[cl 1 0 (by omega)];simp[go_sem]
  have f1:wr.cell? ⟨w.heap.size+1,1,none⟩=some (.int .i64 ln):=by rw[cl 1 1 (by omega)];simp[go_sem]
  have f2:wr.cell? ⟨w.heap.size+1,2,none⟩=some (.int .i64 pr):=by rw[cl 1 2 (by omega)];simp[go_sem]
  have f3:wr.cell? ⟨w.heap.size+1,3,none⟩=some (.bool rs):=by rw[cl 1 3 (by omega)];simp[go_sem]
  have f4:wr.cell? ⟨w.heap.size+1,4,none⟩=some (.slice a4 n4 c4):=by rw[cl 1 4 (by omega)];simp[go_sem]
  have f5:wr.cell? ⟨w.heap.size+1,5,none⟩=some (.slice a5 n5 c5):=by rw[cl 1 5 (by omega)];simp[go_sem]
  have f6:wr.cell? ⟨w.heap.size+1,6,none⟩=some (.slice (some ⟨b,off,none⟩) ns.length c6):=by rw[cl 1 6 (by omega)];simp[go_sem]
  have t0:wr.cell? ⟨w.heap.size+1+1,0,none⟩=some (.slice (some ⟨bp,0,none⟩) ns.length ns.length):=by rw[show w.heap.size+1+1=w.heap.size+2 from rfl,cl 2 0 (by omega)];simp[go_sem]
  have t1:wr.cell? ⟨w.heap.size+1+1,1,none⟩=some (.slice dv ns.length ns.length):=by rw[show w.heap.size+1+1=w.heap.size+2 from rfl,cl 2 1 (by omega)];simp[go_sem]
  have k0:wr.cell? ⟨w.heap.size+1+1+1,0,none⟩=some (.int .i64 26):=by rw[show w.heap.size+1+1+1=w.heap.size+3 from rfl,cl 3 0 (by omega)];simp[go_sem]
  have r0':wr.cell? ⟨b2,off2,none⟩=some (.int .i64 r):=(hold.cell (p:=⟨b2,off2,none⟩) hb2s).trans r0;clear cl hx;by_cases q1:r<0
  ·have s1:decide (r<0)=true:=decide_eq_true q1;go_wp2_with fail
   go_ret;exact⟨ret_bool (by rw[decide_eq_false (show ¬0<=r by omega)];rfl),hold⟩
  ·by_cases q2:(n4:Int)<=r
   ·have s2:decide ((n4:Int)<=r)=true:=decide_eq_true q2;go_wp2_with fail
    go_ret;exact⟨ret_bool (by rw[decide_eq_false (show ¬r<n4 by omega)];simp),hold⟩
   ·have s1:decide (r<0)=false:=decide_eq_false q1;have s2:decide ((n4:Int)<=r)=false:=decide_eq_false q2;go_wp2_with fail
    refine(l3visible_from w _ (unhide HSN) (unhide HB) (unhide HR) (unhide HKI) hl hp hold).mono ?_;rintro e w2 ⟨rfl,hb2'⟩;go_wp2_with fail
    go_ret;exact⟨ret_bool (by rw[decide_eq_true (show 0<=r by omega),decide_eq_true (show r<n4 by omega)];rfl),hold.trans (hb2'.mono hold.size)⟩
theorem rowIs_alloc4 {w:World}{b t n:Nat}{f:Nat->Value}(h:w.rowIs b t n f)(o1 o2 o3 o4:Obj):((((w.alloc o1).alloc o2).alloc o3).alloc o4).rowIs b t n f:=(((h.alloc o1).alloc o2).alloc o3).alloc o4
theorem l3refs_decl (a:Option Addr)(nf c:Nat)(nm:ByteArray)(ln pr:Int)(rs:Bool)(n4 n5:Nat)(a4 a5 a6:Option Addr)(c4 c5 c6:Nat)(ns:List NodeD)(bp bs:Nat)(dv:Option Addr)(seen:Nat->Bool)(p:Nat)(S:Nat->Prop)(w:World)
  (_h4:n4<=1048576)(hs:NodesAt w S a6 ns)(hB:∀ b,S b->b<w.heap.size)(hSs:∀ b,S b->b≠bs)(hp:p<ns.length)(hk26:(nd ns p).kind≠26)(hk27:(nd ns p).kind≠27)(hk36:(nd ns p).kind≠36)
  (hrow:w.rowIs bs 4 n4 (fun j=>.bool (seen j))) :
  Calls Tryd.prog 27 #[.agg #[.slice a nf c],.agg #[.string nm,.int .i64 ln,.int .i64 pr,.bool rs,.slice a4 n4 c4,.slice a5 n5 c5,.slice a6 ns.length c6],.agg #[.slice (some ⟨bp,0,none⟩) ns.length ns.length,.slice dv ns.length ns.length],.int .i64 p,.slice (some ⟨bs,0,none⟩) n4 n4] w fun e w'=>
   e=.returned (.bool (allFrom (refGood n4 seen (nd ns p).refs) 0 (nd ns p).refs.length))/\But bs w.heap.size w w'/\(allFrom (refGood n4 seen (nd ns p).refs) 0 (nd ns p).refs.length=true->w'.rowIs bs 4 n4 (fun j=>.bool (seenTo seen (nd ns p).refs (nd ns p).refs.length j))):=by
 have hn:=hs.1;have hbsl:=hrow.lt;obtain⟨b,off,rfl,hb,hcc⟩:=hs.2 (by omega);have hbs:b<w.heap.size:=hB b hb;have N:NodeCells w S b (off+p * 8) (nd ns p):=hcc p hp;obtain⟨ra,rc,hr,hrI⟩:=N.refs;obtain⟨ka,kc,hkk,hkI⟩:=N.kids;have hrl:=hrI.1;have m1:b<w.heap.size+1:=by omega
 have m2:b<w.heap.size+1+1:=by omega
 have m3:b<w.heap.size+1+1+1:=by omega
 have c0:=N.kind;have c1:=N.line;have c2:=N.op;have c3:=N.num;have c4':=N.flt;have c5':=N.str;have HRI:=hide hrI;have HSS:Hid (∀ b,S b->b<w.heap.size/\b≠bs):=fun b h=>⟨hB b h,hSs b h⟩;have HROW:=hide hrow;clear hs hB hcc N hrI hkI hSs hrow;generalize nd ns p=n at *;obtain⟨kind,line,op,num,flt,str,refs,kids⟩:=n;dsimp only at *;have k1:(kind==27)=false:=beq_eq_false_iff_ne.2 hk27;have k2:(kind==36)=false:=beq_eq_false_iff_ne.2 hk36;have k3:(kind==26)=false:=beq_eq_false_iff_ne.2 hk26;clear hk26 hk27 hk36;go_enter Tryd.func27,Tryd.ntmps27;go_wp2_with fail
 go_loopg [58] refs.length (fun g i wr=>∃(k:Nat),k+g=refs.length/\i=.int .i64 k/\But bs (w.heap.size+4) ((((w.alloc (.cells #[.slice a nf c] 31)).alloc (.cells #[.string nm,.int .i64 ln,.int .i64 pr,.bool rs,.slice a4 n4 c4,.slice a5 n5 c5,.slice (some ⟨b,off,none⟩) ns.length c6] 49)).alloc (.cells #[.slice (some ⟨bp,0,none⟩) ns.length ns.length,.slice dv ns.length ns.length] 55)).alloc (.cells #[.int .i64 kind,.int .i64 line,.int .i64 op,.int .i64 num,.float .f64 flt,.string str,.slice ra refs.length rc,.slice ka kids.length kc] 59)) wr/\wr.rowIs bs 4 n4 (fun j=>.bool (seenTo seen refs k j))/\Hid (∀ j,0<=j->j<k->refGood n4 seen refs j=true))
 case atStart=>exact⟨0,by omega,rfl,But.refl _ _ _,rowIs_alloc4 (unhide HROW) _ _ _ _,fun j _ h=>absurd h (Nat.not_lt_zero _)⟩
 case round=>
  obtain⟨k,hkg,rfl,hx,hrow,hall⟩:=hrel;have hold:But bs w.heap.size w wr:=(But.of_below (blkB w _ _ _ _)).trans (hx.mono (by omega));have hsz:w.heap.size+4<=wr.heap.size:=by have:=hx.size;simpa using this
  have cl:∀(d j:Nat),d<4->wr.cell? ⟨w.heap.size+d,j,none⟩=_:=fun d j hd=>hx.cell (b:=w.heap.size+d) (by omega) (by omega) j;have f4:wr.cell? ⟨w.heap.size+1,4,none⟩=some (.slice a4 n4 c4):=by rw[cl 1 4 (by omega)];simp[go_sem]
  have k0:wr.cell? ⟨w.heap.size+1+1+1,0,none⟩=some (.int .i64 kind):=by rw[show w.heap.size+1+1+1=w.heap.size+3 from rfl,cl 3 0 (by omega)];simp[go_sem]
  clear cl;by_cases hlt:k<refs.length
  ·obtain⟨b2,off2,rfl,hb2,hc2⟩:=((unhide HRI).same (hold.same (unhide HSS))).2 (by omega);have rc':=hc2 k hlt;clear hc2;have HGk:Hid (refGood n4 seen refs k=(decide (0<=refs[k]?.getD 0)&&decide (refs[k]?.getD 0<n4) && !(seenTo seen refs k (refs[k]?.getD 0).toNat))):=rfl;have HSk:Hid (∀ v,seenTo seen refs (k+1) v=(seenTo seen refs k v||decide (refs[k]?.getD 0=(v:Int)))):=fun v=>rfl;generalize refs[k]?.getD 0=r at *;by_cases q1:r<0
   ·have s1:decide (r<0)=true:=decide_eq_true q1;have HF:Hid (allFrom (refGood n4 seen refs) 0 refs.length=false):=allFrom_false (Nat.zero_le k) hlt (by rw[unhide HGk,decide_eq_false (show ¬0<=r by omega)];rfl);go_wp2_with fail
    go_ret;exact⟨ret_bool (unhide HF).symm,hold,fun h=>by rw[unhide HF]at h;cases h⟩
   ·by_cases q2:(n4:Int)<=r
    ·have s2:decide ((n4:Int)<=r)=true:=decide_eq_true q2;have HF:Hid (allFrom (refGood n4 seen refs) 0 refs.length=false):=allFrom_false (Nat.zero_le k) hlt (by rw[unhide HGk,decide_eq_false (show ¬r<n4 by omega)];simp);go_wp2_with fail
     go_ret;exact⟨ret_bool (unhide HF).symm,hold,fun h=>by rw[unhide HF]at h;cases h⟩
    ·have s1:decide (r<0)=false:=decide_eq_false q1;obtain⟨v,rfl⟩:=Int.eq_ofNat_of_zero_le (show 0<=r by omega);have s2:decide (n4<=v)=false:=decide_eq_false (by omega);have hvn:v<n4:=by omega
     have sc:=hrow.cell hvn;have sf:=hrow.frozen v;cases hsn:seenTo seen refs k v
     ·rw[hsn]at sc;have HN:=hide hsn;have HG:Hid (refGood n4 seen refs k=true):=by show _=_;rw[unhide HGk,decide_eq_true (show(0:Int)<=v by omega),decide_eq_true (show(v:Int)<n4 by omega),Int.toNat_natCast,hsn];rfl
      clear hsn;go_wp2_with fail
      go_roundg (refs.length-(k+1))
      case measure=>omega
      case rel=>
       refine⟨k+1,by omega,by go_num,hx.set v _,(hrow.set v _).congr fun j hj=>?_,fun j _ hj=>?_⟩
       ·rw[unhide HSk j];by_cases e:j=v
        ·subst e;simp
        ·have:¬((v:Int)=j):=by omega
         simp[e,this]
       ·by_cases e:j=k
        ·subst e;exact unhide HG
        ·exact hall.out j (Nat.zero_le _) (by omega)
     ·rw[hsn]at sc;have HF:Hid (allFrom (refGood n4 seen refs) 0 refs.length=false):=allFrom_false (Nat.zero_le k) hlt (by rw[unhide HGk,Int.toNat_natCast,hsn];simp);clear hsn;go_wp2_with fail
      go_ret;exact⟨ret_bool (unhide HF).symm,hold,fun h=>by rw[unhide HF]at h;cases h⟩
  ·have HT:Hid (allFrom (refGood n4 seen refs) 0 refs.length=true):=allFrom_true (fun j h1 h2=>hall.out j h1 (by omega));have e:k=refs.length:=by omega
   have HROW2:Hid (wr.rowIs bs 4 n4 (fun j=>.bool (seenTo seen refs refs.length j))):=by subst e;exact hrow
   go_wp2_with fail
   go_ret;exact⟨ret_bool (unhide HT).symm,hold,fun _=>unhide HROW2⟩
attribute [local go_sem] run_store_float
theorem headBad_of {l:List FnD}{f:Nat}(h:sHead l f=true):¬headBad (fnD l f) f:=fun hb=>by rw[sHead_bad hb]at h;cases h
theorem Shaped.head {l:List FnD}(h:Shaped l){f:Nat}(hf:f<l.length):(fnD l f).vars.length<=200/\(fnD l f).ups.length<=200/\0<=(fnD l f).params/\(fnD l f).params<=(fnD l f).vars.length:=by
 have hb:=headBad_of (h.heads f hf);unfold headBad at hb;simp only[not_or]at hb;obtain⟨_,h2,h3,h4,h5,_⟩:=hb;omega
theorem stat_no {k:Int}(h:k=26\/k=27\/k=36):isStat k=false:=by rcases h with rfl | rfl | rfl<;>rfl
theorem Shaped.ref1 {l:List FnD}(h:Shaped l){f p:Nat}(hf:f<l.length)(hp:p<(fnD l f).nodes.length)(hk:(nd (fnD l f).nodes p).kind=26\/(nd (fnD l f).nodes p).kind=27\/(nd (fnD l f).nodes p).kind=36) :
  (nd (fnD l f).nodes p).refs.length=1:=by
 have hs:=h.node hf hp;unfold sShape at hs;rw[stat_no hk]at hs;simp only[Bool.false_eq_true,if_false,Bool.and_eq_true]at hs;have hx:=hs.2.2;unfold sExpression at hx;generalize (fnD l f).nodes=ns at *;have hb:sBare (nd ns p) false false false false 1=true:=by
  rcases hk with hk | hk | hk
  all_goals
   rw[hk]at hx;simp only[exArm,Bool.and_eq_true]at hx;exact hx.2
 unfold sBare sBareV at hb;simp only[Bool.and_eq_true]at hb;have h3:((nd ns p).refs.length:Int)=1:=by simpa using hb.2
 omega
def seenAt (x:FnD):Nat->Nat->Bool
 | 0=>fun v=>decide ((v:Int)<x.params)
 | p+1=>sSeen x p (seenAt x p)
def refsBad (l:List FnD)(f p:Nat):Bool:=!sRefs l.length (fnD l f) p (seenAt (fnD l f) p)
def breakBad (l:List FnD)(f p:Nat):Bool:=((nd (fnD l f).nodes p).kind==9||(nd (fnD l f).nodes p).kind==10) && !sInloop (fnD l f).nodes p
def madeFn (x:FnD)(m:Nat->Bool):Nat->Nat->Bool
 | 0=>m
 | p+1=>if(nd x.nodes p).kind=36 then(fun g=>madeFn x m p g||decide (ref0 (nd x.nodes p)=(g:Int)))else madeFn x m p
def madeUpto (l:List FnD):Nat->Nat->Bool
 | 0=>fun _=>false
 | f+1=>madeFn (fnD l f) (madeUpto l f) (fnD l f).nodes.length
def madeAt (l:List FnD)(f p:Nat):Nat->Bool:=madeFn (fnD l f) (madeUpto l f) p
def fnBad (l:List FnD)(f p:Nat):Bool:=
 ((nd (fnD l f).nodes p).kind==37 && !(fnD l f).rest) ||
 ((nd (fnD l f).nodes p).kind==36&&(decide (ref0 (nd (fnD l f).nodes p)<=f)||madeAt l f p (ref0 (nd (fnD l f).nodes p)).toNat || !sUps (fnD l f) p (fnD l (ref0 (nd (fnD l f).nodes p)).toNat).ups))
def Fault69 (l:List FnD)(c f n:Int):Prop:=
 (c=6/\∃ F P:Nat,f=F/\n=P/\First l (refsBad l) F P) \/
 (NoBad l (refsBad l)/\c=7/\∃ F P:Nat,f=F/\n=P/\First l (breakBad l) F P) \/
 (NoBad l (refsBad l)/\NoBad l (breakBad l)/\c=8/\∃ F P:Nat,f=F/\n=P/\First l (fnBad l) F P) \/
 (NoBad l (refsBad l)/\NoBad l (breakBad l)/\NoBad l (fnBad l)/\c=9/\n=0/\∃ F:Nat,f=F/\1<=F/\F<l.length/\madeUpto l l.length F=false/\∀ g,1<=g->g<F->madeUpto l l.length g=true) \/
 (NoBad l (refsBad l)/\NoBad l (breakBad l)/\NoBad l (fnBad l)/\c=0/\f=0/\n=0/\∀ g,1<=g->g<l.length->madeUpto l l.length g=true)
theorem l3refs_any (a:Option Addr)(nf c:Nat)(x:FnD)(a4 a5 a6:Option Addr)(c4 c5 c6:Nat)(bp bs:Nat)(dv:Option Addr)(seen:Nat->Bool)(p:Nat)(S:Nat->Prop)(w:World)
  (hnf:nf<=1048576)(h4:x.vars.length<=1048576)(h5:x.ups.length<=1048576)(hs:NodesAt w S a6 x.nodes)(hB:∀ b,S b->b<w.heap.size)(hSs:∀ b,S b->b≠bs)(hp:p<x.nodes.length)
  (hone:(nd x.nodes p).kind=26\/(nd x.nodes p).kind=27\/(nd x.nodes p).kind=36->(nd x.nodes p).refs.length=1)
  (hrow:w.rowIs bs 4 x.vars.length (fun j=>.bool (seen j)))(hrp:w.rowIs bp 3 x.nodes.length (fun j=>.int .i64 (sPar x.nodes j)))(hki:∀ p,p<x.nodes.length->kidsIn x.nodes p=true)(hl:x.nodes.length<=3000) :
  Calls Tryd.prog 27 #[.agg #[.slice a nf c],.agg #[.string x.name,.int .i64 x.line,.int .i64 x.params,.bool x.rest,.slice a4 x.vars.length c4,.slice a5 x.ups.length c5,.slice a6 x.nodes.length c6],.agg #[.slice (some ⟨bp,0,none⟩) x.nodes.length x.nodes.length,.slice dv x.nodes.length x.nodes.length],.int .i64 p,.slice (some ⟨bs,0,none⟩) x.vars.length x.vars.length] w fun e w'=>
   e=.returned (.bool (sRefs nf x p seen))/\But bs w.heap.size w w'/\(sRefs nf x p seen=true->w'.rowIs bs 4 x.vars.length (fun j=>.bool (sSeen x p seen j))):=by
 have keep:∀ w':World,Below w.heap.size w w'->w'.rowIs bs 4 x.vars.length (fun j=>.bool (seen j)):=fun w' h=>hrow.of_block (h.block bs hrow.lt);by_cases k27:(nd x.nodes p).kind=27
 ·have e1:sRefs nf x p seen=(decide (0<=ref0 (nd x.nodes p))&&decide (ref0 (nd x.nodes p)<(if(nd x.nodes p).kind=27 then(x.ups.length:Int)else nf))):=by unfold sRefs;rw[if_pos k27,if_pos k27]
  have e2:sSeen x p seen=seen:=by unfold sSeen;rw[if_pos (.inl k27)]
  rw[e1,e2];refine(l3refs_one a nf c x.name x.line x.params x.rest x.vars.length x.ups.length a4 a5 a6 c4 c5 c6 x.nodes bp bs x.vars.length dv p S w hnf h4 h5 hs hB hp (hone (.inr (.inl k27))) (.inl k27)).mono ?_;rintro e w' ⟨h1,h2⟩;exact⟨h1,.of_below h2,fun _=>keep w' h2⟩
 by_cases k36:(nd x.nodes p).kind=36
 ·have e1:sRefs nf x p seen=(decide (0<=ref0 (nd x.nodes p))&&decide (ref0 (nd x.nodes p)<(if(nd x.nodes p).kind=27 then(x.ups.length:Int)else nf))):=by unfold sRefs;rw[if_neg k27,if_pos k36,if_neg k27]
  have e2:sSeen x p seen=seen:=by unfold sSeen;rw[if_pos (.inr (.inl k36))]
  rw[e1,e2];refine(l3refs_one a nf c x.name x.line x.params x.rest x.vars.length x.ups.length a4 a5 a6 c4 c5 c6 x.nodes bp bs x.vars.length dv p S w hnf h4 h5 hs hB hp (hone (.inr (.inr k36))) (.inr k36)).mono ?_;rintro e w' ⟨h1,h2⟩;exact⟨h1,.of_below h2,fun _=>keep w' h2⟩
 by_cases k26:(nd x.nodes p).kind=26
 ·have e1:sRefs nf x p seen=(decide (0<=ref0 (nd x.nodes p))&&decide (ref0 (nd x.nodes p)<(x.vars.length:Int))&&sVisible x.params x.nodes p (ref0 (nd x.nodes p))):=by unfold sRefs;rw[if_neg k27,if_neg k36,if_pos k26]
  have e2:sSeen x p seen=seen:=by unfold sSeen;rw[if_pos (.inr (.inr k26))]
  rw[e1,e2];refine(l3refs_var a nf c x.name x.line x.params x.rest x.vars.length x.ups.length a4 a5 a6 c4 c5 c6 x.nodes bp bs x.vars.length dv p S w h4 hs hB hp (hone (.inl k26)) k26 hrp hki hl).mono ?_;rintro e w' ⟨h1,h2⟩;exact⟨h1,.of_below h2,fun _=>keep w' h2⟩
 ·have e1:sRefs nf x p seen=allFrom (refGood x.vars.length seen (nd x.nodes p).refs) 0 (nd x.nodes p).refs.length:=by unfold sRefs;rw[if_neg k27,if_neg k36,if_neg k26]
  have e2:sSeen x p seen=seenTo seen (nd x.nodes p).refs (nd x.nodes p).refs.length:=by unfold sSeen;rw[if_neg (by rintro(h | h | h)<;>contradiction)]
  rw[e1,e2];exact l3refs_decl a nf c x.name x.line x.params x.rest x.vars.length x.ups.length a4 a5 a6 c4 c5 c6 x.nodes bp bs dv seen p S w h4 hs hB hSs hp k26 k27 k36 hrow
attribute [local go_sem] run_store_float
theorem info_bool:(Tryd.prog.info? 4).map (fun i=>(i.zero,i.size,i.bytes))=some (some (.bool false),1,1):=by kernel_rfl
structure ThirdW (w:World)(a:Option Addr)(nl c:Nat)(x:FnD)(R:FnR)(bf bt bp bd bs:Nat)(seen:Nat->Bool)(wr:World):Prop where
 box:Box2 w a nl c wr
 fc:∀ j,j<7->wr.cell? ⟨bf,j,none⟩=some (fnCell x R j)
 tree:TreeIn x.nodes bp bd bt wr
 row:wr.rowIs bs 4 x.vars.length (fun j=>.bool (seen j))
 n0:w.heap.size+2<=bs
 n1:bf≠bs
 n2:bt≠bs
 n3:bp≠bs
 n4:bd≠bs
theorem Box2.but {w:World}{a:Option Addr}{n c:Nat}{wr w2:World}{bs:Nat}(h:Box2 w a n c wr)(hb:But bs wr.heap.size wr w2)(hbs:w.heap.size+2<=bs):Box2 w a n c w2:=
  ⟨{ os:=hb.os.trans h.below.os,tape:=hb.tape.trans h.below.tape,output:=hb.output.trans h.below.output,size:=Nat.le_trans h.below.size hb.size,block:=fun k hk=>(hb.block k (Nat.lt_of_lt_of_le hk h.size) (by omega)).trans (h.below.block k hk) }⟩
theorem ThirdW.next {w:World}{a:Option Addr}{nl c:Nat}{x:FnD}{R:FnR}{bf bt bp bd bs:Nat}{seen seen':Nat->Bool}{wr w2:World}(h:ThirdW w a nl c x R bf bt bp bd bs seen wr)
  (hb:But bs wr.heap.size wr w2)(hrow:w2.rowIs bs 4 x.vars.length (fun j=>.bool (seen' j))):ThirdW w a nl c x R bf bt bp bd bs seen' w2:=
 {box:=h.box.but hb h.n0
  fc:=fun j hj=>(hb.cell (World.block_lt_of_cell? _ _ (h.fc j hj)) h.n1 j).trans (h.fc j hj)
  tree:={ p:=h.tree.p.of_block (hb.block _ h.tree.p.lt h.n3),d:=h.tree.d.of_block (hb.block _ h.tree.d.lt h.n4),t0:=(hb.cell (World.block_lt_of_cell? _ _ h.tree.t0) h.n2 0).trans h.tree.t0,t1:=(hb.cell (World.block_lt_of_cell? _ _ h.tree.t1) h.n2 1).trans h.tree.t1 }
  row:=hrow,n0:=h.n0,n1:=h.n1,n2:=h.n2,n3:=h.n3,n4:=h.n4 }
structure FnTree (w:World)(a:Option Addr)(nl c:Nat)(x:FnD)(R:FnR)(bf bt bp bd:Nat)(wr:World):Prop where
 box:Box2 w a nl c wr
 fc:∀ j,j<7->wr.cell? ⟨bf,j,none⟩=some (fnCell x R j)
 tree:TreeIn x.nodes bp bd bt wr
theorem FnTree.below {w:World}{a:Option Addr}{nl c:Nat}{x:FnD}{R:FnR}{bf bt bp bd:Nat}{wr w2:World}(h:FnTree w a nl c x R bf bt bp bd wr)(hb:Below wr.heap.size wr w2):FnTree w a nl c x R bf bt bp bd w2:=
 {box:=h.box.below' hb,fc:=fun j hj=>(hb.cell (p:=⟨bf,j,none⟩) (World.block_lt_of_cell? _ _ (h.fc j hj))).trans (h.fc j hj),tree:=h.tree.below hb }
theorem FnTree.but {w:World}{a:Option Addr}{nl c:Nat}{x:FnD}{R:FnR}{bf bt bp bd bm:Nat}{wr w2:World}(h:FnTree w a nl c x R bf bt bp bd wr)(hb:But bm wr.heap.size wr w2)(n0:w.heap.size+2<=bm)(n1:bf≠bm)(n2:bt≠bm)(n3:bp≠bm)(n4:bd≠bm):FnTree w a nl c x R bf bt bp bd w2:=
 {box:=h.box.but hb n0,fc:=fun j hj=>(hb.cell (World.block_lt_of_cell? _ _ (h.fc j hj)) n1 j).trans (h.fc j hj),tree:={ p:=h.tree.p.of_block (hb.block _ h.tree.p.lt n3),d:=h.tree.d.of_block (hb.block _ h.tree.d.lt n4),t0:=(hb.cell (World.block_lt_of_cell? _ _ h.tree.t0) n2 0).trans h.tree.t0,t1:=(hb.cell (World.block_lt_of_cell? _ _ h.tree.t1) n2 1).trans h.tree.t1 } }
theorem l3inloop_from {x:FnD}{a4 a5 a6:Option Addr}{c4 c5 c6:Nat}{bp:Nat}{dv:Option Addr}{p:Nat}{S:Nat->Prop}(w W:World)
  (hs:NodesAt w S a6 x.nodes)(hB:∀ b,S b->b<w.heap.size)(hW:Below w.heap.size w W)(hrp:W.rowIs bp 3 x.nodes.length (fun j=>.int .i64 (sPar x.nodes j)))(hk:∀ p,p<x.nodes.length->kidsIn x.nodes p=true)(hl:x.nodes.length<=3000)(hp:p<x.nodes.length) :
  Calls Tryd.prog 28 #[.agg #[.string x.name,.int .i64 x.line,.int .i64 x.params,.bool x.rest,.slice a4 x.vars.length c4,.slice a5 x.ups.length c5,.slice a6 x.nodes.length c6],.agg #[.slice (some ⟨bp,0,none⟩) x.nodes.length x.nodes.length,.slice dv x.nodes.length x.nodes.length],.int .i64 p] W fun e w'=>
   e=.returned (.bool (sInloop x.nodes p))/\Below W.heap.size W w':=
 l3inloop_any x.name x.line x.params x.rest x.vars.length x.ups.length a4 a5 a6 c4 c5 c6 x.nodes bp dv p S W (hs.keep hW hB) (fun b h=>Nat.lt_of_lt_of_le (hB b h) hW.size) hrp hk hl hp
theorem l3ups_from {a:Option Addr}{l:List FnD}{c f g p:Nat}{bp:Nat}{dv:Option Addr}{S:Nat->Prop}(w W:World)(hs:FnsAt w S a l)(hB:∀ b,S b->b<w.heap.size)(hW:Below w.heap.size w W)(hf:f<l.length)(hg:g<l.length)
  (hrp:W.rowIs bp 3 (fnD l f).nodes.length (fun j=>.int .i64 (sPar (fnD l f).nodes j)))(hk:∀ p,p<(fnD l f).nodes.length->kidsIn (fnD l f).nodes p=true)(hl:(fnD l f).nodes.length<=3000)(hp:p<(fnD l f).nodes.length) :
  Calls Tryd.prog 29 #[.agg #[.slice a l.length c],.int .i64 f,.agg #[.slice (some ⟨bp,0,none⟩) (fnD l f).nodes.length (fnD l f).nodes.length,.slice dv (fnD l f).nodes.length (fnD l f).nodes.length],.int .i64 p,.int .i64 g] W fun e w'=>
   e=.returned (.bool (sUps (fnD l f) p (fnD l g).ups))/\Below W.heap.size W w':=
 l3ups_any a l c f g p bp dv S W (hs.keep hW hB) (fun b h=>Nat.lt_of_lt_of_le (hB b h) hW.size) hf hg hrp hk hl hp
theorem fnTree_mk {w:World}{b off nl c:Nat}{x:FnD}{R:FnR}{bp bd:Nat}{wo w1:World}(hx:Box2 w (some ⟨b,off,none⟩) nl c wo)
  (hb1:Below (wo.alloc (.cells #[.string x.name,.int .i64 x.line,.int .i64 x.params,.bool x.rest,.slice R.va x.vars.length R.vc,.slice R.ua x.ups.length R.uc,.slice R.na x.nodes.length R.nc] 49)).heap.size (wo.alloc (.cells #[.string x.name,.int .i64 x.line,.int .i64 x.params,.bool x.rest,.slice R.va x.vars.length R.vc,.slice R.ua x.ups.length R.uc,.slice R.na x.nodes.length R.nc] 49)) w1)
  (hrp:w1.rowIs bp 3 x.nodes.length (fun j=>.int .i64 (sPar x.nodes j)))(hrd:w1.rowIs bd 3 x.nodes.length (fun j=>.int .i64 (sDep x.nodes j))) :
  FnTree w (some ⟨b,off,none⟩) nl c x R wo.heap.size w1.heap.size bp bd (w1.alloc (.cells #[.slice (some ⟨bp,0,none⟩) x.nodes.length x.nodes.length,.slice (some ⟨bd,0,none⟩) x.nodes.length x.nodes.length] 55)):=by
 have hsz:wo.heap.size+1<=w1.heap.size:=by have:=hb1.size;simpa using this
 refine { box:=((hx.alloc _).below' hb1).alloc _,fc:=?qfc,tree:=TreeIn.boxed hrp hrd };intro j hj;have h1:=hb1.cell (p:=⟨wo.heap.size,j,none⟩) (by simp);have h2:(w1.alloc (.cells #[.slice (some ⟨bp,0,none⟩) x.nodes.length x.nodes.length,.slice (some ⟨bd,0,none⟩) x.nodes.length x.nodes.length] 55)).cell? ⟨wo.heap.size,j,none⟩=w1.cell? ⟨wo.heap.size,j,none⟩:=
  Below.cell (B:=w1.heap.size) ((Below.refl _ _).alloc (Nat.le_refl _) _) (p:=⟨wo.heap.size,j,none⟩) (by show wo.heap.size<w1.heap.size;omega)
 rw[h2,h1];have hj7:j=0\/j=1\/j=2\/j=3\/j=4\/j=5\/j=6:=by omega
 rcases hj7 with rfl | rfl | rfl | rfl | rfl | rfl | rfl<;>simp[go_sem,fnCell,sel7]
theorem l3third_any (a:Option Addr)(l:List FnD)(c:Nat)(S:Nat->Prop)(w:World)(hs:FnsAt w S a l)(hB:∀ b,S b->b<w.heap.size)(hsh:Shaped l) :
  Calls Tryd.prog 13 #[.agg #[.slice a l.length c]] w fun e w'=>∃ x f n,e=.returned (.agg #[.int .i64 x,.int .i64 f,.int .i64 n])/\Fault69 l x f n/\Below w.heap.size w w':=by
 have hn:=hs.1;have hl3:=hsh.fns.2;have HSH:=hide hsh;have HS:=hide hs;have HB:=hide hB;clear hsh hs hB;have X0:Hid (Box2 w a l.length c (box2 w a l.length c)):=Box2.start w a l.length c;go_enter Tryd.func13,Tryd.ntmps13;go_wp2_with fail
 go_loopg [24] l.length (fun g i wr=>∃(k:Nat),k+g=l.length/\i=.int .i64 k/\Box2 w a l.length c wr/\Hid (∀ f' p',f'<k->p'<(fnD l f').nodes.length->refsBad l f' p'=false))
 case atStart=>exact⟨0,by omega,rfl,X0.out,fun f' p' h=>absurd h (Nat.not_lt_zero _)⟩
 case round=>
  obtain⟨f,hk,rfl,hx,hpar⟩:=hrel;obtain⟨wo,rfl⟩:∃ wo,wo=wr:=⟨wr,rfl⟩;have u0:=hx.unit;by_cases hlt:f<l.length
  ·obtain⟨b,off,rfl,hb,hcc⟩:=(unhide HS).2 (by omega);have N0:FnCells w S b (off+f * 7) (fnD l f):=hcc f hlt;clear hcc;obtain⟨va,vc,hv0,hvI⟩:=N0.vars;obtain⟨ua,uc,hu0,huI⟩:=N0.ups;obtain⟨na,nc,hno0,hnI⟩:=N0.nodes;have hbs:b<w.heap.size:=unhide HB b hb;have old:∀ o v,w.cell? ⟨b,o,none⟩=some v->wo.cell? ⟨b,o,none⟩=some v:=fun o v h=>(hx.old.cell (p:=⟨b,o,none⟩) hbs).trans h;have d0:=old _ _ N0.name;have d1:=old _ _ N0.line;have d2:=old _ _ N0.params;have d3:=old _ _ N0.rest;have d4:=old _ _ hv0;have d5:=old _ _ hu0;have d6:=old _ _ hno0;have hlenb:=(unhide HSH).len hlt;have hpos:=(unhide HSH).pos hlt;obtain⟨hv200,hu200,hp0,hpv⟩:=(unhide HSH).head hlt;have HKI:Hid (∀ p,p<(fnD l f).nodes.length->kidsIn (fnD l f).nodes p=true):=(unhide HSH).kids hlt;have HR1:Hid (∀ p,p<(fnD l f).nodes.length->(nd (fnD l f).nodes p).kind=26\/(nd (fnD l f).nodes p).kind=27\/(nd (fnD l f).nodes p).kind=36->(nd (fnD l f).nodes p).refs.length=1):=fun p hp=>(unhide HSH).ref1 hlt hp;have NN:Hid (NodesAt w S na (fnD l f).nodes):=hnI;have HRB:Hid (∀ p,refsBad l f p=!sRefs l.length (fnD l f) p (seenAt (fnD l f) p)):=fun p=>rfl;clear hnI hvI huI N0 hv0 hu0 hno0 old;generalize hxx:fnD l f=x at *;have HXX:=hide hxx;clear hxx;have hmk:=run_make_row' (P:=Tryd.prog) 60 4 (.bool false) 1 Tryd.underlying60 info_bool rfl .i64 .i64 x.vars.length (by omega) (by omega);obtain⟨P,hP⟩:=Int.eq_ofNat_of_zero_le hp0;go_wp2_with fail
   refine(l3grow_from w _ (unhide NN) (unhide HB) hpos hlenb (unhide HKI) (hx.alloc _).old).mono ?_;rintro e w1 ⟨bp,bd,rfl,hrp,hrd,hq1,hq2,hb1⟩;have hx1:=(hx.alloc _).below' hb1;have TT:=TreeIn.boxed hrp hrd;have hq3:wo.heap.size+1<=w1.heap.size:=by have:=hb1.size;simpa using this
   have hq1':wo.heap.size+1<=bp:=by simpa using hq1
   have hq2':wo.heap.size+1<=bd:=by simpa using hq2
   have hwo:=hx.size;have hbp:=hrp.lt;have hbd:=hrd.lt;have T0:Hid (ThirdW w (some ⟨b,off,none⟩) l.length c x ⟨va,vc,ua,uc,na,nc⟩ wo.heap.size w1.heap.size bp bd (w1.heap.size+1) (fun _=>false) ((w1.alloc (.cells #[.slice (some ⟨bp,0,none⟩) x.nodes.length x.nodes.length,.slice (some ⟨bd,0,none⟩) x.nodes.length x.nodes.length] 55)).alloc (.cells (madeCells #[.bool false] x.vars.length) 4))):=
    by
     refine { box:=(hx1.alloc _).alloc _,fc:=?qfc,tree:=TT.below ((Below.refl _ _).alloc (Nat.le_refl _) _),row:=rowIs_made' (by simp) (fun _ _=>rfl),n0:=by omega,n1:=by omega,n2:=by omega,n3:=by omega,n4:=by omega };intro j hj;have h1:=hb1.cell (p:=⟨wo.heap.size,j,none⟩) (by simp);have h2:((w1.alloc (.cells #[.slice (some ⟨bp,0,none⟩) x.nodes.length x.nodes.length,.slice (some ⟨bd,0,none⟩) x.nodes.length x.nodes.length] 55)).alloc (.cells (madeCells #[.bool false] x.vars.length) 4)).cell? ⟨wo.heap.size,j,none⟩=w1.cell? ⟨wo.heap.size,j,none⟩:=
      Below.cell (B:=w1.heap.size) (((Below.refl _ _).alloc (Nat.le_refl _) _).alloc (by simp) _) (p:=⟨wo.heap.size,j,none⟩) (by show wo.heap.size<w1.heap.size;omega)
     rw[h2,h1];have hj7:j=0\/j=1\/j=2\/j=3\/j=4\/j=5\/j=6:=by omega
     rcases hj7 with rfl | rfl | rfl | rfl | rfl | rfl | rfl<;>simp[go_sem,fnCell,sel7,hP]
   clear hq1 hq2 TT hb1 hrp hrd hx1 d0 d1 d2 d3 d4 d5 d6 u0;have f4:w1.cell? ⟨wo.heap.size,4,none⟩=some (.slice va x.vars.length vc):=by
    have h:=(unhide T0).fc 4 (by omega);rw[Below.cell (B:=w1.heap.size) (((Below.refl _ _).alloc (Nat.le_refl _) _).alloc (by simp) _) (p:=⟨wo.heap.size,4,none⟩) (by show wo.heap.size<w1.heap.size;omega)]at h;exact h
   have y1:wo.heap.size<w1.heap.size:=by omega
   have y2:wo.heap.size<w1.heap.size+1:=by omega
   have HP:=hide hP;clear hP;go_wp2_with fail
   clear hmk f4;go_loopg [7] P (fun g i wr=>∃(k:Nat),k+g=P/\i=.int .i64 k/\ThirdW w (some ⟨b,off,none⟩) l.length c x ⟨va,vc,ua,uc,na,nc⟩ wo.heap.size w1.heap.size bp bd (w1.heap.size+1) (fun v=>decide (v<k)) wr)
   case atStart=>exact⟨0,by omega,rfl,(unhide T0).next (But.refl _ _ _) ((unhide T0).row.congr fun j hj=>by simp)⟩
   case round=>
    clear T0;obtain⟨k,hkP,rfl,T⟩:=hrel;have f2:wr.cell? ⟨wo.heap.size,2,none⟩=some (.int .i64 P):=by have:=T.fc 2 (by omega);rw[show fnCell x ⟨va,vc,ua,uc,na,nc⟩ 2=.int .i64 x.params from rfl,unhide HP]at this;exact this
    by_cases hkl:k<P
    ·have hkv:k<x.vars.length:=by have:=unhide HP;omega
     have sc:=T.row.cell hkv;have sf:=T.row.frozen k;go_wp2_with fail
     go_roundg (P-(k+1))
     case measure=>omega
     case rel=>
      refine⟨k+1,by omega,by go_num,T.next ((But.refl _ _ _).set k _) ((T.row.set k _).congr fun j hj=>?_)⟩;by_cases e:j=k
      ·subst e;simp
      ·have h2:(j<k+1)=(j<k):=by apply propext;omega
       simp[e,h2]
    ·have T1:ThirdW w (some ⟨b,off,none⟩) l.length c x ⟨va,vc,ua,uc,na,nc⟩ wo.heap.size w1.heap.size bp bd (w1.heap.size+1) (seenAt x 0) wr:=T.next (But.refl _ _ _) (T.row.congr fun j hj=>by
      have h2:decide (j<k)=decide ((j:Int)<x.params):=by have:=unhide HP;congr 1;apply propext;omega
      rw[h2];rfl)
     have f6:wr.cell? ⟨wo.heap.size,6,none⟩=some (.slice na x.nodes.length nc):=T.fc 6 (by omega);have HT1:=hide T1;go_wp2_with fail
     clear T T1 f2 f6 hkl hkP;go_loopg [48] x.nodes.length (fun g i wr=>∃(p:Nat),p+g=x.nodes.length/\i=.int .i64 p/\ThirdW w (some ⟨b,off,none⟩) l.length c x ⟨va,vc,ua,uc,na,nc⟩ wo.heap.size w1.heap.size bp bd (w1.heap.size+1) (seenAt x p) wr/\Hid (∀ p',p'<p->refsBad l f p'=false))
     case atStart=>exact⟨0,by omega,rfl,unhide HT1,fun p' h=>absurd h (Nat.not_lt_zero _)⟩
     case round=>
      clear HT1;obtain⟨p,hpg,rfl,T,hok⟩:=hrel;have hx:=T.box;have u0:=hx.unit;have f0:wr.cell? ⟨wo.heap.size,0,none⟩=some (.string x.name):=T.fc 0 (by omega);have f1:wr.cell? ⟨wo.heap.size,1,none⟩=some (.int .i64 x.line):=T.fc 1 (by omega);have f2:wr.cell? ⟨wo.heap.size,2,none⟩=some (.int .i64 x.params):=T.fc 2 (by omega);have f3:wr.cell? ⟨wo.heap.size,3,none⟩=some (.bool x.rest):=T.fc 3 (by omega);have f4:wr.cell? ⟨wo.heap.size,4,none⟩=some (.slice va x.vars.length vc):=T.fc 4 (by omega);have f5:wr.cell? ⟨wo.heap.size,5,none⟩=some (.slice ua x.ups.length uc):=T.fc 5 (by omega);have f6:wr.cell? ⟨wo.heap.size,6,none⟩=some (.slice na x.nodes.length nc):=T.fc 6 (by omega);have t0:=T.tree.t0;have t1:=T.tree.t1;by_cases hpl:p<x.nodes.length
      ·have HC:=hide (l3refs_any (some ⟨b,off,none⟩) l.length c x va ua na vc uc nc bp (w1.heap.size+1) (some ⟨bd,0,none⟩) (seenAt x p) p S wr (by omega) (by omega) (by omega) ((unhide NN).keep hx.old (unhide HB)) (fun b h=>Nat.lt_of_lt_of_le (unhide HB b h) hx.old.size) (fun b h=>by have:=unhide HB b h;omega) hpl (unhide HR1 p hpl) T.row T.tree.p (unhide HKI) hlenb);have HRp:=hide (unhide HRB p);have HSA:Hid (seenAt x (p+1)=sSeen x p (seenAt x p)):=rfl;generalize sRefs l.length x p (seenAt x p)=rr at *;generalize sSeen x p (seenAt x p)=ss at *;go_wp2_with fail
       refine(unhide HC).mono ?_;rintro e w3 ⟨rfl,hbut,hrow3⟩;have hx3:=hx.but hbut T.n0;cases rr
       ·go_wp2_with fail
        refine(l3fault_any _ _ _ _).mono ?_;rintro e w2 ⟨rfl,hb2⟩;have hx2:=hx3.below' hb2;have r0:=hx2.res 0 (by omega);have r1:=hx2.res 1 (by omega);have r2:=hx2.res 2 (by omega);have z0:=hx2.frozen 0;have z1:=hx2.frozen 1;have z2:=hx2.frozen 2;have BB:Hid (∀ v0 v1 v2,Below w.heap.size w (((w2.setCell ⟨w.heap.size+1,0,none⟩ v0).setCell ⟨w.heap.size+1,1,none⟩ v1).setCell ⟨w.heap.size+1,2,none⟩ v2)):=fun v0 v1 v2=>((hx2.old.setCell (Nat.le_succ _) _).setCell (Nat.le_succ _) _).setCell (Nat.le_succ _) _;go_wp2_with fail
        refine bodyPost_ret (v:=.agg #[.int .i64 6,.int .i64 f,.int .i64 p]) (by simp[results,Tryd.results13,go_sem,r0,r1,r2]) rfl ⟨6,f,p,rfl,?_,BB.out _ _ _⟩;refine .inl ⟨rfl,f,p,rfl,rfl,hlt,by rw[unhide HXX];exact hpl,by rw[unhide HRp];rfl,fun f' p' h1 h2 h3=>?_⟩;rcases h3 with h3 | ⟨rfl,h3⟩
        ·exact hpar.out f' p' h3 h2
        ·exact hok.out p' h3
       ·have T3:=T.next hbut (hrow3 rfl);go_wp2_with fail
        go_roundg (x.nodes.length-(p+1))
        case measure=>omega
        case rel=>
         refine⟨p+1,by omega,by go_num,by rw[unhide HSA];exact T3,fun j h=>?_⟩;by_cases e:j=p
         ·subst e;rw[unhide HRp];rfl
         ·exact hok.out j (by omega)
      ·go_wp2_with fail
       go_roundg (l.length-(f+1))
       case measure=>omega
       case rel=>
        refine⟨f+1,by omega,by go_num,hx,fun f' p' h1 h2=>?_⟩;by_cases e:f'=f
        ·subst e;rw[unhide HXX]at h2;exact hok.out p' (by omega)
        ·exact hpar.out f' p' (by omega) h2
  ·have HF6:Hid (NoBad l (refsBad l)):=fun f' p' h1 h2=>hpar.out f' p' (by omega) h2;clear hpar;go_wp2_with fail
   go_loopg [66] l.length (fun g i wr=>∃(k:Nat),k+g=l.length/\i=.int .i64 k/\Box2 w a l.length c wr/\Hid (∀ f' p',f'<k->p'<(fnD l f').nodes.length->breakBad l f' p'=false))
   case atStart=>exact⟨0,by omega,rfl,hx,fun f' p' h=>absurd h (Nat.not_lt_zero _)⟩
   case round=>
    clear hx u0 hlt hk;obtain⟨f,hk,rfl,hx,hpar⟩:=hrel;obtain⟨wo,rfl⟩:∃ wo,wo=wr:=⟨wr,rfl⟩;have u0:=hx.unit;by_cases hlt:f<l.length
    ·skip
     obtain⟨b,off,rfl,hb,hcc⟩:=(unhide HS).2 (by omega);have N0:FnCells w S b (off+f * 7) (fnD l f):=hcc f hlt;clear hcc;obtain⟨va,vc,hv0,hvI⟩:=N0.vars;obtain⟨ua,uc,hu0,huI⟩:=N0.ups;obtain⟨na,nc,hno0,hnI⟩:=N0.nodes;have hbs:b<w.heap.size:=unhide HB b hb;have old:∀ o v,w.cell? ⟨b,o,none⟩=some v->wo.cell? ⟨b,o,none⟩=some v:=fun o v h=>(hx.old.cell (p:=⟨b,o,none⟩) hbs).trans h;have d0:=old _ _ N0.name;have d1:=old _ _ N0.line;have d2:=old _ _ N0.params;have d3:=old _ _ N0.rest;have d4:=old _ _ hv0;have d5:=old _ _ hu0;have d6:=old _ _ hno0;have hlenb:=(unhide HSH).len hlt;have hpos:=(unhide HSH).pos hlt;have HKI:Hid (∀ p,p<(fnD l f).nodes.length->kidsIn (fnD l f).nodes p=true):=(unhide HSH).kids hlt;have NN:Hid (NodesAt w S na (fnD l f).nodes):=hnI;have HRB:Hid (∀ p,breakBad l f p=(((nd (fnD l f).nodes p).kind==9||(nd (fnD l f).nodes p).kind==10) && !sInloop (fnD l f).nodes p)):=fun p=>rfl;clear hnI hvI huI N0 hv0 hu0 hno0 old;generalize hxx:fnD l f=x at *;have HXX:=hide hxx;clear hxx;go_wp2_with fail
     refine(l3grow_from w _ (unhide NN) (unhide HB) hpos hlenb (unhide HKI) (hx.alloc _).old).mono ?_;rintro e w1 ⟨bp,bd,rfl,hrp,hrd,hq1,hq2,hb1⟩;have T0:=hide (fnTree_mk (R:=⟨va,vc,ua,uc,na,nc⟩) hx hb1 hrp hrd);have hq3:wo.heap.size+1<=w1.heap.size:=by have:=hb1.size;simpa using this
     have y1:wo.heap.size<w1.heap.size:=by omega
     have f6:w1.cell? ⟨wo.heap.size,6,none⟩=some (.slice na x.nodes.length nc):=by
      rw[hb1.cell (p:=⟨wo.heap.size,6,none⟩) (by simp)];simp[go_sem]
     clear hq1 hq2 hb1 hrp hrd d0 d1 d2 d3 d4 d5 d6 u0;go_wp2_with fail
     clear f6;go_loopg [77] x.nodes.length (fun g i wr=>∃(p:Nat),p+g=x.nodes.length/\i=.int .i64 p/\FnTree w (some ⟨b,off,none⟩) l.length c x ⟨va,vc,ua,uc,na,nc⟩ wo.heap.size w1.heap.size bp bd wr/\Hid (∀ p',p'<p->breakBad l f p'=false))
     case atStart=>exact⟨0,by omega,rfl,unhide T0,fun p' h=>absurd h (Nat.not_lt_zero _)⟩
     case round=>
      clear T0 hx;obtain⟨p,hpg,rfl,T,hok⟩:=hrel;have hx:=T.box;have f0:wr.cell? ⟨wo.heap.size,0,none⟩=some (.string x.name):=T.fc 0 (by omega);have f1:wr.cell? ⟨wo.heap.size,1,none⟩=some (.int .i64 x.line):=T.fc 1 (by omega);have f2:wr.cell? ⟨wo.heap.size,2,none⟩=some (.int .i64 x.params):=T.fc 2 (by omega);have f3:wr.cell? ⟨wo.heap.size,3,none⟩=some (.bool x.rest):=T.fc 3 (by omega);have f4:wr.cell? ⟨wo.heap.size,4,none⟩=some (.slice va x.vars.length vc):=T.fc 4 (by omega);have f5:wr.cell? ⟨wo.heap.size,5,none⟩=some (.slice ua x.ups.length uc):=T.fc 5 (by omega);have f6:wr.cell? ⟨wo.heap.size,6,none⟩=some (.slice na x.nodes.length nc):=T.fc 6 (by omega);have t0:=T.tree.t0;have t1:=T.tree.t1;by_cases hpl:p<x.nodes.length
      ·have HC:=hide (l3inloop_from (a4:=va) (a5:=ua) (c4:=vc) (c5:=uc) (c6:=nc) (dv:=some ⟨bd,0,none⟩) w wr (unhide NN) (unhide HB) hx.old T.tree.p (unhide HKI) hlenb hpl);have HRp:=hide (unhide HRB p);obtain⟨b2,off2,rfl,hb2,hc2⟩:=((unhide NN).keep hx.old (unhide HB)).2 (by omega);have kc:wr.cell? ⟨b2,off2+p * 8,none⟩=some (.int .i64 (nd x.nodes p).kind):=(hc2 p hpl).kind;clear hc2;generalize (nd x.nodes p).kind=kd at *;generalize sInloop x.nodes p=il at *;by_cases hkd:kd=9\/kd=10
       ·have HK9:Hid (breakBad l f p=!il):=by show _=_;rw[unhide HRp];rcases hkd with rfl | rfl<;>rfl
        cases il
        ·rcases hkd with rfl | rfl
         all_goals
          go_wp2_with fail
          refine(unhide HC).mono ?_;rintro e w3 ⟨rfl,hb3⟩;have hx3:=hx.below' hb3;go_wp2_with fail
          refine(l3fault_any _ _ _ _).mono ?_;rintro e w2 ⟨rfl,hb2⟩;have hx2:=hx3.below' hb2;have r0:=hx2.res 0 (by omega);have r1:=hx2.res 1 (by omega);have r2:=hx2.res 2 (by omega);have z0:=hx2.frozen 0;have z1:=hx2.frozen 1;have z2:=hx2.frozen 2;have BB:Hid (∀ v0 v1 v2,Below w.heap.size w (((w2.setCell ⟨w.heap.size+1,0,none⟩ v0).setCell ⟨w.heap.size+1,1,none⟩ v1).setCell ⟨w.heap.size+1,2,none⟩ v2)):=fun v0 v1 v2=>((hx2.old.setCell (Nat.le_succ _) _).setCell (Nat.le_succ _) _).setCell (Nat.le_succ _) _;go_wp2_with fail
          refine bodyPost_ret (v:=.agg #[.int .i64 7,.int .i64 f,.int .i64 p]) (by simp[results,Tryd.results13,go_sem,r0,r1,r2]) rfl ⟨7,f,p,rfl,?_,BB.out _ _ _⟩;refine .inr (.inl ⟨unhide HF6,rfl,f,p,rfl,rfl,hlt,by rw[unhide HXX];exact hpl,unhide HK9,fun f' p' h1 h2 h3=>?_⟩);rcases h3 with h3 | ⟨rfl,h3⟩
          ·exact hpar.out f' p' h3 h2
          ·exact hok.out p' h3
        ·rcases hkd with rfl | rfl
         all_goals
          go_wp2_with fail
          refine(unhide HC).mono ?_;rintro e w3 ⟨rfl,hb3⟩;have T3:=T.below hb3;go_wp2_with fail
          go_roundg (x.nodes.length-(p+1))
          case measure=>omega
          case rel=>
           refine⟨p+1,by omega,by go_num,T3,fun j h=>?_⟩;by_cases e:j=p
           ·subst e;exact unhide HK9
           ·exact hok.out j (by omega)
       ·have k1:(kd==9)=false:=beq_eq_false_iff_ne.2 (fun h=>hkd (.inl h));have k2:(kd==10)=false:=beq_eq_false_iff_ne.2 (fun h=>hkd (.inr h));have HK9:Hid (breakBad l f p=false):=by show _=_;rw[unhide HRp,k1,k2];rfl
        clear hkd;go_wp2_with fail
        go_roundg (x.nodes.length-(p+1))
        case measure=>omega
        case rel=>
         refine⟨p+1,by omega,by go_num,T,fun j h=>?_⟩;by_cases e:j=p
         ·subst e;exact unhide HK9
         ·exact hok.out j (by omega)
      ·go_wp2_with fail
       go_roundg (l.length-(f+1))
       case measure=>omega
       case rel=>
        refine⟨f+1,by omega,by go_num,hx,fun f' p' h1 h2=>?_⟩;by_cases e:f'=f
        ·subst e;rw[unhide HXX]at h2;exact hok.out p' (by omega)
        ·exact hpar.out f' p' (by omega) h2
    ·have HF7:Hid (NoBad l (breakBad l)):=fun f' p' h1 h2=>hpar.out f' p' (by omega) h2;clear hpar;have hmk:=run_make_row' (P:=Tryd.prog) 60 4 (.bool false) 1 Tryd.underlying60 info_bool rfl .i64 .i64 l.length (by omega) hn;have hbm:=hx.size;have u0':∀ o,(wo.alloc o).cell? ⟨w.heap.size,0,none⟩=some (.slice a l.length c):=fun o=>(hx.alloc o).unit;go_wp2_with fail
     clear hmk u0';go_loopg [111] l.length (fun g i wr=>∃(k:Nat),k+g=l.length/\i=.int .i64 k/\Box2 w a l.length c wr/\wr.rowIs wo.heap.size 4 l.length (fun j=>.bool (madeUpto l k j))/\Hid (∀ f' p',f'<k->p'<(fnD l f').nodes.length->fnBad l f' p'=false))
     case atStart=>exact⟨0,by omega,rfl,hx.alloc _,(World.rowIs_made _ _ _ _).congr (fun _ _=>rfl),fun f' p' h=>absurd h (Nat.not_lt_zero _)⟩
     case round=>
      clear hx u0 hlt hk;generalize wo.heap.size=bm at *;obtain⟨f,hk,rfl,hx,hmade,hpar⟩:=hrel;obtain⟨wp,rfl⟩:∃ wp,wp=wr:=⟨wr,rfl⟩;have u0:=hx.unit;by_cases hlt:f<l.length
      ·skip
       obtain⟨b,off,ea,hb,hcc⟩:=(unhide HS).2 (by omega);have N0:FnCells w S b (off+f * 7) (fnD l f):=hcc f hlt;clear hcc;obtain⟨va,vc,hv0,hvI⟩:=N0.vars;obtain⟨ua,uc,hu0,huI⟩:=N0.ups;obtain⟨na,nc,hno0,hnI⟩:=N0.nodes;have hbs:b<w.heap.size:=unhide HB b hb;have old:∀ o v,w.cell? ⟨b,o,none⟩=some v->wp.cell? ⟨b,o,none⟩=some v:=fun o v h=>(hx.old.cell (p:=⟨b,o,none⟩) hbs).trans h;have d0:=old _ _ N0.name;have d1:=old _ _ N0.line;have d2:=old _ _ N0.params;have d3:=old _ _ N0.rest;have d4:=old _ _ hv0;have d5:=old _ _ hu0;have d6:=old _ _ hno0;have hlenb:=(unhide HSH).len hlt;have hpos:=(unhide HSH).pos hlt;have HKI:Hid (∀ p,p<(fnD l f).nodes.length->kidsIn (fnD l f).nodes p=true):=(unhide HSH).kids hlt;have NN:Hid (NodesAt w S na (fnD l f).nodes):=hnI;have HRB:Hid (∀ p,fnBad l f p=(((nd (fnD l f).nodes p).kind==37 && !(fnD l f).rest)||((nd (fnD l f).nodes p).kind==36&&(decide (ref0 (nd (fnD l f).nodes p)<=f)||madeAt l f p (ref0 (nd (fnD l f).nodes p)).toNat || !sUps (fnD l f) p (fnD l (ref0 (nd (fnD l f).nodes p)).toNat).ups)))):=fun p=>rfl;have HR1:Hid (∀ p,p<(fnD l f).nodes.length->(nd (fnD l f).nodes p).kind=36->(nd (fnD l f).nodes p).refs.length=1):=fun p hp h=>(unhide HSH).ref1 hlt hp (.inr (.inr h));have HG0:Hid (∀ p,p<(fnD l f).nodes.length->(nd (fnD l f).nodes p).kind=36->0<=ref0 (nd (fnD l f).nodes p)/\ref0 (nd (fnD l f).nodes p)<l.length):=fun p hp h=>by
        have h1:=unhide HF6 f p hlt hp;unfold refsBad at h1;have h2:sRefs l.length (fnD l f) p (seenAt (fnD l f) p)=true:=by simpa using h1
        unfold sRefs at h2;rw[if_neg (by omega),if_pos h]at h2;simpa using h2
       have HUPS:Hid (∀(W:World) (bp:Nat) (dv:Option Addr) (g p:Nat),Below w.heap.size w W->g<l.length->p<(fnD l f).nodes.length->W.rowIs bp 3 (fnD l f).nodes.length (fun j=>.int .i64 (sPar (fnD l f).nodes j)) ->
         Calls Tryd.prog 29 #[.agg #[.slice (some ⟨b,off,none⟩) l.length c],.int .i64 f,.agg #[.slice (some ⟨bp,0,none⟩) (fnD l f).nodes.length (fnD l f).nodes.length,.slice dv (fnD l f).nodes.length (fnD l f).nodes.length],.int .i64 p,.int .i64 g] W fun e w'=>
          e=.returned (.bool (sUps (fnD l f) p (fnD l g).ups))/\Below W.heap.size W w'):=fun W bp dv g p hW hg hp hrp=>by
        have:=unhide HS;rw[ea]at this;exact l3ups_from w W this (unhide HB) hW hlt hg hrp (unhide HKI) hlenb hp
       have HMA:Hid (∀ p,madeAt l f (p+1)=if(nd (fnD l f).nodes p).kind=36 then(fun g=>madeAt l f p g||decide (ref0 (nd (fnD l f).nodes p)=(g:Int)))else madeAt l f p):=fun p=>rfl;have HM0:Hid (madeAt l f 0=madeUpto l f/\madeAt l f (fnD l f).nodes.length=madeUpto l (f+1)):=⟨rfl,rfl⟩;clear hnI hvI huI N0 hv0 hu0 hno0 old;generalize hxx:fnD l f=x at *;have HXX:=hide hxx;clear hxx;subst ea;have hbml:=hmade.lt;go_wp2_with fail
       refine(l3grow_from w _ (unhide NN) (unhide HB) hpos hlenb (unhide HKI) (hx.alloc _).old).mono ?_;rintro e w1 ⟨bp,bd,rfl,hrp,hrd,hq1,hq2,hb1⟩;have hq1':wp.heap.size+1<=bp:=by simpa using hq1
       have hq2':wp.heap.size+1<=bd:=by simpa using hq2
       have T0:=hide (fnTree_mk (R:=⟨va,vc,ua,uc,na,nc⟩) hx hb1 hrp hrd);have hq3:wp.heap.size+1<=w1.heap.size:=by have:=hb1.size;simpa using this
       have M0:Hid ((w1.alloc (.cells #[.slice (some ⟨bp,0,none⟩) x.nodes.length x.nodes.length,.slice (some ⟨bd,0,none⟩) x.nodes.length x.nodes.length] 55)).rowIs bm 4 l.length (fun j=>.bool (madeAt l f 0 j))):=by
        rw[(unhide HM0).1];exact World.rowIs.alloc ((hmade.alloc _).of_block (hb1.block bm (by simp;omega))) _
       have y1:wp.heap.size<w1.heap.size:=by omega
       have e1:wp.heap.size≠bm:=by omega
       have e2:w1.heap.size≠bm:=by omega
       have e3:bp≠bm:=by omega
       have e4:bd≠bm:=by omega
       have NE:=hide (And.intro e1 (And.intro e2 (And.intro e3 e4)));have f6:w1.cell? ⟨wp.heap.size,6,none⟩=some (.slice na x.nodes.length nc):=by
        rw[hb1.cell (p:=⟨wp.heap.size,6,none⟩) (by simp)];simp[go_sem]
       clear hq1 hq2 hb1 hrp hrd d0 d1 d2 d3 d4 d5 d6 u0 e1 e2 e3 e4 hmade;go_wp2_with fail
       clear f6;go_loopg [122] x.nodes.length (fun g i wr=>∃(p:Nat),p+g=x.nodes.length/\i=.int .i64 p/\FnTree w (some ⟨b,off,none⟩) l.length c x ⟨va,vc,ua,uc,na,nc⟩ wp.heap.size w1.heap.size bp bd wr/\wr.rowIs bm 4 l.length (fun j=>.bool (madeAt l f p j))/\Hid (∀ p',p'<p->fnBad l f p'=false))
       case atStart=>exact⟨0,by omega,rfl,unhide T0,unhide M0,fun p' h=>absurd h (Nat.not_lt_zero _)⟩
       case round=>
        clear T0 M0 hx;obtain⟨p,hpg,rfl,T,M,hok⟩:=hrel;have hx:=T.box;have u0:=hx.unit;have f3:wr.cell? ⟨wp.heap.size,3,none⟩=some (.bool x.rest):=T.fc 3 (by omega);have f6:wr.cell? ⟨wp.heap.size,6,none⟩=some (.slice na x.nodes.length nc):=T.fc 6 (by omega);have t0:=T.tree.t0;have t1:=T.tree.t1;by_cases hpl:p<x.nodes.length
        ·have HRp:=hide (unhide HRB p);have HMp:=hide (unhide HMA p);obtain⟨b2,off2,rfl,hb2,hc2⟩:=((unhide NN).keep hx.old (unhide HB)).2 (by omega);have Np:NodeCells wr S b2 (off2+p * 8) (nd x.nodes p):=hc2 p hpl;have kc:=Np.kind;obtain⟨ra,rc,hr,hrI⟩:=Np.refs;have HRI:=hide hrI;have HG:=hide (unhide HG0 p hpl);have HR:=hide (unhide HR1 p hpl);clear hc2 Np hrI;by_cases k36:(nd x.nodes p).kind=36
         ·obtain⟨b3,off3,rfl,hb3,hc3⟩:=(unhide HRI).2 (by have:=unhide HR k36;omega);have rcell:wr.cell? ⟨b3,off3,none⟩=some (.int .i64 (ref0 (nd x.nodes p))):=by have:=hc3 0 (by have:=unhide HR k36;omega);rw[Nat.add_zero]at this;exact this
          rw[unhide HR k36]at hr;obtain⟨g0,g1⟩:=unhide HG k36;obtain⟨g,hg⟩:=Int.eq_ofNat_of_zero_le g0;have HK8:Hid (fnBad l f p=(decide ((g:Int)<=f)||madeAt l f p g || !sUps x p (fnD l g).ups)):=by show _=_;rw[unhide HRp,k36,hg,Int.toNat_natCast];rfl
          have HMN:Hid (madeAt l f (p+1)=fun q=>madeAt l f p q||decide ((g:Int)=(q:Int))):=by show _=_;rw[unhide HMp,if_pos k36,hg]
          rw[k36]at kc;rw[hg]at rcell g1;have hgl:g<l.length:=by omega
          have HC:=hide (unhide HUPS wr bp (some ⟨bd,0,none⟩) g p hx.old hgl hpl T.tree.p);have mc:=M.cell hgl;have mf:=M.frozen g;clear hc3 g0 hg k36 HRp HMp HG HR HRI;generalize hmg:madeAt l f p g=mg at *;have HMG:=hide hmg;clear hmg;generalize sUps x p (fnD l g).ups=su at *;by_cases q1:(g:Int)<=f
          ·have s1:decide ((g:Int)<=f)=true:=decide_eq_true q1;have s1':decide (g<=f)=true:=decide_eq_true (by omega);have HK9:Hid (fnBad l f p=true):=by show _=_;rw[unhide HK8,s1];rfl
           go_wp2_with fail
           refine(l3fault_any _ _ _ _).mono ?_;rintro e w2 ⟨rfl,hb2⟩;have hx2:=hx.below' hb2;have r0:=hx2.res 0 (by omega);have r1:=hx2.res 1 (by omega);have r2:=hx2.res 2 (by omega);have z0:=hx2.frozen 0;have z1:=hx2.frozen 1;have z2:=hx2.frozen 2;have BB:Hid (∀ v0 v1 v2,Below w.heap.size w (((w2.setCell ⟨w.heap.size+1,0,none⟩ v0).setCell ⟨w.heap.size+1,1,none⟩ v1).setCell ⟨w.heap.size+1,2,none⟩ v2)):=fun v0 v1 v2=>((hx2.old.setCell (Nat.le_succ _) _).setCell (Nat.le_succ _) _).setCell (Nat.le_succ _) _;go_wp2_with fail
           refine bodyPost_ret (v:=.agg #[.int .i64 8,.int .i64 f,.int .i64 p]) (by simp[results,Tryd.results13,go_sem,r0,r1,r2]) rfl ⟨8,f,p,rfl,?_,BB.out _ _ _⟩;refine .inr (.inr (.inl ⟨unhide HF6,unhide HF7,rfl,f,p,rfl,rfl,hlt,by rw[unhide HXX];exact hpl,unhide HK9,fun f' p' h1 h2 h3=>?_⟩));rcases h3 with h3 | ⟨rfl,h3⟩
           ·exact hpar.out f' p' h3 h2
           ·exact hok.out p' h3
          ·have s1:decide ((g:Int)<=f)=false:=decide_eq_false q1;have s1':decide (g<=f)=false:=decide_eq_false (by omega);cases mg
           ·cases su
            ·have HK9:Hid (fnBad l f p=true):=by show _=_;rw[unhide HK8];simp
             go_wp2_with fail
             refine(unhide HC).mono ?_;rintro e w3 ⟨rfl,hb3'⟩;have hx3:=hx.below' hb3';go_wp2_with fail
             refine(l3fault_any _ _ _ _).mono ?_;rintro e w2 ⟨rfl,hb2⟩;have hx2:=hx3.below' hb2;have r0:=hx2.res 0 (by omega);have r1:=hx2.res 1 (by omega);have r2:=hx2.res 2 (by omega);have z0:=hx2.frozen 0;have z1:=hx2.frozen 1;have z2:=hx2.frozen 2;have BB:Hid (∀ v0 v1 v2,Below w.heap.size w (((w2.setCell ⟨w.heap.size+1,0,none⟩ v0).setCell ⟨w.heap.size+1,1,none⟩ v1).setCell ⟨w.heap.size+1,2,none⟩ v2)):=fun v0 v1 v2=>((hx2.old.setCell (Nat.le_succ _) _).setCell (Nat.le_succ _) _).setCell (Nat.le_succ _) _;go_wp2_with fail
             refine bodyPost_ret (v:=.agg #[.int .i64 8,.int .i64 f,.int .i64 p]) (by simp[results,Tryd.results13,go_sem,r0,r1,r2]) rfl ⟨8,f,p,rfl,?_,BB.out _ _ _⟩;refine .inr (.inr (.inl ⟨unhide HF6,unhide HF7,rfl,f,p,rfl,rfl,hlt,by rw[unhide HXX];exact hpl,unhide HK9,fun f' p' h1 h2 h3=>?_⟩));rcases h3 with h3 | ⟨rfl,h3⟩
             ·exact hpar.out f' p' h3 h2
             ·exact hok.out p' h3
            ·have HK9:Hid (fnBad l f p=false):=by show _=_;rw[unhide HK8,s1];rfl
             go_wp2_with fail
             refine(unhide HC).mono ?_;rintro e w3 ⟨rfl,hb3'⟩;have T3:=T.below hb3';have M3:=M.of_block (hb3'.block bm M.lt);have mc3:=M3.cell hgl;have mf3:=M3.frozen g;go_wp2_with fail
             obtain⟨e1,e2,e3,e4⟩:=unhide NE;go_roundg (x.nodes.length-(p+1))
             case measure=>omega
             case rel=>
              refine⟨p+1,by omega,by go_num,T3.but ((But.refl _ _ _).set g _) hbm e1 e2 e3 e4,(M3.set g _).congr fun j hj=>by
              rw[unhide HMN];by_cases e:j=g
              ·subst e;simp
              ·have h2:¬((g:Int)=j):=by omega
               simp[e,h2],fun j h=>?_⟩
              by_cases e:j=p
              ·subst e;exact unhide HK9
              ·exact hok.out j (by omega)
           ·have HK9:Hid (fnBad l f p=true):=by show _=_;rw[unhide HK8];simp
            go_wp2_with fail
            refine(l3fault_any _ _ _ _).mono ?_;rintro e w2 ⟨rfl,hb2⟩;have hx2:=hx.below' hb2;have r0:=hx2.res 0 (by omega);have r1:=hx2.res 1 (by omega);have r2:=hx2.res 2 (by omega);have z0:=hx2.frozen 0;have z1:=hx2.frozen 1;have z2:=hx2.frozen 2;have BB:Hid (∀ v0 v1 v2,Below w.heap.size w (((w2.setCell ⟨w.heap.size+1,0,none⟩ v0).setCell ⟨w.heap.size+1,1,none⟩ v1).setCell ⟨w.heap.size+1,2,none⟩ v2)):=fun v0 v1 v2=>((hx2.old.setCell (Nat.le_succ _) _).setCell (Nat.le_succ _) _).setCell (Nat.le_succ _) _;go_wp2_with fail
            refine bodyPost_ret (v:=.agg #[.int .i64 8,.int .i64 f,.int .i64 p]) (by simp[results,Tryd.results13,go_sem,r0,r1,r2]) rfl ⟨8,f,p,rfl,?_,BB.out _ _ _⟩;refine .inr (.inr (.inl ⟨unhide HF6,unhide HF7,rfl,f,p,rfl,rfl,hlt,by rw[unhide HXX];exact hpl,unhide HK9,fun f' p' h1 h2 h3=>?_⟩));rcases h3 with h3 | ⟨rfl,h3⟩
            ·exact hpar.out f' p' h3 h2
            ·exact hok.out p' h3
         ·have kn36:((nd x.nodes p).kind==36)=false:=beq_eq_false_iff_ne.2 k36;have kn36':((nd x.nodes p).kind != 36)=true:=by simpa using k36
          have HMN:Hid (madeAt l f (p+1)=madeAt l f p):=by show _=_;rw[unhide HMp,if_neg k36]
          have HK8:Hid (fnBad l f p=((nd x.nodes p).kind==37 && !x.rest)):=by show _=_;rw[unhide HRp,kn36];simp
          clear HRp HMp HG HR HRI hr;generalize (nd x.nodes p).kind=kd at *;by_cases k37:kd=37
          ·subst k37;rcases(Bool.eq_false_or_eq_true x.rest).symm with hrest | hrest
           ·have HK9:Hid (fnBad l f p=true):=by show _=_;rw[unhide HK8,hrest];rfl
            rw[hrest]at f3;clear hrest;go_wp2_with fail
            refine(l3fault_any _ _ _ _).mono ?_;rintro e w2 ⟨rfl,hb2⟩;have hx2:=hx.below' hb2;have r0:=hx2.res 0 (by omega);have r1:=hx2.res 1 (by omega);have r2:=hx2.res 2 (by omega);have z0:=hx2.frozen 0;have z1:=hx2.frozen 1;have z2:=hx2.frozen 2;have BB:Hid (∀ v0 v1 v2,Below w.heap.size w (((w2.setCell ⟨w.heap.size+1,0,none⟩ v0).setCell ⟨w.heap.size+1,1,none⟩ v1).setCell ⟨w.heap.size+1,2,none⟩ v2)):=fun v0 v1 v2=>((hx2.old.setCell (Nat.le_succ _) _).setCell (Nat.le_succ _) _).setCell (Nat.le_succ _) _;go_wp2_with fail
            refine bodyPost_ret (v:=.agg #[.int .i64 8,.int .i64 f,.int .i64 p]) (by simp[results,Tryd.results13,go_sem,r0,r1,r2]) rfl ⟨8,f,p,rfl,?_,BB.out _ _ _⟩;refine .inr (.inr (.inl ⟨unhide HF6,unhide HF7,rfl,f,p,rfl,rfl,hlt,by rw[unhide HXX];exact hpl,unhide HK9,fun f' p' h1 h2 h3=>?_⟩));rcases h3 with h3 | ⟨rfl,h3⟩
            ·exact hpar.out f' p' h3 h2
            ·exact hok.out p' h3
           ·have HK9:Hid (fnBad l f p=false):=by show _=_;rw[unhide HK8,hrest];rfl
            rw[hrest]at f3;clear hrest;go_wp2_with fail
            go_roundg (x.nodes.length-(p+1))
            case measure=>omega
            case rel=>
             refine⟨p+1,by omega,by go_num,T,by rw[unhide HMN];exact M,fun j h=>?_⟩;by_cases e:j=p
             ·subst e;exact unhide HK9
             ·exact hok.out j (by omega)
          ·have kn37:(kd==37)=false:=beq_eq_false_iff_ne.2 k37;have HK9:Hid (fnBad l f p=false):=by show _=_;rw[unhide HK8,kn37];rfl
           clear k37 k36;go_wp2_with fail
           go_roundg (x.nodes.length-(p+1))
           case measure=>omega
           case rel=>
            refine⟨p+1,by omega,by go_num,T,by rw[unhide HMN];exact M,fun j h=>?_⟩;by_cases e:j=p
            ·subst e;exact unhide HK9
            ·exact hok.out j (by omega)
        ·go_wp2_with fail
         go_roundg (l.length-(f+1))
         case measure=>omega
         case rel=>
          have hpe:p=x.nodes.length:=by omega
          refine⟨f+1,by omega,by go_num,hx,by rw[<-(unhide HM0).2,<-hpe];exact M,fun f' p' h1 h2=>?_⟩;by_cases e:f'=f
          ·subst e;rw[unhide HXX]at h2;exact hok.out p' (by omega)
          ·exact hpar.out f' p' (by omega) h2
      ·have HF8:Hid (NoBad l (fnBad l)):=fun f' p' h1 h2=>hpar.out f' p' (by omega) h2;have hfl:f=l.length:=by omega
       subst hfl;clear hpar hk;go_wp2_with fail
       clear hlt;go_loopg [20] l.length (fun g i wr=>∃(k:Nat),1<=k/\k+g=l.length+1/\i=.int .i64 k/\Box2 w a l.length c wr/\wr.rowIs bm 4 l.length (fun j=>.bool (madeUpto l l.length j))/\Hid (∀ q,1<=q->q<k->madeUpto l l.length q=true))
       case atStart=>exact⟨1,by omega,by omega,rfl,hx,hmade,fun q h1 h2=>by omega⟩
       case round=>
        clear hx u0 hmade;obtain⟨k,hk1,hkg,rfl,hx,M,hok⟩:=hrel;have u0:=hx.unit;by_cases hkl:k<l.length
        ·have mc:=M.cell hkl;cases hmk:madeUpto l l.length k
         ·rw[hmk]at mc;have HK:=hide hmk;clear hmk;go_wp2_with fail
          refine(l3fault_any _ _ _ _).mono ?_;rintro e w2 ⟨rfl,hb2⟩;have hx2:=hx.below' hb2;have r0:=hx2.res 0 (by omega);have r1:=hx2.res 1 (by omega);have r2:=hx2.res 2 (by omega);have z0:=hx2.frozen 0;have z1:=hx2.frozen 1;have z2:=hx2.frozen 2;have BB:Hid (∀ v0 v1 v2,Below w.heap.size w (((w2.setCell ⟨w.heap.size+1,0,none⟩ v0).setCell ⟨w.heap.size+1,1,none⟩ v1).setCell ⟨w.heap.size+1,2,none⟩ v2)):=fun v0 v1 v2=>((hx2.old.setCell (Nat.le_succ _) _).setCell (Nat.le_succ _) _).setCell (Nat.le_succ _) _;go_wp2_with fail
          refine bodyPost_ret (v:=.agg #[.int .i64 9,.int .i64 k,.int .i64 0]) (by simp[results,Tryd.results13,go_sem,r0,r1,r2]) rfl ⟨9,k,0,rfl,?_,BB.out _ _ _⟩;exact .inr (.inr (.inr (.inl ⟨unhide HF6,unhide HF7,unhide HF8,rfl,rfl,k,rfl,hk1,hkl,unhide HK,hok.out⟩)))
         ·rw[hmk]at mc;have HK:=hide hmk;clear hmk;go_wp2_with fail
          go_roundg (l.length-k)
          case measure=>omega
          case rel=>
           refine⟨k+1,by omega,by omega,by go_num,hx,M,fun q h1 h2=>?_⟩;by_cases e:q=k
           ·subst e;exact unhide HK
           ·exact hok.out q h1 (by omega)
        ·have HALL:Hid (∀ g,1<=g->g<l.length->madeUpto l l.length g=true):=fun g h1 h2=>hok.out g h1 (by omega);have r0:=hx.res 0 (by omega);have r1:=hx.res 1 (by omega);have r2:=hx.res 2 (by omega);have z0:=hx.frozen 0;have z1:=hx.frozen 1;have z2:=hx.frozen 2;have BB:Hid (∀ v0 v1 v2,Below w.heap.size w (((wr.setCell ⟨w.heap.size+1,0,none⟩ v0).setCell ⟨w.heap.size+1,1,none⟩ v1).setCell ⟨w.heap.size+1,2,none⟩ v2)):=fun v0 v1 v2=>((hx.old.setCell (Nat.le_succ _) _).setCell (Nat.le_succ _) _).setCell (Nat.le_succ _) _;go_wp2_with fail
         refine bodyPost_ret (v:=.agg #[.int .i64 0,.int .i64 0,.int .i64 0]) (by simp[results,Tryd.results13,go_sem,r0,r1,r2]) rfl ⟨0,0,0,rfl,?_,BB.out _ _ _⟩;exact .inr (.inr (.inr (.inr ⟨unhide HF6,unhide HF7,unhide HF8,rfl,rfl,rfl,unhide HALL⟩)))
def UnitFault (l:List FnD)(c f n:Int):Prop:=
 (Fault13 l c f n/\c≠0)\/(Fault13 l 0 0 0/\Fault45 l c f n/\c≠0)\/(Fault13 l 0 0 0/\Fault45 l 0 0 0/\Fault69 l c f n)
theorem First.unique {l:List FnD}{bad:Nat->Nat->Bool}{f p f' p':Nat}(h:First l bad f p)(h':First l bad f' p'):f=f'/\p=p':=by
 obtain⟨h1,h2,h3,h4⟩:=h;obtain⟨g1,g2,g3,g4⟩:=h';by_cases e1:f<f'\/f=f'/\p<p'
 ·have:=g4 f p h1 h2 e1;rw[h3]at this;cases this
 by_cases e2:f'<f\/f'=f/\p'<p
 ·have:=h4 f' p' g1 g2 e2;rw[g3]at this;cases this
 omega
theorem First.not {l:List FnD}{bad:Nat->Nat->Bool}{f p:Nat}(h:First l bad f p)(hn:NoBad l bad):False:=by
 have:=hn f p h.1 h.2.1;rw[h.2.2.1]at this;cases this
theorem fault13_shaped {l:List FnD}{f n:Int}(h:Fault13 l 0 f n):Shaped l/\f=0/\n=0:=by
 rcases h with⟨_,h,_⟩ | ⟨_,h,_⟩ | ⟨_,_,h,_⟩ | ⟨h1,h2,_,h3,h4,h5⟩
 ·cases h
 ·cases h
 ·cases h
 ·exact⟨⟨h1,h2,h5⟩,h3,h4⟩
theorem fault45_zero {l:List FnD}{f n:Int}(h:Fault45 l 0 f n):NoBad l (parentBad l)/\NoBad l (deepBad l)/\f=0/\n=0:=by
 rcases h with⟨h,_⟩ | ⟨_,h,_⟩ | ⟨h1,h2,_,h3,h4⟩
 ·cases h
 ·cases h
 ·exact⟨h1,h2,h3,h4⟩
theorem fault13_unique {l:List FnD}{c f n c' f' n':Int}(h:Fault13 l c f n)(h':Fault13 l c' f' n'):c=c'/\f=f'/\n=n':=by
 rcases h with⟨a1,rfl,rfl,rfl⟩ | ⟨a1,rfl,rfl,F,rfl,a2,a3,a4⟩ | ⟨a1,a2,rfl,F,P,rfl,rfl,a3⟩ | ⟨a1,a2,rfl,rfl,rfl,a3⟩<;>
 rcases h' with⟨b1,rfl,rfl,rfl⟩ | ⟨b1,rfl,rfl,F',rfl,b2,b3,b4⟩ | ⟨b1,b2,rfl,F',P',rfl,rfl,b3⟩ | ⟨b1,b2,rfl,rfl,rfl,b3⟩
 ·exact⟨rfl,rfl,rfl⟩
 ·exact absurd a1 b1
 ·exact absurd a1 b1
 ·exact absurd a1 b1
 ·exact absurd b1 a1
 ·by_cases e1:F<F'
  ·have:=b4 F e1;rw[a3]at this;cases this
  by_cases e2:F'<F
  ·have:=a4 F' e2;rw[b3]at this;cases this
  have:F=F':=by omega
  subst this;exact⟨rfl,rfl,rfl⟩
 ·have:=b2 F a2;rw[a3]at this;cases this
 ·have:=b2 F a2;rw[a3]at this;cases this
 ·exact absurd b1 a1
 ·have:=a2 F' b2;rw[b3]at this;cases this
 ·obtain⟨rfl,rfl⟩:=a3.unique b3;exact⟨rfl,rfl,rfl⟩
 ·exact(a3.not b3).elim
 ·exact absurd b1 a1
 ·have:=a2 F' b2;rw[b3]at this;cases this
 ·exact(b3.not a3).elim
 ·exact⟨rfl,rfl,rfl⟩
theorem fault45_unique {l:List FnD}{c f n c' f' n':Int}(h:Fault45 l c f n)(h':Fault45 l c' f' n'):c=c'/\f=f'/\n=n':=by
 rcases h with⟨rfl,F,P,rfl,rfl,a3⟩ | ⟨a1,rfl,F,P,rfl,rfl,a3⟩ | ⟨a1,a2,rfl,rfl,rfl⟩<;>
 rcases h' with⟨rfl,F',P',rfl,rfl,b3⟩ | ⟨b1,rfl,F',P',rfl,rfl,b3⟩ | ⟨b1,b2,rfl,rfl,rfl⟩
 ·obtain⟨rfl,rfl⟩:=a3.unique b3;exact⟨rfl,rfl,rfl⟩
 ·exact(a3.not b1).elim
 ·exact(a3.not b1).elim
 ·exact(b3.not a1).elim
 ·obtain⟨rfl,rfl⟩:=a3.unique b3;exact⟨rfl,rfl,rfl⟩
 ·exact(a3.not b2).elim
 ·exact(b3.not a1).elim
 ·exact(b3.not a2).elim
 ·exact⟨rfl,rfl,rfl⟩
theorem fault69_unique {l:List FnD}{c f n c' f' n':Int}(h:Fault69 l c f n)(h':Fault69 l c' f' n'):c=c'/\f=f'/\n=n':=by
 rcases h with⟨rfl,F,P,rfl,rfl,a3⟩ | ⟨a6,rfl,F,P,rfl,rfl,a3⟩ | ⟨a6,a7,rfl,F,P,rfl,rfl,a3⟩ | ⟨a6,a7,a8,rfl,rfl,F,rfl,a1,a2,a3,a4⟩ | ⟨a6,a7,a8,rfl,rfl,rfl,a9⟩<;>
 rcases h' with⟨rfl,F',P',rfl,rfl,b3⟩ | ⟨b6,rfl,F',P',rfl,rfl,b3⟩ | ⟨b6,b7,rfl,F',P',rfl,rfl,b3⟩ | ⟨b6,b7,b8,rfl,rfl,F',rfl,b1,b2,b3,b4⟩ | ⟨b6,b7,b8,rfl,rfl,rfl,b9⟩
 ·obtain⟨rfl,rfl⟩:=a3.unique b3;exact⟨rfl,rfl,rfl⟩
 ·exact(a3.not b6).elim
 ·exact(a3.not b6).elim
 ·exact(a3.not b6).elim
 ·exact(a3.not b6).elim
 ·exact(b3.not a6).elim
 ·obtain⟨rfl,rfl⟩:=a3.unique b3;exact⟨rfl,rfl,rfl⟩
 ·exact(a3.not b7).elim
 ·exact(a3.not b7).elim
 ·exact(a3.not b7).elim
 ·exact(b3.not a6).elim
 ·exact(b3.not a7).elim
 ·obtain⟨rfl,rfl⟩:=a3.unique b3;exact⟨rfl,rfl,rfl⟩
 ·exact(a3.not b8).elim
 ·exact(a3.not b8).elim
 ·exact(b3.not a6).elim
 ·exact(b3.not a7).elim
 ·exact(b3.not a8).elim
 ·by_cases e1:F<F'
  ·have:=b4 F a1 e1;rw[a3]at this;cases this
  by_cases e2:F'<F
  ·have:=a4 F' b1 e2;rw[b3]at this;cases this
  have:F=F':=by omega
  subst this;exact⟨rfl,rfl,rfl⟩
 ·have:=b9 F a1 a2;rw[a3]at this;cases this
 ·exact(b3.not a6).elim
 ·exact(b3.not a7).elim
 ·exact(b3.not a8).elim
 ·have:=a9 F' b1 b2;rw[b3]at this;cases this
 ·exact⟨rfl,rfl,rfl⟩
theorem unitFault_unique {l:List FnD}{c f n c' f' n':Int}(h:UnitFault l c f n)(h':UnitFault l c' f' n'):c=c'/\f=f'/\n=n':=by
 rcases h with⟨a1,a2⟩ | ⟨a1,a2,a3⟩ | ⟨a1,a2,a3⟩<;>rcases h' with⟨b1,b2⟩ | ⟨b1,b2,b3⟩ | ⟨b1,b2,b3⟩
 ·exact fault13_unique a1 b1
 ·exact absurd (fault13_unique a1 b1).1 a2
 ·exact absurd (fault13_unique a1 b1).1 a2
 ·exact absurd (fault13_unique b1 a1).1 b2
 ·exact fault45_unique a2 b2
 ·exact absurd (fault45_unique a2 b2).1 a3
 ·exact absurd (fault13_unique b1 a1).1 b2
 ·exact absurd (fault45_unique b2 a2).1 b3
 ·exact fault69_unique a3 b3
theorem spec_CheckUnit_any (a:Option Addr)(l:List FnD)(c:Nat)(S:Nat->Prop)(w:World)(hs:FnsAt w S a l)(hB:∀ b,S b->b<w.heap.size)(hl:tFns l<=1048576) :
  Calls Tryd.prog 5 #[.agg #[.slice a l.length c]] w fun e w'=>∃ x f n,e=.returned (.agg #[.int .i64 x,.int .i64 f,.int .i64 n])/\UnitFault l x f n/\Below w.heap.size w w':=by
 have X0:Hid (Box2 w a l.length c (box2 w a l.length c)):=Box2.start w a l.length c;have FN:Hid (∀ W:World,Below w.heap.size w W->FnsAt W S a l/\∀ b,S b->b<W.heap.size):=fun W hW=>⟨hs.keep hW hB,fun b h=>Nat.lt_of_lt_of_le (hB b h) hW.size⟩;clear hs hB;go_enter Tryd.func5,Tryd.ntmps5;go_wp2_with fail
 refine(l3first_any a l c S _ (unhide FN _ (unhide X0).old).1 (unhide FN _ (unhide X0).old).2 hl).mono ?_;rintro e w1 ⟨x,f,n,rfl,hF1,hb1⟩;have hx1:=(unhide X0).below' hb1;have u1:=hx1.unit;have hz1:=hx1.size;have y0:w.heap.size<w1.heap.size:=by omega
 have y1:w.heap.size+1<w1.heap.size:=by omega
 have p0:=hx1.res 0 (by omega);have p1:=hx1.res 1 (by omega);have p2:=hx1.res 2 (by omega);have q0:=hx1.frozen 0;have q1:=hx1.frozen 1;have q2:=hx1.frozen 2;clear X0 hb1;have HF1:=hide hF1;clear hF1;have BB:∀ W:World,Box2 w a l.length c W->∀ v0 v1 v2,Below w.heap.size w (((W.setCell ⟨w.heap.size+1,0,none⟩ v0).setCell ⟨w.heap.size+1,1,none⟩ v1).setCell ⟨w.heap.size+1,2,none⟩ v2):=fun W hW v0 v1 v2=>((hW.old.setCell (Nat.le_succ _) _).setCell (Nat.le_succ _) _).setCell (Nat.le_succ _) _;have HBB:=hide BB;clear BB;by_cases h0:x=0
 ·subst h0;obtain⟨hsh,rfl,rfl⟩:=fault13_shaped (unhide HF1);have HSH:=hide hsh;clear hsh;go_wp2_with fail
  refine(l3second_any a l c S _ (unhide FN _ (hx1.alloc _).old).1 (unhide FN _ (hx1.alloc _).old).2 (unhide HSH)).mono ?_;rintro e w2 ⟨x,f,n,rfl,hF2,hb2⟩;have hx2:=(hx1.alloc _).below' hb2;have u2:=hx2.unit;have hz2:=hx2.size;have y2:w.heap.size<w2.heap.size:=by omega
  have y3:w.heap.size+1<w2.heap.size:=by omega
  have p3:=hx2.res 0 (by omega);have p4:=hx2.res 1 (by omega);have p5:=hx2.res 2 (by omega);have q3:=hx2.frozen 0;have q4:=hx2.frozen 1;have q5:=hx2.frozen 2;have HF2:=hide hF2;clear hF2 hb2 p0 p1 p2 q0 q1 q2;by_cases h0:x=0
  ·subst h0;obtain⟨_,_,rfl,rfl⟩:=fault45_zero (unhide HF2);go_wp2_with fail
   refine(l3third_any a l c S _ (unhide FN _ (hx2.alloc _).old).1 (unhide FN _ (hx2.alloc _).old).2 (unhide HSH)).mono ?_;rintro e w3 ⟨x,f,n,rfl,hF3,hb3⟩;have hx3:=(hx2.alloc _).below' hb3;have HF3:=hide hF3;have p6:=hx3.res 0 (by omega);have p7:=hx3.res 1 (by omega);have p8:=hx3.res 2 (by omega);have q6:=hx3.frozen 0;have q7:=hx3.frozen 1;have q8:=hx3.frozen 2;clear hF3 hb3 p3 p4 p5 q3 q4 q5;go_wp2_with fail
   exact bodyPost_ret (v:=.agg #[.int .i64 x,.int .i64 f,.int .i64 n]) (by simp[results,Tryd.results5,go_sem,p6,p7,p8]) rfl ⟨x,f,n,rfl,.inr (.inr ⟨unhide HF1,unhide HF2,unhide HF3⟩),unhide HBB _ hx3 _ _ _⟩
  ·have h0':(x != 0)=true:=by simpa using h0
   have H0:=hide h0;clear h0;go_wp2_with fail
   exact bodyPost_ret (v:=.agg #[.int .i64 x,.int .i64 f,.int .i64 n]) (by simp[results,Tryd.results5,go_sem,p3,p4,p5,y3]) rfl ⟨x,f,n,rfl,.inr (.inl ⟨unhide HF1,unhide HF2,unhide H0⟩),(unhide HBB _ hx2 _ _ _).alloc (by simp;omega) _⟩
 ·have h0':(x != 0)=true:=by simpa using h0
  have H0:=hide h0;clear h0;go_wp2_with fail
  exact bodyPost_ret (v:=.agg #[.int .i64 x,.int .i64 f,.int .i64 n]) (by simp[results,Tryd.results5,go_sem,p0,p1,p2,y1]) rfl ⟨x,f,n,rfl,.inl ⟨unhide HF1,unhide H0⟩,(unhide HBB _ hx1 _ _ _).alloc (by simp;omega) _⟩
end Go.Proofs.YtpmeihghljnfeaaDoor
