import Derived.Test.YtofcbekoaghikaaGreatDoorPart15
set_option linter.unusedSimpArgs false
set_option linter.unusedVariables false
set_option maxHeartbeats 8000000
set_option maxRecDepth 100000
namespace Go.Proofs.YtofcbekoaghikaaGreatDoor
open Go.RowKit
def nameFits (s:ByteArray):Bool:=inR s.size 1 40
def headFits (x:FnD):Bool:=
 !(x.nodes.length==0)&&decide (x.vars.length<=200)&&decide (x.ups.length<=200)&&allFrom (fun i=>nameFits (x.vars[i]?.getD ByteArray.empty)) 0 x.vars.length &&
 inR x.params 0 x.vars.length&&inR x.line 0 100000&&decide (x.name.size<=40)
theorem headFits_any (x:FnD)(va ua na:Option Addr)(vc uc nc:Nat)(S:Nat->Prop)(w:World)(hs:StrsAt w S va x.vars)(hB:∀ b,S b->b<w.heap.size)(hnm:x.name.size<=9223372036854775807)(hu:x.ups.length<=9223372036854775807)(hno:x.nodes.length<=9223372036854775807) :
  Calls Tryz.prog 66 #[.agg #[.string x.name,.int .i64 x.line,.int .i64 x.params,.bool x.rest,.slice va x.vars.length vc,.slice ua x.ups.length uc,.slice na x.nodes.length nc]] w fun e w'=>e=.returned (.bool (headFits x))/\Below w.heap.size w w':=by
 have hn:=hs.1;have HS:=hide hs;have HB:=hide hB;have HBA:Hid (∀ o,Below w.heap.size w (w.alloc o)):=fun o=>(Below.refl _ _).alloc (Nat.le_refl _) o;clear hs;obtain⟨nm,ln,pr,rs,vars,ups,nodes⟩:=x;simp only at *;by_cases q1:nodes.length=0
 ·have e1:((nodes.length:Int)==0)=true:=by simp[q1]
  have E:Hid (headFits ⟨nm,ln,pr,rs,vars,ups,nodes⟩=false):=by show _=_;simp[headFits,q1]
  clear q1;go_enter Tryz.func66,Tryz.ntmps66;go_wp2_with fail
  go_ret;exact⟨ret_bool E.out.symm,unhide HBA _⟩
 have e1:((nodes.length:Int)==0)=false:=beq_eq_false_iff_ne.2 (by omega);by_cases q2:200<vars.length
 ·have e2:decide ((200:Int)<vars.length)=true:=decide_eq_true (by omega);have E:Hid (headFits ⟨nm,ln,pr,rs,vars,ups,nodes⟩=false):=by show _=_;simp[headFits,show ¬vars.length<=200 by omega]
  clear q1;go_enter Tryz.func66,Tryz.ntmps66;go_wp2_with fail
  go_ret;exact⟨ret_bool E.out.symm,unhide HBA _⟩
 have e2:decide ((200:Int)<vars.length)=false:=decide_eq_false (by omega);by_cases q3:200<ups.length
 ·have e3:decide ((200:Int)<ups.length)=true:=decide_eq_true (by omega);have E:Hid (headFits ⟨nm,ln,pr,rs,vars,ups,nodes⟩=false):=by show _=_;simp[headFits,show ¬ups.length<=200 by omega]
  clear q1;go_enter Tryz.func66,Tryz.ntmps66;go_wp2_with fail
  go_ret;exact⟨ret_bool E.out.symm,unhide HBA _⟩
 have e3:decide ((200:Int)<ups.length)=false:=decide_eq_false (by omega);have E0:Hid (headFits ⟨nm,ln,pr,rs,vars,ups,nodes⟩=(allFrom (fun i=>nameFits (vars[i]?.getD ByteArray.empty)) 0 vars.length&&inR pr 0 vars.length&&inR ln 0 100000&&decide (nm.size<=40))):=by
  have a1:(nodes.length==0)=false:=beq_eq_false_iff_ne.2 q1;have a2:decide (vars.length<=200)=true:=decide_eq_true (by omega);have a3:decide (ups.length<=200)=true:=decide_eq_true (by omega);show _=_;unfold headFits;simp only[a1,a2,a3,Bool.not_false,Bool.true_and]
 clear q1;go_enter Tryz.func66,Tryz.ntmps66;go_wp2_with fail
 go_loop [24] (fun i=>∃(k:Nat),k<=vars.length/\i=.int .i64 k/\Hid (∀ j,j<k->nameFits (vars[j]?.getD ByteArray.empty)=true)) (fun i=>vars.length-(intOf i).toNat)
 case atStart=>exact⟨0,Nat.zero_le _,rfl,fun j h=>absurd h (Nat.not_lt_zero _)⟩
 case round=>
  obtain⟨k,hk,rfl,hall⟩:=hrel;by_cases hlt:k<vars.length
  ·obtain⟨b,off,rfl,hb,hcc⟩:=(unhide HS).2 (by omega);obtain⟨hsz,hck⟩:=hcc k hlt;have hbs:=unhide HB b hb;clear hcc;cases hq:nameFits (vars[k]?.getD ByteArray.empty)
   ·have E:Hid (headFits ⟨nm,ln,pr,rs,vars,ups,nodes⟩=false):=by show _=_;rw[E0.out,allFrom_false (Nat.zero_le _) hlt hq];rfl
    have HQ:=hide hq;have HQ:Hid (inR ((vars[k]?.getD ByteArray.empty).size:Int) 1 40=false):=HQ;clear hq;generalize vars[k]?.getD ByteArray.empty=nk at *;go_wp2_with fail
    refine(within_any _ _ _ _).mono ?_;rintro e w' ⟨rfl,rfl⟩;rw[unhide HQ];go_wp2_with fail
    go_ret;exact⟨ret_bool E.out.symm,unhide HBA _⟩
   ·have HT:Hid (∀ j,j<k+1->nameFits (vars[j]?.getD ByteArray.empty)=true):=fun j hj=>by
     by_cases e:j=k
     ·subst e;exact hq
     ·exact hall.out j (by omega)
    have HQ:=hide hq;have HQ:Hid (inR ((vars[k]?.getD ByteArray.empty).size:Int) 1 40=true):=HQ;clear hq;generalize vars[k]?.getD ByteArray.empty=nk at *;go_wp2_with fail
    refine(within_any _ _ _ _).mono ?_;rintro e w' ⟨rfl,rfl⟩;rw[unhide HQ];go_wp2_with fail
    go_round
    case rel=>exact⟨k+1,by omega,by go_num,HT⟩
    case measure=>simp[intOf];omega
  ·have E1:Hid (headFits ⟨nm,ln,pr,rs,vars,ups,nodes⟩=(inR pr 0 vars.length&&inR ln 0 100000&&decide (nm.size<=40))):=by
    show _=_;rw[E0.out,allFrom_true (fun j _ h2=>hall.out j (by omega))];rfl
   clear hall E0;cases h1:inR pr 0 vars.length
   ·have H1:=hide h1;have E:Hid (headFits ⟨nm,ln,pr,rs,vars,ups,nodes⟩=false):=by show _=_;rw[E1.out,h1];rfl
    clear h1;go_wp2_with fail
    refine(within_any _ _ _ _).mono ?_;rintro e w' ⟨rfl,rfl⟩;rw[unhide H1];go_wp2_with fail
    go_ret;exact⟨ret_bool E.out.symm,unhide HBA _⟩
   ·have H1:=hide h1;cases h2:inR ln 0 100000
    ·have H2:=hide h2;have E:Hid (headFits ⟨nm,ln,pr,rs,vars,ups,nodes⟩=false):=by show _=_;rw[E1.out,h1,h2];rfl
     clear h1 h2;go_wp2_with fail
     refine(within_any _ _ _ _).mono ?_;rintro e w' ⟨rfl,rfl⟩;rw[unhide H1];go_wp2_with fail
     refine(within_any _ _ _ _).mono ?_;rintro e w' ⟨rfl,rfl⟩;rw[unhide H2];go_wp2_with fail
     go_ret;exact⟨ret_bool E.out.symm,unhide HBA _⟩
    ·have H2:=hide h2;have E:Hid (headFits ⟨nm,ln,pr,rs,vars,ups,nodes⟩=decide ((nm.size:Int)<=40)):=by
      show _=_;rw[E1.out,h1,h2];rw[Bool.true_and,Bool.true_and];exact decide_eq_decide.2 (by omega)
     clear h1 h2;go_wp2_with fail
     refine(within_any _ _ _ _).mono ?_;rintro e w' ⟨rfl,rfl⟩;rw[unhide H1];go_wp2_with fail
     refine(within_any _ _ _ _).mono ?_;rintro e w' ⟨rfl,rfl⟩;rw[unhide H2];go_wp2_with fail
     go_ret;exact⟨ret_bool (by rw[E.out]),unhide HBA _⟩
theorem sHead_eq (l:List FnD)(f:Nat):sHead l f=(headFits (fnD l f) && !((f==0)&&(!((fnD l f).params==0) || !((fnD l f).ups.length==0)))):=by
 show sHead l f=_;unfold sHead fnD;generalize l[f]?.getD FnD.z=x;have hname:sName x.name 0=decide (x.name.size<=40):=by unfold sName;rw[decide_eq_true (by omega:(0:Int)<=x.name.size),Bool.true_and]
 have hall:(fun i:Nat=>sName (x.vars[i]?.getD ByteArray.empty) 1)=(fun i:Nat=>nameFits (x.vars[i]?.getD ByteArray.empty)):=by
  funext i;unfold sName nameFits inR
  congr 1
  exact decide_eq_decide.2 (by omega)
 dsimp only;rw[hname,hall];rw[Bool.eq_iff_iff];simp only[headFits,inR,Bool.and_eq_true,Bool.not_eq_true',Bool.and_eq_false_iff,Bool.or_eq_false_iff,decide_eq_true_eq,decide_eq_false_iff_not,beq_eq_false_iff_ne,Bool.not_eq_false',beq_iff_eq,ne_eq];constructor
 ·rintro⟨⟨⟨⟨⟨⟨⟨⟨⟨h1,h2⟩,h3⟩,h4⟩,h5⟩,h6⟩,h7⟩,h8⟩,h9⟩,h10⟩;refine⟨⟨⟨⟨⟨⟨⟨h1,h2⟩,h3⟩,h10⟩,h4,h5⟩,h6,h7⟩,h8⟩,?_⟩;rcases h9 with h | ⟨h,h'⟩
  ·exact .inl h
  ·exact .inr ⟨by omega,by omega⟩
 ·rintro⟨⟨⟨⟨⟨⟨⟨h1,h2⟩,h3⟩,h10⟩,h4,h5⟩,h6,h7⟩,h8⟩,h9⟩;refine⟨⟨⟨⟨⟨⟨⟨⟨⟨h1,h2⟩,h3⟩,h4⟩,h5⟩,h6⟩,h7⟩,h8⟩,?_⟩,h10⟩;rcases h9 with h | ⟨h,h'⟩
  ·exact .inl h
  ·exact .inr ⟨by omega,by omega⟩
theorem box2_set3 {w W:World}{a:Option Addr}{n c:Nat}(h:Box2 w a n c W)(v0 v1 v2:Value):Below w.heap.size w (((W.setCell ⟨w.heap.size+1,0,none⟩ v0).setCell ⟨w.heap.size+1,1,none⟩ v1).setCell ⟨w.heap.size+1,2,none⟩ v2):=
 ((h.old.setCell (Nat.le_succ _) _).setCell (Nat.le_succ _) _).setCell (Nat.le_succ _) _
theorem nodes_total {l:List FnD}(hl:tFns l<=1048576)(k:Nat):sumTo nodesLen l k<=1048576:=by
 have h1:=sumTo_le nodesLen l k;have h2:sumAll nodesLen l<=sumAll tFn l:=by
  clear h1 hl;unfold sumAll
  induction l with
  | nil=>simp
  | cons x r ih=>
   simp only[List.map_cons,List.sum_cons];have:nodesLen x<=tFn x:=by unfold nodesLen tFn tNodes;omega
   omega
 unfold tFns at hl;omega
theorem checkSize_any (a:Option Addr)(l:List FnD)(c:Nat)(S:Nat->Prop)(w:World)(hs:FnsAt w S a l)(hB:∀ b,S b->b<w.heap.size)(hl:tFns l<=1048576) :
  Calls Tryz.prog 47 #[.agg #[.slice a l.length c]] w fun e w'=>∃ x:Int,e=.returned (.agg #[.int .i64 x,.int .i64 0,.int .i64 0])/\((sizeBad l/\x=1)\/(¬sizeBad l/\x=0))/\Below w.heap.size w w':=by
 have hn:=hs.1;have hll:l.length<=1048576:=by unfold tFns at hl;omega
 have HT:Hid (∀ k,sumTo nodesLen l k<=1048576):=nodes_total hl;clear hl;have HS:=hide hs;have HB:=hide hB;have X0:Hid (Box2 w a l.length c (box2 w a l.length c)):=Box2.start w a l.length c;clear hs hB;go_enter Tryz.func47,Tryz.ntmps47;go_wp2_with fail
 go_loopg [3,9] l.length (fun g t i wr=>∃(k:Nat),k+g=l.length/\i=.int .i64 k/\t=.int .i64 (sumTo nodesLen l k:Nat)/\Box2 w a l.length c wr)
 case atStart=>exact⟨0,by omega,rfl,by rw[sumTo_zero];rfl,X0.out⟩
 case round=>
  obtain⟨k,hk,rfl,rfl,hx⟩:=hrel;have u0:=hx.unit;by_cases hlt:k<l.length
  ·obtain⟨b,off,rfl,hb,hcc⟩:=((unhide HS).keep hx.old (unhide HB)).2 (by omega);have N:FnCells wr S b (off+k * 7) (fnD l k):=hcc k hlt;have hsu:=sumTo_succ nodesLen l k FnD.z hlt;have hsu:sumTo nodesLen l (k+1)=sumTo nodesLen l k+(fnD l k).nodes.length:=hsu;have t1:=unhide HT k;have t2:=unhide HT (k+1);have HSU:=hide hsu;have hadd:sumTo nodesLen l k+(fnD l k).nodes.length<=1048576:=by omega
   clear hcc hsu;generalize fnD l k=x at *;obtain⟨va,vc,hv,hvI⟩:=N.vars;obtain⟨ua,uc,hu,huI⟩:=N.ups;obtain⟨na,nc,hno,hnI⟩:=N.nodes;have c0:=N.name;have c1:=N.line;have c2:=N.params;have c3:=N.rest;clear N hvI huI hnI;generalize sumTo nodesLen l k=T at *;go_wp2_with fail
   go_roundg (l.length-(k+1))
   case measure=>omega
   case rel=>
    have h1:=unhide HSU;exact⟨k+1,by omega,by go_num,by rw[h1];go_num,hx.alloc _⟩
  ·have HK:Hid (k=l.length):=by show _=_;omega
   have hkl:=HK.out;subst hkl;rw[sumTo_len]at *;clear HK hk;have r0:=hx.res 0 (by omega);have r1:=hx.res 1 (by omega);have r2:=hx.res 2 (by omega);have z0:=hx.frozen 0;have z1:=hx.frozen 1;have z2:=hx.frozen 2;have BB:Hid (∀ v0 v1 v2,Below w.heap.size w (((wr.setCell ⟨w.heap.size+1,0,none⟩ v0).setCell ⟨w.heap.size+1,1,none⟩ v1).setCell ⟨w.heap.size+1,2,none⟩ v2)):=fun v0 v1 v2=>box2_set3 hx v0 v1 v2;cases hq:inR (l.length:Int) 1 300
   ·have HQ:=hide hq;have HBAD:Hid (sizeBad l):=by
     unfold inR at hq;simp at hq;by_cases e:l.length=0
     ·exact .inl e
     ·exact .inr (.inl (by have:=hq (by omega);omega))
    clear hq;go_wp2_with fail
    refine(within_any _ _ _ _).mono ?_;rintro e w' ⟨rfl,rfl⟩;rw[unhide HQ];go_wp2_with fail
    refine bodyPost_ret (v:=.agg #[.int .i64 1,.int .i64 0,.int .i64 0]) (by simp[results,Tryz.results47,go_sem,r0,r1,r2]) rfl ⟨1,rfl,.inl ⟨unhide HBAD,rfl⟩,BB.out _ _ _⟩
   ·have HQ:=hide hq;have hin:l.length≠0/\¬300<l.length:=by
     unfold inR at hq;simp at hq;omega
    clear hq;by_cases hq2:3000<sumAll nodesLen l
    ·have e3:decide ((3000:Int)<(sumAll nodesLen l:Nat))=true:=decide_eq_true (by omega);have HBAD:Hid (sizeBad l):=.inr (.inr hq2);clear hq2;generalize sumAll nodesLen l=T at *;go_wp2_with fail
     refine(within_any _ _ _ _).mono ?_;rintro e w' ⟨rfl,rfl⟩;rw[unhide HQ];go_wp2_with fail
     refine bodyPost_ret (v:=.agg #[.int .i64 1,.int .i64 0,.int .i64 0]) (by simp[results,Tryz.results47,go_sem,r0,r1,r2]) rfl ⟨1,rfl,.inl ⟨unhide HBAD,rfl⟩,BB.out _ _ _⟩
    ·have e3:decide ((3000:Int)<(sumAll nodesLen l:Nat))=false:=decide_eq_false (by omega);have HGOOD:Hid (¬sizeBad l):=fun h=>by rcases h with h | h | h;exact hin.1 h;exact hin.2 h;exact hq2 h
     clear hq2 hin;generalize sumAll nodesLen l=T at *;go_wp2_with fail
     refine(within_any _ _ _ _).mono ?_;rintro e w' ⟨rfl,rfl⟩;rw[unhide HQ];go_wp2_with fail
     refine bodyPost_ret (v:=.agg #[.int .i64 0,.int .i64 0,.int .i64 0]) (by simp[results,Tryz.results47,go_sem,r0,r1,r2]) rfl ⟨0,rfl,.inr ⟨unhide HGOOD,rfl⟩,BB.out _ _ _⟩
theorem headFits_from {x:FnD}{va ua na:Option Addr}{vc uc nc:Nat}{S:Nat->Prop}(w W:World)(hs:StrsAt w S va x.vars)(hB:∀ b,S b->b<w.heap.size)(hnm:x.name.size<=9223372036854775807)(hu:x.ups.length<=9223372036854775807)(hno:x.nodes.length<=9223372036854775807)(hW:Below w.heap.size w W) :
  Calls Tryz.prog 66 #[.agg #[.string x.name,.int .i64 x.line,.int .i64 x.params,.bool x.rest,.slice va x.vars.length vc,.slice ua x.ups.length uc,.slice na x.nodes.length nc]] W fun e w'=>e=.returned (.bool (headFits x))/\Below W.heap.size W w':=
 headFits_any x va ua na vc uc nc S W (hs.keep hW hB) (fun b h=>Nat.lt_of_lt_of_le (hB b h) hW.size) hnm hu hno
theorem checkHeads_any (a:Option Addr)(l:List FnD)(c:Nat)(S:Nat->Prop)(w:World)(hs:FnsAt w S a l)(hB:∀ b,S b->b<w.heap.size)(hl:tFns l<=1048576) :
  Calls Tryz.prog 48 #[.agg #[.slice a l.length c]] w fun e w'=>∃ x f:Int,e=.returned (.agg #[.int .i64 x,.int .i64 f,.int .i64 0]) /\
   ((x=2/\∃ F:Nat,f=F/\F<l.length/\sHead l F=false/\∀ g,g<F->sHead l g=true)\/(x=0/\f=0/\HeadsOk l))/\Below w.heap.size w w':=by
 have hn:=hs.1;have hll:l.length<=1048576:=by unfold tFns at hl;omega
 clear hl;have HS:=hide hs;have HB:=hide hB;have X0:Hid (Box2 w a l.length c (box2 w a l.length c)):=Box2.start w a l.length c;clear hs hB;go_enter Tryz.func48,Tryz.ntmps48;go_wp2_with fail
 go_loopg [8] l.length (fun g i wr=>∃(k:Nat),k+g=l.length/\i=.int .i64 k/\Box2 w a l.length c wr/\Hid (∀ j,j<k->sHead l j=true))
 case atStart=>exact⟨0,by omega,rfl,X0.out,fun j h=>absurd h (Nat.not_lt_zero _)⟩
 case round=>
  obtain⟨k,hk,rfl,hx,hall⟩:=hrel;have u0:=hx.unit;have r0:=hx.res 0 (by omega);have r1:=hx.res 1 (by omega);have r2:=hx.res 2 (by omega);have z0:=hx.frozen 0;have z1:=hx.frozen 1;have z2:=hx.frozen 2;by_cases hlt:k<l.length
  ·obtain⟨b,off,rfl,hb,hcc⟩:=((unhide HS).keep hx.old (unhide HB)).2 (by omega);have N:FnCells wr S b (off+k * 7) (fnD l k):=hcc k hlt;have HQE:Hid (sHead l k=(headFits (fnD l k) && !((k==0)&&(!((fnD l k).params==0) || !((fnD l k).ups.length==0))))):=sHead_eq l k;have HK1:Hid (sHead l k=true->∀ j,j<k+1->sHead l j=true):=fun h j hj=>by
    by_cases e:j=k
    ·subst e;exact h
    ·exact hall.out j (by omega)
   have HK2:Hid (sHead l k=false->∃ F:Nat,(k:Int)=F/\F<l.length/\sHead l F=false/\∀ g,g<F->sHead l g=true):=fun h=>⟨k,rfl,hlt,h,hall.out⟩;generalize sHead l k=res at *;clear hcc hall;generalize fnD l k=x at *;obtain⟨va,vc,hv,hvI⟩:=N.vars;obtain⟨ua,uc,hu,huI⟩:=N.ups;obtain⟨na,nc,hno,hnI⟩:=N.nodes;have c0:=N.name;have c1:=N.line;have c2:=N.params;have c3:=N.rest;have hnm:=N.names;have hul:=huI.1;have hnl:=hnI.1;have HVI:=hide hvI;have HBr:Hid (∀ b,S b->b<wr.heap.size):=fun b h=>Nat.lt_of_lt_of_le (unhide HB b h) hx.old.size;clear N hvI huI hnI;have CALL:Hid (∀ W,Below wr.heap.size wr W->Calls Tryz.prog 66 #[.agg #[.string x.name,.int .i64 x.line,.int .i64 x.params,.bool x.rest,.slice va x.vars.length vc,.slice ua x.ups.length uc,.slice na x.nodes.length nc]] W fun e w'=>e=.returned (.bool (headFits x))/\Below W.heap.size W w'):=fun W hW=>headFits_from wr W (unhide HVI) (unhide HBr) hnm hul hnl hW;obtain⟨nm,ln,pr,rs,vars,ups,nodes⟩:=x;simp only at *;have HX:=hide hx;clear hx;have sz:w.heap.size+2<=wr.heap.size:=(unhide HX).size;have FIN:Hid (∀ w1,Below (wr.alloc (.cells #[.string nm,.int .i64 ln,.int .i64 pr,.bool rs,.slice va vars.length vc,.slice ua ups.length uc,.slice na nodes.length nc] 54)).heap.size (wr.alloc (.cells #[.string nm,.int .i64 ln,.int .i64 pr,.bool rs,.slice va vars.length vc,.slice ua ups.length uc,.slice na nodes.length nc] 54)) w1->Box2 w (some ⟨b,off,none⟩) l.length c w1/\w1.cell? ⟨wr.heap.size,2,none⟩=some (.int .i64 pr)/\w1.cell? ⟨wr.heap.size,5,none⟩=some (.slice ua ups.length uc)):=fun w1 h1=>
    ⟨((unhide HX).alloc _).below' h1,by rw[h1.cell (p:=⟨wr.heap.size,2,none⟩) (by simp)];simp[go_sem],by rw[h1.cell (p:=⟨wr.heap.size,5,none⟩) (by simp)];simp[go_sem]⟩
   clear r0 r1 r2 z0 z1 z2;cases hf:headFits ⟨nm,ln,pr,rs,vars,ups,nodes⟩
   ·have HF:=hide hf;have HR:Hid ((headFits ⟨nm,ln,pr,rs,vars,ups,nodes⟩ && !((k==0)&&(!(pr==0) || !(ups.length==0))))=false):=by show _=_;rw[hf];rfl
    clear hf;go_wp2_with fail
    refine(unhide CALL _ ((Below.refl _ _).alloc (Nat.le_refl _) _)).mono ?_;rintro e w1 ⟨rfl,hb1⟩;obtain⟨hx1,k2,k5⟩:=unhide FIN w1 hb1;rw[unhide HF];have r0:=hx1.res 0 (by omega);have r1:=hx1.res 1 (by omega);have r2:=hx1.res 2 (by omega);have z0:=hx1.frozen 0;have z1:=hx1.frozen 1;have z2:=hx1.frozen 2;have BB:Hid (∀ v0 v1 v2,Below w.heap.size w (((w1.setCell ⟨w.heap.size+1,0,none⟩ v0).setCell ⟨w.heap.size+1,1,none⟩ v1).setCell ⟨w.heap.size+1,2,none⟩ v2)):=fun v0 v1 v2=>box2_set3 hx1 v0 v1 v2;go_wp2_with fail
    refine bodyPost_ret (v:=.agg #[.int .i64 2,.int .i64 k,.int .i64 0]) (by simp[results,Tryz.results48,go_sem,r0,r1,r2]) rfl ⟨2,k,rfl,.inl ⟨rfl,unhide HK2 (by rw[unhide HQE];exact unhide HR)⟩,BB.out _ _ _⟩
   ·have HF:=hide hf;by_cases hk0:k=0
    ·have hk1:(k==0)=true:=by simp[hk0]
     have e0:((k:Int)==0)=true:=by simp[hk0]
     clear hk0;by_cases hp:pr=0
     ·by_cases hu0:ups.length=0
      ·have HR:Hid ((headFits ⟨nm,ln,pr,rs,vars,ups,nodes⟩ && !((k==0)&&(!(pr==0) || !(ups.length==0))))=true):=by show _=_;rw[hf,hk1,hp,hu0];rfl
       have e1:((ups.length:Int)==0)=true:=by simp[hu0]
       have e1':((ups.length:Int) != 0)=false:=by simp[hu0]
       subst hp;clear hf hu0 hk1;go_wp2_with fail
       refine(unhide CALL _ ((Below.refl _ _).alloc (Nat.le_refl _) _)).mono ?_;rintro e w1 ⟨rfl,hb1⟩;obtain⟨hx1,k2,k5⟩:=unhide FIN w1 hb1;rw[unhide HF];have r0:=hx1.res 0 (by omega);have r1:=hx1.res 1 (by omega);have r2:=hx1.res 2 (by omega);have z0:=hx1.frozen 0;have z1:=hx1.frozen 1;have z2:=hx1.frozen 2;have BB:Hid (∀ v0 v1 v2,Below w.heap.size w (((w1.setCell ⟨w.heap.size+1,0,none⟩ v0).setCell ⟨w.heap.size+1,1,none⟩ v1).setCell ⟨w.heap.size+1,2,none⟩ v2)):=fun v0 v1 v2=>box2_set3 hx1 v0 v1 v2;go_wp2_with fail
       go_roundg (l.length-(k+1))
       case measure=>omega
       case rel=>exact⟨k+1,by omega,by go_num,hx1,unhide HK1 (by rw[unhide HQE];exact unhide HR)⟩
      ·have HR:Hid ((headFits ⟨nm,ln,pr,rs,vars,ups,nodes⟩ && !((k==0)&&(!(pr==0) || !(ups.length==0))))=false):=by show _=_;rw[hf,hk1,hp,show(ups.length==0)=false from beq_eq_false_iff_ne.2 hu0];rfl
       have e1:((ups.length:Int)==0)=false:=beq_eq_false_iff_ne.2 (by omega);have e1':((ups.length:Int) != 0)=true:=by simpa using hu0
       subst hp;clear hf hu0 hk1;go_wp2_with fail
       refine(unhide CALL _ ((Below.refl _ _).alloc (Nat.le_refl _) _)).mono ?_;rintro e w1 ⟨rfl,hb1⟩;obtain⟨hx1,k2,k5⟩:=unhide FIN w1 hb1;rw[unhide HF];have r0:=hx1.res 0 (by omega);have r1:=hx1.res 1 (by omega);have r2:=hx1.res 2 (by omega);have z0:=hx1.frozen 0;have z1:=hx1.frozen 1;have z2:=hx1.frozen 2;have BB:Hid (∀ v0 v1 v2,Below w.heap.size w (((w1.setCell ⟨w.heap.size+1,0,none⟩ v0).setCell ⟨w.heap.size+1,1,none⟩ v1).setCell ⟨w.heap.size+1,2,none⟩ v2)):=fun v0 v1 v2=>box2_set3 hx1 v0 v1 v2;go_wp2_with fail
       refine bodyPost_ret (v:=.agg #[.int .i64 2,.int .i64 k,.int .i64 0]) (by simp[results,Tryz.results48,go_sem,r0,r1,r2]) rfl ⟨2,k,rfl,.inl ⟨rfl,unhide HK2 (by rw[unhide HQE];exact unhide HR)⟩,BB.out _ _ _⟩
     ·have HR:Hid ((headFits ⟨nm,ln,pr,rs,vars,ups,nodes⟩ && !((k==0)&&(!(pr==0) || !(ups.length==0))))=false):=by show _=_;rw[hf,hk1,show(pr==0)=false from beq_eq_false_iff_ne.2 hp];rfl
      have e1':(pr != 0)=true:=by simpa using hp
      clear hf hp hk1;go_wp2_with fail
      refine(unhide CALL _ ((Below.refl _ _).alloc (Nat.le_refl _) _)).mono ?_;rintro e w1 ⟨rfl,hb1⟩;obtain⟨hx1,k2,k5⟩:=unhide FIN w1 hb1;rw[unhide HF];have r0:=hx1.res 0 (by omega);have r1:=hx1.res 1 (by omega);have r2:=hx1.res 2 (by omega);have z0:=hx1.frozen 0;have z1:=hx1.frozen 1;have z2:=hx1.frozen 2;have BB:Hid (∀ v0 v1 v2,Below w.heap.size w (((w1.setCell ⟨w.heap.size+1,0,none⟩ v0).setCell ⟨w.heap.size+1,1,none⟩ v1).setCell ⟨w.heap.size+1,2,none⟩ v2)):=fun v0 v1 v2=>box2_set3 hx1 v0 v1 v2;go_wp2_with fail
      refine bodyPost_ret (v:=.agg #[.int .i64 2,.int .i64 k,.int .i64 0]) (by simp[results,Tryz.results48,go_sem,r0,r1,r2]) rfl ⟨2,k,rfl,.inl ⟨rfl,unhide HK2 (by rw[unhide HQE];exact unhide HR)⟩,BB.out _ _ _⟩
    ·have HR:Hid ((headFits ⟨nm,ln,pr,rs,vars,ups,nodes⟩ && !((k==0)&&(!(pr==0) || !(ups.length==0))))=true):=by show _=_;rw[hf,show(k==0)=false from beq_eq_false_iff_ne.2 hk0];rfl
     have e0:((k:Int)==0)=false:=beq_eq_false_iff_ne.2 (by omega);clear hf;go_wp2_with fail
     refine(unhide CALL _ ((Below.refl _ _).alloc (Nat.le_refl _) _)).mono ?_;rintro e w1 ⟨rfl,hb1⟩;obtain⟨hx1,k2,k5⟩:=unhide FIN w1 hb1;rw[unhide HF];have r0:=hx1.res 0 (by omega);have r1:=hx1.res 1 (by omega);have r2:=hx1.res 2 (by omega);have z0:=hx1.frozen 0;have z1:=hx1.frozen 1;have z2:=hx1.frozen 2;have BB:Hid (∀ v0 v1 v2,Below w.heap.size w (((w1.setCell ⟨w.heap.size+1,0,none⟩ v0).setCell ⟨w.heap.size+1,1,none⟩ v1).setCell ⟨w.heap.size+1,2,none⟩ v2)):=fun v0 v1 v2=>box2_set3 hx1 v0 v1 v2;go_wp2_with fail
     go_roundg (l.length-(k+1))
     case measure=>omega
     case rel=>exact⟨k+1,by omega,by go_num,hx1,unhide HK1 (by rw[unhide HQE];exact unhide HR)⟩
  ·have HH:Hid (HeadsOk l):=fun g hg=>hall.out g (by omega);have BB:Hid (∀ v0 v1 v2,Below w.heap.size w (((wr.setCell ⟨w.heap.size+1,0,none⟩ v0).setCell ⟨w.heap.size+1,1,none⟩ v1).setCell ⟨w.heap.size+1,2,none⟩ v2)):=fun v0 v1 v2=>box2_set3 hx v0 v1 v2;go_wp2_with fail
   refine bodyPost_ret (v:=.agg #[.int .i64 0,.int .i64 0,.int .i64 0]) (by simp[results,Tryz.results48,go_sem,r0,r1,r2]) rfl ⟨0,0,rfl,.inr ⟨rfl,rfl,unhide HH⟩,BB.out _ _ _⟩
attribute [local go_sem] run_store_float
def occKids (ks:List Int):Nat->Nat->Int
 | 0,_=>0
 | m+1,x=>occKids ks m x+if(ks[m]?.getD 0).toNat=x then 1 else 0
def occUpto (ns:List NodeD):Nat->Nat->Int
 | 0,_=>0
 | i+1,x=>occUpto ns i x+occKids (nd ns i).kids (nd ns i).kids.length x
theorem occKids_bd (ks:List Int):∀ m x,0<=occKids ks m x/\occKids ks m x<=m
 | 0,_=>⟨Int.le_refl _,Int.le_refl _⟩
 | m+1,x=>by have:=occKids_bd ks m x;unfold occKids;split<;>omega
theorem occUpto_bd (ns:List NodeD)(h:∀ p,p<ns.length->(nd ns p).kids.length<=200):∀ i x,i<=ns.length->0<=occUpto ns i x/\occUpto ns i x<=200 * i
 | 0,_,_=>⟨Int.le_refl _,Int.le_refl _⟩
 | i+1,x,hi=>by
  have h1:=occUpto_bd ns h i x (by omega);have h2:=occKids_bd (nd ns i).kids (nd ns i).kids.length x;have h3:=h i (by omega);unfold occUpto;omega
def ParOcc (par occ:Int):Prop:=(occ=0/\par=-2)\/(occ=1/\0<=par)\/(2<=occ/\par=-3)
theorem parOcc_step {par occ:Int}(h:ParOcc par occ)(i:Nat):ParOcc (if par=-2 then(i:Int)else -3) (occ+1):=by
 unfold ParOcc at *;rcases h with⟨h1,h2⟩ | ⟨h1,h2⟩ | ⟨h1,h2⟩
 ·rw[if_pos h2];omega
 ·rw[if_neg (by omega)];omega
 ·rw[if_neg (by omega)];omega
theorem parOcc_kids {par:Nat->Int}{occ:Nat->Int}(h:∀ x,ParOcc (par x) (occ x))(i:Nat)(ks:List Int):∀ m x,ParOcc (parKidsTo par i ks m x) (occ x+occKids ks m x)
 | 0,x=>by rw[occKids,Int.add_zero];exact h x
 | m+1,x=>by
  have ih:=parOcc_kids h i ks m;show ParOcc (parStep _ _ _ x) _;unfold parStep;rw[occKids];by_cases e:x=(ks[m]?.getD 0).toNat
  ·rw[if_pos e,if_pos e.symm,<-e,<-Int.add_assoc];exact parOcc_step (ih x) i
  ·rw[if_neg e,if_neg (fun h=>e h.symm),Int.add_zero];exact ih x
theorem parOcc_upto (ns:List NodeD):∀ i x,ParOcc (parUpto ns i x) (occUpto ns i x)
 | 0,_=>.inl ⟨rfl,rfl⟩
 | i+1,x=>parOcc_kids (parOcc_upto ns i) i (nd ns i).kids (nd ns i).kids.length x
def parBad (ns:List NodeD)(p:Nat):Bool:=if p+1=ns.length then !((nd ns p).kind==1)else !(occUpto ns ns.length p==1)
theorem sPar_at {ns:List NodeD}(hk:∀ p,p<ns.length->kidsIn ns p=true){p:Nat}(hp:p<ns.length):sPar ns p=if p+1=ns.length then -1 else parUpto ns ns.length p:=by
 unfold sPar;by_cases e:p+1=ns.length
 ·rw[if_pos e,if_pos ⟨by omega,parUpto_high _ _ hk (by omega)⟩]
 ·rw[if_neg e,if_neg (fun h=>e (by have:=h.1;omega))]
theorem parentBad_eq {l:List FnD}(hs:Shaped l){f p:Nat}(hf:f<l.length)(hp:p<(fnD l f).nodes.length):parentBad l f p=parBad (fnD l f).nodes p:=by
 have h:=sPar_at (fun p hp=>hs.kids hf p hp) hp;have ho:=parOcc_upto (fnD l f).nodes (fnD l f).nodes.length p;unfold parentBad parBad;by_cases e:p+1=(fnD l f).nodes.length
 ·rw[if_pos e,if_pos e,h,if_pos e];simp
 ·rw[if_neg e,if_neg e,h,if_neg e];rcases ho with⟨h1,h2⟩ | ⟨h1,h2⟩ | ⟨h1,h2⟩
  ·rw[h1,h2];rfl
  ·rw[h1,decide_eq_false (by omega)];rfl
  ·rw[h2,show(occUpto (fnD l f).nodes (fnD l f).nodes.length p==1)=false from beq_eq_false_iff_ne.2 (by omega)];rfl
theorem Shaped.nkids {l:List FnD}(h:Shaped l){f:Nat}(hf:f<l.length)(p:Nat)(hp:p<(fnD l f).nodes.length):(nd (fnD l f).nodes p).kids.length<=200:=by
 have:=h.node hf hp;unfold sShape at this;rw[Bool.and_eq_true,Bool.and_eq_true]at this;exact of_decide_eq_true this.1.1
structure ParW (wo w:World)(a:Option Addr)(nl c bf bp:Nat)(na:Option Addr)(n nc:Nat)(occ:Nat->Int)(wr:World):Prop where
 box:Box2 w a nl c wr
 fnc:wr.cell? ⟨bf,6,none⟩=some (.slice na n nc)
 row:wr.rowIs bp 3 n (fun j=>.int .i64 (occ j))
 n1:w.heap.size+2<=bf
 n2:bf<bp
 old:Below wo.heap.size wo wr
 n3:wo.heap.size<=bf
section
variable {wo w:World} {a:Option Addr} {nl c bf bp:Nat} {na:Option Addr} {n nc:Nat} {occ occ':Nat->Int} {wr:World}
theorem ParW.alloc (h:ParW wo w a nl c bf bp na n nc occ wr)(o:Obj):ParW wo w a nl c bf bp na n nc occ (wr.alloc o):=
 {box:=h.box.alloc o,fnc:=by rw[World.cell?_alloc_past _ _ _ (Nat.lt_trans h.n2 h.row.lt)];exact h.fnc,row:=h.row.alloc o,n1:=h.n1,n2:=h.n2,old:=h.old.alloc h.old.size o,n3:=h.n3 }
theorem ParW.drew (h:ParW wo w a nl c bf bp na n nc occ wr):ParW wo w a nl c bf bp na n nc occ wr.drew:=
 {box:=h.box.drew,fnc:=h.fnc,row:=h.row.drew,n1:=h.n1,n2:=h.n2,old:=h.old.drew,n3:=h.n3 }
theorem ParW.set (h:ParW wo w a nl c bf bp na n nc occ wr)(j:Nat)(v:Int)(ho:∀ i,i<n->occ' i=if i=j then v else occ i):ParW wo w a nl c bf bp na n nc occ' (wr.setCell ⟨bp,j,none⟩ (.int .i64 v)):=
 {box:=⟨h.box.below.setCell (by have:=h.n1;have:=h.n2;simp only;omega) _⟩
  fnc:=by rw[World.cell?_of_block (a:=⟨bf,6,none⟩) (Below.heap_setCell wr ⟨bp,j,none⟩ _ bf (Nat.ne_of_lt h.n2))];exact h.fnc
  row:=(h.row.set j _).congr fun i hi=>by rw[ho i hi];split<;>rfl
  n1:=h.n1,n2:=h.n2,old:=h.old.setCell (by have:=h.n3;have:=h.n2;simp only;omega) _,n3:=h.n3 }
theorem ParW.occEq (h:ParW wo w a nl c bf bp na n nc occ wr)(e:∀ i,i<n->occ' i=occ i):ParW wo w a nl c bf bp na n nc occ' wr:=
 {box:=h.box,fnc:=h.fnc,row:=h.row.congr fun i hi=>by rw[e i hi],n1:=h.n1,n2:=h.n2,old:=h.old,n3:=h.n3 }
end
theorem checkParents_any (a:Option Addr)(l:List FnD)(c:Nat)(S:Nat->Prop)(w:World)(hs:FnsAt w S a l)(hB:∀ b,S b->b<w.heap.size)(hsh:Shaped l) :
  Calls Tryz.prog 50 #[.agg #[.slice a l.length c]] w fun e w'=>∃ x f n:Int,e=.returned (.agg #[.int .i64 x,.int .i64 f,.int .i64 n]) /\
   ((x=4/\∃ F P:Nat,f=F/\n=P/\First l (parentBad l) F P)\/(x=0/\f=0/\n=0/\NoBad l (parentBad l)))/\Below w.heap.size w w':=by
 have hn:=hs.1;have hll:l.length<=300:=hsh.fns.2;have HS:=hide hs;have HB:=hide hB;have HSH:=hide hsh;have X0:Hid (Box2 w a l.length c (box2 w a l.length c)):=Box2.start w a l.length c;clear hs hB hsh;go_enter Tryz.func50,Tryz.ntmps50;go_wp2_with fail
 go_loopg [16] l.length (fun g i wr=>∃(k:Nat),k+g=l.length/\i=.int .i64 k/\Box2 w a l.length c wr/\Hid (∀ f' p',f'<k->p'<(fnD l f').nodes.length->parentBad l f' p'=false))
 case atStart=>exact⟨0,by omega,rfl,X0.out,fun f' p' h=>absurd h (Nat.not_lt_zero _)⟩
 case round=>
  obtain⟨f,hk,rfl,hx,hgood⟩:=hrel;have u0:=hx.unit;by_cases hlt:f<l.length
  ·obtain⟨b,off,rfl,hb,hcc⟩:=((unhide HS).keep hx.old (unhide HB)).2 (by omega);have N:FnCells wr S b (off+f * 7) (fnD l f):=hcc f hlt;have hPB:Hid (∀ p,p<(fnD l f).nodes.length->parentBad l f p=parBad (fnD l f).nodes p):=fun p hp=>parentBad_eq (unhide HSH) hlt hp;have hnl:(fnD l f).nodes.length<=3000:=(unhide HSH).len hlt;have hn1:1<=(fnD l f).nodes.length:=(unhide HSH).pos hlt;have HK2:Hid (∀ p,p<(fnD l f).nodes.length->(nd (fnD l f).nodes p).kids.length<=200):=fun p hp=>(unhide HSH).nkids hlt p hp;have HKI:Hid (∀ p,p<(fnD l f).nodes.length->kidsIn (fnD l f).nodes p=true):=fun p hp=>(unhide HSH).kids hlt p hp;have FIN1:Hid ((∀ p,p<(fnD l f).nodes.length->parBad (fnD l f).nodes p=false)->∀ f' p',f'<f+1->p'<(fnD l f').nodes.length->parentBad l f' p'=false):=fun h f' p' h1 h2=>by
    by_cases e:f'=f
    ·subst e;rw[unhide hPB p' h2];exact h p' h2
    ·exact hgood.out f' p' (by omega) h2
   have FIN2:Hid (∀ p,p<(fnD l f).nodes.length->parBad (fnD l f).nodes p=true->(∀ q,q<p->parBad (fnD l f).nodes q=false)->First l (parentBad l) f p):=fun p hp h1 h2=>
    ⟨hlt,hp,by rw[unhide hPB p hp];exact h1,fun f' p' g1 g2 g3=>by
     rcases g3 with g3 | ⟨rfl,g3⟩
     ·exact hgood.out f' p' g3 g2
     ·rw[unhide hPB p' g2];exact h2 p' g3⟩
   clear hcc hPB hgood;generalize fnD l f=x at *;obtain⟨va,vc,hv,hvI⟩:=N.vars;obtain⟨ua,uc,hu,huI⟩:=N.ups;obtain⟨na,nc,hno,hnI⟩:=N.nodes;have c0:=N.name;have c1:=N.line;have c2:=N.params;have c3:=N.rest;have NN:=hide hnI;have HBr:Hid (∀ b,S b->b<wr.heap.size):=fun b h=>Nat.lt_of_lt_of_le (unhide HB b h) hx.old.size;have hmk:=run_make_row' (P:=Tryz.prog) 56 3 (.int .i64 0) 8 Tryz.underlying56 info_int rfl .i64 .i64 x.nodes.length (by omega) (by omega);have sz:=hx.size;obtain⟨nm,ln,pr,rs,vars,ups,ns⟩:=x;simp only at *;have P0:Hid (ParW wr w (some ⟨b,off,none⟩) l.length c wr.heap.size (wr.heap.size+1) na ns.length nc (occUpto ns 0) ((wr.alloc (.cells #[.string nm,.int .i64 ln,.int .i64 pr,.bool rs,.slice va vars.length vc,.slice ua ups.length uc,.slice na ns.length nc] 54)).alloc (.cells (madeCells #[.int .i64 0] ns.length) 3))):=
    {box:=(hx.alloc _).alloc _
     fnc:=by rw[World.cell?_alloc_past _ _ _ (by simp)];simp[go_sem]
     row:=by have h:=World.rowIs_made (wr.alloc (.cells #[.string nm,.int .i64 ln,.int .i64 pr,.bool rs,.slice va vars.length vc,.slice ua ups.length uc,.slice na ns.length nc] 54)) (.int .i64 0) ns.length 3;simp only[World.size_alloc]at h;exact h
     n1:=sz,n2:=Nat.lt_succ_self _,old:=((Below.refl _ _).alloc (Nat.le_refl _) _).alloc (by simp) _,n3:=Nat.le_refl _ }
   clear N hvI huI hnI;have HX:=hide hx;clear hx;obtain⟨wo,rfl⟩:∃ wo,wo=wr:=⟨wr,rfl⟩;go_wp2_with fail
   clear hmk;go_loopg [32] ns.length (fun g i wr=>∃(k:Nat),k+g=ns.length/\i=.int .i64 k/\ParW wo w (some ⟨b,off,none⟩) l.length c wo.heap.size (wo.heap.size+1) na ns.length nc (occUpto ns k) wr)
   case atStart=>exact⟨0,by omega,rfl,unhide P0⟩
   case round=>
    clear P0 u0 hv hu hno c0 c1 c2 c3;obtain⟨i,hi,rfl,hg⟩:=hrel;have f6:=hg.fnc;by_cases hil:i<ns.length
    ·obtain⟨bn,offn,rfl,hbn,hcn⟩:=((unhide NN).keep (B:=wo.heap.size) (w':=wr) hg.old (unhide HBr)).2 (by omega);have M:NodeCells wr S bn (offn+i * 8) (nd ns i):=hcn i hil;clear hcn;obtain⟨ra,rc,hr,hrI⟩:=M.refs;obtain⟨ka,kc,hkk,hkI⟩:=M.kids;have c0:=M.kind;have c1:=M.line;have c2:=M.op;have c3:=M.num;have c4:=M.flt;have c5:=M.str;have hkl:=unhide HK2 i hil;have KIN:Hid (∀ q,q<(nd ns i).kids.length->0<=(nd ns i).kids[q]?.getD 0/\(nd ns i).kids[q]?.getD 0<i):=fun q hq=>kidsIn_get (unhide HKI i hil) q hq;have OB:Hid (∀ x,0<=occUpto ns i x/\occUpto ns i x<=200 * i):=fun x=>occUpto_bd ns (unhide HK2) i x (by omega);have OS:Hid (∀ x,occUpto ns (i+1) x=occUpto ns i x+occKids (nd ns i).kids (nd ns i).kids.length x):=fun x=>rfl;have KI:=hide hkI;have HBW:Hid (∀ b,S b->b<wr.heap.size/\b≠wo.heap.size+1):=fun b h=>⟨Nat.lt_of_lt_of_le (unhide HBr b h) hg.old.size,by have:=unhide HBr b h;omega⟩;clear M hrI hkI;generalize nd ns i=y at *;obtain⟨k0,k1,k2,k3,k4,k5,k6,kids⟩:=y;simp only at *;obtain⟨wn,rfl⟩:∃ wn,wn=wr:=⟨wr,rfl⟩;have Q0:Hid (∀ o,∃ wq,Below wn.heap.size wn (wn.alloc o)/\wq=wn.alloc o/\ParW wo w (some ⟨b,off,none⟩) l.length c wo.heap.size (wo.heap.size+1) (some ⟨bn,offn,none⟩) ns.length nc (fun x=>occUpto ns i x+occKids kids 0 x) wq):=fun o=>⟨_,(Below.refl _ _).alloc (Nat.le_refl _) o,rfl,(hg.alloc o).occEq (fun x _=>by simp[occKids])⟩;have HG:=hide hg;clear hg;go_wp2_with fail
     go_loopg [39] kids.length (fun g m wr=>∃(q:Nat),q+g=kids.length/\m=.int .i64 q/\But (wo.heap.size+1) wn.heap.size wn wr/\ParW wo w (some ⟨b,off,none⟩) l.length c wo.heap.size (wo.heap.size+1) (some ⟨bn,offn,none⟩) ns.length nc (fun x=>occUpto ns i x+occKids kids q x) wr)
     case atStart=>
      refine⟨0,by omega,rfl,?_,?_⟩
      ·exact(But.refl _ _ _).alloc (Nat.le_refl _) _
      ·exact((unhide HG).alloc _).occEq (fun x _=>by simp[occKids])
     case round=>
      clear f6 c0 c1 c2 c3 c4 c5 hr hkk Q0 HG;obtain⟨q,hq,rfl,hbt,hg⟩:=hrel;by_cases hql:q<kids.length
      ·obtain⟨b2,off2,rfl,hb2,hc2⟩:=((unhide KI).same (hbt.same (unhide HBW))).2 (by omega);have hcl:=hc2 q hql;have hin:=unhide KIN q hql;obtain⟨z,hz⟩:=Int.eq_ofNat_of_zero_le hin.1;have OK1:Hid (∀ x,occUpto ns i x+occKids kids (q+1) x=if x=z then occUpto ns i z+occKids kids q z+1 else occUpto ns i x+occKids kids q x):=fun x=>by
        show occUpto ns i x+(occKids kids q x+if(kids[q]?.getD 0).toNat=x then 1 else 0)=_;rw[hz];by_cases e:x=z
        ·subst e;simp;omega
        ·rw[if_neg e,if_neg (by simp;omega)];omega
       rw[hz]at hcl hin;have hzn:z<ns.length:=by omega
       have o1:=unhide OB z;have o2:=occKids_bd kids q z;have pc:=hg.row.cell hzn;have pf:=hg.row.frozen z;have hv0:0<=occUpto ns i z+occKids kids q z:=by omega
       have hv1:occUpto ns i z+occKids kids q z<=1000000:=by omega
       clear hc2 hz o1 o2;generalize hvv:occUpto ns i z+occKids kids q z=v at *;clear hvv;go_wp2_with fail
       go_roundg (kids.length-(q+1))
       case measure=>omega
       case rel=>exact⟨q+1,by omega,by go_num,hbt.set _ _,hg.set z (v+1) (fun x _=>unhide OK1 x)⟩
      ·obtain rfl:q=kids.length:=by omega
       go_wp2_with fail
       go_roundg (ns.length-(i+1))
       case measure=>omega
       case rel=>exact⟨i+1,by omega,by go_num,hg.occEq (fun x _=>unhide OS x)⟩
    ·obtain rfl:i=ns.length:=by omega
     clear hil hi;have OB:Hid (∀ x,0<=occUpto ns ns.length x/\occUpto ns ns.length x<=200 * ns.length):=fun x=>occUpto_bd ns (unhide HK2) ns.length x (Nat.le_refl _);go_wp2_with fail
     go_loopg [54] ns.length (fun g i wr=>∃(k:Nat),k+g=ns.length/\i=.int .i64 k/\ParW wo w (some ⟨b,off,none⟩) l.length c wo.heap.size (wo.heap.size+1) na ns.length nc (occUpto ns ns.length) wr/\Hid (∀ p,p<k->parBad ns p=false))
     case atStart=>exact⟨0,by omega,rfl,hg,fun p h=>absurd h (Nat.not_lt_zero _)⟩
     case round=>
      clear hg f6;obtain⟨p,hp,rfl,hg,hok⟩:=hrel;have f6:=hg.fnc;have hx:=hg.box;by_cases hpl:p<ns.length
      ·obtain⟨bn,offn,rfl,hbn,hcn⟩:=((unhide NN).keep (B:=wo.heap.size) (w':=wr) hg.old (unhide HBr)).2 (by omega);have M:NodeCells wr S bn (offn+p * 8) (nd ns p):=hcn p hpl;clear hcn;obtain⟨ra,rc,hr,hrI⟩:=M.refs;obtain⟨ka,kc,hkk,hkI⟩:=M.kids;have c0:=M.kind;have c1:=M.line;have c2:=M.op;have c3:=M.num;have c4:=M.flt;have c5:=M.str;clear M hrI hkI;have PB:Hid (parBad ns p=if p+1=ns.length then !((nd ns p).kind==1)else !(occUpto ns ns.length p==1)):=rfl;have pc:=hg.row.cell hpl;have hpbp:wo.heap.size+1<wr.heap.size:=hg.row.lt;have hpbp1:wo.heap.size+1<wr.heap.size+1:=by omega
       have hw1:w.heap.size+1<wr.heap.size:=by have:=hx.size;omega
       have hw2:w.heap.size+1<wr.heap.size+1:=by omega
       have r0:=hx.res 0 (by omega);have r1:=hx.res 1 (by omega);have r2:=hx.res 2 (by omega);have z0:=hx.frozen 0;have z1:=hx.frozen 1;have z2:=hx.frozen 2;have BB:Hid (∀ v0 v1 v2,Below w.heap.size w (((wr.setCell ⟨w.heap.size+1,0,none⟩ v0).setCell ⟨w.heap.size+1,1,none⟩ v1).setCell ⟨w.heap.size+1,2,none⟩ v2)):=fun v0 v1 v2=>box2_set3 hx v0 v1 v2;have HT:Hid (parBad ns p=false->∀ q,q<p+1->parBad ns q=false):=fun h q hq=>by
        by_cases e:q=p
        ·subst e;exact h
        ·exact hok.out q (by omega)
       have HF:Hid (parBad ns p=true->First l (parentBad l) f p):=fun h=>unhide FIN2 p hpl h hok.out;generalize nd ns p=y at *;obtain⟨k0,k1,k2,k3,k4,k5,k6,k7⟩:=y;simp only at *;generalize occUpto ns ns.length p=o at *;generalize parBad ns p=pb at *;by_cases hpe:p+1=ns.length
       ·have e1:decide ((p:Int)<(ns.length:Int)-1)=false:=decide_eq_false (by omega);have e2:((p:Int)==(ns.length:Int)-1)=true:=beq_iff_eq.2 (by omega);have PB:Hid (pb=!(k0==1)):=by have h:=PB.out;rw[if_pos hpe]at h;exact h
        cases hk1:k0==1
        ·have e3:(k0 != 1)=true:=by simp[bne,hk1]
         have PB:Hid (pb=true):=by have h:=PB.out;rw[hk1]at h;exact h
         go_wp2_with fail
         refine bodyPost_ret (v:=.agg #[.int .i64 4,.int .i64 f,.int .i64 p]) (by simp[results,Tryz.results50,go_sem,r0,r1,r2,hw1]) rfl ⟨4,f,p,rfl,.inl ⟨rfl,f,p,rfl,rfl,unhide HF PB.out⟩,by first | exact(BB.out _ _ _).alloc (by simp;omega) _ | exact BB.out _ _ _⟩
        ·have e3:(k0 != 1)=false:=by simp[bne,hk1]
         have PB:Hid (pb=false):=by have h:=PB.out;rw[hk1]at h;exact h
         go_wp2_with fail
         go_roundg (ns.length-(p+1))
         case measure=>omega
         case rel=>exact⟨p+1,by omega,by go_num,hg.alloc _,unhide HT PB.out⟩
       ·have e1:decide ((p:Int)<(ns.length:Int)-1)=true:=decide_eq_true (by omega);have e2:((p:Int)==(ns.length:Int)-1)=false:=beq_eq_false_iff_ne.2 (by omega);have PB:Hid (pb=!(o==1)):=by have h:=PB.out;rw[if_neg hpe]at h;exact h
        cases hk1:o==1
        ·have e3:(o != 1)=true:=by simp[bne,hk1]
         have PB:Hid (pb=true):=by have h:=PB.out;rw[hk1]at h;exact h
         go_wp2_with fail
         refine bodyPost_ret (v:=.agg #[.int .i64 4,.int .i64 f,.int .i64 p]) (by simp[results,Tryz.results50,go_sem,r0,r1,r2,hw1]) rfl ⟨4,f,p,rfl,.inl ⟨rfl,f,p,rfl,rfl,unhide HF PB.out⟩,by first | exact(BB.out _ _ _).alloc (by simp;omega) _ | exact BB.out _ _ _⟩
        ·have e3:(o != 1)=false:=by simp[bne,hk1]
         have PB:Hid (pb=false):=by have h:=PB.out;rw[hk1]at h;exact h
         go_wp2_with fail
         go_roundg (ns.length-(p+1))
         case measure=>omega
         case rel=>exact⟨p+1,by omega,by go_num,hg.alloc _,unhide HT PB.out⟩
      ·go_wp2_with fail
       go_roundg (l.length-(f+1))
       case measure=>omega
       case rel=>exact⟨f+1,by omega,by go_num,hg.box,unhide FIN1 (fun p' hp'=>hok.out p' (by omega))⟩
  ·have HH:Hid (NoBad l (parentBad l)):=fun f' p' h1 h2=>hgood.out f' p' (by omega) h2;have r0:=hx.res 0 (by omega);have r1:=hx.res 1 (by omega);have r2:=hx.res 2 (by omega);have z0:=hx.frozen 0;have z1:=hx.frozen 1;have z2:=hx.frozen 2;have BB:Hid (∀ v0 v1 v2,Below w.heap.size w (((wr.setCell ⟨w.heap.size+1,0,none⟩ v0).setCell ⟨w.heap.size+1,1,none⟩ v1).setCell ⟨w.heap.size+1,2,none⟩ v2)):=fun v0 v1 v2=>box2_set3 hx v0 v1 v2;go_wp2_with fail
   refine bodyPost_ret (v:=.agg #[.int .i64 0,.int .i64 0,.int .i64 0]) (by simp[results,Tryz.results50,go_sem,r0,r1,r2]) rfl ⟨0,0,0,rfl,.inr ⟨rfl,rfl,rfl,unhide HH⟩,BB.out _ _ _⟩
end Go.Proofs.YtofcbekoaghikaaGreatDoor
