import Derived.Test.YtomcjennjcpdnaaGreatDoorPart43
import Derived.Test.YtomcjennjcpdnaaGreatDoorPart09
import Derived.Test.YtomcjennjcpdnaaGreatDoorPart32
set_option linter.unusedSimpArgs false
set_option linter.unusedVariables false
set_option maxHeartbeats 1000000
namespace Go.Proofs.YtomcjennjcpdnaaGreatDoor
set_option maxRecDepth 100000
set_option maxHeartbeats 4000000
open Go.RowKit
def Plans (l:List FnD)(f:Int):Prop:=0<=f/\f<l.length/\UnitFault l 0 0 0
theorem tFns_len (l:List FnD):l.length<=tFns l:=by unfold tFns;omega
theorem sumAll_mono {α:Type}{f g:α->Nat}:∀(l:List α),(∀ x,f x<=g x)->sumAll f l<=sumAll g l
 | [],_=>Nat.le_refl _
 | x::l,h=>by
  have:=sumAll_mono l h;have:=h x;simp only[sumAll,List.map_cons,List.sum_cons]at *;omega
theorem sh_12k {ns:List NodeD}(T:TreeOk ns){p:Nat}(hp:p<ns.length)(h:sShape ns p=true)(hk:(nd ns p).kind=12):(nd ns (kidI (nd ns p) 0).toNat).kind=1:=by
 have hl:=sh_kids2 h hk (by decide);simp[sShape,isStat,sStatement,stArm,hk]at h;have h2:sKidI ns p 0=1:=h.2.2.1.1.2;have:=sKidI_eq T hp (j:=0) (by omega);simp only[Int.natCast_zero]at this;rw[<-this];exact h2
structure PlOk (l:List FnD)(f:Nat):Prop where
 rf:RfOk (fnD l f).nodes (fnD l f).vars.length
 sh:ShOk l f (fnD l f).vars.length
 root:(nd (fnD l f).nodes ((fnD l f).nodes.length-1)).kind=1
 brk:brkF (fnD l f).nodes ((fnD l f).nodes.length-1)=false
 wt:Wt (fnD l f).nodes ((fnD l f).nodes.length-1)<=1060576
 par:0<=(fnD l f).params/\(fnD l f).params<=(fnD l f).vars.length
 vars:(fnD l f).vars.length<=200
 ups:(fnD l f).ups.length<=200
theorem wt_root_le {l:List FnD}{f:Nat}(hf:f<l.length)(T:TreeOk (fnD l f).nodes)(hl:tFns l<=1048576):Wt (fnD l f).nodes ((fnD l f).nodes.length-1)<=1060576:=by
 have h1:=Wt_root T;have h2:=ownsAll_le (ns:=(fnD l f).nodes) (fnD l f).nodes.length (Nat.le_refl _);rw[sumTo_len]at h2;have h3:sumAll (fun x:NodeD=>x.refs.length) (fnD l f).nodes<=sumAll tNode (fnD l f).nodes:=sumAll_mono _ fun x=>by unfold tNode;omega
 have h4:tFn (fnD l f)<=sumAll tFn l:=by
  have e1:=sumTo_succ tFn l f FnD.z hf;have e2:=sumTo_le tFn l (f+1);unfold fnD;omega
 have h5:tFn (fnD l f)=(fnD l f).name.size+tStrs (fnD l f).vars+(fnD l f).ups.length+((fnD l f).nodes.length+sumAll tNode (fnD l f).nodes):=rfl;have h6:tFns l=l.length+sumAll tFn l:=rfl;have:=T.len;omega
theorem plOk_of {l:List FnD}{x y:Int}(h:UnitFault l 0 x y){f:Nat}(hf:f<l.length)(hl:tFns l<=1048576):PlOk l f:=by
 have hz:=unitFault_zero h;obtain⟨hs,_,_,hr,_⟩:=hz;have hp:NoBad l (parentBad l)/\NoBad l (breakBad l):=by
  rcases h with⟨_,h⟩ | ⟨_,_,h⟩ | ⟨_,h2,h3⟩
  ·exact absurd rfl h
  ·exact absurd rfl h
  ·refine⟨(fault45_zero h2).1,?_⟩;rcases h3 with⟨h,_⟩ | ⟨_,h,_⟩ | ⟨_,_,h,_⟩ | ⟨_,_,_,h,_⟩ | ⟨_,a2,_⟩
   ·cases h
   ·cases h
   ·cases h
   ·cases h
   ·exact a2
 have T:=tree_of hs hp.1 hf;have hsh:=fun p (hp:p<(fnD l f).nodes.length)=>hs.node hf hp;have hhd:=hs.head hf;refine⟨⟨T,hsh,fun p hp hk=>refs_in (hr f p hf hp) ⟨by omega,by omega,by omega⟩⟩,⟨T,hsh,fun p hp hk=>var_in (hr f p hf hp) hk⟩,?_,?_,wt_root_le hf T hl,hhd.2.2,hhd.1,hhd.2.1⟩
 ·have h1:=hp.1 f ((fnD l f).nodes.length-1) hf (by have:=T.pos;omega);rw[parentBad_eq hs hf (by have:=T.pos;omega)]at h1;unfold parBad at h1;rw[if_pos (by have:=T.pos;omega)]at h1;simpa using h1
 ·refine brk_root T fun p hp' hk=>?_;have h1:=hp.2 f p hf hp';unfold breakBad at h1;cases e:sInloop (fnD l f).nodes p with
  | true=>rfl
  | false=>
   rw[e]at h1;rcases hk with hk | hk<;>(rw[hk]at h1;simp at h1)
theorem PlOk.first {l:List FnD}{f:Nat}(h:PlOk l f):0<=firstF (fnD l f)/\firstF (fnD l f)<=201:=by
 have:=h.par;have:=h.vars;unfold firstF;split<;>omega
def homesF (l:List FnD)(f:Nat):Nat->Int:=hF (fnD l f).nodes ((fnD l f).nodes.length-1) (firstF (fnD l f)) (homes0 (fnD l f).params)
end Go.Proofs.YtomcjennjcpdnaaGreatDoor
namespace Go.Proofs.YtomcjennjcpdnaaGreatDoor
set_option maxRecDepth 100000
set_option maxHeartbeats 4000000
open Go.RowKit
theorem canPlan_any (G:World->Prop)(hG:∀ w w',Below w.heap.size w w'->G w->G w')(himp:ImplSaid G)(a:Option Addr)(l:List FnD)(c:Nat)(f:Int)(S:Nat->Prop)(w:World)(g0:G w)(hs:FnsAt w S a l)(hB:∀ b,S b->b<w.heap.size)(hl:tFns l<=1048576) :
  Calls Tryz.prog 17 #[.agg #[.slice a l.length c],.int .i64 f] w fun e w'=>∃ r,e=.returned (.bool r)/\(r=true↔Plans l f)/\Below w.heap.size w w':=by
 have hbA:Below w.heap.size w (w.alloc (.cells #[.slice a l.length c] 30)):=(Below.refl _ _).alloc (Nat.le_refl _) _;have hlen:=tFns_len l;have CU:Hid (Calls Tryz.prog 35 #[.agg #[.slice a l.length c]] (w.alloc (.cells #[.slice a l.length c] 30)) fun e w'=>∃ x f n,e=.returned (.agg #[.int .i64 x,.int .i64 f,.int .i64 n])/\UnitFault l x f n/\Below (w.alloc (.cells #[.slice a l.length c] 30)).heap.size (w.alloc (.cells #[.slice a l.length c] 30)) w'):=
  himp a l c S _ (hG _ _ hbA g0) (hs.keep hbA hB) (fun b h=>Nat.lt_of_lt_of_le (hB b h) hbA.size) hl
 have HBA:=hide hbA;clear hbA;by_cases q:0<=f/\f<=(l.length:Int)-1
 ·have e1:inR f 0 ((l.length:Int)-1)=true:=by unfold inR;simp[q.1,q.2]
  have HQ:=hide q;clear q;go_enter Tryz.func17,Tryz.ntmps17;go_wp2_with fail
  refine(within_any _ _ _ _).mono ?_;rintro e w1 ⟨rfl,rfl⟩;rw[e1];go_wp2_with fail
  refine(unhide CU).mono ?_;rintro e w1 ⟨x,y,n,rfl,hU,hb1⟩;have HU:=hide hU;have HB1:=hide ((unhide HBA).trans (hb1.mono (unhide HBA).size));clear hb1;by_cases x0:x=0
  ·subst x0;obtain⟨rfl,rfl⟩:=unitFault_00 hU;clear hU;go_wp2_with fail
   go_ret;exact⟨true,rfl,⟨fun _=>⟨(unhide HQ).1,by have:=(unhide HQ).2;omega,unhide HU⟩,fun _=>rfl⟩,unhide HB1⟩
  ·have hx0:(x==0)=false:=by simpa using x0
   clear hU;have HX:=hide x0;clear x0;go_wp2_with fail
   all_goals go_ret
   all_goals exact⟨false,rfl,⟨fun h=>(by cases h),fun h=>absurd (unitFault_unique (unhide HU) h.2.2).1 (unhide HX)⟩,unhide HB1⟩
 ·have e1:inR f 0 ((l.length:Int)-1)=false:=by
   unfold inR;by_cases q1:0<=f
   ·rw[decide_eq_false (show ¬f<=(l.length:Int)-1 by omega),Bool.and_false]
   ·rw[decide_eq_false q1,Bool.false_and]
  have HQ:=hide q;clear q;go_enter Tryz.func17,Tryz.ntmps17;go_wp2_with fail
  refine(within_any _ _ _ _).mono ?_;rintro e w1 ⟨rfl,rfl⟩;rw[e1];go_wp2_with fail
  go_ret;exact⟨false,rfl,⟨fun h=>(by cases h),fun h=>absurd ⟨h.1,by have:=h.2.1;omega⟩ (unhide HQ)⟩,unhide HBA⟩
def HomesPost (l:List FnD)(f:Int)(w:World)(e:Ending)(w':World):Prop:=
 ∃ a n c,e=.returned (.slice a n c)/\((Plans l f/\n=(fnD l f.toNat).vars.length/\∃ b,a=some ⟨b,0,none⟩/\w.heap.size<=b/\w'.rowIs b 3 n (fun j=>.int .i64 (homesF l f.toNat j)))\/(¬Plans l f/\a=none/\n=0))/\Below w.heap.size w w'
theorem impl_Homes_any (G:World->Prop)(hG:∀ w w',Below w.heap.size w w'->G w->G w')(himp:ImplSaid G)(a:Option Addr)(l:List FnD)(c:Nat)(f:Int)(S:Nat->Prop)(w:World)(g0:G w)(hs:FnsAt w S a l)(hB:∀ b,S b->b<w.heap.size)(hl:tFns l<=1048576) :
  Calls Tryz.prog 7 #[.agg #[.slice a l.length c],.int .i64 f] w (HomesPost l f w):=by
 have hbA:Below w.heap.size w (w.alloc (.cells #[.slice a l.length c] 30)):=(Below.refl _ _).alloc (Nat.le_refl _) _;have hlen:=tFns_len l;have FN:Hid (∀ W:World,Below w.heap.size w W->FnsAt W S a l/\∀ b,S b->b<W.heap.size):=fun W hW=>⟨hs.keep hW hB,fun b h=>Nat.lt_of_lt_of_le (hB b h) hW.size⟩;have HBA:=hide hbA;have CP:=hide (canPlan_any G hG himp a l c f S _ (hG _ _ hbA g0) (hs.keep hbA hB) (fun b h=>Nat.lt_of_lt_of_le (hB b h) hbA.size) hl);clear hbA hs hB g0 himp hG;go_enter Tryz.func7,Tryz.ntmps7;go_wp2_with fail
 refine CP.out.mono ?_;rintro e w1 ⟨r,rfl,hr,hb1⟩;have v1:w1.cell? ⟨w.heap.size,0,none⟩=some (.slice a l.length c):=by rw[hb1.cell (p:=⟨w.heap.size,0,none⟩) (by simp)];simp[go_sem]
 have HB1:=hide (HBA.out.trans (hb1.mono HBA.out.size));have s1:w.heap.size<w1.heap.size:=by have:=hb1.size;simp at this;omega
 have HR:=hide hr;clear hb1 hr;cases r with
 | false=>
  have HP:Hid (¬Plans l f):=fun h=>by have:=HR.out.2 h;cases this
  go_wp2_with fail
  go_ret;exact⟨none,0,0,rfl,.inr ⟨HP.out,rfl,rfl⟩,HB1.out⟩
 | true=>
  have HP:Hid (Plans l f):=HR.out.1 rfl;obtain⟨fn,rfl⟩:∃ fn:Nat,f=fn:=⟨f.toNat,by have:=HP.out.1;omega⟩;have hfn:fn<l.length:=by have:=HP.out.2.1;omega
  have K:=hide (plOk_of HP.out.2.2 hfn hl);obtain⟨b,off,rfl,hb,hcc⟩:=(FN.out w1 HB1.out).1.2 (by omega);have NF:FnCells w1 S b (off+fn * 7) (fnD l fn):=hcc fn hfn;have hbs:b<w1.heap.size:=(FN.out w1 HB1.out).2 b hb;have c0:=NF.name;have c1:=NF.line;have c2:=NF.params;have c3:=NF.rest;obtain⟨a4,k4,c4,_⟩:=NF.vars;obtain⟨a5,k5,c5,_⟩:=NF.ups;obtain⟨a6,k6,c6,I6⟩:=NF.nodes;have HO:=homesOf_any (fnD l fn) a4 k4 a5 k5 a6 k6 S w1 I6 (FN.out w1 HB1.out).2 K.out.rf K.out.par.1 K.out.par.2 K.out.vars (by have:=K.out.wt;have:=K.out.first;omega);unfold fnQ at HO;have HO:=hide HO;have HPl:Hid (HomesPost l fn w=fun e w'=>∃ a n c,e=.returned (.slice a n c)/\((Plans l fn/\n=(fnD l fn).vars.length/\∃ b,a=some ⟨b,0,none⟩/\w.heap.size<=b/\w'.rowIs b 3 n (fun j=>.int .i64 (homesF l fn j)))\/(¬Plans l fn/\a=none/\n=0))/\Below w.heap.size w w'):=rfl;have HHF:Hid (hF (fnD l fn).nodes ((fnD l fn).nodes.length-1) (firstF (fnD l fn)) (homes0 (fnD l fn).params)=homesF l fn):=rfl;have hfI:(fn:Int)<l.length:=by omega
  clear hcc NF I6 K;generalize fnD l fn=fd at *;go_wp2_with fail
  refine HO.out.mono ?_;rintro e w2 ⟨b2,k2,rfl,hz,hr2,hb2⟩;have R2:=hide (And.intro hz (And.intro hr2 hb2));clear hz hr2 hb2;go_wp2_with fail
  go_ret;obtain⟨hz,hr2,hb2⟩:=R2.out;rw[HPl.out];rw[HHF.out]at hr2;exact⟨_,_,_,rfl,.inl ⟨HP.out,rfl,b2,rfl,by have:=HB1.out.size;omega,hr2⟩,HB1.out.trans (hb2.mono HB1.out.size)⟩
end Go.Proofs.YtomcjennjcpdnaaGreatDoor
