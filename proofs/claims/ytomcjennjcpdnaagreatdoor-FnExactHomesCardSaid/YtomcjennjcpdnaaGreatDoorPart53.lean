import Derived.Test.YtomcjennjcpdnaaGreatDoorPart14
import Derived.Test.YtomcjennjcpdnaaGreatDoorRows
import Derived.OpenShut
import Derived.Lib.LaidTab
import Derived.Test.YtomcjennjcpdnaaGreatDoorPart18
import Derived.Test.YtomcjennjcpdnaaGreatDoorPart21
import Derived.Test.YtomcjennjcpdnaaGreatDoorPart52
import Derived.Test.YtomcjennjcpdnaaGreatDoorCards
import Derived.Test.YtomcjennjcpdnaaGreatDoorTie
import Derived.WalkKit
import Derived.ProofKit
import Derived.ChangeVars
import Derived.Carry
import Derived.Deep.DeepHandedRow
set_option linter.unusedSimpArgs false
set_option linter.unusedVariables false
set_option maxRecDepth 100000
namespace Go.Proofs.YtomcjennjcpdnaaGreatDoor
open Go.RowKit
theorem c_role:Tryz.prog.cellsOf 134=6:=by kernel_rfl
theorem c_roles:Tryz.prog.cellsOf 162=198:=by kernel_rfl
theorem c_i:Tryz.prog.cellsOf 3=1:=by kernel_rfl
def rolesName:String:=Rows.fnExactHomesRow.named.headD ""
theorem g_roles:Tryz.prog.globalNamed rolesName=some 0:=by kernel_rfl
theorem g_type:(Tryz.prog.globals[0]?).map (·.type)=some 162:=by kernel_rfl
def roleDatum {H:Type}(i:Nat):DataW H:=.agg [.lit (.int .i64 (roleAt i).kind),.lit (.int .i64 (roleAt i).u),.lit (.int .i64 (roleAt i).r0),.lit (.int .i64 (roleAt i).r1),.lit (.int .i64 (roleAt i).k0),.lit (.int .i64 (roleAt i).k1)]
theorem laid_eq {H:Type}:(Rows.laid_loop_example_draft_impl_nodeRoles:DataW H)=.agg ((List.range 33).map roleDatum):=rfl
theorem len6 {α:Type}:∀(l:List α),l.length=6->∃ a b c d e f,l=[a,b,c,d,e,f]
 | [a,b,c,d,e,f],_=>⟨a,b,c,d,e,f,rfl⟩
 | [],h | [_],h | [_,_],h | [_,_,_],h | [_,_,_,_],h | [_,_,_,_,_],h | _::_::_::_::_::_::_::_,h=>by simp at h
section
variable {H:Type} {enc:TypeId×Value->H} {w:World} {base:Nat} {sp:Nat->Bool} {held:Bool} {fuel:Nat} {cs:List Value} {p:List MemPlace}
theorem role_cells {a0 a1 a2 a3 a4 a5:Int}(h:DataW.trod enc Tryz.prog w base sp held fuel 134 cs=some (.agg [.lit (.int .i64 a0),.lit (.int .i64 a1),.lit (.int .i64 a2),.lit (.int .i64 a3),.lit (.int .i64 a4),.lit (.int .i64 a5)],p)) :
  cs=[.int .i64 a0,.int .i64 a1,.int .i64 a2,.int .i64 a3,.int .i64 a4,.int .i64 a5]:=by
 obtain⟨xs,n,_,hx,hl,hlen,hf⟩:=DataW.trod_struct Tryz.underlying134 h;rw[c_role]at hl;have hlen:xs.length=6:=hlen;obtain⟨v0,v1,v2,v3,v4,v5,rfl⟩:=len6 cs hl;obtain⟨x0,x1,x2,x3,x4,x5,rfl⟩:=len6 xs hlen;have f0:DataW.trod enc Tryz.prog w base sp held n 3 ((List.drop 0 [v0,v1,v2,v3,v4,v5]).take (Tryz.prog.cellsOf 3))=some x0:=hf 0 _ rfl;have f1:DataW.trod enc Tryz.prog w base sp held n 3 ((List.drop 1 [v0,v1,v2,v3,v4,v5]).take (Tryz.prog.cellsOf 3))=some x1:=hf 1 _ rfl;have f2:DataW.trod enc Tryz.prog w base sp held n 3 ((List.drop 2 [v0,v1,v2,v3,v4,v5]).take (Tryz.prog.cellsOf 3))=some x2:=hf 2 _ rfl;have f3:DataW.trod enc Tryz.prog w base sp held n 3 ((List.drop 3 [v0,v1,v2,v3,v4,v5]).take (Tryz.prog.cellsOf 3))=some x3:=hf 3 _ rfl;have f4:DataW.trod enc Tryz.prog w base sp held n 3 ((List.drop 4 [v0,v1,v2,v3,v4,v5]).take (Tryz.prog.cellsOf 3))=some x4:=hf 4 _ rfl;have f5:DataW.trod enc Tryz.prog w base sp held n 3 ((List.drop 5 [v0,v1,v2,v3,v4,v5]).take (Tryz.prog.cellsOf 3))=some x5:=hf 5 _ rfl;rw[c_i]at f0 f1 f2 f3 f4 f5;obtain⟨z0,e0,rfl,_⟩:=DataW.trod_int Tryz.underlying3 f0;obtain⟨z1,e1,rfl,_⟩:=DataW.trod_int Tryz.underlying3 f1;obtain⟨z2,e2,rfl,_⟩:=DataW.trod_int Tryz.underlying3 f2;obtain⟨z3,e3,rfl,_⟩:=DataW.trod_int Tryz.underlying3 f3;obtain⟨z4,e4,rfl,_⟩:=DataW.trod_int Tryz.underlying3 f4;obtain⟨z5,e5,rfl,_⟩:=DataW.trod_int Tryz.underlying3 f5;simp at e0 e1 e2 e3 e4 e5 hx;obtain⟨⟨h0,h1,h2,h3,h4,h5⟩,_⟩:=hx;rw[e0,e1,e2,e3,e4,e5,h0,h1,h2,h3,h4,h5]
theorem roles_cells (h:DataW.trod enc Tryz.prog w base sp held fuel 162 cs=some (.agg ((List.range 33).map roleDatum),p)) :
  cs.length=198/\∀ i,i<33->cs.toArray.extract (i * 6) (i * 6+6)=roleV i:=by
 obtain⟨xs,m,_,hx,hl,hlen,hf⟩:=DataW.trod_array Tryz.underlying162 h;rw[c_roles]at hl;refine⟨hl,fun i hi=>?_⟩;have h1:=hf i hi;rw[c_role]at h1;have hx1:(List.range 33).map roleDatum=xs.map (·.1):=by
  have:=congrArg Prod.fst hx;simpa using this
 have h2:(xs[i]'(by omega)).1=roleDatum i:=by
  have e:=congrArg (·[i]?) hx1;simp only[List.getElem?_map,List.getElem?_range hi,List.getElem?_eq_getElem (show i<xs.length by omega),Option.map_some,Option.some.injEq]at e;exact e.symm
 rw[List.getElem?_eq_getElem (show i<xs.length by omega)]at h1;generalize xs[i]'(by omega)=y at h1 h2;obtain⟨y1,y2⟩:=y;simp only at h2;subst h2;have h3:=role_cells h1;rw[List.extract_toArray];rw[show cs.extract (i * 6) (i * 6+6)=(cs.drop (i * 6)).take 6 from by rw[List.extract_eq_take_drop];congr 1;omega,h3];rfl
end
theorem gtab_of {W:World}(h:laidMetH Tryz.prog Rows.fnExactHomesRow.laid W):GTab W:=by
 have h:laidMet Tryz.prog [(rolesName,Rows.laid_loop_example_draft_impl_nodeRoles)] W:=h;obtain⟨ps,⟨g',t',cs,fuel,p,q,hg',ht',hvar,hd,_,_⟩,_⟩:=h;obtain rfl:=Option.some.inj (g_roles.symm.trans hg');obtain rfl:=Option.some.inj (g_type.symm.trans ht');rw[laid_eq]at hd;obtain⟨h1,h2⟩:=roles_cells hd;unfold World.var? at hvar;rw[g_roles]at hvar;simp only[Option.bind_some]at hvar;cases e:W.heap[0]? with
 | none=>rw[e]at hvar;cases hvar
 | some o=>
  rw[e]at hvar;cases o with
  | cells c t fr=>
   simp only[Option.some.injEq]at hvar;subst hvar;exact⟨_,t,fr,e,by simpa using h1,fun i hi=>by simpa using h2 i hi⟩
  | map es clock=>cases hvar
  | _=>cases hvar
end Go.Proofs.YtomcjennjcpdnaaGreatDoor
namespace Go.Proofs.YtomcjennjcpdnaaGreatDoor
open Go.ChangeShapes Go.WideShapes Go.ChangeAt Go.RowKit
theorem own:ownKnob Tryz.prog.godebug=none:=by kernel_rfl
theorem laidOut:laidOutB Tryz.prog=true:=by kernel_rfl
theorem c_unit:Tryz.prog.cellsOf 24=1:=by kernel_rfl
theorem law_holds (a:Option Addr)(l:List FnD)(c:Nat)(f:Int)(w:World)(hG:GTab w)(hs:FnsAt w (Old w) a l) :
  Calls Tryz.prog 3 #[.agg #[.slice a l.length c],.int .i64 f] w fun e w'=>e=.returned (.bool true)/\Below w.heap.size w w':=by
 have hg:∀ w w',Below w.heap.size w w'->GTab w->GTab w':=fun _ _ hb h=>h.keep hb h.pos;by_cases hp:Plans l f
 ·have hv:(fnD l f.toNat).vars.length<=1000000:=by
   have:=(ready_of hp.2.2 (f:=f.toNat) (by have:=hp.1;have:=hp.2.1;omega)).vars;omega
  have post:∀ w e w',HomesPost l f w e w'->AnsPost (fnD l f.toNat).vars.length (homesF l f.toNat) w e w':=by
   rintro w e w' ⟨a,n,c,rfl,h | ⟨h,_⟩,hb⟩
   ·obtain⟨_,rfl,b,rfl,h1,h2⟩:=h;refine⟨_,_,rfl,fun _=>⟨b,rfl,h2⟩,fun b' h'=>?_,hb⟩;obtain⟨o,e⟩:=h';cases e;exact⟨h1,h2.lt⟩
   ·exact absurd hp h
  exact law_homes GTab hg a l c f _ _ hv (fun hl a c S w h1 h2=>(spec_Homes_any a l c f S w h1 h2 hl).mono (post w)) (fun hl a c S w g h1 h2=>(impl_Homes_any GTab hg checkUnit_any a l c f S w g h1 h2 hl).mono (post w)) (Old w) w hG hs (fun _ h=>h)
 ·have post:∀ w e w',HomesPost l f w e w'->AnsPost 0 (fun _=>0) w e w':=by
   rintro w e w' ⟨a,n,c,rfl,⟨h,_⟩ | ⟨_,rfl,rfl⟩,hb⟩
   ·exact absurd h hp
   ·refine⟨_,_,rfl,fun h=>absurd h (Nat.lt_irrefl _),fun b' h'=>?_,hb⟩;obtain⟨o,e⟩:=h';cases e
  exact law_homes GTab hg a l c f 0 _ (by omega) (fun hl a c S w h1 h2=>(spec_Homes_any a l c f S w h1 h2 hl).mono (post w)) (fun hl a c S w g h1 h2=>(impl_Homes_any GTab hg checkUnit_any a l c f S w g h1 h2 hl).mono (post w)) (Old w) w hG hs (fun _ h=>h)
theorem arr1 (c:Array Value)(h:c.size=1):∃ x,c=#[x]:=by
 obtain⟨l⟩:=c
 match l,h with
 | [x],_=>exact⟨x,rfl⟩
theorem contract (H:Type)(enc:TypeId×Value->H)(W:World)(base:Nat)(args:Array Value)(ds gs:List (DataW H))(before:List MemPlace)
  (hval:∀(j:Nat) t v,Tryz.f3.params[j]? = some t->args[j]? = some v->Value.okWide Tryz.prog W .any base t v)
  (hW:DataW.Whole enc Tryz.prog Tryz.f3.params.toList Rows.fnExactHomesSpec.vars false W args.toList ds gs before)(hL:laidMetH Tryz.prog Rows.fnExactHomesRow.laid W) :
  Calls Tryz.prog 3 args W fun e W'=>∃ v,e=.returned v/\Rows.fnExactHomesSpec.post enc Tryz.prog Tryz.f3 false true false false W args v W':=by
 have hW':=hW;obtain⟨p,q,hA0,hV,rfl,hfz,hnd⟩:=hW;have hA:DataW.TrodAll enc Tryz.prog W 0 (fun _=>true) true Tryz.f3.params.toList args.toList ds p:=hA0;rw[Tryz.params3]at hA hval;obtain⟨v0,vs0,d0,ds0,p0,q0,hargs,rfl,rfl,h0,r0⟩:=trodAll_cons hA;obtain⟨v1,vs1,d1,ds1,p1,q1,rfl,rfl,rfl,h1,r1⟩:=trodAll_cons r0;obtain⟨rfl,rfl,rfl⟩:=trodAll_nil r1;obtain rfl:args=#[v0,v1]:=by cases args;simp_all
 have hV1:=h1;obtain⟨x1,rfl⟩:=okWide_int Tryz.underlying3 (hval 1 3 v1 rfl rfl);have hV:DataW.TrodVars enc Tryz.prog W (fun _=>true) [rolesName] gs q:=hV;obtain⟨g,t,cs,fuel,d,pv,rfl,hg,hty,hvar,hd,rfl⟩:=trodVars_one hV;have hV0:=h0;obtain⟨cs0,rfl,hsz⟩:=okWide_struct Tryz.underlying24 (hval 0 24 v0 rfl rfl);obtain⟨fuel0,hf0⟩:=h0;obtain⟨n1,y1,f1⟩:=field_at Tryz.underlying24 hf0 0 rfl c_fns;obtain⟨a,l,c,e1,hs⟩:=fns_of f1;have hcs:cs0=#[.slice a l.length c]:=by
  rw[c_unit]at hsz;have e2:=take_one e1;obtain⟨x,rfl⟩:=arr1 cs0 hsz;have e2:some x=some (.slice a l.length c):=by simpa[Value.cells]using e2
  rw[Option.some.inj e2]
 subst hcs;clear hA hA0;refine(law_holds a l c x1 W (gtab_of hL) hs).mono ?_;rintro e W' ⟨rfl,hb⟩;have hlt0:∀ x∈p0,x.block<W.heap.size:=fun x hx=>by simpa using hW'.lt x (by simp[hx])
 have hlt1:∀ x∈p1,x.block<W.heap.size:=fun x hx=>by simpa using hW'.lt x (by simp[hx])
 have hltv:∀ x∈pv,x.block<W.heap.size:=fun x hx=>by simpa using hW'.lt x (by simp[hx])
 have ha:DataW.TrodAll enc Tryz.prog W' 0 (fun b=>decide (b<W.heap.size)) true [24,3] [.agg #[.slice a l.length c],.int .i64 x1] [d0,d1] (p0++(p1++[])):=
  trodAll_cons_mk (Below.trod laidOut (by kernel_rfl) (of_decide_eq_true (by kernel_rfl)) hV0 hb hlt0) (trodAll_cons_mk (Below.trod laidOut (by kernel_rfl) (of_decide_eq_true (by kernel_rfl)) hV1 hb hlt1) trodAll_mk0)
 have hgr:g=0:=(Option.some.inj (g_roles.symm.trans hg)).symm;have htr:t=162:=by subst hgr;exact(Option.some.inj (g_type.symm.trans hty)).symm
 have hvar':W'.var? Tryz.prog rolesName=some cs:=by
  have h0:0<W.heap.size:=(gtab_of hL).pos;unfold World.var? at hvar ⊢;rw[g_roles]at hvar ⊢;simp only[Option.bind_some]at hvar ⊢;rw[hb.block 0 h0];exact hvar
 have hdv:DataW.Trod enc Tryz.prog W' 0 (fun b=>decide (b<W.heap.size)) true t (.agg cs) d pv:=by
  subst htr;exact Below.trod laidOut (by kernel_rfl) (of_decide_eq_true (by kernel_rfl)) ⟨fuel,by simpa[Value.cells]using hd⟩ hb hltv
 obtain⟨fuel',hdv⟩:=hdv;have hvv:DataW.TrodVars enc Tryz.prog W' (fun b=>decide (b<W.heap.size)) [rolesName] [d] (MemPlace.row ⟨g,0,none⟩ cs.size++pv):=
  trodVars_mk1 hg hty hvar' (by simpa[Value.cells]using hdv)
 refine⟨_,rfl,[d0,d1],[d],_,[],p0++(p1++[]),MemPlace.row ⟨g,0,none⟩ cs.size++pv,hW',?_,?_,hvv,hb.frame _,fun h=>by cases h⟩
 ·exact trodAll_cons_mk (shut_bool Tryz.underlying4 _) trodAll_mk0
 ·rw[Tryz.params3];exact ha
def roleCells:Array Value:=((List.range 33).flatMap fun i=>(roleV i).toList).toArray
def layRoles:Obj->Obj
 | .cells _ t frozen=>.cells roleCells t frozen
 | o=>o
theorem laid_met (os:Os):laidMet Tryz.prog Rows.fnExactHomesRow.laid (({ World.holding Tryz.prog os ⟨#[],#[],[]⟩with heap:=(World.holding Tryz.prog os ⟨#[],#[],[]⟩).heap.modify 0 layRoles }:World).forCall (fun _ _=>0) ⟨#[],#[.agg #[.slice none 0 0],.int .i64 0],[]⟩).memory:=
 laidMet_of_run' 8 (by kernel_rfl) (by kernel_rfl)
theorem reads (os:Os){H:Type}(enc:TypeId×Value->H):∃ places,DataW.whole enc Tryz.prog (({ World.holding Tryz.prog os ⟨#[],#[],[]⟩with heap:=(World.holding Tryz.prog os ⟨#[],#[],[]⟩).heap.modify 0 layRoles }:World).forCall (fun _ _=>0) ⟨#[],#[.agg #[.slice none 0 0],.int .i64 0],[]⟩).memory Tryz.f3.params.toList Rows.fnExactHomesSpec.vars false #[Value.agg #[.slice none 0 0],.int .i64 0].toList 8=some ([.agg [.nil],.lit (.int .i64 0)],[Rows.laid_loop_example_draft_impl_nodeRoles],places):=
 ⟨MemPlace.row ⟨0,0,none⟩ 198,by kernel_rfl⟩
theorem lifted (os:Os)(started:os.Started)(H:Type)(enc:TypeId×Value->H)(F:Stop.Interp) :
  ReturnsInHanded {} Tryz.checked os 3 .any ((OpenSpec.ofChange Rows.fnExactHomesSpec).preRow enc Tryz.prog Tryz.f3 Rows.fnExactHomesRow.domain false Rows.fnExactHomesRow.laid) (((OpenSpec.ofChange Rows.fnExactHomesSpec).at F).post enc Tryz.prog Tryz.f3 false true false false):=by
 obtain⟨places,hx⟩:=reads os enc;refine returnsInHanded_of_row (C:=Tryz.checked) (s:=OpenSpec.ofChange Rows.fnExactHomesSpec) own started (by kernel_rfl) Tryz.func3
  (witness_row_at (enc:=enc) (C:=Tryz.checked) false { World.holding Tryz.prog os ⟨#[],#[],[]⟩with heap:=(World.holding Tryz.prog os ⟨#[],#[],[]⟩).heap.modify 0 layRoles } #[.agg #[.slice none 0 0],.int .i64 0] rfl (by kernel_rfl) (by kernel_rfl) (by kernel_rfl)
   (OpenSpec.preRow_of_cond 8 hx (by kernel_rfl) (fun k hk=>by cases hk) (by kernel_rfl) (laid_met os))) ?_
 intro W base args ds gs before hval hW _ _ _ hL _ _;exact contract H enc W base args ds gs before hval hW hL
theorem said:Rows.FnExactHomesSaid:=
 OpenClaim.holds_of_cond 3 Tryz.f3 rfl rfl rfl rfl rfl rfl rfl ⟨rfl,rfl,rfl,rfl,rfl⟩ rfl rfl rfl rfl rfl (by kernel_rfl) Tryz.func3 (by kernel_rfl)
  (of_decide_eq_true (by kernel_rfl)) (by unfold Func.isWrapper;first | (rw[if_pos (by decide +kernel)];kernel_rfl) | (rw[if_neg (by decide +kernel)];exact⟨rfl,rfl⟩))
  (fun os started H enc _ F=>by rw[OpenClaim.pre_eq_preRow];exact lifted os started H enc F)
theorem plain (f:FuncId)(fn:Func)(hf:Tryz.pinned.checked.prog.funcNamed Rows.fnExactHomesRow.func=some f)(hfn:Tryz.pinned.checked.prog.funcs[f]? = some fn) :
  false=Tryz.pinned.checked.prog.looks []/\∀(j:Nat) t,fn.params[j]? = some t->Tryz.pinned.checked.prog.wantsStandIn t=false:=by
 obtain rfl:f=3:=Option.some.inj ((show Tryz.prog.funcNamed Rows.fnExactHomesRow.func=some 3 by kernel_rfl).symm.trans hf) |>.symm;obtain rfl:fn=Tryz.f3:=(Option.some.inj (Tryz.func3.symm.trans hfn)).symm;refine⟨by kernel_rfl,fun j t ht=>?_⟩;rw[Tryz.params3]at ht;have ht':t=24\/t=3:=by simpa using Array.mem_of_getElem? ht
 rcases ht' with rfl | rfl
 ·exact(show Tryz.prog.wantsStandIn 24=false by kernel_rfl)
 ·exact(show Tryz.prog.wantsStandIn 3=false by kernel_rfl)
theorem fnExactHomes_card:Rows.FnExactHomesCardSaid:=
 Claim7.holds_tied_plain_at .later [] _ _ _ _ said (fun _ h=>by cases h) (by kernel_rfl) (fun _ h=>by cases h) fnExactHomes_row_tie rfl ⟨rfl,rfl⟩ (by kernel_rfl) rfl plain (by kernel_rfl)
#print axioms fnExactHomes_card
end Go.Proofs.YtomcjennjcpdnaaGreatDoor
