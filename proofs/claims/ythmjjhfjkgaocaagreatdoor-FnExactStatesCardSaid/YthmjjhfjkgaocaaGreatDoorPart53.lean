import Derived.Test.YthmjjhfjkgaocaaGreatDoorPart52
import Derived.Test.YthmjjhfjkgaocaaGreatDoorPart23
import Derived.Test.YthmjjhfjkgaocaaGreatDoorCards
import Derived.Test.YthmjjhfjkgaocaaGreatDoorTie
import Derived.WalkKit
import Derived.ProofKit
import Derived.OpenShut
import Derived.ChangeVars
import Derived.Carry
import Derived.Deep.DeepHandedRow
set_option linter.unusedSimpArgs false
set_option linter.unusedVariables false
set_option maxRecDepth 100000
namespace Go.Proofs.YthmjjhfjkgaocaaGreatDoor
open Go.ChangeShapes Go.WideShapes Go.ChangeAt Go.RowKit
theorem own:ownKnob Tryz.prog.godebug=none:=by kernel_rfl
theorem laidOut:laidOutB Tryz.prog=true:=by kernel_rfl
theorem c_code:Tryz.prog.cellsOf 24=1:=by kernel_rfl
theorem law_holds (a:Option Addr)(l:List ProtoD)(c:Nat)(f:Int)(w:World)(hG:RTab w)(hs:ProtosAt w (Old w) a l) :
  Calls Tryz.prog 3 #[.agg #[.slice a l.length c],.int .i64 f] w fun e w'=>e=.returned (.bool true)∧Below w.heap.size w w':=
 lawStates_any a l c f (Old w) w hG hs (fun _ h=>h)
theorem arr1 (c:Array Value)(h:c.size=1):∃ x,c=#[x]:=by
 obtain⟨l⟩:=c
 match l,h with
 | [x],_=>exact⟨x,rfl⟩
theorem contract (H:Type)(enc:TypeId×Value→H)(W:World)(base:Nat)(args:Array Value)(ds gs:List (DataW H))(before:List MemPlace)
  (hval:∀(j:Nat) t v,Tryz.f3.params[j]? = some t→args[j]? = some v→Value.okWide Tryz.prog W .any base t v)
  (hW:DataW.Whole enc Tryz.prog Tryz.f3.params.toList Rows.fnExactStatesSpec.vars false W args.toList ds gs before)(hL:laidMetH Tryz.prog Rows.fnExactStatesRow.laid W) :
  Calls Tryz.prog 3 args W fun e W'=>∃ v,e=.returned v∧Rows.fnExactStatesSpec.post enc Tryz.prog Tryz.f3 false true false false W args v W':=by
 have hW':=hW
 obtain⟨p,q,hA0,hV,rfl,hfz,hnd⟩:=hW
 have hA:DataW.TrodAll enc Tryz.prog W 0 (fun _=>true) true Tryz.f3.params.toList args.toList ds p:=hA0
 rw[Tryz.params3]at hA hval
 obtain⟨v0,vs0,d0,ds0,p0,q0,hargs,rfl,rfl,h0,r0⟩:=trodAll_cons hA
 obtain⟨v1,vs1,d1,ds1,p1,q1,rfl,rfl,rfl,h1,r1⟩:=trodAll_cons r0
 obtain⟨rfl,rfl,rfl⟩:=trodAll_nil r1
 obtain rfl:args=#[v0,v1]:=by cases args;simp_all
 have hV1:=h1
 obtain⟨x1,rfl⟩:=okWide_int Tryz.underlying3 (hval 1 3 v1 rfl rfl)
 have hV:DataW.TrodVars enc Tryz.prog W (fun _=>true) [rolesName] gs q:=hV
 obtain⟨g,t,cs,fuel,d,pv,rfl,hg,hty,hvar,hd,rfl⟩:=trodVars_one hV
 have hV0:=h0
 obtain⟨cs0,rfl,hsz⟩:=okWide_struct Tryz.underlying24 (hval 0 24 v0 rfl rfl)
 obtain⟨fuel0,hf0⟩:=h0
 obtain⟨n1,y1,f1⟩:=field_at Tryz.underlying24 hf0 0 rfl c_protos
 obtain⟨a,l,c,e1,hs⟩:=protos_of f1
 have hcs:cs0=#[.slice a l.length c]:=by
  rw[c_code]at hsz
  have e2:=take_one e1
  obtain⟨x,rfl⟩:=arr1 cs0 hsz
  have e2:some x=some (.slice a l.length c):=by simpa[Value.cells]using e2
  rw[Option.some.inj e2]
 subst hcs
 clear hA hA0
 refine(law_holds a l c x1 W (rtab_of hL) hs).mono ?_
 rintro e W' ⟨rfl,hb⟩
 have hlt0:∀ x∈p0,x.block<W.heap.size:=fun x hx=>by simpa using hW'.lt x (by simp[hx])
 have hlt1:∀ x∈p1,x.block<W.heap.size:=fun x hx=>by simpa using hW'.lt x (by simp[hx])
 have hltv:∀ x∈pv,x.block<W.heap.size:=fun x hx=>by simpa using hW'.lt x (by simp[hx])
 have ha:DataW.TrodAll enc Tryz.prog W' 0 (fun b=>decide (b<W.heap.size)) true [24,3] [.agg #[.slice a l.length c],.int .i64 x1] [d0,d1] (p0++(p1++[])):=
  trodAll_cons_mk (Below.trod laidOut (by kernel_rfl) (of_decide_eq_true (by kernel_rfl)) hV0 hb hlt0) (trodAll_cons_mk (Below.trod laidOut (by kernel_rfl) (of_decide_eq_true (by kernel_rfl)) hV1 hb hlt1) trodAll_mk0)
 have hgr:g=0:=(Option.some.inj (g_roles.symm.trans hg)).symm
 have htr:t=195:=by subst hgr;exact(Option.some.inj (g_type.symm.trans hty)).symm
 have hvar':W'.var? Tryz.prog rolesName=some cs:=by
  have h0:0<W.heap.size:=(rtab_of hL).pos
  unfold World.var? at hvar ⊢
  rw[g_roles]at hvar ⊢
  simp only[Option.bind_some]at hvar ⊢
  rw[hb.block 0 h0]
  exact hvar
 have hdv:DataW.Trod enc Tryz.prog W' 0 (fun b=>decide (b<W.heap.size)) true t (.agg cs) d pv:=by
  subst htr
  exact Below.trod laidOut (by kernel_rfl) (of_decide_eq_true (by kernel_rfl)) ⟨fuel,by simpa[Value.cells]using hd⟩ hb hltv
 obtain⟨fuel',hdv⟩:=hdv
 have hvv:DataW.TrodVars enc Tryz.prog W' (fun b=>decide (b<W.heap.size)) [rolesName] [d] (MemPlace.row ⟨g,0,none⟩ cs.size++pv):=
  trodVars_mk1 hg hty hvar' (by simpa[Value.cells]using hdv)
 refine⟨_,rfl,[d0,d1],[d],_,[],p0++(p1++[]),MemPlace.row ⟨g,0,none⟩ cs.size++pv,hW',?_,?_,hvv,hb.frame _,fun h=>by cases h⟩
 ·exact trodAll_cons_mk (shut_bool Tryz.underlying4 _) trodAll_mk0
 ·rw[Tryz.params3]
  exact ha
def roleCells:Array Value:=((List.range 43).flatMap fun i=>[Value.int .i64 (iRole i 0:Nat),.int .i64 (iRole i 1:Nat),.int .i64 (iRole i 2:Nat),.int .i64 (iRole i 3:Nat)]).toArray
def layRoles:Obj→Obj
 | .cells _ t frozen=>.cells roleCells t frozen
 | o=>o
theorem laid_met (os:Os):laidMet Tryz.prog Rows.fnExactStatesRow.laid (({ World.holding Tryz.prog os ⟨#[],#[],[]⟩with heap:=(World.holding Tryz.prog os ⟨#[],#[],[]⟩).heap.modify 0 layRoles }:World).forCall (fun _ _=>0) ⟨#[],#[.agg #[.slice none 0 0],.int .i64 0],[]⟩).memory:=
 laidMet_of_run' 8 (by kernel_rfl) (by kernel_rfl)
theorem reads (os:Os){H:Type}(enc:TypeId×Value→H):∃ places,DataW.whole enc Tryz.prog (({ World.holding Tryz.prog os ⟨#[],#[],[]⟩with heap:=(World.holding Tryz.prog os ⟨#[],#[],[]⟩).heap.modify 0 layRoles }:World).forCall (fun _ _=>0) ⟨#[],#[.agg #[.slice none 0 0],.int .i64 0],[]⟩).memory Tryz.f3.params.toList Rows.fnExactStatesSpec.vars false #[Value.agg #[.slice none 0 0],.int .i64 0].toList 8=some ([.agg [.nil],.lit (.int .i64 0)],[Rows.laid_loop_example_draft_impl_insRoles],places):=
 ⟨MemPlace.row ⟨0,0,none⟩ 172,by kernel_rfl⟩
theorem lifted (os:Os)(started:os.Started)(H:Type)(enc:TypeId×Value→H)(F:Stop.Interp) :
  ReturnsInHanded {} Tryz.checked os 3 .any ((OpenSpec.ofChange Rows.fnExactStatesSpec).preRow enc Tryz.prog Tryz.f3 Rows.fnExactStatesRow.domain false Rows.fnExactStatesRow.laid) (((OpenSpec.ofChange Rows.fnExactStatesSpec).at F).post enc Tryz.prog Tryz.f3 false true false false):=by
 obtain⟨places,hx⟩:=reads os enc
 refine returnsInHanded_of_row (C:=Tryz.checked) (s:=OpenSpec.ofChange Rows.fnExactStatesSpec) own started (by kernel_rfl) Tryz.func3
  (witness_row_at (enc:=enc) (C:=Tryz.checked) false { World.holding Tryz.prog os ⟨#[],#[],[]⟩with heap:=(World.holding Tryz.prog os ⟨#[],#[],[]⟩).heap.modify 0 layRoles } #[.agg #[.slice none 0 0],.int .i64 0] rfl (by kernel_rfl) (by kernel_rfl) (by kernel_rfl)
   (OpenSpec.preRow_of_cond 8 hx (by kernel_rfl) (fun k hk=>by cases hk) (by kernel_rfl) (laid_met os))) ?_
 intro W base args ds gs before hval hW _ _ _ hL _ _
 exact contract H enc W base args ds gs before hval hW hL
theorem said:Rows.FnExactStatesSaid:=
 OpenClaim.holds_of_cond 3 Tryz.f3 rfl rfl rfl rfl rfl rfl rfl ⟨rfl,rfl,rfl,rfl,rfl⟩ rfl rfl rfl rfl rfl (by kernel_rfl) Tryz.func3 (by kernel_rfl)
  (of_decide_eq_true (by kernel_rfl)) (by unfold Func.isWrapper;first | (rw[if_pos (by decide +kernel)];kernel_rfl) | (rw[if_neg (by decide +kernel)];exact⟨rfl,rfl⟩))
  (fun os started H enc _ F=>by rw[OpenClaim.pre_eq_preRow];exact lifted os started H enc F)
theorem plain (f:FuncId)(fn:Func)(hf:Tryz.pinned.checked.prog.funcNamed Rows.fnExactStatesRow.func=some f)(hfn:Tryz.pinned.checked.prog.funcs[f]? = some fn) :
  false=Tryz.pinned.checked.prog.looks []∧∀(j:Nat) t,fn.params[j]? = some t→Tryz.pinned.checked.prog.wantsStandIn t=false:=by
 obtain rfl:f=3:=Option.some.inj ((show Tryz.prog.funcNamed Rows.fnExactStatesRow.func=some 3 by kernel_rfl).symm.trans hf) |>.symm
 obtain rfl:fn=Tryz.f3:=(Option.some.inj (Tryz.func3.symm.trans hfn)).symm
 refine⟨by kernel_rfl,fun j t ht=>?_⟩
 rw[Tryz.params3]at ht
 have ht':t=24∨t=3:=by simpa using Array.mem_of_getElem? ht
 rcases ht' with rfl | rfl
 ·exact(show Tryz.prog.wantsStandIn 24=false by kernel_rfl)
 ·exact(show Tryz.prog.wantsStandIn 3=false by kernel_rfl)
theorem fnExactStates_card:Rows.FnExactStatesCardSaid:=
 Claim7.holds_tied_plain_at .later [] _ _ _ _ said (fun _ h=>by cases h) (by kernel_rfl) (fun _ h=>by cases h) fnExactStates_row_tie rfl ⟨rfl,rfl⟩ (by kernel_rfl) rfl plain (by kernel_rfl)
#print axioms fnExactStates_card
end Go.Proofs.YthmjjhfjkgaocaaGreatDoor
