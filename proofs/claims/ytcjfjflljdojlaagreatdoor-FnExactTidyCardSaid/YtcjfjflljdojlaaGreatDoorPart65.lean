import Derived.Test.YtcjfjflljdojlaaGreatDoorPart63
import Derived.Test.YtcjfjflljdojlaaGreatDoorPart23
import Derived.Test.YtcjfjflljdojlaaGreatDoorPart64
import Derived.Test.YtcjfjflljdojlaaGreatDoorCards
import Derived.Test.YtcjfjflljdojlaaGreatDoorTie
import Derived.WalkKit
import Derived.ProofKit
import Derived.OpenShut
import Derived.ChangeVars
import Derived.Carry
import Derived.Deep.DeepHandedRow
set_option linter.unusedSimpArgs false
set_option linter.unusedVariables false
set_option maxRecDepth 100000
namespace Go.Proofs.YtcjfjflljdojlaaGreatDoor
open Go.ChangeShapes Go.WideShapes Go.ChangeAt Go.RowKit
theorem own:ownKnob Tryz.prog.godebug=none:=by kernel_rfl
theorem EI:laidOutB Tryz.prog=true:=by kernel_rfl
theorem Qd:Tryz.prog.cellsOf 24=1:=by kernel_rfl
theorem GV (a:Option Addr)(l:List ak)(c:Nat)(w:World)(hG:gh w)(hs:ao w (MC w) a l) :
  Calls Tryz.prog 3 #[.agg #[.slice a l.length c]] w fun e w'=>e=.returned (.bool true)/\Below w.heap.size w w':=
 A6 GQ a l c (MC w) w hG hs (fun _ h=>h)
theorem YW (c:Array Value)(h:c.size=1):∃ x,c=#[x]:=by
 obtain⟨l⟩:=c
 match l,h with
 | [x],_=>exact⟨x,rfl⟩
theorem Jp (H:Type)(enc:TypeId×Value->H)(W:World)(base:Nat)(args:Array Value)(ds gs:List (DataW H))(before:List MemPlace)
  (hval:∀(j:Nat) t v,Tryz.f3.params[j]? = some t->args[j]? = some v->Value.okWide Tryz.prog W .any base t v)
  (hW:DataW.Whole enc Tryz.prog Tryz.f3.params.toList Rows.fnExactTidySpec.vars false W args.toList ds gs before)(hL:laidMetH Tryz.prog Rows.fnExactTidyRow.laid W) :
  Calls Tryz.prog 3 args W fun e W'=>∃ v,e=.returned v/\Rows.fnExactTidySpec.post enc Tryz.prog Tryz.f3 false true false false W args v W':=by
 have Wu:=hW;obtain⟨p,q,hA0,hV,rfl,hfz,Bo⟩:=hW;have hA:DataW.TrodAll enc Tryz.prog W 0 (fun _=>true) true Tryz.f3.params.toList args.toList ds p:=hA0;rw[Tryz.params3]at hA hval;obtain⟨v0,vs0,d0,ds0,p0,q0,hargs,rfl,rfl,h0,r0⟩:=trodAll_cons hA;obtain⟨rfl,rfl,rfl⟩:=trodAll_nil r0;obtain rfl:args=#[v0]:=by cases args;simp_all
 have hV:DataW.TrodVars enc Tryz.prog W (fun _=>true) [ld] gs q:=hV;obtain⟨g,t,cs,fuel,d,pv,rfl,hg,eA,pj,hd,rfl⟩:=trodVars_one hV;have Tv:=h0;obtain⟨cs0,rfl,kq⟩:=okWide_struct Tryz.underlying24 (hval 0 24 v0 rfl rfl);obtain⟨fuel0,rB⟩:=h0;obtain⟨n1,y1,f1⟩:=cY Tryz.underlying24 rB 0 rfl Jk;obtain⟨a,l,c,e1,hs⟩:=GD f1;have Ip:cs0=#[.slice a l.length c]:=by
  rw[Qd]at kq;have e2:=cW e1;obtain⟨x,rfl⟩:=YW cs0 kq;have e2:some x=some (.slice a l.length c):=by simpa[Value.cells]using e2
  rw[Option.some.inj e2]
 aj Ip
 clear hA hA0;refine(GV a l c W (EW hL) hs).mono ?_;rintro e W' ⟨rfl,hb⟩;have aaW:∀ x∈p0,x.block<W.heap.size:=fun x hx=>by simpa using Wu.lt x (by simp[hx])
 have abZ:∀ x∈pv,x.block<W.heap.size:=fun x hx=>by simpa using Wu.lt x (by simp[hx])
 have ha:DataW.TrodAll enc Tryz.prog W' 0 (fun b=>decide (b<W.heap.size)) true [24] [.agg #[.slice a l.length c]] [d0] (p0++[]):=
  trodAll_cons_mk (Below.trod EI (by kernel_rfl) (of_decide_eq_true (by kernel_rfl)) Tv hb aaW) trodAll_mk0
 have hgr:g=0:=(Option.some.inj (th.symm.trans hg)).symm;have Ef:t=189:=by aj hgr;exact(Option.some.inj (Ke.symm.trans eA)).symm
 have Ve:W'.var? Tryz.prog ld=some cs:=by
  have h0:0<W.heap.size:=(EW hL).pos;unfold World.var? at pj ⊢;rw[th]at pj ⊢;simp only[Option.bind_some]at pj ⊢;rw[hb.block 0 h0];exact pj
 have Y5:DataW.Trod enc Tryz.prog W' 0 (fun b=>decide (b<W.heap.size)) true t (.agg cs) d pv:=by
  aj Ef
  exact Below.trod EI (by kernel_rfl) (of_decide_eq_true (by kernel_rfl)) ⟨fuel,by simpa[Value.cells]using hd⟩ hb abZ
 obtain⟨fuel',Y5⟩:=Y5;have TW:DataW.TrodVars enc Tryz.prog W' (fun b=>decide (b<W.heap.size)) [ld] [d] (MemPlace.row ⟨g,0,none⟩ cs.size++pv):=
  trodVars_mk1 hg eA Ve (by simpa[Value.cells]using Y5)
 refine⟨_,rfl,[d0],[d],_,[],p0++[],MemPlace.row ⟨g,0,none⟩ cs.size++pv,Wu,?_,?_,TW,hb.frame _,fun h=>by cases h⟩
 ·exact trodAll_cons_mk (shut_bool Tryz.underlying4 _) trodAll_mk0
 ·rw[Tryz.params3];exact ha
def Gg:Array Value:=((List.range 43).flatMap fun i=>[Value.int .i64 (aC i 0:Nat),.int .i64 (aC i 1:Nat),.int .i64 (aC i 2:Nat),.int .i64 (aC i 3:Nat)]).toArray
def uR:Obj->Obj
 | .cells _ t frozen=>.cells Gg t frozen
 | o=>o
theorem Je (os:Os):laidMet Tryz.prog Rows.fnExactTidyRow.laid (({ World.holding Tryz.prog os ⟨#[],#[],[]⟩with heap:=(World.holding Tryz.prog os ⟨#[],#[],[]⟩).heap.modify 0 uR }:World).forCall (fun _ _=>0) ⟨#[],#[.agg #[.slice none 0 0]],[]⟩).memory:=
 laidMet_of_run' 8 (by kernel_rfl) (by kernel_rfl)
theorem pC (os:Os){H:Type}(enc:TypeId×Value->H):∃ places,DataW.whole enc Tryz.prog (({ World.holding Tryz.prog os ⟨#[],#[],[]⟩with heap:=(World.holding Tryz.prog os ⟨#[],#[],[]⟩).heap.modify 0 uR }:World).forCall (fun _ _=>0) ⟨#[],#[.agg #[.slice none 0 0]],[]⟩).memory Tryz.f3.params.toList Rows.fnExactTidySpec.vars false #[Value.agg #[.slice none 0 0]].toList 8=some ([.agg [.nil]],[Rows.laid_loop_example_draft_impl_insRoles],places):=
 ⟨MemPlace.row ⟨0,0,none⟩ 172,by kernel_rfl⟩
theorem Qo (os:Os)(started:os.Started)(H:Type)(enc:TypeId×Value->H)(F:Stop.Interp) :
  ReturnsInHanded {} Tryz.checked os 3 .any ((OpenSpec.ofChange Rows.fnExactTidySpec).preRow enc Tryz.prog Tryz.f3 Rows.fnExactTidyRow.domain false Rows.fnExactTidyRow.laid) (((OpenSpec.ofChange Rows.fnExactTidySpec).at F).post enc Tryz.prog Tryz.f3 false true false false):=by
 obtain⟨places,hx⟩:=pC os enc;refine returnsInHanded_of_row (C:=Tryz.checked) (s:=OpenSpec.ofChange Rows.fnExactTidySpec) own started (by kernel_rfl) Tryz.func3
  (witness_row_at (enc:=enc) (C:=Tryz.checked) false { World.holding Tryz.prog os ⟨#[],#[],[]⟩with heap:=(World.holding Tryz.prog os ⟨#[],#[],[]⟩).heap.modify 0 uR } #[.agg #[.slice none 0 0]] rfl (by kernel_rfl) (by kernel_rfl) (by kernel_rfl)
   (OpenSpec.preRow_of_cond 8 hx (by kernel_rfl) (fun k hk=>by cases hk) (by kernel_rfl) (Je os))) ?_
 intro W base args ds gs before hval hW _ _ _ hL _ _;exact Jp H enc W base args ds gs before hval hW hL
theorem Y1:Rows.FnExactTidySaid:=
 OpenClaim.holds_of_cond 3 Tryz.f3 rfl rfl rfl rfl rfl rfl rfl ⟨rfl,rfl,rfl,rfl,rfl⟩ rfl rfl rfl rfl rfl (by kernel_rfl) Tryz.func3 (by kernel_rfl)
  (of_decide_eq_true (by kernel_rfl)) (by unfold Func.isWrapper;first | (rw[if_pos (by decide +kernel)];kernel_rfl) | (rw[if_neg (by decide +kernel)];exact⟨rfl,rfl⟩))
  (fun os started H enc _ F=>by rw[OpenClaim.pre_eq_preRow];exact Qo os started H enc F)
theorem Uz (f:FuncId)(fn:Func)(hf:Tryz.pinned.checked.prog.funcNamed Rows.fnExactTidyRow.func=some f)(hfn:Tryz.pinned.checked.prog.funcs[f]? = some fn) :
  false=Tryz.pinned.checked.prog.looks []/\∀(j:Nat) t,fn.params[j]? = some t->Tryz.pinned.checked.prog.wantsStandIn t=false:=by
 obtain rfl:f=3:=Option.some.inj ((show Tryz.prog.funcNamed Rows.fnExactTidyRow.func=some 3 by kernel_rfl).symm.trans hf) |>.symm;obtain rfl:fn=Tryz.f3:=(Option.some.inj (Tryz.func3.symm.trans hfn)).symm;refine⟨by kernel_rfl,fun j t ht=>?_⟩;rw[Tryz.params3]at ht;obtain rfl:t=24:=by simpa using Array.mem_of_getElem? ht
 exact(show Tryz.prog.wantsStandIn 24=false by kernel_rfl)
theorem fnExactTidy_card:Rows.FnExactTidyCardSaid:=
 Claim7.holds_tied_plain_at .later [] _ _ _ _ Y1 (fun _ h=>by cases h) (by kernel_rfl) (fun _ h=>by cases h) fnExactTidy_row_tie rfl ⟨rfl,rfl⟩ (by kernel_rfl) rfl Uz (by kernel_rfl)
#print axioms fnExactTidy_card
end Go.Proofs.YtcjfjflljdojlaaGreatDoor
