import Derived.OpenShut
import Derived.Lib.LaidTab
import Derived.Test.YtcjfjflljdojlaaGreatDoorPart52
import Derived.Test.YtcjfjflljdojlaaGreatDoorCards
import Derived.Test.YtcjfjflljdojlaaGreatDoorTie
import Derived.ProofKit
import Derived.Deep.DeepHandedRow
set_option linter.all false
set_option maxRecDepth 100000
namespace Go.Proofs.YtcjfjflljdojlaaGreatDoor
open Go.RowKit
theorem ID:Tryz.prog.cellsOf 188=4:=by kernel_rfl
theorem Mw:Tryz.prog.cellsOf 189=172:=by kernel_rfl
theorem c_i:Tryz.prog.cellsOf 3=1:=by kernel_rfl
def lk:String:=Rows.fnExactTidyRow.named.headD ""
theorem sY:Tryz.prog.globalNamed lk=some 0:=by kernel_rfl
theorem JY:(Tryz.prog.globals[0]?).map (·.type)=some 189:=by kernel_rfl
def nT {H:Type}(i:Nat):DataW H:=.agg [.lit (.int .i64 (aA i 0:Nat)),.lit (.int .i64 (aA i 1:Nat)),.lit (.int .i64 (aA i 2:Nat)),.lit (.int .i64 (aA i 3:Nat))]
theorem Mp {H:Type}:(Rows.laid_loop_example_draft_impl_insRoles:DataW H)=.agg ((List.range 43).map nT):=rfl
theorem O7 {α:Type}:∀(l:List α),l.length=4->∃ a b c d,l=[a,b,c,d]
 | [a,b,c,d],_=>⟨a,b,c,d,rfl⟩
 | [],h | [_],h | [_,_],h | [_,_,_],h | _::_::_::_::_::_,h=>by simp at h
section
variable {H:Type} {enc:TypeId×Value->H} {w:w_} {base:Nat} {sp:Nat->Bool} {held:Bool} {fuel:Nat} {cs:List Value} {p:List MemPlace}
theorem BZ {a0 a1 a2 a3:Int}(h:DataW.trod enc Tryz.prog w base sp held fuel 188 cs=some (.agg [.lit (.int .i64 a0),.lit (.int .i64 a1),.lit (.int .i64 a2),.lit (.int .i64 a3)],p)) :
  cs=[.int .i64 a0,.int .i64 a1,.int .i64 a2,.int .i64 a3]:=by
 obtain⟨xs,n,_,hx,hl,aO,hf⟩:=DataW.trod_struct Tryz.underlying188 h;rw[ID]at hl;have aO:xs.length=4:=aO;obtain⟨v0,v1,v2,v3,rfl⟩:=O7 cs hl;obtain⟨x0,x1,x2,x3,rfl⟩:=O7 xs aO;have f0:DataW.trod enc Tryz.prog w base sp held n 3 ((List.drop 0 [v0,v1,v2,v3]).take (Tryz.prog.cellsOf 3))=some x0:=hf 0 _ rfl;have f1:DataW.trod enc Tryz.prog w base sp held n 3 ((List.drop 1 [v0,v1,v2,v3]).take (Tryz.prog.cellsOf 3))=some x1:=hf 1 _ rfl;have f2:DataW.trod enc Tryz.prog w base sp held n 3 ((List.drop 2 [v0,v1,v2,v3]).take (Tryz.prog.cellsOf 3))=some x2:=hf 2 _ rfl;have f3:DataW.trod enc Tryz.prog w base sp held n 3 ((List.drop 3 [v0,v1,v2,v3]).take (Tryz.prog.cellsOf 3))=some x3:=hf 3 _ rfl;rw[c_i]at f0 f1 f2 f3;obtain⟨z0,e0,rfl,_⟩:=DataW.trod_int Tryz.underlying3 f0;obtain⟨z1,e1,rfl,_⟩:=DataW.trod_int Tryz.underlying3 f1;obtain⟨z2,e2,rfl,_⟩:=DataW.trod_int Tryz.underlying3 f2;obtain⟨z3,e3,rfl,_⟩:=DataW.trod_int Tryz.underlying3 f3;simp at e0 e1 e2 e3 hx;obtain⟨⟨h0,h1,h2,h3⟩,_⟩:=hx;rw[e0,e1,e2,e3,h0,h1,h2,h3]
theorem zU (h:DataW.trod enc Tryz.prog w base sp held fuel 189 cs=some (.agg ((List.range 43).map nT),p)) :
  cs.length=172/\∀ i,i<43->∀ j,j<4->cs[i * 4+j]? = some (.int .i64 (aA i j:Nat)):=by
 obtain⟨xs,m,_,hx,hl,aO,hf⟩:=DataW.trod_array Tryz.underlying189 h;rw[Mw]at hl;refine⟨hl,fun i hi=>?_⟩;have h1:=hf i hi;rw[ID]at h1;have ow:(List.range 43).map nT=xs.map (·.1):=by{have:=congrArg Prod.fst hx;simpa using this};have h2:(xs[i]'(by omega)).1=nT i:=by have e:=congrArg (·[i]?) ow;simp only[zae,List.getElem?_range hi,List.getElem?_eq_getElem (show i<xs.length by omega),Option.map_some,Option.some.injEq]at e;exact e.symm
 rw[List.getElem?_eq_getElem (show i<xs.length by omega)]at h1;generalize xs[i]'(by omega)=y at h1 h2;obtain⟨y1,y2⟩:=y;simp only at h2;subst h2;have h3:=BZ h1;have h4:∀ j,j<4->cs[i * 4+j]? = ((cs.drop (i * 4)).take 4)[j]?:=fun j hj=>by
  rw[List.getElem?_take,zca hj,List.getElem?_drop]
 intro j hj;rw[h4 j hj,h3];have hc:j=0\/j=1\/j=2\/j=3:=by{omega};rcases hc with rfl | rfl | rfl | rfl<;>rfl
end
theorem ED {W:w_}(h:laidMetH Tryz.prog Rows.fnExactTidyRow.laid W):gd W:=by
 have h:laidMet Tryz.prog [(lk,Rows.laid_loop_example_draft_impl_insRoles)] W:=h;obtain⟨ps,⟨g',t',cs,fuel,p,q,gP,Tw,pj,hd,_,_⟩,_⟩:=h;obtain rfl:=Option.some.inj (sY.symm.trans gP);obtain rfl:=Option.some.inj (JY.symm.trans Tw);rw[Mp]at hd;obtain⟨h1,h2⟩:=zU hd;unfold World.var? at pj;rw[sY]at pj;simp only[Option.bind_some]at pj;cases e:W.heap[0]? with
 | none=>rw[e]at pj;cases pj
 | some o=>
  rw[e]at pj;cases o with
  | cells c t fr=>
   simp only[Option.some.injEq]at pj;subst pj;exact⟨_,t,fr,e,by simpa using h1,fun i hi j hj=>by simpa using h2 i hi j hj⟩
  | map es clock=>cases pj
  | _=>cases pj
end Go.Proofs.YtcjfjflljdojlaaGreatDoor
namespace Go.Proofs.YtcjfjflljdojlaaGreatDoor
open Go.ChangeShapes Go.WideShapes Go.ChangeAt Go.RowKit
theorem own:ownKnob Tryz.prog.godebug=none:=by kernel_rfl
theorem E5:laidOutB Tryz.prog=true:=by kernel_rfl
theorem Qn:Tryz.prog.cellsOf 24=1:=by kernel_rfl
theorem He (a:Option Addr)(l:List aj)(c:Nat)(w:w_)(hG:gd w)(hs:am w (Ni w) a l) :
  Calls Tryz.prog 3 #[.agg #[.slice a l.length c]] w fun e w'=>e=.returned (.bool true)/\Below w.heap.size w w':=
 zF Gb a l c (Ni w) w hG hs (fun _ h=>h)
theorem YV (c:Array Value)(h:c.size=1):∃ x,c=#[x]:=by
 obtain⟨l⟩:=c
 match l,h with
 | [x],_=>exact⟨x,rfl⟩
theorem JD (H:Type)(enc:TypeId×Value->H)(W:w_)(base:Nat)(args:Array Value)(ds gs:List (DataW H))(before:List MemPlace)
  (hval:∀(j:Nat) t v,Tryz.f3.params[j]? = some t->args[j]? = some v->Value.okWide Tryz.prog W .any base t v)
  (hW:DataW.Whole enc Tryz.prog Tryz.f3.params.toList Rows.fnExactTidySpec.vars false W args.toList ds gs before)(hL:laidMetH Tryz.prog Rows.fnExactTidyRow.laid W) :
  Calls Tryz.prog 3 args W fun e W'=>∃ v,e=.returned v/\Rows.fnExactTidySpec.post enc Tryz.prog Tryz.f3 false true false false W args v W':=by
 have Wq:=hW;obtain⟨p,q,Zv,hV,rfl,hfz,Bf⟩:=hW;have hA:DataW.TrodAll enc Tryz.prog W 0 (fun _=>true) true Tryz.f3.params.toList args.toList ds p:=Zv;rw[Tryz.params3]at hA hval;obtain⟨v0,vs0,d0,ds0,p0,q0,hargs,rfl,rfl,h0,r0⟩:=trodAll_cons hA;obtain⟨rfl,rfl,rfl⟩:=trodAll_nil r0;obtain rfl:args=#[v0]:=by{cases args;simp_all};have hV:DataW.TrodVars enc Tryz.prog W (fun _=>true) [lk] gs q:=hV;obtain⟨g,t,cs,fuel,d,pv,rfl,hg,ey,pj,hd,rfl⟩:=trodVars_one hV;have Tk:=h0;obtain⟨cs0,rfl,km⟩:=okWide_struct Tryz.underlying24 (hval 0 24 v0 rfl rfl);obtain⟨fuel0,rD⟩:=h0;obtain⟨n1,y1,f1⟩:=cW Tryz.underlying24 rD 0 rfl IE;obtain⟨a,l,c,e1,hs⟩:=GZ f1;have Iy:cs0=#[.slice a l.length c]:=by rw[Qn]at km;have e2:=cV e1;obtain⟨x,rfl⟩:=YV cs0 km;have e2:some x=some (.slice a l.length c):=by{simpa[Value.cells]using e2};rw[Option.some.inj e2]
 subst Iy;clear hA Zv;refine(He a l c W (ED hL) hs).mono ?_;rintro e W' ⟨rfl,hb⟩;have aaU:∀ x∈p0,x.block<W.heap.size:=fun x hx=>by simpa using Wq.lt x (by simp[hx])
 have aaQ:∀ x∈pv,x.block<W.heap.size:=fun x hx=>by simpa using Wq.lt x (by simp[hx])
 have ha:DataW.TrodAll enc Tryz.prog W' 0 (fun b=>decide (b<W.heap.size)) true [24] [.agg #[.slice a l.length c]] [d0] (p0++[]):=
  trodAll_cons_mk (Below.trod E5 (by kernel_rfl) (of_decide_eq_true (by kernel_rfl)) Tk hb aaU) trodAll_mk0
 have hgr:g=0:=(Option.some.inj (sY.symm.trans hg)).symm;have Eg:t=189:=by{subst hgr;exact(Option.some.inj (JY.symm.trans ey)).symm};have WT:W'.var? Tryz.prog lk=some cs:=by{have h0:0<W.heap.size:=(ED hL).pos;unfold World.var? at pj ⊢;rw[sY]at pj ⊢;simp only[Option.bind_some]at pj ⊢;rw[hb.block 0 h0];exact pj};have hdv:DataW.Trod enc Tryz.prog W' 0 (fun b=>decide (b<W.heap.size)) true t (.agg cs) d pv:=by subst Eg;exact Below.trod E5 (by kernel_rfl) (of_decide_eq_true (by kernel_rfl)) ⟨fuel,by simpa[Value.cells]using hd⟩ hb aaQ
 obtain⟨fuel',hdv⟩:=hdv;have Ug:DataW.TrodVars enc Tryz.prog W' (fun b=>decide (b<W.heap.size)) [lk] [d] (MemPlace.row ⟨g,0,none⟩ cs.size++pv):=
  trodVars_mk1 hg ey WT (by simpa[Value.cells]using hdv)
 refine⟨_,rfl,[d0],[d],_,[],p0++[],MemPlace.row ⟨g,0,none⟩ cs.size++pv,Wq,?_,?_,Ug,hb.frame _,fun h=>by cases h⟩;{exact trodAll_cons_mk (shut_bool Tryz.underlying4 _) trodAll_mk0};{rw[Tryz.params3];exact ha}
def Hg:Array Value:=((List.range 43).flatMap fun i=>[Value.int .i64 (aA i 0:Nat),.int .i64 (aA i 1:Nat),.int .i64 (aA i 2:Nat),.int .i64 (aA i 3:Nat)]).toArray
def uR:Obj->Obj
 | .cells _ t frozen=>.cells Hg t frozen
 | o=>o
theorem JN (os:Os):laidMet Tryz.prog Rows.fnExactTidyRow.laid (({ World.holding Tryz.prog os ⟨#[],#[],[]⟩with heap:=(World.holding Tryz.prog os ⟨#[],#[],[]⟩).heap.modify 0 uR }:w_).forCall (fun _ _=>0) ⟨#[],#[.agg #[.slice none 0 0]],[]⟩).memory:=
 laidMet_of_run' 8 (by kernel_rfl) (by kernel_rfl)
theorem pF (os:Os){H:Type}(enc:TypeId×Value->H):∃ places,DataW.whole enc Tryz.prog (({ World.holding Tryz.prog os ⟨#[],#[],[]⟩with heap:=(World.holding Tryz.prog os ⟨#[],#[],[]⟩).heap.modify 0 uR }:w_).forCall (fun _ _=>0) ⟨#[],#[.agg #[.slice none 0 0]],[]⟩).memory Tryz.f3.params.toList Rows.fnExactTidySpec.vars false #[Value.agg #[.slice none 0 0]].toList 8=some ([.agg [.nil]],[Rows.laid_loop_example_draft_impl_insRoles],places):=
 ⟨MemPlace.row ⟨0,0,none⟩ 172,by kernel_rfl⟩
theorem Qp (os:Os)(started:os.Started)(H:Type)(enc:TypeId×Value->H)(F:Stop.Interp) :
  ReturnsInHanded {} Tryz.checked os 3 .any ((OpenSpec.ofChange Rows.fnExactTidySpec).preRow enc Tryz.prog Tryz.f3 Rows.fnExactTidyRow.domain false Rows.fnExactTidyRow.laid) (((OpenSpec.ofChange Rows.fnExactTidySpec).at F).post enc Tryz.prog Tryz.f3 false true false false):=by
 obtain⟨places,hx⟩:=pF os enc;refine returnsInHanded_of_row (C:=Tryz.checked) (s:=OpenSpec.ofChange Rows.fnExactTidySpec) own started (by kernel_rfl) Tryz.func3
  (witness_row_at (enc:=enc) (C:=Tryz.checked) false { World.holding Tryz.prog os ⟨#[],#[],[]⟩with heap:=(World.holding Tryz.prog os ⟨#[],#[],[]⟩).heap.modify 0 uR } #[.agg #[.slice none 0 0]] rfl (by kernel_rfl) (by kernel_rfl) (by kernel_rfl)
   (OpenSpec.preRow_of_cond 8 hx (by kernel_rfl) (fun k hk=>by cases hk) (by kernel_rfl) (JN os))) ?_
 intro W base args ds gs before hval hW _ _ _ hL _ _;exact JD H enc W base args ds gs before hval hW hL
theorem YT:Rows.FnExactTidySaid:=
 OpenClaim.holds_of_cond 3 Tryz.f3 rfl rfl rfl rfl rfl rfl rfl ⟨rfl,rfl,rfl,rfl,rfl⟩ rfl rfl rfl rfl rfl (by kernel_rfl) Tryz.func3 (by kernel_rfl)
  (of_decide_eq_true (by kernel_rfl)) (by unfold Func.isWrapper;first | (rw[zca (by decide +kernel)];kernel_rfl) | (rw[zcb (by decide +kernel)];exact⟨rfl,rfl⟩))
  (fun os started H enc _ F=>by rw[OpenClaim.pre_eq_preRow];exact Qp os started H enc F)
theorem Ux (f:FuncId)(fn:Func)(hf:Tryz.pinned.checked.prog.funcNamed Rows.fnExactTidyRow.func=some f)(hfn:Tryz.pinned.checked.prog.funcs[f]? = some fn) :
  false=Tryz.pinned.checked.prog.looks []/\∀(j:Nat) t,fn.params[j]? = some t->Tryz.pinned.checked.prog.wantsStandIn t=false:=by
 obtain rfl:f=3:=Option.some.inj ((show Tryz.prog.funcNamed Rows.fnExactTidyRow.func=some 3 by kernel_rfl).symm.trans hf) |>.symm;obtain rfl:fn=Tryz.f3:=(Option.some.inj (Tryz.func3.symm.trans hfn)).symm;refine⟨by kernel_rfl,fun j t ht=>?_⟩;rw[Tryz.params3]at ht;obtain rfl:t=24:=by{simpa using Array.mem_of_getElem? ht};exact(show Tryz.prog.wantsStandIn 24=false by kernel_rfl)
theorem fnExactTidy_card:Rows.FnExactTidyCardSaid:=
 Claim7.holds_tied_plain_at .later [] _ _ _ _ YT (fun _ h=>by cases h) (by kernel_rfl) (fun _ h=>by cases h) fnExactTidy_row_tie rfl ⟨rfl,rfl⟩ (by kernel_rfl) rfl Ux (by kernel_rfl)
#print axioms fnExactTidy_card
end Go.Proofs.YtcjfjflljdojlaaGreatDoor
