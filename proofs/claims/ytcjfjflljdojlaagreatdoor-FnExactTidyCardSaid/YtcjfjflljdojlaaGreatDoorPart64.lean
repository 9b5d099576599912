import Derived.Test.YtcjfjflljdojlaaGreatDoorPart16
import Derived.Test.YtcjfjflljdojlaaGreatDoorRows
import Derived.OpenShut
import Derived.Lib.LaidTab
set_option linter.unusedSimpArgs false
set_option linter.unusedVariables false
set_option maxRecDepth 100000
namespace Go.Proofs.YtcjfjflljdojlaaGreatDoor
open Go.RowKit
theorem J4:Tryz.prog.cellsOf 188=4:=by kernel_rfl
theorem Mh:Tryz.prog.cellsOf 189=172:=by kernel_rfl
theorem c_i:Tryz.prog.cellsOf 3=1:=by kernel_rfl
def ld:String:=Rows.fnExactTidyRow.named.headD ""
theorem th:Tryz.prog.globalNamed ld=some 0:=by kernel_rfl
theorem Ke:(Tryz.prog.globals[0]?).map (·.type)=some 189:=by kernel_rfl
def oe {H:Type}(i:Nat):DataW H:=.agg [.lit (.int .i64 (aC i 0:Nat)),.lit (.int .i64 (aC i 1:Nat)),.lit (.int .i64 (aC i 2:Nat)),.lit (.int .i64 (aC i 3:Nat))]
theorem Ml {H:Type}:(Rows.laid_loop_example_draft_impl_insRoles:DataW H)=.agg ((List.range 43).map oe):=rfl
theorem O0 {α:Type}:∀(l:List α),l.length=4->∃ a b c d,l=[a,b,c,d]
 | [a,b,c,d],_=>⟨a,b,c,d,rfl⟩
 | [],h | [_],h | [_,_],h | [_,_,_],h | _::_::_::_::_::_,h=>by simp at h
section
variable {H:Type} {enc:TypeId×Value->H} {w:World} {base:Nat} {sp:Nat->Bool} {held:Bool} {fuel:Nat} {cs:List Value} {p:List MemPlace}
theorem B8 {a0 a1 a2 a3:Int}(h:DataW.trod enc Tryz.prog w base sp held fuel 188 cs=some (.agg [.lit (.int .i64 a0),.lit (.int .i64 a1),.lit (.int .i64 a2),.lit (.int .i64 a3)],p)) :
  cs=[.int .i64 a0,.int .i64 a1,.int .i64 a2,.int .i64 a3]:=by
 obtain⟨xs,n,_,hx,hl,aP,hf⟩:=DataW.trod_struct Tryz.underlying188 h;rw[J4]at hl;have aP:xs.length=4:=aP;obtain⟨v0,v1,v2,v3,rfl⟩:=O0 cs hl;obtain⟨x0,x1,x2,x3,rfl⟩:=O0 xs aP;have f0:DataW.trod enc Tryz.prog w base sp held n 3 ((List.drop 0 [v0,v1,v2,v3]).take (Tryz.prog.cellsOf 3))=some x0:=hf 0 _ rfl;have f1:DataW.trod enc Tryz.prog w base sp held n 3 ((List.drop 1 [v0,v1,v2,v3]).take (Tryz.prog.cellsOf 3))=some x1:=hf 1 _ rfl;have f2:DataW.trod enc Tryz.prog w base sp held n 3 ((List.drop 2 [v0,v1,v2,v3]).take (Tryz.prog.cellsOf 3))=some x2:=hf 2 _ rfl;have f3:DataW.trod enc Tryz.prog w base sp held n 3 ((List.drop 3 [v0,v1,v2,v3]).take (Tryz.prog.cellsOf 3))=some x3:=hf 3 _ rfl;rw[c_i]at f0 f1 f2 f3;obtain⟨z0,e0,rfl,_⟩:=DataW.trod_int Tryz.underlying3 f0;obtain⟨z1,e1,rfl,_⟩:=DataW.trod_int Tryz.underlying3 f1;obtain⟨z2,e2,rfl,_⟩:=DataW.trod_int Tryz.underlying3 f2;obtain⟨z3,e3,rfl,_⟩:=DataW.trod_int Tryz.underlying3 f3;simp at e0 e1 e2 e3 hx;obtain⟨⟨h0,h1,h2,h3⟩,_⟩:=hx;rw[e0,e1,e2,e3,h0,h1,h2,h3]
theorem Ac (h:DataW.trod enc Tryz.prog w base sp held fuel 189 cs=some (.agg ((List.range 43).map oe),p)) :
  cs.length=172/\∀ i,i<43->∀ j,j<4->cs[i * 4+j]? = some (.int .i64 (aC i j:Nat)):=by
 obtain⟨xs,m,_,hx,hl,aP,hf⟩:=DataW.trod_array Tryz.underlying189 h;rw[Mh]at hl;refine⟨hl,fun i hi=>?_⟩;have h1:=hf i hi;rw[J4]at h1;have oy:(List.range 43).map oe=xs.map (·.1):=by
  have:=congrArg Prod.fst hx;simpa using this
 have h2:(xs[i]'(by omega)).1=oe i:=by
  have e:=congrArg (·[i]?) oy;simp only[List.getElem?_map,List.getElem?_range hi,List.getElem?_eq_getElem (show i<xs.length by omega),Option.map_some,Option.some.injEq]at e;exact e.symm
 rw[List.getElem?_eq_getElem (show i<xs.length by omega)]at h1;generalize xs[i]'(by omega)=y at h1 h2;obtain⟨y1,y2⟩:=y;simp only at h2
 aj h2
 have h3:=B8 h1;have h4:∀ j,j<4->cs[i * 4+j]? = ((cs.drop (i * 4)).take 4)[j]?:=fun j hj=>by
  rw[List.getElem?_take,if_pos hj,List.getElem?_drop]
 intro j hj;rw[h4 j hj,h3];have hc:j=0\/j=1\/j=2\/j=3:=by omega
 rcases hc with rfl | rfl | rfl | rfl<;>rfl
end
theorem EW {W:World}(h:laidMetH Tryz.prog Rows.fnExactTidyRow.laid W):gh W:=by
 have h:laidMet Tryz.prog [(ld,Rows.laid_loop_example_draft_impl_insRoles)] W:=h;obtain⟨ps,⟨g',t',cs,fuel,p,q,gQ,TJ,pj,hd,_,_⟩,_⟩:=h;obtain rfl:=Option.some.inj (th.symm.trans gQ);obtain rfl:=Option.some.inj (Ke.symm.trans TJ);rw[Ml]at hd;obtain⟨h1,h2⟩:=Ac hd;unfold World.var? at pj;rw[th]at pj;simp only[Option.bind_some]at pj;cases e:W.heap[0]? with
 | none=>rw[e]at pj;cases pj
 | some o=>
  rw[e]at pj;cases o with
  | cells c t fr=>
   simp only[Option.some.injEq]at pj
   aj pj
   exact⟨_,t,fr,e,by simpa using h1,fun i hi j hj=>by simpa using h2 i hi j hj⟩
  | map es clock=>cases pj
  | _=>cases pj
end Go.Proofs.YtcjfjflljdojlaaGreatDoor
