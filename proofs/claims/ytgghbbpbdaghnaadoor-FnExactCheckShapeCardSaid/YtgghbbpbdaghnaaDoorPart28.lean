import Derived.Test.YtgghbbpbdaghnaaDoorPart18
import Derived.Test.YtgghbbpbdaghnaaDoorRows
import Derived.OpenShut
import Derived.Lib.LaidTab
set_option linter.unusedSimpArgs false
set_option linter.unusedVariables false
set_option maxRecDepth 100000
namespace Go.Proofs.YtgghbbpbdaghnaaDoor
open Go.RowKit
theorem c_role:Tryd.prog.cellsOf 112=4:=by kernel_rfl
theorem c_roles:Tryd.prog.cellsOf 113=172:=by kernel_rfl
theorem c_i:Tryd.prog.cellsOf 3=1:=by kernel_rfl
def rolesName:String:=Rows.fnExactCheckShapeRow.named.headD ""
theorem g_roles:Tryd.prog.globalNamed rolesName=some 1:=by kernel_rfl
theorem g_type:(Tryd.prog.globals[1]?).map (·.type)=some 113:=by kernel_rfl
def roleDatum {H:Type}(i:Nat):DataW H:=.agg [.lit (.int .i64 (iRole i 0:Nat)),.lit (.int .i64 (iRole i 1:Nat)),.lit (.int .i64 (iRole i 2:Nat)),.lit (.int .i64 (iRole i 3:Nat))]
theorem laid_eq {H:Type}:(Rows.laid_loop_example_draft_impl_insRoles:DataW H)=.agg ((List.range 43).map roleDatum):=rfl
theorem len4L {α:Type}:∀(l:List α),l.length=4->∃ a b c d,l=[a,b,c,d]
 | [a,b,c,d],_=>⟨a,b,c,d,rfl⟩
 | [],h | [_],h | [_,_],h | [_,_,_],h | _::_::_::_::_::_,h=>by simp at h
section
variable {H:Type} {enc:TypeId×Value->H} {w:World} {base:Nat} {sp:Nat->Bool} {held:Bool} {fuel:Nat} {cs:List Value} {p:List MemPlace}
theorem role_cells {a0 a1 a2 a3:Int}(h:DataW.trod enc Tryd.prog w base sp held fuel 112 cs=some (.agg [.lit (.int .i64 a0),.lit (.int .i64 a1),.lit (.int .i64 a2),.lit (.int .i64 a3)],p)) :
  cs=[.int .i64 a0,.int .i64 a1,.int .i64 a2,.int .i64 a3]:=by
 obtain⟨xs,n,_,hx,hl,hlen,hf⟩:=DataW.trod_struct Tryd.underlying112 h;rw[c_role]at hl;have hlen:xs.length=4:=hlen;obtain⟨v0,v1,v2,v3,rfl⟩:=len4L cs hl;obtain⟨x0,x1,x2,x3,rfl⟩:=len4L xs hlen;have f0:DataW.trod enc Tryd.prog w base sp held n 3 ((List.drop 0 [v0,v1,v2,v3]).take (Tryd.prog.cellsOf 3))=some x0:=hf 0 _ rfl;have f1:DataW.trod enc Tryd.prog w base sp held n 3 ((List.drop 1 [v0,v1,v2,v3]).take (Tryd.prog.cellsOf 3))=some x1:=hf 1 _ rfl;have f2:DataW.trod enc Tryd.prog w base sp held n 3 ((List.drop 2 [v0,v1,v2,v3]).take (Tryd.prog.cellsOf 3))=some x2:=hf 2 _ rfl;have f3:DataW.trod enc Tryd.prog w base sp held n 3 ((List.drop 3 [v0,v1,v2,v3]).take (Tryd.prog.cellsOf 3))=some x3:=hf 3 _ rfl;rw[c_i]at f0 f1 f2 f3;obtain⟨z0,e0,rfl,_⟩:=DataW.trod_int Tryd.underlying3 f0;obtain⟨z1,e1,rfl,_⟩:=DataW.trod_int Tryd.underlying3 f1;obtain⟨z2,e2,rfl,_⟩:=DataW.trod_int Tryd.underlying3 f2;obtain⟨z3,e3,rfl,_⟩:=DataW.trod_int Tryd.underlying3 f3;simp at e0 e1 e2 e3 hx;obtain⟨⟨h0,h1,h2,h3⟩,_⟩:=hx;rw[e0,e1,e2,e3,h0,h1,h2,h3]
theorem roles_cells (h:DataW.trod enc Tryd.prog w base sp held fuel 113 cs=some (.agg ((List.range 43).map roleDatum),p)) :
  cs.length=172/\∀ i,i<43->∀ j,j<4->cs[i * 4+j]? = some (.int .i64 (iRole i j:Nat)):=by
 obtain⟨xs,m,_,hx,hl,hlen,hf⟩:=DataW.trod_array Tryd.underlying113 h;rw[c_roles]at hl;refine⟨hl,fun i hi=>?_⟩;have h1:=hf i hi;rw[c_role]at h1;have hx1:(List.range 43).map roleDatum=xs.map (·.1):=by
  have:=congrArg Prod.fst hx;simpa using this
 have h2:(xs[i]'(by omega)).1=roleDatum i:=by
  have e:=congrArg (·[i]?) hx1;simp only[List.getElem?_map,List.getElem?_range hi,List.getElem?_eq_getElem (show i<xs.length by omega),Option.map_some,Option.some.injEq]at e;exact e.symm
 rw[List.getElem?_eq_getElem (show i<xs.length by omega)]at h1;generalize xs[i]'(by omega)=y at h1 h2;obtain⟨y1,y2⟩:=y;simp only at h2;subst h2;have h3:=role_cells h1;have h4:∀ j,j<4->cs[i * 4+j]? = ((cs.drop (i * 4)).take 4)[j]?:=fun j hj=>by
  rw[List.getElem?_take,if_pos hj,List.getElem?_drop]
 intro j hj;rw[h4 j hj,h3];have hc:j=0\/j=1\/j=2\/j=3:=by omega
 rcases hc with rfl | rfl | rfl | rfl<;>rfl
end
theorem rtab_of {W:World}(h:laidMetH Tryd.prog Rows.fnExactCheckShapeRow.laid W):RTab W:=by
 have h:laidMet Tryd.prog [(rolesName,Rows.laid_loop_example_draft_impl_insRoles)] W:=h;obtain⟨ps,⟨g',t',cs,fuel,p,q,hg',ht',hvar,hd,_,_⟩,_⟩:=h;obtain rfl:=Option.some.inj (g_roles.symm.trans hg');obtain rfl:=Option.some.inj (g_type.symm.trans ht');rw[laid_eq]at hd;obtain⟨h1,h2⟩:=roles_cells hd;unfold World.var? at hvar;rw[g_roles]at hvar;simp only[Option.bind_some]at hvar;cases e:W.heap[1]? with
 | none=>rw[e]at hvar;cases hvar
 | some o=>
  rw[e]at hvar;cases o with
  | cells c t fr=>
   simp only[Option.some.injEq]at hvar;subst hvar;exact⟨_,t,fr,e,by simpa using h1,fun i hi j hj=>by simpa using h2 i hi j hj⟩
  | map es clock=>cases hvar
  | _=>cases hvar
end Go.Proofs.YtgghbbpbdaghnaaDoor
