import Derived.Test.YtofcbekoaghikaaGreatDoorPart23
import Derived.Test.YtofcbekoaghikaaGreatDoorRows
import Derived.OpenShut
import Derived.Lib.LaidTab
set_option linter.unusedSimpArgs false
set_option linter.unusedVariables false
set_option maxRecDepth 100000
namespace Go.Proofs.YtofcbekoaghikaaGreatDoor
open Go.RowKit
theorem c_role:Tryz.prog.cellsOf 106=6:=by kernel_rfl
theorem c_roles:Tryz.prog.cellsOf 128=198:=by kernel_rfl
theorem c_i:Tryz.prog.cellsOf 3=1:=by kernel_rfl
def rolesName:String:=Rows.fnExactCapturedRow.named.headD ""
theorem g_roles:Tryz.prog.globalNamed rolesName=some 0:=by kernel_rfl
theorem g_type:(Tryz.prog.globals[0]?).map (·.type)=some 128:=by kernel_rfl
def roleDatum {H:Type}(i:Nat):DataW H:=.agg [.lit (.int .i64 (roleAt i).kind),.lit (.int .i64 (roleAt i).u),.lit (.int .i64 (roleAt i).r0),.lit (.int .i64 (roleAt i).r1),.lit (.int .i64 (roleAt i).k0),.lit (.int .i64 (roleAt i).k1)]
theorem laid_eq {H:Type}:(Rows.laid_loop_example_draft_impl_nodeRoles:DataW H)=.agg ((List.range 33).map roleDatum):=rfl
theorem len6 {α:Type}:∀(l:List α),l.length=6->∃ a b c d e f,l=[a,b,c,d,e,f]
 | [a,b,c,d,e,f],_=>⟨a,b,c,d,e,f,rfl⟩
 | [],h | [_],h | [_,_],h | [_,_,_],h | [_,_,_,_],h | [_,_,_,_,_],h | _::_::_::_::_::_::_::_,h=>by simp at h
section
variable {H:Type} {enc:TypeId×Value->H} {w:World} {base:Nat} {sp:Nat->Bool} {held:Bool} {fuel:Nat} {cs:List Value} {p:List MemPlace}
theorem role_cells {a0 a1 a2 a3 a4 a5:Int}(h:DataW.trod enc Tryz.prog w base sp held fuel 106 cs=some (.agg [.lit (.int .i64 a0),.lit (.int .i64 a1),.lit (.int .i64 a2),.lit (.int .i64 a3),.lit (.int .i64 a4),.lit (.int .i64 a5)],p)) :
  cs=[.int .i64 a0,.int .i64 a1,.int .i64 a2,.int .i64 a3,.int .i64 a4,.int .i64 a5]:=by
 obtain⟨xs,n,_,hx,hl,hlen,hf⟩:=DataW.trod_struct Tryz.underlying106 h;rw[c_role]at hl;have hlen:xs.length=6:=hlen;obtain⟨v0,v1,v2,v3,v4,v5,rfl⟩:=len6 cs hl;obtain⟨x0,x1,x2,x3,x4,x5,rfl⟩:=len6 xs hlen;have f0:DataW.trod enc Tryz.prog w base sp held n 3 ((List.drop 0 [v0,v1,v2,v3,v4,v5]).take (Tryz.prog.cellsOf 3))=some x0:=hf 0 _ rfl;have f1:DataW.trod enc Tryz.prog w base sp held n 3 ((List.drop 1 [v0,v1,v2,v3,v4,v5]).take (Tryz.prog.cellsOf 3))=some x1:=hf 1 _ rfl;have f2:DataW.trod enc Tryz.prog w base sp held n 3 ((List.drop 2 [v0,v1,v2,v3,v4,v5]).take (Tryz.prog.cellsOf 3))=some x2:=hf 2 _ rfl;have f3:DataW.trod enc Tryz.prog w base sp held n 3 ((List.drop 3 [v0,v1,v2,v3,v4,v5]).take (Tryz.prog.cellsOf 3))=some x3:=hf 3 _ rfl;have f4:DataW.trod enc Tryz.prog w base sp held n 3 ((List.drop 4 [v0,v1,v2,v3,v4,v5]).take (Tryz.prog.cellsOf 3))=some x4:=hf 4 _ rfl;have f5:DataW.trod enc Tryz.prog w base sp held n 3 ((List.drop 5 [v0,v1,v2,v3,v4,v5]).take (Tryz.prog.cellsOf 3))=some x5:=hf 5 _ rfl;rw[c_i]at f0 f1 f2 f3 f4 f5;obtain⟨z0,e0,rfl,_⟩:=DataW.trod_int Tryz.underlying3 f0;obtain⟨z1,e1,rfl,_⟩:=DataW.trod_int Tryz.underlying3 f1;obtain⟨z2,e2,rfl,_⟩:=DataW.trod_int Tryz.underlying3 f2;obtain⟨z3,e3,rfl,_⟩:=DataW.trod_int Tryz.underlying3 f3;obtain⟨z4,e4,rfl,_⟩:=DataW.trod_int Tryz.underlying3 f4;obtain⟨z5,e5,rfl,_⟩:=DataW.trod_int Tryz.underlying3 f5;simp at e0 e1 e2 e3 e4 e5 hx;obtain⟨⟨h0,h1,h2,h3,h4,h5⟩,_⟩:=hx;rw[e0,e1,e2,e3,e4,e5,h0,h1,h2,h3,h4,h5]
theorem roles_cells (h:DataW.trod enc Tryz.prog w base sp held fuel 128 cs=some (.agg ((List.range 33).map roleDatum),p)) :
  cs.length=198/\∀ i,i<33->cs.toArray.extract (i * 6) (i * 6+6)=roleV i:=by
 obtain⟨xs,m,_,hx,hl,hlen,hf⟩:=DataW.trod_array Tryz.underlying128 h;rw[c_roles]at hl;refine⟨hl,fun i hi=>?_⟩;have h1:=hf i hi;rw[c_role]at h1;have hx1:(List.range 33).map roleDatum=xs.map (·.1):=by
  have:=congrArg Prod.fst hx;simpa using this
 have h2:(xs[i]'(by omega)).1=roleDatum i:=by
  have e:=congrArg (·[i]?) hx1;simp only[List.getElem?_map,List.getElem?_range hi,List.getElem?_eq_getElem (show i<xs.length by omega),Option.map_some,Option.some.injEq]at e;exact e.symm
 rw[List.getElem?_eq_getElem (show i<xs.length by omega)]at h1;generalize xs[i]'(by omega)=y at h1 h2;obtain⟨y1,y2⟩:=y;simp only at h2;subst h2;have h3:=role_cells h1;rw[List.extract_toArray];rw[show cs.extract (i * 6) (i * 6+6)=(cs.drop (i * 6)).take 6 from by rw[List.extract_eq_take_drop];congr 1;omega,h3];rfl
end
theorem gtab_of {W:World}(h:laidMetH Tryz.prog Rows.fnExactCapturedRow.laid W):GTab W:=by
 have h:laidMet Tryz.prog [(rolesName,Rows.laid_loop_example_draft_impl_nodeRoles)] W:=h;obtain⟨ps,⟨g',t',cs,fuel,p,q,hg',ht',hvar,hd,_,_⟩,_⟩:=h;obtain rfl:=Option.some.inj (g_roles.symm.trans hg');obtain rfl:=Option.some.inj (g_type.symm.trans ht');rw[laid_eq]at hd;obtain⟨h1,h2⟩:=roles_cells hd;unfold World.var? at hvar;rw[g_roles]at hvar;simp only[Option.bind_some]at hvar;cases e:W.heap[0]? with
 | none=>rw[e]at hvar;cases hvar
 | some o=>
  rw[e]at hvar;cases o with
  | cells c t fr=>
   simp only[Option.some.injEq]at hvar;subst hvar;exact⟨_,t,fr,e,by simpa using h1,fun i hi=>by simpa using h2 i hi⟩
  | map es clock=>cases hvar
  | _=>cases hvar
end Go.Proofs.YtofcbekoaghikaaGreatDoor
