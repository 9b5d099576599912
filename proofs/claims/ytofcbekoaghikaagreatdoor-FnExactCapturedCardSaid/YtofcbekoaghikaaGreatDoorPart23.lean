import Derived.Test.YtofcbekoaghikaaGreatDoorPart22
set_option linter.unusedSimpArgs false
set_option linter.unusedVariables false
set_option maxHeartbeats 8000000
set_option maxRecDepth 100000
namespace Go.Proofs.YtofcbekoaghikaaGreatDoor
open Go.RowKit
attribute [local go_sem] run_store_float
structure Role where
 kind:Int
 u:Nat
 r0:Nat
 r1:Nat
 k0:Nat
 k1:Nat
def roleT:List Role:=[
 ⟨1,0,0,0,0,200⟩,⟨2,0,1,9223372036854775807,0,200⟩,⟨3,1,0,0,2,200⟩,⟨4,0,0,0,1,1⟩,⟨5,0,0,0,2,3⟩,⟨6,0,0,0,2,2⟩,⟨7,0,1,1,4,4⟩,⟨8,0,1,4,2,2⟩,
 ⟨9,0,0,0,0,0⟩,⟨10,0,0,0,0,0⟩,⟨11,0,0,0,0,200⟩,⟨12,0,2,2,2,2⟩,⟨13,0,0,0,1,1⟩,⟨14,0,0,0,1,1⟩,
 ⟨20,0,0,0,0,0⟩,⟨21,0,0,0,0,0⟩,⟨22,0,0,0,0,0⟩,⟨23,2,0,0,0,0⟩,⟨24,3,0,0,0,0⟩,⟨25,4,0,0,0,0⟩,⟨26,0,1,1,0,0⟩,⟨27,0,1,1,0,0⟩,⟨28,5,0,0,0,0⟩,
 ⟨29,0,0,0,2,2⟩,⟨30,0,0,0,2,2⟩,⟨31,6,0,0,1,1⟩,⟨32,7,0,0,2,2⟩,⟨33,0,0,0,2,2⟩,⟨34,0,0,0,1,200⟩,⟨35,8,0,0,0,200⟩,⟨36,0,1,1,0,0⟩,⟨37,0,0,0,0,0⟩,⟨38,0,0,0,1,1⟩]
def roleAt (i:Nat):Role:=roleT[i]?.getD ⟨0,0,0,0,0,0⟩
def roleV (i:Nat):Array Value:=#[.int .i64 (roleAt i).kind,.int .i64 (roleAt i).u,.int .i64 (roleAt i).r0,.int .i64 (roleAt i).r1,.int .i64 (roleAt i).k0,.int .i64 (roleAt i).k1]
def roleIx:Nat->Int->Option Nat
 | 0,_=>none
 | k+1,kd=>if kd=(roleAt k).kind then some k else roleIx k kd
theorem roleIx_new:∀ k,k<33->roleIx k (roleAt k).kind=none:=by decide
theorem roleIx_lt:∀ k kd i,roleIx k kd=some i->i<k/\(roleAt i).kind=kd
 | 0,_,_,h=>by cases h
 | k+1,kd,i,h=>by
  unfold roleIx at h;split at h
  ·rename_i e;cases h;exact⟨Nat.lt_succ_self _,e.symm⟩
  ·obtain⟨h1,h2⟩:=roleIx_lt k kd i h;exact⟨by omega,h2⟩
def GTab (w:World):Prop:=∃ cs t fr,w.heap[0]? = some (.cells cs t fr)/\cs.size=198/\∀ i,i<33->cs.extract (i * 6) (i * 6+6)=roleV i
theorem GTab.keep {w w':World}{B:Nat}(h:GTab w)(hb:Below B w w')(hB:0<B):GTab w':=by
 obtain⟨cs,t,fr,h1,h2⟩:=h;exact⟨cs,t,fr,(hb.block 0 hB).trans h1,h2⟩
theorem GTab.pos {w:World}(h:GTab w):0<w.heap.size:=by
 obtain⟨cs,t,fr,h1,h2⟩:=h;exact(Array.getElem?_eq_some_iff.1 h1).1
theorem info_roles:(Tryz.prog.info? 128).map (·.size)=some 198:=by kernel_rfl
theorem zero_role (w:World):(zeroValue 106).run Tryz.prog w=.ok (.agg #[.int .i64 0,.int .i64 0,.int .i64 0,.int .i64 0,.int .i64 0,.int .i64 0]) w:=by kernel_rfl
theorem agg_role (w:World):(isAgg 106).run Tryz.prog w=.ok true w:=by kernel_rfl
theorem size_role (w:World):(sizeOf 106).run Tryz.prog w=.ok 6 w:=by kernel_rfl
theorem run_index_role {cs:Array Value}(hcs:∀ i,i<33->cs.extract (i * 6) (i * 6+6)=roleV i)(w:World)(i:Nat)(hi:i<33):(Instr.index 128 (.agg cs) (.int .i64 (i:Int))).run Tryz.prog w=.ok (.agg (roleV i)) w:=by
 unfold Instr.index;simp only[asIntOf,Sem.run_bind,Sem.run_pure,Result.andThen_ok,run_underlying Tryz.underlying128];rw[if_pos ⟨by omega,by omega⟩];simp only[Sem.run_bind,size_role,Result.andThen_ok,part,agg_role,if_true,Int.toNat_natCast,Sem.run_pure,hcs i hi]
theorem run_makeRoles (w:World):(Instr.makeMap 103 (some (.int .i64 33))).run Tryz.prog w=.ok (.map (some w.heap.size)) (w.alloc (.map #[] 0)):=by
 simp[Instr.makeMap,run_underlying Tryz.underlying103,asInt,asIntOf,Result.andThen]
theorem rolesByKind_any (w:World)(hG:GTab w):Calls Tryz.prog 67 #[] w fun e w'=>∃ b,e=.returned (.map (some b))/\MapI w' b (fun kd=>(roleIx 33 kd).map fun i=>.agg (roleV i))/\w.heap.size<=b/\Below w.heap.size w w':=by
 obtain⟨cs,t,fr,hc,hsz,hcs⟩:=hG;have h0:0<w.heap.size:=(Array.getElem?_eq_some_iff.1 hc).1;have HCS:=hide hcs;have HC:=hide hc;clear hcs;have hmm:=run_makeRoles;have hz:(w.alloc (.map #[] 0)).heap[0]? = some (.cells cs t fr):=(Below.heap_alloc w _ 0 h0).trans hc;have HZ:=hide hz;clear hc hz;go_enter Tryz.func67,Tryz.ntmps67;go_wp2_with (first | (show wpList _ _ _ (Oper.mk _ (Op.load _ (Operand.global _)) _ _ _ _::_) _ _;refine wpList_load_row rfl _ _ rfl 0 rfl t cs fr _ (unhide HZ) Tryz.underlying128 rfl (by rw[hsz];exact info_roles) ?_) | go_in)
 clear hmm;go_loopg [6] 33 (fun g i wr=>∃(k:Nat),k+g=33/\i=.int .i64 k/\Below w.heap.size w wr/\MapI wr w.heap.size (fun kd=>(roleIx k kd).map fun i=>.agg (roleV i)))
 case atStart=>exact⟨0,by omega,rfl,(Below.refl _ _).alloc (Nat.le_refl _) _,MapI.made w⟩
 case round=>
  obtain⟨k,hk,rfl,hb,hM⟩:=hrel;by_cases hlt:k<33
  ·have hix:=run_index_role (unhide HCS) wr k hlt;have HN:Hid (roleIx k (roleAt k).kind=none):=roleIx_new k hlt;have HMS:Hid (∀ kd,(roleIx (k+1) kd).map (fun i=>Value.agg (roleV i))=if kd=(roleAt k).kind then some (.agg (roleV k))else(roleIx k kd).map fun i=>.agg (roleV i)):=fun kd=>by
    show(if kd=(roleAt k).kind then some k else roleIx k kd).map _=_;split<;>rfl
   have hV:roleV k=#[.int .i64 (roleAt k).kind,.int .i64 (roleAt k).u,.int .i64 (roleAt k).r0,.int .i64 (roleAt k).r1,.int .i64 (roleAt k).k0,.int .i64 (roleAt k).k1]:=rfl;rw[hV]at hix HMS;clear hV;generalize roleAt k=ro at *;obtain⟨kd,u,r0,r1,k0,k1⟩:=ro;simp only at *;have HM:=hide hM;clear hM;have hbs:=hb.size;obtain⟨w1,hrun,hM1,hg1⟩:=MapI.put (P:=Tryz.prog) ((unhide HM).block (Below.heap_alloc wr (.cells #[.int .i64 kd,.int .i64 u,.int .i64 r0,.int .i64 r1,.int .i64 k0,.int .i64 k1] 106) _ (unhide HM).lt)) Tryz.underlying103 Tryz.underlying3 kd (.agg #[.int .i64 kd,.int .i64 u,.int .i64 r0,.int .i64 r1,.int .i64 k0,.int .i64 k1]) (by rw[unhide HN];rfl);have HM1:=hide hM1;have HG1:=hide hg1;clear hM1 hg1;go_wp2_with fail
   go_roundg (33-(k+1))
   case measure=>omega
   case rel=>
    refine⟨k+1,by omega,by go_num,?_,(unhide HM1).congr (fun j=>unhide HMS j)⟩;exact(hb.alloc hb.size _).grown (unhide HG1) (by simp;omega) (fun j hj=>by cases hj;exact Nat.le_refl _)
  ·obtain rfl:k=33:=by omega
   go_wp2_with fail
   go_ret;exact⟨_,rfl,hM,Nat.le_refl _,hb⟩
attribute [local go_sem] run_store_float
def nodeFits (ns:List NodeD)(p:Nat):Bool:=match roleIx 33 (nd ns p).kind with
 | none=>false
 | some i=>roleFitsD (nd ns p) (roleAt i).u (roleAt i).r0 (roleAt i).r1 (roleAt i).k0 (roleAt i).k1&&kidsFits ns p
theorem roleAt_u:∀ i,i<33->(roleAt i).u<=8:=by decide
structure NodeW (w:World)(a:Option Addr)(nl c bm:Nat)(wr:World):Prop where
 box:Box2 w a nl c wr
 m:MapI wr bm (fun kd=>(roleIx 33 kd).map fun i=>.agg (roleV i))
section
variable {w:World} {a:Option Addr} {nl c bm:Nat} {wr w2:World}
theorem NodeW.alloc (h:NodeW w a nl c bm wr)(o:Obj):NodeW w a nl c bm (wr.alloc o):=⟨h.box.alloc o,h.m.block (Below.heap_alloc wr o _ h.m.lt)⟩
theorem NodeW.drew (h:NodeW w a nl c bm wr):NodeW w a nl c bm wr.drew:=⟨h.box.drew,h.m⟩
theorem NodeW.below (h:NodeW w a nl c bm wr)(hb:Below wr.heap.size wr w2):NodeW w a nl c bm w2:=⟨h.box.below' hb,h.m.keep hb h.m.lt⟩
end
theorem checkNodes_any (a:Option Addr)(l:List FnD)(c:Nat)(S:Nat->Prop)(w:World)(hG:GTab w)(hs:FnsAt w S a l)(hB:∀ b,S b->b<w.heap.size)(hl:tFns l<=1048576) :
  Calls Tryz.prog 49 #[.agg #[.slice a l.length c]] w fun e w'=>∃ x f n:Int,e=.returned (.agg #[.int .i64 x,.int .i64 f,.int .i64 n]) /\
   ((x=3/\∃ F P:Nat,f=F/\n=P/\First l (fun f p=>!nodeFits (fnD l f).nodes p) F P)\/(x=0/\f=0/\n=0/\NoBad l (fun f p=>!nodeFits (fnD l f).nodes p)))/\Below w.heap.size w w':=by
 have hn:=hs.1;have hll:l.length<=1048576:=by unfold tFns at hl;omega
 have HEL:Hid (∀ f p,f<l.length->p<(fnD l f).nodes.length->(fnD l f).nodes.length<=1048576/\(nd (fnD l f).nodes p).refs.length<=1048576/\(nd (fnD l f).nodes p).kids.length<=1048576):=fun f p hf hp=>by
  have h1:=sumTo_succ tFn l f FnD.z hf;have h2:=sumTo_le tFn l (f+1);have h1:sumTo tFn l (f+1)=sumTo tFn l f+tFn (fnD l f):=h1;have h3:=sumTo_succ tNode (fnD l f).nodes p NodeD.z hp;have h3:sumTo tNode (fnD l f).nodes (p+1)=sumTo tNode (fnD l f).nodes p+tNode (nd (fnD l f).nodes p):=h3;have h4:=sumTo_le tNode (fnD l f).nodes (p+1);unfold tFns at hl;unfold tFn tNodes at h1;unfold tNode at h3;have e:sumAll tFn l=sumAll tFn l:=rfl;unfold tFn tNodes at h2 hl;unfold tNode at h4;refine⟨?_,?_,?_⟩<;>first | omega | (unfold tNode at h1 h2 hl;omega)
 clear hl;have HS:=hide hs;have HB:=hide hB;have X0:Hid (Box2 w a l.length c (box2 w a l.length c)):=Box2.start w a l.length c;have RB:Hid (Calls Tryz.prog 67 #[] (box2 w a l.length c) fun e w'=>∃ b,e=.returned (.map (some b))/\MapI w' b (fun kd=>(roleIx 33 kd).map fun i=>.agg (roleV i))/\(box2 w a l.length c).heap.size<=b/\Below (box2 w a l.length c).heap.size (box2 w a l.length c) w'):=rolesByKind_any _ (hG.keep (box2_below w a l.length c) hG.pos);clear hs hB hG;go_enter Tryz.func49,Tryz.ntmps49;go_wp2_with fail
 refine(unhide RB).mono ?_;rintro e w1 ⟨bm,rfl,hM1,hbm,hb1⟩;have W0:Hid (NodeW w a l.length c bm w1):=⟨(unhide X0).below' hb1,hM1⟩;have u1:=(unhide W0).box.unit;clear hM1 hbm hb1 RB X0;go_wp2_with fail
 go_loopg [14] l.length (fun g i wr=>∃(k:Nat),k+g=l.length/\i=.int .i64 k/\NodeW w a l.length c bm wr/\Hid (∀ f' p',f'<k->p'<(fnD l f').nodes.length->nodeFits (fnD l f').nodes p'=true))
 case atStart=>exact⟨0,by omega,rfl,unhide W0,fun f' p' h=>absurd h (Nat.not_lt_zero _)⟩
 case round=>
  clear u1 W0;obtain⟨f,hk,rfl,hw,hgood⟩:=hrel;have hx:=hw.box;have u0:=hx.unit;by_cases hlt:f<l.length
  ·obtain⟨b,off,rfl,hb,hcc⟩:=((unhide HS).keep hx.old (unhide HB)).2 (by omega);have N:FnCells wr S b (off+f * 7) (fnD l f):=hcc f hlt;have HE2:Hid (∀ p,p<(fnD l f).nodes.length->(fnD l f).nodes.length<=1048576/\(nd (fnD l f).nodes p).refs.length<=1048576/\(nd (fnD l f).nodes p).kids.length<=1048576):=fun p hp=>unhide HEL f p hlt hp;have FIN1:Hid ((∀ p,p<(fnD l f).nodes.length->nodeFits (fnD l f).nodes p=true)->∀ f' p',f'<f+1->p'<(fnD l f').nodes.length->nodeFits (fnD l f').nodes p'=true):=fun h f' p' h1 h2=>by
    by_cases e:f'=f
    ·subst e;exact h p' h2
    ·exact hgood.out f' p' (by omega) h2
   have FIN2:Hid (∀ p,p<(fnD l f).nodes.length->nodeFits (fnD l f).nodes p=false->(∀ q,q<p->nodeFits (fnD l f).nodes q=true)->First l (fun f p=>!nodeFits (fnD l f).nodes p) f p):=fun p hp h1 h2=>
    ⟨hlt,hp,by simp only;rw[h1];rfl,fun f' p' g1 g2 g3=>by
     simp only;rcases g3 with g3 | ⟨rfl,g3⟩
     ·rw[hgood.out f' p' g3 g2];rfl
     ·rw[h2 p' g3];rfl⟩
   clear hcc hgood;generalize fnD l f=x at *;obtain⟨va,vc,hv,hvI⟩:=N.vars;obtain⟨ua,uc,hu,huI⟩:=N.ups;obtain⟨na,nc,hno,hnI⟩:=N.nodes;have c0:=N.name;have c1:=N.line;have c2:=N.params;have c3:=N.rest;have NN:=hide hnI;have hnl:=hnI.1;have HBr:Hid (∀ b,S b->b<wr.heap.size):=fun b h=>Nat.lt_of_lt_of_le (unhide HB b h) hx.old.size;have sz:=hx.size;obtain⟨nm,ln,pr,rs,vars,ups,ns⟩:=x;simp only at *;clear N hvI huI hnI;obtain⟨wo,rfl⟩:∃ wo,wo=wr:=⟨wr,rfl⟩;have P0:Hid (∀ W,Below (wo.heap.size+1) (wo.alloc (.cells #[.string nm,.int .i64 ln,.int .i64 pr,.bool rs,.slice va vars.length vc,.slice ua ups.length uc,.slice na ns.length nc] 54)) W->NodeW w (some ⟨b,off,none⟩) l.length c bm W/\W.cell? ⟨wo.heap.size,6,none⟩=some (.slice na ns.length nc)/\Below wo.heap.size wo W):=fun W hW=>
    ⟨(hw.alloc (.cells #[.string nm,.int .i64 ln,.int .i64 pr,.bool rs,.slice va vars.length vc,.slice ua ups.length uc,.slice na ns.length nc] 54)).below (by simpa using hW),by rw[hW.cell (p:=⟨wo.heap.size,6,none⟩) (by simp)];simp[go_sem],((Below.refl _ _).alloc (Nat.le_refl _) _).trans (hW.mono (by omega))⟩
   clear hw hx;go_wp2_with fail
   clear hv hu hno c0 c1 c2 c3 u0;go_loopg [22] ns.length (fun g i wr=>∃(k:Nat),k+g=ns.length/\i=.int .i64 k/\Below (wo.heap.size+1) (wo.alloc (.cells #[.string nm,.int .i64 ln,.int .i64 pr,.bool rs,.slice va vars.length vc,.slice ua ups.length uc,.slice na ns.length nc] 54)) wr/\Hid (∀ p,p<k->nodeFits ns p=true))
   case atStart=>exact⟨0,by omega,rfl,Below.refl _ _,fun p h=>absurd h (Nat.not_lt_zero _)⟩
   case round=>
    obtain⟨p,hp,rfl,hW,hok⟩:=hrel;obtain⟨hw,f6,hold⟩:=unhide P0 wr hW;have hx:=hw.box;have szr:wo.heap.size+1<=wr.heap.size:=by have:=hW.size;simpa using this
    by_cases hpl:p<ns.length
    ·skip
     obtain⟨bn,offn,rfl,hbn,hcn⟩:=((unhide NN).keep hold (unhide HBr)).2 (by omega);have M:NodeCells wr S bn (offn+p * 8) (nd ns p):=hcn p hpl;clear hcn;obtain⟨ra,rc,hr,hrI⟩:=M.refs;obtain⟨ka,kc,hkk,hkI⟩:=M.kids;have c0:=M.kind;have c1:=M.line;have c2:=M.op;have c3:=M.num;have c4:=M.flt;have c5:=M.str;have hsl:=M.strs;obtain⟨hnn,hrl,hkl⟩:=unhide HE2 p hpl;clear M hrI hkI;have HT:Hid (nodeFits ns p=true->∀ q,q<p+1->nodeFits ns q=true):=fun h q hq=>by
      by_cases e:q=p
      ·subst e;exact h
      ·exact hok.out q (by omega)
     have HF:Hid (nodeFits ns p=false->First l (fun f p=>!nodeFits (fnD l f).nodes p) f p):=fun h=>unhide FIN2 p hpl h hok.out;have KF:Hid (∀ W:World,Below wo.heap.size wo W->Calls Tryz.prog 69 #[.slice (some ⟨bn,offn,none⟩) ns.length nc,.int .i64 p] W fun e w'=>e=.returned (.bool (kidsFits ns p))/\Below W.heap.size W w'):=fun W hW0=>kidsFit_any _ ns nc p S W ((unhide NN).keep hW0 (unhide HBr)) (fun b h=>Nat.lt_of_lt_of_le (unhide HBr b h) hW0.size) hpl hkl;have RF:Hid (∀(kd:Int) (u r0 r1 k0 k1:Nat) (W:World),u<=8->Calls Tryz.prog 68 #[.agg #[.int .i64 (nd ns p).kind,.int .i64 (nd ns p).line,.int .i64 (nd ns p).op,.int .i64 (nd ns p).num,.float .f64 (nd ns p).flt,.string (nd ns p).str,.slice ra (nd ns p).refs.length rc,.slice ka (nd ns p).kids.length kc],.agg #[.int .i64 kd,.int .i64 u,.int .i64 r0,.int .i64 r1,.int .i64 k0,.int .i64 k1]] W fun e w'=>e=.returned (.bool (roleFitsD (nd ns p) u r0 r1 k0 k1))/\Below W.heap.size W w'):=fun kd u r0 r1 k0 k1 W hu=>roleFits_any (nd ns p) ra ka rc kc kd u r0 r1 k0 k1 W hu hkl hrl hsl;have NFE:Hid (nodeFits ns p=match roleIx 33 (nd ns p).kind with | none=>false | some i=>roleFitsD (nd ns p) (roleAt i).u (roleAt i).r0 (roleAt i).r1 (roleAt i).k0 (roleAt i).k1&&kidsFits ns p):=rfl;have HWW:=hide hW;have LK:Hid (∀ o,(Instr.lookup 103 (.map (some bm)) (.int .i64 (nd ns p).kind) true).run Tryz.prog (wr.alloc o)=.ok (.tuple #[((roleIx 33 (nd ns p).kind).map fun i=>Value.agg (roleV i)).getD (.agg #[.int .i64 0,.int .i64 0,.int .i64 0,.int .i64 0,.int .i64 0,.int .i64 0]),.bool ((roleIx 33 (nd ns p).kind).map fun i=>Value.agg (roleV i)).isSome]) (wr.alloc o)):=fun o=>(hw.alloc o).m.look Tryz.underlying103 Tryz.underlying3 (zero_role _) _ true;have hws:w.heap.size+2<=wr.heap.size:=hx.size;have HXW:=hide hx;clear hx hw hW hok hold;cases hri:roleIx 33 (nd ns p).kind with
     | none=>
      have NF:Hid (nodeFits ns p=false):=by show _=_;rw[NFE.out,hri]
      rw[hri]at LK;generalize nd ns p=y at *;obtain⟨kind,line,op,num,flt,str,refs,kids⟩:=y;simp only at *;have lk:(Instr.lookup 103 (.map (some bm)) (.int .i64 kind) true).run Tryz.prog (wr.alloc (.cells #[.int .i64 kind,.int .i64 line,.int .i64 op,.int .i64 num,.float .f64 flt,.string str,.slice ra refs.length rc,.slice ka kids.length kc] 58))=.ok (.tuple #[.agg #[.int .i64 0,.int .i64 0,.int .i64 0,.int .i64 0,.int .i64 0,.int .i64 0],.bool false]) (wr.alloc (.cells #[.int .i64 kind,.int .i64 line,.int .i64 op,.int .i64 num,.float .f64 flt,.string str,.slice ra refs.length rc,.slice ka kids.length kc] 58)):=unhide LK _;have hx2:=unhide HXW;have r0:=hx2.res 0 (by omega);have r1:=hx2.res 1 (by omega);have r2:=hx2.res 2 (by omega);have z0:=hx2.frozen 0;have z1:=hx2.frozen 1;have z2:=hx2.frozen 2;have BB:Hid (∀ v0 v1 v2,Below w.heap.size w (((wr.setCell ⟨w.heap.size+1,0,none⟩ v0).setCell ⟨w.heap.size+1,1,none⟩ v1).setCell ⟨w.heap.size+1,2,none⟩ v2)):=fun v0 v1 v2=>box2_set3 hx2 v0 v1 v2;have hw1:w.heap.size+1<wr.heap.size:=by omega
      have hw2:w.heap.size+1<wr.heap.size+1:=by omega
      have hw3:w.heap.size+1<wr.heap.size+1+1:=by omega
      clear RF KF NFE hri;go_wp2_with fail
      refine bodyPost_ret (v:=.agg #[.int .i64 3,.int .i64 f,.int .i64 p]) (by simp[results,Tryz.results49,go_sem,r0,r1,r2,hw1,hw2]) rfl ⟨3,f,p,rfl,.inl ⟨rfl,f,p,rfl,rfl,unhide HF NF.out⟩,((BB.out _ _ _).alloc (by simp;omega) _).alloc (by simp;omega) _⟩
     | some i=>
      obtain⟨hi33,hki⟩:=roleIx_lt 33 _ i hri;have hu8:=roleAt_u i hi33;have NFI:Hid (nodeFits ns p=(roleFitsD (nd ns p) (roleAt i).u (roleAt i).r0 (roleAt i).r1 (roleAt i).k0 (roleAt i).k1&&kidsFits ns p)):=by show _=_;rw[NFE.out,hri]
      rw[hri]at LK;have LK:Hid (∀ o,(Instr.lookup 103 (.map (some bm)) (.int .i64 (nd ns p).kind) true).run Tryz.prog (wr.alloc o)=.ok (.tuple #[.agg #[.int .i64 (roleAt i).kind,.int .i64 (roleAt i).u,.int .i64 (roleAt i).r0,.int .i64 (roleAt i).r1,.int .i64 (roleAt i).k0,.int .i64 (roleAt i).k1],.bool true]) (wr.alloc o)):=LK;clear NFE hri hki hi33;have RF:Hid (∀ W:World,Calls Tryz.prog 68 #[.agg #[.int .i64 (nd ns p).kind,.int .i64 (nd ns p).line,.int .i64 (nd ns p).op,.int .i64 (nd ns p).num,.float .f64 (nd ns p).flt,.string (nd ns p).str,.slice ra (nd ns p).refs.length rc,.slice ka (nd ns p).kids.length kc],.agg #[.int .i64 (roleAt i).kind,.int .i64 (roleAt i).u,.int .i64 (roleAt i).r0,.int .i64 (roleAt i).r1,.int .i64 (roleAt i).k0,.int .i64 (roleAt i).k1]] W fun e w'=>e=.returned (.bool (roleFitsD (nd ns p) (roleAt i).u (roleAt i).r0 (roleAt i).r1 (roleAt i).k0 (roleAt i).k1))/\Below W.heap.size W w'):=fun W=>unhide RF _ _ _ _ _ _ W hu8;generalize roleAt i=ro at *;obtain⟨kd,u,r0,r1,k0,k1⟩:=ro;generalize nd ns p=y at *;generalize roleFitsD y u r0 r1 k0 k1=rf at *;obtain⟨kind,line,op,num,flt,str,refs,kids⟩:=y;simp only at *;have RF2:Hid (∀ W:World,Calls Tryz.prog 68 #[.agg #[.int .i64 kind,.int .i64 line,.int .i64 op,.int .i64 num,.float .f64 flt,.string str,.slice ra refs.length rc,.slice ka kids.length kc],.agg #[.int .i64 kd,.int .i64 u,.int .i64 r0,.int .i64 r1,.int .i64 k0,.int .i64 k1]] W fun e w'=>e=.returned (.bool rf)/\Below W.heap.size W w'):=RF;have lk:(Instr.lookup 103 (.map (some bm)) (.int .i64 kind) true).run Tryz.prog (wr.alloc (.cells #[.int .i64 kind,.int .i64 line,.int .i64 op,.int .i64 num,.float .f64 flt,.string str,.slice ra refs.length rc,.slice ka kids.length kc] 58))=.ok (.tuple #[.agg #[.int .i64 kd,.int .i64 u,.int .i64 r0,.int .i64 r1,.int .i64 k0,.int .i64 k1],.bool true]) (wr.alloc (.cells #[.int .i64 kind,.int .i64 line,.int .i64 op,.int .i64 num,.float .f64 flt,.string str,.slice ra refs.length rc,.slice ka kids.length kc] 58)):=unhide LK _;have CONT:Hid (∀ W,Below ((wr.alloc (.cells #[.int .i64 kind,.int .i64 line,.int .i64 op,.int .i64 num,.float .f64 flt,.string str,.slice ra refs.length rc,.slice ka kids.length kc] 58)).alloc (.cells #[.int .i64 kd,.int .i64 u,.int .i64 r0,.int .i64 r1,.int .i64 k0,.int .i64 k1] 106)).heap.size ((wr.alloc (.cells #[.int .i64 kind,.int .i64 line,.int .i64 op,.int .i64 num,.float .f64 flt,.string str,.slice ra refs.length rc,.slice ka kids.length kc] 58)).alloc (.cells #[.int .i64 kd,.int .i64 u,.int .i64 r0,.int .i64 r1,.int .i64 k0,.int .i64 k1] 106)) W->Below (wo.heap.size+1) (wo.alloc (.cells #[.string nm,.int .i64 ln,.int .i64 pr,.bool rs,.slice va vars.length vc,.slice ua ups.length uc,.slice (some ⟨bn,offn,none⟩) ns.length nc] 54)) W):=fun W hW=>(((unhide HWW).alloc (by omega) (.cells #[.int .i64 kind,.int .i64 line,.int .i64 op,.int .i64 num,.float .f64 flt,.string str,.slice ra refs.length rc,.slice ka kids.length kc] 58)).alloc (by simp;omega) (.cells #[.int .i64 kd,.int .i64 u,.int .i64 r0,.int .i64 r1,.int .i64 k0,.int .i64 k1] 106)).trans (hW.mono (by simp;omega));clear RF;cases rf
      ·have NF:Hid (nodeFits ns p=false):=NFI.out;go_wp2_with fail
       refine(unhide RF2 _).mono ?_;rintro e w2 ⟨rfl,hb2⟩;have hx2:Box2 w (some ⟨b,off,none⟩) l.length c w2:=(unhide P0 w2 (unhide CONT w2 hb2)).1.box;have r0:=hx2.res 0 (by omega);have r1:=hx2.res 1 (by omega);have r2:=hx2.res 2 (by omega);have z0:=hx2.frozen 0;have z1:=hx2.frozen 1;have z2:=hx2.frozen 2;have BB:Hid (∀ v0 v1 v2,Below w.heap.size w (((w2.setCell ⟨w.heap.size+1,0,none⟩ v0).setCell ⟨w.heap.size+1,1,none⟩ v1).setCell ⟨w.heap.size+1,2,none⟩ v2)):=fun v0 v1 v2=>box2_set3 hx2 v0 v1 v2;clear hb2;go_wp2_with fail
       refine bodyPost_ret (v:=.agg #[.int .i64 3,.int .i64 f,.int .i64 p]) (by simp[results,Tryz.results49,go_sem,r0,r1,r2]) rfl ⟨3,f,p,rfl,.inl ⟨rfl,f,p,rfl,rfl,unhide HF NF.out⟩,BB.out _ _ _⟩
      ·have NFK:Hid (nodeFits ns p=kidsFits ns p):=NFI.out;cases hkf:kidsFits ns p
       ·have NF:Hid (nodeFits ns p=false):=NFK.out.trans hkf;rw[hkf]at KF;go_wp2_with fail
        refine(unhide RF2 _).mono ?_;rintro e w2 ⟨rfl,hb2⟩;obtain⟨hwn2,f62,hold2⟩:=unhide P0 w2 (unhide CONT w2 hb2);have HB2:=hide (unhide CONT w2 hb2);have szw2:wo.heap.size+1<=w2.heap.size:=by have:=(unhide HB2).size;simpa using this
        have KF2:=hide (unhide KF w2 hold2);clear hb2 hwn2 hold2 KF;go_wp2_with fail
        refine(unhide KF2).mono ?_;rintro e w3 ⟨rfl,hb3⟩;have hx2:Box2 w (some ⟨b,off,none⟩) l.length c w3:=(unhide P0 w3 ((unhide HB2).trans (hb3.mono szw2))).1.box;have r0:=hx2.res 0 (by omega);have r1:=hx2.res 1 (by omega);have r2:=hx2.res 2 (by omega);have z0:=hx2.frozen 0;have z1:=hx2.frozen 1;have z2:=hx2.frozen 2;have BB:Hid (∀ v0 v1 v2,Below w.heap.size w (((w3.setCell ⟨w.heap.size+1,0,none⟩ v0).setCell ⟨w.heap.size+1,1,none⟩ v1).setCell ⟨w.heap.size+1,2,none⟩ v2)):=fun v0 v1 v2=>box2_set3 hx2 v0 v1 v2;clear hb3;go_wp2_with fail
        refine bodyPost_ret (v:=.agg #[.int .i64 3,.int .i64 f,.int .i64 p]) (by simp[results,Tryz.results49,go_sem,r0,r1,r2]) rfl ⟨3,f,p,rfl,.inl ⟨rfl,f,p,rfl,rfl,unhide HF NF.out⟩,BB.out _ _ _⟩
       ·have NF:Hid (nodeFits ns p=true):=NFK.out.trans hkf;rw[hkf]at KF;go_wp2_with fail
        refine(unhide RF2 _).mono ?_;rintro e w2 ⟨rfl,hb2⟩;obtain⟨hwn2,f62,hold2⟩:=unhide P0 w2 (unhide CONT w2 hb2);have HB2:=hide (unhide CONT w2 hb2);have szw2:wo.heap.size+1<=w2.heap.size:=by have:=(unhide HB2).size;simpa using this
        have KF2:=hide (unhide KF w2 hold2);clear hb2 hwn2 hold2 KF;go_wp2_with fail
        refine(unhide KF2).mono ?_;rintro e w3 ⟨rfl,hb3⟩;have HB3:=hide ((unhide HB2).trans (hb3.mono szw2));clear hb3;go_wp2_with fail
        go_roundg (ns.length-(p+1))
        case measure=>omega
        case rel=>exact⟨p+1,by omega,by go_num,unhide HB3,unhide HT NF.out⟩
    ·go_wp2_with fail
     go_roundg (l.length-(f+1))
     case measure=>omega
     case rel=>exact⟨f+1,by omega,by go_num,hw,unhide FIN1 (fun p' hp'=>hok.out p' (by omega))⟩
  ·have HH:Hid (NoBad l (fun f p=>!nodeFits (fnD l f).nodes p)):=fun f' p' h1 h2=>by simp only;rw[hgood.out f' p' (by omega) h2];rfl
   have r0:=hx.res 0 (by omega);have r1:=hx.res 1 (by omega);have r2:=hx.res 2 (by omega);have z0:=hx.frozen 0;have z1:=hx.frozen 1;have z2:=hx.frozen 2;have BB:Hid (∀ v0 v1 v2,Below w.heap.size w (((wr.setCell ⟨w.heap.size+1,0,none⟩ v0).setCell ⟨w.heap.size+1,1,none⟩ v1).setCell ⟨w.heap.size+1,2,none⟩ v2)):=fun v0 v1 v2=>box2_set3 hx v0 v1 v2;go_wp2_with fail
   refine bodyPost_ret (v:=.agg #[.int .i64 0,.int .i64 0,.int .i64 0]) (by simp[results,Tryz.results49,go_sem,r0,r1,r2]) rfl ⟨0,0,0,rfl,.inr ⟨rfl,rfl,rfl,unhide HH⟩,BB.out _ _ _⟩
end Go.Proofs.YtofcbekoaghikaaGreatDoor
