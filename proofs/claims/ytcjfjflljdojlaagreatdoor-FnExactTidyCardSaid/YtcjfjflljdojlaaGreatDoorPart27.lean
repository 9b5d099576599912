import Derived.Test.YtcjfjflljdojlaaGreatDoorPart26
set_option linter.unusedSimpArgs false
set_option linter.unusedVariables false
set_option maxHeartbeats 6000000
set_option maxRecDepth 100000
namespace Go.Proofs.YtcjfjflljdojlaaGreatDoor
open Go.RowKit
theorem qd (l:List bg):(l.flatMap qg).length=l.length * 3:=by
 induction l with
 | nil=>rfl
 | cons a l ih=>rw[List.flatMap_cons,List.length_append,ih];simp[qg];omega
theorem E0 (l:List bg)(j i:Nat)(hj:j<l.length)(hi:i<3):(l.flatMap qg)[j * 3+i]? = (qg (l[j]?.getD bg.z))[i]?:=by
 induction l generalizing j with
 | nil=>exact absurd hj (Nat.not_lt_zero _)
 | cons a l ih=>
  rw[List.flatMap_cons];cases j with
  | zero=>
   rw[List.getElem?_append_left (by simp[qg];omega)];simp
  | succ j=>
   rw[List.getElem?_append_right (by simp[qg];omega)];have e:(j+1) * 3+i-(qg a).length=j * 3+i:=by simp[qg];omega
   rw[e,ih j (by simpa using hj)];simp
theorem Jf (l:List bg)(m:Nat):(l.flatMap qg).take (m * 3)=(l.take m).flatMap qg:=by
 induction l generalizing m with
 | nil=>simp
 | cons a l ih=>
  cases m with
  | zero=>simp
  | succ m=>
   rw[List.take_succ_cons,List.flatMap_cons,List.flatMap_cons,<-ih m,List.take_append];have e:(m+1) * 3-(qg a).length=m * 3:=by simp[qg];omega
   rw[e,List.take_of_length_le (by simp[qg];omega)]
theorem Nj (l:List bg)(j:Nat)(x:Int)(hj:j<l.length):(l.flatMap qg).set (j * 3+1) (i_ x)=(l.set j { l[j]?.getD bg.z with keep:=x }).flatMap qg:=by
 induction l generalizing j with
 | nil=>exact absurd hj (Nat.not_lt_zero _)
 | cons a l ih=>
  cases j with
  | zero=>simp[qg]
  | succ j=>
   rw[List.flatMap_cons,List.set_append_right _ _ (by simp[qg];omega)];have e:(j+1) * 3+1-(qg a).length=j * 3+1:=by simp[qg];omega
   rw[e,ih j (by simpa using hj)];simp
section
variable {w w':World} {base base':Nat} {v:Value} {t:List bg}
theorem cn.lenV (h:cn w base v t):∃ a c,v=.slice a t.length c:=by
 rcases h.2 with⟨rfl,h0⟩ | ⟨g,cap,gi,rfl,_⟩
 ·rw[h0];exact⟨none,0,rfl⟩
 ·exact⟨_,_,rfl⟩
theorem cn.at (h:cn w base v t)(h0:0<t.length):∃ g cap,v=.slice (some (a_ g 0)) t.length cap/\base<=g/\g<w.heap.size/\t.length<=cap/\∀ j,j<t.length->n7 w g (j * 3) (t[j]?.getD bg.z):=by
 rcases h.2 with⟨_,h1⟩ | ⟨g,cap,gi,rfl,hb,hg,pw,h2⟩
 ·omega
 ·refine⟨g,cap,rfl,hb,(Array.getElem?_eq_some_iff.1 hg).1,pw,fun j hj=>?_⟩;have h3:∀ i,i<3->w.cell? (a_ g (j * 3+i))=(qg (t[j]?.getD bg.z))[i]?:=fun i hi=>by
   rw[World.ownsRow.cellAt h (j * 3+i) (by omega),E0 t j i hj hi]
  exact⟨h3 0 (by omega),h3 1 (by omega),h3 2 (by omega)⟩
theorem cn.below (h:cn w base v t)(hb:b_ w w'):cn w' base v t:=by
 refine⟨h.1,?_⟩;rcases h.2 with hn | ⟨g,cap,gi,rfl,h1,hg,h2⟩
 ·exact .inl hn
 ·exact .inr ⟨g,cap,gi,rfl,h1,(hb.block g (Array.getElem?_eq_some_iff.1 hg).1).trans hg,h2⟩
theorem cn.base_le (h:cn w base v t)(hb:base'<=base):cn w base' v t:=by
 refine⟨h.1,?_⟩;rcases h.2 with hn | ⟨g,cap,gi,rfl,h1,h2⟩
 ·exact .inl hn
 ·exact .inr ⟨g,cap,gi,rfl,Nat.le_trans hb h1,h2⟩
theorem cn.alloc (h:cn w base v t)(o:Obj):cn (w.alloc o) base v t:=World.ownsRow.alloc h o
theorem cn.take {g n cap:Nat}(h:cn w base (.slice (some (a_ g 0)) n cap) t)(hn:n=t.length)(m:Nat)(hm:m<=t.length):cn w base (.slice (some (a_ g 0)) m cap) (t.take m):=by
 aj hn
 have hl:(t.take m).length=m:=by simp;omega
 refine⟨by rw[qd,hl],?_⟩;rcases h.2 with⟨h',_⟩ | ⟨g',iM,gi,h',hb,hg,hnc,hcm,Ip,U3⟩
 ·simp at h'
 ·simp only[Value.slice.injEq,Option.some.injEq,Addr.mk.injEq,and_true,true_and]at h';obtain⟨rfl,rfl⟩:=h';refine .inr ⟨g,cap,gi,by rw[hl],hb,hg,by omega,hcm,Ip,?_⟩;rw[hl,<-Jf,<-U3,List.take_take]
  congr 1
  omega
theorem cn.setKeep {g n cap:Nat}(h:cn w base (.slice (some (a_ g 0)) n cap) t)(hn:n=t.length)(j:Nat)(x:Int)(hj:j<t.length):cn (w.setCell (a_ g (j * 3+1)) (i_ x)) base (.slice (some (a_ g 0)) n cap) (t.set j { t[j]?.getD bg.z with keep:=x }):=by
 aj hn
 have h2:=(World.ownsRow.stored h (j * 3+1) (i_ x)).1;unfold cn;rw[List.length_set,<-Nj t j x hj];exact h2
theorem cn.frozen {g n cap:Nat}(h:cn w base (.slice (some (a_ g 0)) n cap) t)(hn:n=t.length)(j:Nat):w.frozen? (a_ g j)=false:=by
 aj hn
 exact World.ownsRow.frozenAt h j
end
def jU (n:aA)(g:List bg)(w:World)(e:Ending)(w':World):Prop:=
 ∃(v:Value) (r:Bool),e=.returned (.tuple #[v,.bool r])/\(r=true->∃ g',aQ n g=some g'/\cn w' w.heap.size v g')/\(r=false->aQ n g=none)/\b_ w w'
theorem lp {n:aA}{g:List bg}{w w':World}{v:Value}(h:aQ n g=none)(hb:b_ w w'):jU n g w (.returned (.tuple #[v,.bool false])) w':=⟨v,false,rfl,fun h=>Bool.noConfusion h,fun _=>h,hb⟩
theorem oR {n:aA}{g g':List bg}{w w':World}{v:Value}(h:aQ n g=some g')(ho:cn w' w.heap.size v g')(hb:b_ w w'):jU n g w (.returned (.tuple #[v,.bool true])) w':=⟨v,true,rfl,fun _=>⟨g',h,ho⟩,fun h=>Bool.noConfusion h,hb⟩
theorem fB {w w1:World}{op fa fb fc fd:Int}{g:List bg}{v1:Value}(ho:cn w1 (w.alloc (.cells #[i_ op,i_ fa,i_ fb,i_ fc,i_ fd] 51)).heap.size v1 g)(au:Below (w.alloc (.cells #[i_ op,i_ fa,i_ fb,i_ fc,i_ fd] 51)).heap.size (w.alloc (.cells #[i_ op,i_ fa,i_ fb,i_ fc,i_ fd] 51)) w1) :
  w.heap.size<w1.heap.size/\w1.cell? (a_ w.heap.size 0)=some (i_ op)/\w1.cell? (a_ w.heap.size 1)=some (i_ fa)/\w1.cell? (a_ w.heap.size 2)=some (i_ fb)/\Hid (b_ w w1)/\Hid (cn w1 (w.heap.size+1) v1 g)/\∃ av cv,v1=.slice av g.length cv:=by
 obtain⟨cU,fJ⟩:=cz au;refine⟨by have:=au.size;simp at this;omega,by rw[cU _ _ (by simp)];simp[go_sem],by rw[cU _ _ (by simp)];simp[go_sem],by rw[cU _ _ (by simp)];simp[go_sem],(r_.alloc n_ _).trans (au.mono (by simp)),?_,ho.lenV⟩;have h:=ho;rw[show ∀ o,(w.alloc o).heap.size=w.heap.size+1 from fun _=>by simp]at h;exact h
theorem zJ (fa fb fc fd:Int)(g:List bg)(a:o_)(c:Nat)(S:Nat->Prop)(w:World)(hs:bx w S a g)(hB:∀ b,S b->b<w.heap.size)(hl:g.length<=50) :
  c_ 59 #[.agg #[i_ 31,i_ fa,i_ fb,i_ fc,i_ fd],.slice a g.length c] w (jU ⟨31,fa,fb,fc,fd⟩ g w):=by
 have hn:=hs.1;obtain⟨i0,hi,dE,cT,dB⟩:=aN fA;have HS:=af hs;have HB:=af hB;have hA:∀ o,b_ w (w.alloc o):=fun o=>r_.alloc n_ o;have LG:=af (fun W (hW:b_ w W)=>eQ a g c S W (hs.keep hW hB) (fun b h=>l_ (hB b h) hW.size) (by omega));have LA:=af (fun W (hW:b_ w W) (keep:Int)=>gq a g c keep S W (hs.keep hW hB) (fun b h=>l_ (hB b h) hW.size));clear hs hB;have GE:aQ ⟨31,fa,fb,fc,fd⟩ g=if g.length<50/\dS g fb=true then some (g++[⟨true,fb,fa⟩])else none:=rfl;have GY:Hid (g.length<50->dS g fb=true->aQ ⟨31,fa,fb,fc,fd⟩ g=some (g++[⟨true,fb,fa⟩])):=fun h1 h2=>by rw[GE,if_pos ⟨h1,h2⟩]
 have GN:Hid (¬(g.length<50/\dS g fb=true)->aQ ⟨31,fa,fb,fc,fd⟩ g=none):=fun h=>by rw[GE,if_neg h]
 clear GE;go_enter Tryz.func59,Tryz.ntmps59;go_wp2_with fail
 refine(aa LG _ (hA _)).mono ?_;rintro e w1 ⟨v1,rfl,gB,au⟩;obtain⟨jf,j0,j1,j2,dM,fR,av,cv,rfl⟩:=fB gB au;clear au gB;go_wp2_with (first
  | (at_builtin;refine wpList_append_own _ rfl _ _ 95 rfl (w.heap.size+1) 154 i0 (.agg #[.bool false,i_ 0,i_ 0]) 3 24 Tryz.underlying95 hi dE cT dB rfl (by decide) _ _ _ rfl ((aa fR).alloc _) (a_ w1.heap.size 0) 1 1 [.bool true,i_ fb,i_ fa] rfl rfl ?c1 ?c2 ?c3 ?c4 ?c5 ?_)
  | go_in)
 all_goals try (case c1=>
  intro j u hj
  match j,hj with
  | 0,hj=>simp at hj;aj hj;simp[Addr.add,go_sem]
  | 1,hj=>simp at hj;aj hj;simp[Addr.add,go_sem]
  | 2,hj=>simp at hj;aj hj;simp[Addr.add,go_sem]
  | n+3,hj=>simp at hj)
 case c2=>first | (intro u hu;simp at hu;rcases hu with rfl | rfl | rfl<;>rfl) | (simp;done) | rfl
 case c3=>unfold maxLen;omega
 case c4=>omega
 case c5=>simp;omega
 intro v2 w2 hown2 hgrow2 _;have vn:Hid (cn w2 w.heap.size v2 (g++[⟨true,fb,fa⟩])):=(cn.push hown2).base_le (by omega);have fN:Hid (b_ w w2):=((aa dM).alloc (by omega) _).grown hgrow2 (by simp;omega) (fun j hj=>by have:=((aa fR).lt j hj).1;omega);have sr:=hgrow2.size;have abf:w.heap.size<w2.heap.size:=by simp at sr;omega
 have ei:some w.heap.size≠(Value.slice av g.length cv).ownBlock:=fun e=>by have:=((aa fR).lt _ e.symm).1;omega
 have k1:w2.cell? (a_ w.heap.size 1)=some (i_ fa):=hgrow2.cell ((World.cell?_alloc_past _ _ _ (by omega)).trans j1) ei;have k2:w2.cell? (a_ w.heap.size 2)=some (i_ fb):=hgrow2.cell ((World.cell?_alloc_past _ _ _ (by omega)).trans j2) ei;clear hown2 hgrow2 ei j0 j1 j2;by_cases h50:g.length<50
 case neg=>
  have RR:=af (aa GN (fun h=>h50 h.1));have x1:decide ((g.length:Int)<50)=false:=decide_eq_false (by omega);have x1n:decide (g.length<50)=false:=decide_eq_false h50;go_wp2_with fail
  go_ret2
  exact lp RR.out (aa fN)
 have x1:decide ((g.length:Int)<50)=true:=decide_eq_true (by omega);have x1n:decide (g.length<50)=true:=decide_eq_true h50;go_wp2_with fail
 refine(aa LA _ (aa fN) _).mono ?_;rintro e w3 ⟨rfl,bY⟩;have jg:=af ((aa fN).trans (bY.mono (by omega)));have RV:=af ((aa vn).below bY);clear bY;cases tu:dS g fb
 ·have RR:=af (aa GN (fun h=>by rw[tu]at h;exact Bool.noConfusion h.2));clear tu;go_wp2_with fail
  go_ret2
  exact lp RR.out (aa jg)
 ·have RR:=af (aa GY h50 tu);clear tu;go_wp2_with fail
  go_ret2
  exact oR RR.out (aa RV) (aa jg)
theorem AH (fa fb fc fd:Int)(g:List bg)(a:o_)(c:Nat)(S:Nat->Prop)(w:World)(hs:bx w S a g)(hB:∀ b,S b->b<w.heap.size)(hl:g.length<=50) :
  c_ 59 #[.agg #[i_ 33,i_ fa,i_ fb,i_ fc,i_ fd],.slice a g.length c] w (jU ⟨33,fa,fb,fc,fd⟩ g w):=by
 have hn:=hs.1;obtain⟨i0,hi,dE,cT,dB⟩:=aN fA;have HS:=af hs;have HB:=af hB;have hA:∀ o,b_ w (w.alloc o):=fun o=>r_.alloc n_ o;have LG:=af (fun W (hW:b_ w W)=>eQ a g c S W (hs.keep hW hB) (fun b h=>l_ (hB b h) hW.size) (by omega));have LA:=af (fun W (hW:b_ w W) (keep:Int)=>gq a g c keep S W (hs.keep hW hB) (fun b h=>l_ (hB b h) hW.size));clear hs hB;have GE:aQ ⟨33,fa,fb,fc,fd⟩ g=if g.length<50/\dS g fa=true then some (g++[⟨false,fa,0⟩])else none:=rfl;have GY:Hid (g.length<50->dS g fa=true->aQ ⟨33,fa,fb,fc,fd⟩ g=some (g++[⟨false,fa,0⟩])):=fun h1 h2=>by rw[GE,if_pos ⟨h1,h2⟩]
 have GN:Hid (¬(g.length<50/\dS g fa=true)->aQ ⟨33,fa,fb,fc,fd⟩ g=none):=fun h=>by rw[GE,if_neg h]
 clear GE;go_enter Tryz.func59,Tryz.ntmps59;go_wp2_with fail
 refine(aa LG _ (hA _)).mono ?_;rintro e w1 ⟨v1,rfl,gB,au⟩;obtain⟨jf,j0,j1,j2,dM,fR,av,cv,rfl⟩:=fB gB au;clear au gB;go_wp2_with (first
  | (at_builtin;refine wpList_append_own _ rfl _ _ 95 rfl (w.heap.size+1) 154 i0 (.agg #[.bool false,i_ 0,i_ 0]) 3 24 Tryz.underlying95 hi dE cT dB rfl (by decide) _ _ _ rfl ((aa fR).alloc _) (a_ w1.heap.size 0) 1 1 [.bool false,i_ fa,i_ 0] rfl rfl ?c1 ?c2 ?c3 ?c4 ?c5 ?_)
  | go_in)
 all_goals try (case c1=>
  intro j u hj
  match j,hj with
  | 0,hj=>simp at hj;aj hj;simp[Addr.add,go_sem]
  | 1,hj=>simp at hj;aj hj;simp[Addr.add,go_sem]
  | 2,hj=>simp at hj;aj hj;simp[Addr.add,go_sem]
  | n+3,hj=>simp at hj)
 case c2=>first | (intro u hu;simp at hu;rcases hu with rfl | rfl | rfl<;>rfl) | (simp;done) | rfl
 case c3=>unfold maxLen;omega
 case c4=>omega
 case c5=>simp;omega
 intro v2 w2 hown2 hgrow2 _;have vn:Hid (cn w2 w.heap.size v2 (g++[⟨false,fa,0⟩])):=(cn.push hown2).base_le (by omega);have fN:Hid (b_ w w2):=((aa dM).alloc (by omega) _).grown hgrow2 (by simp;omega) (fun j hj=>by have:=((aa fR).lt j hj).1;omega);have sr:=hgrow2.size;have abf:w.heap.size<w2.heap.size:=by simp at sr;omega
 have ei:some w.heap.size≠(Value.slice av g.length cv).ownBlock:=fun e=>by have:=((aa fR).lt _ e.symm).1;omega
 have k1:w2.cell? (a_ w.heap.size 1)=some (i_ fa):=hgrow2.cell ((World.cell?_alloc_past _ _ _ (by omega)).trans j1) ei;have k2:w2.cell? (a_ w.heap.size 2)=some (i_ fb):=hgrow2.cell ((World.cell?_alloc_past _ _ _ (by omega)).trans j2) ei;clear hown2 hgrow2 ei j0 j1 j2;by_cases h50:g.length<50
 case neg=>
  have RR:=af (aa GN (fun h=>h50 h.1));have x1:decide ((g.length:Int)<50)=false:=decide_eq_false (by omega);have x1n:decide (g.length<50)=false:=decide_eq_false h50;go_wp2_with fail
  go_ret2
  exact lp RR.out (aa fN)
 have x1:decide ((g.length:Int)<50)=true:=decide_eq_true (by omega);have x1n:decide (g.length<50)=true:=decide_eq_true h50;go_wp2_with fail
 refine(aa LA _ (aa fN) _).mono ?_;rintro e w3 ⟨rfl,bY⟩;have jg:=af ((aa fN).trans (bY.mono (by omega)));have RV:=af ((aa vn).below bY);clear bY;cases tu:dS g fa
 ·have RR:=af (aa GN (fun h=>by rw[tu]at h;exact Bool.noConfusion h.2));clear tu;go_wp2_with fail
  go_ret2
  exact lp RR.out (aa jg)
 ·have RR:=af (aa GY h50 tu);clear tu;go_wp2_with fail
  go_ret2
  exact oR RR.out (aa RV) (aa jg)
theorem zZ (fa fb fc fd:Int)(g:List bg)(a:o_)(c:Nat)(S:Nat->Prop)(w:World)(hs:bx w S a g)(hB:∀ b,S b->b<w.heap.size)(hl:g.length<=50) :
  c_ 59 #[.agg #[i_ 32,i_ fa,i_ fb,i_ fc,i_ fd],.slice a g.length c] w (jU ⟨32,fa,fb,fc,fd⟩ g w):=by
 have hn:=hs.1;obtain⟨i0,hi,dE,cT,dB⟩:=aN fA;have HS:=af hs;have HB:=af hB;have hA:∀ o,b_ w (w.alloc o):=fun o=>r_.alloc n_ o;have LG:=af (fun W (hW:b_ w W)=>eQ a g c S W (hs.keep hW hB) (fun b h=>l_ (hB b h) hW.size) (by omega));have LA:=af (fun W (hW:b_ w W) (keep:Int)=>gq a g c keep S W (hs.keep hW hB) (fun b h=>l_ (hB b h) hW.size));clear hs hB;have GE:aQ ⟨32,fa,fb,fc,fd⟩ g=if g.length=0\/(g[g.length-1]?.getD bg.z).tr=false then none else some (g.take (g.length-1)):=rfl;by_cases h0:0<g.length
 case neg=>
  have RR:Hid (aQ ⟨32,fa,fb,fc,fd⟩ g=none):=by show _=_;rw[GE,if_pos (.inl (by omega))]
  have x1:((g.length:Int)==0)=true:=by rw[show g.length=0 from by omega];rfl
  clear GE;go_enter Tryz.func59,Tryz.ntmps59;go_wp2_with fail
  refine(aa LG _ (hA _)).mono ?_;rintro e w1 ⟨v1,rfl,gB,au⟩;obtain⟨jf,j0,j1,j2,dM,fR,av,cv,rfl⟩:=fB gB au;clear au gB;go_wp2_with fail
  go_ret2
  exact lp RR.out (aa dM)
 have x1:((g.length:Int)==0)=false:=beq_eq_false_iff_ne.2 (by omega);cases ht:(g[g.length-1]?.getD bg.z).tr
 ·have RR:Hid (aQ ⟨32,fa,fb,fc,fd⟩ g=none):=by show _=_;rw[GE,if_pos (.inr ht)]
  clear GE;go_enter Tryz.func59,Tryz.ntmps59;go_wp2_with fail
  refine(aa LG _ (hA _)).mono ?_;rintro e w1 ⟨v1,rfl,gB,au⟩;obtain⟨jf,j0,j1,j2,dM,fR,-⟩:=fB gB au;clear au gB;obtain⟨gb,cap,hv,If,fm,jP,aE⟩:=(aa fR).at h0;have hl:=aE (g.length-1) (by omega);clear aE
  aj hv
  have r0:=hl.tr;have r1:=hl.keep;have r2:=hl.hand;have z1:=(aa fR).frozen rfl ((g.length-1) * 3+1);clear hl;obtain⟨m,hm⟩:∃ m,g.length=m+1:=⟨g.length-1,by omega⟩;have pm:g.length-1=m:=by omega
  rw[pm]at r0 r1 r2 z1;rw[pm]at ht;rw[ht]at r0;clear ht;go_wp2_with fail
  go_ret2
  exact lp RR.out (aa dM)
 ·skip
  have RR:Hid (aQ ⟨32,fa,fb,fc,fd⟩ g=some (g.take (g.length-1))):=by show _=_;rw[GE,if_neg (by rintro(h | h);omega;rw[ht]at h;exact Bool.noConfusion h)]
  clear GE;go_enter Tryz.func59,Tryz.ntmps59;go_wp2_with fail
  refine(aa LG _ (hA _)).mono ?_;rintro e w1 ⟨v1,rfl,gB,au⟩;obtain⟨jf,j0,j1,j2,dM,fR,-⟩:=fB gB au;clear au gB;obtain⟨gb,cap,hv,If,fm,jP,aE⟩:=(aa fR).at h0;have hl:=aE (g.length-1) (by omega);clear aE
  aj hv
  have r0:=hl.tr;have r1:=hl.keep;have r2:=hl.hand;have z1:=(aa fR).frozen rfl ((g.length-1) * 3+1);clear hl;obtain⟨m,hm⟩:∃ m,g.length=m+1:=⟨g.length-1,by omega⟩;have pm:g.length-1=m:=by omega
  rw[pm]at r0 r1 r2 z1;rw[pm]at ht RR;rw[ht]at r0;clear ht;go_wp2_with fail
  go_ret2
  exact oR RR.out (((aa fR).take rfl m (by omega)).base_le (base':=w.heap.size) (by omega)) (aa dM)
theorem Aw (fa fb fc fd:Int)(g:List bg)(a:o_)(c:Nat)(S:Nat->Prop)(w:World)(hs:bx w S a g)(hB:∀ b,S b->b<w.heap.size)(hl:g.length<=50) :
  c_ 59 #[.agg #[i_ 34,i_ fa,i_ fb,i_ fc,i_ fd],.slice a g.length c] w (jU ⟨34,fa,fb,fc,fd⟩ g w):=by
 have hn:=hs.1;obtain⟨i0,hi,dE,cT,dB⟩:=aN fA;have HS:=af hs;have HB:=af hB;have hA:∀ o,b_ w (w.alloc o):=fun o=>r_.alloc n_ o;have LG:=af (fun W (hW:b_ w W)=>eQ a g c S W (hs.keep hW hB) (fun b h=>l_ (hB b h) hW.size) (by omega));have LA:=af (fun W (hW:b_ w W) (keep:Int)=>gq a g c keep S W (hs.keep hW hB) (fun b h=>l_ (hB b h) hW.size));clear hs hB;have GE:aQ ⟨34,fa,fb,fc,fd⟩ g=if g.length=0\/(g[g.length-1]?.getD bg.z).tr=true\/((34:Int)=34/\dS g fa=false)then none else some (g.set (g.length-1) { g[g.length-1]?.getD bg.z with keep:=fa }):=rfl;by_cases h0:0<g.length
 case neg=>
  have RR:Hid (aQ ⟨34,fa,fb,fc,fd⟩ g=none):=by show _=_;rw[GE,if_pos (.inl (by omega))]
  have x1:((g.length:Int)==0)=true:=by rw[show g.length=0 from by omega];rfl
  clear GE;go_enter Tryz.func59,Tryz.ntmps59;go_wp2_with fail
  refine(aa LG _ (hA _)).mono ?_;rintro e w1 ⟨v1,rfl,gB,au⟩;obtain⟨jf,j0,j1,j2,dM,fR,av,cv,rfl⟩:=fB gB au;clear au gB;go_wp2_with fail
  go_ret2
  exact lp RR.out (aa dM)
 have x1:((g.length:Int)==0)=false:=beq_eq_false_iff_ne.2 (by omega);cases ht:(g[g.length-1]?.getD bg.z).tr
 ·skip
  cases tu:dS g fa
  ·have RR:Hid (aQ ⟨34,fa,fb,fc,fd⟩ g=none):=by show _=_;rw[GE,if_pos (.inr (.inr ⟨rfl,tu⟩))]
   have HAB:=af tu;clear GE tu;go_enter Tryz.func59,Tryz.ntmps59;go_wp2_with fail
   refine(aa LG _ (hA _)).mono ?_;rintro e w1 ⟨v1,rfl,gB,au⟩;obtain⟨jf,j0,j1,j2,dM,fR,-⟩:=fB gB au;clear au gB;obtain⟨gb,cap,hv,If,fm,jP,aE⟩:=(aa fR).at h0;have hl:=aE (g.length-1) (by omega);clear aE
   aj hv
   have r0:=hl.tr;have r1:=hl.keep;have r2:=hl.hand;have z1:=(aa fR).frozen rfl ((g.length-1) * 3+1);clear hl;obtain⟨m,hm⟩:∃ m,g.length=m+1:=⟨g.length-1,by omega⟩;have pm:g.length-1=m:=by omega
   rw[pm]at r0 r1 r2 z1;rw[pm]at ht;rw[ht]at r0;rw[hm]at LA;clear ht;go_wp2_with fail
   refine(aa LA _ (aa dM) _).mono ?_;rintro e w3 ⟨rfl,bY⟩;rw[HAB.out];have jg:=af ((aa dM).trans (bY.mono (by omega)));clear bY;go_wp2_with fail
   go_ret2
   exact lp RR.out (aa jg)
  ·have RR:Hid (aQ ⟨34,fa,fb,fc,fd⟩ g=some (g.set (g.length-1) { g[g.length-1]?.getD bg.z with keep:=fa })):=by show _=_;rw[GE,if_neg (by rintro(h | h | h);omega;rw[ht]at h;exact Bool.noConfusion h;rw[tu]at h;exact Bool.noConfusion h.2)]
   have HAB:=af tu;clear GE tu;go_enter Tryz.func59,Tryz.ntmps59;go_wp2_with fail
   refine(aa LG _ (hA _)).mono ?_;rintro e w1 ⟨v1,rfl,gB,au⟩;obtain⟨jf,j0,j1,j2,dM,fR,-⟩:=fB gB au;clear au gB;obtain⟨gb,cap,hv,If,fm,jP,aE⟩:=(aa fR).at h0;have hl:=aE (g.length-1) (by omega);clear aE
   aj hv
   have r0:=hl.tr;have r1:=hl.keep;have r2:=hl.hand;have z1:=(aa fR).frozen rfl ((g.length-1) * 3+1);clear hl;obtain⟨m,hm⟩:∃ m,g.length=m+1:=⟨g.length-1,by omega⟩;have pm:g.length-1=m:=by omega
   rw[pm]at r0 r1 r2 z1;rw[pm]at ht RR;rw[ht]at r0;rw[hm]at LA;clear ht;go_wp2_with fail
   refine(aa LA _ (aa dM) _).mono ?_;rintro e w3 ⟨rfl,bY⟩;rw[HAB.out];have jg:=af ((aa dM).trans (bY.mono (by omega)));have RV:=af (((aa fR).below bY).setKeep rfl m fa (by omega));obtain⟨jD,BM⟩:=cz bY;have q0:=(jD _ _ (by omega:gb<w1.heap.size)).trans r1;have qz:=(BM _ _ (by omega:gb<w1.heap.size)).trans z1;have qo:=(jD _ _ (by omega:w.heap.size<w1.heap.size)).trans j0;have qa:=(jD _ _ (by omega:w.heap.size<w1.heap.size)).trans j1;have Iv:=bY.size;have Hl:gb<w3.heap.size:=by omega
   have LX:w.heap.size<w3.heap.size:=by omega
   clear bY jD BM;go_wp2_with fail
   go_ret2
   exact oR RR.out (by have h:=(aa RV).base_le (base':=w.heap.size) (by omega);rw[hm]at h;exact h) ((aa jg).setCell (by show w.heap.size<=gb;omega) _)
 ·have RR:Hid (aQ ⟨34,fa,fb,fc,fd⟩ g=none):=by show _=_;rw[GE,if_pos (.inr (.inl ht))]
  clear GE;go_enter Tryz.func59,Tryz.ntmps59;go_wp2_with fail
  refine(aa LG _ (hA _)).mono ?_;rintro e w1 ⟨v1,rfl,gB,au⟩;obtain⟨jf,j0,j1,j2,dM,fR,-⟩:=fB gB au;clear au gB;obtain⟨gb,cap,hv,If,fm,jP,aE⟩:=(aa fR).at h0;have hl:=aE (g.length-1) (by omega);clear aE
  aj hv
  have r0:=hl.tr;have r1:=hl.keep;have r2:=hl.hand;have z1:=(aa fR).frozen rfl ((g.length-1) * 3+1);clear hl;obtain⟨m,hm⟩:∃ m,g.length=m+1:=⟨g.length-1,by omega⟩;have pm:g.length-1=m:=by omega
  rw[pm]at r0 r1 r2 z1;rw[pm]at ht;rw[ht]at r0;clear ht;go_wp2_with fail
  go_ret2
  exact lp RR.out (aa dM)
theorem Ab (fa fb fc fd:Int)(g:List bg)(a:o_)(c:Nat)(S:Nat->Prop)(w:World)(hs:bx w S a g)(hB:∀ b,S b->b<w.heap.size)(hl:g.length<=50) :
  c_ 59 #[.agg #[i_ 35,i_ fa,i_ fb,i_ fc,i_ fd],.slice a g.length c] w (jU ⟨35,fa,fb,fc,fd⟩ g w):=by
 have hn:=hs.1;obtain⟨i0,hi,dE,cT,dB⟩:=aN fA;have HS:=af hs;have HB:=af hB;have hA:∀ o,b_ w (w.alloc o):=fun o=>r_.alloc n_ o;have LG:=af (fun W (hW:b_ w W)=>eQ a g c S W (hs.keep hW hB) (fun b h=>l_ (hB b h) hW.size) (by omega));have LA:=af (fun W (hW:b_ w W) (keep:Int)=>gq a g c keep S W (hs.keep hW hB) (fun b h=>l_ (hB b h) hW.size));clear hs hB;have GE:aQ ⟨35,fa,fb,fc,fd⟩ g=if g.length=0\/(g[g.length-1]?.getD bg.z).tr=true\/((35:Int)=34/\dS g fa=false)then none else some g:=rfl;by_cases h0:0<g.length
 case neg=>
  have RR:Hid (aQ ⟨35,fa,fb,fc,fd⟩ g=none):=by show _=_;rw[GE,if_pos (.inl (by omega))]
  have x1:((g.length:Int)==0)=true:=by rw[show g.length=0 from by omega];rfl
  clear GE;go_enter Tryz.func59,Tryz.ntmps59;go_wp2_with fail
  refine(aa LG _ (hA _)).mono ?_;rintro e w1 ⟨v1,rfl,gB,au⟩;obtain⟨jf,j0,j1,j2,dM,fR,av,cv,rfl⟩:=fB gB au;clear au gB;go_wp2_with fail
  go_ret2
  exact lp RR.out (aa dM)
 have x1:((g.length:Int)==0)=false:=beq_eq_false_iff_ne.2 (by omega);cases ht:(g[g.length-1]?.getD bg.z).tr
 ·skip
  have RR:Hid (aQ ⟨35,fa,fb,fc,fd⟩ g=some g):=by show _=_;rw[GE,if_neg (by rintro(h | h | h);omega;rw[ht]at h;exact Bool.noConfusion h;exact absurd h.1 (by decide))]
  clear GE;go_enter Tryz.func59,Tryz.ntmps59;go_wp2_with fail
  refine(aa LG _ (hA _)).mono ?_;rintro e w1 ⟨v1,rfl,gB,au⟩;obtain⟨jf,j0,j1,j2,dM,fR,-⟩:=fB gB au;clear au gB;obtain⟨gb,cap,hv,If,fm,jP,aE⟩:=(aa fR).at h0;have hl:=aE (g.length-1) (by omega);clear aE
  aj hv
  have r0:=hl.tr;have r1:=hl.keep;have r2:=hl.hand;have z1:=(aa fR).frozen rfl ((g.length-1) * 3+1);clear hl;obtain⟨m,hm⟩:∃ m,g.length=m+1:=⟨g.length-1,by omega⟩;have pm:g.length-1=m:=by omega
  rw[pm]at r0 r1 r2 z1;rw[pm]at ht;rw[ht]at r0;clear ht;go_wp2_with fail
  go_ret2
  exact oR RR.out (by have h:=(aa fR).base_le (base':=w.heap.size) (by omega);rw[hm]at h;exact h) (aa dM)
 ·have RR:Hid (aQ ⟨35,fa,fb,fc,fd⟩ g=none):=by show _=_;rw[GE,if_pos (.inr (.inl ht))]
  clear GE;go_enter Tryz.func59,Tryz.ntmps59;go_wp2_with fail
  refine(aa LG _ (hA _)).mono ?_;rintro e w1 ⟨v1,rfl,gB,au⟩;obtain⟨jf,j0,j1,j2,dM,fR,-⟩:=fB gB au;clear au gB;obtain⟨gb,cap,hv,If,fm,jP,aE⟩:=(aa fR).at h0;have hl:=aE (g.length-1) (by omega);clear aE
  aj hv
  have r0:=hl.tr;have r1:=hl.keep;have r2:=hl.hand;have z1:=(aa fR).frozen rfl ((g.length-1) * 3+1);clear hl;obtain⟨m,hm⟩:∃ m,g.length=m+1:=⟨g.length-1,by omega⟩;have pm:g.length-1=m:=by omega
  rw[pm]at r0 r1 r2 z1;rw[pm]at ht;rw[ht]at r0;clear ht;go_wp2_with fail
  go_ret2
  exact lp RR.out (aa dM)
theorem Ao (fa fb fc fd:Int)(g:List bg)(a:o_)(c:Nat)(S:Nat->Prop)(w:World)(hs:bx w S a g)(hB:∀ b,S b->b<w.heap.size)(hl:g.length<=50) :
  c_ 59 #[.agg #[i_ 36,i_ fa,i_ fb,i_ fc,i_ fd],.slice a g.length c] w (jU ⟨36,fa,fb,fc,fd⟩ g w):=by
 have hn:=hs.1;obtain⟨i0,hi,dE,cT,dB⟩:=aN fA;have HS:=af hs;have HB:=af hB;have hA:∀ o,b_ w (w.alloc o):=fun o=>r_.alloc n_ o;have LG:=af (fun W (hW:b_ w W)=>eQ a g c S W (hs.keep hW hB) (fun b h=>l_ (hB b h) hW.size) (by omega));have LA:=af (fun W (hW:b_ w W) (keep:Int)=>gq a g c keep S W (hs.keep hW hB) (fun b h=>l_ (hB b h) hW.size));clear hs hB;have GE:aQ ⟨36,fa,fb,fc,fd⟩ g=if g.length=0\/(g[g.length-1]?.getD bg.z).tr=true\/((36:Int)=34/\dS g fa=false)then none else some (g.take (g.length-1)):=rfl;by_cases h0:0<g.length
 case neg=>
  have RR:Hid (aQ ⟨36,fa,fb,fc,fd⟩ g=none):=by show _=_;rw[GE,if_pos (.inl (by omega))]
  have x1:((g.length:Int)==0)=true:=by rw[show g.length=0 from by omega];rfl
  clear GE;go_enter Tryz.func59,Tryz.ntmps59;go_wp2_with fail
  refine(aa LG _ (hA _)).mono ?_;rintro e w1 ⟨v1,rfl,gB,au⟩;obtain⟨jf,j0,j1,j2,dM,fR,av,cv,rfl⟩:=fB gB au;clear au gB;go_wp2_with fail
  go_ret2
  exact lp RR.out (aa dM)
 have x1:((g.length:Int)==0)=false:=beq_eq_false_iff_ne.2 (by omega);cases ht:(g[g.length-1]?.getD bg.z).tr
 ·skip
  have RR:Hid (aQ ⟨36,fa,fb,fc,fd⟩ g=some (g.take (g.length-1))):=by show _=_;rw[GE,if_neg (by rintro(h | h | h);omega;rw[ht]at h;exact Bool.noConfusion h;exact absurd h.1 (by decide))]
  clear GE;go_enter Tryz.func59,Tryz.ntmps59;go_wp2_with fail
  refine(aa LG _ (hA _)).mono ?_;rintro e w1 ⟨v1,rfl,gB,au⟩;obtain⟨jf,j0,j1,j2,dM,fR,-⟩:=fB gB au;clear au gB;obtain⟨gb,cap,hv,If,fm,jP,aE⟩:=(aa fR).at h0;have hl:=aE (g.length-1) (by omega);clear aE
  aj hv
  have r0:=hl.tr;have r1:=hl.keep;have r2:=hl.hand;have z1:=(aa fR).frozen rfl ((g.length-1) * 3+1);clear hl;obtain⟨m,hm⟩:∃ m,g.length=m+1:=⟨g.length-1,by omega⟩;have pm:g.length-1=m:=by omega
  rw[pm]at r0 r1 r2 z1;rw[pm]at ht RR;rw[ht]at r0;clear ht;go_wp2_with fail
  go_ret2
  exact oR RR.out (((aa fR).take rfl m (by omega)).base_le (base':=w.heap.size) (by omega)) (aa dM)
 ·have RR:Hid (aQ ⟨36,fa,fb,fc,fd⟩ g=none):=by show _=_;rw[GE,if_pos (.inr (.inl ht))]
  clear GE;go_enter Tryz.func59,Tryz.ntmps59;go_wp2_with fail
  refine(aa LG _ (hA _)).mono ?_;rintro e w1 ⟨v1,rfl,gB,au⟩;obtain⟨jf,j0,j1,j2,dM,fR,-⟩:=fB gB au;clear au gB;obtain⟨gb,cap,hv,If,fm,jP,aE⟩:=(aa fR).at h0;have hl:=aE (g.length-1) (by omega);clear aE
  aj hv
  have r0:=hl.tr;have r1:=hl.keep;have r2:=hl.hand;have z1:=(aa fR).frozen rfl ((g.length-1) * 3+1);clear hl;obtain⟨m,hm⟩:∃ m,g.length=m+1:=⟨g.length-1,by omega⟩;have pm:g.length-1=m:=by omega
  rw[pm]at r0 r1 r2 z1;rw[pm]at ht;rw[ht]at r0;clear ht;go_wp2_with fail
  go_ret2
  exact lp RR.out (aa dM)
theorem vy (op:Int)(fa fb fc fd:Int)(g:List bg)(a:o_)(c:Nat)(S:Nat->Prop)(w:World)(hs:bx w S a g)(hB:∀ b,S b->b<w.heap.size)(hl:g.length<=50)(k31:op≠31)(k33:op≠33)(k32:op≠32)(k34:op≠34)(k35:op≠35)(k36:op≠36) :
  c_ 59 #[.agg #[i_ op,i_ fa,i_ fb,i_ fc,i_ fd],.slice a g.length c] w (jU ⟨op,fa,fb,fc,fd⟩ g w):=by
 have hn:=hs.1;obtain⟨i0,hi,dE,cT,dB⟩:=aN fA;have HS:=af hs;have HB:=af hB;have hA:∀ o,b_ w (w.alloc o):=fun o=>r_.alloc n_ o;have LG:=af (fun W (hW:b_ w W)=>eQ a g c S W (hs.keep hW hB) (fun b h=>l_ (hB b h) hW.size) (by omega));have LA:=af (fun W (hW:b_ w W) (keep:Int)=>gq a g c keep S W (hs.keep hW hB) (fun b h=>l_ (hB b h) hW.size));clear hs hB;have RR:Hid (aQ ⟨op,fa,fb,fc,fd⟩ g=some g):=by show _=_;simp[aQ,k31,k33,k32,k34,k35,k36]
 have x31:(op==31)=false:=beq_eq_false_iff_ne.2 k31;have x33:(op==33)=false:=beq_eq_false_iff_ne.2 k33;have x32:(op==32)=false:=beq_eq_false_iff_ne.2 k32;have x34:(op==34)=false:=beq_eq_false_iff_ne.2 k34;have x35:(op==35)=false:=beq_eq_false_iff_ne.2 k35;have x36:(op==36)=false:=beq_eq_false_iff_ne.2 k36;clear k31 k33 k32 k34 k35 k36;go_enter Tryz.func59,Tryz.ntmps59;go_wp2_with fail
 refine(aa LG _ (hA _)).mono ?_;rintro e w1 ⟨v1,rfl,gB,au⟩;obtain⟨jf,j0,j1,j2,dM,fR,av,cv,rfl⟩:=fB gB au;clear au gB;go_wp2_with fail
 go_ret2
 exact oR RR.out ((aa fR).base_le (base':=w.heap.size) (by omega)) (aa dM)
theorem yj (op:Int)(fa fb fc fd:Int)(g:List bg)(a:o_)(c:Nat)(S:Nat->Prop)(w:World)(hs:bx w S a g)(hB:∀ b,S b->b<w.heap.size)(hl:g.length<=50) :
  c_ 59 #[.agg #[i_ op,i_ fa,i_ fb,i_ fc,i_ fd],.slice a g.length c] w (jU ⟨op,fa,fb,fc,fd⟩ g w):=by
 by_cases k31:op=31
 ·aj k31;exact zJ fa fb fc fd g a c S w hs hB hl
 by_cases k33:op=33
 ·aj k33;exact AH fa fb fc fd g a c S w hs hB hl
 by_cases k32:op=32
 ·aj k32;exact zZ fa fb fc fd g a c S w hs hB hl
 by_cases k34:op=34
 ·aj k34;exact Aw fa fb fc fd g a c S w hs hB hl
 by_cases k35:op=35
 ·aj k35;exact Ab fa fb fc fd g a c S w hs hB hl
 by_cases k36:op=36
 ·aj k36;exact Ao fa fb fc fd g a c S w hs hB hl
 exact vy op fa fb fc fd g a c S w hs hB hl k31 k33 k32 k34 k35 k36
end Go.Proofs.YtcjfjflljdojlaaGreatDoor
