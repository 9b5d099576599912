import Derived.Test.YtcjfjflljdojlaaGreatDoorPart18
set_option linter.all false
set_option maxHeartbeats 6000000
set_option maxRecDepth 100000
namespace Go.Proofs.YtcjfjflljdojlaaGreatDoor
open Go.RowKit
theorem pE (l:List bc):(l.flatMap pU).length=l.length * 3:=by
 induction l with
 | nil=>rfl
 | cons a l ih=>rw[List.flatMap_cons,zad,ih];simp[pU];omega
theorem E0 (l:List bc)(j i:Nat)(hj:j<l.length)(hi:i<3):(l.flatMap pU)[j * 3+i]? = (pU (l[j]?.getD bc.z))[i]?:=by
 induction l generalizing j with
 | nil=>exact zcc hj (bW _)
 | cons a l ih=>
  rw[List.flatMap_cons];cases j with
  | zero=>
   rw[List.getElem?_append_left (by simp[pU];omega)];simp
  | succ j=>
   rw[List.getElem?_append_right (by simp[pU];omega)];have e:(j+1) * 3+i-(pU a).length=j * 3+i:=by{simp[pU];omega};rw[e,ih j (by simpa using hj)];simp
theorem Jg (l:List bc)(m:Nat):(l.flatMap pU).take (m * 3)=(l.take m).flatMap pU:=by
 induction l generalizing m with
 | nil=>simp
 | cons a l ih=>
  cases m with
  | zero=>simp
  | succ m=>
   rw[List.take_succ_cons,List.flatMap_cons,List.flatMap_cons,<-ih m,List.take_append];have e:(m+1) * 3-(pU a).length=m * 3:=by{simp[pU];omega};rw[e,List.take_of_length_le (by simp[pU];omega)]
theorem Mv (l:List bc)(j:Nat)(x:Int)(hj:j<l.length):(l.flatMap pU).set (j * 3+1) (i_ x)=(l.set j { l[j]?.getD bc.z with keep:=x }).flatMap pU:=by
 induction l generalizing j with
 | nil=>exact zcc hj (bW _)
 | cons a l ih=>
  cases j with
  | zero=>simp[pU]
  | succ j=>
   rw[List.flatMap_cons,List.set_append_right _ _ (by simp[pU];omega)];have e:(j+1) * 3+1-(pU a).length=j * 3+1:=by{simp[pU];omega};rw[e,ih j (by simpa using hj)];simp
section
variable {w w':w_} {base base':Nat} {v:Value} {t:List bc}
theorem cd.lenV (h:cd w base v t):∃ a c,v=.slice a t.length c:=by
 rcases h.2 with⟨rfl,h0⟩ | ⟨g,cap,gh,rfl,_⟩;{rw[h0];exact⟨none,0,rfl⟩};{exact⟨_,_,rfl⟩}
theorem cd.at (h:cd w base v t)(h0:0<t.length):∃ g cap,v=s_ g 0 t.length cap/\base<=g/\g<w.heap.size/\t.length<=cap/\∀ j,j<t.length->og w g (j * 3) (t[j]?.getD bc.z):=by
 rcases h.2 with⟨_,h1⟩ | ⟨g,cap,gh,rfl,hb,hg,px,h2⟩;{omega}
 ·refine⟨g,cap,rfl,hb,(zbc.1 hg).1,px,fun j hj=>?_⟩;have h3:∀ i,i<3->w.cell? (a_ g (j * 3+i))=(pU (t[j]?.getD bc.z))[i]?:=fun i hi=>by
   rw[World.ownsRow.cellAt h (j * 3+i) (by omega),E0 t j i hj hi]
  exact⟨h3 0 (by omega),h3 1 (by omega),h3 2 (by omega)⟩
theorem cd.below (h:cd w base v t)(hb:b_ w w'):cd w' base v t:=by
 refine⟨h.1,?_⟩;rcases h.2 with hn | ⟨g,cap,gh,rfl,h1,hg,h2⟩;{exact .inl hn};{exact .inr ⟨g,cap,gh,rfl,h1,(hb.block g (zbc.1 hg).1).trans hg,h2⟩}
theorem cd.base_le (h:cd w base v t)(hb:base'<=base):cd w base' v t:=by
 refine⟨h.1,?_⟩;rcases h.2 with hn | ⟨g,cap,gh,rfl,h1,h2⟩;{exact .inl hn};{exact .inr ⟨g,cap,gh,rfl,zah hb h1,h2⟩}
theorem cd.alloc (h:cd w base v t)(o:Obj):cd (w.alloc o) base v t:=World.ownsRow.alloc h o
theorem cd.take {g n cap:Nat}(h:cd w base (s_ g 0 n cap) t)(hn:n=t.length)(m:Nat)(hm:m<=t.length):cd w base (s_ g 0 m cap) (t.take m):=by
 subst hn;have hl:(t.take m).length=m:=by{simp;omega};refine⟨by rw[pE,hl],?_⟩;rcases h.2 with⟨h',_⟩ | ⟨g',iL,gh,h',hb,hg,hnc,ZC,Iy,VQ⟩;{simp at h'};{simp only[Value.slice.injEq,Option.some.injEq,Addr.mk.injEq,and_true,true_and]at h';obtain⟨rfl,rfl⟩:=h';refine .inr ⟨g,cap,gh,by rw[hl],hb,hg,by omega,ZC,Iy,?_⟩;rw[hl,<-Jg,<-VQ,List.take_take];congr 1;omega}
theorem cd.setKeep {g n cap:Nat}(h:cd w base (s_ g 0 n cap) t)(hn:n=t.length)(j:Nat)(x:Int)(hj:j<t.length):cd (w.setCell (a_ g (j * 3+1)) (i_ x)) base (s_ g 0 n cap) (t.set j { t[j]?.getD bc.z with keep:=x }):=by
 subst hn;have h2:=(World.ownsRow.stored h (j * 3+1) (i_ x)).1;unfold cd;rw[List.length_set,<-Mv t j x hj];exact h2
theorem cd.frozen {g n cap:Nat}(h:cd w base (s_ g 0 n cap) t)(hn:n=t.length)(j:Nat):w.frozen? (a_ g j)=false:=by
 subst hn;exact World.ownsRow.frozenAt h j
end
def ki (n:az)(g:List bc)(w:w_)(e:Ending)(w':w_):Prop:=
 ∃(v:Value) (r:Bool),e=.returned (.tuple #[v,.bool r])/\(r=true->∃ g',aP n g=some g'/\cd w' w.heap.size v g')/\(r=false->aP n g=none)/\b_ w w'
theorem kQ {n:az}{g:List bc}{w w':w_}{v:Value}(h:aP n g=none)(hb:b_ w w'):ki n g w (.returned (.tuple #[v,.bool false])) w':=⟨v,false,rfl,fun h=>Bool.noConfusion h,fun _=>h,hb⟩
theorem oZ {n:az}{g g':List bc}{w w':w_}{v:Value}(h:aP n g=some g')(ho:cd w' w.heap.size v g')(hb:b_ w w'):ki n g w (.returned (.tuple #[v,.bool true])) w':=⟨v,true,rfl,fun _=>⟨g',h,ho⟩,fun h=>Bool.noConfusion h,hb⟩
theorem fy {w w1:w_}{op fa fb fc fd:Int}{g:List bc}{v1:Value}(ho:cd w1 (w.alloc (.cells #[i_ op,i_ fa,i_ fb,i_ fc,i_ fd] 51)).heap.size v1 g)(ar:Below (w.alloc (.cells #[i_ op,i_ fa,i_ fb,i_ fc,i_ fd] 51)).heap.size (w.alloc (.cells #[i_ op,i_ fa,i_ fb,i_ fc,i_ fd] 51)) w1) :
  w.heap.size<w1.heap.size/\w1.cell? (a_ w.heap.size 0)=some (i_ op)/\w1.cell? (a_ w.heap.size 1)=some (i_ fa)/\w1.cell? (a_ w.heap.size 2)=some (i_ fb)/\H_ (b_ w w1)/\H_ (cd w1 (w.heap.size+1) v1 g)/\∃ av cv,v1=.slice av g.length cv:=by
 obtain⟨cT,fI⟩:=cz ar;refine⟨by have:=ar.size;simp at this;omega,by rw[cT _ _ (by simp)];simp[go_sem],by rw[cT _ _ (by simp)];simp[go_sem],by rw[cT _ _ (by simp)];simp[go_sem],(r_.alloc n_ _).trans (ar.mono (by simp)),?_,ho.lenV⟩;have h:=ho;rw[show ∀ o,(w.alloc o).heap.size=w.heap.size+1 from fun _=>by simp]at h;exact h
theorem Ao (fa fb fc fd:Int)(g:List bc)(a:o_)(c:Nat)(S:Nat->Prop)(w:w_)(hs:bw w S a g)(hB:∀ b,S b->b<w.heap.size)(hl:g.length<=50) :
  c_ 59 #[.agg #[i_ 31,i_ fa,i_ fb,i_ fc,i_ fd],.slice a g.length c] w (ki ⟨31,fa,fb,fc,fd⟩ g w):=by
 have hn:=hs.1;obtain⟨i0,hi,dE,cS,dA⟩:=aM fA;have HS:=af hs;have HB:=af hB;have hA:∀ o,b_ w (w.alloc o):=fun o=>r_.alloc n_ o;have LG:=af (fun W (hW:b_ w W)=>eU a g c S W (hs.keep hW hB) (fun b h=>l_ (hB b h) hW.size) (by omega));have LA:=af (fun W (hW:b_ w W) (keep:Int)=>gp a g c keep S W (hs.keep hW hB) (fun b h=>l_ (hB b h) hW.size));clear hs hB;have GE:aP ⟨31,fa,fb,fc,fd⟩ g=if g.length<50/\dS g fb=true then some (g++[⟨true,fb,fa⟩])else none:=rfl;have GY:H_ (g.length<50->dS g fb=true->aP ⟨31,fa,fb,fc,fd⟩ g=some (g++[⟨true,fb,fa⟩])):=fun h1 h2=>by rw[GE,zca ⟨h1,h2⟩]
 have GN:H_ (¬(g.length<50/\dS g fb=true)->aP ⟨31,fa,fb,fc,fd⟩ g=none):=fun h=>by rw[GE,zcb h]
 clear GE;go_enter Tryz.func59,Tryz.ntmps59;go_wp2_with fail
 refine(aa LG _ (hA _)).mono ?_;rintro e w1 ⟨v1,rfl,gy,ar⟩;obtain⟨je,j0,j1,j2,dL,fQ,av,cv,rfl⟩:=fy gy ar;clear ar gy;go_wp2_with (first
  | (at_builtin;refine zce _ rfl _ _ 95 rfl (w.heap.size+1) 154 i0 (.agg #[.bool false,i_ 0,i_ 0]) 3 24 Tryz.underlying95 hi dE cS dA rfl (by decide) _ _ _ rfl ((aa fQ).alloc _) (a_ w1.heap.size 0) 1 1 [.bool true,i_ fb,i_ fa] rfl rfl ?c1 ?c2 ?c3 ?c4 ?c5 ?_)
  | go_in)
 all_goals try (case c1=>
  intro j u hj
  match j,hj with
  | 0,hj=>simp at hj;subst hj;simp[Addr.add,go_sem]
  | 1,hj=>simp at hj;subst hj;simp[Addr.add,go_sem]
  | 2,hj=>simp at hj;subst hj;simp[Addr.add,go_sem]
  | n+3,hj=>simp at hj)
 (case c2=>first | (intro u hu;simp at hu;rcases hu with rfl | rfl | rfl<;>rfl) | (simp;done) | rfl);(case c3=>unfold maxLen;omega);(case c4=>omega);(case c5=>simp;omega);intro v2 w2 hown2 hgrow2 _;have vm:H_ (cd w2 w.heap.size v2 (g++[⟨true,fb,fa⟩])):=(cd.push hown2).base_le (by omega);have fM:H_ (b_ w w2):=((aa dL).alloc (by omega) _).grown hgrow2 (by simp;omega) (fun j hj=>by have:=((aa fQ).lt j hj).1;omega);have sn:=hgrow2.size;have abc:w.heap.size<w2.heap.size:=by{simp at sn;omega};have eh:some w.heap.size≠(Value.slice av g.length cv).ownBlock:=fun e=>by{have:=((aa fQ).lt _ e.symm).1;omega};have k1:w2.cell? (a_ w.heap.size 1)=some (i_ fa):=hgrow2.cell ((World.cell?_alloc_past _ _ _ (by omega)).trans j1) eh;have k2:w2.cell? (a_ w.heap.size 2)=some (i_ fb):=hgrow2.cell ((World.cell?_alloc_past _ _ _ (by omega)).trans j2) eh;clear hown2 hgrow2 eh j0 j1 j2;by_cases h50:g.length<50;(case neg=>have RR:=af (aa GN (fun h=>h50 h.1));have x1:decide ((g.length:Int)<50)=false:=zba (by omega);have x1n:decide (g.length<50)=false:=zba h50;go_wp2;go_ret2;exact kQ RR.o (aa fM));have x1:decide ((g.length:Int)<50)=true:=zbb (by omega);have x1n:decide (g.length<50)=true:=zbb h50;go_wp2_with fail;refine(aa LA _ (aa fM) _).mono ?_;rintro e w3 ⟨rfl,bU⟩;have jg:=af ((aa fM).trans (bU.mono (by omega)));have Ra:=af ((aa vm).below bU);clear bU;cases tj:dS g fb;{have RR:=af (aa GN (fun h=>by rw[tj]at h;exact Bool.noConfusion h.2));clear tj;go_wp2;go_ret2;exact kQ RR.o (aa jg)};{have RR:=af (aa GY h50 tj);clear tj;go_wp2;go_ret2;exact oZ RR.o (aa Ra) (aa jg)}
theorem zE (fa fb fc fd:Int)(g:List bc)(a:o_)(c:Nat)(S:Nat->Prop)(w:w_)(hs:bw w S a g)(hB:∀ b,S b->b<w.heap.size)(hl:g.length<=50) :
  c_ 59 #[.agg #[i_ 33,i_ fa,i_ fb,i_ fc,i_ fd],.slice a g.length c] w (ki ⟨33,fa,fb,fc,fd⟩ g w):=by
 have hn:=hs.1;obtain⟨i0,hi,dE,cS,dA⟩:=aM fA;have HS:=af hs;have HB:=af hB;have hA:∀ o,b_ w (w.alloc o):=fun o=>r_.alloc n_ o;have LG:=af (fun W (hW:b_ w W)=>eU a g c S W (hs.keep hW hB) (fun b h=>l_ (hB b h) hW.size) (by omega));have LA:=af (fun W (hW:b_ w W) (keep:Int)=>gp a g c keep S W (hs.keep hW hB) (fun b h=>l_ (hB b h) hW.size));clear hs hB;have GE:aP ⟨33,fa,fb,fc,fd⟩ g=if g.length<50/\dS g fa=true then some (g++[⟨false,fa,0⟩])else none:=rfl;have GY:H_ (g.length<50->dS g fa=true->aP ⟨33,fa,fb,fc,fd⟩ g=some (g++[⟨false,fa,0⟩])):=fun h1 h2=>by rw[GE,zca ⟨h1,h2⟩]
 have GN:H_ (¬(g.length<50/\dS g fa=true)->aP ⟨33,fa,fb,fc,fd⟩ g=none):=fun h=>by rw[GE,zcb h]
 clear GE;go_enter Tryz.func59,Tryz.ntmps59;go_wp2_with fail
 refine(aa LG _ (hA _)).mono ?_;rintro e w1 ⟨v1,rfl,gy,ar⟩;obtain⟨je,j0,j1,j2,dL,fQ,av,cv,rfl⟩:=fy gy ar;clear ar gy;go_wp2_with (first
  | (at_builtin;refine zce _ rfl _ _ 95 rfl (w.heap.size+1) 154 i0 (.agg #[.bool false,i_ 0,i_ 0]) 3 24 Tryz.underlying95 hi dE cS dA rfl (by decide) _ _ _ rfl ((aa fQ).alloc _) (a_ w1.heap.size 0) 1 1 [.bool false,i_ fa,i_ 0] rfl rfl ?c1 ?c2 ?c3 ?c4 ?c5 ?_)
  | go_in)
 all_goals try (case c1=>
  intro j u hj
  match j,hj with
  | 0,hj=>simp at hj;subst hj;simp[Addr.add,go_sem]
  | 1,hj=>simp at hj;subst hj;simp[Addr.add,go_sem]
  | 2,hj=>simp at hj;subst hj;simp[Addr.add,go_sem]
  | n+3,hj=>simp at hj)
 (case c2=>first | (intro u hu;simp at hu;rcases hu with rfl | rfl | rfl<;>rfl) | (simp;done) | rfl);(case c3=>unfold maxLen;omega);(case c4=>omega);(case c5=>simp;omega);intro v2 w2 hown2 hgrow2 _;have vm:H_ (cd w2 w.heap.size v2 (g++[⟨false,fa,0⟩])):=(cd.push hown2).base_le (by omega);have fM:H_ (b_ w w2):=((aa dL).alloc (by omega) _).grown hgrow2 (by simp;omega) (fun j hj=>by have:=((aa fQ).lt j hj).1;omega);have sn:=hgrow2.size;have abc:w.heap.size<w2.heap.size:=by{simp at sn;omega};have eh:some w.heap.size≠(Value.slice av g.length cv).ownBlock:=fun e=>by{have:=((aa fQ).lt _ e.symm).1;omega};have k1:w2.cell? (a_ w.heap.size 1)=some (i_ fa):=hgrow2.cell ((World.cell?_alloc_past _ _ _ (by omega)).trans j1) eh;have k2:w2.cell? (a_ w.heap.size 2)=some (i_ fb):=hgrow2.cell ((World.cell?_alloc_past _ _ _ (by omega)).trans j2) eh;clear hown2 hgrow2 eh j0 j1 j2;by_cases h50:g.length<50;(case neg=>have RR:=af (aa GN (fun h=>h50 h.1));have x1:decide ((g.length:Int)<50)=false:=zba (by omega);have x1n:decide (g.length<50)=false:=zba h50;go_wp2;go_ret2;exact kQ RR.o (aa fM));have x1:decide ((g.length:Int)<50)=true:=zbb (by omega);have x1n:decide (g.length<50)=true:=zbb h50;go_wp2_with fail;refine(aa LA _ (aa fM) _).mono ?_;rintro e w3 ⟨rfl,bU⟩;have jg:=af ((aa fM).trans (bU.mono (by omega)));have Ra:=af ((aa vm).below bU);clear bU;cases tj:dS g fa;{have RR:=af (aa GN (fun h=>by rw[tj]at h;exact Bool.noConfusion h.2));clear tj;go_wp2;go_ret2;exact kQ RR.o (aa jg)};{have RR:=af (aa GY h50 tj);clear tj;go_wp2;go_ret2;exact oZ RR.o (aa Ra) (aa jg)}
theorem AD (fa fb fc fd:Int)(g:List bc)(a:o_)(c:Nat)(S:Nat->Prop)(w:w_)(hs:bw w S a g)(hB:∀ b,S b->b<w.heap.size)(hl:g.length<=50) :
  c_ 59 #[.agg #[i_ 32,i_ fa,i_ fb,i_ fc,i_ fd],.slice a g.length c] w (ki ⟨32,fa,fb,fc,fd⟩ g w):=by
 have hn:=hs.1;obtain⟨i0,hi,dE,cS,dA⟩:=aM fA;have HS:=af hs;have HB:=af hB;have hA:∀ o,b_ w (w.alloc o):=fun o=>r_.alloc n_ o;have LG:=af (fun W (hW:b_ w W)=>eU a g c S W (hs.keep hW hB) (fun b h=>l_ (hB b h) hW.size) (by omega));have LA:=af (fun W (hW:b_ w W) (keep:Int)=>gp a g c keep S W (hs.keep hW hB) (fun b h=>l_ (hB b h) hW.size));clear hs hB;have GE:aP ⟨32,fa,fb,fc,fd⟩ g=if g.length=0\/(g[g.length-1]?.getD bc.z).tr=false then none else some (g.take (g.length-1)):=rfl;by_cases h0:0<g.length
 case neg=>
  have RR:H_ (aP ⟨32,fa,fb,fc,fd⟩ g=none):=by{show _=_;rw[GE,zca (.inl (by omega))]};have x1:((g.length:Int)==0)=true:=by rw[show g.length=0 from by omega];rfl
  clear GE;go_enter Tryz.func59,Tryz.ntmps59;go_wp2_with fail
  refine(aa LG _ (hA _)).mono ?_;rintro e w1 ⟨v1,rfl,gy,ar⟩;obtain⟨je,j0,j1,j2,dL,fQ,av,cv,rfl⟩:=fy gy ar;clear ar gy;go_wp2;go_ret2;exact kQ RR.o (aa dL)
 have x1:((g.length:Int)==0)=false:=zag.2 (by omega);cases ht:(g[g.length-1]?.getD bc.z).tr
 ·have RR:H_ (aP ⟨32,fa,fb,fc,fd⟩ g=none):=by show _=_;rw[GE,zca (.inr ht)]
  clear GE;go_enter Tryz.func59,Tryz.ntmps59;go_wp2_with fail
  refine(aa LG _ (hA _)).mono ?_;rintro e w1 ⟨v1,rfl,gy,ar⟩;obtain⟨je,j0,j1,j2,dL,fQ,-⟩:=fy gy ar;clear ar gy;obtain⟨gb,cap,hv,Hp,fl,jL,aC⟩:=(aa fQ).at h0;have hl:=aC (g.length-1) (by omega);clear aC;subst hv;have r0:=hl.tr;have r1:=hl.keep;have r2:=hl.hand;have z1:=(aa fQ).frozen rfl ((g.length-1) * 3+1);clear hl;obtain⟨m,hm⟩:∃ m,g.length=m+1:=⟨g.length-1,by omega⟩;have pi:g.length-1=m:=by omega
  rw[pi]at r0 r1 r2 z1;rw[pi]at ht;rw[ht]at r0;clear ht;go_wp2;go_ret2;exact kQ RR.o (aa dL)
 ·skip;have RR:H_ (aP ⟨32,fa,fb,fc,fd⟩ g=some (g.take (g.length-1))):=by show _=_;rw[GE,zcb (by rintro(h | h);omega;rw[ht]at h;exact Bool.noConfusion h)]
  clear GE;go_enter Tryz.func59,Tryz.ntmps59;go_wp2_with fail
  refine(aa LG _ (hA _)).mono ?_;rintro e w1 ⟨v1,rfl,gy,ar⟩;obtain⟨je,j0,j1,j2,dL,fQ,-⟩:=fy gy ar;clear ar gy;obtain⟨gb,cap,hv,Hp,fl,jL,aC⟩:=(aa fQ).at h0;have hl:=aC (g.length-1) (by omega);clear aC;subst hv;have r0:=hl.tr;have r1:=hl.keep;have r2:=hl.hand;have z1:=(aa fQ).frozen rfl ((g.length-1) * 3+1);clear hl;obtain⟨m,hm⟩:∃ m,g.length=m+1:=⟨g.length-1,by omega⟩;have pi:g.length-1=m:=by omega
  rw[pi]at r0 r1 r2 z1;rw[pi]at ht RR;rw[ht]at r0;clear ht;go_wp2;go_ret2;exact oZ RR.o (((aa fQ).take rfl m (by omega)).base_le (base':=w.heap.size) (by omega)) (aa dL)
theorem Ae (fa fb fc fd:Int)(g:List bc)(a:o_)(c:Nat)(S:Nat->Prop)(w:w_)(hs:bw w S a g)(hB:∀ b,S b->b<w.heap.size)(hl:g.length<=50) :
  c_ 59 #[.agg #[i_ 34,i_ fa,i_ fb,i_ fc,i_ fd],.slice a g.length c] w (ki ⟨34,fa,fb,fc,fd⟩ g w):=by
 have hn:=hs.1;obtain⟨i0,hi,dE,cS,dA⟩:=aM fA;have HS:=af hs;have HB:=af hB;have hA:∀ o,b_ w (w.alloc o):=fun o=>r_.alloc n_ o;have LG:=af (fun W (hW:b_ w W)=>eU a g c S W (hs.keep hW hB) (fun b h=>l_ (hB b h) hW.size) (by omega));have LA:=af (fun W (hW:b_ w W) (keep:Int)=>gp a g c keep S W (hs.keep hW hB) (fun b h=>l_ (hB b h) hW.size));clear hs hB;have GE:aP ⟨34,fa,fb,fc,fd⟩ g=if g.length=0\/(g[g.length-1]?.getD bc.z).tr=true\/((34:Int)=34/\dS g fa=false)then none else some (g.set (g.length-1) { g[g.length-1]?.getD bc.z with keep:=fa }):=rfl;by_cases h0:0<g.length
 case neg=>
  have RR:H_ (aP ⟨34,fa,fb,fc,fd⟩ g=none):=by{show _=_;rw[GE,zca (.inl (by omega))]};have x1:((g.length:Int)==0)=true:=by rw[show g.length=0 from by omega];rfl
  clear GE;go_enter Tryz.func59,Tryz.ntmps59;go_wp2_with fail
  refine(aa LG _ (hA _)).mono ?_;rintro e w1 ⟨v1,rfl,gy,ar⟩;obtain⟨je,j0,j1,j2,dL,fQ,av,cv,rfl⟩:=fy gy ar;clear ar gy;go_wp2;go_ret2;exact kQ RR.o (aa dL)
 have x1:((g.length:Int)==0)=false:=zag.2 (by omega);cases ht:(g[g.length-1]?.getD bc.z).tr
 ·skip;cases tj:dS g fa
  ·have RR:H_ (aP ⟨34,fa,fb,fc,fd⟩ g=none):=by show _=_;rw[GE,zca (.inr (.inr ⟨rfl,tj⟩))]
   have HAB:=af tj;clear GE tj;go_enter Tryz.func59,Tryz.ntmps59;go_wp2_with fail
   refine(aa LG _ (hA _)).mono ?_;rintro e w1 ⟨v1,rfl,gy,ar⟩;obtain⟨je,j0,j1,j2,dL,fQ,-⟩:=fy gy ar;clear ar gy;obtain⟨gb,cap,hv,Hp,fl,jL,aC⟩:=(aa fQ).at h0;have hl:=aC (g.length-1) (by omega);clear aC;subst hv;have r0:=hl.tr;have r1:=hl.keep;have r2:=hl.hand;have z1:=(aa fQ).frozen rfl ((g.length-1) * 3+1);clear hl;obtain⟨m,hm⟩:∃ m,g.length=m+1:=⟨g.length-1,by omega⟩;have pi:g.length-1=m:=by omega
   rw[pi]at r0 r1 r2 z1;rw[pi]at ht;rw[ht]at r0;rw[hm]at LA;clear ht;go_wp2_with fail;refine(aa LA _ (aa dL) _).mono ?_;rintro e w3 ⟨rfl,bU⟩;rw[HAB.o];have jg:=af ((aa dL).trans (bU.mono (by omega)));clear bU;go_wp2;go_ret2;exact kQ RR.o (aa jg)
  ·have RR:H_ (aP ⟨34,fa,fb,fc,fd⟩ g=some (g.set (g.length-1) { g[g.length-1]?.getD bc.z with keep:=fa })):=by show _=_;rw[GE,zcb (by rintro(h | h | h);omega;rw[ht]at h;exact Bool.noConfusion h;rw[tj]at h;exact Bool.noConfusion h.2)]
   have HAB:=af tj;clear GE tj;go_enter Tryz.func59,Tryz.ntmps59;go_wp2_with fail
   refine(aa LG _ (hA _)).mono ?_;rintro e w1 ⟨v1,rfl,gy,ar⟩;obtain⟨je,j0,j1,j2,dL,fQ,-⟩:=fy gy ar;clear ar gy;obtain⟨gb,cap,hv,Hp,fl,jL,aC⟩:=(aa fQ).at h0;have hl:=aC (g.length-1) (by omega);clear aC;subst hv;have r0:=hl.tr;have r1:=hl.keep;have r2:=hl.hand;have z1:=(aa fQ).frozen rfl ((g.length-1) * 3+1);clear hl;obtain⟨m,hm⟩:∃ m,g.length=m+1:=⟨g.length-1,by omega⟩;have pi:g.length-1=m:=by omega
   rw[pi]at r0 r1 r2 z1;rw[pi]at ht RR;rw[ht]at r0;rw[hm]at LA;clear ht;go_wp2_with fail;refine(aa LA _ (aa dL) _).mono ?_;rintro e w3 ⟨rfl,bU⟩;rw[HAB.o];have jg:=af ((aa dL).trans (bU.mono (by omega)));have Ra:=af (((aa fQ).below bU).setKeep rfl m fa (by omega));obtain⟨jB,BI⟩:=cz bU;have q0:=(jB _ _ (by omega:gb<w1.heap.size)).trans r1;have qz:=(BI _ _ (by omega:gb<w1.heap.size)).trans z1;have qo:=(jB _ _ (by omega:w.heap.size<w1.heap.size)).trans j0;have qa:=(jB _ _ (by omega:w.heap.size<w1.heap.size)).trans j1;have Im:=bU.size;have Hx:gb<w3.heap.size:=by{omega};have LM:w.heap.size<w3.heap.size:=by{omega};clear bU jB BI;go_wp2;go_ret2;exact oZ RR.o (by have h:=(aa Ra).base_le (base':=w.heap.size) (by omega);rw[hm]at h;exact h) ((aa jg).setCell (by show w.heap.size<=gb;omega) _)
 ·have RR:H_ (aP ⟨34,fa,fb,fc,fd⟩ g=none):=by show _=_;rw[GE,zca (.inr (.inl ht))]
  clear GE;go_enter Tryz.func59,Tryz.ntmps59;go_wp2_with fail
  refine(aa LG _ (hA _)).mono ?_;rintro e w1 ⟨v1,rfl,gy,ar⟩;obtain⟨je,j0,j1,j2,dL,fQ,-⟩:=fy gy ar;clear ar gy;obtain⟨gb,cap,hv,Hp,fl,jL,aC⟩:=(aa fQ).at h0;have hl:=aC (g.length-1) (by omega);clear aC;subst hv;have r0:=hl.tr;have r1:=hl.keep;have r2:=hl.hand;have z1:=(aa fQ).frozen rfl ((g.length-1) * 3+1);clear hl;obtain⟨m,hm⟩:∃ m,g.length=m+1:=⟨g.length-1,by omega⟩;have pi:g.length-1=m:=by omega
  rw[pi]at r0 r1 r2 z1;rw[pi]at ht;rw[ht]at r0;clear ht;go_wp2;go_ret2;exact kQ RR.o (aa dL)
theorem zV (fa fb fc fd:Int)(g:List bc)(a:o_)(c:Nat)(S:Nat->Prop)(w:w_)(hs:bw w S a g)(hB:∀ b,S b->b<w.heap.size)(hl:g.length<=50) :
  c_ 59 #[.agg #[i_ 35,i_ fa,i_ fb,i_ fc,i_ fd],.slice a g.length c] w (ki ⟨35,fa,fb,fc,fd⟩ g w):=by
 have hn:=hs.1;obtain⟨i0,hi,dE,cS,dA⟩:=aM fA;have HS:=af hs;have HB:=af hB;have hA:∀ o,b_ w (w.alloc o):=fun o=>r_.alloc n_ o;have LG:=af (fun W (hW:b_ w W)=>eU a g c S W (hs.keep hW hB) (fun b h=>l_ (hB b h) hW.size) (by omega));have LA:=af (fun W (hW:b_ w W) (keep:Int)=>gp a g c keep S W (hs.keep hW hB) (fun b h=>l_ (hB b h) hW.size));clear hs hB;have GE:aP ⟨35,fa,fb,fc,fd⟩ g=if g.length=0\/(g[g.length-1]?.getD bc.z).tr=true\/((35:Int)=34/\dS g fa=false)then none else some g:=rfl;by_cases h0:0<g.length
 case neg=>
  have RR:H_ (aP ⟨35,fa,fb,fc,fd⟩ g=none):=by{show _=_;rw[GE,zca (.inl (by omega))]};have x1:((g.length:Int)==0)=true:=by rw[show g.length=0 from by omega];rfl
  clear GE;go_enter Tryz.func59,Tryz.ntmps59;go_wp2_with fail
  refine(aa LG _ (hA _)).mono ?_;rintro e w1 ⟨v1,rfl,gy,ar⟩;obtain⟨je,j0,j1,j2,dL,fQ,av,cv,rfl⟩:=fy gy ar;clear ar gy;go_wp2;go_ret2;exact kQ RR.o (aa dL)
 have x1:((g.length:Int)==0)=false:=zag.2 (by omega);cases ht:(g[g.length-1]?.getD bc.z).tr
 ·skip;have RR:H_ (aP ⟨35,fa,fb,fc,fd⟩ g=some g):=by show _=_;rw[GE,zcb (by rintro(h | h | h);omega;rw[ht]at h;exact Bool.noConfusion h;exact zcc h.1 (by decide))]
  clear GE;go_enter Tryz.func59,Tryz.ntmps59;go_wp2_with fail
  refine(aa LG _ (hA _)).mono ?_;rintro e w1 ⟨v1,rfl,gy,ar⟩;obtain⟨je,j0,j1,j2,dL,fQ,-⟩:=fy gy ar;clear ar gy;obtain⟨gb,cap,hv,Hp,fl,jL,aC⟩:=(aa fQ).at h0;have hl:=aC (g.length-1) (by omega);clear aC;subst hv;have r0:=hl.tr;have r1:=hl.keep;have r2:=hl.hand;have z1:=(aa fQ).frozen rfl ((g.length-1) * 3+1);clear hl;obtain⟨m,hm⟩:∃ m,g.length=m+1:=⟨g.length-1,by omega⟩;have pi:g.length-1=m:=by omega
  rw[pi]at r0 r1 r2 z1;rw[pi]at ht;rw[ht]at r0;clear ht;go_wp2;go_ret2;exact oZ RR.o (by have h:=(aa fQ).base_le (base':=w.heap.size) (by omega);rw[hm]at h;exact h) (aa dL)
 ·have RR:H_ (aP ⟨35,fa,fb,fc,fd⟩ g=none):=by show _=_;rw[GE,zca (.inr (.inl ht))]
  clear GE;go_enter Tryz.func59,Tryz.ntmps59;go_wp2_with fail
  refine(aa LG _ (hA _)).mono ?_;rintro e w1 ⟨v1,rfl,gy,ar⟩;obtain⟨je,j0,j1,j2,dL,fQ,-⟩:=fy gy ar;clear ar gy;obtain⟨gb,cap,hv,Hp,fl,jL,aC⟩:=(aa fQ).at h0;have hl:=aC (g.length-1) (by omega);clear aC;subst hv;have r0:=hl.tr;have r1:=hl.keep;have r2:=hl.hand;have z1:=(aa fQ).frozen rfl ((g.length-1) * 3+1);clear hl;obtain⟨m,hm⟩:∃ m,g.length=m+1:=⟨g.length-1,by omega⟩;have pi:g.length-1=m:=by omega
  rw[pi]at r0 r1 r2 z1;rw[pi]at ht;rw[ht]at r0;clear ht;go_wp2;go_ret2;exact kQ RR.o (aa dL)
theorem zS (fa fb fc fd:Int)(g:List bc)(a:o_)(c:Nat)(S:Nat->Prop)(w:w_)(hs:bw w S a g)(hB:∀ b,S b->b<w.heap.size)(hl:g.length<=50) :
  c_ 59 #[.agg #[i_ 36,i_ fa,i_ fb,i_ fc,i_ fd],.slice a g.length c] w (ki ⟨36,fa,fb,fc,fd⟩ g w):=by
 have hn:=hs.1;obtain⟨i0,hi,dE,cS,dA⟩:=aM fA;have HS:=af hs;have HB:=af hB;have hA:∀ o,b_ w (w.alloc o):=fun o=>r_.alloc n_ o;have LG:=af (fun W (hW:b_ w W)=>eU a g c S W (hs.keep hW hB) (fun b h=>l_ (hB b h) hW.size) (by omega));have LA:=af (fun W (hW:b_ w W) (keep:Int)=>gp a g c keep S W (hs.keep hW hB) (fun b h=>l_ (hB b h) hW.size));clear hs hB;have GE:aP ⟨36,fa,fb,fc,fd⟩ g=if g.length=0\/(g[g.length-1]?.getD bc.z).tr=true\/((36:Int)=34/\dS g fa=false)then none else some (g.take (g.length-1)):=rfl;by_cases h0:0<g.length
 case neg=>
  have RR:H_ (aP ⟨36,fa,fb,fc,fd⟩ g=none):=by{show _=_;rw[GE,zca (.inl (by omega))]};have x1:((g.length:Int)==0)=true:=by rw[show g.length=0 from by omega];rfl
  clear GE;go_enter Tryz.func59,Tryz.ntmps59;go_wp2_with fail
  refine(aa LG _ (hA _)).mono ?_;rintro e w1 ⟨v1,rfl,gy,ar⟩;obtain⟨je,j0,j1,j2,dL,fQ,av,cv,rfl⟩:=fy gy ar;clear ar gy;go_wp2;go_ret2;exact kQ RR.o (aa dL)
 have x1:((g.length:Int)==0)=false:=zag.2 (by omega);cases ht:(g[g.length-1]?.getD bc.z).tr
 ·skip;have RR:H_ (aP ⟨36,fa,fb,fc,fd⟩ g=some (g.take (g.length-1))):=by show _=_;rw[GE,zcb (by rintro(h | h | h);omega;rw[ht]at h;exact Bool.noConfusion h;exact zcc h.1 (by decide))]
  clear GE;go_enter Tryz.func59,Tryz.ntmps59;go_wp2_with fail
  refine(aa LG _ (hA _)).mono ?_;rintro e w1 ⟨v1,rfl,gy,ar⟩;obtain⟨je,j0,j1,j2,dL,fQ,-⟩:=fy gy ar;clear ar gy;obtain⟨gb,cap,hv,Hp,fl,jL,aC⟩:=(aa fQ).at h0;have hl:=aC (g.length-1) (by omega);clear aC;subst hv;have r0:=hl.tr;have r1:=hl.keep;have r2:=hl.hand;have z1:=(aa fQ).frozen rfl ((g.length-1) * 3+1);clear hl;obtain⟨m,hm⟩:∃ m,g.length=m+1:=⟨g.length-1,by omega⟩;have pi:g.length-1=m:=by omega
  rw[pi]at r0 r1 r2 z1;rw[pi]at ht RR;rw[ht]at r0;clear ht;go_wp2;go_ret2;exact oZ RR.o (((aa fQ).take rfl m (by omega)).base_le (base':=w.heap.size) (by omega)) (aa dL)
 ·have RR:H_ (aP ⟨36,fa,fb,fc,fd⟩ g=none):=by show _=_;rw[GE,zca (.inr (.inl ht))]
  clear GE;go_enter Tryz.func59,Tryz.ntmps59;go_wp2_with fail
  refine(aa LG _ (hA _)).mono ?_;rintro e w1 ⟨v1,rfl,gy,ar⟩;obtain⟨je,j0,j1,j2,dL,fQ,-⟩:=fy gy ar;clear ar gy;obtain⟨gb,cap,hv,Hp,fl,jL,aC⟩:=(aa fQ).at h0;have hl:=aC (g.length-1) (by omega);clear aC;subst hv;have r0:=hl.tr;have r1:=hl.keep;have r2:=hl.hand;have z1:=(aa fQ).frozen rfl ((g.length-1) * 3+1);clear hl;obtain⟨m,hm⟩:∃ m,g.length=m+1:=⟨g.length-1,by omega⟩;have pi:g.length-1=m:=by omega
  rw[pi]at r0 r1 r2 z1;rw[pi]at ht;rw[ht]at r0;clear ht;go_wp2;go_ret2;exact kQ RR.o (aa dL)
theorem vT (op:Int)(fa fb fc fd:Int)(g:List bc)(a:o_)(c:Nat)(S:Nat->Prop)(w:w_)(hs:bw w S a g)(hB:∀ b,S b->b<w.heap.size)(hl:g.length<=50)(k31:op≠31)(k33:op≠33)(k32:op≠32)(k34:op≠34)(k35:op≠35)(k36:op≠36) :
  c_ 59 #[.agg #[i_ op,i_ fa,i_ fb,i_ fc,i_ fd],.slice a g.length c] w (ki ⟨op,fa,fb,fc,fd⟩ g w):=by
 have hn:=hs.1;obtain⟨i0,hi,dE,cS,dA⟩:=aM fA;have HS:=af hs;have HB:=af hB;have hA:∀ o,b_ w (w.alloc o):=fun o=>r_.alloc n_ o;have LG:=af (fun W (hW:b_ w W)=>eU a g c S W (hs.keep hW hB) (fun b h=>l_ (hB b h) hW.size) (by omega));have LA:=af (fun W (hW:b_ w W) (keep:Int)=>gp a g c keep S W (hs.keep hW hB) (fun b h=>l_ (hB b h) hW.size));clear hs hB;have RR:H_ (aP ⟨op,fa,fb,fc,fd⟩ g=some g):=by show _=_;simp[aP,k31,k33,k32,k34,k35,k36]
 have x31:(op==31)=false:=zag.2 k31;have x33:(op==33)=false:=zag.2 k33;have x32:(op==32)=false:=zag.2 k32;have x34:(op==34)=false:=zag.2 k34;have x35:(op==35)=false:=zag.2 k35;have x36:(op==36)=false:=zag.2 k36;clear k31 k33 k32 k34 k35 k36;go_enter Tryz.func59,Tryz.ntmps59;go_wp2_with fail
 refine(aa LG _ (hA _)).mono ?_;rintro e w1 ⟨v1,rfl,gy,ar⟩;obtain⟨je,j0,j1,j2,dL,fQ,av,cv,rfl⟩:=fy gy ar;clear ar gy;go_wp2;go_ret2;exact oZ RR.o ((aa fQ).base_le (base':=w.heap.size) (by omega)) (aa dL)
theorem yr (op:Int)(fa fb fc fd:Int)(g:List bc)(a:o_)(c:Nat)(S:Nat->Prop)(w:w_)(hs:bw w S a g)(hB:∀ b,S b->b<w.heap.size)(hl:g.length<=50) :
  c_ 59 #[.agg #[i_ op,i_ fa,i_ fb,i_ fc,i_ fd],.slice a g.length c] w (ki ⟨op,fa,fb,fc,fd⟩ g w):=by
 by_cases k31:op=31;{subst k31;exact Ao fa fb fc fd g a c S w hs hB hl};by_cases k33:op=33;{subst k33;exact zE fa fb fc fd g a c S w hs hB hl};by_cases k32:op=32;{subst k32;exact AD fa fb fc fd g a c S w hs hB hl};by_cases k34:op=34;{subst k34;exact Ae fa fb fc fd g a c S w hs hB hl};by_cases k35:op=35;{subst k35;exact zV fa fb fc fd g a c S w hs hB hl};by_cases k36:op=36;{subst k36;exact zS fa fb fc fd g a c S w hs hB hl};exact vT op fa fb fc fd g a c S w hs hB hl k31 k33 k32 k34 k35 k36
end Go.Proofs.YtcjfjflljdojlaaGreatDoor
