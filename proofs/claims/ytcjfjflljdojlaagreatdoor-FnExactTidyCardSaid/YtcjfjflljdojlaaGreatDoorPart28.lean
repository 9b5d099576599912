import Derived.Test.YtcjfjflljdojlaaGreatDoorPart27
import Derived.RegionTactic
import Derived.ChangeAlike
set_option linter.unusedSimpArgs false
set_option linter.unusedVariables false
set_option maxHeartbeats 4000000
set_option maxRecDepth 100000
namespace Go.Proofs.YtcjfjflljdojlaaGreatDoor
open Go.RowKit
theorem nM:(Tryz.prog.info? 109).map (fun i=>(i.zero,i.size,i.bytes))=some (some (.agg #[i_ 0,.bool false,.slice none 0 0,.slice none 0 0]),4,64):=by kernel_rfl
theorem bx.mono {w:World}{S S':Nat->Prop}{a:o_}{l:List bg}(h:bx w S a l)(hS:∀ b,S b->S' b):bx w S' a l:=
 ⟨h.1,fun h0=>by
  obtain⟨b,off,e,hs,hc⟩:=h.2 h0;exact⟨b,off,e,hS b hs,hc⟩⟩
def mZ (t:List Int)(f:Nat):Nat->List Int
 | 0=>t
 | d+1=>(mZ t f d).set (f+d) 0
theorem fj (t:List Int)(f:Nat):∀ d,(mZ t f d).length=t.length
 | 0=>rfl
 | d+1=>by rw[mZ,List.length_set,fj t f d]
theorem uK (t:List Int)(f j:Nat)(hj:j<t.length):∀ d,(mZ t f d)[j]? = if f<=j/\j<f+d then some 0 else t[j]?
 | 0=>by rw[if_neg (by omega)];rfl
 | d+1=>by
  have ih:=uK t f j hj d;rw[mZ,List.getElem?_set];by_cases e:f+d=j
  ·rw[if_pos e,if_pos (by rw[fj];omega),if_pos (by omega)]
  ·rw[if_neg e,ih];by_cases c:f<=j/\j<f+d
   ·rw[if_pos c,if_pos (by omega)]
   ·rw[if_neg c,if_neg (by omega)]
theorem C6 (t:List Int)(f:Nat)(hf:f<=t.length):mZ t f (t.length-f)=t.take f++List.replicate (t.length-f) 0:=by
 apply List.ext_getElem?
 intro j;by_cases hj:j<t.length
 ·rw[uK t f j hj];by_cases c:f<=j
  ·rw[if_pos (by omega),List.getElem?_append_right (by simp;omega),List.getElem?_replicate,if_pos (by simp;omega)]
  ·rw[if_neg (by omega),List.getElem?_append_left (by simp;omega),List.getElem?_take,if_pos (by omega)]
 ·rw[List.getElem?_eq_none (by rw[fj];omega),List.getElem?_eq_none (by simp;omega)]
structure xC where
 at_:Int
 a:o_
 n:Nat
 c:Nat
 a2:o_
 n2:Nat
 c2:Nat
def Qp (x:xC):List Value:=[i_ x.at_,.bool true,.slice x.a x.n x.c,.slice x.a2 x.n2 x.c2]
def xC.z:xC:=⟨0,none,0,0,none,0,0⟩
def fK (w:World)(base:Nat)(v:Value)(L:List xC):Prop:=w.ownsRow base 109 4 v L.length (L.flatMap Qp)
theorem fK.push {w:World}{base:Nat}{v:Value}{t:List xC}{x:xC}(h:w.ownsRow base 109 4 v (t.length+1) (t.flatMap Qp++Qp x)):fK w base v (t++[x]):=by
 unfold fK;rw[List.length_append,List.flatMap_append];simpa using h
theorem fK.base_le {w:World}{base base':Nat}{v:Value}{t:List xC}(h:fK w base v t)(hb:base'<=base):fK w base' v t:=by
 refine⟨h.1,?_⟩;rcases h.2 with hn | ⟨g,cap,gi,rfl,h1,h2⟩
 ·exact .inl hn
 ·exact .inr ⟨g,cap,gi,rfl,Nat.le_trans hb h1,h2⟩
theorem fK.below {w w':World}{base:Nat}{v:Value}{t:List xC}(h:fK w base v t)(hb:b_ w w'):fK w' base v t:=by
 refine⟨h.1,?_⟩;rcases h.2 with hn | ⟨g,cap,gi,rfl,h1,hg,h2⟩
 ·exact .inl hn
 ·exact .inr ⟨g,cap,gi,rfl,h1,(hb.block g (Array.getElem?_eq_some_iff.1 hg).1).trans hg,h2⟩
def ME (w:World)(x:xC)(y:Nat×fL):Prop:=x.at_=(y.1:Nat)/\x.n=y.2.types.length/\x.n2=y.2.guards.length/\aR w (fun b=>b<w.heap.size) x.a y.2.types/\bx w (fun b=>b<w.heap.size) x.a2 y.2.guards
def jV (F:List (Nat×fL))(w:World)(e:Ending)(w':World):Prop:=
 ∃ v L,e=.returned v/\fK w' w.heap.size v L/\L.length=F.length/\(∀(j:Nat) x y,L[j]? = some x->F[j]? = some y->ME w' x y)/\b_ w w'
theorem Qx {w w':World}(hb:b_ w w'):jV [] w (.returned (.slice none 0 0)) w':=⟨_,[],rfl,World.ownsRow_nil _ _ _ _,rfl,fun j x y h=>by simp at h,hb⟩
theorem JW {w w':World}{v:Value}{x:xC}{y:Nat×fL}(ho:fK w' w.heap.size v [x])(h:ME w' x y)(hb:b_ w w'):jV [y] w (.returned v) w':=
 ⟨v,[x],rfl,ho,rfl,fun j a b h1 h2=>by
  cases j with
  | zero=>simp at h1 h2;aj h1 h2;exact h
  | succ j=>simp at h1,hb⟩
theorem Dx {w w':World}{v:Value}{x x2:xC}{y y2:Nat×fL}(ho:fK w' w.heap.size v [x,x2])(h:ME w' x y)(h2:ME w' x2 y2)(hb:b_ w w'):jV [y,y2] w (.returned v) w':=
 ⟨v,[x,x2],rfl,ho,rfl,fun j a b h1 h3=>by
  match j,h1,h3 with
  | 0,h1,h3=>simp at h1 h3;aj h1 h3;exact h
  | 1,h1,h3=>simp at h1 h3;aj h1 h3;exact h2
  | j+2,h1,_=>simp at h1,hb⟩
theorem qZ (op:Int)(fa fb fc fd:Int)(at_:Nat)(nm:ByteArray)(ln pr:Int)(rs:Bool)(rg:Int)(v5 v6 v8:Value)(b off ni c7:Nat)(rb:Bool)(tb t:List Int)(gb g:List bg)(ab agb at2 ag:o_)(cb cgb ct cg:Nat)(S:Nat->Prop)(w:World)(hB:∀ b,S b->b<w.heap.size)(cZ:b<w.heap.size)(fY:at_<ni)(kp:ni<=6000)(hc:aL w b (off+at_ * 5) ⟨op,fa,fb,fc,fd⟩)(h1:aR w S ab tb)(h2:bx w S agb gb)(h3:aR w S at2 t)(h4:bx w S ag g)(ax:t.length<=250)(hltb:tb.length<=250)(k19:op≠19)(k29:op≠29)(k30:op≠30)(k20:op≠20)(k21:op≠21)(k38:op≠38)(k39:op≠39)(k41:op≠41)(k31:op≠31) :
  c_ 62 #[.agg #[.string nm,i_ ln,i_ pr,.bool rs,i_ rg,v5,v6,.slice (some (a_ b off)) ni c7,v8],i_ at_,.agg #[.bool rb,.slice ab tb.length cb,.slice agb gb.length cgb],.slice at2 t.length ct,.slice ag g.length cg] w (jV (bK ⟨op,fa,fb,fc,fd⟩ at_ ⟨tb,gb⟩ t g) w):=by
 obtain⟨i0,hi,dE,cT,dB⟩:=aN nM;have d0:=hc.op;have d1:=hc.fa;have d2:=hc.fb;have d3:=hc.fc;have d4:=hc.fd;clear hc;simp only at d0 d1 d2 d3 d4;have hA:∀ o1 o2 o3 o4,b_ w ((((w.alloc o1).alloc o2).alloc o3).alloc o4):=fun o1 o2 o3 o4=>(((r_.alloc n_ o1).alloc (by simp) o2).alloc (by simp;omega) o3).alloc (by simp;omega) o4;have T3:Hid (∀ W,b_ w W->aR W (fun b=>b<W.heap.size) at2 t/\bx W (fun b=>b<W.heap.size) ag g):=fun W hW=>⟨(h3.keep hW hB).mono (fun b h=>l_ (hB b h) hW.size),(h4.keep hW hB).mono (fun b h=>l_ (hB b h) hW.size)⟩;have RA:=h1.1;have PH:=h2.1;have KN:=h3.1;have VW:=h4.1;have RR:Hid (bK ⟨op,fa,fb,fc,fd⟩ at_ ⟨tb,gb⟩ t g=[(at_+1,⟨t,g⟩)]):=by show _=_;simp[bK,de,k19,k29,k30,k20,k21,k38,k39,k41,k31]
 have x19:(op==19)=false:=beq_eq_false_iff_ne.2 k19;have y19:(op != 19)=true:=by simpa using k19
 have x29:(op==29)=false:=beq_eq_false_iff_ne.2 k29;have y29:(op != 29)=true:=by simpa using k29
 have x30:(op==30)=false:=beq_eq_false_iff_ne.2 k30;have y30:(op != 30)=true:=by simpa using k30
 have x20:(op==20)=false:=beq_eq_false_iff_ne.2 k20;have y20:(op != 20)=true:=by simpa using k20
 have x21:(op==21)=false:=beq_eq_false_iff_ne.2 k21;have y21:(op != 21)=true:=by simpa using k21
 have x38:(op==38)=false:=beq_eq_false_iff_ne.2 k38;have y38:(op != 38)=true:=by simpa using k38
 have x39:(op==39)=false:=beq_eq_false_iff_ne.2 k39;have y39:(op != 39)=true:=by simpa using k39
 have x41:(op==41)=false:=beq_eq_false_iff_ne.2 k41;have y41:(op != 41)=true:=by simpa using k41
 have x31:(op==31)=false:=beq_eq_false_iff_ne.2 k31;have y31:(op != 31)=true:=by simpa using k31
 clear k19 k29 k30 k20 k21 k38 k39 k41 k31;rw[RR.out];go_enter Tryz.func62,Tryz.ntmps62;go_wp2_with (first
  | (at_builtin;refine wpList_append_own _ rfl _ _ 106 rfl (w.heap.size+4) 109 i0 (.agg #[i_ 0,.bool false,.slice none 0 0,.slice none 0 0]) 4 64 Tryz.underlying106 hi dE cT dB rfl (by decide) _ _ _ rfl (World.ownsRow_nil _ _ _ _) (a_ (w.heap.size+1+1+1+1) 0) 1 1 [i_ ((at_:Int)+1),.bool true,.slice at2 t.length ct,.slice ag g.length cg] rfl rfl ?c1 ?c2 ?c3 ?c4 ?c5 ?_)
  | go_in)
 all_goals try (case c1=>intro j u hj;rcases j with _ | _ | _ | _ | _<;>simp at hj<;>(aj hj;simp[Addr.add,go_sem]))
 all_goals try (case c2=>first | (intro u hu;simp at hu;rcases hu with rfl | rfl | rfl | rfl<;>rfl) | (simp;done) | rfl)
 all_goals try (case c3=>first | (unfold maxLen;simp;done) | (unfold maxLen;omega) | (simp[maxLen];done))
 all_goals try (case c4=>first | (simp;done) | omega)
 all_goals try (case c5=>first | (simp;done) | (simp;omega) | omega)
 intro v1 w1 hown1 hgrow1 _;have O1:Hid (fK w1 (w.heap.size+4) v1 [⟨(at_:Int)+1,at2,t.length,ct,ag,g.length,cg⟩]):=fK.push (t:=[]) hown1;have B1:Hid (b_ w w1):=((hA _ _ _ _).alloc (by simp;omega) _).grown hgrow1 (by simp;omega) (fun j hj=>by cases hj);have m0:w1.cell? (a_ (w.heap.size+1+1) 0)=some (i_ op):=hgrow1.cell (by simp[go_sem]) (by simp[Value.ownBlock]);have m1:w1.cell? (a_ (w.heap.size+1+1) 1)=some (i_ fa):=hgrow1.cell (by simp[go_sem]) (by simp[Value.ownBlock]);have m2:w1.cell? (a_ (w.heap.size+1+1) 2)=some (i_ fb):=hgrow1.cell (by simp[go_sem]) (by simp[Value.ownBlock]);have m3:w1.cell? (a_ (w.heap.size+1+1) 3)=some (i_ fc):=hgrow1.cell (by simp[go_sem]) (by simp[Value.ownBlock]);have m4:w1.cell? (a_ (w.heap.size+1+1) 4)=some (i_ fd):=hgrow1.cell (by simp[go_sem]) (by simp[Value.ownBlock]);have n1:w1.cell? (a_ (w.heap.size+1) 1)=some (.slice ab tb.length cb):=hgrow1.cell (by simp[go_sem]) (by simp[Value.ownBlock]);have n2:w1.cell? (a_ (w.heap.size+1) 2)=some (.slice agb gb.length cgb):=hgrow1.cell (by simp[go_sem]) (by simp[Value.ownBlock]);have p0:w1.cell? (a_ (w.heap.size+1+1+1) 0)=some (.bool true):=hgrow1.cell (by simp[go_sem]) (by simp[Value.ownBlock]);have p1:w1.cell? (a_ (w.heap.size+1+1+1) 1)=some (.slice at2 t.length ct):=hgrow1.cell (by simp[go_sem]) (by simp[Value.ownBlock]);have p2:w1.cell? (a_ (w.heap.size+1+1+1) 2)=some (.slice ag g.length cg):=hgrow1.cell (by simp[go_sem]) (by simp[Value.ownBlock]);have jf:w.heap.size+1+1+1<w1.heap.size:=by have:=hgrow1.size;simp at this;omega
 have sr:w.heap.size+1+1<w1.heap.size:=by omega
 have Iv:w.heap.size+1<w1.heap.size:=by omega
 clear hown1 hgrow1;go_wp2_with fail
 go_ret;exact JW ((aa O1).base_le (by omega)) ⟨by simp,rfl,rfl,(aa T3 _ (aa B1)).1,(aa T3 _ (aa B1)).2⟩ (aa B1)
theorem oB (op:Int)(fa fb fc fd:Int)(at_:Nat)(nm:ByteArray)(ln pr:Int)(rs:Bool)(rg:Int)(v5 v6 v8:Value)(b off ni c7:Nat)(rb:Bool)(tb t:List Int)(gb g:List bg)(ab agb at2 ag:o_)(cb cgb ct cg:Nat)(S:Nat->Prop)(w:World)(hB:∀ b,S b->b<w.heap.size)(cZ:b<w.heap.size)(fY:at_<ni)(kp:ni<=6000)(hc:aL w b (off+at_ * 5) ⟨op,fa,fb,fc,fd⟩)(h1:aR w S ab tb)(h2:bx w S agb gb)(h3:aR w S at2 t)(h4:bx w S ag g)(ax:t.length<=250)(hltb:tb.length<=250)(fo:op=29\/op=30) :
  c_ 62 #[.agg #[.string nm,i_ ln,i_ pr,.bool rs,i_ rg,v5,v6,.slice (some (a_ b off)) ni c7,v8],i_ at_,.agg #[.bool rb,.slice ab tb.length cb,.slice agb gb.length cgb],.slice at2 t.length ct,.slice ag g.length cg] w (jV (bK ⟨op,fa,fb,fc,fd⟩ at_ ⟨tb,gb⟩ t g) w):=by
 obtain⟨i0,hi,dE,cT,dB⟩:=aN nM;have d0:=hc.op;have d1:=hc.fa;have d2:=hc.fb;have d3:=hc.fc;have d4:=hc.fd;clear hc;simp only at d0 d1 d2 d3 d4;have hA:∀ o1 o2 o3 o4,b_ w ((((w.alloc o1).alloc o2).alloc o3).alloc o4):=fun o1 o2 o3 o4=>(((r_.alloc n_ o1).alloc (by simp) o2).alloc (by simp;omega) o3).alloc (by simp;omega) o4;have T3:Hid (∀ W,b_ w W->aR W (fun b=>b<W.heap.size) at2 t/\bx W (fun b=>b<W.heap.size) ag g):=fun W hW=>⟨(h3.keep hW hB).mono (fun b h=>l_ (hB b h) hW.size),(h4.keep hW hB).mono (fun b h=>l_ (hB b h) hW.size)⟩;have RA:=h1.1;have PH:=h2.1;have KN:=h3.1;have VW:=h4.1;have RR:Hid (bK ⟨op,fa,fb,fc,fd⟩ at_ ⟨tb,gb⟩ t g=[]):=by rcases fo with rfl | rfl<;>rfl
 rw[RR.out];rcases fo with rfl | rfl
 all_goals
  go_enter Tryz.func62,Tryz.ntmps62;go_wp2_with fail
  go_ret;exact Qx (hA _ _ _ _)
theorem uP (fa fb fc fd:Int)(at_:Nat)(nm:ByteArray)(ln pr:Int)(rs:Bool)(rg:Int)(v5 v6 v8:Value)(b off ni c7:Nat)(rb:Bool)(tb t:List Int)(gb g:List bg)(ab agb at2 ag:o_)(cb cgb ct cg:Nat)(S:Nat->Prop)(w:World)(hB:∀ b,S b->b<w.heap.size)(cZ:b<w.heap.size)(fY:at_<ni)(kp:ni<=6000)(hc:aL w b (off+at_ * 5) ⟨19,fa,fb,fc,fd⟩)(h1:aR w S ab tb)(h2:bx w S agb gb)(h3:aR w S at2 t)(h4:bx w S ag g)(ax:t.length<=250)(hltb:tb.length<=250)(rB:0<=fa) :
  c_ 62 #[.agg #[.string nm,i_ ln,i_ pr,.bool rs,i_ rg,v5,v6,.slice (some (a_ b off)) ni c7,v8],i_ at_,.agg #[.bool rb,.slice ab tb.length cb,.slice agb gb.length cgb],.slice at2 t.length ct,.slice ag g.length cg] w (jV (bK ⟨19,fa,fb,fc,fd⟩ at_ ⟨tb,gb⟩ t g) w):=by
 obtain⟨i0,hi,dE,cT,dB⟩:=aN nM;have d0:=hc.op;have d1:=hc.fa;have d2:=hc.fb;have d3:=hc.fc;have d4:=hc.fd;clear hc;simp only at d0 d1 d2 d3 d4;have hA:∀ o1 o2 o3 o4,b_ w ((((w.alloc o1).alloc o2).alloc o3).alloc o4):=fun o1 o2 o3 o4=>(((r_.alloc n_ o1).alloc (by simp) o2).alloc (by simp;omega) o3).alloc (by simp;omega) o4;have T3:Hid (∀ W,b_ w W->aR W (fun b=>b<W.heap.size) at2 t/\bx W (fun b=>b<W.heap.size) ag g):=fun W hW=>⟨(h3.keep hW hB).mono (fun b h=>l_ (hB b h) hW.size),(h4.keep hW hB).mono (fun b h=>l_ (hB b h) hW.size)⟩;have RA:=h1.1;have PH:=h2.1;have KN:=h3.1;have VW:=h4.1;obtain⟨A,rfl⟩:=Int.eq_ofNat_of_zero_le rB;have RR:Hid (bK ⟨19,((A:Nat):Int),fb,fc,fd⟩ at_ ⟨tb,gb⟩ t g=[(A,⟨t,g⟩)]):=rfl;rw[RR.out];go_enter Tryz.func62,Tryz.ntmps62;go_wp2_with (first
  | (at_builtin;refine wpList_append_own _ rfl _ _ 106 rfl (w.heap.size+4) 109 i0 (.agg #[i_ 0,.bool false,.slice none 0 0,.slice none 0 0]) 4 64 Tryz.underlying106 hi dE cT dB rfl (by decide) _ _ _ rfl (World.ownsRow_nil _ _ _ _) (a_ (w.heap.size+1+1+1+1) 0) 1 1 [i_ ((A:Nat):Int),.bool true,.slice at2 t.length ct,.slice ag g.length cg] rfl rfl ?c1 ?c2 ?c3 ?c4 ?c5 ?_)
  | go_in)
 all_goals try (case c1=>intro j u hj;rcases j with _ | _ | _ | _ | _<;>simp at hj<;>(aj hj;simp[Addr.add,go_sem]))
 all_goals try (case c2=>first | (intro u hu;simp at hu;rcases hu with rfl | rfl | rfl | rfl<;>rfl) | (simp;done) | rfl)
 all_goals try (case c3=>first | (unfold maxLen;simp;done) | (unfold maxLen;omega) | (simp[maxLen];done))
 all_goals try (case c4=>first | (simp;done) | omega)
 all_goals try (case c5=>first | (simp;done) | (simp;omega) | omega)
 intro v1 w1 hown1 hgrow1 _;have O1:Hid (fK w1 (w.heap.size+4) v1 [⟨((A:Nat):Int),at2,t.length,ct,ag,g.length,cg⟩]):=fK.push (t:=[]) hown1;have B1:Hid (b_ w w1):=((hA _ _ _ _).alloc (by simp;omega) _).grown hgrow1 (by simp;omega) (fun j hj=>by cases hj);clear hown1 hgrow1;go_wp2_with fail
 go_ret;exact JW ((aa O1).base_le (by omega)) ⟨by simp,rfl,rfl,(aa T3 _ (aa B1)).1,(aa T3 _ (aa B1)).2⟩ (aa B1)
theorem jl (op:Int)(fa fb fc fd:Int)(at_:Nat)(nm:ByteArray)(ln pr:Int)(rs:Bool)(rg:Int)(v5 v6 v8:Value)(b off ni c7:Nat)(rb:Bool)(tb t:List Int)(gb g:List bg)(ab agb at2 ag:o_)(cb cgb ct cg:Nat)(S:Nat->Prop)(w:World)(hB:∀ b,S b->b<w.heap.size)(cZ:b<w.heap.size)(fY:at_<ni)(kp:ni<=6000)(hc:aL w b (off+at_ * 5) ⟨op,fa,fb,fc,fd⟩)(h1:aR w S ab tb)(h2:bx w S agb gb)(h3:aR w S at2 t)(h4:bx w S ag g)(ax:t.length<=250)(hltb:tb.length<=250)(rB:0<=fb)(fo:op=20\/op=21\/op=38\/op=39) :
  c_ 62 #[.agg #[.string nm,i_ ln,i_ pr,.bool rs,i_ rg,v5,v6,.slice (some (a_ b off)) ni c7,v8],i_ at_,.agg #[.bool rb,.slice ab tb.length cb,.slice agb gb.length cgb],.slice at2 t.length ct,.slice ag g.length cg] w (jV (bK ⟨op,fa,fb,fc,fd⟩ at_ ⟨tb,gb⟩ t g) w):=by
 obtain⟨i0,hi,dE,cT,dB⟩:=aN nM;have d0:=hc.op;have d1:=hc.fa;have d2:=hc.fb;have d3:=hc.fc;have d4:=hc.fd;clear hc;simp only at d0 d1 d2 d3 d4;have hA:∀ o1 o2 o3 o4,b_ w ((((w.alloc o1).alloc o2).alloc o3).alloc o4):=fun o1 o2 o3 o4=>(((r_.alloc n_ o1).alloc (by simp) o2).alloc (by simp;omega) o3).alloc (by simp;omega) o4;have T3:Hid (∀ W,b_ w W->aR W (fun b=>b<W.heap.size) at2 t/\bx W (fun b=>b<W.heap.size) ag g):=fun W hW=>⟨(h3.keep hW hB).mono (fun b h=>l_ (hB b h) hW.size),(h4.keep hW hB).mono (fun b h=>l_ (hB b h) hW.size)⟩;have RA:=h1.1;have PH:=h2.1;have KN:=h3.1;have VW:=h4.1;obtain⟨B,rfl⟩:=Int.eq_ofNat_of_zero_le rB;have RR:Hid (bK ⟨op,fa,((B:Nat):Int),fc,fd⟩ at_ ⟨tb,gb⟩ t g=[(at_+1,⟨t,g⟩),(B,⟨t,g⟩)]):=by rcases fo with rfl | rfl | rfl | rfl<;>rfl
 rw[RR.out];obtain⟨o,ho⟩:∃ o,o=op:=⟨_,rfl⟩;rcases fo with rfl | rfl | rfl | rfl
 all_goals
  go_enter Tryz.func62,Tryz.ntmps62;go_wp2_with (first
   | (at_builtin;refine wpList_append_own _ rfl _ _ 106 rfl (w.heap.size+4) 109 i0 (.agg #[i_ 0,.bool false,.slice none 0 0,.slice none 0 0]) 4 64 Tryz.underlying106 hi dE cT dB rfl (by decide) _ _ _ rfl (World.ownsRow_nil _ _ _ _) (a_ (w.heap.size+1+1+1+1) 0) 1 1 [i_ ((at_:Int)+1),.bool true,.slice at2 t.length ct,.slice ag g.length cg] rfl rfl ?c1 ?c2 ?c3 ?c4 ?c5 ?_)
   | go_in)
  all_goals try (case c1=>intro j u hj;rcases j with _ | _ | _ | _ | _<;>simp at hj<;>(aj hj;simp[Addr.add,go_sem]))
  all_goals try (case c2=>first | (intro u hu;simp at hu;rcases hu with rfl | rfl | rfl | rfl<;>rfl) | (simp;done) | rfl)
  all_goals try (case c3=>first | (unfold maxLen;simp;done) | (unfold maxLen;omega) | (simp[maxLen];done))
  all_goals try (case c4=>first | (simp;done) | omega)
  all_goals try (case c5=>first | (simp;done) | (simp;omega) | omega)
  intro v1 w1 hown1 hgrow1 _;have O1:Hid (fK w1 (w.heap.size+4) v1 [⟨(at_:Int)+1,at2,t.length,ct,ag,g.length,cg⟩]):=fK.push (t:=[]) hown1;have B1:Hid (b_ w w1):=((hA _ _ _ _).alloc (by simp;omega) _).grown hgrow1 (by simp;omega) (fun j hj=>by cases hj);have m0:w1.cell? (a_ (w.heap.size+1+1) 0)=some (i_ o):=by rw[ho];exact hgrow1.cell (by simp[go_sem]) (by simp[Value.ownBlock])
  rw[ho]at m0;have m1:w1.cell? (a_ (w.heap.size+1+1) 1)=some (i_ fa):=hgrow1.cell (by simp[go_sem]) (by simp[Value.ownBlock]);have m2:w1.cell? (a_ (w.heap.size+1+1) 2)=some (i_ ((B:Nat):Int)):=hgrow1.cell (by simp[go_sem]) (by simp[Value.ownBlock]);have m3:w1.cell? (a_ (w.heap.size+1+1) 3)=some (i_ fc):=hgrow1.cell (by simp[go_sem]) (by simp[Value.ownBlock]);have m4:w1.cell? (a_ (w.heap.size+1+1) 4)=some (i_ fd):=hgrow1.cell (by simp[go_sem]) (by simp[Value.ownBlock]);have n1:w1.cell? (a_ (w.heap.size+1) 1)=some (.slice ab tb.length cb):=hgrow1.cell (by simp[go_sem]) (by simp[Value.ownBlock]);have n2:w1.cell? (a_ (w.heap.size+1) 2)=some (.slice agb gb.length cgb):=hgrow1.cell (by simp[go_sem]) (by simp[Value.ownBlock]);have p0:w1.cell? (a_ (w.heap.size+1+1+1) 0)=some (.bool true):=hgrow1.cell (by simp[go_sem]) (by simp[Value.ownBlock]);have p1:w1.cell? (a_ (w.heap.size+1+1+1) 1)=some (.slice at2 t.length ct):=hgrow1.cell (by simp[go_sem]) (by simp[Value.ownBlock]);have p2:w1.cell? (a_ (w.heap.size+1+1+1) 2)=some (.slice ag g.length cg):=hgrow1.cell (by simp[go_sem]) (by simp[Value.ownBlock]);have jf:w.heap.size+1+1+1<w1.heap.size:=by have:=hgrow1.size;simp at this;omega
  have sr:w.heap.size+1+1<w1.heap.size:=by omega
  have Iv:w.heap.size+1<w1.heap.size:=by omega
  clear hown1 hgrow1;go_wp2_with (first
   | (at_builtin;refine wpList_append_own _ rfl _ _ 106 rfl (w.heap.size+4) 109 i0 (.agg #[i_ 0,.bool false,.slice none 0 0,.slice none 0 0]) 4 64 Tryz.underlying106 hi dE cT dB rfl (by decide) _ _ _ rfl ((aa O1).alloc _) (a_ w1.heap.size 0) 1 1 [i_ ((B:Nat):Int),.bool true,.slice at2 t.length ct,.slice ag g.length cg] rfl rfl ?c1 ?c2 ?c3 ?c4 ?c5 ?_)
   | go_in)
  all_goals try (case c1=>intro j u hj;rcases j with _ | _ | _ | _ | _<;>simp at hj<;>(aj hj;simp[Addr.add,go_sem]))
  all_goals try (case c2=>first | (intro u hu;simp at hu;rcases hu with rfl | rfl | rfl | rfl<;>rfl) | (simp;done) | rfl)
  all_goals try (case c3=>first | (unfold maxLen;simp;done) | (unfold maxLen;omega) | (simp[maxLen];done))
  all_goals try (case c4=>first | (simp;done) | omega)
  all_goals try (case c5=>first | (simp;done) | (simp;omega) | omega)
  intro v2 w2 hown2 hgrow2 _;have O2:Hid (fK w2 (w.heap.size+4) v2 [⟨(at_:Int)+1,at2,t.length,ct,ag,g.length,cg⟩,⟨((B:Nat):Int),at2,t.length,ct,ag,g.length,cg⟩]):=fK.push (t:=[⟨(at_:Int)+1,at2,t.length,ct,ag,g.length,cg⟩]) hown2;have B2:Hid (b_ w w2):=((aa B1).alloc (by omega) _).grown hgrow2 (by simp;omega) (fun j hj=>by have:=((aa O1).lt j hj).1;omega);clear hown2 hgrow2;go_wp2_with fail
  go_ret;exact Dx ((aa O2).base_le (by omega)) ⟨by simp,rfl,rfl,(aa T3 _ (aa B2)).1,(aa T3 _ (aa B2)).2⟩ ⟨by simp,rfl,rfl,(aa T3 _ (aa B2)).1,(aa T3 _ (aa B2)).2⟩ (aa B2)
theorem tK (fa fb fc fd:Int)(at_:Nat)(nm:ByteArray)(ln pr:Int)(rs:Bool)(rg:Int)(v5 v6 v8:Value)(b off ni c7:Nat)(rb:Bool)(tb t:List Int)(gb g:List bg)(ab agb at2 ag:o_)(cb cgb ct cg:Nat)(S:Nat->Prop)(w:World)(hB:∀ b,S b->b<w.heap.size)(cZ:b<w.heap.size)(fY:at_<ni)(kp:ni<=6000)(hc:aL w b (off+at_ * 5) ⟨41,fa,fb,fc,fd⟩)(h1:aR w S ab tb)(h2:bx w S agb gb)(h3:aR w S at2 t)(h4:bx w S ag g)(ax:t.length<=250)(hltb:tb.length<=250)(rB:0<=fb)(fJ:0<=fc)(wd:fc<t.length)(htt:tb.length=t.length) :
  c_ 62 #[.agg #[.string nm,i_ ln,i_ pr,.bool rs,i_ rg,v5,v6,.slice (some (a_ b off)) ni c7,v8],i_ at_,.agg #[.bool rb,.slice ab tb.length cb,.slice agb gb.length cgb],.slice at2 t.length ct,.slice ag g.length cg] w (jV (bK ⟨41,fa,fb,fc,fd⟩ at_ ⟨tb,gb⟩ t g) w):=by
 obtain⟨i0,hi,dE,cT,dB⟩:=aN nM;have d0:=hc.op;have d1:=hc.fa;have d2:=hc.fb;have d3:=hc.fc;have d4:=hc.fd;clear hc;simp only at d0 d1 d2 d3 d4;have hA:∀ o1 o2 o3 o4,b_ w ((((w.alloc o1).alloc o2).alloc o3).alloc o4):=fun o1 o2 o3 o4=>(((r_.alloc n_ o1).alloc (by simp) o2).alloc (by simp;omega) o3).alloc (by simp;omega) o4;have T3:Hid (∀ W,b_ w W->aR W (fun b=>b<W.heap.size) at2 t/\bx W (fun b=>b<W.heap.size) ag g):=fun W hW=>⟨(h3.keep hW hB).mono (fun b h=>l_ (hB b h) hW.size),(h4.keep hW hB).mono (fun b h=>l_ (hB b h) hW.size)⟩;have RA:=h1.1;have PH:=h2.1;have KN:=h3.1;have VW:=h4.1;obtain⟨B,rfl⟩:=Int.eq_ofNat_of_zero_le rB;obtain⟨C,rfl⟩:=Int.eq_ofNat_of_zero_le fJ;have hC:C<t.length:=by omega
 have hCb:C<tb.length:=by omega
 have HTT:=af htt;clear htt wd;have RR:Hid (bK ⟨41,fa,((B:Nat):Int),((C:Nat):Int),fd⟩ at_ ⟨tb,gb⟩ t g=[(at_+1,⟨t,g⟩),(B,⟨t.set C (bb tb C),g⟩)]):=rfl;rw[RR.out];go_enter Tryz.func62,Tryz.ntmps62;go_wp2_with (first
  | (at_builtin;refine wpList_append_own _ rfl _ _ 106 rfl (w.heap.size+4) 109 i0 (.agg #[i_ 0,.bool false,.slice none 0 0,.slice none 0 0]) 4 64 Tryz.underlying106 hi dE cT dB rfl (by decide) _ _ _ rfl (World.ownsRow_nil _ _ _ _) (a_ (w.heap.size+1+1+1+1) 0) 1 1 [i_ ((at_:Int)+1),.bool true,.slice at2 t.length ct,.slice ag g.length cg] rfl rfl ?c1 ?c2 ?c3 ?c4 ?c5 ?_)
  | go_in)
 all_goals try (case c1=>intro j u hj;rcases j with _ | _ | _ | _ | _<;>simp at hj<;>(aj hj;simp[Addr.add,go_sem]))
 all_goals try (case c2=>first | (intro u hu;simp at hu;rcases hu with rfl | rfl | rfl | rfl<;>rfl) | (simp;done) | rfl)
 all_goals try (case c3=>first | (unfold maxLen;simp;done) | (unfold maxLen;omega) | (simp[maxLen];done))
 all_goals try (case c4=>first | (simp;done) | omega)
 all_goals try (case c5=>first | (simp;done) | (simp;omega) | omega)
 intro v1 w1 hown1 hgrow1 _;have O1:Hid (fK w1 (w.heap.size+4) v1 [⟨(at_:Int)+1,at2,t.length,ct,ag,g.length,cg⟩]):=fK.push (t:=[]) hown1;have B1:Hid (b_ w w1):=((hA _ _ _ _).alloc (by simp;omega) _).grown hgrow1 (by simp;omega) (fun j hj=>by cases hj);have m0:w1.cell? (a_ (w.heap.size+1+1) 0)=some (i_ 41):=hgrow1.cell (by simp[go_sem]) (by simp[Value.ownBlock]);have m1:w1.cell? (a_ (w.heap.size+1+1) 1)=some (i_ fa):=hgrow1.cell (by simp[go_sem]) (by simp[Value.ownBlock]);have m2:w1.cell? (a_ (w.heap.size+1+1) 2)=some (i_ ((B:Nat):Int)):=hgrow1.cell (by simp[go_sem]) (by simp[Value.ownBlock]);have m3:w1.cell? (a_ (w.heap.size+1+1) 3)=some (i_ ((C:Nat):Int)):=hgrow1.cell (by simp[go_sem]) (by simp[Value.ownBlock]);have m4:w1.cell? (a_ (w.heap.size+1+1) 4)=some (i_ fd):=hgrow1.cell (by simp[go_sem]) (by simp[Value.ownBlock]);have n1:w1.cell? (a_ (w.heap.size+1) 1)=some (.slice ab tb.length cb):=hgrow1.cell (by simp[go_sem]) (by simp[Value.ownBlock]);have n2:w1.cell? (a_ (w.heap.size+1) 2)=some (.slice agb gb.length cgb):=hgrow1.cell (by simp[go_sem]) (by simp[Value.ownBlock]);have p0:w1.cell? (a_ (w.heap.size+1+1+1) 0)=some (.bool true):=hgrow1.cell (by simp[go_sem]) (by simp[Value.ownBlock]);have p1:w1.cell? (a_ (w.heap.size+1+1+1) 1)=some (.slice at2 t.length ct):=hgrow1.cell (by simp[go_sem]) (by simp[Value.ownBlock]);have p2:w1.cell? (a_ (w.heap.size+1+1+1) 2)=some (.slice ag g.length cg):=hgrow1.cell (by simp[go_sem]) (by simp[Value.ownBlock]);have jf:w.heap.size+1+1+1<w1.heap.size:=by have:=hgrow1.size;simp at this;omega
 have sr:w.heap.size+1+1<w1.heap.size:=by omega
 have Iv:w.heap.size+1<w1.heap.size:=by omega
 clear hown1 hgrow1;go_wp2_with fail
 refine(mg at2 t ct S w1 (h3.keep (aa B1) hB) (fun b h=>l_ (hB b h) (aa B1).size) (by omega)).mono ?_;rintro e w2 ⟨v2,rfl,Ec,bo⟩;obtain⟨g2,lr,vk,wq,Zo,fe⟩:=Ec.at (by omega)
 aj vk
 obtain⟨aE,EC⟩:=cz bo;have q0:w2.cell? (a_ (w.heap.size+1+1) 0)=some (i_ 41):=(aE _ _ (by omega)).trans m0;have q1:w2.cell? (a_ (w.heap.size+1+1) 1)=some (i_ fa):=(aE _ _ (by omega)).trans m1;have q2:w2.cell? (a_ (w.heap.size+1+1) 2)=some (i_ ((B:Nat):Int)):=(aE _ _ (by omega)).trans m2;have q3:w2.cell? (a_ (w.heap.size+1+1) 3)=some (i_ ((C:Nat):Int)):=(aE _ _ (by omega)).trans m3;have q4:w2.cell? (a_ (w.heap.size+1+1) 4)=some (i_ fd):=(aE _ _ (by omega)).trans m4;have qn1:w2.cell? (a_ (w.heap.size+1) 1)=some (.slice ab tb.length cb):=(aE _ _ (by omega)).trans n1;have qn2:w2.cell? (a_ (w.heap.size+1) 2)=some (.slice agb gb.length cgb):=(aE _ _ (by omega)).trans n2;have BK:=bo.size;have Yx:w.heap.size+1+1<w2.heap.size:=by omega
 have U2:w.heap.size+1<w2.heap.size:=by omega
 obtain⟨b3,VI,rfl,Oq,jD⟩:=(h1.keep ((aa B1).trans (bo.mono (aa B1).size)) hB).2 (by omega);have r3:=jD C (by omega);have bY:b3<w2.heap.size:=l_ (hB b3 Oq) (by have:=(aa B1).size;omega);have cC:=fe C hC;have zC:=Ec.frozen rfl C;have Oi:b3≠g2:=by have:=hB b3 Oq;have:=(aa B1).size;omega
 have HY:Hid (bb tb C=tb[C]?.getD 0):=rfl;clear jD;generalize tb[C]?.getD 0=y at *;have OT:=af ((Ec.set rfl C y));have B2s:Hid (b_ w1 (w2.setCell (a_ g2 C) (i_ y))):=bo.setCell wq _;have M0:=af m0;have M2:=af m2;have M1:=af m1;have P1:=af p1;have P2:=af p2;clear fe Ec bo aE EC m0 m1 m2 m3 m4 n1 n2 p0 p1 p2;go_wp2_with fail
 go_region
 generalize LX:(w2.setCell (a_ g2 C) (i_ y)).drew=w3 at *;have bY:b_ w1 w3:=by rw[<-LX];exact(aa B2s).drew
 have O3:Hid (ar w3 w1.heap.size (.slice (some (a_ g2 0)) t.length lr) (t.set C y)):=by show ar _ _ _ _;rw[<-LX];exact World.ownsRow.drew (aa OT)
 obtain⟨aE,EC⟩:=cz bY;have q0:=(aE _ _ (by omega:w.heap.size+1+1<w1.heap.size)).trans M0.out;have q2:=(aE _ _ (by omega:w.heap.size+1+1<w1.heap.size)).trans M2.out;have OF:=af ((aa O1).below bY);have B3:=af ((aa B1).trans (bY.mono (aa B1).size));have hw3s:=bY.size;have hs6:w.heap.size+1+1<w3.heap.size:=by omega
 have Hl:g2<w3.heap.size:=by rw[<-LX];simp;omega
 clear LX bY aE EC cC zC OT B2s;go_wp2_with (first
  | (at_builtin;refine wpList_append_own _ rfl _ _ 106 rfl (w.heap.size+4) 109 i0 (.agg #[i_ 0,.bool false,.slice none 0 0,.slice none 0 0]) 4 64 Tryz.underlying106 hi dE cT dB rfl (by decide) _ _ _ rfl ((aa OF).alloc _) (a_ w3.heap.size 0) 1 1 [i_ ((B:Nat):Int),.bool true,.slice (some (a_ g2 0)) t.length lr,.slice ag g.length cg] rfl rfl ?c1 ?c2 ?c3 ?c4 ?c5 ?_)
  | go_in)
 all_goals try (case c1=>intro j u hj;rcases j with _ | _ | _ | _ | _<;>simp at hj<;>(aj hj;simp[Addr.add,go_sem]))
 all_goals try (case c2=>first | (intro u hu;simp at hu;rcases hu with rfl | rfl | rfl | rfl<;>rfl) | (simp;done) | rfl)
 all_goals try (case c3=>first | (unfold maxLen;simp;done) | (unfold maxLen;omega) | (simp[maxLen];done))
 all_goals try (case c4=>first | (simp;done) | omega)
 all_goals try (case c5=>first | (simp;done) | (simp;omega) | omega)
 intro v4 w4 hown4 hgrow4 _;have O4:Hid (fK w4 (w.heap.size+4) v4 [⟨(at_:Int)+1,at2,t.length,ct,ag,g.length,cg⟩,⟨((B:Nat):Int),some (a_ g2 0),t.length,lr,ag,g.length,cg⟩]):=fK.push (t:=[⟨(at_:Int)+1,at2,t.length,ct,ag,g.length,cg⟩]) hown4;have B4:Hid (b_ w w4):=((aa B3).alloc (by omega) _).grown hgrow4 (by simp;omega) (fun j hj=>by have:=((aa O1).lt j hj).1;omega);have T4:Hid (aR w4 (fun b=>b<w4.heap.size) (some (a_ g2 0)) (t.set C y)):=by
  have hk:ar w4 w1.heap.size (.slice (some (a_ g2 0)) t.length lr) (t.set C y):=ar.kept ((aa O3).alloc _) hgrow4 (.inr (fun e=>by
   have:=((aa O1).lt g2 e.symm).2;omega))
  obtain⟨g',iM,jE,_,Pv,uW⟩:=hk.at (by simp;omega);have gQ:g'=g2:=by injection jE with h;injection h with h;exact(congrArg Addr.block h).symm
  aj gQ
  exact⟨by simp;omega,fun _=>⟨g',0,rfl,Pv,fun j hj=>by rw[Nat.zero_add];exact uW j hj⟩⟩
 rw[<-HY.out]at T4;clear hown4 hgrow4;go_wp2_with fail
 go_ret;exact Dx ((aa O4).base_le (by omega)) ⟨by simp,rfl,rfl,(aa T3 _ (aa B4)).1,(aa T3 _ (aa B4)).2⟩ ⟨rfl,by simp,rfl,aa T4,(aa T3 _ (aa B4)).2⟩ (aa B4)
theorem uM (fa fb fc fd:Int)(at_:Nat)(nm:ByteArray)(ln pr:Int)(rs:Bool)(rg:Int)(v5 v6 v8:Value)(b off ni c7:Nat)(rb:Bool)(tb t:List Int)(gb g:List bg)(ab agb at2 ag:o_)(cb cgb ct cg:Nat)(S:Nat->Prop)(w:World)(hB:∀ b,S b->b<w.heap.size)(cZ:b<w.heap.size)(fY:at_<ni)(kp:ni<=6000)(hc:aL w b (off+at_ * 5) ⟨31,fa,fb,fc,fd⟩)(h1:aR w S ab tb)(h2:bx w S agb gb)(h3:aR w S at2 t)(h4:bx w S ag g)(ax:t.length<=250)(hltb:tb.length<=250)(rB:0<=fb)(fJ:0<=fa)(wd:fb+2<=tb.length) :
  c_ 62 #[.agg #[.string nm,i_ ln,i_ pr,.bool rs,i_ rg,v5,v6,.slice (some (a_ b off)) ni c7,v8],i_ at_,.agg #[.bool rb,.slice ab tb.length cb,.slice agb gb.length cgb],.slice at2 t.length ct,.slice ag g.length cg] w (jV (bK ⟨31,fa,fb,fc,fd⟩ at_ ⟨tb,gb⟩ t g) w):=by
 obtain⟨i0,hi,dE,cT,dB⟩:=aN nM;have d0:=hc.op;have d1:=hc.fa;have d2:=hc.fb;have d3:=hc.fc;have d4:=hc.fd;clear hc;simp only at d0 d1 d2 d3 d4;have hA:∀ o1 o2 o3 o4,b_ w ((((w.alloc o1).alloc o2).alloc o3).alloc o4):=fun o1 o2 o3 o4=>(((r_.alloc n_ o1).alloc (by simp) o2).alloc (by simp;omega) o3).alloc (by simp;omega) o4;have T3:Hid (∀ W,b_ w W->aR W (fun b=>b<W.heap.size) at2 t/\bx W (fun b=>b<W.heap.size) ag g):=fun W hW=>⟨(h3.keep hW hB).mono (fun b h=>l_ (hB b h) hW.size),(h4.keep hW hB).mono (fun b h=>l_ (hB b h) hW.size)⟩;have RA:=h1.1;have PH:=h2.1;have KN:=h3.1;have VW:=h4.1;obtain⟨B,rfl⟩:=Int.eq_ofNat_of_zero_le rB;obtain⟨A,rfl⟩:=Int.eq_ofNat_of_zero_le fJ;have ss:B+2<=tb.length:=by omega
 have RR:Hid (bK ⟨31,((A:Nat):Int),((B:Nat):Int),fc,fd⟩ at_ ⟨tb,gb⟩ t g=[(at_+1,⟨t,g⟩),(A,⟨dI ⟨31,((A:Nat):Int),((B:Nat):Int),fc,fd⟩ tb,gb⟩)]):=rfl;rw[RR.out];have HH:Hid (dI ⟨31,((A:Nat):Int),((B:Nat):Int),fc,fd⟩ tb=((mZ tb B (tb.length-B)).set B 1).set (B+1) 1):=by
  show _=_;rw[C6 tb B (by omega)];rfl
 generalize dI ⟨31,((A:Nat):Int),((B:Nat):Int),fc,fd⟩ tb=Bo at *;have T5:Hid (∀ W,b_ w W->bx W (fun b=>b<W.heap.size) agb gb):=fun W hW=>(h2.keep hW hB).mono (fun b h=>l_ (hB b h) hW.size);clear wd;go_enter Tryz.func62,Tryz.ntmps62;go_wp2_with (first
  | (at_builtin;refine wpList_append_own _ rfl _ _ 106 rfl (w.heap.size+4) 109 i0 (.agg #[i_ 0,.bool false,.slice none 0 0,.slice none 0 0]) 4 64 Tryz.underlying106 hi dE cT dB rfl (by decide) _ _ _ rfl (World.ownsRow_nil _ _ _ _) (a_ (w.heap.size+1+1+1+1) 0) 1 1 [i_ ((at_:Int)+1),.bool true,.slice at2 t.length ct,.slice ag g.length cg] rfl rfl ?c1 ?c2 ?c3 ?c4 ?c5 ?_)
  | go_in)
 all_goals try (case c1=>intro j u hj;rcases j with _ | _ | _ | _ | _<;>simp at hj<;>(aj hj;simp[Addr.add,go_sem]))
 all_goals try (case c2=>first | (intro u hu;simp at hu;rcases hu with rfl | rfl | rfl | rfl<;>rfl) | (simp;done) | rfl)
 all_goals try (case c3=>first | (unfold maxLen;simp;done) | (unfold maxLen;omega) | (simp[maxLen];done))
 all_goals try (case c4=>first | (simp;done) | omega)
 all_goals try (case c5=>first | (simp;done) | (simp;omega) | omega)
 intro v1 w1 hown1 hgrow1 _;have O1:Hid (fK w1 (w.heap.size+4) v1 [⟨(at_:Int)+1,at2,t.length,ct,ag,g.length,cg⟩]):=fK.push (t:=[]) hown1;have B1:Hid (b_ w w1):=((hA _ _ _ _).alloc (by simp;omega) _).grown hgrow1 (by simp;omega) (fun j hj=>by cases hj);have m0:w1.cell? (a_ (w.heap.size+1+1) 0)=some (i_ 31):=hgrow1.cell (by simp[go_sem]) (by simp[Value.ownBlock]);have m1:w1.cell? (a_ (w.heap.size+1+1) 1)=some (i_ ((A:Nat):Int)):=hgrow1.cell (by simp[go_sem]) (by simp[Value.ownBlock]);have m2:w1.cell? (a_ (w.heap.size+1+1) 2)=some (i_ ((B:Nat):Int)):=hgrow1.cell (by simp[go_sem]) (by simp[Value.ownBlock]);have m3:w1.cell? (a_ (w.heap.size+1+1) 3)=some (i_ fc):=hgrow1.cell (by simp[go_sem]) (by simp[Value.ownBlock]);have m4:w1.cell? (a_ (w.heap.size+1+1) 4)=some (i_ fd):=hgrow1.cell (by simp[go_sem]) (by simp[Value.ownBlock]);have n1:w1.cell? (a_ (w.heap.size+1) 1)=some (.slice ab tb.length cb):=hgrow1.cell (by simp[go_sem]) (by simp[Value.ownBlock]);have n2:w1.cell? (a_ (w.heap.size+1) 2)=some (.slice agb gb.length cgb):=hgrow1.cell (by simp[go_sem]) (by simp[Value.ownBlock]);have p0:w1.cell? (a_ (w.heap.size+1+1+1) 0)=some (.bool true):=hgrow1.cell (by simp[go_sem]) (by simp[Value.ownBlock]);have p1:w1.cell? (a_ (w.heap.size+1+1+1) 1)=some (.slice at2 t.length ct):=hgrow1.cell (by simp[go_sem]) (by simp[Value.ownBlock]);have p2:w1.cell? (a_ (w.heap.size+1+1+1) 2)=some (.slice ag g.length cg):=hgrow1.cell (by simp[go_sem]) (by simp[Value.ownBlock]);have jf:w.heap.size+1+1+1<w1.heap.size:=by have:=hgrow1.size;simp at this;omega
 have sr:w.heap.size+1+1<w1.heap.size:=by omega
 have Iv:w.heap.size+1<w1.heap.size:=by omega
 clear hown1 hgrow1;go_wp2_with fail
 refine(mg ab tb cb S w1 (h1.keep (aa B1) hB) (fun b h=>l_ (hB b h) (aa B1).size) (by omega)).mono ?_;rintro e w2 ⟨v2,rfl,Ec,bo⟩;obtain⟨g2,lr,vk,wq,Zo,fe⟩:=Ec.at (by omega)
 aj vk
 obtain⟨aE,EC⟩:=cz bo;have q0:w2.cell? (a_ (w.heap.size+1+1) 0)=some (i_ 31):=(aE _ _ (by omega)).trans m0;have q1:w2.cell? (a_ (w.heap.size+1+1) 1)=some (i_ ((A:Nat):Int)):=(aE _ _ (by omega)).trans m1;have q2:w2.cell? (a_ (w.heap.size+1+1) 2)=some (i_ ((B:Nat):Int)):=(aE _ _ (by omega)).trans m2;have q3:w2.cell? (a_ (w.heap.size+1+1) 3)=some (i_ fc):=(aE _ _ (by omega)).trans m3;have q4:w2.cell? (a_ (w.heap.size+1+1) 4)=some (i_ fd):=(aE _ _ (by omega)).trans m4;have qn1:w2.cell? (a_ (w.heap.size+1) 1)=some (.slice ab tb.length cb):=(aE _ _ (by omega)).trans n1;have qn2:w2.cell? (a_ (w.heap.size+1) 2)=some (.slice agb gb.length cgb):=(aE _ _ (by omega)).trans n2;have BK:=bo.size;have Yx:w.heap.size+1+1<w2.heap.size:=by omega
 have U2:w.heap.size+1<w2.heap.size:=by omega
 have vn:=af Ec;have M0:=af m0;have M2:=af m2;have M1:=af m1;have N2:=af n2;have fN:=af bo;clear fe Ec bo aE EC m0 m1 m2 m3 m4 n1 n2 p0 p1 p2;go_wp2_with fail
 go_loopg [16] (tb.length-B) (fun gg i wr=>∃(d:Nat),d+gg=tb.length-B/\i=i_ ((B+d:Nat):Int)/\ar wr w1.heap.size (.slice (some (a_ g2 0)) tb.length lr) (mZ tb B d)/\b_ w1 wr)
 case atStart=>exact⟨0,by omega,rfl,aa vn,aa fN⟩
 case round=>
  clear q0 q1 q2 q3 q4 qn1 qn2 vn fN;obtain⟨d,hd,rfl,ho,hb⟩:=hrel;obtain⟨g',iM,jE,If,fm,uW⟩:=ho.at (by rw[fj];omega);rw[fj]at jE uW;have gQ:g2=g':=by injection jE with h;injection h with h;exact congrArg Addr.block h
  aj gQ
  have hz:=fun j=>ho.frozen (fj tb B d).symm j;have En:=hb.size;clear jE;by_cases ax:B+d<tb.length
  ·have cj:=uW (B+d) ax;have zj:=hz (B+d);have HO:=af ho;have oH:=af hb;clear uW hz ho hb;go_wp2_with fail
   go_roundg (tb.length-B-(d+1))
   case measure=>omega
   case rel=>exact⟨d+1,by omega,by go_num,(aa HO).set (fj tb B d).symm (B+d) 0,(aa oH).setCell (by show w1.heap.size<=g2;omega) _⟩
  ·have Pg:d=tb.length-B:=by omega
   have HO:=af ho;rw[Pg]at HO;have c1:=uW B (by omega);have c2:=uW (B+1) (by omega);have z1:=hz B;have z2:=hz (B+1);obtain⟨aE,EC⟩:=cz hb;have q0:=(aE _ _ (by omega:w.heap.size+1+1<w1.heap.size)).trans M0.out;have q1:=(aE _ _ (by omega:w.heap.size+1+1<w1.heap.size)).trans M1.out;have q2:=(aE _ _ (by omega:w.heap.size+1+1<w1.heap.size)).trans M2.out;have qn2:=(aE _ _ (by omega:w.heap.size+1<w1.heap.size)).trans N2.out;have hs6:w.heap.size+1+1<wr.heap.size:=by omega
   have hs7:w.heap.size+1<wr.heap.size:=by omega
   have LC:g2≠w.heap.size+1+1:=by omega
   have KQ:g2≠w.heap.size+1:=by omega
   have Oi:¬w.heap.size+1+1=g2:=by omega
   have hne4:¬w.heap.size+1=g2:=by omega
   have O3:Hid (ar ((wr.setCell (a_ g2 B) (i_ 1)).setCell (a_ g2 (B+1)) (i_ 1)) w1.heap.size (.slice (some (a_ g2 0)) tb.length lr) Bo):=by
    show ar _ _ _ _;rw[HH.out];exact((aa HO).set (by rw[fj]) B 1).set (by rw[List.length_set,fj]) (B+1) 1
   have B3:Hid (b_ w1 ((wr.setCell (a_ g2 B) (i_ 1)).setCell (a_ g2 (B+1)) (i_ 1))):=(hb.setCell (by show w1.heap.size<=g2;omega) _).setCell (by show w1.heap.size<=g2;omega) _;have OF:=af ((aa O1).below (aa B3));have B5:=af ((aa B1).trans ((aa B3).mono (aa B1).size));clear aE EC uW hz ho hb HO Pg hd;go_wp2_with (first
    | (at_builtin;refine wpList_append_own _ rfl _ _ 106 rfl (w.heap.size+4) 109 i0 (.agg #[i_ 0,.bool false,.slice none 0 0,.slice none 0 0]) 4 64 Tryz.underlying106 hi dE cT dB rfl (by decide) _ _ _ rfl ((aa OF).alloc _) (a_ wr.heap.size 0) 1 1 [i_ ((A:Nat):Int),.bool true,.slice (some (a_ g2 0)) tb.length lr,.slice agb gb.length cgb] rfl rfl ?c1 ?c2 ?c3 ?c4 ?c5 ?_)
    | go_in)
   all_goals try (case c1=>intro j u hj;rcases j with _ | _ | _ | _ | _<;>simp at hj<;>(aj hj;simp[Addr.add,go_sem]))
   all_goals try (case c2=>first | (intro u hu;simp at hu;rcases hu with rfl | rfl | rfl | rfl<;>rfl) | (simp;done) | rfl)
   all_goals try (case c3=>first | (unfold maxLen;simp;done) | (unfold maxLen;omega) | (simp[maxLen];done))
   all_goals try (case c4=>first | (simp;done) | omega)
   all_goals try (case c5=>first | (simp;done) | (simp;omega) | omega)
   intro v4 w4 hown4 hgrow4 _;have O4:Hid (fK w4 (w.heap.size+4) v4 [⟨(at_:Int)+1,at2,t.length,ct,ag,g.length,cg⟩,⟨((A:Nat):Int),some (a_ g2 0),tb.length,lr,agb,gb.length,cgb⟩]):=fK.push (t:=[⟨(at_:Int)+1,at2,t.length,ct,ag,g.length,cg⟩]) hown4;have B4:Hid (b_ w w4):=((aa B5).alloc (by simp;omega) _).grown hgrow4 (by simp;omega) (fun j hj=>by have:=((aa O1).lt j hj).1;omega);have HL:Hid (Bo.length=tb.length):=by show _=_;rw[HH.out,List.length_set,List.length_set,fj]
   have T4:Hid (aR w4 (fun b=>b<w4.heap.size) (some (a_ g2 0)) Bo):=by
    have hk:ar w4 w1.heap.size (.slice (some (a_ g2 0)) tb.length lr) Bo:=ar.kept ((aa O3).alloc _) hgrow4 (.inr (fun e=>by
     have:=((aa O1).lt g2 e.symm).2;omega))
    obtain⟨g',iM,jE,_,Pv,uW⟩:=hk.at (by rw[HL.out];omega);have gQ:g'=g2:=by injection jE with h;injection h with h;exact(congrArg Addr.block h).symm
    aj gQ
    exact⟨by rw[HL.out];omega,fun _=>⟨g',0,rfl,Pv,fun j hj=>by rw[Nat.zero_add];exact uW j hj⟩⟩
   clear hown4 hgrow4;go_wp2_with fail
   go_ret;exact Dx ((aa O4).base_le (by omega)) ⟨by simp,rfl,rfl,(aa T3 _ (aa B4)).1,(aa T3 _ (aa B4)).2⟩ ⟨rfl,HL.out.symm,rfl,aa T4,aa T5 _ (aa B4)⟩ (aa B4)
def JZ (op fa fb fc:Int)(n:Nat):Prop:=(op=19\/op=31->0<=fa)/\(op=20\/op=21\/op=38\/op=39\/op=41\/op=31->0<=fb)/\(op=41->0<=fc/\fc<n)/\(op=31->fb+2<=n)
theorem sD (op:Int)(fa fb fc fd:Int)(at_:Nat)(nm:ByteArray)(ln pr:Int)(rs:Bool)(rg:Int)(v5 v6 v8:Value)(b off ni c7:Nat)(rb:Bool)(tb t:List Int)(gb g:List bg)(ab agb at2 ag:o_)(cb cgb ct cg:Nat)(S:Nat->Prop)(w:World)(hB:∀ b,S b->b<w.heap.size)(cZ:b<w.heap.size)(fY:at_<ni)(kp:ni<=6000)(hc:aL w b (off+at_ * 5) ⟨op,fa,fb,fc,fd⟩)(h1:aR w S ab tb)(h2:bx w S agb gb)(h3:aR w S at2 t)(h4:bx w S ag g)(ax:t.length<=250)(hltb:tb.length<=250)(htt:tb.length=t.length)(hf:JZ op fa fb fc t.length) :
  c_ 62 #[.agg #[.string nm,i_ ln,i_ pr,.bool rs,i_ rg,v5,v6,.slice (some (a_ b off)) ni c7,v8],i_ at_,.agg #[.bool rb,.slice ab tb.length cb,.slice agb gb.length cgb],.slice at2 t.length ct,.slice ag g.length cg] w (jV (bK ⟨op,fa,fb,fc,fd⟩ at_ ⟨tb,gb⟩ t g) w):=by
 obtain⟨e1,e2,e3,e4⟩:=hf;by_cases k29:op=29
 ·exact oB op fa fb fc fd at_ nm ln pr rs rg v5 v6 v8 b off ni c7 rb tb t gb g ab agb at2 ag cb cgb ct cg S w hB cZ fY kp hc h1 h2 h3 h4 ax hltb (.inl k29)
 by_cases k30:op=30
 ·exact oB op fa fb fc fd at_ nm ln pr rs rg v5 v6 v8 b off ni c7 rb tb t gb g ab agb at2 ag cb cgb ct cg S w hB cZ fY kp hc h1 h2 h3 h4 ax hltb (.inr k30)
 by_cases k19:op=19
 ·aj k19;exact uP fa fb fc fd at_ nm ln pr rs rg v5 v6 v8 b off ni c7 rb tb t gb g ab agb at2 ag cb cgb ct cg S w hB cZ fY kp hc h1 h2 h3 h4 ax hltb (e1 (by simp))
 by_cases k20:op=20
 ·exact jl op fa fb fc fd at_ nm ln pr rs rg v5 v6 v8 b off ni c7 rb tb t gb g ab agb at2 ag cb cgb ct cg S w hB cZ fY kp hc h1 h2 h3 h4 ax hltb (e2 (by simp[k20])) (by simp[k20])
 by_cases k21:op=21
 ·exact jl op fa fb fc fd at_ nm ln pr rs rg v5 v6 v8 b off ni c7 rb tb t gb g ab agb at2 ag cb cgb ct cg S w hB cZ fY kp hc h1 h2 h3 h4 ax hltb (e2 (by simp[k21])) (by simp[k21])
 by_cases k38:op=38
 ·exact jl op fa fb fc fd at_ nm ln pr rs rg v5 v6 v8 b off ni c7 rb tb t gb g ab agb at2 ag cb cgb ct cg S w hB cZ fY kp hc h1 h2 h3 h4 ax hltb (e2 (by simp[k38])) (by simp[k38])
 by_cases k39:op=39
 ·exact jl op fa fb fc fd at_ nm ln pr rs rg v5 v6 v8 b off ni c7 rb tb t gb g ab agb at2 ag cb cgb ct cg S w hB cZ fY kp hc h1 h2 h3 h4 ax hltb (e2 (by simp[k39])) (by simp[k39])
 by_cases k41:op=41
 ·aj k41;exact tK fa fb fc fd at_ nm ln pr rs rg v5 v6 v8 b off ni c7 rb tb t gb g ab agb at2 ag cb cgb ct cg S w hB cZ fY kp hc h1 h2 h3 h4 ax hltb (e2 (by simp)) (e3 rfl).1 (e3 rfl).2 htt
 by_cases k31:op=31
 ·aj k31;exact uM fa fb fc fd at_ nm ln pr rs rg v5 v6 v8 b off ni c7 rb tb t gb g ab agb at2 ag cb cgb ct cg S w hB cZ fY kp hc h1 h2 h3 h4 ax hltb (e2 (by simp)) (e1 (by simp)) (by have:=e4 rfl;omega)
 exact qZ op fa fb fc fd at_ nm ln pr rs rg v5 v6 v8 b off ni c7 rb tb t gb g ab agb at2 ag cb cgb ct cg S w hB cZ fY kp hc h1 h2 h3 h4 ax hltb k19 k29 k30 k20 k21 k38 k39 k41 k31
end Go.Proofs.YtcjfjflljdojlaaGreatDoor
