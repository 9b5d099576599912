import Derived.Test.YtcjfjflljdojlaaGreatDoorPart23
set_option linter.unusedSimpArgs false
set_option linter.unusedVariables false
set_option maxHeartbeats 4000000
set_option maxRecDepth 100000
namespace Go.Proofs.YtcjfjflljdojlaaGreatDoor
open Go.RowKit
theorem ex (r:Nat)(hr:r<=21)(w:World):c_ 105 #[i_ r] w fun e w'=>e=.returned (.tuple #[i_ (cN r).1,.bool (cN r).2])/\w'=w:=by
 have hc:r=0\/r=1\/r=2\/r=3\/r=4\/r=5\/r=6\/r=7\/r=8\/r=9\/r=10\/r=11\/r=12\/r=13\/r=14\/r=15\/r=16\/r=17\/r=18\/r=19\/r=20\/r=21:=by omega
 rcases hc with rfl | rfl | rfl | rfl | rfl | rfl | rfl | rfl | rfl | rfl | rfl | rfl | rfl | rfl | rfl | rfl | rfl | rfl | rfl | rfl | rfl | rfl
 all_goals
  go_enter Tryz.func105,Tryz.ntmps105;go_wp2_with fail
  go_ret2
  exact⟨rfl,rfl⟩
theorem zu {g:List bg}{keep:Int}(h:∀ j,j<g.length->¬((g[j]?.getD bg.z).tr=true/\keep<(g[j]?.getD bg.z).keep)):dS g keep=true:=by
 unfold dS;rw[Bool.not_eq_true',Bool.eq_false_iff];intro hc;rw[List.any_eq_true]at hc;obtain⟨x,hx,hp⟩:=hc;obtain⟨j,hj,e⟩:=List.getElem_of_mem hx;have h1:=h j hj;rw[g_ hj,e]at h1;simp only[Bool.and_eq_true,decide_eq_true_eq]at hp;exact h1 hp
theorem xr {g:List bg}{keep:Int}{j:Nat}(hj:j<g.length)(h1:(g[j]?.getD bg.z).tr=true)(h2:keep<(g[j]?.getD bg.z).keep):dS g keep=false:=by
 unfold dS;rw[Bool.not_eq_false',List.any_eq_true];refine⟨g[j],List.getElem_mem hj,?_⟩;rw[g_ hj]at h1 h2;have h1:g[j].tr=true:=h1;have h2:keep<g[j].keep:=h2;simp[h1,h2]
theorem gq (a:o_)(l:List bg)(c:Nat)(keep:Int)(S:Nat->Prop)(w:World)(hs:bx w S a l)(hB:∀ b,S b->b<w.heap.size) :
  c_ 106 #[.slice a l.length c,i_ keep] w fun e w'=>e=.returned (.bool (dS l keep))/\b_ w w':=by
 have hn:=hs.1;have RT:Hid ((∀ j,j<l.length->¬((l[j]?.getD bg.z).tr=true/\keep<(l[j]?.getD bg.z).keep))->dS l keep=true):=fun h=>zu h;have RF:Hid (∀ j,j<l.length->(l[j]?.getD bg.z).tr=true->keep<(l[j]?.getD bg.z).keep->dS l keep=false):=fun j h0 h1 h2=>xr h0 h1 h2;generalize dS l keep=res at *;go_enter Tryz.func106,Tryz.ntmps106;go_wp2_with fail
 go_loopg [9] l.length (fun g i wr=>∃(k:Nat),k+g=l.length/\i=i_ k/\b_ w wr/\Hid (∀ j,j<k->¬((l[j]?.getD bg.z).tr=true/\keep<(l[j]?.getD bg.z).keep)))
 case atStart=>exact⟨0,by omega,rfl,r_,fun j h=>absurd h (Nat.not_lt_zero _)⟩
 case round=>
  obtain⟨k,hk,rfl,hb,bN⟩:=hrel;by_cases ax:k<l.length
  ·obtain⟨b,off,rfl,jF,aE⟩:=(hs.keep hb hB).2 (by omega);have hc:=aE k ax;have NX:Hid (¬((l[k]?.getD bg.z).tr=true/\keep<(l[k]?.getD bg.z).keep)->∀ j,j<k+1->¬((l[j]?.getD bg.z).tr=true/\keep<(l[j]?.getD bg.z).keep)):=fun h j hj=>by
    by_cases e:j=k
    ·aj e;exact h
    ·exact bN.out j (by omega)
   have FF:=af (aa RF k ax);clear aE bN;generalize l[k]?.getD bg.z=x at *;have d0:=hc.tr;have d1:=hc.keep;have d2:=hc.hand;obtain⟨xt,xk,xh⟩:=x;simp only at *;have HB:Hid (∀ o,b_ w (wr.alloc o)):=fun o=>hb.alloc hb.size o;have cZ:b<wr.heap.size:=l_ (hB b jF) hb.size;clear hc hb;cases xt
   ·have RR:=af (aa NX (by simp));clear NX FF;go_wp2_with fail
    go_roundg (l.length-(k+1))
    case measure=>omega
    case rel=>exact⟨k+1,by omega,by go_num,aa HB _,RR⟩
   ·by_cases hlk:keep<xk
    ·have RR:Hid (res=false):=aa FF rfl hlk;have hd:decide (keep<xk)=true:=decide_eq_true hlk;clear NX FF;go_wp2_with fail
     go_ret;exact⟨al RR.out.symm,aa HB _⟩
    ·have RR:=af (aa NX (fun h=>hlk h.2));have hd:decide (keep<xk)=false:=decide_eq_false hlk;clear NX FF;go_wp2_with fail
     go_roundg (l.length-(k+1))
     case measure=>omega
     case rel=>exact⟨k+1,by omega,by go_num,aa HB _,RR⟩
  ·have RR:Hid (res=true):=aa RT (fun j hj=>bN.out j (by omega));go_wp2_with fail
   go_ret;exact⟨al RR.out.symm,hb⟩
def jK (n:aA)(a:Nat):List Int:=
 if n.op=1\/n.op=3\/n.op=28\/n.op=29\/n.op=30 then[]
 else if n.op=18/\n.fb=12 then[]
 else if n.op=19 then[n.fa]
 else if n.op=41 then[n.fb]
 else if n.op=20\/n.op=21\/n.op=38\/n.op=39 then[n.fb,(a:Int)+1]
 else if n.op=31 then[n.fa,(a:Int)+1]
 else[(a:Int)+1]
theorem jW (op:Int)(fo:op=1\/op=3\/op=28\/op=29\/op=30)(fa fb fc fd:Int)(at_:Nat)(nm:ByteArray)(ln pr:Int)(rs:Bool)(rg:Int)(us:List (Bool×Int))(cs:List cS)(is:List aA)(ns:List bE)(a5 a6 a8:o_)(c5 c6 c7 c8:Nat)(S:Nat->Prop)(w:World)(b off:Nat)(cZ:b<w.heap.size)(fY:at_<is.length)(jn:is.length<=1048576)(hc:aL w b (off+at_ * 5) ⟨op,fa,fb,fc,fd⟩) :
  c_ 102 #[.agg #[.string nm,i_ ln,i_ pr,.bool rs,i_ rg,.slice a5 us.length c5,.slice a6 cs.length c6,.slice (some (a_ b off)) is.length c7,.slice a8 ns.length c8],i_ at_] w fun e w'=>∃ v,e=.returned v/\ar w' w.heap.size v []/\b_ w w':=by
 rcases fo with rfl | rfl | rfl | rfl | rfl
 all_goals
  obtain⟨i0,hi,dE,cT,dB⟩:=aN dT;have d0:=hc.op;have d1:=hc.fa;have d2:=hc.fb;have d3:=hc.fc;have d4:=hc.fd;clear hc;simp only at d0 d1 d2 d3 d4;have hA:∀ o1 o2,b_ w ((w.alloc o1).alloc o2):=fun o1 o2=>(r_.alloc n_ o1).alloc (by simp) o2;go_enter Tryz.func102,Tryz.ntmps102;go_wp2_with fail
  go_ret;exact⟨_,rfl,World.ownsRow_nil _ _ _ _,hA _ _⟩
theorem xX (fa fb fc fd:Int)(at_:Nat)(nm:ByteArray)(ln pr:Int)(rs:Bool)(rg:Int)(us:List (Bool×Int))(cs:List cS)(is:List aA)(ns:List bE)(a5 a6 a8:o_)(c5 c6 c7 c8:Nat)(S:Nat->Prop)(w:World)(b off:Nat)(cZ:b<w.heap.size)(fY:at_<is.length)(jn:is.length<=1048576)(hc:aL w b (off+at_ * 5) ⟨18,fa,fb,fc,fd⟩)(sP:fb=12) :
  c_ 102 #[.agg #[.string nm,i_ ln,i_ pr,.bool rs,i_ rg,.slice a5 us.length c5,.slice a6 cs.length c6,.slice (some (a_ b off)) is.length c7,.slice a8 ns.length c8],i_ at_] w fun e w'=>∃ v,e=.returned v/\ar w' w.heap.size v []/\b_ w w':=by
 obtain⟨i0,hi,dE,cT,dB⟩:=aN dT;have d0:=hc.op;have d1:=hc.fa;have d2:=hc.fb;have d3:=hc.fc;have d4:=hc.fd;clear hc
 aj sP
 simp only at d0 d1 d2 d3 d4;have hA:∀ o1 o2,b_ w ((w.alloc o1).alloc o2):=fun o1 o2=>(r_.alloc n_ o1).alloc (by simp) o2;go_enter Tryz.func102,Tryz.ntmps102;go_wp2_with fail
 go_ret;exact⟨_,rfl,World.ownsRow_nil _ _ _ _,hA _ _⟩
theorem Am (fa fb fc fd:Int)(at_:Nat)(nm:ByteArray)(ln pr:Int)(rs:Bool)(rg:Int)(us:List (Bool×Int))(cs:List cS)(is:List aA)(ns:List bE)(a5 a6 a8:o_)(c5 c6 c7 c8:Nat)(S:Nat->Prop)(w:World)(b off:Nat)(cZ:b<w.heap.size)(fY:at_<is.length)(jn:is.length<=1048576)(hc:aL w b (off+at_ * 5) ⟨18,fa,fb,fc,fd⟩)(sP:(fb==12)=false) :
  c_ 102 #[.agg #[.string nm,i_ ln,i_ pr,.bool rs,i_ rg,.slice a5 us.length c5,.slice a6 cs.length c6,.slice (some (a_ b off)) is.length c7,.slice a8 ns.length c8],i_ at_] w fun e w'=>∃ v,e=.returned v/\ar w' w.heap.size v [((at_:Int)+1)]/\b_ w w':=by
 obtain⟨i0,hi,dE,cT,dB⟩:=aN dT;have d0:=hc.op;have d1:=hc.fa;have d2:=hc.fb;have d3:=hc.fc;have d4:=hc.fd;clear hc;simp only at d0 d1 d2 d3 d4;have hA:∀ o1 o2,b_ w ((w.alloc o1).alloc o2):=fun o1 o2=>(r_.alloc n_ o1).alloc (by simp) o2;go_enter Tryz.func102,Tryz.ntmps102;go_wp2_with (first
  | (at_builtin;refine wpList_append_own _ rfl _ _ 70 rfl w.heap.size 3 i0 (i_ 0) 1 8 Tryz.underlying70 hi dE cT dB rfl (by decide) _ _ _ rfl (World.ownsRow_nil _ _ _ _) (a_ (w.heap.size+1+1) 0) 1 1 [i_ ((at_:Int)+1)] rfl rfl ?c1 ?c2 ?c3 ?c4 ?c5 ?_)
  | go_in)
 case c1=>intro j u hj;rcases j with _ | _<;>simp at hj<;>aj hj<;>simp[Addr.add,go_sem]
 case c2=>intro u hu;simp at hu;aj hu;rfl
 case c3=>unfold maxLen;simp
 case c4=>simp
 case c5=>simp;omega
 intro v1 w1 hown1 hgrow1 _;have O1:Hid (ar w1 w.heap.size v1 [((at_:Int)+1)]):=ar.push (t:=[]) hown1;have B1:Hid (b_ w w1):=((hA _ _).alloc (by simp;omega) _).grown hgrow1 (by simp;omega) (fun j hj=>by cases hj);clear hown1 hgrow1;go_wp2_with fail
 go_ret;exact⟨_,rfl,aa O1,aa B1⟩
theorem zv (fa fb fc fd:Int)(at_:Nat)(nm:ByteArray)(ln pr:Int)(rs:Bool)(rg:Int)(us:List (Bool×Int))(cs:List cS)(is:List aA)(ns:List bE)(a5 a6 a8:o_)(c5 c6 c7 c8:Nat)(S:Nat->Prop)(w:World)(b off:Nat)(cZ:b<w.heap.size)(fY:at_<is.length)(jn:is.length<=1048576)(hc:aL w b (off+at_ * 5) ⟨19,fa,fb,fc,fd⟩) :
  c_ 102 #[.agg #[.string nm,i_ ln,i_ pr,.bool rs,i_ rg,.slice a5 us.length c5,.slice a6 cs.length c6,.slice (some (a_ b off)) is.length c7,.slice a8 ns.length c8],i_ at_] w fun e w'=>∃ v,e=.returned v/\ar w' w.heap.size v [fa]/\b_ w w':=by
 obtain⟨i0,hi,dE,cT,dB⟩:=aN dT;have d0:=hc.op;have d1:=hc.fa;have d2:=hc.fb;have d3:=hc.fc;have d4:=hc.fd;clear hc;simp only at d0 d1 d2 d3 d4;have hA:∀ o1 o2,b_ w ((w.alloc o1).alloc o2):=fun o1 o2=>(r_.alloc n_ o1).alloc (by simp) o2;go_enter Tryz.func102,Tryz.ntmps102;go_wp2_with (first
  | (at_builtin;refine wpList_append_own _ rfl _ _ 70 rfl w.heap.size 3 i0 (i_ 0) 1 8 Tryz.underlying70 hi dE cT dB rfl (by decide) _ _ _ rfl (World.ownsRow_nil _ _ _ _) (a_ (w.heap.size+1+1) 0) 1 1 [i_ fa] rfl rfl ?c1 ?c2 ?c3 ?c4 ?c5 ?_)
  | go_in)
 case c1=>intro j u hj;rcases j with _ | _<;>simp at hj<;>aj hj<;>simp[Addr.add,go_sem]
 case c2=>intro u hu;simp at hu;aj hu;rfl
 case c3=>unfold maxLen;simp
 case c4=>simp
 case c5=>simp;omega
 intro v1 w1 hown1 hgrow1 _;have O1:Hid (ar w1 w.heap.size v1 [fa]):=ar.push (t:=[]) hown1;have B1:Hid (b_ w w1):=((hA _ _).alloc (by simp;omega) _).grown hgrow1 (by simp;omega) (fun j hj=>by cases hj);clear hown1 hgrow1;go_wp2_with fail
 go_ret;exact⟨_,rfl,aa O1,aa B1⟩
theorem AS (fa fb fc fd:Int)(at_:Nat)(nm:ByteArray)(ln pr:Int)(rs:Bool)(rg:Int)(us:List (Bool×Int))(cs:List cS)(is:List aA)(ns:List bE)(a5 a6 a8:o_)(c5 c6 c7 c8:Nat)(S:Nat->Prop)(w:World)(b off:Nat)(cZ:b<w.heap.size)(fY:at_<is.length)(jn:is.length<=1048576)(hc:aL w b (off+at_ * 5) ⟨41,fa,fb,fc,fd⟩) :
  c_ 102 #[.agg #[.string nm,i_ ln,i_ pr,.bool rs,i_ rg,.slice a5 us.length c5,.slice a6 cs.length c6,.slice (some (a_ b off)) is.length c7,.slice a8 ns.length c8],i_ at_] w fun e w'=>∃ v,e=.returned v/\ar w' w.heap.size v [fb]/\b_ w w':=by
 obtain⟨i0,hi,dE,cT,dB⟩:=aN dT;have d0:=hc.op;have d1:=hc.fa;have d2:=hc.fb;have d3:=hc.fc;have d4:=hc.fd;clear hc;simp only at d0 d1 d2 d3 d4;have hA:∀ o1 o2,b_ w ((w.alloc o1).alloc o2):=fun o1 o2=>(r_.alloc n_ o1).alloc (by simp) o2;go_enter Tryz.func102,Tryz.ntmps102;go_wp2_with (first
  | (at_builtin;refine wpList_append_own _ rfl _ _ 70 rfl w.heap.size 3 i0 (i_ 0) 1 8 Tryz.underlying70 hi dE cT dB rfl (by decide) _ _ _ rfl (World.ownsRow_nil _ _ _ _) (a_ (w.heap.size+1+1) 0) 1 1 [i_ fb] rfl rfl ?c1 ?c2 ?c3 ?c4 ?c5 ?_)
  | go_in)
 case c1=>intro j u hj;rcases j with _ | _<;>simp at hj<;>aj hj<;>simp[Addr.add,go_sem]
 case c2=>intro u hu;simp at hu;aj hu;rfl
 case c3=>unfold maxLen;simp
 case c4=>simp
 case c5=>simp;omega
 intro v1 w1 hown1 hgrow1 _;have O1:Hid (ar w1 w.heap.size v1 [fb]):=ar.push (t:=[]) hown1;have B1:Hid (b_ w w1):=((hA _ _).alloc (by simp;omega) _).grown hgrow1 (by simp;omega) (fun j hj=>by cases hj);clear hown1 hgrow1;go_wp2_with fail
 go_ret;exact⟨_,rfl,aa O1,aa B1⟩
theorem lW (op:Int)(fo:op=20\/op=21\/op=38\/op=39)(fa fb fc fd:Int)(at_:Nat)(nm:ByteArray)(ln pr:Int)(rs:Bool)(rg:Int)(us:List (Bool×Int))(cs:List cS)(is:List aA)(ns:List bE)(a5 a6 a8:o_)(c5 c6 c7 c8:Nat)(S:Nat->Prop)(w:World)(b off:Nat)(cZ:b<w.heap.size)(fY:at_<is.length)(jn:is.length<=1048576)(hc:aL w b (off+at_ * 5) ⟨op,fa,fb,fc,fd⟩) :
  c_ 102 #[.agg #[.string nm,i_ ln,i_ pr,.bool rs,i_ rg,.slice a5 us.length c5,.slice a6 cs.length c6,.slice (some (a_ b off)) is.length c7,.slice a8 ns.length c8],i_ at_] w fun e w'=>∃ v,e=.returned v/\ar w' w.heap.size v [fb,((at_:Int)+1)]/\b_ w w':=by
 rcases fo with rfl | rfl | rfl | rfl
 all_goals
  obtain⟨i0,hi,dE,cT,dB⟩:=aN dT;have d0:=hc.op;have d1:=hc.fa;have d2:=hc.fb;have d3:=hc.fc;have d4:=hc.fd;clear hc;simp only at d0 d1 d2 d3 d4;have hA:∀ o1 o2,b_ w ((w.alloc o1).alloc o2):=fun o1 o2=>(r_.alloc n_ o1).alloc (by simp) o2;go_enter Tryz.func102,Tryz.ntmps102;go_wp2_with (first
   | (at_builtin;refine wpList_append_own _ rfl _ _ 70 rfl w.heap.size 3 i0 (i_ 0) 1 8 Tryz.underlying70 hi dE cT dB rfl (by decide) _ _ _ rfl (World.ownsRow_nil _ _ _ _) (a_ (w.heap.size+1+1) 0) 1 1 [i_ fb] rfl rfl ?c1 ?c2 ?c3 ?c4 ?c5 ?_)
   | go_in)
  case c1=>intro j u hj;rcases j with _ | _<;>simp at hj<;>aj hj<;>simp[Addr.add,go_sem]
  case c2=>intro u hu;simp at hu;aj hu;rfl
  case c3=>unfold maxLen;simp
  case c4=>simp
  case c5=>simp;omega
  intro v1 w1 hown1 hgrow1 _;have O1:Hid (ar w1 w.heap.size v1 [fb]):=ar.push (t:=[]) hown1;have B1:Hid (b_ w w1):=((hA _ _).alloc (by simp;omega) _).grown hgrow1 (by simp;omega) (fun j hj=>by cases hj);clear hown1 hgrow1;have jf:=(aa B1).size;go_wp2_with (first
   | (at_builtin;refine wpList_append_own _ rfl _ _ 70 rfl w.heap.size 3 i0 (i_ 0) 1 8 Tryz.underlying70 hi dE cT dB rfl (by decide) _ _ _ rfl ((aa O1).alloc _) (a_ w1.heap.size 0) 1 1 [i_ ((at_:Int)+1)] rfl rfl ?c1 ?c2 ?c3 ?c4 ?c5 ?_)
   | go_in)
  case c1=>intro j u hj;rcases j with _ | _<;>simp at hj<;>aj hj<;>simp[Addr.add,go_sem]
  case c2=>intro u hu;simp at hu;aj hu;rfl
  case c3=>unfold maxLen;simp
  case c4=>simp
  case c5=>simp;omega
  intro v2 w2 hown2 hgrow2 _;have O2:Hid (ar w2 w.heap.size v2 [fb,((at_:Int)+1)]):=ar.push (t:=[fb]) hown2;have B2:Hid (b_ w w2):=((aa B1).alloc jf _).grown hgrow2 (by simp;omega) (fun j hj=>((aa O1).lt j hj).1);clear hown2 hgrow2;go_wp2_with fail
  go_ret;exact⟨_,rfl,aa O2,aa B2⟩
theorem zs (fa fb fc fd:Int)(at_:Nat)(nm:ByteArray)(ln pr:Int)(rs:Bool)(rg:Int)(us:List (Bool×Int))(cs:List cS)(is:List aA)(ns:List bE)(a5 a6 a8:o_)(c5 c6 c7 c8:Nat)(S:Nat->Prop)(w:World)(b off:Nat)(cZ:b<w.heap.size)(fY:at_<is.length)(jn:is.length<=1048576)(hc:aL w b (off+at_ * 5) ⟨31,fa,fb,fc,fd⟩) :
  c_ 102 #[.agg #[.string nm,i_ ln,i_ pr,.bool rs,i_ rg,.slice a5 us.length c5,.slice a6 cs.length c6,.slice (some (a_ b off)) is.length c7,.slice a8 ns.length c8],i_ at_] w fun e w'=>∃ v,e=.returned v/\ar w' w.heap.size v [fa,((at_:Int)+1)]/\b_ w w':=by
 obtain⟨i0,hi,dE,cT,dB⟩:=aN dT;have d0:=hc.op;have d1:=hc.fa;have d2:=hc.fb;have d3:=hc.fc;have d4:=hc.fd;clear hc;simp only at d0 d1 d2 d3 d4;have hA:∀ o1 o2,b_ w ((w.alloc o1).alloc o2):=fun o1 o2=>(r_.alloc n_ o1).alloc (by simp) o2;go_enter Tryz.func102,Tryz.ntmps102;go_wp2_with (first
  | (at_builtin;refine wpList_append_own _ rfl _ _ 70 rfl w.heap.size 3 i0 (i_ 0) 1 8 Tryz.underlying70 hi dE cT dB rfl (by decide) _ _ _ rfl (World.ownsRow_nil _ _ _ _) (a_ (w.heap.size+1+1) 0) 1 1 [i_ fa] rfl rfl ?c1 ?c2 ?c3 ?c4 ?c5 ?_)
  | go_in)
 case c1=>intro j u hj;rcases j with _ | _<;>simp at hj<;>aj hj<;>simp[Addr.add,go_sem]
 case c2=>intro u hu;simp at hu;aj hu;rfl
 case c3=>unfold maxLen;simp
 case c4=>simp
 case c5=>simp;omega
 intro v1 w1 hown1 hgrow1 _;have O1:Hid (ar w1 w.heap.size v1 [fa]):=ar.push (t:=[]) hown1;have B1:Hid (b_ w w1):=((hA _ _).alloc (by simp;omega) _).grown hgrow1 (by simp;omega) (fun j hj=>by cases hj);clear hown1 hgrow1;have jf:=(aa B1).size;go_wp2_with (first
  | (at_builtin;refine wpList_append_own _ rfl _ _ 70 rfl w.heap.size 3 i0 (i_ 0) 1 8 Tryz.underlying70 hi dE cT dB rfl (by decide) _ _ _ rfl ((aa O1).alloc _) (a_ w1.heap.size 0) 1 1 [i_ ((at_:Int)+1)] rfl rfl ?c1 ?c2 ?c3 ?c4 ?c5 ?_)
  | go_in)
 case c1=>intro j u hj;rcases j with _ | _<;>simp at hj<;>aj hj<;>simp[Addr.add,go_sem]
 case c2=>intro u hu;simp at hu;aj hu;rfl
 case c3=>unfold maxLen;simp
 case c4=>simp
 case c5=>simp;omega
 intro v2 w2 hown2 hgrow2 _;have O2:Hid (ar w2 w.heap.size v2 [fa,((at_:Int)+1)]):=ar.push (t:=[fa]) hown2;have B2:Hid (b_ w w2):=((aa B1).alloc jf _).grown hgrow2 (by simp;omega) (fun j hj=>((aa O1).lt j hj).1);clear hown2 hgrow2;go_wp2_with fail
 go_ret;exact⟨_,rfl,aa O2,aa B2⟩
theorem vV (op:Int)(fa fb fc fd:Int)(at_:Nat)(nm:ByteArray)(ln pr:Int)(rs:Bool)(rg:Int)(us:List (Bool×Int))(cs:List cS)(is:List aA)(ns:List bE)(a5 a6 a8:o_)(c5 c6 c7 c8:Nat)(S:Nat->Prop)(w:World)(b off:Nat)(cZ:b<w.heap.size)(fY:at_<is.length)(jn:is.length<=1048576)(hc:aL w b (off+at_ * 5) ⟨op,fa,fb,fc,fd⟩)(k1:(op==1)=false)(k3:(op==3)=false)(k28:(op==28)=false)(k29:(op==29)=false)(k30:(op==30)=false)(k18:(op==18)=false)(k19:(op==19)=false)(k41:(op==41)=false)(k20:(op==20)=false)(k21:(op==21)=false)(k38:(op==38)=false)(k39:(op==39)=false)(k31:(op==31)=false) :
  c_ 102 #[.agg #[.string nm,i_ ln,i_ pr,.bool rs,i_ rg,.slice a5 us.length c5,.slice a6 cs.length c6,.slice (some (a_ b off)) is.length c7,.slice a8 ns.length c8],i_ at_] w fun e w'=>∃ v,e=.returned v/\ar w' w.heap.size v [((at_:Int)+1)]/\b_ w w':=by
 obtain⟨i0,hi,dE,cT,dB⟩:=aN dT;have d0:=hc.op;have d1:=hc.fa;have d2:=hc.fb;have d3:=hc.fc;have d4:=hc.fd;clear hc;simp only at d0 d1 d2 d3 d4;have hA:∀ o1 o2,b_ w ((w.alloc o1).alloc o2):=fun o1 o2=>(r_.alloc n_ o1).alloc (by simp) o2;go_enter Tryz.func102,Tryz.ntmps102;go_wp2_with (first
  | (at_builtin;refine wpList_append_own _ rfl _ _ 70 rfl w.heap.size 3 i0 (i_ 0) 1 8 Tryz.underlying70 hi dE cT dB rfl (by decide) _ _ _ rfl (World.ownsRow_nil _ _ _ _) (a_ (w.heap.size+1+1) 0) 1 1 [i_ ((at_:Int)+1)] rfl rfl ?c1 ?c2 ?c3 ?c4 ?c5 ?_)
  | go_in)
 case c1=>intro j u hj;rcases j with _ | _<;>simp at hj<;>aj hj<;>simp[Addr.add,go_sem]
 case c2=>intro u hu;simp at hu;aj hu;rfl
 case c3=>unfold maxLen;simp
 case c4=>simp
 case c5=>simp;omega
 intro v1 w1 hown1 hgrow1 _;have O1:Hid (ar w1 w.heap.size v1 [((at_:Int)+1)]):=ar.push (t:=[]) hown1;have B1:Hid (b_ w w1):=((hA _ _).alloc (by simp;omega) _).grown hgrow1 (by simp;omega) (fun j hj=>by cases hj);clear hown1 hgrow1;go_wp2_with fail
 go_ret;exact⟨_,rfl,aa O1,aa B1⟩
theorem xR (at_:Nat)(nm:ByteArray)(ln pr:Int)(rs:Bool)(rg:Int)(us:List (Bool×Int))(cs:List cS)(is:List aA)(ns:List bE)(a5 a6 a7 a8:o_)(c5 c6 c7 c8:Nat)(S:Nat->Prop)(w:World)(hs:bQ w S a7 is)(hB:∀ b,S b->b<w.heap.size)(fY:at_<is.length)(jn:is.length<=1048576) :
  c_ 102 #[.agg #[.string nm,i_ ln,i_ pr,.bool rs,i_ rg,.slice a5 us.length c5,.slice a6 cs.length c6,.slice a7 is.length c7,.slice a8 ns.length c8],i_ at_] w fun e w'=>∃ v,e=.returned v/\ar w' w.heap.size v (jK (is[at_]?.getD aA.z) at_)/\b_ w w':=by
 obtain⟨b,off,rfl,hb,aE⟩:=hs.2 (by omega);have hc:=aE at_ fY;have cZ:=hB b hb;generalize is[at_]?.getD aA.z=n at *;obtain⟨op,fa,fb,fc,fd⟩:=n;by_cases k1:op=1
 ·aj k1;exact jW 1 (by omega) fa fb fc fd at_ nm ln pr rs rg us cs is ns a5 a6 a8 c5 c6 c7 c8 S w b off cZ fY jn hc
 by_cases k3:op=3
 ·aj k3;exact jW 3 (by omega) fa fb fc fd at_ nm ln pr rs rg us cs is ns a5 a6 a8 c5 c6 c7 c8 S w b off cZ fY jn hc
 by_cases k28:op=28
 ·aj k28;exact jW 28 (by omega) fa fb fc fd at_ nm ln pr rs rg us cs is ns a5 a6 a8 c5 c6 c7 c8 S w b off cZ fY jn hc
 by_cases k29:op=29
 ·aj k29;exact jW 29 (by omega) fa fb fc fd at_ nm ln pr rs rg us cs is ns a5 a6 a8 c5 c6 c7 c8 S w b off cZ fY jn hc
 by_cases k30:op=30
 ·aj k30;exact jW 30 (by omega) fa fb fc fd at_ nm ln pr rs rg us cs is ns a5 a6 a8 c5 c6 c7 c8 S w b off cZ fY jn hc
 by_cases k18:op=18
 ·aj k18
  by_cases sP:fb=12
  ·have e:jK ⟨18,fa,fb,fc,fd⟩ at_=[]:=by simp[jK,sP]
   rw[e];exact xX fa fb fc fd at_ nm ln pr rs rg us cs is ns a5 a6 a8 c5 c6 c7 c8 S w b off cZ fY jn hc sP
  ·have e:jK ⟨18,fa,fb,fc,fd⟩ at_=[((at_:Int)+1)]:=by simp[jK,sP]
   rw[e];exact Am fa fb fc fd at_ nm ln pr rs rg us cs is ns a5 a6 a8 c5 c6 c7 c8 S w b off cZ fY jn hc (beq_eq_false_iff_ne.2 sP)
 by_cases k19:op=19
 ·aj k19;exact zv fa fb fc fd at_ nm ln pr rs rg us cs is ns a5 a6 a8 c5 c6 c7 c8 S w b off cZ fY jn hc
 by_cases k41:op=41
 ·aj k41;exact AS fa fb fc fd at_ nm ln pr rs rg us cs is ns a5 a6 a8 c5 c6 c7 c8 S w b off cZ fY jn hc
 by_cases k20:op=20
 ·aj k20;exact lW 20 (by omega) fa fb fc fd at_ nm ln pr rs rg us cs is ns a5 a6 a8 c5 c6 c7 c8 S w b off cZ fY jn hc
 by_cases k21:op=21
 ·aj k21;exact lW 21 (by omega) fa fb fc fd at_ nm ln pr rs rg us cs is ns a5 a6 a8 c5 c6 c7 c8 S w b off cZ fY jn hc
 by_cases k38:op=38
 ·aj k38;exact lW 38 (by omega) fa fb fc fd at_ nm ln pr rs rg us cs is ns a5 a6 a8 c5 c6 c7 c8 S w b off cZ fY jn hc
 by_cases k39:op=39
 ·aj k39;exact lW 39 (by omega) fa fb fc fd at_ nm ln pr rs rg us cs is ns a5 a6 a8 c5 c6 c7 c8 S w b off cZ fY jn hc
 by_cases k31:op=31
 ·aj k31;exact zs fa fb fc fd at_ nm ln pr rs rg us cs is ns a5 a6 a8 c5 c6 c7 c8 S w b off cZ fY jn hc
 have e:jK ⟨op,fa,fb,fc,fd⟩ at_=[((at_:Int)+1)]:=by simp[jK,k1,k3,k28,k29,k30,k18,k19,k41,k20,k21,k38,k39,k31]
 rw[e];exact vV op fa fb fc fd at_ nm ln pr rs rg us cs is ns a5 a6 a8 c5 c6 c7 c8 S w b off cZ fY jn hc (beq_eq_false_iff_ne.2 k1) (beq_eq_false_iff_ne.2 k3) (beq_eq_false_iff_ne.2 k28) (beq_eq_false_iff_ne.2 k29) (beq_eq_false_iff_ne.2 k30) (beq_eq_false_iff_ne.2 k18) (beq_eq_false_iff_ne.2 k19) (beq_eq_false_iff_ne.2 k41) (beq_eq_false_iff_ne.2 k20) (beq_eq_false_iff_ne.2 k21) (beq_eq_false_iff_ne.2 k38) (beq_eq_false_iff_ne.2 k39) (beq_eq_false_iff_ne.2 k31)
end Go.Proofs.YtcjfjflljdojlaaGreatDoor
