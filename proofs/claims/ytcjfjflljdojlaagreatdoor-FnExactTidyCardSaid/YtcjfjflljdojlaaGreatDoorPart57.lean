import Derived.Test.YtcjfjflljdojlaaGreatDoorPart56
import Derived.Test.YtcjfjflljdojlaaGreatDoorPart50
set_option linter.unusedSimpArgs false
set_option linter.unusedVariables false
set_option maxHeartbeats 8000000
set_option maxRecDepth 100000
namespace Go.Proofs.YtcjfjflljdojlaaGreatDoor
open Go.RowKit
section
variable {α:Type} {f:α->List Value} {sz:Nat} {w:World} {b off:Nat} {l:List α}
def Kj (f:α->List Value)(sz:Nat)(z:α)(w:World)(b off:Nat)(l:List α):Prop:=∀ j,j<l.length->∀ i,i<sz->w.cell? (a_ b (off+j * sz+i))=(f (l[j]?.getD z))[i]?
theorem Dw (hf:∀ x,(f x).length=sz)(l:List α):(l.flatMap f).length=l.length * sz:=by
 induction l with
 | nil=>simp
 | cons a l ih=>rw[List.flatMap_cons,List.length_append,hf,ih,List.length_cons,Nat.succ_mul];omega
theorem Kj.src {z:α}(h:Kj f sz z w b off l)(hf:∀ x,(f x).length=sz)(h0:0<sz):∀ j u,(l.flatMap f)[j]? = some u->w.cell? (((a_ b off):Addr).add j)=some u:=fun j u hj=>by
 have ax:j<l.length * sz:=by rw[<-Dw hf l];exact(List.getElem?_eq_some_iff.1 hj).1
 have e:j=j / sz * sz+j % sz:=by rw[Nat.mul_comm];exact(Nat.div_add_mod j sz).symm
 have hq:j / sz<l.length:=(Nat.div_lt_iff_lt_mul h0).2 ax;have hm:=Nat.mod_lt j h0;have k:=Js hf z l _ _ hq hm;rw[<-e,hj]at k;have e2:((a_ b off):Addr).add j=(a_ b (off+j / sz * sz+j % sz)):=by rw[Nat.add_assoc,<-e];simp[Addr.add]
 rw[e2,h _ hq _ hm,<-k]
end
theorem nj {α:Type}{T TS sz bt:Nat}{v0:Value}{f:α->List Value}(z:α)(hu:Tryz.prog.underlying TS=some (.slice T))(Rw:(Tryz.prog.info? T).map (fun i=>(i.zero,i.size,i.bytes))=some (some v0,sz,bt))(Ue:v0.cells.size=sz)(h0:0<sz)(yM:bt<=144)(hf:∀ x,(f x).length=sz)
  (a:o_)(l:List α)(c:Nat)(w:World)(hs:0<l.length->∃ b off,a=some (a_ b off)/\Kj f sz z w b off l)(hl:l.length<=1048576) :
  ∃ v w1,(Builtin.append_ #[TS,TS] TS #[.slice none 0 0,.slice a l.length c]).run Tryz.prog w=.ok v w1/\dt T sz f w1 w.heap.size v l/\b_ w w1:=by
 obtain⟨i0,hi,dE,cT,dB⟩:=aN Rw;by_cases hp:0<l.length
 ·obtain⟨b,off,rfl,aE⟩:=hs hp;have hb:bt * l.length<=144 * 1048576:=Nat.mul_le_mul yM hl;refine⟨_,_,run_append_nil w TS TS T i0 v0 hu hi dE (a_ b off) l.length c (l.flatMap f) (by rw[cT];exact Dw hf l) (aE.src hf h0) hp (by omega) (by rw[dB];rw[Nat.mul_comm]at hb;omega),?_,?_⟩
  ·exact xQ w T sz l.length _ _ _ Ue (Dw hf l) (grownCap_ge ..) (grownCap_le_maxLen _ _ _ _ (by unfold maxLen;omega))
  ·exact(r_.drew).alloc n_ _
 ·obtain rfl:l=[]:=List.eq_nil_of_length_eq_zero (by omega);refine⟨.slice none 0 0,w,?_,World.ownsRow_nil _ _ _ _,r_⟩;cases a with
  | none=>simp[Builtin.append_,run_underlying hu,sizeOf,typeInfo,zeroValue,hi,dE,Builtin.lenOf,run_firstCells_none]
  | some b=>
   have hf:=run_firstCells_some (P:=Tryz.prog) w i0.size 0 b 0 c [] (by simp) (fun j u hj=>by simp at hj);simp[Builtin.append_,run_underlying hu,sizeOf,typeInfo,zeroValue,hi,dE,Builtin.lenOf,hf]
def hU {α:Type}(T sz:Nat)(f:α->List Value)(l:List α)(w:World)(e:Ending)(w':World):Prop:=∃ v,e=.returned v/\dt T sz f w' w.heap.size v l/\b_ w w'
theorem GA (a:o_)(l:List (Bool×Int))(c:Nat)(S:Nat->Prop)(w:World)(h:dH w S a l)(hl:l.length<=1048576):c_ 29 #[.slice a l.length c] w (hU 46 2 iA l w):=by
 obtain⟨v,w1,hr,ho⟩:=nj (f:=iA) (false,0) Tryz.underlying38 xH rfl (by decide) (by decide) (fun _=>rfl) a l c w (fun h0=>by
  obtain⟨b,off,e,_,k⟩:=h.2 h0;exact⟨b,off,e,fun j hj i hi=>match i,hi with
   | 0,_=>(k j hj).1
   | 1,_=>(k j hj).2⟩) hl
 go_enter Tryz.func29,Tryz.ntmps29;go_wp2_with (first | (at_builtin;refine bJ rfl _ _ 38 rfl _ _ rfl rfl hr ?_) | go_in)
 go_ret;exact⟨v,rfl,ho⟩
theorem FJ (a:o_)(l:List cS)(c:Nat)(S:Nat->Prop)(w:World)(h:cQ w S a l)(hl:l.length<=1048576):c_ 30 #[.slice a l.length c] w (hU 49 5 gj l w):=by
 obtain⟨v,w1,hr,ho⟩:=nj (f:=gj) cS.z Tryz.underlying39 tF rfl (by decide) (by decide) (fun _=>rfl) a l c w (fun h0=>by
  obtain⟨b,off,e,_,k⟩:=h.2 h0;exact⟨b,off,e,fun j hj i hi=>match i,hi with
   | 0,_=>(k j hj).kind
   | 1,_=>(k j hj).num
   | 2,_=>(k j hj).flt
   | 3,_=>(k j hj).str
   | 4,_=>(k j hj).ref⟩) hl
 go_enter Tryz.func30,Tryz.ntmps30;go_wp2_with (first | (at_builtin;refine bJ rfl _ _ 39 rfl _ _ rfl rfl hr ?_) | go_in)
 go_ret;exact⟨v,rfl,ho⟩
theorem xb (a:o_)(l:List aA)(c:Nat)(S:Nat->Prop)(w:World)(h:bQ w S a l)(hl:l.length<=1048576):c_ 31 #[.slice a l.length c] w (hU 51 5 aW l w):=by
 obtain⟨v,w1,hr,ho⟩:=nj (f:=aW) aA.z Tryz.underlying40 kP rfl (by decide) (by decide) (fun _=>rfl) a l c w (fun h0=>by
  obtain⟨b,off,e,_,k⟩:=h.2 h0;exact⟨b,off,e,fun j hj i hi=>match i,hi with
   | 0,_=>(k j hj).op
   | 1,_=>(k j hj).fa
   | 2,_=>(k j hj).fb
   | 3,_=>(k j hj).fc
   | 4,_=>(k j hj).fd⟩) hl
 go_enter Tryz.func31,Tryz.ntmps31;go_wp2_with (first | (at_builtin;refine bJ rfl _ _ 40 rfl _ _ rfl rfl hr ?_) | go_in)
 go_ret;exact⟨v,rfl,ho⟩
theorem Gs (a:o_)(l:List bE)(c:Nat)(S:Nat->Prop)(w:World)(h:dc w S a l)(hl:l.length<=1048576):c_ 32 #[.slice a l.length c] w (hU 53 4 dQ l w):=by
 obtain⟨v,w1,hr,ho⟩:=nj (f:=dQ) bE.z Tryz.underlying41 qj rfl (by decide) (by decide) (fun _=>rfl) a l c w (fun h0=>by
  obtain⟨b,off,e,_,k⟩:=h.2 h0;exact⟨b,off,e,fun j hj i hi=>match i,hi with
   | 0,_=>(k j hj).name
   | 1,_=>(k j hj).reg
   | 2,_=>(k j hj).fro
   | 3,_=>(k j hj).til⟩) hl
 go_enter Tryz.func32,Tryz.ntmps32;go_wp2_with (first | (at_builtin;refine bJ rfl _ _ 41 rfl _ _ rfl rfl hr ?_) | go_in)
 go_ret;exact⟨v,rfl,ho⟩
def YZ (x:Bool):List Value:=[.bool x]
theorem Ge (b c:Nat)(l:List Bool)(w:World)(h:∀ j,j<l.length->w.cell? (a_ b j)=some (.bool (l[j]?.getD false)))(hl:l.length<=1048576):c_ 89 #[.slice (some (a_ b 0)) l.length c] w (hU 4 1 YZ l w):=by
 obtain⟨v,w1,hr,ho⟩:=nj (f:=YZ) false Tryz.underlying68 oa rfl (by decide) (by decide) (fun _=>rfl) (some (a_ b 0)) l c w (fun h0=>⟨b,0,rfl,fun j hj i hi=>match i,hi with
   | 0,_=>by rw[Nat.zero_add,Nat.mul_one];exact h j hj⟩) hl
 go_enter Tryz.func89,Tryz.ntmps89;go_wp2_with (first | (at_builtin;refine bJ rfl _ _ 68 rfl _ _ rfl rfl hr ?_) | go_in)
 go_ret;exact⟨v,rfl,ho⟩
theorem yJ (x:ak)(at_ b off c:Nat)(w:World)(hf:j8 x)(cZ:b<w.heap.size)(qA:mv w b off x)(fY:at_<x.ins.length) :
  c_ 85 #[.slice (some (a_ b off)) x.ins.length c,i_ at_] w fun e w'=>e=.returned (i_ ((gy x 100 at_:Nat):Int))/\w'=w:=by
 have hN:=hf.few;have HF:=af hf;have Ep:=af qA;clear hf qA;go_enter Tryz.func85,Tryz.ntmps85;go_wp2_with fail
 go_loopg [1,5] 100 (fun gg a i wr=>∃(k a':Nat),k+gg=100/\a=i_ a'/\i=i_ k/\a'<x.ins.length/\Hid (gy x gg a'=gy x 100 at_)/\wr=w)
 case atStart=>exact⟨0,at_,by omega,rfl,rfl,fY,rfl,rfl⟩
 case round=>
  obtain⟨k,a',hk,rfl,rfl,ha,rD,rfl⟩:=hrel;by_cases hk100:k<100
  ·have N:=Ep.out a' ha;have c0:=N.op;have c1:=N.fa;obtain⟨g',gQ⟩:∃ g',gk=g'+1:=⟨gk-1,by omega⟩;have haI:(a':Int)<x.ins.length:=by omega
   have UN:Hid (gy x gk a'=if(aT x a').op=19 then gy x g' (aT x a').fa.toNat else a'):=by rw[gQ];exact rfl
   by_cases ho:(aT x a').op=19
   ·obtain⟨f0,f1⟩:=HF.out.jump a' ha (.inl ho);obtain⟨A,hA⟩:=Int.eq_ofNat_of_zero_le f0;rw[ho]at c0;rw[hA]at c1 f1;have NX:Hid (gy x g' A=gy x 100 at_):=by
     show _=_;rw[<-rD.out,UN.out,if_pos ho,hA];rfl
    have Kn:A<x.ins.length:=f1;clear N f0 f1 hA ho rD UN;go_wp2_with fail
    go_roundg g'
    case measure=>omega
    case rel=>exact⟨k+1,A,by omega,rfl,by go_num,Kn,NX,rfl⟩
   ·have Xs:((aT x a').op != 19)=true:=by simpa using ho
    have vl:Hid (a'=gy x 100 at_):=by
     show _=_;rw[<-rD.out,UN.out,if_neg ho]
    clear N ho rD UN;generalize (aT x a').op=op at *;go_wp2_with fail
    go_ret;exact⟨by rw[<-vl.out];rfl,rfl⟩
  ·have Fh:gk=0:=by omega
   have vl:Hid (a'=gy x 100 at_):=by
    show _=_;rw[<-rD.out,Fh];rfl
   have Wi:¬((k:Int)<100):=by omega
   clear rD;go_wp2_with fail
   go_ret;exact⟨by rw[<-vl.out];rfl,rfl⟩
def tI (n:aA)(t:Int):aA:=if n.op=19\/n.op=31 then { n with fa:=t }else { n with fb:=t }
theorem wt (op:Nat)(fa fb fc fd t:Int)(w:World)(hG:gh w)(fo:op<43) :
  c_ 84 #[.agg #[i_ op,i_ fa,i_ fb,i_ fc,i_ fd],i_ t] w fun e w'=>(∃ a b,e=.returned (.agg #[i_ op,i_ a,i_ b,i_ fc,i_ fd])/\tI ⟨op,fa,fb,fc,fd⟩ t=⟨op,a,b,fc,fd⟩)/\b_ w w':=by
 have hp:=hG.pos;have r0:w.cell? (a_ 0 (op * 4))=some (i_ (aC op 0:Nat)):=hG.cell fo (j:=0) (by omega);have HR:=af (O7 op fo).1;have dR:Hid (∀ o1 o2,b_ w ((w.alloc o1).alloc o2)):=fun o1 o2=>(r_.alloc n_ o1).alloc (by simp) o2;clear hG;generalize aC op 0=R0 at *;by_cases h6:R0=6
 case' pos=>
  obtain⟨a,ha⟩:∃ a,a=t:=⟨_,rfl⟩;obtain⟨b,hb⟩:∃ b,b=fb:=⟨_,rfl⟩
  aj h6
  have HE:Hid (tI ⟨op,fa,fb,fc,fd⟩ t=⟨op,a,b,fc,fd⟩):=by aj ha hb;exact if_pos (by have:=HR.out.1 rfl;simp only;omega)
 case' neg=>
  obtain⟨a,ha⟩:∃ a,a=fa:=⟨_,rfl⟩;obtain⟨b,hb⟩:∃ b,b=t:=⟨_,rfl⟩;have HE:Hid (tI ⟨op,fa,fb,fc,fd⟩ t=⟨op,a,b,fc,fd⟩):=by aj ha hb;exact if_neg (fun k=>h6 (HR.out.2 (by simp only at k;omega)))
  have h6':((R0:Int)==6)=false:=by simp;omega
 all_goals
  clear HR;go_enter Tryz.func84,Tryz.ntmps84;go_wp2_with fail
  exact bodyPost_ret (v:=.agg #[i_ op,i_ a,i_ b,i_ fc,i_ fd]) (by simp[results,Tryz.results84,go_sem,ha,hb]) rfl ⟨⟨a,b,rfl,HE.out⟩,dR.out _ _⟩
theorem eR (op:Int):ec op=true↔op=20\/op=21\/op=38\/op=39\/op=41:=by
 unfold ec;simp only[Bool.or_eq_true,beq_iff_eq,or_assoc]
theorem Nr {x:ak}(hf:j8 x){i:Nat}(hi:i<x.ins.length){t:Int}(h:cE (aT x i)=some t):0<=t/\t.toNat<x.ins.length:=by
 unfold cE at h;split at h
 ·next e=>cases h;exact hf.jump i hi e
 ·split at h
  ·next e=>cases h;exact hf.branch i hi ((eR _).2 e)
  ·cases h
theorem zm {x:ak}(hf:j8 x){i:Nat}(hi:i<x.ins.length){t:Int}(h:cE (aY x i)=some t):0<=t/\t.toNat<x.ins.length:=by
 unfold cE at h;split at h
 ·next e=>cases h;exact kh hf hi e
 ·split at h
  ·next e=>cases h;exact jX hf hi ((eR _).2 e)
  ·cases h
theorem Gx {x:ak}{n:aA}{t:Int}(h:cE n=some t)(Hz:n.op≠31):ma x n=tI n (gy x 100 t.toNat:Nat):=by
 unfold cE at h;unfold ma tI;split at h
 ·next e=>cases h;rw[if_pos (e.resolve_right Hz),if_pos e]
 ·next e=>
  split at h
  ·next e'=>cases h;rw[if_neg (fun k=>e (.inl k)),if_pos ((eR _).2 e'),if_neg e]
  ·cases h
theorem GU {x:ak}{n:aA}(h:cE n=none\/n.op=31):ma x n=n:=by
 unfold ma;rcases h with h | h
 ·unfold cE at h;split at h
  ·cases h
  ·next e=>
   split at h
   ·cases h
   ·next e'=>rw[if_neg (fun k=>e (.inl k)),if_neg (fun k=>e' ((eR _).1 k))]
 ·rw[if_neg (by omega),if_neg (fun k=>by have:=(eR _).1 k;omega)]
theorem Gt {P:Nat->Bool}{n:aA}{t:Int}(h:cE n=some t):kX P n=tI n (dN P t.toNat:Nat):=by
 unfold cE at h;unfold kX tI;split at h
 ·next e=>cases h;rw[if_pos e,if_pos e]
 ·next e=>
  split at h
  ·next e'=>cases h;rw[if_neg e,if_pos ((eR _).2 e'),if_neg e]
  ·cases h
theorem FU {P:Nat->Bool}{n:aA}(h:cE n=none):kX P n=n:=by
 unfold cE at h;unfold kX;split at h
 ·cases h
 ·next e=>
  split at h
  ·cases h
  ·next e'=>rw[if_neg e,if_neg (fun k=>e' ((eR _).1 k))]
theorem gC (G:Nat):∀(vs:List Value)(w:World)(o q:Nat),(w.cell? (a_ G q)).isSome=true->(eh G w o vs).cell? (a_ G q)=if o<=q/\q<o+vs.length then vs[q-o]? else w.cell? (a_ G q)
 | [],w,o,q,_=>by rw[if_neg (by simp)];rfl
 | v::vs,w,o,q,h=>by
  have hs:∀ u,((w.setCell (a_ G o) u).cell? (a_ G q))=if q=o then some u else w.cell? (a_ G q):=fun u=>by
   by_cases e:q=o
   ·aj e;rw[if_pos rfl];exact World.cell?_setCell_same' _ _ _ h
   ·rw[if_neg e];exact World.cell?_setCell_other _ (a_ G o) (a_ G q) u (fun k=>by injection k with _ k _;omega)
  show(eh G (w.setCell (a_ G o) v) (o+1) vs).cell? _=_;rw[gC G vs _ _ _ (by rw[hs];split<;>simp[h]),hs,List.length_cons];by_cases e:q=o
  ·aj e;rw[if_neg (by omega),if_pos rfl,if_pos (by omega)];simp
  ·by_cases e2:o+1<=q/\q<o+1+vs.length
   ·rw[if_pos e2,if_pos (by omega),show q-o=(q-(o+1))+1 by omega,List.getElem?_cons_succ]
   ·rw[if_neg e2,if_neg e,if_neg (by omega)]
theorem ky (G:Nat)(p:Addr):∀(vs:List Value)(w:World)(o:Nat),(eh G w o vs).frozen? p=w.frozen? p
 | [],_,_=>rfl
 | v::vs,w,o=>(ky G p vs _ _).trans (World.frozen?_setCell _ _ _ _)
structure eC {α:Type}(f:α->List Value)(sz:Nat)(W:World)(g n:Nat)(F:Nat->α):Prop where
 cell:∀ j,j<n->∀ i,i<sz->W.cell? (a_ g (j * sz+i))=(f (F j))[i]?
 soft:∀ o,W.frozen? (a_ g o)=false
 lt:g<W.heap.size
section
variable {α:Type} {f:α->List Value} {sz:Nat} {W W':World} {g n:Nat} {F F':Nat->α}
theorem eC.keep (h:eC f sz W g n F)(hb:b_ W W'):eC f sz W' g n F:=
 ⟨fun j hj i hi=>(hb.cell (p:=(a_ g (j * sz+i))) h.lt).trans (h.cell j hj i hi),fun o=>(World.frozen?_of_block (a:=(a_ g o)) (hb.block g h.lt)).trans (h.soft o),l_ h.lt hb.size⟩
theorem eC.congr (h:eC f sz W g n F)(e:∀ j,j<n->F j=F' j):eC f sz W g n F':=⟨fun j hj i hi=>by rw[<-e j hj];exact h.cell j hj i hi,h.soft,h.lt⟩
theorem eC.put (h:eC f sz W g n F)(hf:∀ x,(f x).length=sz)(k:Nat)(y:α):eC f sz (eh g W (k * sz) (f y)) g n (fun j=>if j=k then y else F j):=
 ⟨fun j hj i hi=>by
  have hc:=h.cell j hj i hi;rw[gC g _ _ _ _ (by rw[hc,g_ (by rw[hf];exact hi)];rfl),hf];show _=(f (if j=k then y else F j))[i]?;by_cases e:j=k
  ·aj e
   rw[if_pos (by omega),if_pos rfl,show j * sz+i-j * sz=i by omega]
  ·rw[if_neg e,if_neg,hc];rintro⟨h1,h2⟩;rcases Nat.lt_or_gt_of_ne e with h3 | h3
   ·have:=Nat.mul_le_mul_right sz (show j+1<=k by omega);rw[Nat.succ_mul]at this;omega
   ·have:=Nat.mul_le_mul_right sz (show k+1<=j by omega);rw[Nat.succ_mul]at this;omega,fun o=>(ky _ _ _ _ _).trans (h.soft o),by rw[eP];exact h.lt⟩
theorem dt.rowS {T base:Nat}{v:Value}{t:List α}(h:dt T sz f W base v t)(hf:∀ x,(f x).length=sz)(z:α)(h0:0<t.length):∃ g cap,v=.slice (some (a_ g 0)) t.length cap/\base<=g/\eC f sz W g t.length (fun j=>t[j]?.getD z):=by
 obtain⟨g,cap,rfl,hb,hl,_,hc⟩:=h.at hf z h0;exact⟨g,cap,rfl,hb,hc,fun o=>World.ownsRow.frozenAt h o,hl⟩
theorem eC.five {F:Nat->aA}(h:eC aW 5 W g n F){k:Nat}(hk:k<n):∃ v0 v1 v2 v3 v4,W.cell? (a_ g (k * 5))=some v0/\W.cell? (a_ g (k * 5+1))=some v1/\W.cell? (a_ g (k * 5+2))=some v2/\W.cell? (a_ g (k * 5+3))=some v3/\W.cell? (a_ g (k * 5+4))=some v4/\W.frozen? (a_ g (k * 5))=false/\W.frozen? (a_ g (k * 5+1))=false/\W.frozen? (a_ g (k * 5+2))=false/\W.frozen? (a_ g (k * 5+3))=false/\W.frozen? (a_ g (k * 5+4))=false:=
 ⟨_,_,_,_,_,h.cell k hk 0 (by omega),h.cell k hk 1 (by omega),h.cell k hk 2 (by omega),h.cell k hk 3 (by omega),h.cell k hk 4 (by omega),h.soft _,h.soft _,h.soft _,h.soft _,h.soft _⟩
theorem eC.ins {F:Nat->aA}(h:eC aW 5 W g n F){j:Nat}(hj:j<n):aL W g (j * 5) (F j):=
 ⟨h.cell j hj 0 (by omega),h.cell j hj 1 (by omega),h.cell j hj 2 (by omega),h.cell j hj 3 (by omega),h.cell j hj 4 (by omega)⟩
end
structure Hh (x:ak):Prop where
 fit:j8 x
 op:∀ i,i<x.ins.length->∃ o:Nat,(aT x i).op=o/\o<43
def Mf (x:ak)(w:World)(e:Ending)(w':World):Prop:=∃ g c,e=.returned (.slice (some (a_ g 0)) x.ins.length c)/\eC aW 5 w' g x.ins.length (aY x)/\w.heap.size<=g/\b_ w w'
theorem ry (x:ak)(b off c:Nat)(w:World)(hp:Hh x)(hG:gh w)(cZ:b<w.heap.size)(qA:mv w b off x) :
  c_ 33 #[.slice (some (a_ b off)) x.ins.length c] w (Mf x w):=by
 have hN:=hp.fit.few;have Iy:=hp.fit.some_;have HP:=af hp;have CP:Hid (c_ 31 #[.slice (some (a_ b off)) x.ins.length c] w (hU 51 5 aW x.ins w)):=xb _ x.ins c (fun _=>True) w ⟨by omega,fun _=>⟨b,off,rfl,trivial,qA⟩⟩ (by omega);have Ep:Hid (∀ W,b_ w W->mv W b off x):=fun W hW=>qA.keep cZ hW;have HG:Hid (∀ W,b_ w W->gh W):=fun W hW=>hG.keep hW hG.pos;clear hp hG qA;go_enter Tryz.func33,Tryz.ntmps33;go_wp2_with fail
 refine(aa CP).mono ?_;rintro e w1 ⟨v,rfl,gB,au⟩;obtain⟨g,cap,rfl,hg,vj⟩:=gB.rowS (fun _=>rfl) aA.z Iy;have rH:=af vj;have dM:=af au;clear gB vj au CP;go_wp2_with fail
 go_loopg [12] x.ins.length (fun gg i wr=>∃ k:Nat,k+gg=x.ins.length/\i=i_ k/\Hid (b_ w wr)/\Hid (eC aW 5 wr g x.ins.length (fun j=>if j<k then aY x j else aT x j)))
 case atStart=>exact⟨0,by omega,rfl,dM,rH.out.congr (fun j _=>(if_neg (Nat.not_lt_zero _)).symm)⟩
 case round=>
  clear rH dM;obtain⟨k,hk,rfl,hB,hR⟩:=hrel;by_cases ax:k<x.ins.length
  ·have Ku:(k:Int)<x.ins.length:=by omega
   have M:=Ep.out wr hB.out k ax;have c0:=M.op;have c1:=M.fa;have c2:=M.fb;have c3:=M.fc;have c4:=M.fd;obtain⟨o,ho,Et⟩:=HP.out.op k ax;have hs:=hB.out.size;have bo:b<wr.heap.size:=by omega
   have fm:=hR.out.lt;have TL:Hid (∀ t,cE (aT x k)=some t->0<=t/\t.toNat<x.ins.length):=fun t=>Nr HP.out.fit ax;have qL:Hid (∀ W,eC aW 5 W g x.ins.length (fun j=>if j<k then aY x j else aT x j)->ma x (aT x k)=aT x k->eC aW 5 W g x.ins.length (fun j=>if j<k+1 then aY x j else aT x j)):=fun W hW e=>hW.congr (fun j _=>by
    by_cases h:j<k
    ·rw[if_pos h,if_pos (by omega)]
    ·rw[if_neg h];by_cases h2:j=k
     ·aj h2;rw[if_pos (by omega)];exact e.symm
     ·rw[if_neg (by omega)])
   have PUT:Hid (∀ W y,eC aW 5 W g x.ins.length (fun j=>if j<k then aY x j else aT x j)->ma x (aT x k)=y->eC aW 5 (eh g W (k * 5) (aW y)) g x.ins.length (fun j=>if j<k+1 then aY x j else aT x j)):=fun W y hW e=>(hW.put (fun _=>rfl) k y).congr (fun j _=>by
    by_cases h2:j=k
    ·aj h2;rw[if_pos rfl,if_pos (by omega)];exact e.symm
    ·rw[if_neg h2];by_cases h:j<k
     ·rw[if_pos h,if_pos (by omega)]
     ·rw[if_neg h,if_neg (by omega)])
   have FL:Hid (∀ W (t:Nat),b_ w W->t<x.ins.length->c_ 85 #[.slice (some (a_ b off)) x.ins.length c,i_ t] W fun e w'=>e=.returned (i_ ((gy x 100 t:Nat):Int))/\w'=W):=fun W t hW ht=>yJ x t b off c W HP.out.fit (l_ cZ hW.size) (Ep.out W hW) ht;clear M;generalize aT x k=n at *;obtain⟨op,fa,fb,fc,fd⟩:=n;dsimp only at ho c0 c1 c2 c3 c4
   aj ho
   have HA:Hid (∀ o,b_ w (wr.alloc o)):=fun o=>hB.out.alloc hB.out.size o;have HA2:Hid (∀ o,b_ wr (wr.alloc o)):=fun o=>r_.alloc n_ o;go_wp2_with fail
   refine(i9 o fa fb fc fd _ (HG.out _ (HA.out _)) Et).mono ?_;rintro e w2 ⟨rfl,ly⟩;have m:∀ r,r<5->w2.cell? (a_ wr.heap.size r)=_:=fun r _=>ly.cell (p:=(a_ wr.heap.size r)) (by simp);have m0:=m 0 (by omega);have m1:=m 1 (by omega);have m2:=m 2 (by omega);have m3:=m 3 (by omega);have m4:=m 4 (by omega);simp[go_sem]at m0 m1 m2 m3 m4;have dB:wr.heap.size<w2.heap.size:=by have:=ly.size;simp at this;omega
   have fN:Hid (b_ wr w2):=(HA2.out _).trans (ly.mono (by simp));have lD:Hid (b_ w w2):=hB.out.trans (fN.out.mono hs);have Uf:=af (hR.out.keep fN.out);clear m ly hB hR fN HA HA2 c0 c1 c2 c3 c4;by_cases ht:(∃ t,cE ⟨o,fa,fb,fc,fd⟩=some t)/\o≠31
   ·obtain⟨⟨t,ht⟩,Hz⟩:=ht;obtain⟨t0,t1⟩:=TL.out t ht;obtain⟨T,rfl⟩:=Int.eq_ofNat_of_zero_le t0;have HE:Hid (ma x ⟨o,fa,fb,fc,fd⟩=tI ⟨o,fa,fb,fc,fd⟩ (gy x 100 T:Nat)):=Gx ht (by simp only;omega);have aaX:((o:Int) != 31)=true:=by simp;omega
    rw[ht];dsimp only[Option.getD,Option.isSome];have hT:T<x.ins.length:=t1;have FO:=af (FL.out w2.drew T lD.out.drew hT);have AI:Hid (c_ 84 #[.agg #[i_ o,i_ fa,i_ fb,i_ fc,i_ fd],i_ (gy x 100 T:Nat)] w2.drew fun e w'=>(∃ a b,e=.returned (.agg #[i_ o,i_ a,i_ b,i_ fc,i_ fd])/\tI ⟨o,fa,fb,fc,fd⟩ (gy x 100 T:Nat)=⟨o,a,b,fc,fd⟩)/\Below w2.drew.heap.size w2.drew w'):=wt o fa fb fc fd _ w2.drew (HG.out _ lD.out.drew) Et;have CL:Hid (∀ W,Below w2.drew.heap.size w2.drew W->W.cell? (a_ wr.heap.size 0)=some (i_ o)/\W.cell? (a_ wr.heap.size 1)=some (i_ fa)/\W.cell? (a_ wr.heap.size 2)=some (i_ fb)/\W.cell? (a_ wr.heap.size 3)=some (i_ fc)/\W.cell? (a_ wr.heap.size 4)=some (i_ fd)):=fun W h=>by
     have e:∀ o,W.cell? (a_ wr.heap.size o)=w2.cell? (a_ wr.heap.size o):=fun o=>h.cell (p:=(a_ wr.heap.size o)) dB;exact⟨(e _).trans m0,(e _).trans m1,(e _).trans m2,(e _).trans m3,(e _).trans m4⟩
    have GL:Hid (∀ W,Below w2.drew.heap.size w2.drew W->eC aW 5 W g x.ins.length (fun j=>if j<k then aY x j else aT x j)):=fun W h=>Uf.out.keep (r_.drew.trans h);clear ht TL t0 t1 FL HG Hz qL;generalize gy x 100 T=far at *;go_wp2_with fail
    go_region_held3 (fun W=>W.cell? (a_ wr.heap.size 0)=some (i_ o)/\W.cell? (a_ wr.heap.size 1)=some (i_ fa)/\W.cell? (a_ wr.heap.size 2)=some (i_ fb)/\W.cell? (a_ wr.heap.size 3)=some (i_ fc)/\W.cell? (a_ wr.heap.size 4)=some (i_ fd)) (simp[go_sem, *])
     (first
      | (go_at_call 85;refine(aa FO).mono ?_;rintro e w3 ⟨rfl,rfl⟩)
      | (go_at_call 84;refine(aa AI).mono ?_;rintro e w3 ⟨⟨a,b,rfl,ha⟩,bY⟩;obtain⟨q0,q1,q2,q3,q4⟩:=aa CL _ bY;have gr:=aa GL _ bY;obtain⟨v0,v1,v2,v3,v4,g0,g1,g2,g3,g4,z0,z1,z2,z3,z4⟩:=gr.five ax;have GR:=af gr;clear gr))
    have eM:Hid (b_ w (eh g w3 (k * 5) (aW ⟨o,a,b,fc,fd⟩))/\eC aW 5 (eh g w3 (k * 5) (aW ⟨o,a,b,fc,fd⟩)) g x.ins.length (fun j=>if j<k+1 then aY x j else aT x j)):=
     ⟨gm hg _ _ _ (lD.out.trans ((r_.drew.trans bY).mono lD.out.size)),PUT.out _ _ GR.out (HE.out.trans ha)⟩
    clear q0 q1 q2 q3 q4 g0 g1 g2 g3 g4 z0 z1 z2 z3 z4 bY m0 m1 m2 m3 m4;go_wp2_with fail
    go_roundg (x.ins.length-(k+1))
    case measure=>omega
    case rel=>exact⟨k+1,by omega,by go_num,eM.out.1,eM.out.2⟩
   ·have HE:Hid (ma x ⟨o,fa,fb,fc,fd⟩=⟨o,fa,fb,fc,fd⟩):=GU (by
     rcases TJ:cE ⟨o,fa,fb,fc,fd⟩with _ | t
     ·exact .inl rfl
     ·exact .inr (by simp only;have:o=31:=Classical.not_not.1 (fun k=>ht ⟨⟨t,TJ⟩,k⟩);omega))
    have eM:Hid (eC aW 5 w2 g x.ins.length (fun j=>if j<k+1 then aY x j else aT x j)):=qL.out _ Uf.out HE.out;rcases TJ:cE ⟨o,fa,fb,fc,fd⟩with _ | t
    case' some=>obtain rfl:o=31:=Classical.not_not.1 (fun k=>ht ⟨⟨t,TJ⟩,k⟩)
    all_goals
     dsimp only[Option.getD,Option.isSome];clear ht TJ HE qL PUT FL TL Uf;go_wp2_with fail
     go_roundg (x.ins.length-(k+1))
     case measure=>omega
     case rel=>exact⟨k+1,by omega,by go_num,lD,eM⟩
  ·have HK:Hid (k=x.ins.length):=by show _=_;omega
   go_wp2_with fail
   go_ret;exact⟨g,cap,rfl,hR.out.congr (fun j hj=>if_pos (by rw[HK.out];exact hj)),hg,hB.out⟩
end Go.Proofs.YtcjfjflljdojlaaGreatDoor
