import Derived.Test.YtomcjennjcpdnaaGreatDoorPart20
import Derived.Test.YtomcjennjcpdnaaGreatDoorPart16
set_option linter.unusedSimpArgs false
set_option linter.unusedVariables false
namespace Go.Proofs.YtomcjennjcpdnaaGreatDoor
set_option maxRecDepth 100000
set_option maxHeartbeats 4000000
def wfRec {α:Type}(z:α)(G:(Nat->α)->Nat->α):Nat->Nat->α
 | 0,_=>z
 | g+1,i=>G (fun k=>if k<i then wfRec z G g k else z) i
def wfix {α:Type}(z:α)(G:(Nat->α)->Nat->α)(i:Nat):α:=wfRec z G (i+1) i
theorem wfRec_eq {α:Type}{z:α}{G:(Nat->α)->Nat->α}(i:Nat):∀ g,i<g->wfRec z G g i=wfix z G i:=by
 induction i using Nat.strongRecOn with
 | _ i ih=>
  intro g hg;cases g with
  | zero=>omega
  | succ g=>
   show G _ i=G _ i
   congr 1;funext k
   by_cases hk:k<i
   ·rw[if_pos hk,if_pos hk,ih k hk g (by omega),ih k hk i hk]
   ·rw[if_neg hk,if_neg hk]
theorem wfix_eq {α:Type}(z:α)(G:(Nat->α)->Nat->α)(i:Nat):wfix z G i=G (fun k=>if k<i then wfix z G k else z) i:=by
 show G _ i=G _ i
 congr 1;funext k
 by_cases hk:k<i
 ·rw[if_pos hk,if_pos hk,wfRec_eq k i hk]
 ·rw[if_neg hk,if_neg hk]
def own1 (n:NodeD):Nat:=4+n.refs.length
def Wt (ns:List NodeD):Nat->Nat:=wfix 0 fun r i=>own1 (nd ns i)+sumAll (fun k:Int=>r k.toNat) (nd ns i).kids
def wk (ns:List NodeD)(k:Int):Nat:=Wt ns k.toNat
theorem kids_lt {ns:List NodeD}(h:TreeOk ns){i:Nat}(hi:i<ns.length){k:Int}(hk:k∈(nd ns i).kids):0<=k/\k.toNat<i:=by
 obtain⟨j,hj,e⟩:=List.getElem_of_mem hk;have:=h.kid hi hj;unfold kidI at this;rw[List.getElem?_eq_getElem hj]at this;simp only[Option.getD_some,e]at this;omega
theorem Wt_eq {ns:List NodeD}(h:TreeOk ns){i:Nat}(hi:i<ns.length):Wt ns i=own1 (nd ns i)+sumAll (wk ns) (nd ns i).kids:=by
 unfold Wt;rw[wfix_eq]
 congr 1
 unfold sumAll
 congr 1
 refine List.map_congr_left fun k hk=>?_;show(if k.toNat<i then _ else 0)=_;rw[if_pos (kids_lt h hi hk).2];rfl
def sumN (f:Nat->Int):Nat->Int
 | 0=>0
 | n+1=>sumN f n+f n
theorem sumN_congr {f g:Nat->Int}:∀ n,(∀ x,x<n->f x=g x)->sumN f n=sumN g n
 | 0,_=>rfl
 | n+1,h=>by unfold sumN;rw[sumN_congr n (fun x hx=>h x (by omega)),h n (by omega)]
theorem sumN_sub {f g:Nat->Int}:∀ n,sumN (fun x=>f x-g x) n=sumN f n-sumN g n
 | 0=>rfl
 | n+1=>by unfold sumN;rw[sumN_sub n];omega
theorem sumN_one {f:Nat->Int}{k:Nat}:∀ n,k<n->sumN (fun x=>if k=x then f x else 0) n=f k
 | 0,h=>absurd h (Nat.not_lt_zero _)
 | n+1,h=>by
  unfold sumN;by_cases e:k=n
  ·subst e;have:sumN (fun x=>if k=x then f x else 0) k=sumN (fun _=>0) k:=sumN_congr k fun x hx=>if_neg (by omega);have z:∀ m,sumN (fun _=>(0:Int)) m=0:=fun m=>by induction m with | zero=>rfl | succ m ih=>unfold sumN;rw[ih];rfl
   rw[this,z,if_pos rfl];omega
  ·rw[sumN_one n (by omega),if_neg e];omega
theorem sumN_add {f g:Nat->Int}:∀ n,sumN (fun x=>f x+g x) n=sumN f n+sumN g n
 | 0=>rfl
 | n+1=>by unfold sumN;rw[sumN_add n];omega
theorem sumN_occ {ns:List NodeD}(ks:List Int)(n:Nat)(hk:∀ k∈ks,k.toNat<n):∀ m,m<=ks.length->sumN (fun x=>(Wt ns x:Int) * occKids ks m x) n=(sumTo (wk ns) ks m:Nat)
 | 0,_=>by
  rw[sumTo_zero,sumN_congr (g:=fun _=>0) n fun x _=>by simp[occKids]];clear hk;induction n with | zero=>rfl | succ m ih=>unfold sumN;rw[ih];rfl
 | m+1,h=>by
  rw[sumTo_succ (wk ns) ks m 0 (by omega),sumN_congr (g:=fun x=>(Wt ns x:Int) * occKids ks m x+(if(ks[m]?.getD 0).toNat=x then(Wt ns x:Int)else 0)) n fun x _=>?_,sumN_add,sumN_occ ks n hk m (by omega)]
  ·have hm:(ks[m]?.getD 0).toNat<n:=hk _ (by rw[List.getElem?_eq_getElem (by omega)];exact List.getElem_mem _);rw[sumN_one n hm];unfold wk;omega
  ·simp only[occKids];split<;>simp_all[Int.mul_add]
def ownsAll (ns:List NodeD)(n:Nat):Int:=sumN (fun x=>(own1 (nd ns x):Int)) n
theorem occ_high {ns:List NodeD}(h:TreeOk ns):∀ m x,m<=ns.length->m<=x+1->occUpto ns m x=0:=fun m=>by
 induction m with
 | zero=>intros;rfl
 | succ m ih=>
  intro x h1 h2;unfold occUpto;rw[ih x (by omega) (by omega)];have:∀ q,q<=(nd ns m).kids.length->occKids (nd ns m).kids q x=0:=fun q=>by
   induction q with
   | zero=>intro _;rfl
   | succ q ih2=>
    intro hq;unfold occKids;rw[ih2 (by omega),if_neg]
    ·rfl
    ·have:=(h.kid (n:=m) (i:=q) (by omega) (by omega)).2;unfold kidI at this;omega
  rw[this _ (Nat.le_refl _)];rfl
theorem weigh {ns:List NodeD}(h:TreeOk ns):∀ n,n<=ns.length->sumN (fun x=>(Wt ns x:Int) * (1-occUpto ns n x)) n=ownsAll ns n
 | 0,_=>rfl
 | n+1,hn=>by
  have hz:=occ_high h;show sumN _ n+(Wt ns n:Int) * (1-occUpto ns (n+1) n)=_;rw[hz (n+1) n hn (by omega)];rw[sumN_congr (g:=fun x=>(Wt ns x:Int) * (1-occUpto ns n x)-(Wt ns x:Int) * occKids (nd ns n).kids (nd ns n).kids.length x) n fun x _=>by
   show(Wt ns x:Int) * (1-(occUpto ns n x+occKids (nd ns n).kids (nd ns n).kids.length x))=_;rw[<-Int.mul_sub];congr 1;omega]
  rw[sumN_sub,weigh h n (by omega),sumN_occ _ n (fun k hk=>(kids_lt h (by omega) hk).2) _ (Nat.le_refl _),sumTo_len,Wt_eq h (by omega)];show _=ownsAll ns n+(own1 (nd ns n):Int);omega
theorem Wt_root {ns:List NodeD}(h:TreeOk ns):(Wt ns (ns.length-1):Int)=ownsAll ns ns.length:=by
 have hp:=h.pos;obtain⟨m,hm⟩:∃ m,ns.length=m+1:=⟨ns.length-1,by omega⟩;have:=weigh h ns.length (Nat.le_refl _);rw[<-this,hm];show _=sumN _ m+(Wt ns m:Int) * (1-occUpto ns (m+1) m);have e:sumN (fun x=>(Wt ns x:Int) * (1-occUpto ns (m+1) x)) m=sumN (fun _=>0) m:=sumN_congr m fun x hx=>by
  have:=h.one x (by omega);rw[hm]at this;rw[this];simp
 have z:∀ m,sumN (fun _=>(0:Int)) m=0:=fun m=>by induction m with | zero=>rfl | succ m ih=>unfold sumN;rw[ih];rfl
 have hz:occUpto ns (m+1) m=0:=occ_high h _ _ (by omega) (by omega);rw[e,z,hz];simp
theorem ownsAll_le {ns:List NodeD}:∀ n,n<=ns.length->ownsAll ns n<=4 * n+(sumTo (fun x:NodeD=>x.refs.length) ns n:Nat)
 | 0,_=>by simp[ownsAll,sumN]
 | n+1,h=>by
  have:=ownsAll_le (ns:=ns) n (by omega);rw[sumTo_succ _ ns n NodeD.z (by omega)];show ownsAll ns n+(own1 (nd ns n):Int)<=_;unfold own1 nd;omega
def updF (h:Nat->Int)(v:Nat)(x:Int):Nat->Int:=fun j=>if j=v then x else h j
def settleF (h:Nat->Int):List Int->Int->Nat->Int
 | [],_=>h
 | v::r,t=>settleF (updF h v.toNat t) r (t+1)
def letLen (ns:List NodeD)(k:Int):Int:=if(nd ns k.toNat).kind=2 then(nd ns k.toNat).refs.length else 0
abbrev HF:=Int->(Nat->Int)->Nat->Int
def blockF (ns:List NodeD)(r:Nat->HF):List Int->HF
 | [],_,h=>h
 | k::ks,t,h=>blockF ns r ks (t+letLen ns k) (r k.toNat t h)
def eachF (r:Nat->HF):List Int->HF
 | [],_,h=>h
 | k::ks,t,h=>eachF r ks t (r k.toNat t h)
def stepF (ns:List NodeD)(r:Nat->HF)(i:Nat)(t:Int)(h:Nat->Int):Nat->Int:=
 let n:=nd ns i
 match n.kind with
 | 1=>blockF ns r n.kids t h
 | 2=>settleF h n.refs t
 | 5=>eachF r (n.kids.drop 1) t h
 | 6=>r (kidI n 1).toNat t h
 | 7=>r (kidI n 3).toNat (t+3+n.refs.length) (settleF h n.refs (t+3))
 | 8=>r (kidI n 1).toNat (t+3+n.refs.length) (settleF h n.refs (t+3))
 | 12=>r (kidI n 1).toNat (t+n.refs.length) (settleF (r (kidI n 0).toNat t h) n.refs t)
 | _=>h
def hF (ns:List NodeD):Nat->HF:=wfix (fun _ h=>h) (stepF ns)
theorem blockF_congr {ns:List NodeD}{r r':Nat->HF}:∀{ks:List Int},(∀ k∈ks,r k.toNat=r' k.toNat)->blockF ns r ks=blockF ns r' ks
 | [],_=>rfl
 | k::ks,h=>by
  funext t x
  show blockF ns r ks _ _=blockF ns r' ks _ _;rw[blockF_congr (fun q hq=>h q (List.mem_cons_of_mem _ hq)),h k (List.mem_cons_self ..)]
theorem eachF_congr {r r':Nat->HF}:∀{ks:List Int},(∀ k∈ks,r k.toNat=r' k.toNat)->eachF r ks=eachF r' ks
 | [],_=>rfl
 | k::ks,h=>by
  funext t x
  show eachF r ks _ _=eachF r' ks _ _;rw[eachF_congr (fun q hq=>h q (List.mem_cons_of_mem _ hq)),h k (List.mem_cons_self ..)]
theorem stepF_congr {ns:List NodeD}{r r':Nat->HF}{i:Nat}(R:∀ k∈(nd ns i).kids,r k.toNat=r' k.toNat)(hk:((nd ns i).kind=6\/(nd ns i).kind=8\/(nd ns i).kind=12->2<=(nd ns i).kids.length)/\((nd ns i).kind=7->4<=(nd ns i).kids.length)):stepF ns r i=stepF ns r' i:=by
 have K:∀ j,j<(nd ns i).kids.length->r (kidI (nd ns i) j).toNat=r' (kidI (nd ns i) j).toNat:=fun j hj=>R _ (by unfold kidI;rw[List.getElem?_eq_getElem hj];exact List.getElem_mem _)
 funext t x
 unfold stepF;simp only;split
 ·rw[blockF_congr R]
 ·rfl
 ·rw[eachF_congr fun k hk=>R k (List.mem_of_mem_drop hk)]
 ·rename_i e;rw[K 1 (by have:=hk.1 (.inl e);omega)]
 ·rename_i e;rw[K 3 (by have:=hk.2 e;omega)]
 ·rename_i e;rw[K 1 (by have:=hk.1 (.inr (.inl e));omega)]
 ·rename_i e;rw[K 1 (by have:=hk.1 (.inr (.inr e));omega),K 0 (by have:=hk.1 (.inr (.inr e));omega)]
 ·rfl
theorem hF_eq {ns:List NodeD}(h:TreeOk ns){i:Nat}(hi:i<ns.length)(hk:((nd ns i).kind=6\/(nd ns i).kind=8\/(nd ns i).kind=12->2<=(nd ns i).kids.length)/\((nd ns i).kind=7->4<=(nd ns i).kids.length)):hF ns i=stepF ns (hF ns) i:=
 (wfix_eq _ _ i).trans (stepF_congr (fun k hk=>if_pos (kids_lt h hi hk).2) hk)
def brkF (ns:List NodeD):Nat->Bool:=wfix false fun r i=>(nd ns i).kind==9||(nd ns i).kind==10||((nd ns i).kind==1||(nd ns i).kind==5||(nd ns i).kind==12)&&(nd ns i).kids.any fun k=>r k.toNat
theorem brkF_eq {ns:List NodeD}(h:TreeOk ns){i:Nat}(hi:i<ns.length):brkF ns i=((nd ns i).kind==9||(nd ns i).kind==10||((nd ns i).kind==1||(nd ns i).kind==5||(nd ns i).kind==12)&&(nd ns i).kids.any fun k=>brkF ns k.toNat):=by
 unfold brkF;rw[wfix_eq]
 congr 2
 rw[Bool.eq_iff_iff,List.any_eq_true,List.any_eq_true];constructor
 ·rintro⟨k,hk,e⟩;exact⟨k,hk,(if_pos (kids_lt h hi hk).2).symm.trans e⟩
 ·rintro⟨k,hk,e⟩;exact⟨k,hk,(if_pos (kids_lt h hi hk).2).trans e⟩
theorem inloop_more {ns:List NodeD}(h:TreeOk ns):∀ g y,y<ns.length->ns.length<=y+g->∀ d,inloopFrom ns (g+d) y=inloopFrom ns g y
 | 0,y,h1,h2,_=>by omega
 | g+1,y,h1,h2,d=>by
  rw[show g+1+d=(g+d)+1 by omega];unfold inloopFrom;by_cases e:y+1=ns.length
  ·rw[h.root e,if_pos (by omega),if_pos (by omega)]
  ·obtain⟨n,i,hn,hi,_,e2,_,hlt⟩:=h.up (y:=y) (by omega);rw[e2,if_neg (by omega),if_neg (by omega)];show(_||inloopFrom ns (g+d) n)=(_||inloopFrom ns g n);rw[inloop_more h g n hn (by omega) d]
theorem brk_up {ns:List NodeD}(h:TreeOk ns)(hb:∀ p,p<ns.length->(nd ns p).kind=9\/(nd ns p).kind=10->sInloop ns p=true)(i:Nat):i<ns.length->brkF ns i=true->inloopFrom ns ns.length i=true:=by
 induction i using Nat.strongRecOn with
 | _ i ih=>
  intro hi hbk;rw[brkF_eq h hi]at hbk;simp only[Bool.or_eq_true,Bool.and_eq_true,beq_iff_eq,List.any_eq_true]at hbk;rcases hbk with(e | e) | ⟨hk,k,hkm,hkb⟩
  ·exact hb i hi (.inl e)
  ·exact hb i hi (.inr e)
  ·obtain⟨j,hj,e⟩:=List.getElem_of_mem hkm;have hkl:=(kids_lt h hi hkm).2;have h1:=ih k.toNat hkl (by omega) hkb;obtain⟨a,_⟩:=h.par hi hj;have e2:kidI (nd ns i) j=k:=by unfold kidI;rw[List.getElem?_eq_getElem hj];exact e
   rw[e2]at a;have h2:=inloop_more h ns.length k.toNat (by omega) (by omega) 1;rw[h1]at h2;unfold inloopFrom at h2;rw[a,if_neg (by omega)]at h2;simp only[Int.toNat_natCast,Bool.or_eq_true]at h2;rcases h2 with h2 | h2
   ·unfold loopAt loopKind at h2;simp only[Bool.and_eq_true,Bool.or_eq_true,beq_iff_eq]at h2;omega
   ·exact h2
theorem brk_root {ns:List NodeD}(h:TreeOk ns)(hb:∀ p,p<ns.length->(nd ns p).kind=9\/(nd ns p).kind=10->sInloop ns p=true):brkF ns (ns.length-1)=false:=by
 have hp:=h.pos;cases e:brkF ns (ns.length-1)with
 | false=>rfl
 | true=>
  have:=brk_up h hb _ (by omega) e;obtain⟨m,hm⟩:∃ m,ns.length=m+1:=⟨ns.length-1,by omega⟩;rw[hm]at this;unfold inloopFrom at this;rw[show m+1-1=m by omega,h.root (y:=m) (by omega),if_pos (by omega)]at this;cases this
end Go.Proofs.YtomcjennjcpdnaaGreatDoor
namespace Go.Proofs.YtomcjennjcpdnaaGreatDoor
set_option maxRecDepth 100000
set_option maxHeartbeats 4000000
theorem sKid_eq {ns:List NodeD}(T:TreeOk ns){p j:Nat}(hp:p<ns.length)(hj:j<(nd ns p).kids.length):sKid ns p j=(nd ns (kidI (nd ns p) j).toNat).kind:=by
 have:=T.kid hp hj;unfold sKid;rw[if_neg (by omega),if_neg (by omega)]
theorem sh_kids0 {ns:List NodeD}{p:Nat}(h:sShape ns p=true){k:Int}(hk:(nd ns p).kind=k)(hm:k=20\/k=21\/k=22\/k=37\/k=23\/k=24\/k=25\/k=28\/k=26\/k=27\/k=36\/k=9\/k=10):(nd ns p).kids.length=0:=by
 rcases hm with e | e | e | e | e | e | e | e | e | e | e | e | e<;>(rw[e]at hk;simp[sShape,isStat,sExpression,exArm,sStatement,stArm,hk]at h;simp[h])
theorem sh_refs1 {ns:List NodeD}{p:Nat}(h:sShape ns p=true){k:Int}(hk:(nd ns p).kind=k)(hm:k=26\/k=27\/k=36\/k=7):(nd ns p).refs.length=1:=by
 rcases hm with e | e | e | e<;>(rw[e]at hk;simp[sShape,isStat,sExpression,exArm,sStatement,stArm,hk,sBare,sBareV]at h;omega)
theorem sh_kids1 {ns:List NodeD}{p:Nat}(h:sShape ns p=true){k:Int}(hk:(nd ns p).kind=k)(hm:k=31\/k=38\/k=4\/k=13\/k=14):(nd ns p).kids.length=1:=by
 rcases hm with e | e | e | e | e<;>(rw[e]at hk;simp[sShape,isStat,sExpression,exArm,sStatement,stArm,hk]at h;omega)
theorem sh_kids2 {ns:List NodeD}{p:Nat}(h:sShape ns p=true){k:Int}(hk:(nd ns p).kind=k)(hm:k=29\/k=30\/k=32\/k=33\/k=6\/k=8\/k=12):(nd ns p).kids.length=2:=by
 rcases hm with e | e | e | e | e | e | e<;>(rw[e]at hk;simp[sShape,isStat,sExpression,exArm,sStatement,stArm,hk]at h;omega)
theorem sh_34 {ns:List NodeD}{p:Nat}(h:sShape ns p=true)(hk:(nd ns p).kind=34):1<=(nd ns p).kids.length:=by
 simp[sShape,isStat,sExpression,exArm,hk]at h;omega
theorem sh_35 {ns:List NodeD}(T:TreeOk ns){p:Nat}(hp:p<ns.length)(h:sShape ns p=true)(hk:(nd ns p).kind=35) :
  (nd ns p).kids.length % 2=0/\((nd ns p).op=1->2<=(nd ns p).kids.length/\isMany (nd ns ((nd ns p).kids[(nd ns p).kids.length-1]?.getD 0).toNat).kind=true):=by
 simp[sShape,isStat,sExpression,exArm,hk]at h;obtain⟨_,_,⟨⟨h1,_⟩,h2⟩,_⟩:=h;refine⟨by omega,fun ho=>?_⟩;rcases h2 with h2 | ⟨⟨⟨_,h3⟩,_⟩,h4⟩
 ·omega
 ·refine⟨by omega,?_⟩;unfold sKidI at h4;rw[show(((nd ns p).kids.length:Int)-1).toNat=(nd ns p).kids.length-1 by omega,sKid_eq T hp (by omega)]at h4;exact h4
theorem sh_38 {ns:List NodeD}(T:TreeOk ns){p:Nat}(hp:p<ns.length)(h:sShape ns p=true)(hk:(nd ns p).kind=38){k:Nat}(hl:(nd ns p).kids=[(k:Int)]):isMany (nd ns k).kind=true:=by
 simp[sShape,isStat,sExpression,exArm,hk]at h;obtain⟨_,_,⟨h1,h2⟩,_⟩:=h;unfold sKidI at h2;have:sKid ns p 0=_:=sKid_eq T hp (j:=0) (by rw[hl];simp);simp only[Int.toNat_zero]at h2;rw[this]at h2;unfold kidI at h2;rw[hl]at h2;simpa using h2
end Go.Proofs.YtomcjennjcpdnaaGreatDoor
namespace Go.Proofs.YtomcjennjcpdnaaGreatDoor
set_option maxRecDepth 100000
set_option maxHeartbeats 4000000
theorem sKidI_eq {ns:List NodeD}(T:TreeOk ns){p j:Nat}(hp:p<ns.length)(hj:j<(nd ns p).kids.length):sKidI ns p j=(nd ns (kidI (nd ns p) j).toNat).kind:=by
 unfold sKidI;rw[Int.toNat_natCast];exact sKid_eq T hp hj
theorem sh_2 {ns:List NodeD}{p:Nat}(h:sShape ns p=true)(hk:(nd ns p).kind=2):0<(nd ns p).refs.length:=by
 simp[sShape,isStat,sStatement,stArm,hk]at h;omega
theorem sh_3 {ns:List NodeD}{p:Nat}(h:sShape ns p=true)(hk:(nd ns p).kind=3):1<=(nd ns p).num/\(nd ns p).num<(nd ns p).kids.length:=by
 simp[sShape,isStat,sStatement,stArm,hk]at h;omega
theorem sh_call {ns:List NodeD}(T:TreeOk ns){p:Nat}(hp:p<ns.length)(h:sShape ns p=true)(hk:(nd ns p).kind=4\/(nd ns p).kind=14):(nd ns p).kids.length=1/\(nd ns (kidI (nd ns p) 0).toNat).kind=34:=by
 rcases hk with hk | hk
 all_goals
  simp[sShape,isStat,sStatement,stArm,hk]at h;obtain⟨_,_,⟨h1,h2⟩,_⟩:=h;have hl:(nd ns p).kids.length=1:=by omega
  refine⟨hl,?_⟩;have:=sKidI_eq T hp (j:=0) (by omega);simp only[Int.natCast_zero]at this;rw[<-this];exact h2
theorem sh_7 {ns:List NodeD}{p:Nat}(h:sShape ns p=true)(hk:(nd ns p).kind=7):(nd ns p).kids.length=4:=by
 simp[sShape,isStat,sStatement,stArm,hk]at h;omega
theorem sh_8 {ns:List NodeD}{p:Nat}(h:sShape ns p=true)(hk:(nd ns p).kind=8):1<=(nd ns p).refs.length/\(nd ns p).refs.length<=4:=by
 simp[sShape,isStat,sStatement,stArm,hk]at h;omega
theorem sh_12 {ns:List NodeD}{p:Nat}(h:sShape ns p=true)(hk:(nd ns p).kind=12):(nd ns p).refs.length=2:=by
 simp[sShape,isStat,sStatement,stArm,hk,sBare,sBareV]at h;omega
theorem sh_last {ns:List NodeD}(T:TreeOk ns){p:Nat}(hp:p<ns.length)(h:sShape ns p=true)(hk:(nd ns p).kind=6\/(nd ns p).kind=7\/(nd ns p).kind=8\/(nd ns p).kind=12):0<(nd ns p).kids.length/\(nd ns (kidI (nd ns p) ((nd ns p).kids.length-1)).toNat).kind=1:=by
 have hb:sBlock ns p (nd ns p).kids.length=true:=by
  rcases hk with hk | hk | hk | hk<;>(simp[sShape,isStat,sStatement,stArm,hk]at h;exact h.2.2.1.2)
 unfold sBlock at hb;simp only[Bool.and_eq_true,decide_eq_true_eq,beq_iff_eq]at hb;have hl:0<(nd ns p).kids.length:=by omega
 refine⟨hl,?_⟩;have:=sKidI_eq T hp (j:=(nd ns p).kids.length-1) (by omega);rw[<-this,<-hb.2]
 congr 1;omega
theorem sh_5 {ns:List NodeD}(T:TreeOk ns){p:Nat}(hp:p<ns.length)(h:sShape ns p=true)(hk:(nd ns p).kind=5):((nd ns p).kids.length=2\/(nd ns p).kids.length=3)/\(nd ns (kidI (nd ns p) 1).toNat).kind=1/\((nd ns p).kids.length=3->(nd ns (kidI (nd ns p) 2).toNat).kind=1\/(nd ns (kidI (nd ns p) 2).toNat).kind=5):=by
 simp[sShape,isStat,sStatement,stArm,hk]at h;obtain⟨_,_,⟨⟨h1,h2⟩,h3⟩,_⟩:=h;have hl:(nd ns p).kids.length=2\/(nd ns p).kids.length=3:=by omega
 have e1:=sKidI_eq T hp (j:=1) (by omega);refine⟨hl,by rw[<-e1];exact h3,fun h4=>?_⟩;have e2:=sKidI_eq T hp (j:=2) (by omega);rw[<-e2];rcases h1 with h1 | ⟨_,h1⟩
 ·omega
 ·exact h1
theorem refs_in {l:List FnD}{f p:Nat}(h:refsBad l f p=false)(hk:(nd (fnD l f).nodes p).kind≠26/\(nd (fnD l f).nodes p).kind≠27/\(nd (fnD l f).nodes p).kind≠36):∀ j,j<(nd (fnD l f).nodes p).refs.length->0<=(nd (fnD l f).nodes p).refs[j]?.getD 0/\(nd (fnD l f).nodes p).refs[j]?.getD 0<(fnD l f).vars.length:=fun j hj=>by
 unfold refsBad sRefs at h;simp only[Bool.not_eq_false']at h;rw[if_neg hk.2.1,if_neg hk.2.2,if_neg hk.1]at h;have:=allFrom_get h j (Nat.zero_le _) hj;unfold refGood at this;simp only[Bool.and_eq_true,decide_eq_true_eq]at this;exact this.1
theorem var_in {l:List FnD}{f p:Nat}(h:refsBad l f p=false)(hk:(nd (fnD l f).nodes p).kind=26):∃ v:Nat,(nd (fnD l f).nodes p).refs[0]?.getD 0=(v:Int)/\v<(fnD l f).vars.length:=by
 unfold refsBad sRefs at h;simp only[Bool.not_eq_false']at h;rw[hk,if_neg (by decide),if_neg (by decide),if_pos rfl]at h;simp only[Bool.and_eq_true,decide_eq_true_eq]at h;obtain⟨⟨h1,h2⟩,_⟩:=h;obtain⟨v,hv⟩:=Int.eq_ofNat_of_zero_le h1;exact⟨v,hv,by rw[hv]at h2;omega⟩
end Go.Proofs.YtomcjennjcpdnaaGreatDoor
