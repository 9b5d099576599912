import Derived.Test.YtcjfjflljdojlaaGreatDoorPart39
set_option linter.all false
set_option maxHeartbeats 4000000
set_option maxRecDepth 100000
namespace Go.Proofs.YtcjfjflljdojlaaGreatDoor
theorem FU {σ σ':dW}{x:Nat×fK}(h:gO σ x=some σ'):(∀ b,σ.st b≠none->σ'.st b≠none)/\(∀ b,σ.b b=true->σ'.b b=true)/\(∀ b,σ.st b=none->σ'.st b≠none->σ'.b b=true)/\σ'.st x.1≠none:=by
 unfold gO at h;cases e:σ.st x.1 with
 | none=>
  rw[e]at h;cases h;refine⟨fun b hb=>?_,fun b hb=>?_,fun b h1 h2=>?_,?_⟩;{show bY σ.st x.1 (some x.2) b≠none;unfold bY;split;{simp};{exact hb}};{show bY σ.b x.1 true b=true;unfold bY;split;{rfl};{exact hb}};{change bY σ.st x.1 (some x.2) b≠none at h2;show bY σ.b x.1 true b=true;unfold bY at h2 ⊢;by_cases c:b=x.1;{rw[zca c]};{rw[zcb c]at h2;exact zcc h1 h2}};{show bY σ.st x.1 (some x.2) x.1≠none;simp[bY]}
 | some s=>
  rw[e]at h;change (if nh s x.2=true then some σ else none)=some σ' at h;split at h;{cases h;exact⟨fun b hb=>hb,fun b hb=>hb,fun b h1 h2=>zcc h1 h2,by rw[e];simp⟩};{cases h}
theorem wK:∀{F:List (Nat×fK)}{σ σ':dW},fi F σ=.inr σ'->(∀ b,σ.st b≠none->σ'.st b≠none)/\(∀ b,σ.b b=true->σ'.b b=true)/\(∀ b,σ.st b=none->σ'.st b≠none->σ'.b b=true)/\∀ x,x∈F->σ'.st x.1≠none
 | [],σ,σ',h=>by cases h;exact⟨fun b hb=>hb,fun b hb=>hb,fun b h1 h2=>zcc h1 h2,fun x hx=>by cases hx⟩
 | y::F,σ,σ',h=>by
  change (match gO σ y with | none=>(Sum.inl y.1:Nat ⊕ dW) | some σ'=>fi F σ')=.inr σ' at h;cases e:gO σ y with
  | none=>rw[e]at h;cases h
  | some σ1=>
   rw[e]at h;obtain⟨a1,a2,a3,a4⟩:=FU e;obtain⟨b1,b2,b3,b4⟩:=wK h;refine⟨fun b hb=>b1 b (a1 b hb),fun b hb=>b2 b (a2 b hb),fun b h1 h2=>?_,fun x hx=>?_⟩
   ·by_cases c:σ1.st b=none
    ·exact b3 b c h2
    ·exact b2 b (a3 b h1 c)
   ·rcases List.mem_cons.1 hx with rfl | hx
    ·exact b1 _ a4
    ·exact b4 x hx
theorem Dd {n:az}{a y:Nat}(s:fK)(t:List Int)(g:List bc)(h:y∈ep n a):∃ st,(y,st)∈bI n a s t g:=by
 have hg:∀ st,dc n=true->st=(⟨t,g⟩:fK)->(a+1,st)∈bI n a s t g:=fun st h1 h2=>by
  unfold bI;rw[zca h1,h2];exact List.mem_append_left _ (nZ.2 rfl)
 unfold ep at h;by_cases c1:n.op=1\/n.op=3\/n.op=28\/n.op=29\/n.op=30;{rw[zca c1]at h;cases h};rw[zcb c1]at h;by_cases c2:n.op=18/\n.fb=12;{rw[zca c2]at h;cases h};rw[zcb c2]at h;by_cases c3:n.op=19;{rw[zca c3,nZ]at h;subst h;exact⟨⟨t,g⟩,by unfold bI;rw[zca c3];exact List.mem_append_right _ (nZ.2 rfl)⟩};rw[zcb c3]at h;have go:dc n=true:=by{unfold dc;simp;omega};by_cases c4:n.op=41;{rw[zca c4,nZ]at h;subst h;exact⟨_,by unfold bI;rw[zcb c3,zcb (show ¬(n.op=20\/n.op=21\/n.op=38\/n.op=39)by omega),zca c4];exact List.mem_append_right _ (nZ.2 rfl)⟩};rw[zcb c4]at h;by_cases c5:n.op=20\/n.op=21\/n.op=38\/n.op=39;{rw[zca c5]at h;rcases List.mem_cons.1 h with rfl | h;{exact⟨_,by unfold bI;rw[zcb c3,zca c5];exact List.mem_append_right _ (nZ.2 rfl)⟩};{rw[nZ]at h;subst h;exact⟨_,hg _ go rfl⟩}};rw[zcb c5]at h;by_cases c6:n.op=31;{rw[zca c6]at h;rcases List.mem_cons.1 h with rfl | h;{exact⟨_,by unfold bI;rw[zcb c3,zcb c5,zcb c4,zca c6];exact List.mem_append_right _ (nZ.2 rfl)⟩};{rw[nZ]at h;subst h;exact⟨_,hg _ go rfl⟩}};{rw[zcb c6,nZ]at h;subst h;exact⟨_,hg _ go rfl⟩}
theorem sb {l:List aj}{x:aj}:∀{k:Nat}{σ:dW},ju l x k σ->∀ b,σ.st b≠none->σ.b b=false->∀ y,y∈fh x b->σ.st y≠none
 | 0,σ,h,b,hb,hd,y,hy=>by
  rw[show σ=iZ x from h]at hb hd;change bY (fun _=>none) 0 (some (fK.mk (dy x) [])) b≠none at hb;change bY (fun _=>false) 0 true b=false at hd;unfold bY at hb hd;split at hd
  ·cases hd
  ·rename_i c;rw[zcb c]at hb;exact zcc rfl hb
 | k+1,σ,⟨σ',a,h1,h2,h3⟩,b,hb,hd,y,hy=>by
  unfold fV at h3;cases e:σ'.st a with
  | none=>rw[e]at h3;cases h3
  | some s=>
   rw[e]at h3;change (match bH l (aR x a) s.d with | none=>(Sum.inl (10,a):(Int×Nat) ⊕ dW) | some r=>_)=_ at h3;cases e1:bH l (aR x a) s.d with
   | none=>rw[e1]at h3;cases h3
   | some r=>
    rw[e1]at h3;change (match aP (aR x a) s.r with | none=>(Sum.inl (11,a):(Int×Nat) ⊕ dW) | some g=>_)=_ at h3;cases e2:aP (aR x a) s.r with
    | none=>rw[e2]at h3;cases h3
    | some g=>
     rw[e2]at h3;change (if _ then _ else _)=_ at h3;split at h3
     ·cases e3:fi (bI (aR x a) a s (bg (aR x a) r.d) g) ⟨σ'.st,bY σ'.b a false⟩with
      | inl y=>rw[e3]at h3;cases h3
      | inr σ2=>
       rw[e3]at h3;cases h3;obtain⟨a1,a2,a3,a4⟩:=wK e3;by_cases c:b=a
       ·subst c;obtain⟨st,lu⟩:=Dd s (bg (aR x b) r.d) g hy;exact a4 _ lu
       ·by_cases c2:σ'.st b=none
        ·have:=a3 b c2 hb;rw[hd]at this;cases this
        ·by_cases c3:σ'.b b=true
         ·have:=a2 b (by show bY σ'.b a false b=true;unfold bY;rw[zcb c];exact c3);rw[hd]at this;cases this
         ·exact a1 y (sb h1 b c2 (by simpa using c3) y hy)
     ·cases h3
end Go.Proofs.YtcjfjflljdojlaaGreatDoor
namespace Go.Proofs.YtcjfjflljdojlaaGreatDoor
open Go.RowKit
def T0:Rg:=⟨fun _=>0,fun _=>0,[],0,0,false⟩
theorem YS (E:Nat->List Nat):kq E T0 [] where
 nodup:=List.Pairwise.nil
 vis:=fun x hx=>by cases hx
 cnt:=fun x=>n_
 gray:=fun x hx=>by cases hx
 done:=fun x hx=>zcc rfl hx
 shut:=fun x hx=>zcc rfl hx.1
 up:=fun x y hx=>by cases hx
 down:=fun y hy=>by cases hy
 best:=.inl ⟨rfl,fun x hx=>zcc rfl hx.1⟩
theorem YR (P:Nat->Prop)(N:Nat):xU P N T0:=⟨fun x hx=>zcc rfl hx,fun x hx=>zcc rfl hx,by show 0+vt (fun _=>0) N=N;rw[tZ];omega⟩
theorem Aq {E:Nat->List Nat}{T:Rg}(h:kq E T []):T.w=[]:=by
 cases e:T.w with
 | nil=>rfl
 | cons x l=>
  obtain⟨g,hg,_⟩:=h.down x (by rw[e];exact List.mem_cons_self ..);cases hg
theorem gm (wr:w_)(o1 o2 o3 o4:Obj):((((wr.alloc o1).alloc o2).alloc o3).alloc o4).drew.heap[wr.heap.size]? = some o1/\((((wr.alloc o1).alloc o2).alloc o3).alloc o4).drew.heap[wr.heap.size+1]? = some o2/\((((wr.alloc o1).alloc o2).alloc o3).alloc o4).drew.heap[wr.heap.size+1+1]? = some o3/\((((wr.alloc o1).alloc o2).alloc o3).alloc o4).drew.heap[wr.heap.size+1+1+1]? = some o4/\b_ wr ((((wr.alloc o1).alloc o2).alloc o3).alloc o4).drew/\((((wr.alloc o1).alloc o2).alloc o3).alloc o4).drew.heap.size=wr.heap.size+4:=by
 have s1:∀(W:w_) (o:Obj),(W.alloc o).heap.size=W.heap.size+1:=fun W o=>by simp
 have b2:=Go.Deep.blk_alloc_new (wr.alloc o1) o2;have b3:=Go.Deep.blk_alloc_new ((wr.alloc o1).alloc o2) o3;have b4:=Go.Deep.blk_alloc_new (((wr.alloc o1).alloc o2).alloc o3) o4;rw[s1]at b2;rw[s1,s1]at b3;rw[s1,s1,s1]at b4;refine⟨?_,?_,?_,b4,((((r_.alloc n_ _).alloc (by rw[s1];omega) _).alloc (by rw[s1,s1];omega) _).alloc (by rw[s1,s1,s1];omega) _).drew,?_⟩;{show((((wr.alloc o1).alloc o2).alloc o3).alloc o4).heap[wr.heap.size]? = _;rw[Below.heap_alloc _ _ _ (by rw[s1,s1,s1];omega),Below.heap_alloc _ _ _ (by rw[s1,s1];omega),Below.heap_alloc _ _ _ (by rw[s1];omega),Go.Deep.blk_alloc_new]};{show((((wr.alloc o1).alloc o2).alloc o3).alloc o4).heap[wr.heap.size+1]? = _;rw[Below.heap_alloc _ _ _ (by rw[s1,s1,s1];omega),Below.heap_alloc _ _ _ (by rw[s1,s1];omega),b2]};{show((((wr.alloc o1).alloc o2).alloc o3).alloc o4).heap[wr.heap.size+1+1]? = _;rw[Below.heap_alloc _ _ _ (by rw[s1,s1,s1];omega),b3]};{show((((wr.alloc o1).alloc o2).alloc o3).alloc o4).heap.size=_;rw[s1,s1,s1,s1]}
theorem tC {w2:w_}{b n:Nat}{z:Value}{t:TypeId}(h:w2.heap[b]? = some (.cells (madeCells #[z] n) t (0,0))):w2.rowIs b t n (fun _=>z):=⟨_,h,size_madeCells _ _,fun i hi=>by simp[madeCells,hi,Nat.mod_one]⟩
theorem qO {wr w2:w_}{bR bC bL bO N:Nat}{steps:Value}(hC:w2.heap[bC]? = some (.cells (madeCells #[i_ 0] N) 3 (0,0)))(hL:w2.heap[bL]? = some (.cells (madeCells #[i_ 0] N) 3 (0,0)))(hO:w2.heap[bO]? = some (.cells (madeCells #[.bool false] N) 4 (0,0)))
  (hR:w2.heap[bR]? = some (.cells #[steps,s_ bC 0 N N,s_ bL 0 N N,.slice none 0 0,s_ bO 0 N N,i_ 0,i_ 0,.bool false] 182 (0,0)))(hb:b_ wr w2)(hs:w2.heap.size=wr.heap.size+4):y7 wr wr.heap.size (wr.heap.size+4) bR bC bL bO steps N T0 (.slice none 0 0) w2 where
 old:=hb
 size:=by omega
 box:=⟨_,hR,rfl,fun i hi=>by
  match i,hi with
  | 0,_=>rfl
  | 1,_=>rfl
  | 2,_=>rfl
  | 3,_=>rfl
  | 4,_=>rfl
  | 5,_=>rfl
  | 6,_=>rfl
  | 7,_=>rfl⟩
 q:=tC hC
 low:=tC hL
 opn:=(tC hO).congr (fun j _=>by simp[T0])
 pth:=zbh _ _ _ _
def tB (x:aj)(σ:dW)(wr:w_)(e:Ending)(w':w_):Prop:=
 ∃(n:Nat) (f:Bool),e=.returned (.tuple #[i_ (n:Int),.bool f])/\(f=false->∀ b,b<x.u.length->σ.st b≠none->¬ir (fh x) b)/\(f=true->n<x.u.length/\σ.st n≠none/\ir (fh x) n/\∀ b,b<n->σ.st b≠none->¬ir (fh x) b)/\b_ wr w'
theorem Qu {x:aj}{σ:dW}{wr w':w_}{T:Rg}(hm:∀ b,σ.st b≠none->b<x.u.length)(hI:kq (fun a=>iP (aR x a) a) T [])(hJ:xU (fun a=>σ.st a≠none) x.u.length T)(bK:∀ b,b<x.u.length->σ.st b≠none->T.q b≠0)(hb:b_ wr w'):tB x σ wr (.returned (.tuple #[i_ (T.least:Int),.bool T.found])) w':=by
 have hp:=Aq hI;have PX:∀ b,T.q b≠0->T.shut b:=fun b h=>⟨h,by rw[hp];intro c;cases c⟩;have ko:∀ b,ir (fun a=>iP (aR x a) a) b↔ir (fh x) b:=fun b=>CM (fun a y=>Al (aR x a) a y);refine⟨T.least,T.found,rfl,fun hf b ar bj=>?_,fun hf=>?_,hb⟩
 {rcases hI.best with⟨_,h⟩ | ⟨h,_⟩;{rw[<-ko];exact h b (PX b (bK b ar bj))};{rw[hf]at h;cases h}};{rcases hI.best with⟨h,_⟩ | ⟨_,h1,h2,h3⟩;{rw[hf]at h;cases h};{refine⟨hJ.lt _ h1.1,hJ.inn _ h1.1,(ko _).1 h2,fun b ar bj hr=>?_⟩;have:=h3 b (PX b (bK b (hm b bj) bj)) ((ko b).2 hr);omega}}
theorem uG (w:w_)(bV bS bT:Nat)(H:Nat->Value)(l:List aj)(p k R0:Nat)(σ:dW)(R:Nat->Value×Value)(iv:Value)(li:List Int)(b7 o7 c7:Nat)(wv:w_)
  (h:jq w bV bS bT H (al l p).u.length σ R iv li wv)(hk:uU l p)(hg:ju l (al l p) k σ)(hd:mp σ (al l p).u.length)(hm:oR R0 (al l p).u.length σ)(hG:gd w)(h9:H 9=s_ b7 o7 (al l p).u.length c7)(ku:b7<w.heap.size)(hx:∀ a,a<(al l p).u.length->aK w b7 (o7+a * 5) (aR (al l p) a)) :
  c_ 81 #[.pointer (some (a_ bV 0))] wv (tB (al l p) σ wv):=by
 have qt:H_ (∀ b,σ.st b≠none->b<(al l p).u.length):=fun b hb=>by
  cases e:σ.st b with
  | none=>exact zcc e hb
  | some s=>exact(hm.st b s e).1
 have HEE:H_ (∀ x,x<(al l p).u.length->σ.st x≠none->∀ y,y∈(fun a=>iP (aR (al l p) a) a) x->y<(al l p).u.length/\σ.st y≠none):=fun x ow aN y hy=>by{have:=sb hg x aN (hd x ow) y ((Al _ _ _).1 hy);exact⟨qt.o y this,this⟩};have SC:H_ (ER (fun a=>iP (aR (al l p) a) a) wv wv.heap.size bV (al l p).u.length):=fun W hW x ow=>by
  have hf:=wH hk ow;have hv:=h.below hW;have VG:=hx x ow;have qy:aK W b7 (o7+x * 5) (aR (al l p) x):=by
   have e:∀ o,W.cell? (a_ b7 o)=w.cell? (a_ b7 o):=fun o=>hv.old.cell (p:=(a_ b7 o)) ku;exact⟨(e _).trans VG.op,(e _).trans VG.fa,(e _).trans VG.fb,(e _).trans VG.fc,(e _).trans VG.fd⟩
  show Calls _ _ _ W (jU (aG (iP (aR (al l p) x) x)) W);generalize aR (al l p) x=n at *;obtain⟨NT,fa,fb,fc,fd⟩:=n;obtain⟨op,rfl⟩:∃ op:Nat,NT=op:=⟨NT.toNat,by have:=hf.op;dsimp only at this;omega⟩;exact sx bV b7 o7 c7 (al l p).u.length op fa fb fc fd x W (hG.keep hv.old hG.pos) (by have:=hf.op;dsimp only at this;omega) ow hk.few (by rw[<-h9];exact hv.box.cell (i:=9) (by omega)) qy (fun y hy=>(hf.targ y hy).1)
 have Lh:wv.cell? (a_ bV 11)=some (s_ bS 0 (al l p).u.length (al l p).u.length):=h.box.cell (i:=11) (by omega);have OM:=h.box.lt;have Ip:=hk.few;have HV:=af h;have eL:H_ (∀(T:Rg) (w':w_),kq (fun a=>iP (aR (al l p) a) a) T []->xU (fun a=>σ.st a≠none) (al l p).u.length T->(∀ b,b<(al l p).u.length->σ.st b≠none->T.q b≠0)->b_ wv w'->tB (al l p) σ wv (.returned (.tuple #[i_ (T.least:Int),.bool T.found])) w'):=fun T w' h1 h2 h3 h4=>Qu qt.o h1 h2 h3 h4;have qw:H_ (∀ x,((fun a=>iP (aR (al l p) a) a) x).length<=2):=fun x=>Ja _ _;clear h hg hd hm hG h9 ku hx hk;generalize hEE:(fun a=>iP (aR (al l p) a) a)=EE at *;generalize tB (al l p) σ wv=Q at *;generalize (al l p).u.length=N at *;have OE:=run_make_row' (P:=Tryz.prog) 70 3 (i_ 0) 8 Tryz.underlying70 (by kernel_rfl) rfl .i64 .i64 N (by omega) (by omega);have Oo:=run_make_row' (P:=Tryz.prog) 68 4 (.bool false) 1 Tryz.underlying68 (by kernel_rfl) rfl .i64 .i64 N (by omega) (by omega);obtain⟨d1,d2,d3,d4⟩:bV<wv.heap.size+1/\bV<wv.heap.size+2/\bV<wv.heap.size+3/\bV<wv.heap.size+4:=by{omega};go_enter Tryz.func81,Tryz.ntmps81;go_upto_region 2 with fail;go_cut [5] (fun s5 wc=>∃ bR bC bL bO,s5=.pointer (some (a_ bR 0))/\H_ (F6 wv.heap.size (wv.heap.size+4) bR bC bL bO)/\H_ (y7 wv wv.heap.size (wv.heap.size+4) bR bC bL bO (dT bV) N T0 (.slice none 0 0) wc));case first=>
  go_region;(all_goals (go_wp2_with fail));(all_goals go_meet);all_goals clear OE Oo
  all_goals first
   | (obtain⟨t1,t2,t3,t4,t5,t6⟩:=gm wv (.cells (madeCells #[i_ 0] N) 3) (.cells (madeCells #[i_ 0] N) 3) (.cells (madeCells #[.bool false] N) 4) (.cells #[dT bV,s_ wv.heap.size 0 N N,s_ (wv.heap.size+1) 0 N N,.slice none 0 0,s_ (wv.heap.size+1+1) 0 N N,i_ 0,i_ 0,.bool false] 182);exact⟨_,_,_,_,rfl,⟨⟨by omega,by omega⟩,⟨by omega,by omega⟩,⟨by omega,by omega⟩,⟨by omega,by omega⟩,by omega,by omega,by omega,by omega,by omega,by omega⟩,qO t1 t2 t3 t4 t5 t6⟩)
   | (obtain⟨t1,t2,t3,t4,t5,t6⟩:=gm wv (.cells (madeCells #[i_ 0] N) 3) (.cells (madeCells #[.bool false] N) 4) (.cells (madeCells #[i_ 0] N) 3) (.cells #[dT bV,s_ wv.heap.size 0 N N,s_ (wv.heap.size+1+1) 0 N N,.slice none 0 0,s_ (wv.heap.size+1) 0 N N,i_ 0,i_ 0,.bool false] 182);exact⟨_,_,_,_,rfl,⟨⟨by omega,by omega⟩,⟨by omega,by omega⟩,⟨by omega,by omega⟩,⟨by omega,by omega⟩,by omega,by omega,by omega,by omega,by omega,by omega⟩,qO t1 t3 t2 t4 t5 t6⟩)
   | (obtain⟨t1,t2,t3,t4,t5,t6⟩:=gm wv (.cells (madeCells #[i_ 0] N) 3) (.cells (madeCells #[i_ 0] N) 3) (.cells (madeCells #[.bool false] N) 4) (.cells #[dT bV,s_ (wv.heap.size+1) 0 N N,s_ wv.heap.size 0 N N,.slice none 0 0,s_ (wv.heap.size+1+1) 0 N N,i_ 0,i_ 0,.bool false] 182);exact⟨_,_,_,_,rfl,⟨⟨by omega,by omega⟩,⟨by omega,by omega⟩,⟨by omega,by omega⟩,⟨by omega,by omega⟩,by omega,by omega,by omega,by omega,by omega,by omega⟩,qO t2 t1 t3 t4 t5 t6⟩)
   | (obtain⟨t1,t2,t3,t4,t5,t6⟩:=gm wv (.cells (madeCells #[.bool false] N) 4) (.cells (madeCells #[i_ 0] N) 3) (.cells (madeCells #[i_ 0] N) 3) (.cells #[dT bV,s_ (wv.heap.size+1) 0 N N,s_ (wv.heap.size+1+1) 0 N N,.slice none 0 0,s_ wv.heap.size 0 N N,i_ 0,i_ 0,.bool false] 182);exact⟨_,_,_,_,rfl,⟨⟨by omega,by omega⟩,⟨by omega,by omega⟩,⟨by omega,by omega⟩,⟨by omega,by omega⟩,by omega,by omega,by omega,by omega,by omega,by omega⟩,qO t2 t3 t1 t4 t5 t6⟩)
   | (obtain⟨t1,t2,t3,t4,t5,t6⟩:=gm wv (.cells (madeCells #[i_ 0] N) 3) (.cells (madeCells #[.bool false] N) 4) (.cells (madeCells #[i_ 0] N) 3) (.cells #[dT bV,s_ (wv.heap.size+1+1) 0 N N,s_ wv.heap.size 0 N N,.slice none 0 0,s_ (wv.heap.size+1) 0 N N,i_ 0,i_ 0,.bool false] 182);exact⟨_,_,_,_,rfl,⟨⟨by omega,by omega⟩,⟨by omega,by omega⟩,⟨by omega,by omega⟩,⟨by omega,by omega⟩,by omega,by omega,by omega,by omega,by omega,by omega⟩,qO t3 t1 t2 t4 t5 t6⟩)
   | (obtain⟨t1,t2,t3,t4,t5,t6⟩:=gm wv (.cells (madeCells #[.bool false] N) 4) (.cells (madeCells #[i_ 0] N) 3) (.cells (madeCells #[i_ 0] N) 3) (.cells #[dT bV,s_ (wv.heap.size+1+1) 0 N N,s_ (wv.heap.size+1) 0 N N,.slice none 0 0,s_ wv.heap.size 0 N N,i_ 0,i_ 0,.bool false] 182);exact⟨_,_,_,_,rfl,⟨⟨by omega,by omega⟩,⟨by omega,by omega⟩,⟨by omega,by omega⟩,⟨by omega,by omega⟩,by omega,by omega,by omega,by omega,by omega,by omega⟩,qO t3 t2 t1 t4 t5 t6⟩)
 case rest=>
  obtain⟨bR,bC,bL,bO,rfl,HRB,QG⟩:=hcut;have mh:=QG.o.old;have aaD:wc.cell? (a_ bV 11)=some (s_ bS 0 N N):=(mh.cell (p:=(a_ bV 11)) OM).trans Lh;have lV:bV<wc.heap.size:=l_ OM mh.size;have hNc:N<=6000:=Ip;clear OE Oo d1 d2 d3 d4 Lh mh;go_wp2_with fail;clear aaD lV;go_loopg [28] N (fun gg kk wx=>∃(q:Nat) (T:Rg) (pv:Value),q+gg=N/\kk=i_ (q:Int)/\H_ (y7 wv wv.heap.size (wv.heap.size+4) bR bC bL bO (dT bV) N T pv wx)/\H_ (kq EE T [])/\H_ (xU (fun a=>σ.st a≠none) N T)/\H_ (∀ x,x<q->σ.st x≠none->T.q x≠0));(case atStart=>exact⟨0,T0,_,by omega,rfl,QG,YS EE,YR _ N,fun x hx=>zcc hx (bW _)⟩);case round=>
   clear QG;obtain⟨q,T,pv,hq,rfl,HW,HI,HJ,Tm⟩:=hrel;obtain⟨⟨k0,k1,k2,k3,k4,k5,k6,k7⟩,lR,lC,lL,lO⟩:=iI.cells HW.o;clear k0 k2 k3 k4 k5;by_cases au:q<N
   ·have KI:(q:Int)<N:=by omega
    obtain⟨q0,q1,q2⟩:=(HV.o.below HW.o.old).reached au;have lS:=(HV.o.below HW.o.old).sts.lt;have cC:=HW.o.q.cell (i:=q) au;have HQ:=af hq;have SL1:∃ a n c,(R q).1=.slice a n c:=by
     cases e:σ.st q with
     | none=>rw[HV.o.none_ q au e];exact⟨_,_,_,rfl⟩
     | some s=>obtain⟨a,c,e2⟩:=(HV.o.own q s au e).1.lenV;exact⟨_,_,_,e2⟩
    have SL2:∃ a n c,(R q).2=.slice a n c:=by
     cases e:σ.st q with
     | none=>rw[HV.o.none_ q au e];exact⟨_,_,_,rfl⟩
     | some s=>obtain⟨a,c,e2⟩:=(HV.o.own q s au e).2.lenV;exact⟨_,_,_,e2⟩
    obtain⟨sa1,Zq,Zg,es1⟩:=SL1;obtain⟨sa2,sn2,sc2,es2⟩:=SL2;rw[es1]at q1;rw[es2]at q2;have WA:H_ (∀ b,y7 wv wv.heap.size (wv.heap.size+4) bR bC bL bO (dT bV) N T pv (wr.alloc (.cells #[.bool b,.slice sa1 Zq Zg,.slice sa2 sn2 sc2] 97))):=fun b=>iI.below HW.o (r_.alloc n_ _) (by omega);have n1:bR<wr.heap.size+1:=by{omega};have n2:bC<wr.heap.size+1:=by{omega};clear hq es1 es2 k6 k7;cases est:σ.st q with
    | none=>
     rw[est]at q0;change wr.cell? (a_ bS (q * 3))=some (.bool false)at q0;have NX:H_ (∀ x,x<q+1->σ.st x≠none->T.q x≠0):=fun x hx hs=>by{by_cases e:x=q;{subst e;exact zcc est hs};{exact Tm.o x (by omega) hs}};clear est;go_wp2;go_roundg (N-(q+1));(case measure=>have:=HQ.o;omega);case rel=>exact⟨q+1,T,pv,by omega,by go_num,WA.o _,HI,HJ,NX⟩
    | some s=>
     rw[est]at q0;change wr.cell? (a_ bS (q * 3))=some (.bool true)at q0;have hPq:H_ (σ.st q≠none):=by{show σ.st q≠none;rw[est];simp};clear est;by_cases hc:T.q q=0
     ·have CW:H_ (c_ 127 #[.pointer (some (a_ bR 0)),i_ (q:Int)] (wr.alloc (.cells #[.bool true,.slice sa1 Zq Zg,.slice sa2 sn2 sc2] 97)) (nE (fun a=>σ.st a≠none) EE wv wv.heap.size (wv.heap.size+4) bR bC bL bO bV N T [] q pv (wr.alloc (.cells #[.bool true,.slice sa1 Zq Zg,.slice sa2 sn2 sc2] 97)))):=
       A6 (fun a=>σ.st a≠none) EE wv wv.heap.size (wv.heap.size+4) bR bC bL bO bV N HRB.o (by omega) hNc SC.o HEE.o qw.o _ T [] q pv _ n_ (WA.o true) HI.o HJ.o hc au hPq.o (fun x hx=>by rw[Aq HI.o]at hx;cases hx)
      rw[hc]at cC;clear hc;go_wp2_with fail;refine(aa CW).mono ?_;rintro e w5 ⟨rfl,T2,yX,hW5,X5,EA,hF5⟩;have R1:H_ (y7 wv wv.heap.size (wv.heap.size+4) bR bC bL bO (dT bV) N T2 yX w5):=hW5;have R2:H_ (kq EE T2 []):=X5.inv;have R3:H_ (xU (fun a=>σ.st a≠none) N T2):=EA;have NX:H_ (∀ x,x<q+1->σ.st x≠none->T2.q x≠0):=fun x hx hs=>by{by_cases e:x=q;{subst e;rw[X5.num];omega};{have:=Tm.o x (by omega) hs;rw[X5.grow.q x this];exact this}};clear hW5 X5 EA hF5 CW;go_wp2;go_roundg (N-(q+1));(case measure=>have:=HQ.o;omega);case rel=>exact⟨q+1,T2,yX,by omega,by go_num,R1,R2,R3,NX⟩
     {have Oy:(((T.q q:Nat):Int)==0)=false:=by{simp;omega};have NX:H_ (∀ x,x<q+1->σ.st x≠none->T.q x≠0):=fun x hx hs=>by{by_cases e:x=q;{subst e;exact hc};{exact Tm.o x (by omega) hs}};clear hc;generalize T.q q=cq at *;go_wp2;go_roundg (N-(q+1));(case measure=>have:=HQ.o;omega);case rel=>exact⟨q+1,T,pv,by omega,by go_num,WA.o _,HI,HJ,NX⟩}
   {have mx:q=N:=by{omega};subst mx;have vj:H_ (∀ w',b_ wv w'->Q (.returned (.tuple #[i_ (T.least:Int),.bool T.found])) w'):=fun w' hb=>eL.o T w' HI.o HJ.o Tm.o hb;have BD:H_ (b_ wv wr.drew):=HW.o.old.drew;clear hq au k1;go_wp2_with fail;go_region;(all_goals (go_wp2_with fail));all_goals exact vj.o _ BD.o}
end Go.Proofs.YtcjfjflljdojlaaGreatDoor
