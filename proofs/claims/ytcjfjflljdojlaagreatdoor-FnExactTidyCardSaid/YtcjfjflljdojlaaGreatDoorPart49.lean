import Derived.Test.YtcjfjflljdojlaaGreatDoorPart45
import Derived.Test.YtcjfjflljdojlaaGreatDoorPart36
import Derived.Test.YtcjfjflljdojlaaGreatDoorPart48
import Derived.Test.YtcjfjflljdojlaaGreatDoorPart43
import Derived.BigRegion
import Derived.Deep.DeepCutAuto
import Derived.Deep.CutRange
set_option linter.unusedSimpArgs false
set_option linter.unusedVariables false
set_option maxHeartbeats 4000000
set_option maxRecDepth 100000
namespace Go.Proofs.YtcjfjflljdojlaaGreatDoor
theorem GI {σ σ':dX}{x:Nat×fL}(h:gO σ x=some σ'):(∀ b,σ.st b≠none->σ'.st b≠none)/\(∀ b,σ.due b=true->σ'.due b=true)/\(∀ b,σ.st b=none->σ'.st b≠none->σ'.due b=true)/\σ'.st x.1≠none:=by
 unfold gO at h;cases e:σ.st x.1 with
 | none=>
  rw[e]at h;cases h;refine⟨fun b hb=>?_,fun b hb=>?_,fun b h1 h2=>?_,?_⟩
  ·show bZ σ.st x.1 (some x.2) b≠none;unfold bZ;split
   ·simp
   ·exact hb
  ·show bZ σ.due x.1 true b=true;unfold bZ;split
   ·rfl
   ·exact hb
  ·change bZ σ.st x.1 (some x.2) b≠none at h2;show bZ σ.due x.1 true b=true;unfold bZ at h2 ⊢;by_cases c:b=x.1
   ·rw[if_pos c]
   ·rw[if_neg c]at h2;exact absurd h1 h2
  ·show bZ σ.st x.1 (some x.2) x.1≠none;simp[bZ]
 | some s=>
  rw[e]at h;change (if mT s x.2=true then some σ else none)=some σ' at h;split at h
  ·cases h;exact⟨fun b hb=>hb,fun b hb=>hb,fun b h1 h2=>absurd h1 h2,by rw[e];simp⟩
  ·cases h
theorem wB:∀{F:List (Nat×fL)}{σ σ':dX},fk F σ=.inr σ'->(∀ b,σ.st b≠none->σ'.st b≠none)/\(∀ b,σ.due b=true->σ'.due b=true)/\(∀ b,σ.st b=none->σ'.st b≠none->σ'.due b=true)/\∀ x,x∈F->σ'.st x.1≠none
 | [],σ,σ',h=>by cases h;exact⟨fun b hb=>hb,fun b hb=>hb,fun b h1 h2=>absurd h1 h2,fun x hx=>by cases hx⟩
 | y::F,σ,σ',h=>by
  change (match gO σ y with | none=>(Sum.inl y.1:Nat ⊕ dX) | some σ'=>fk F σ')=.inr σ' at h;cases e:gO σ y with
  | none=>rw[e]at h;cases h
  | some σ1=>
   rw[e]at h;obtain⟨a1,a2,a3,a4⟩:=GI e;obtain⟨b1,b2,b3,b4⟩:=wB h;refine⟨fun b hb=>b1 b (a1 b hb),fun b hb=>b2 b (a2 b hb),fun b h1 h2=>?_,fun x hx=>?_⟩
   ·by_cases c:σ1.st b=none
    ·exact b3 b c h2
    ·exact b2 b (a3 b h1 c)
   ·rcases List.mem_cons.1 hx with rfl | hx
    ·exact b1 _ a4
    ·exact b4 x hx
theorem DA {n:aA}{a y:Nat}(s:fL)(t:List Int)(g:List bg)(h:y∈ep n a):∃ st,(y,st)∈bK n a s t g:=by
 have hg:∀ st,de n=true->st=(⟨t,g⟩:fL)->(a+1,st)∈bK n a s t g:=fun st h1 h2=>by
  unfold bK;rw[if_pos h1,h2];exact List.mem_append_left _ (List.mem_singleton.2 rfl)
 unfold ep at h;by_cases c1:n.op=1\/n.op=3\/n.op=28\/n.op=29\/n.op=30
 ·rw[if_pos c1]at h;cases h
 rw[if_neg c1]at h;by_cases c2:n.op=18/\n.fb=12
 ·rw[if_pos c2]at h;cases h
 rw[if_neg c2]at h;by_cases c3:n.op=19
 ·rw[if_pos c3,List.mem_singleton]at h
  aj h
  exact⟨⟨t,g⟩,by unfold bK;rw[if_pos c3];exact List.mem_append_right _ (List.mem_singleton.2 rfl)⟩
 rw[if_neg c3]at h;have go:de n=true:=by
  unfold de;simp;omega
 by_cases c4:n.op=41
 ·rw[if_pos c4,List.mem_singleton]at h
  aj h
  exact⟨_,by unfold bK;rw[if_neg c3,if_neg (show ¬(n.op=20\/n.op=21\/n.op=38\/n.op=39)by omega),if_pos c4];exact List.mem_append_right _ (List.mem_singleton.2 rfl)⟩
 rw[if_neg c4]at h;by_cases c5:n.op=20\/n.op=21\/n.op=38\/n.op=39
 ·rw[if_pos c5]at h;rcases List.mem_cons.1 h with rfl | h
  ·exact⟨_,by unfold bK;rw[if_neg c3,if_pos c5];exact List.mem_append_right _ (List.mem_singleton.2 rfl)⟩
  ·rw[List.mem_singleton]at h
   aj h
   exact⟨_,hg _ go rfl⟩
 rw[if_neg c5]at h;by_cases c6:n.op=31
 ·rw[if_pos c6]at h;rcases List.mem_cons.1 h with rfl | h
  ·exact⟨_,by unfold bK;rw[if_neg c3,if_neg c5,if_neg c4,if_pos c6];exact List.mem_append_right _ (List.mem_singleton.2 rfl)⟩
  ·rw[List.mem_singleton]at h
   aj h
   exact⟨_,hg _ go rfl⟩
 ·rw[if_neg c6,List.mem_singleton]at h
  aj h
  exact⟨_,hg _ go rfl⟩
theorem rO {l:List ak}{x:ak}:∀{k:Nat}{σ:dX},jw l x k σ->∀ b,σ.st b≠none->σ.due b=false->∀ y,y∈ff x b->σ.st y≠none
 | 0,σ,h,b,hb,hd,y,hy=>by
  rw[show σ=jb x from h]at hb hd;change bZ (fun _=>none) 0 (some (fL.mk (dA x) [])) b≠none at hb;change bZ (fun _=>false) 0 true b=false at hd;unfold bZ at hb hd;split at hd
  ·cases hd
  ·rename_i c;rw[if_neg c]at hb;exact absurd rfl hb
 | k+1,σ,⟨σ',a,h1,h2,h3⟩,b,hb,hd,y,hy=>by
  unfold fT at h3;cases e:σ'.st a with
  | none=>rw[e]at h3;cases h3
  | some s=>
   rw[e]at h3;change (match bI l (aT x a) s.types with | none=>(Sum.inl (10,a):(Int×Nat) ⊕ dX) | some r=>_)=_ at h3;cases e1:bI l (aT x a) s.types with
   | none=>rw[e1]at h3;cases h3
   | some r=>
    rw[e1]at h3;change (match aQ (aT x a) s.guards with | none=>(Sum.inl (11,a):(Int×Nat) ⊕ dX) | some g=>_)=_ at h3;cases e2:aQ (aT x a) s.guards with
    | none=>rw[e2]at h3;cases h3
    | some g=>
     rw[e2]at h3;change (if _ then _ else _)=_ at h3;split at h3
     ·cases e3:fk (bK (aT x a) a s (bh (aT x a) r.types) g) ⟨σ'.st,bZ σ'.due a false⟩with
      | inl y=>rw[e3]at h3;cases h3
      | inr σ2=>
       rw[e3]at h3;cases h3;obtain⟨a1,a2,a3,a4⟩:=wB e3;by_cases c:b=a
       ·aj c
        obtain⟨st,lu⟩:=DA s (bh (aT x b) r.types) g hy;exact a4 _ lu
       ·by_cases c2:σ'.st b=none
        ·have:=a3 b c2 hb;rw[hd]at this;cases this
        ·by_cases c3:σ'.due b=true
         ·have:=a2 b (by show bZ σ'.due a false b=true;unfold bZ;rw[if_neg c];exact c3);rw[hd]at this;cases this
         ·exact a1 y (rO h1 b c2 (by simpa using c3) y hy)
     ·cases h3
end Go.Proofs.YtcjfjflljdojlaaGreatDoor
namespace Go.Proofs.YtcjfjflljdojlaaGreatDoor
open Go.RowKit
def T0:Rg:=⟨fun _=>0,fun _=>0,[],0,0,false⟩
theorem Y2 (E:Nat->List Nat):ks E T0 [] where
 nodup:=List.Pairwise.nil
 vis:=fun x hx=>by cases hx
 cnt:=fun x=>n_
 gray:=fun x hx=>by cases hx
 done:=fun x hx=>absurd rfl hx
 shut:=fun x hx=>absurd rfl hx.1
 up:=fun x y hx=>by cases hx
 down:=fun y hy=>by cases hy
 best:=.inl ⟨rfl,fun x hx=>absurd rfl hx.1⟩
theorem YR (P:Nat->Prop)(N:Nat):xA P N T0:=⟨fun x hx=>absurd rfl hx,fun x hx=>absurd rfl hx,by show 0+vQ (fun _=>0) N=N;rw[tR];omega⟩
theorem AA {E:Nat->List Nat}{T:Rg}(h:ks E T []):T.path=[]:=by
 cases e:T.path with
 | nil=>rfl
 | cons x l=>
  obtain⟨g,hg,_⟩:=h.down x (by rw[e];exact List.mem_cons_self ..);cases hg
theorem gp (wr:World)(o1 o2 o3 o4:Obj):((((wr.alloc o1).alloc o2).alloc o3).alloc o4).drew.heap[wr.heap.size]? = some o1/\((((wr.alloc o1).alloc o2).alloc o3).alloc o4).drew.heap[wr.heap.size+1]? = some o2/\((((wr.alloc o1).alloc o2).alloc o3).alloc o4).drew.heap[wr.heap.size+1+1]? = some o3/\((((wr.alloc o1).alloc o2).alloc o3).alloc o4).drew.heap[wr.heap.size+1+1+1]? = some o4/\b_ wr ((((wr.alloc o1).alloc o2).alloc o3).alloc o4).drew/\((((wr.alloc o1).alloc o2).alloc o3).alloc o4).drew.heap.size=wr.heap.size+4:=by
 have s1:∀(W:World) (o:Obj),(W.alloc o).heap.size=W.heap.size+1:=fun W o=>by simp
 have b2:=Go.Deep.blk_alloc_new (wr.alloc o1) o2;have b3:=Go.Deep.blk_alloc_new ((wr.alloc o1).alloc o2) o3;have b4:=Go.Deep.blk_alloc_new (((wr.alloc o1).alloc o2).alloc o3) o4;rw[s1]at b2;rw[s1,s1]at b3;rw[s1,s1,s1]at b4;refine⟨?_,?_,?_,b4,((((r_.alloc n_ _).alloc (by rw[s1];omega) _).alloc (by rw[s1,s1];omega) _).alloc (by rw[s1,s1,s1];omega) _).drew,?_⟩
 ·show((((wr.alloc o1).alloc o2).alloc o3).alloc o4).heap[wr.heap.size]? = _;rw[Below.heap_alloc _ _ _ (by rw[s1,s1,s1];omega),Below.heap_alloc _ _ _ (by rw[s1,s1];omega),Below.heap_alloc _ _ _ (by rw[s1];omega),Go.Deep.blk_alloc_new]
 ·show((((wr.alloc o1).alloc o2).alloc o3).alloc o4).heap[wr.heap.size+1]? = _;rw[Below.heap_alloc _ _ _ (by rw[s1,s1,s1];omega),Below.heap_alloc _ _ _ (by rw[s1,s1];omega),b2]
 ·show((((wr.alloc o1).alloc o2).alloc o3).alloc o4).heap[wr.heap.size+1+1]? = _;rw[Below.heap_alloc _ _ _ (by rw[s1,s1,s1];omega),b3]
 ·show((((wr.alloc o1).alloc o2).alloc o3).alloc o4).heap.size=_;rw[s1,s1,s1,s1]
theorem tQ {w2:World}{b n:Nat}{z:Value}{t:TypeId}(h:w2.heap[b]? = some (.cells (madeCells #[z] n) t (0,0))):w2.rowIs b t n (fun _=>z):=⟨_,h,size_madeCells _ _,fun i hi=>by simp[madeCells,hi,Nat.mod_one]⟩
theorem qS {wr w2:World}{bR bC bL bO N:Nat}{steps:Value}(hC:w2.heap[bC]? = some (.cells (madeCells #[i_ 0] N) 3 (0,0)))(hL:w2.heap[bL]? = some (.cells (madeCells #[i_ 0] N) 3 (0,0)))(hO:w2.heap[bO]? = some (.cells (madeCells #[.bool false] N) 4 (0,0)))
  (hR:w2.heap[bR]? = some (.cells #[steps,.slice (some (a_ bC 0)) N N,.slice (some (a_ bL 0)) N N,.slice none 0 0,.slice (some (a_ bO 0)) N N,i_ 0,i_ 0,.bool false] 182 (0,0)))(hb:b_ wr w2)(hs:w2.heap.size=wr.heap.size+4):za wr wr.heap.size (wr.heap.size+4) bR bC bL bO steps N T0 (.slice none 0 0) w2 where
 old:=hb
 size:=by omega
 box:=⟨_,hR,rfl,fun i hi=>by
  match i,hi with
  | 0,_=>rfl
  | 1,_=>rfl
  | 2,_=>rfl
  | 3,_=>rfl
  | 4,_=>rfl
  | 5,_=>rfl
  | 6,_=>rfl
  | 7,_=>rfl⟩
 came:=tQ hC
 low:=tQ hL
 opn:=(tQ hO).congr (fun j _=>by simp[T0])
 pth:=World.ownsRow_nil _ _ _ _
def tM (x:ak)(σ:dX)(wr:World)(e:Ending)(w':World):Prop:=
 ∃(n:Nat) (f:Bool),e=.returned (.tuple #[i_ (n:Int),.bool f])/\(f=false->∀ b,b<x.ins.length->σ.st b≠none->¬iu (ff x) b)/\(f=true->n<x.ins.length/\σ.st n≠none/\iu (ff x) n/\∀ b,b<n->σ.st b≠none->¬iu (ff x) b)/\b_ wr w'
theorem Qg {x:ak}{σ:dX}{wr w':World}{T:Rg}(hm:∀ b,σ.st b≠none->b<x.ins.length)(hI:ks (fun a=>iU (aT x a) a) T [])(hJ:xA (fun a=>σ.st a≠none) x.ins.length T)(bN:∀ b,b<x.ins.length->σ.st b≠none->T.came b≠0)(hb:b_ wr w'):tM x σ wr (.returned (.tuple #[i_ (T.least:Int),.bool T.found])) w':=by
 have hp:=AA hI;have Ph:∀ b,T.came b≠0->T.shut b:=fun b h=>⟨h,by rw[hp];intro c;cases c⟩;have ko:∀ b,iu (fun a=>iU (aT x a) a) b↔iu (ff x) b:=fun b=>Cu (fun a y=>A7 (aT x a) a y);refine⟨T.least,T.found,rfl,fun hf b au bo=>?_,fun hf=>?_,hb⟩
 ·rcases hI.best with⟨_,h⟩ | ⟨h,_⟩
  ·rw[<-ko];exact h b (Ph b (bN b au bo))
  ·rw[hf]at h;cases h
 ·rcases hI.best with⟨h,_⟩ | ⟨_,h1,h2,h3⟩
  ·rw[hf]at h;cases h
  ·refine⟨hJ.lt _ h1.1,hJ.inn _ h1.1,(ko _).1 h2,fun b au bo hr=>?_⟩;have:=h3 b (Ph b (bN b (hm b bo) bo)) ((ko b).2 hr);omega
theorem uq (w:World)(bV bS bT:Nat)(H:Nat->Value)(l:List ak)(p k R0:Nat)(σ:dX)(R:Nat->Value×Value)(iv:Value)(li:List Int)(b7 o7 c7:Nat)(wv:World)
  (h:jo w bV bS bT H (am l p).ins.length σ R iv li wv)(hk:uD l p)(hg:jw l (am l p) k σ)(hd:mt σ (am l p).ins.length)(hm:oV R0 (am l p).ins.length σ)(hG:gh w)(h9:H 9=.slice (some (a_ b7 o7)) (am l p).ins.length c7)(kw:b7<w.heap.size)(hx:∀ a,a<(am l p).ins.length->aL w b7 (o7+a * 5) (aT (am l p) a)) :
  c_ 81 #[.pointer (some (a_ bV 0))] wv (tM (am l p) σ wv):=by
 have qv:Hid (∀ b,σ.st b≠none->b<(am l p).ins.length):=fun b hb=>by
  cases e:σ.st b with
  | none=>exact absurd e hb
  | some s=>exact(hm.st b s e).1
 have HEE:Hid (∀ x,x<(am l p).ins.length->σ.st x≠none->∀ y,y∈(fun a=>iU (aT (am l p) a) a) x->y<(am l p).ins.length/\σ.st y≠none):=fun x oy aO y hy=>by
  have:=rO hg x aO (hd x oy) y ((A7 _ _ _).1 hy);exact⟨qv.out y this,this⟩
 have SC:Hid (ED (fun a=>iU (aT (am l p) a) a) wv wv.heap.size bV (am l p).ins.length):=fun W hW x oy=>by
  have hf:=xe hk oy;have hv:=h.below hW;have WD:=hx x oy;have qA:aL W b7 (o7+x * 5) (aT (am l p) x):=by
   have e:∀ o,W.cell? (a_ b7 o)=w.cell? (a_ b7 o):=fun o=>hv.old.cell (p:=(a_ b7 o)) kw;exact⟨(e _).trans WD.op,(e _).trans WD.fa,(e _).trans WD.fb,(e _).trans WD.fc,(e _).trans WD.fd⟩
  show Calls _ _ _ W (kf (aH (iU (aT (am l p) x) x)) W);generalize aT (am l p) x=n at *;obtain⟨Ob,fa,fb,fc,fd⟩:=n;obtain⟨op,rfl⟩:∃ op:Nat,Ob=op:=⟨Ob.toNat,by have:=hf.op;dsimp only at this;omega⟩;exact sB bV b7 o7 c7 (am l p).ins.length op fa fb fc fd x W (hG.keep hv.old hG.pos) (by have:=hf.op;dsimp only at this;omega) oy hk.few (by rw[<-h9];exact hv.box.cell (i:=9) (by omega)) qA (fun y hy=>(hf.targ y hy).1)
 have Kp:wv.cell? (a_ bV 11)=some (.slice (some (a_ bS 0)) (am l p).ins.length (am l p).ins.length):=h.box.cell (i:=11) (by omega);have OK:=h.box.lt;have Iu:=hk.few;have HV:=af h;have eM:Hid (∀(T:Rg) (w':World),ks (fun a=>iU (aT (am l p) a) a) T []->xA (fun a=>σ.st a≠none) (am l p).ins.length T->(∀ b,b<(am l p).ins.length->σ.st b≠none->T.came b≠0)->b_ wv w'->tM (am l p) σ wv (.returned (.tuple #[i_ (T.least:Int),.bool T.found])) w'):=fun T w' h1 h2 h3 h4=>Qg qv.out h1 h2 h3 h4;have qB:Hid (∀ x,((fun a=>iU (aT (am l p) a) a) x).length<=2):=fun x=>IT _ _;clear h hg hd hm hG h9 kw hx hk;generalize hEE:(fun a=>iU (aT (am l p) a) a)=EE at *;generalize tM (am l p) σ wv=Q at *;generalize (am l p).ins.length=N at *;have Ou:=run_make_row' (P:=Tryz.prog) 70 3 (i_ 0) 8 Tryz.underlying70 (by kernel_rfl) rfl .i64 .i64 N (by omega) (by omega);have OS:=run_make_row' (P:=Tryz.prog) 68 4 (.bool false) 1 Tryz.underlying68 (by kernel_rfl) rfl .i64 .i64 N (by omega) (by omega);obtain⟨d1,d2,d3,d4⟩:bV<wv.heap.size+1/\bV<wv.heap.size+2/\bV<wv.heap.size+3/\bV<wv.heap.size+4:=by omega
 go_enter Tryz.func81,Tryz.ntmps81
 go_upto_region 2 with fail
 go_cut [5] (fun s5 wc=>∃ bR bC bL bO,s5=.pointer (some (a_ bR 0))/\Hid (GK wv.heap.size (wv.heap.size+4) bR bC bL bO)/\Hid (za wv wv.heap.size (wv.heap.size+4) bR bC bL bO (dU bV) N T0 (.slice none 0 0) wc))
 case first=>
  go_region
  all_goals (go_wp2_with fail)
  all_goals go_meet
  all_goals clear Ou OS
  all_goals first
   | (obtain⟨t1,t2,t3,t4,t5,t6⟩:=gp wv (.cells (madeCells #[i_ 0] N) 3) (.cells (madeCells #[i_ 0] N) 3) (.cells (madeCells #[.bool false] N) 4) (.cells #[dU bV,.slice (some (a_ wv.heap.size 0)) N N,.slice (some (a_ (wv.heap.size+1) 0)) N N,.slice none 0 0,.slice (some (a_ (wv.heap.size+1+1) 0)) N N,i_ 0,i_ 0,.bool false] 182);exact⟨_,_,_,_,rfl,⟨⟨by omega,by omega⟩,⟨by omega,by omega⟩,⟨by omega,by omega⟩,⟨by omega,by omega⟩,by omega,by omega,by omega,by omega,by omega,by omega⟩,qS t1 t2 t3 t4 t5 t6⟩)
   | (obtain⟨t1,t2,t3,t4,t5,t6⟩:=gp wv (.cells (madeCells #[i_ 0] N) 3) (.cells (madeCells #[.bool false] N) 4) (.cells (madeCells #[i_ 0] N) 3) (.cells #[dU bV,.slice (some (a_ wv.heap.size 0)) N N,.slice (some (a_ (wv.heap.size+1+1) 0)) N N,.slice none 0 0,.slice (some (a_ (wv.heap.size+1) 0)) N N,i_ 0,i_ 0,.bool false] 182);exact⟨_,_,_,_,rfl,⟨⟨by omega,by omega⟩,⟨by omega,by omega⟩,⟨by omega,by omega⟩,⟨by omega,by omega⟩,by omega,by omega,by omega,by omega,by omega,by omega⟩,qS t1 t3 t2 t4 t5 t6⟩)
   | (obtain⟨t1,t2,t3,t4,t5,t6⟩:=gp wv (.cells (madeCells #[i_ 0] N) 3) (.cells (madeCells #[i_ 0] N) 3) (.cells (madeCells #[.bool false] N) 4) (.cells #[dU bV,.slice (some (a_ (wv.heap.size+1) 0)) N N,.slice (some (a_ wv.heap.size 0)) N N,.slice none 0 0,.slice (some (a_ (wv.heap.size+1+1) 0)) N N,i_ 0,i_ 0,.bool false] 182);exact⟨_,_,_,_,rfl,⟨⟨by omega,by omega⟩,⟨by omega,by omega⟩,⟨by omega,by omega⟩,⟨by omega,by omega⟩,by omega,by omega,by omega,by omega,by omega,by omega⟩,qS t2 t1 t3 t4 t5 t6⟩)
   | (obtain⟨t1,t2,t3,t4,t5,t6⟩:=gp wv (.cells (madeCells #[.bool false] N) 4) (.cells (madeCells #[i_ 0] N) 3) (.cells (madeCells #[i_ 0] N) 3) (.cells #[dU bV,.slice (some (a_ (wv.heap.size+1) 0)) N N,.slice (some (a_ (wv.heap.size+1+1) 0)) N N,.slice none 0 0,.slice (some (a_ wv.heap.size 0)) N N,i_ 0,i_ 0,.bool false] 182);exact⟨_,_,_,_,rfl,⟨⟨by omega,by omega⟩,⟨by omega,by omega⟩,⟨by omega,by omega⟩,⟨by omega,by omega⟩,by omega,by omega,by omega,by omega,by omega,by omega⟩,qS t2 t3 t1 t4 t5 t6⟩)
   | (obtain⟨t1,t2,t3,t4,t5,t6⟩:=gp wv (.cells (madeCells #[i_ 0] N) 3) (.cells (madeCells #[.bool false] N) 4) (.cells (madeCells #[i_ 0] N) 3) (.cells #[dU bV,.slice (some (a_ (wv.heap.size+1+1) 0)) N N,.slice (some (a_ wv.heap.size 0)) N N,.slice none 0 0,.slice (some (a_ (wv.heap.size+1) 0)) N N,i_ 0,i_ 0,.bool false] 182);exact⟨_,_,_,_,rfl,⟨⟨by omega,by omega⟩,⟨by omega,by omega⟩,⟨by omega,by omega⟩,⟨by omega,by omega⟩,by omega,by omega,by omega,by omega,by omega,by omega⟩,qS t3 t1 t2 t4 t5 t6⟩)
   | (obtain⟨t1,t2,t3,t4,t5,t6⟩:=gp wv (.cells (madeCells #[.bool false] N) 4) (.cells (madeCells #[i_ 0] N) 3) (.cells (madeCells #[i_ 0] N) 3) (.cells #[dU bV,.slice (some (a_ (wv.heap.size+1+1) 0)) N N,.slice (some (a_ (wv.heap.size+1) 0)) N N,.slice none 0 0,.slice (some (a_ wv.heap.size 0)) N N,i_ 0,i_ 0,.bool false] 182);exact⟨_,_,_,_,rfl,⟨⟨by omega,by omega⟩,⟨by omega,by omega⟩,⟨by omega,by omega⟩,⟨by omega,by omega⟩,by omega,by omega,by omega,by omega,by omega,by omega⟩,qS t3 t2 t1 t4 t5 t6⟩)
 case rest=>
  obtain⟨bR,bC,bL,bO,rfl,HRB,QT⟩:=hcut;have mn:=QT.out.old;have aak:wc.cell? (a_ bV 11)=some (.slice (some (a_ bS 0)) N N):=(mn.cell (p:=(a_ bV 11)) OK).trans Kp;have lV:bV<wc.heap.size:=l_ OK mn.size;have hNc:N<=6000:=Iu;clear Ou OS d1 d2 d3 d4 Kp mn;go_wp2_with fail
  clear aak lV;go_loopg [28] N (fun gg kk wx=>∃(q:Nat) (T:Rg) (pv:Value),q+gg=N/\kk=i_ (q:Int)/\Hid (za wv wv.heap.size (wv.heap.size+4) bR bC bL bO (dU bV) N T pv wx)/\Hid (ks EE T [])/\Hid (xA (fun a=>σ.st a≠none) N T)/\Hid (∀ x,x<q->σ.st x≠none->T.came x≠0))
  case atStart=>exact⟨0,T0,_,by omega,rfl,QT,Y2 EE,YR _ N,fun x hx=>absurd hx (Nat.not_lt_zero _)⟩
  case round=>
   clear QT;obtain⟨q,T,pv,hq,rfl,HW,HI,HJ,Tf⟩:=hrel;obtain⟨⟨k0,k1,k2,k3,k4,k5,k6,k7⟩,lR,lC,lL,lO⟩:=iJ.cells HW.out;clear k0 k2 k3 k4 k5;by_cases ax:q<N
   ·have Ku:(q:Int)<N:=by omega
    obtain⟨q0,q1,q2⟩:=(HV.out.below HW.out.old).reached ax;have lS:=(HV.out.below HW.out.old).sts.lt;have cC:=HW.out.came.cell (i:=q) ax;have HQ:=af hq;have Zg:∃ a n c,(R q).1=.slice a n c:=by
     cases e:σ.st q with
     | none=>rw[HV.out.none_ q ax e];exact⟨_,_,_,rfl⟩
     | some s=>obtain⟨a,c,e2⟩:=(HV.out.own q s ax e).1.lenV;exact⟨_,_,_,e2⟩
    have ZR:∃ a n c,(R q).2=.slice a n c:=by
     cases e:σ.st q with
     | none=>rw[HV.out.none_ q ax e];exact⟨_,_,_,rfl⟩
     | some s=>obtain⟨a,c,e2⟩:=(HV.out.own q s ax e).2.lenV;exact⟨_,_,_,e2⟩
    obtain⟨sa1,Zu,sc1,es1⟩:=Zg;obtain⟨sa2,sn2,sc2,es2⟩:=ZR;rw[es1]at q1;rw[es2]at q2;have WA:Hid (∀ b,za wv wv.heap.size (wv.heap.size+4) bR bC bL bO (dU bV) N T pv (wr.alloc (.cells #[.bool b,.slice sa1 Zu sc1,.slice sa2 sn2 sc2] 97))):=fun b=>iJ.below HW.out (r_.alloc n_ _) (by omega);have n1:bR<wr.heap.size+1:=by omega
    have n2:bC<wr.heap.size+1:=by omega
    clear hq es1 es2 k6 k7;cases est:σ.st q with
    | none=>
     rw[est]at q0;change wr.cell? (a_ bS (q * 3))=some (.bool false)at q0;have NX:Hid (∀ x,x<q+1->σ.st x≠none->T.came x≠0):=fun x hx hs=>by
      by_cases e:x=q
      ·aj e;exact absurd est hs
      ·exact Tf.out x (by omega) hs
     clear est;go_wp2_with fail
     go_roundg (N-(q+1))
     case measure=>have:=HQ.out;omega
     case rel=>exact⟨q+1,T,pv,by omega,by go_num,WA.out _,HI,HJ,NX⟩
    | some s=>
     rw[est]at q0;change wr.cell? (a_ bS (q * 3))=some (.bool true)at q0;have hPq:Hid (σ.st q≠none):=by show σ.st q≠none;rw[est];simp
     clear est;by_cases hc:T.came q=0
     ·have CW:Hid (c_ 127 #[.pointer (some (a_ bR 0)),i_ (q:Int)] (wr.alloc (.cells #[.bool true,.slice sa1 Zu sc1,.slice sa2 sn2 sc2] 97)) (mL (fun a=>σ.st a≠none) EE wv wv.heap.size (wv.heap.size+4) bR bC bL bO bV N T [] q pv (wr.alloc (.cells #[.bool true,.slice sa1 Zu sc1,.slice sa2 sn2 sc2] 97)))):=
       zV (fun a=>σ.st a≠none) EE wv wv.heap.size (wv.heap.size+4) bR bC bL bO bV N HRB.out (by omega) hNc SC.out HEE.out qB.out _ T [] q pv _ n_ (WA.out true) HI.out HJ.out hc ax hPq.out (fun x hx=>by rw[AA HI.out]at hx;cases hx)
      rw[hc]at cC;clear hc;go_wp2_with fail
      refine(aa CW).mono ?_;rintro e w5 ⟨rfl,T2,yW,hW5,YJ,D9,hF5⟩;have R1:Hid (za wv wv.heap.size (wv.heap.size+4) bR bC bL bO (dU bV) N T2 yW w5):=hW5;have R2:Hid (ks EE T2 []):=YJ.inv;have R3:Hid (xA (fun a=>σ.st a≠none) N T2):=D9;have NX:Hid (∀ x,x<q+1->σ.st x≠none->T2.came x≠0):=fun x hx hs=>by
       by_cases e:x=q
       ·aj e;rw[YJ.num];omega
       ·have:=Tf.out x (by omega) hs;rw[YJ.grow.came x this];exact this
      clear hW5 YJ D9 hF5 CW;go_wp2_with fail
      go_roundg (N-(q+1))
      case measure=>have:=HQ.out;omega
      case rel=>exact⟨q+1,T2,yW,by omega,by go_num,R1,R2,R3,NX⟩
     ·have Nz:(((T.came q:Nat):Int)==0)=false:=by simp;omega
      have NX:Hid (∀ x,x<q+1->σ.st x≠none->T.came x≠0):=fun x hx hs=>by
       by_cases e:x=q
       ·aj e;exact hc
       ·exact Tf.out x (by omega) hs
      clear hc;generalize T.came q=cq at *;go_wp2_with fail
      go_roundg (N-(q+1))
      case measure=>have:=HQ.out;omega
      case rel=>exact⟨q+1,T,pv,by omega,by go_num,WA.out _,HI,HJ,NX⟩
   ·have mz:q=N:=by omega
    aj mz
    have vl:Hid (∀ w',b_ wv w'->Q (.returned (.tuple #[i_ (T.least:Int),.bool T.found])) w'):=fun w' hb=>eM.out T w' HI.out HJ.out Tf.out hb;have BD:Hid (b_ wv wr.drew):=HW.out.old.drew;clear hq ax k1;go_wp2_with fail
    go_region
    all_goals (go_wp2_with fail)
    all_goals exact vl.out _ BD.out
end Go.Proofs.YtcjfjflljdojlaaGreatDoor
