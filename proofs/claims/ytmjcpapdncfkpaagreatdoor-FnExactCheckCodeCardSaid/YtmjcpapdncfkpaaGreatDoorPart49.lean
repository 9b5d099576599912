import Derived.Test.YtmjcpapdncfkpaaGreatDoorPart45
import Derived.Test.YtmjcpapdncfkpaaGreatDoorPart36
import Derived.Test.YtmjcpapdncfkpaaGreatDoorPart48
import Derived.Test.YtmjcpapdncfkpaaGreatDoorPart43
import Derived.BigRegion
import Derived.Deep.DeepCutAuto
import Derived.Deep.CutRange
set_option linter.unusedSimpArgs false
set_option linter.unusedVariables false
set_option maxHeartbeats 4000000
set_option maxRecDepth 100000
namespace Go.Proofs.YtmjcpapdncfkpaaGreatDoor
theorem oneM_grow {σ σ':Mst}{x:Nat×StD}(h:oneM σ x=some σ'):(∀ b,σ.st b≠none→σ'.st b≠none)∧(∀ b,σ.due b=true→σ'.due b=true)∧(∀ b,σ.st b=none→σ'.st b≠none→σ'.due b=true)∧σ'.st x.1≠none:=by
 unfold oneM at h
 cases e:σ.st x.1 with
 | none=>
  rw[e]at h
  cases h
  refine⟨fun b hb=>?_,fun b hb=>?_,fun b h1 h2=>?_,?_⟩
  ·show upd σ.st x.1 (some x.2) b≠none
   unfold upd;split
   ·simp
   ·exact hb
  ·show upd σ.due x.1 true b=true
   unfold upd;split
   ·rfl
   ·exact hb
  ·change upd σ.st x.1 (some x.2) b≠none at h2
   show upd σ.due x.1 true b=true
   unfold upd at h2 ⊢
   by_cases c:b=x.1
   ·rw[if_pos c]
   ·rw[if_neg c]at h2;exact absurd h1 h2
  ·show upd σ.st x.1 (some x.2) x.1≠none
   simp[upd]
 | some s=>
  rw[e]at h
  change (if sameSt s x.2=true then some σ else none)=some σ' at h
  split at h
  ·cases h
   exact⟨fun b hb=>hb,fun b hb=>hb,fun b h1 h2=>absurd h1 h2,by rw[e];simp⟩
  ·cases h
theorem allM_grow:∀{F:List (Nat×StD)}{σ σ':Mst},allM F σ=.inr σ'→(∀ b,σ.st b≠none→σ'.st b≠none)∧(∀ b,σ.due b=true→σ'.due b=true)∧(∀ b,σ.st b=none→σ'.st b≠none→σ'.due b=true)∧∀ x,x∈F→σ'.st x.1≠none
 | [],σ,σ',h=>by cases h;exact⟨fun b hb=>hb,fun b hb=>hb,fun b h1 h2=>absurd h1 h2,fun x hx=>by cases hx⟩
 | y::F,σ,σ',h=>by
  change (match oneM σ y with | none=>(Sum.inl y.1:Nat ⊕ Mst) | some σ'=>allM F σ')=.inr σ' at h
  cases e:oneM σ y with
  | none=>rw[e]at h;cases h
  | some σ1=>
   rw[e]at h
   obtain⟨a1,a2,a3,a4⟩:=oneM_grow e
   obtain⟨b1,b2,b3,b4⟩:=allM_grow h
   refine⟨fun b hb=>b1 b (a1 b hb),fun b hb=>b2 b (a2 b hb),fun b h1 h2=>?_,fun x hx=>?_⟩
   ·by_cases c:σ1.st b=none
    ·exact b3 b c h2
    ·exact b2 b (a3 b h1 c)
   ·rcases List.mem_cons.1 hx with rfl | hx
    ·exact b1 _ a4
    ·exact b4 x hx
theorem sil_follow {n:InsD}{a y:Nat}(s:StD)(t:List Int)(g:List GuD)(h:y∈silentC n a):∃ st,(y,st)∈followC n a s t g:=by
 have hg:∀ st,goesC n=true→st=(⟨t,g⟩:StD)→(a+1,st)∈followC n a s t g:=fun st h1 h2=>by
  unfold followC
  rw[if_pos h1,h2]
  exact List.mem_append_left _ (List.mem_singleton.2 rfl)
 unfold silentC at h
 by_cases c1:n.op=1∨n.op=3∨n.op=28∨n.op=29∨n.op=30
 ·rw[if_pos c1]at h;cases h
 rw[if_neg c1]at h
 by_cases c2:n.op=18∧n.fb=12
 ·rw[if_pos c2]at h;cases h
 rw[if_neg c2]at h
 by_cases c3:n.op=19
 ·rw[if_pos c3,List.mem_singleton]at h
  subst h
  exact⟨⟨t,g⟩,by unfold followC;rw[if_pos c3];exact List.mem_append_right _ (List.mem_singleton.2 rfl)⟩
 rw[if_neg c3]at h
 have go:goesC n=true:=by
  unfold goesC
  simp
  omega
 by_cases c4:n.op=41
 ·rw[if_pos c4,List.mem_singleton]at h
  subst h
  exact⟨_,by unfold followC;rw[if_neg c3,if_neg (show ¬(n.op=20∨n.op=21∨n.op=38∨n.op=39)by omega),if_pos c4];exact List.mem_append_right _ (List.mem_singleton.2 rfl)⟩
 rw[if_neg c4]at h
 by_cases c5:n.op=20∨n.op=21∨n.op=38∨n.op=39
 ·rw[if_pos c5]at h
  rcases List.mem_cons.1 h with rfl | h
  ·exact⟨_,by unfold followC;rw[if_neg c3,if_pos c5];exact List.mem_append_right _ (List.mem_singleton.2 rfl)⟩
  ·rw[List.mem_singleton]at h
   subst h
   exact⟨_,hg _ go rfl⟩
 rw[if_neg c5]at h
 by_cases c6:n.op=31
 ·rw[if_pos c6]at h
  rcases List.mem_cons.1 h with rfl | h
  ·exact⟨_,by unfold followC;rw[if_neg c3,if_neg c5,if_neg c4,if_pos c6];exact List.mem_append_right _ (List.mem_singleton.2 rfl)⟩
  ·rw[List.mem_singleton]at h
   subst h
   exact⟨_,hg _ go rfl⟩
 ·rw[if_neg c6,List.mem_singleton]at h
  subst h
  exact⟨_,hg _ go rfl⟩
theorem goes_closed {l:List ProtoD}{x:ProtoD}:∀{k:Nat}{σ:Mst},Goes l x k σ→∀ b,σ.st b≠none→σ.due b=false→∀ y,y∈ringsE x b→σ.st y≠none
 | 0,σ,h,b,hb,hd,y,hy=>by
  rw[show σ=startM x from h]at hb hd
  change upd (fun _=>none) 0 (some (StD.mk (firstTy x) [])) b≠none at hb
  change upd (fun _=>false) 0 true b=false at hd
  unfold upd at hb hd
  split at hd
  ·cases hd
  ·rename_i c;rw[if_neg c]at hb;exact absurd rfl hb
 | k+1,σ,⟨σ',a,h1,h2,h3⟩,b,hb,hd,y,hy=>by
  unfold stepM at h3
  cases e:σ'.st a with
  | none=>rw[e]at h3;cases h3
  | some s=>
   rw[e]at h3
   change (match readC l (inD x a) s.types with | none=>(Sum.inl (10,a):(Int×Nat) ⊕ Mst) | some r=>_)=_ at h3
   cases e1:readC l (inD x a) s.types with
   | none=>rw[e1]at h3;cases h3
   | some r=>
    rw[e1]at h3
    change (match changeC (inD x a) s.guards with | none=>(Sum.inl (11,a):(Int×Nat) ⊕ Mst) | some g=>_)=_ at h3
    cases e2:changeC (inD x a) s.guards with
    | none=>rw[e2]at h3;cases h3
    | some g=>
     rw[e2]at h3
     change (if _ then _ else _)=_ at h3
     split at h3
     ·cases e3:allM (followC (inD x a) a s (writeC (inD x a) r.types) g) ⟨σ'.st,upd σ'.due a false⟩with
      | inl y=>rw[e3]at h3;cases h3
      | inr σ2=>
       rw[e3]at h3
       cases h3
       obtain⟨a1,a2,a3,a4⟩:=allM_grow e3
       by_cases c:b=a
       ·subst c
        obtain⟨st,hst⟩:=sil_follow s (writeC (inD x b) r.types) g hy
        exact a4 _ hst
       ·by_cases c2:σ'.st b=none
        ·have:=a3 b c2 hb
         rw[hd]at this
         cases this
        ·by_cases c3:σ'.due b=true
         ·have:=a2 b (by show upd σ'.due a false b=true;unfold upd;rw[if_neg c];exact c3)
          rw[hd]at this
          cases this
         ·exact a1 y (goes_closed h1 b c2 (by simpa using c3) y hy)
     ·cases h3
end Go.Proofs.YtmjcpapdncfkpaaGreatDoor
namespace Go.Proofs.YtmjcpapdncfkpaaGreatDoor
open Go.RowKit
def T0:Rg:=⟨fun _=>0,fun _=>0,[],0,0,false⟩
theorem inv0 (E:Nat→List Nat):RInv E T0 [] where
 nodup:=List.Pairwise.nil
 vis:=fun x hx=>by cases hx
 cnt:=fun x=>Nat.le_refl _
 gray:=fun x hx=>by cases hx
 done:=fun x hx=>absurd rfl hx
 shut:=fun x hx=>absurd rfl hx.1
 up:=fun x y hx=>by cases hx
 down:=fun y hy=>by cases hy
 best:=.inl ⟨rfl,fun x hx=>absurd rfl hx.1⟩
theorem rgI0 (P:Nat→Prop)(N:Nat):RgI P N T0:=⟨fun x hx=>absurd rfl hx,fun x hx=>absurd rfl hx,by show 0+unv (fun _=>0) N=N;rw[unv_zero];omega⟩
theorem path_nil {E:Nat→List Nat}{T:Rg}(h:RInv E T []):T.path=[]:=by
 cases e:T.path with
 | nil=>rfl
 | cons x l=>
  obtain⟨g,hg,_⟩:=h.down x (by rw[e];exact List.mem_cons_self ..)
  cases hg
theorem four_allocs (wr:World)(o1 o2 o3 o4:Obj):((((wr.alloc o1).alloc o2).alloc o3).alloc o4).drew.heap[wr.heap.size]? = some o1∧((((wr.alloc o1).alloc o2).alloc o3).alloc o4).drew.heap[wr.heap.size+1]? = some o2∧((((wr.alloc o1).alloc o2).alloc o3).alloc o4).drew.heap[wr.heap.size+1+1]? = some o3∧((((wr.alloc o1).alloc o2).alloc o3).alloc o4).drew.heap[wr.heap.size+1+1+1]? = some o4∧Below wr.heap.size wr ((((wr.alloc o1).alloc o2).alloc o3).alloc o4).drew∧((((wr.alloc o1).alloc o2).alloc o3).alloc o4).drew.heap.size=wr.heap.size+4:=by
 have s1:∀(W:World) (o:Obj),(W.alloc o).heap.size=W.heap.size+1:=fun W o=>by simp
 have b2:=Go.Deep.blk_alloc_new (wr.alloc o1) o2
 have b3:=Go.Deep.blk_alloc_new ((wr.alloc o1).alloc o2) o3
 have b4:=Go.Deep.blk_alloc_new (((wr.alloc o1).alloc o2).alloc o3) o4
 rw[s1]at b2
 rw[s1,s1]at b3
 rw[s1,s1,s1]at b4
 refine⟨?_,?_,?_,b4,(((((Below.refl _ _).alloc (Nat.le_refl _) _).alloc (by rw[s1];omega) _).alloc (by rw[s1,s1];omega) _).alloc (by rw[s1,s1,s1];omega) _).drew,?_⟩
 ·show((((wr.alloc o1).alloc o2).alloc o3).alloc o4).heap[wr.heap.size]? = _
  rw[Below.heap_alloc _ _ _ (by rw[s1,s1,s1];omega),Below.heap_alloc _ _ _ (by rw[s1,s1];omega),Below.heap_alloc _ _ _ (by rw[s1];omega),Go.Deep.blk_alloc_new]
 ·show((((wr.alloc o1).alloc o2).alloc o3).alloc o4).heap[wr.heap.size+1]? = _
  rw[Below.heap_alloc _ _ _ (by rw[s1,s1,s1];omega),Below.heap_alloc _ _ _ (by rw[s1,s1];omega),b2]
 ·show((((wr.alloc o1).alloc o2).alloc o3).alloc o4).heap[wr.heap.size+1+1]? = _
  rw[Below.heap_alloc _ _ _ (by rw[s1,s1,s1];omega),b3]
 ·show((((wr.alloc o1).alloc o2).alloc o3).alloc o4).heap.size=_
  rw[s1,s1,s1,s1]
theorem made_row {w2:World}{b n:Nat}{z:Value}{t:TypeId}(h:w2.heap[b]? = some (.cells (madeCells #[z] n) t (0,0))):w2.rowIs b t n (fun _=>z):=⟨_,h,size_madeCells _ _,fun i hi=>by simp[madeCells,hi,Nat.mod_one]⟩
theorem rg_new {wr w2:World}{bR bC bL bO N:Nat}{steps:Value}(hC:w2.heap[bC]? = some (.cells (madeCells #[.int .i64 0] N) 3 (0,0)))(hL:w2.heap[bL]? = some (.cells (madeCells #[.int .i64 0] N) 3 (0,0)))(hO:w2.heap[bO]? = some (.cells (madeCells #[.bool false] N) 4 (0,0)))
  (hR:w2.heap[bR]? = some (.cells #[steps,.slice (some ⟨bC,0,none⟩) N N,.slice (some ⟨bL,0,none⟩) N N,.slice none 0 0,.slice (some ⟨bO,0,none⟩) N N,.int .i64 0,.int .i64 0,.bool false] 142 (0,0)))(hb:Below wr.heap.size wr w2)(hs:w2.heap.size=wr.heap.size+4):RgW wr wr.heap.size (wr.heap.size+4) bR bC bL bO steps N T0 (.slice none 0 0) w2 where
 old:=hb
 size:=by omega
 box:=⟨_,hR,rfl,fun i hi=>by
  match i,hi with
  | 0,_=>rfl
  | 1,_=>rfl
  | 2,_=>rfl
  | 3,_=>rfl
  | 4,_=>rfl
  | 5,_=>rfl
  | 6,_=>rfl
  | 7,_=>rfl⟩
 came:=made_row hC
 low:=made_row hL
 opn:=(made_row hO).congr (fun j _=>by simp[T0])
 pth:=World.ownsRow_nil _ _ _ _
def SrPost (x:ProtoD)(σ:Mst)(wr:World)(e:Ending)(w':World):Prop:=
 ∃(n:Nat) (f:Bool),e=.returned (.tuple #[.int .i64 (n:Int),.bool f])∧(f=false→∀ b,b<x.ins.length→σ.st b≠none→¬Ring (ringsE x) b)∧(f=true→n<x.ins.length∧σ.st n≠none∧Ring (ringsE x) n∧∀ b,b<n→σ.st b≠none→¬Ring (ringsE x) b)∧Below wr.heap.size wr w'
theorem sr_end {x:ProtoD}{σ:Mst}{wr w':World}{T:Rg}(hm:∀ b,σ.st b≠none→b<x.ins.length)(hI:RInv (fun a=>silT (inD x a) a) T [])(hJ:RgI (fun a=>σ.st a≠none) x.ins.length T)(hall:∀ b,b<x.ins.length→σ.st b≠none→T.came b≠0)(hb:Below wr.heap.size wr w'):SrPost x σ wr (.returned (.tuple #[.int .i64 (T.least:Int),.bool T.found])) w':=by
 have hp:=path_nil hI
 have hsh:∀ b,T.came b≠0→T.shut b:=fun b h=>⟨h,by rw[hp];intro c;cases c⟩
 have hrg:∀ b,Ring (fun a=>silT (inD x a) a) b↔Ring (ringsE x) b:=fun b=>ring_congr (fun a y=>silT_mem (inD x a) a y)
 refine⟨T.least,T.found,rfl,fun hf b hb1 hb2=>?_,fun hf=>?_,hb⟩
 ·rcases hI.best with⟨_,h⟩ | ⟨h,_⟩
  ·rw[←hrg];exact h b (hsh b (hall b hb1 hb2))
  ·rw[hf]at h;cases h
 ·rcases hI.best with⟨h,_⟩ | ⟨_,h1,h2,h3⟩
  ·rw[hf]at h;cases h
  ·refine⟨hJ.lt _ h1.1,hJ.inn _ h1.1,(hrg _).1 h2,fun b hb1 hb2 hr=>?_⟩
   have:=h3 b (hsh b (hall b (hm b hb2) hb2)) ((hrg b).2 hr)
   omega
theorem silentRing_any (w:World)(bV bS bT:Nat)(H:Nat→Value)(l:List ProtoD)(p k R0:Nat)(σ:Mst)(R:Nat→Value×Value)(iv:Value)(li:List Int)(b7 o7 c7:Nat)(wv:World)
  (h:VfW w bV bS bT H (prD l p).ins.length σ R iv li wv)(hk:WkOk l p)(hg:Goes l (prD l p) k σ)(hd:NoDue σ (prD l p).ins.length)(hm:MOk R0 (prD l p).ins.length σ)(hG:RTab w)(h9:H 9=.slice (some ⟨b7,o7,none⟩) (prD l p).ins.length c7)(hb7:b7<w.heap.size)(hx:∀ a,a<(prD l p).ins.length→InsCells w b7 (o7+a * 5) (inD (prD l p) a)) :
  Calls Tryz.prog 43 #[.pointer (some ⟨bV,0,none⟩)] wv (SrPost (prD l p) σ wv):=by
 have HST:Hid (∀ b,σ.st b≠none→b<(prD l p).ins.length):=fun b hb=>by
  cases e:σ.st b with
  | none=>exact absurd e hb
  | some s=>exact(hm.st b s e).1
 have HEE:Hid (∀ x,x<(prD l p).ins.length→σ.st x≠none→∀ y,y∈(fun a=>silT (inD (prD l p) a) a) x→y<(prD l p).ins.length∧σ.st y≠none):=fun x hx1 hx2 y hy=>by
  have:=goes_closed hg x hx2 (hd x hx1) y ((silT_mem _ _ _).1 hy)
  exact⟨HST.out y this,this⟩
 have SC:Hid (StepsOk (fun a=>silT (inD (prD l p) a) a) wv wv.heap.size bV (prD l p).ins.length):=fun W hW x hx1=>by
  have hf:=insFit_of hk hx1
  have hv:=h.below hW
  have hx':=hx x hx1
  have hic:InsCells W b7 (o7+x * 5) (inD (prD l p) x):=by
   have e:∀ o,W.cell? ⟨b7,o,none⟩=w.cell? ⟨b7,o,none⟩:=fun o=>hv.old.cell (p:=⟨b7,o,none⟩) hb7
   exact⟨(e _).trans hx'.op,(e _).trans hx'.fa,(e _).trans hx'.fb,(e _).trans hx'.fc,(e _).trans hx'.fd⟩
  show Calls _ _ _ W (OwnRet (natI (silT (inD (prD l p) x) x)) W)
  generalize inD (prD l p) x=n at *
  obtain⟨op',fa,fb,fc,fd⟩:=n
  obtain⟨op,rfl⟩:∃ op:Nat,op'=op:=⟨op'.toNat,by have:=hf.op;dsimp only at this;omega⟩
  exact silentSteps_any bV b7 o7 c7 (prD l p).ins.length op fa fb fc fd x W (hG.keep hv.old hG.pos) (by have:=hf.op;dsimp only at this;omega) hx1 hk.few (by rw[←h9];exact hv.box.cell (i:=9) (by omega)) hic (fun y hy=>(hf.targ y hy).1)
 have k11:wv.cell? ⟨bV,11,none⟩=some (.slice (some ⟨bS,0,none⟩) (prD l p).ins.length (prD l p).ins.length):=h.box.cell (i:=11) (by omega)
 have hbV:=h.box.lt
 have hN6:=hk.few
 have HV:=hide h
 have FIN:Hid (∀(T:Rg) (w':World),RInv (fun a=>silT (inD (prD l p) a) a) T []→RgI (fun a=>σ.st a≠none) (prD l p).ins.length T→(∀ b,b<(prD l p).ins.length→σ.st b≠none→T.came b≠0)→Below wv.heap.size wv w'→SrPost (prD l p) σ wv (.returned (.tuple #[.int .i64 (T.least:Int),.bool T.found])) w'):=fun T w' h1 h2 h3 h4=>sr_end HST.out h1 h2 h3 h4
 have HE2:Hid (∀ x,((fun a=>silT (inD (prD l p) a) a) x).length≤2):=fun x=>silT_len _ _
 clear h hg hd hm hG h9 hb7 hx hk
 generalize hEE:(fun a=>silT (inD (prD l p) a) a)=EE at *
 generalize SrPost (prD l p) σ wv=Q at *
 generalize (prD l p).ins.length=N at *
 have hmk1:=run_make_row' (P:=Tryz.prog) 63 3 (.int .i64 0) 8 Tryz.underlying63 (by kernel_rfl) rfl .i64 .i64 N (by omega) (by omega)
 have hmk2:=run_make_row' (P:=Tryz.prog) 52 4 (.bool false) 1 Tryz.underlying52 (by kernel_rfl) rfl .i64 .i64 N (by omega) (by omega)
 obtain⟨d1,d2,d3,d4⟩:bV<wv.heap.size+1∧bV<wv.heap.size+2∧bV<wv.heap.size+3∧bV<wv.heap.size+4:=by omega
 go_enter Tryz.func43,Tryz.ntmps43
 go_upto_region 2 with fail
 go_cut [5] (fun s5 wc=>∃ bR bC bL bO,s5=.pointer (some ⟨bR,0,none⟩)∧Hid (RgB wv.heap.size (wv.heap.size+4) bR bC bL bO)∧Hid (RgW wv wv.heap.size (wv.heap.size+4) bR bC bL bO (stepsV bV) N T0 (.slice none 0 0) wc))
 case first=>
  go_region
  all_goals (go_wp2_with fail)
  all_goals go_meet
  all_goals clear hmk1 hmk2
  all_goals first
   | (obtain⟨t1,t2,t3,t4,t5,t6⟩:=four_allocs wv (.cells (madeCells #[.int .i64 0] N) 3) (.cells (madeCells #[.int .i64 0] N) 3) (.cells (madeCells #[.bool false] N) 4) (.cells #[stepsV bV,.slice (some ⟨wv.heap.size,0,none⟩) N N,.slice (some ⟨wv.heap.size+1,0,none⟩) N N,.slice none 0 0,.slice (some ⟨wv.heap.size+1+1,0,none⟩) N N,.int .i64 0,.int .i64 0,.bool false] 142);exact⟨_,_,_,_,rfl,⟨⟨by omega,by omega⟩,⟨by omega,by omega⟩,⟨by omega,by omega⟩,⟨by omega,by omega⟩,by omega,by omega,by omega,by omega,by omega,by omega⟩,rg_new t1 t2 t3 t4 t5 t6⟩)
   | (obtain⟨t1,t2,t3,t4,t5,t6⟩:=four_allocs wv (.cells (madeCells #[.int .i64 0] N) 3) (.cells (madeCells #[.bool false] N) 4) (.cells (madeCells #[.int .i64 0] N) 3) (.cells #[stepsV bV,.slice (some ⟨wv.heap.size,0,none⟩) N N,.slice (some ⟨wv.heap.size+1+1,0,none⟩) N N,.slice none 0 0,.slice (some ⟨wv.heap.size+1,0,none⟩) N N,.int .i64 0,.int .i64 0,.bool false] 142);exact⟨_,_,_,_,rfl,⟨⟨by omega,by omega⟩,⟨by omega,by omega⟩,⟨by omega,by omega⟩,⟨by omega,by omega⟩,by omega,by omega,by omega,by omega,by omega,by omega⟩,rg_new t1 t3 t2 t4 t5 t6⟩)
   | (obtain⟨t1,t2,t3,t4,t5,t6⟩:=four_allocs wv (.cells (madeCells #[.int .i64 0] N) 3) (.cells (madeCells #[.int .i64 0] N) 3) (.cells (madeCells #[.bool false] N) 4) (.cells #[stepsV bV,.slice (some ⟨wv.heap.size+1,0,none⟩) N N,.slice (some ⟨wv.heap.size,0,none⟩) N N,.slice none 0 0,.slice (some ⟨wv.heap.size+1+1,0,none⟩) N N,.int .i64 0,.int .i64 0,.bool false] 142);exact⟨_,_,_,_,rfl,⟨⟨by omega,by omega⟩,⟨by omega,by omega⟩,⟨by omega,by omega⟩,⟨by omega,by omega⟩,by omega,by omega,by omega,by omega,by omega,by omega⟩,rg_new t2 t1 t3 t4 t5 t6⟩)
   | (obtain⟨t1,t2,t3,t4,t5,t6⟩:=four_allocs wv (.cells (madeCells #[.bool false] N) 4) (.cells (madeCells #[.int .i64 0] N) 3) (.cells (madeCells #[.int .i64 0] N) 3) (.cells #[stepsV bV,.slice (some ⟨wv.heap.size+1,0,none⟩) N N,.slice (some ⟨wv.heap.size+1+1,0,none⟩) N N,.slice none 0 0,.slice (some ⟨wv.heap.size,0,none⟩) N N,.int .i64 0,.int .i64 0,.bool false] 142);exact⟨_,_,_,_,rfl,⟨⟨by omega,by omega⟩,⟨by omega,by omega⟩,⟨by omega,by omega⟩,⟨by omega,by omega⟩,by omega,by omega,by omega,by omega,by omega,by omega⟩,rg_new t2 t3 t1 t4 t5 t6⟩)
   | (obtain⟨t1,t2,t3,t4,t5,t6⟩:=four_allocs wv (.cells (madeCells #[.int .i64 0] N) 3) (.cells (madeCells #[.bool false] N) 4) (.cells (madeCells #[.int .i64 0] N) 3) (.cells #[stepsV bV,.slice (some ⟨wv.heap.size+1+1,0,none⟩) N N,.slice (some ⟨wv.heap.size,0,none⟩) N N,.slice none 0 0,.slice (some ⟨wv.heap.size+1,0,none⟩) N N,.int .i64 0,.int .i64 0,.bool false] 142);exact⟨_,_,_,_,rfl,⟨⟨by omega,by omega⟩,⟨by omega,by omega⟩,⟨by omega,by omega⟩,⟨by omega,by omega⟩,by omega,by omega,by omega,by omega,by omega,by omega⟩,rg_new t3 t1 t2 t4 t5 t6⟩)
   | (obtain⟨t1,t2,t3,t4,t5,t6⟩:=four_allocs wv (.cells (madeCells #[.bool false] N) 4) (.cells (madeCells #[.int .i64 0] N) 3) (.cells (madeCells #[.int .i64 0] N) 3) (.cells #[stepsV bV,.slice (some ⟨wv.heap.size+1+1,0,none⟩) N N,.slice (some ⟨wv.heap.size+1,0,none⟩) N N,.slice none 0 0,.slice (some ⟨wv.heap.size,0,none⟩) N N,.int .i64 0,.int .i64 0,.bool false] 142);exact⟨_,_,_,_,rfl,⟨⟨by omega,by omega⟩,⟨by omega,by omega⟩,⟨by omega,by omega⟩,⟨by omega,by omega⟩,by omega,by omega,by omega,by omega,by omega,by omega⟩,rg_new t3 t2 t1 t4 t5 t6⟩)
 case rest=>
  obtain⟨bR,bC,bL,bO,rfl,HRB,HRW⟩:=hcut
  have hBw:=HRW.out.old
  have k11':wc.cell? ⟨bV,11,none⟩=some (.slice (some ⟨bS,0,none⟩) N N):=(hBw.cell (p:=⟨bV,11,none⟩) hbV).trans k11
  have lV:bV<wc.heap.size:=Nat.lt_of_lt_of_le hbV hBw.size
  have hNc:N≤6000:=hN6
  clear hmk1 hmk2 d1 d2 d3 d4 k11 hBw
  go_wp2_with fail
  clear k11' lV
  go_loopg [28] N (fun gg kk wx=>∃(q:Nat) (T:Rg) (pv:Value),q+gg=N∧kk=.int .i64 (q:Int)∧Hid (RgW wv wv.heap.size (wv.heap.size+4) bR bC bL bO (stepsV bV) N T pv wx)∧Hid (RInv EE T [])∧Hid (RgI (fun a=>σ.st a≠none) N T)∧Hid (∀ x,x<q→σ.st x≠none→T.came x≠0))
  case atStart=>exact⟨0,T0,_,by omega,rfl,HRW,inv0 EE,rgI0 _ N,fun x hx=>absurd hx (Nat.not_lt_zero _)⟩
  case round=>
   clear HRW
   obtain⟨q,T,pv,hq,rfl,HW,HI,HJ,HAL⟩:=hrel
   obtain⟨⟨k0,k1,k2,k3,k4,k5,k6,k7⟩,lR,lC,lL,lO⟩:=RgM.cells HW.out
   clear k0 k2 k3 k4 k5
   by_cases hlt:q<N
   ·have hltI:(q:Int)<N:=by omega
    obtain⟨q0,q1,q2⟩:=(HV.out.below HW.out.old).reached hlt
    have lS:=(HV.out.below HW.out.old).sts.lt
    have cC:=HW.out.came.cell (i:=q) hlt
    have HQ:=hide hq
    have SL1:∃ a n c,(R q).1=.slice a n c:=by
     cases e:σ.st q with
     | none=>rw[HV.out.none_ q hlt e];exact⟨_,_,_,rfl⟩
     | some s=>obtain⟨a,c,e2⟩:=(HV.out.own q s hlt e).1.lenV;exact⟨_,_,_,e2⟩
    have SL2:∃ a n c,(R q).2=.slice a n c:=by
     cases e:σ.st q with
     | none=>rw[HV.out.none_ q hlt e];exact⟨_,_,_,rfl⟩
     | some s=>obtain⟨a,c,e2⟩:=(HV.out.own q s hlt e).2.lenV;exact⟨_,_,_,e2⟩
    obtain⟨sa1,sn1,sc1,es1⟩:=SL1
    obtain⟨sa2,sn2,sc2,es2⟩:=SL2
    rw[es1]at q1
    rw[es2]at q2
    have WA:Hid (∀ b,RgW wv wv.heap.size (wv.heap.size+4) bR bC bL bO (stepsV bV) N T pv (wr.alloc (.cells #[.bool b,.slice sa1 sn1 sc1,.slice sa2 sn2 sc2] 66))):=fun b=>RgM.below HW.out ((Below.refl _ _).alloc (Nat.le_refl _) _) (by omega)
    have n1:bR<wr.heap.size+1:=by omega
    have n2:bC<wr.heap.size+1:=by omega
    clear hq es1 es2 k6 k7
    cases est:σ.st q with
    | none=>
     rw[est]at q0
     change wr.cell? ⟨bS,q * 3,none⟩=some (.bool false)at q0
     have NX:Hid (∀ x,x<q+1→σ.st x≠none→T.came x≠0):=fun x hx hs=>by
      by_cases e:x=q
      ·subst e;exact absurd est hs
      ·exact HAL.out x (by omega) hs
     clear est
     go_wp2_with fail
     go_roundg (N-(q+1))
     case measure=>have:=HQ.out;omega
     case rel=>exact⟨q+1,T,pv,by omega,by go_num,WA.out _,HI,HJ,NX⟩
    | some s=>
     rw[est]at q0
     change wr.cell? ⟨bS,q * 3,none⟩=some (.bool true)at q0
     have hPq:Hid (σ.st q≠none):=by show σ.st q≠none;rw[est];simp
     clear est
     by_cases hc:T.came q=0
     ·have CW:Hid (Calls Tryz.prog 81 #[.pointer (some ⟨bR,0,none⟩),.int .i64 (q:Int)] (wr.alloc (.cells #[.bool true,.slice sa1 sn1 sc1,.slice sa2 sn2 sc2] 66)) (WlPost (fun a=>σ.st a≠none) EE wv wv.heap.size (wv.heap.size+4) bR bC bL bO bV N T [] q pv (wr.alloc (.cells #[.bool true,.slice sa1 sn1 sc1,.slice sa2 sn2 sc2] 66)))):=
       walk_any (fun a=>σ.st a≠none) EE wv wv.heap.size (wv.heap.size+4) bR bC bL bO bV N HRB.out (by omega) hNc SC.out HEE.out HE2.out _ T [] q pv _ (Nat.le_refl _) (WA.out true) HI.out HJ.out hc hlt hPq.out (fun x hx=>by rw[path_nil HI.out]at hx;cases hx)
      rw[hc]at cC
      clear hc
      go_wp2_with fail
      refine(unhide CW).mono ?_
      rintro e w5 ⟨rfl,T2,pv2,hW5,hP5,hI5,hF5⟩
      have R1:Hid (RgW wv wv.heap.size (wv.heap.size+4) bR bC bL bO (stepsV bV) N T2 pv2 w5):=hW5
      have R2:Hid (RInv EE T2 []):=hP5.inv
      have R3:Hid (RgI (fun a=>σ.st a≠none) N T2):=hI5
      have NX:Hid (∀ x,x<q+1→σ.st x≠none→T2.came x≠0):=fun x hx hs=>by
       by_cases e:x=q
       ·subst e;rw[hP5.num];omega
       ·have:=HAL.out x (by omega) hs
        rw[hP5.grow.came x this];exact this
      clear hW5 hP5 hI5 hF5 CW
      go_wp2_with fail
      go_roundg (N-(q+1))
      case measure=>have:=HQ.out;omega
      case rel=>exact⟨q+1,T2,pv2,by omega,by go_num,R1,R2,R3,NX⟩
     ·have hcb:(((T.came q:Nat):Int)==0)=false:=by simp;omega
      have NX:Hid (∀ x,x<q+1→σ.st x≠none→T.came x≠0):=fun x hx hs=>by
       by_cases e:x=q
       ·subst e;exact hc
       ·exact HAL.out x (by omega) hs
      clear hc
      generalize T.came q=cq at *
      go_wp2_with fail
      go_roundg (N-(q+1))
      case measure=>have:=HQ.out;omega
      case rel=>exact⟨q+1,T,pv,by omega,by go_num,WA.out _,HI,HJ,NX⟩
   ·have hqe:q=N:=by omega
    subst hqe
    have RES:Hid (∀ w',Below wv.heap.size wv w'→Q (.returned (.tuple #[.int .i64 (T.least:Int),.bool T.found])) w'):=fun w' hb=>FIN.out T w' HI.out HJ.out HAL.out hb
    have BD:Hid (Below wv.heap.size wv wr.drew):=HW.out.old.drew
    clear hq hlt k1
    go_wp2_with fail
    go_region
    all_goals (go_wp2_with fail)
    all_goals exact RES.out _ BD.out
end Go.Proofs.YtmjcpapdncfkpaaGreatDoor
