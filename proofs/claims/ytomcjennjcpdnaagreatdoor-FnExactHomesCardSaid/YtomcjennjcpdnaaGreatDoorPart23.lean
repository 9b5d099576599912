import Derived.Test.YtomcjennjcpdnaaGreatDoorPart22
import Derived.Test.YtomcjennjcpdnaaGreatDoorPart20
import Derived.Deep.AppendLies
set_option linter.unusedSimpArgs false
set_option linter.unusedVariables false
namespace Go.Proofs.YtomcjennjcpdnaaGreatDoor
set_option maxRecDepth 100000
set_option maxHeartbeats 4000000
open Go.RowKit
structure Fr (O O':Nat->Prop)(w w':World):Prop where
 os:w'.os=w.os
 tape:w'.tape=w.tape
 output:w'.output=w.output
 size:w.heap.size<=w'.heap.size
 block:∀ b,b<w.heap.size->¬O b->w'.heap[b]? = w.heap[b]?
 new:∀ b,O' b->O b\/w.heap.size<=b
section
variable {O O' O2:Nat->Prop} {w w' w2:World}
theorem Fr.refl:Fr O O w w:=⟨rfl,rfl,rfl,Nat.le_refl _,fun _ _ _=>rfl,fun _ h=>.inl h⟩
theorem Fr.trans (h:Fr O O' w w')(k:Fr O' O2 w' w2):Fr O O2 w w2:=
 ⟨k.os.trans h.os,k.tape.trans h.tape,k.output.trans h.output,Nat.le_trans h.size k.size,
  fun b hb ho=>(k.block b (Nat.lt_of_lt_of_le hb h.size) (fun h1=>(h.new b h1).elim ho (fun h2=>absurd hb (Nat.not_lt.2 h2)))).trans (h.block b hb ho),
  fun b hb=>(k.new b hb).elim (h.new b) (fun h2=>.inr (Nat.le_trans h.size h2))⟩
theorem Fr.of_below (h:Below w.heap.size w w'):Fr O O w w':=⟨h.os,h.tape,h.output,h.size,fun b hb _=>h.block b hb,fun _ h=>.inl h⟩
theorem Fr.below (h:Fr O O' w w'){B:Nat}(hB:∀ b,O b->B<=b)(hw:B<=w.heap.size):Below B w w':=
 ⟨h.os,h.tape,h.output,h.size,fun b hb=>h.block b (Nat.lt_of_lt_of_le hb hw) (fun h1=>absurd hb (Nat.not_lt.2 (hB b h1)))⟩
theorem Fr.drew (h:Fr O O' w w'):Fr O O' w w'.drew:=⟨h.os,h.tape,h.output,h.size,h.block,h.new⟩
theorem Fr.alloc (h:Fr O O' w w')(o:Obj):Fr O O' w (w'.alloc o):=h.trans (.of_below ((Below.refl _ _).alloc (Nat.le_refl _) _))
theorem Fr.set (h:Fr O O' w w'){a:Addr}(ha:O' a.block)(v:Value):Fr O O' w (w'.setCell a v):=
 h.trans ⟨rfl,rfl,rfl,by simp,fun b _ hb=>Below.heap_setCell _ _ _ _ (fun e=>hb (e ▸ ha)),fun _ h=>.inl h⟩
theorem Fr.grown {r:Option Nat}{g:Nat}(h:Fr O O' w w')(hg:w'.grownBy w2 r)(hr:∀ k,r=some k->O' k)(hn:r=some g\/w'.heap.size<=g):Fr O (fun b=>O' b\/b=g) w w2:=
 h.trans ⟨hg.os,hg.tape,hg.output,hg.size,fun b hb ho=>hg.block b hb (fun e=>ho (hr b e.symm)),fun b hb=>hb.elim .inl fun e=>hn.elim (fun e2=>.inl (hr b (e ▸ e2))) (fun h2=>.inr (e ▸ h2))⟩
end
def OwnF (w:World)(base t sz:Nat)(v:Value)(n:Nat)(f:Nat->Value):Prop:=
  (v=.slice none 0 0/\n=0) \/
   ∃ g cap cur,v=.slice (some ⟨g,0,none⟩) n cap/\base<=g/\w.heap[g]? = some (.cells cur t (0,0))/\n<=cap/\cap<=maxLen/\cur.size=cap * sz/\∀ i,i<n * sz->cur[i]? = some (f i)
section
variable {w w':World} {base t sz n:Nat} {v:Value} {f f':Nat->Value}
theorem OwnF.lt (h:OwnF w base t sz v n f):∀ k,v.ownBlock=some k->base<=k/\k<w.heap.size:=by
 intro k hk;rcases h with⟨rfl,_⟩ | ⟨g,cap,cur,rfl,hb,hg,_⟩
 ·simp[Value.ownBlock]at hk
 ·simp[Value.ownBlock]at hk;subst hk;exact⟨hb,(Array.getElem?_eq_some_iff.1 hg).1⟩
theorem OwnF.typ (h:OwnF w base t sz v n f):∀ k,v.ownBlock=some k->∃ cur,w.heap[k]? = some (.cells cur t (0,0)):=by
 intro k hk;rcases h with⟨rfl,_⟩ | ⟨g,cap,cur,rfl,hb,hg,_⟩
 ·simp[Value.ownBlock]at hk
 ·simp[Value.ownBlock]at hk;subst hk;exact⟨cur,hg⟩
theorem OwnF.same (h:OwnF w base t sz v n f)(hb:∀ k,v.ownBlock=some k->w'.heap[k]? = w.heap[k]?):OwnF w' base t sz v n f:=by
 rcases h with h | ⟨g,cap,cur,rfl,h1,hg,rest⟩
 ·exact .inl h
 ·exact .inr ⟨g,cap,cur,rfl,h1,(hb g rfl).trans hg,rest⟩
theorem OwnF.congr (h:OwnF w base t sz v n f)(e:∀ i,i<n * sz->f i=f' i):OwnF w base t sz v n f':=by
 rcases h with h | ⟨g,cap,cur,rfl,h1,hg,h2,h3,h4,h5⟩
 ·exact .inl h
 ·exact .inr ⟨g,cap,cur,rfl,h1,hg,h2,h3,h4,fun i hi=>by rw[h5 i hi,e i hi]⟩
theorem OwnF.at (h:OwnF w base t sz v n f)(hn:0<n):∃ g cap,v=.slice (some ⟨g,0,none⟩) n cap/\base<=g/\g<w.heap.size/\n<=cap/\(∀ i,i<n * sz->w.cell? ⟨g,i,none⟩=some (f i))/\∀ i,w.frozen? ⟨g,i,none⟩=false:=by
 rcases h with⟨_,h⟩ | ⟨g,cap,cur,rfl,h1,hg,h2,h3,h4,h5⟩
 ·omega
 ·exact⟨g,cap,rfl,h1,(Array.getElem?_eq_some_iff.1 hg).1,h2,fun i hi=>by simp[World.cell?,hg,h5 i hi],fun i=>by simp[World.frozen?,hg]⟩
theorem OwnF.form (h:OwnF w base t sz v n f):∃ a c,v=.slice a n c/\n<=c/\n<=maxLen:=by
 rcases h with⟨rfl,rfl⟩ | ⟨g,cap,cur,rfl,h1,hg,h2,h3,_⟩
 ·exact⟨_,_,rfl,Nat.le_refl _,Nat.zero_le _⟩
 ·exact⟨_,_,rfl,h2,Nat.le_trans h2 h3⟩
theorem OwnF.set {g c i:Nat}(h:OwnF w base t sz (.slice (some ⟨g,0,none⟩) n c) n f)(u:Value):OwnF (w.setCell ⟨g,i,none⟩ u) base t sz (.slice (some ⟨g,0,none⟩) n c) n (fun j=>if j=i then u else f j):=by
 rcases h with⟨h,_⟩ | ⟨g',cap,cur,e,h1,hg,h2,h3,h4,h5⟩
 ·cases h
 ·cases e;refine .inr ⟨g,c,cur.setIfInBounds i u,rfl,h1,?_,h2,h3,by simpa using h4,fun j hj=>?_⟩
  ·simp[World.setCell,Array.getElem?_modify,hg]
  ·have hjc:j<cur.size:=by
    have:=h5 j hj;exact(Array.getElem?_eq_some_iff.1 this).1
   rw[Array.getElem?_setIfInBounds];by_cases e:j=i
   ·subst e;simp[hjc]
   ·rw[if_neg (fun h=>e h.symm)];show _=some (if j=i then u else f j);rw[if_neg e];exact h5 j hj
theorem OwnF.take {a:Option Addr}{c m:Nat}(h:OwnF w base t sz (.slice a n c) n f)(hm:m<=n)(h0:0<n):OwnF w base t sz (.slice a m c) m f:=by
 rcases h with⟨h,_⟩ | ⟨g',cap,cur,e,h1,hg,h2,h3,h4,h5⟩
 ·cases h;omega
 ·cases e;exact .inr ⟨g',c,cur,rfl,h1,hg,by omega,h3,h4,fun i hi=>h5 i (Nat.lt_of_lt_of_le hi (Nat.mul_le_mul_right _ hm))⟩
theorem OwnF.owns (h:OwnF w base t sz v n f):w.ownsRow base t sz v n ((List.range (n * sz)).map f):=by
 refine⟨by simp,?_⟩;rcases h with h | ⟨g,cap,cur,rfl,h1,hg,h2,h3,h4,h5⟩
 ·exact .inl h
 ·refine .inr ⟨g,cap,cur,rfl,h1,hg,h2,h3,h4,?_⟩;refine List.ext_getElem? fun i=>?_;rw[List.getElem?_take,List.getElem?_map];by_cases hi:i<n * sz
  ·rw[if_pos hi,Array.getElem?_toList,h5 i hi,List.getElem?_range hi];rfl
  ·rw[if_neg hi,List.getElem?_eq_none (by simpa using hi)];rfl
theorem OwnF.of {xs:List Value}(h:w.ownsRow base t sz v n xs)(e:∀ i,i<n * sz->xs[i]? = some (f i)):OwnF w base t sz v n f:=by
 rcases h.2 with h1 | ⟨g,cap,cur,rfl,h1,hg,h2,h3,h4,h5⟩
 ·exact .inl h1
 ·refine .inr ⟨g,cap,cur,rfl,h1,hg,h2,h3,h4,fun i hi=>?_⟩;rw[<-e i hi,<-h5,List.getElem?_take,if_pos hi,Array.getElem?_toList]
theorem OwnF.push {xs:List Value}(hx:xs.length=sz)(h:w'.ownsRow base t sz v (n+1) ((List.range (n * sz)).map f++xs))(e:∀ i,i<n * sz->f' i=f i)(e2:∀ i,i<sz->xs[i]? = some (f' (n * sz+i))):OwnF w' base t sz v (n+1) f':=by
 refine .of h fun i hi=>?_;by_cases c:i<n * sz
 ·rw[List.getElem?_append_left (by simpa using c),List.getElem?_map,List.getElem?_range c,e i c];rfl
 ·rw[List.getElem?_append_right (by simpa using c)];simp only[List.length_map,List.length_range];rw[Nat.add_mul,Nat.one_mul]at hi;rw[e2 (i-n * sz) (by omega),show n * sz+(i-n * sz)=i by omega]
theorem OwnF.nil:OwnF w base t sz (.slice none 0 0) 0 f:=.inl ⟨rfl,rfl⟩
end
def Dis (u v:Value):Prop:=∀ k,u.ownBlock=some k->v.ownBlock≠some k
theorem Dis.symm {u v:Value}(h:Dis u v):Dis v u:=fun k h1 h2=>h k h2 h1
theorem OwnF.apart {w:World}{base base' t t' sz sz' n n':Nat}{v v':Value}{f f':Nat->Value}(h:OwnF w base t sz v n f)(h':OwnF w base' t' sz' v' n' f')(ht:t≠t'):Dis v v':=fun k e e'=>by
 obtain⟨c,hc⟩:=h.typ k e;obtain⟨c',hc'⟩:=h'.typ k e';rw[hc]at hc';injection hc' with e1;injection e1 with _ e2;exact ht e2
end Go.Proofs.YtomcjennjcpdnaaGreatDoor
namespace Go.Proofs.YtomcjennjcpdnaaGreatDoor
set_option maxRecDepth 100000
set_option maxHeartbeats 4000000
open Go.RowKit
structure MkD where
 kind:Int
 scope:Bool
 base:Int
structure VD where
 k:Int
 n:Int
 f:Nat
 s:ByteArray
 r:Int
structure CF where
 w0:World
 B1:Nat
 cb:Nat
 bb:Nat
 hb:Nat
 fb:Nat
 tb:Nat
 nv:Nat
 a:Option Addr
 nl:Nat
 c:Nat
 fn:Int
 D:Nat->Value
 bx:Nat->Bool
structure CX where
 O:Nat->Prop
 top:Int
 rg:Int
 n:Nat
 iv:Value
 is:Nat->Value
 nk:Nat
 kv:Value
 ks:Nat->VD
 ms:List MkD
 mv:Value
 J:Nat->Value
 L:Nat->List Int
 home:Nat->Int
 fr:Nat->Int
 tt:Nat->Int
def mkF (ms:List MkD)(J:Nat->Value)(j:Nat):Value:=
 if j % 5=0 then .int .i64 (ms[j / 5]?.getD ⟨0,false,0⟩).kind else if j % 5=1 then .bool (ms[j / 5]?.getD ⟨0,false,0⟩).scope
 else if j % 5=2 then .int .i64 (ms[j / 5]?.getD ⟨0,false,0⟩).base else if j % 5=3 then J (2 * (j / 5))else J (2 * (j / 5)+1)
def vdF (ks:Nat->VD)(j:Nat):Value:=
 if j % 5=0 then .int .i64 (ks (j / 5)).k else if j % 5=1 then .int .i64 (ks (j / 5)).n else if j % 5=2 then .float .f64 (ks (j / 5)).f
 else if j % 5=3 then .string (ks (j / 5)).s else .int .i64 (ks (j / 5)).r
def ccV (F:CF)(X:CX)(j:Nat):Value:=
 if j=0 then .slice F.a F.nl F.c else if j=1 then .int .i64 F.fn else if j=6 then .int .i64 X.rg else if j=8 then X.kv else if j=9 then X.iv
 else if j=11 then .int .i64 X.top else if j=12 then .slice (some ⟨F.bb,0,none⟩) F.nv F.nv else if j=13 then .slice (some ⟨F.hb,0,none⟩) F.nv F.nv
 else if j=14 then .slice (some ⟨F.fb,0,none⟩) F.nv F.nv else if j=15 then .slice (some ⟨F.tb,0,none⟩) F.nv F.nv else if j=16 then X.mv else F.D j
structure CFOk (F:CF):Prop where
 cb:F.w0.heap.size<=F.cb/\F.cb<F.B1
 bb:F.w0.heap.size<=F.bb/\F.bb<F.B1
 hb:F.w0.heap.size<=F.hb/\F.hb<F.B1
 fb:F.w0.heap.size<=F.fb/\F.fb<F.B1
 tb:F.w0.heap.size<=F.tb/\F.tb<F.B1
 hf:F.hb≠F.fb
 ht:F.hb≠F.tb
 ft:F.fb≠F.tb
def ownB (F:CF)(X:CX)(b:Nat):Prop:=
 b=F.cb\/b=F.hb\/b=F.fb\/b=F.tb\/X.iv.ownBlock=some b\/X.kv.ownBlock=some b\/X.mv.ownBlock=some b\/∃ i,i<2 * X.ms.length/\(X.J i).ownBlock=some b
structure CC (F:CF)(X:CX)(w:World):Prop where
 old:Below F.w0.heap.size F.w0 w
 ok:CFOk F
 b1:F.B1<=w.heap.size
 box:w.rowIs F.cb 52 17 (ccV F X)
 bx:w.rowIs F.bb 4 F.nv (fun j=>.bool (F.bx j))
 hm:w.rowIs F.hb 3 F.nv (fun j=>.int .i64 (X.home j))
 fr:w.rowIs F.fb 3 F.nv (fun j=>.int .i64 (X.fr j))
 tt:w.rowIs F.tb 3 F.nv (fun j=>.int .i64 (X.tt j))
 ins:OwnF w F.B1 108 5 X.iv X.n X.is
 con:OwnF w F.B1 155 5 X.kv X.nk (vdF X.ks)
 mks:OwnF w F.B1 103 5 X.mv X.ms.length (mkF X.ms X.J)
 jls:∀ i,i<2 * X.ms.length->OwnF w F.B1 3 1 (X.J i) (X.L i).length (fun j=>.int .i64 ((X.L i)[j]?.getD 0))
 apart:∀ i j,i<2 * X.ms.length->j<2 * X.ms.length->i≠j->Dis (X.J i) (X.J j)
 inL:∀ i,i<2 * X.ms.length->(X.L i).length<=X.n/\∀ x∈X.L i,0<=x/\x<X.n
 own:∀ b,ownB F X b->X.O b
 low:∀ b,X.O b->F.w0.heap.size<=b/\b<w.heap.size
theorem row_ne {w:World}{b b' t t' n n':Nat}{f f':Nat->Value}(h:w.rowIs b t n f)(h':w.rowIs b' t' n' f')(ht:t≠t'):b≠b':=by
 rintro rfl;obtain⟨c,hc,_⟩:=h;obtain⟨c',hc',_⟩:=h';rw[hc]at hc';injection hc' with e1;injection e1 with _ e2;exact ht e2
structure CM (F:CF)(X:CX)(Z:Nat->Prop)(w':World):Prop where
 old:Below F.w0.heap.size F.w0 w'
 b1:F.B1<=w'.heap.size
 box:¬Z F.cb->w'.rowIs F.cb 52 17 (ccV F X)
 bx:¬Z F.bb->w'.rowIs F.bb 4 F.nv (fun j=>.bool (F.bx j))
 hm:¬Z F.hb->w'.rowIs F.hb 3 F.nv (fun j=>.int .i64 (X.home j))
 fr:¬Z F.fb->w'.rowIs F.fb 3 F.nv (fun j=>.int .i64 (X.fr j))
 tt:¬Z F.tb->w'.rowIs F.tb 3 F.nv (fun j=>.int .i64 (X.tt j))
 ins:(∀ k,X.iv.ownBlock=some k->¬Z k)->OwnF w' F.B1 108 5 X.iv X.n X.is
 con:(∀ k,X.kv.ownBlock=some k->¬Z k)->OwnF w' F.B1 155 5 X.kv X.nk (vdF X.ks)
 mks:(∀ k,X.mv.ownBlock=some k->¬Z k)->OwnF w' F.B1 103 5 X.mv X.ms.length (mkF X.ms X.J)
 jls:∀ i,i<2 * X.ms.length->(∀ k,(X.J i).ownBlock=some k->¬Z k)->OwnF w' F.B1 3 1 (X.J i) (X.L i).length (fun j=>.int .i64 ((X.L i)[j]?.getD 0))
theorem CC.move {F:CF}{X:CX}{w w':World}(h:CC F X w)(Z:Nat->Prop)(ho:w'.os=w.os)(ht:w'.tape=w.tape)(hu:w'.output=w.output)(hs:w.heap.size<=w'.heap.size)
  (hb:∀ b,b<w.heap.size->¬Z b->w'.heap[b]? = w.heap[b]?)(hz:∀ b,Z b->F.w0.heap.size<=b):CM F X Z w' where
 old:=h.old.trans ⟨ho,ht,hu,hs,fun b hb'=>hb b (Nat.lt_of_lt_of_le hb' h.old.size) (fun hz'=>absurd hb' (Nat.not_lt.2 (hz b hz')))⟩
 b1:=Nat.le_trans h.b1 hs
 box z:=h.box.of_block (hb _ h.box.lt z)
 bx z:=h.bx.of_block (hb _ h.bx.lt z)
 hm z:=h.hm.of_block (hb _ h.hm.lt z)
 fr z:=h.fr.of_block (hb _ h.fr.lt z)
 tt z:=h.tt.of_block (hb _ h.tt.lt z)
 ins z:=h.ins.same fun k e=>hb k (h.ins.lt k e).2 (z k e)
 con z:=h.con.same fun k e=>hb k (h.con.lt k e).2 (z k e)
 mks z:=h.mks.same fun k e=>hb k (h.mks.lt k e).2 (z k e)
 jls i hi z:=(h.jls i hi).same fun k e=>hb k ((h.jls i hi).lt k e).2 (z k e)
section
variable {F:CF} {X:CX} {w w':World}
structure CD (F:CF)(X:CX):Prop where
 c1:F.bb≠F.cb/\F.hb≠F.cb/\F.fb≠F.cb/\F.tb≠F.cb
 hh:F.hb≠F.bb/\F.fb≠F.bb/\F.tb≠F.bb
 i1:∀ k,X.iv.ownBlock=some k->F.B1<=k
 k1:∀ k,X.kv.ownBlock=some k->F.B1<=k
 m1:∀ k,X.mv.ownBlock=some k->F.B1<=k
 j1:∀ i,i<2 * X.ms.length->∀ k,(X.J i).ownBlock=some k->F.B1<=k
 ik:Dis X.iv X.kv
 im:Dis X.iv X.mv
 km:Dis X.kv X.mv
 ij:∀ i,i<2 * X.ms.length->Dis X.iv (X.J i)
 kj:∀ i,i<2 * X.ms.length->Dis X.kv (X.J i)
 mj:∀ i,i<2 * X.ms.length->Dis X.mv (X.J i)
theorem CC.dis (h:CC F X w):CD F X where
 c1:=⟨row_ne h.bx h.box (by decide),row_ne h.hm h.box (by decide),row_ne h.fr h.box (by decide),row_ne h.tt h.box (by decide)⟩
 hh:=⟨row_ne h.hm h.bx (by decide),row_ne h.fr h.bx (by decide),row_ne h.tt h.bx (by decide)⟩
 i1 k e:=(h.ins.lt k e).1
 k1 k e:=(h.con.lt k e).1
 m1 k e:=(h.mks.lt k e).1
 j1 i hi k e:=((h.jls i hi).lt k e).1
 ik:=h.ins.apart h.con (by decide)
 im:=h.ins.apart h.mks (by decide)
 km:=h.con.apart h.mks (by decide)
 ij i hi:=h.ins.apart (h.jls i hi) (by decide)
 kj i hi:=h.con.apart (h.jls i hi) (by decide)
 mj i hi:=h.mks.apart (h.jls i hi) (by decide)
theorem CC.below (h:CC F X w)(hb:Below w.heap.size w w'):CC F X w':=by
 have M:=h.move (fun _=>False) hb.os hb.tape hb.output hb.size (fun b h1 _=>hb.block b h1) (fun _ h=>h.elim);exact { h with
  old:=M.old,b1:=M.b1,box:=M.box id,bx:=M.bx id,hm:=M.hm id,fr:=M.fr id,tt:=M.tt id,ins:=M.ins fun _ _=>id,con:=M.con fun _ _=>id,mks:=M.mks fun _ _=>id,
  jls:=fun i hi=>M.jls i hi fun _ _=>id,
  low:=fun b hb'=>⟨(h.low b hb').1,Nat.lt_of_lt_of_le (h.low b hb').2 hb.size⟩ }
theorem CC.alloc (h:CC F X w)(o:Obj):CC F X (w.alloc o):=h.below ((Below.refl _ _).alloc (Nat.le_refl _) _)
theorem CC.drew (h:CC F X w):CC F X w.drew:=h.below (Below.refl _ _).drew
theorem CC.cell (h:CC F X w)(i:Nat)(u:Value)(X':CX)(hX:∀ j,j<17->(if j=i then u else ccV F X j)=ccV F X' j)
  (hr:X'.n=X.n/\X'.iv=X.iv/\X'.is=X.is/\X'.nk=X.nk/\X'.kv=X.kv/\X'.ks=X.ks/\X'.ms=X.ms/\X'.mv=X.mv/\X'.J=X.J/\X'.L=X.L/\X'.home=X.home/\X'.fr=X.fr/\X'.tt=X.tt/\X'.O=X.O):CC F X' (w.setCell ⟨F.cb,i,none⟩ u):=by
 have M:=h.move (w':=w.setCell ⟨F.cb,i,none⟩ u) (fun b=>b=F.cb) rfl rfl rfl (by simp) (fun b _ hz=>Below.heap_setCell _ _ _ _ hz) (fun b e=>e ▸ h.ok.cb.1);have d:=h.dis;have hc:=h.ok.cb.2;obtain⟨O,top,rg,n,iv,is,nk,kv,ks,ms,mv,J,L,home,fr,tt⟩:=X;obtain⟨O',top',rg',n',iv',is',nk',kv',ks',ms',mv',J',L',home',fr',tt'⟩:=X';simp only at hr;obtain⟨rfl,rfl,rfl,rfl,rfl,rfl,rfl,rfl,rfl,rfl,rfl,rfl,rfl,rfl⟩:=hr;exact { old:=M.old,ok:=h.ok,b1:=M.b1,box:=(h.box.set i u).congr hX,bx:=M.bx d.c1.1,hm:=M.hm d.c1.2.1,fr:=M.fr d.c1.2.2.1,tt:=M.tt d.c1.2.2.2,ins:=M.ins fun k e=>by have:=d.i1 k e;omega,con:=M.con fun k e=>by have:=d.k1 k e;omega,mks:=M.mks fun k e=>by have:=d.m1 k e;omega,jls:=fun i hi=>M.jls i hi fun k e=>by have:=d.j1 i hi k e;omega,apart:=h.apart,inL:=h.inL,own:=h.own,low:=fun b hb=>by have:=h.low b hb;simpa using this }
theorem CC.top (h:CC F X w)(t:Int):CC F { X with top:=t } (w.setCell ⟨F.cb,11,none⟩ (.int .i64 t)):=
 h.cell 11 _ _ (fun j hj=>by unfold ccV;by_cases e:j=11<;>simp[e]) (by simp)
theorem CC.rg (h:CC F X w)(t:Int):CC F { X with rg:=t } (w.setCell ⟨F.cb,6,none⟩ (.int .i64 t)):=
 h.cell 6 _ _ (fun j hj=>by unfold ccV;by_cases e:j=6<;>simp[e]) (by simp)
theorem CC.c0 (h:CC F X w):w.cell? ⟨F.cb,0,none⟩=some (.slice F.a F.nl F.c):=h.box.cell (by omega)
theorem CC.c1 (h:CC F X w):w.cell? ⟨F.cb,1,none⟩=some (.int .i64 F.fn):=h.box.cell (by omega)
theorem CC.c6 (h:CC F X w):w.cell? ⟨F.cb,6,none⟩=some (.int .i64 X.rg):=h.box.cell (by omega)
theorem CC.c8 (h:CC F X w):w.cell? ⟨F.cb,8,none⟩=some X.kv:=h.box.cell (by omega)
theorem CC.c9 (h:CC F X w):w.cell? ⟨F.cb,9,none⟩=some X.iv:=h.box.cell (by omega)
theorem CC.c11 (h:CC F X w):w.cell? ⟨F.cb,11,none⟩=some (.int .i64 X.top):=h.box.cell (by omega)
theorem CC.c12 (h:CC F X w):w.cell? ⟨F.cb,12,none⟩=some (.slice (some ⟨F.bb,0,none⟩) F.nv F.nv):=h.box.cell (by omega)
theorem CC.c13 (h:CC F X w):w.cell? ⟨F.cb,13,none⟩=some (.slice (some ⟨F.hb,0,none⟩) F.nv F.nv):=h.box.cell (by omega)
theorem CC.c14 (h:CC F X w):w.cell? ⟨F.cb,14,none⟩=some (.slice (some ⟨F.fb,0,none⟩) F.nv F.nv):=h.box.cell (by omega)
theorem CC.c15 (h:CC F X w):w.cell? ⟨F.cb,15,none⟩=some (.slice (some ⟨F.tb,0,none⟩) F.nv F.nv):=h.box.cell (by omega)
theorem CC.c16 (h:CC F X w):w.cell? ⟨F.cb,16,none⟩=some X.mv:=h.box.cell (by omega)
theorem CC.fz (h:CC F X w)(i:Nat):w.frozen? ⟨F.cb,i,none⟩=false:=h.box.frozen i
theorem CC.ocb (h:CC F X w):X.O F.cb:=h.own _ (.inl rfl)
theorem CC.cbl (h:CC F X w):F.cb<w.heap.size:=h.box.lt
end
end Go.Proofs.YtomcjennjcpdnaaGreatDoor
namespace Go.Proofs.YtomcjennjcpdnaaGreatDoor
set_option maxRecDepth 100000
set_option maxHeartbeats 4000000
open Go.RowKit
section
variable {F:CF} {X:CX} {w w' w2:World}
theorem CC.growI {g cap:Nat}{is':Nat->Value}(h:CC F X w)(hg:w.grownBy w2 X.iv.ownBlock)(hat:X.iv.ownBlock=some g\/w.heap.size<=g)
  (ho:OwnF w2 F.B1 108 5 (.slice (some ⟨g,0,none⟩) (X.n+1) cap) (X.n+1) is') :
  CC F { X with n:=X.n+1,iv:=.slice (some ⟨g,0,none⟩) (X.n+1) cap,is:=is',O:=fun b=>X.O b\/b=g } (w2.setCell ⟨F.cb,9,none⟩ (.slice (some ⟨g,0,none⟩) (X.n+1) cap)) /\
  Fr X.O (fun b=>X.O b\/b=g) w (w2.setCell ⟨F.cb,9,none⟩ (.slice (some ⟨g,0,none⟩) (X.n+1) cap)):=by
 have d:=h.dis;have hc:=h.ok.cb.2;have hgl:=ho.lt g rfl;have hO:∀ k,X.iv.ownBlock=some k->X.O k:=fun k e=>h.own k (.inr (.inr (.inr (.inr (.inl e)))));have hcb:=h.ocb;have M:=h.move (w':=w2.setCell ⟨F.cb,9,none⟩ (.slice (some ⟨g,0,none⟩) (X.n+1) cap)) (fun b=>b=F.cb\/X.iv.ownBlock=some b) hg.os hg.tape hg.output (by simpa using hg.size)
  (fun b hb hz=>(Below.heap_setCell _ _ _ _ (fun e=>hz (.inl e))).trans (hg.block b hb (fun e=>hz (.inr e.symm)))) (fun b e=>e.elim (fun e=>e ▸ h.ok.cb.1) (fun e=>(h.low b (hO b e)).1))
 have hbx:(w2.setCell ⟨F.cb,9,none⟩ (.slice (some ⟨g,0,none⟩) (X.n+1) cap)).rowIs F.cb 52 17 (ccV F { X with n:=X.n+1,iv:=.slice (some ⟨g,0,none⟩) (X.n+1) cap,is:=is',O:=fun b=>X.O b\/b=g }):=
  ((h.box.of_block (hg.block _ h.box.lt (fun e=>by have:=d.i1 _ e.symm;omega))).set 9 _).congr fun j hj=>by unfold ccV;by_cases e:j=9<;>simp[e]
 have ni:∀ b,b<F.B1->b≠F.cb->¬(b=F.cb\/X.iv.ownBlock=some b):=fun b hb hne e=>e.elim hne (fun e=>by have:=d.i1 b e;omega);refine⟨{ old:=M.old,ok:=h.ok,b1:=M.b1,box:=hbx,bx:=M.bx (ni _ h.ok.bb.2 d.c1.1),hm:=M.hm (ni _ h.ok.hb.2 d.c1.2.1),fr:=M.fr (ni _ h.ok.fb.2 d.c1.2.2.1),tt:=M.tt (ni _ h.ok.tb.2 d.c1.2.2.2),ins:=ho.same fun k e=>Below.heap_setCell _ _ _ _ (fun e2=>by simp[Value.ownBlock]at e;simp at e2;omega),con:=M.con fun k e z=>z.elim (fun e2=>by have:=d.k1 k e;omega) (fun e2=>d.ik k e2 e),mks:=M.mks fun k e z=>z.elim (fun e2=>by have:=d.m1 k e;omega) (fun e2=>d.im k e2 e),jls:=fun i hi=>M.jls i hi fun k e z=>z.elim (fun e2=>by have:=d.j1 i hi k e;omega) (fun e2=>d.ij i hi k e2 e),apart:=h.apart,inL:=fun i hi=>⟨Nat.le_succ_of_le (h.inL i hi).1,fun x hx=>by have:=(h.inL i hi).2 x hx;simp only;omega⟩,own:=fun b hb=>?_,low:=fun b hb=>?_ },?_⟩
 ·rcases hb with e | e | e | e | e | e | e | e
  ·exact .inl (h.own b (.inl e))
  ·exact .inl (h.own b (.inr (.inl e)))
  ·exact .inl (h.own b (.inr (.inr (.inl e))))
  ·exact .inl (h.own b (.inr (.inr (.inr (.inl e)))))
  ·exact .inr (by simp[Value.ownBlock]at e;exact e.symm)
  ·exact .inl (h.own b (.inr (.inr (.inr (.inr (.inr (.inl e)))))))
  ·exact .inl (h.own b (.inr (.inr (.inr (.inr (.inr (.inr (.inl e))))))))
  ·exact .inl (h.own b (.inr (.inr (.inr (.inr (.inr (.inr (.inr e))))))))
 ·have:=hg.size;have h0:=h.b1;have h1:=h.ok.cb.1;rcases hb with hb | rfl
  ·have:=h.low b hb;simp;omega
  ·simp;omega
 ·exact(Fr.refl.grown hg hO hat).set (.inl hcb) _
theorem CC.setI {g c i:Nat}(h:CC F X w)(e:X.iv=.slice (some ⟨g,0,none⟩) X.n c)(u:Value):CC F { X with is:=fun j=>if j=i then u else X.is j } (w.setCell ⟨g,i,none⟩ u)/\Fr X.O X.O w (w.setCell ⟨g,i,none⟩ u):=by
 have d:=h.dis;have hgb:X.iv.ownBlock=some g:=by rw[e];rfl
 have hO:X.O g:=h.own g (.inr (.inr (.inr (.inr (.inl hgb)))));have hg1:=d.i1 g hgb;have M:=h.move (w':=w.setCell ⟨g,i,none⟩ u) (fun b=>b=g) rfl rfl rfl (by simp) (fun b _ hz=>Below.heap_setCell _ _ _ _ hz) (fun b e=>e ▸ (h.low g hO).1);have k:=h.ok;refine⟨{ old:=M.old,ok:=h.ok,b1:=M.b1,box:=M.box (by have:=k.cb;omega),bx:=M.bx (by have:=k.bb;omega),hm:=M.hm (by have:=k.hb;omega),fr:=M.fr (by have:=k.fb;omega),tt:=M.tt (by have:=k.tb;omega),ins:=by have:=h.ins;rw[e]at this;rw[e];exact this.set u,con:=M.con fun k e2 z=>d.ik g hgb (z ▸ e2),mks:=M.mks fun k e2 z=>d.im g hgb (z ▸ e2),jls:=fun i hi=>M.jls i hi fun k e2 z=>d.ij i hi g hgb (z ▸ e2),apart:=h.apart,inL:=h.inL,own:=h.own,low:=fun b hb=>by have:=h.low b hb;simpa using this },Fr.refl.set hO _⟩
theorem CC.growK {g cap:Nat}{ks':Nat->VD}(h:CC F X w)(hg:w.grownBy w2 X.kv.ownBlock)(hat:X.kv.ownBlock=some g\/w.heap.size<=g)
  (ho:OwnF w2 F.B1 155 5 (.slice (some ⟨g,0,none⟩) (X.nk+1) cap) (X.nk+1) (vdF ks')) :
  CC F { X with nk:=X.nk+1,kv:=.slice (some ⟨g,0,none⟩) (X.nk+1) cap,ks:=ks',O:=fun b=>X.O b\/b=g } (w2.setCell ⟨F.cb,8,none⟩ (.slice (some ⟨g,0,none⟩) (X.nk+1) cap)) /\
  Fr X.O (fun b=>X.O b\/b=g) w (w2.setCell ⟨F.cb,8,none⟩ (.slice (some ⟨g,0,none⟩) (X.nk+1) cap)):=by
 have d:=h.dis;have hc:=h.ok.cb.2;have hgl:=ho.lt g rfl;have hO:∀ k,X.kv.ownBlock=some k->X.O k:=fun k e=>h.own k (.inr (.inr (.inr (.inr (.inr (.inl e))))));have hcb:=h.ocb;have M:=h.move (w':=w2.setCell ⟨F.cb,8,none⟩ (.slice (some ⟨g,0,none⟩) (X.nk+1) cap)) (fun b=>b=F.cb\/X.kv.ownBlock=some b) hg.os hg.tape hg.output (by simpa using hg.size)
  (fun b hb hz=>(Below.heap_setCell _ _ _ _ (fun e=>hz (.inl e))).trans (hg.block b hb (fun e=>hz (.inr e.symm)))) (fun b e=>e.elim (fun e=>e ▸ h.ok.cb.1) (fun e=>(h.low b (hO b e)).1))
 have hbx:(w2.setCell ⟨F.cb,8,none⟩ (.slice (some ⟨g,0,none⟩) (X.nk+1) cap)).rowIs F.cb 52 17 (ccV F { X with nk:=X.nk+1,kv:=.slice (some ⟨g,0,none⟩) (X.nk+1) cap,ks:=ks',O:=fun b=>X.O b\/b=g }):=
  ((h.box.of_block (hg.block _ h.box.lt (fun e=>by have:=d.k1 _ e.symm;omega))).set 8 _).congr fun j hj=>by unfold ccV;by_cases e:j=8<;>simp[e]
 have ni:∀ b,b<F.B1->b≠F.cb->¬(b=F.cb\/X.kv.ownBlock=some b):=fun b hb hne e=>e.elim hne (fun e=>by have:=d.k1 b e;omega);refine⟨{ old:=M.old,ok:=h.ok,b1:=M.b1,box:=hbx,bx:=M.bx (ni _ h.ok.bb.2 d.c1.1),hm:=M.hm (ni _ h.ok.hb.2 d.c1.2.1),fr:=M.fr (ni _ h.ok.fb.2 d.c1.2.2.1),tt:=M.tt (ni _ h.ok.tb.2 d.c1.2.2.2),con:=ho.same fun k e=>Below.heap_setCell _ _ _ _ (fun e2=>by simp[Value.ownBlock]at e;simp at e2;omega),ins:=M.ins fun k e z=>z.elim (fun e2=>by have:=d.i1 k e;omega) (fun e2=>d.ik k e e2),mks:=M.mks fun k e z=>z.elim (fun e2=>by have:=d.m1 k e;omega) (fun e2=>d.km k e2 e),jls:=fun i hi=>M.jls i hi fun k e z=>z.elim (fun e2=>by have:=d.j1 i hi k e;omega) (fun e2=>d.kj i hi k e2 e),apart:=h.apart,inL:=h.inL,own:=fun b hb=>?_,low:=fun b hb=>?_ },?_⟩
 ·rcases hb with e | e | e | e | e | e | e | e
  ·exact .inl (h.own b (.inl e))
  ·exact .inl (h.own b (.inr (.inl e)))
  ·exact .inl (h.own b (.inr (.inr (.inl e))))
  ·exact .inl (h.own b (.inr (.inr (.inr (.inl e)))))
  ·exact .inl (h.own b (.inr (.inr (.inr (.inr (.inl e))))))
  ·exact .inr (by simp[Value.ownBlock]at e;exact e.symm)
  ·exact .inl (h.own b (.inr (.inr (.inr (.inr (.inr (.inr (.inl e))))))))
  ·exact .inl (h.own b (.inr (.inr (.inr (.inr (.inr (.inr (.inr e))))))))
 ·have:=hg.size;have h0:=h.b1;have h1:=h.ok.cb.1;rcases hb with hb | rfl
  ·have:=h.low b hb;simp;omega
  ·simp;omega
 ·exact(Fr.refl.grown hg hO hat).set (.inl hcb) _
theorem CC.home (h:CC F X w)(i:Nat)(x:Int):CC F { X with home:=updF X.home i x } (w.setCell ⟨F.hb,i,none⟩ (.int .i64 x))/\Fr X.O X.O w (w.setCell ⟨F.hb,i,none⟩ (.int .i64 x)):=by
  have d:=h.dis;have hO:X.O F.hb:=h.own _ (.inr (.inl rfl));have M:=h.move (w':=w.setCell ⟨F.hb,i,none⟩ (.int .i64 x)) (fun b=>b=F.hb) rfl rfl rfl (by simp) (fun b _ hz=>Below.heap_setCell _ _ _ _ hz) (fun b e=>e ▸ h.ok.hb.1);have k:=h.ok;have kh:=k.hb;exact⟨{ old:=M.old,ok:=h.ok,b1:=M.b1,box:=M.box d.c1.2.1.symm,bx:=M.bx d.hh.1.symm,hm:=(h.hm.set i _).congr fun j _=>by unfold updF;simp only;split<;>rfl,fr:=M.fr k.hf.symm,tt:=M.tt k.ht.symm,ins:=M.ins fun k e=>by have:=d.i1 k e;omega,con:=M.con fun k e=>by have:=d.k1 k e;omega,mks:=M.mks fun k e=>by have:=d.m1 k e;omega,jls:=fun i hi=>M.jls i hi fun k e=>by have:=d.j1 i hi k e;omega,apart:=h.apart,inL:=h.inL,own:=h.own,low:=fun b hb=>by have:=h.low b hb;simpa using this },Fr.refl.set hO _⟩
theorem CC.from (h:CC F X w)(i:Nat)(x:Int):CC F { X with fr:=updF X.fr i x } (w.setCell ⟨F.fb,i,none⟩ (.int .i64 x))/\Fr X.O X.O w (w.setCell ⟨F.fb,i,none⟩ (.int .i64 x)):=by
  have d:=h.dis;have hO:X.O F.fb:=h.own _ (.inr (.inr (.inl rfl)));have M:=h.move (w':=w.setCell ⟨F.fb,i,none⟩ (.int .i64 x)) (fun b=>b=F.fb) rfl rfl rfl (by simp) (fun b _ hz=>Below.heap_setCell _ _ _ _ hz) (fun b e=>e ▸ h.ok.fb.1);have k:=h.ok;have kh:=k.fb;exact⟨{ old:=M.old,ok:=h.ok,b1:=M.b1,box:=M.box d.c1.2.2.1.symm,bx:=M.bx d.hh.2.1.symm,fr:=(h.fr.set i _).congr fun j _=>by unfold updF;simp only;split<;>rfl,hm:=M.hm k.hf,tt:=M.tt k.ft.symm,ins:=M.ins fun k e=>by have:=d.i1 k e;omega,con:=M.con fun k e=>by have:=d.k1 k e;omega,mks:=M.mks fun k e=>by have:=d.m1 k e;omega,jls:=fun i hi=>M.jls i hi fun k e=>by have:=d.j1 i hi k e;omega,apart:=h.apart,inL:=h.inL,own:=h.own,low:=fun b hb=>by have:=h.low b hb;simpa using this },Fr.refl.set hO _⟩
theorem CC.till (h:CC F X w)(i:Nat)(x:Int):CC F { X with tt:=updF X.tt i x } (w.setCell ⟨F.tb,i,none⟩ (.int .i64 x))/\Fr X.O X.O w (w.setCell ⟨F.tb,i,none⟩ (.int .i64 x)):=by
  have d:=h.dis;have hO:X.O F.tb:=h.own _ (.inr (.inr (.inr (.inl rfl))));have M:=h.move (w':=w.setCell ⟨F.tb,i,none⟩ (.int .i64 x)) (fun b=>b=F.tb) rfl rfl rfl (by simp) (fun b _ hz=>Below.heap_setCell _ _ _ _ hz) (fun b e=>e ▸ h.ok.tb.1);have k:=h.ok;have kh:=k.tb;exact⟨{ old:=M.old,ok:=h.ok,b1:=M.b1,box:=M.box d.c1.2.2.2.symm,bx:=M.bx d.hh.2.2.symm,tt:=(h.tt.set i _).congr fun j _=>by unfold updF;simp only;split<;>rfl,hm:=M.hm k.ht,fr:=M.fr k.ft,ins:=M.ins fun k e=>by have:=d.i1 k e;omega,con:=M.con fun k e=>by have:=d.k1 k e;omega,mks:=M.mks fun k e=>by have:=d.m1 k e;omega,jls:=fun i hi=>M.jls i hi fun k e=>by have:=d.j1 i hi k e;omega,apart:=h.apart,inL:=h.inL,own:=h.own,low:=fun b hb=>by have:=h.low b hb;simpa using this },Fr.refl.set hO _⟩
end
end Go.Proofs.YtomcjennjcpdnaaGreatDoor
