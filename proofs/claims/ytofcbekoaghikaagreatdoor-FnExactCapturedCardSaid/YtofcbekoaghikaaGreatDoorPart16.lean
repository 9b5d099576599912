import Derived.Test.YtofcbekoaghikaaGreatDoorPart15
import Derived.Maps.OwnOps
set_option linter.unusedSimpArgs false
set_option linter.unusedVariables false
namespace Go.Proofs.YtofcbekoaghikaaGreatDoor
open Go.RowKit Go.MapKept
def MapI (w:World)(b:Nat)(m:Int->Option Value):Prop:=
 ∃ es clock,w.heap[b]? = some (.map es clock)/\∀ k:Int,match m k with
  | some v=>∃ i,Instr.findNow (.int .i64) (.int .i64 k) es.toList 0=some (some (i,v))
  | none=>Instr.findNow (.int .i64) (.int .i64 k) es.toList 0=some none
theorem MapI.made (w:World):MapI (w.alloc (.map #[] 0)) w.heap.size (fun _=>none):=
 ⟨#[],0,(heap_alloc w _).1,fun _=>rfl⟩
theorem MapI.block {w w':World}{b:Nat}{m:Int->Option Value}(h:MapI w b m)(hb:w'.heap[b]? = w.heap[b]?):MapI w' b m:=by
 obtain⟨es,clock,h1,h2⟩:=h;exact⟨es,clock,hb.trans h1,h2⟩
theorem MapI.lt {w:World}{b:Nat}{m:Int->Option Value}(h:MapI w b m):b<w.heap.size:=by
 obtain⟨es,clock,hb,_⟩:=h;exact(Array.getElem?_eq_some_iff.1 hb).1
theorem MapI.keep {w w':World}{b B:Nat}{m:Int->Option Value}(h:MapI w b m)(hb:Below B w w')(hB:b<B):MapI w' b m:=h.block (hb.block b hB)
theorem MapI.congr {w:World}{b:Nat}{m m':Int->Option Value}(h:MapI w b m)(e:∀ k,m' k=m k):MapI w b m':=by
 obtain⟨es,clock,h1,h2⟩:=h;exact⟨es,clock,h1,fun k=>by rw[e k];exact h2 k⟩
theorem findNow_push (d:TypeDesc)(k:Value)(e:MapEntry):∀(l:List MapEntry)(i:Nat),
  (∀ r,Instr.findNow d k l i=some (some r)->Instr.findNow d k (l++[e]) i=some (some r)) /\
  (Instr.findNow d k l i=some none->Instr.findNow d k (l++[e]) i=match Instr.sameNow d k e.key with | some true=>some (some (i+l.length,e.val)) | some false=>some none | none=>none)
 | [],i=>⟨fun r h=>by simp[Instr.findNow]at h,fun _=>by simp only[List.nil_append,Instr.findNow];cases Instr.sameNow d k e.key with
   | none=>rfl
   | some x=>cases x<;>simp⟩
 | x::l,i=>by
  obtain⟨h1,h2⟩:=findNow_push d k e l (i+1);simp only[List.cons_append,Instr.findNow];cases hs:Instr.sameNow d k x.key with
  | none=>exact⟨fun r h=>(by cases h),fun h=>(by cases h)⟩
  | some y=>
   cases y with
   | true=>exact⟨fun r h=>h,fun h=>(by cases h)⟩
   | false=>
    refine⟨fun r h=>h1 r h,fun h=>?_⟩;have:=h2 h;simp only at this ⊢;rw[this];cases Instr.sameNow d k e.key with
    | none=>rfl
    | some z=>cases z<;>simp<;>omega
theorem MapI.look {P:Program}{w:World}{b t kt et:Nat}{m:Int->Option Value}(h:MapI w b m)(ht:P.underlying t=some (.map kt et))(hk:P.underlying kt=some (.int .i64)){z:Value}(hz:(zeroValue et).run P w=.ok z w)(k:Int)(c:Bool) :
  (Instr.lookup t (.map (some b)) (.int .i64 k) c).run P w=.ok (if c then .tuple #[(m k).getD z,.bool (m k).isSome]else(m k).getD z) w:=by
 obtain⟨es,clock,h1,h2⟩:=h;have h3:=h2 k;have ik:IsKey (.int .i64) (.int .i64 k):=by simp[IsKey]
 cases hm:m k with
 | none=>
  rw[hm]at h3;simp[Instr.lookup,run_underlying ht,MapKept.run_getObj_map h1,run_checkKey hk ik,run_findKey hk h3,hz,Result.andThen]
 | some v=>
  rw[hm]at h3;obtain⟨i,h3⟩:=h3;simp[Instr.lookup,run_underlying ht,MapKept.run_getObj_map h1,run_checkKey hk ik,run_findKey hk h3,Result.andThen]
theorem MapI.put {P:Program}{w:World}{b t kt et:Nat}{m:Int->Option Value}(h:MapI w b m)(ht:P.underlying t=some (.map kt et))(hk:P.underlying kt=some (.int .i64))(k:Int)(v:Value)(hnew:m k=none) :
  ∃ w',(Instr.mapUpdate t (.map (some b)) (.int .i64 k) v).run P w=.ok () w'/\MapI w' b (fun j=>if j=k then some v else m j)/\w.grownBy w' (some b):=by
 obtain⟨es,clock,h1,h2⟩:=h;have h3:=h2 k;have ik:IsKey (.int .i64) (.int .i64 k):=by simp[IsKey]
 rw[hnew]at h3;refine⟨{ w with heap:=w.heap.setIfInBounds b (.map (es.push { key:=.int .i64 k,val:=v,born:=clock }) (clock+1)) },by simp[Instr.mapUpdate,run_underlying ht,MapKept.run_getObj_map h1,run_checkKey hk ik,run_findKey hk h3,run_setObj_map _ h1,Result.andThen],⟨_,_,(heap_set h1).1,fun j=>?_⟩,⟨rfl,rfl,rfl,by simp,fun i _ hi=>(heap_set h1).2 i (fun e=>hi (by rw[e]))⟩⟩;have h4:=h2 j;obtain⟨p1,p2⟩:=findNow_push (.int .i64) (.int .i64 j) { key:=.int .i64 k,val:=v,born:=clock } es.toList 0;by_cases e:j=k
 ·subst e;dsimp only;rw[if_pos rfl];rw[hnew]at h4;refine⟨0+es.toList.length,?_⟩;rw[Array.toList_push,p2 h4];simp[Instr.sameNow]
 ·dsimp only;rw[if_neg e];have e':(j==k)=false:=by simpa using e
  cases hm:m j with
  | none=>
   rw[hm]at h4;simp only;rw[Array.toList_push,p2 h4];simp[Instr.sameNow,e']
  | some u=>
   rw[hm]at h4;obtain⟨i,h4⟩:=h4;exact⟨i,by rw[Array.toList_push];exact p1 _ h4⟩
end Go.Proofs.YtofcbekoaghikaaGreatDoor
namespace Go.Proofs.YtofcbekoaghikaaGreatDoor
open Go.RowKit
structure ButS (T:Nat->Prop)(B:Nat)(w w':World):Prop where
 os:w'.os=w.os
 tape:w'.tape=w.tape
 output:w'.output=w.output
 size:w.heap.size<=w'.heap.size
 block:∀ k,k<B->¬T k->w'.heap[k]? = w.heap[k]?
section
variable {T:Nat->Prop} {B B':Nat} {w w' w2:World}
theorem ButS.refl (T:Nat->Prop)(B:Nat)(w:World):ButS T B w w:=⟨rfl,rfl,rfl,Nat.le_refl _,fun _ _ _=>rfl⟩
theorem ButS.trans (h:ButS T B w w')(k:ButS T B w' w2):ButS T B w w2:=⟨k.os.trans h.os,k.tape.trans h.tape,k.output.trans h.output,Nat.le_trans h.size k.size,fun i hi hs=>(k.block i hi hs).trans (h.block i hi hs)⟩
theorem ButS.mono (h:ButS T B w w')(hB:B'<=B):ButS T B' w w':=⟨h.os,h.tape,h.output,h.size,fun k hk hs=>h.block k (Nat.lt_of_lt_of_le hk hB) hs⟩
theorem ButS.next (h:ButS T w.heap.size w w')(k:ButS T w'.heap.size w' w2):ButS T w.heap.size w w2:=h.trans (k.mono h.size)
theorem ButS.of_below (h:Below B w w'):ButS T B w w':=⟨h.os,h.tape,h.output,h.size,fun k hk _=>h.block k hk⟩
theorem ButS.alloc (h:ButS T B w w')(hB:B<=w'.heap.size)(o:Obj):ButS T B w (w'.alloc o):=h.trans (.of_below ((Below.refl _ _).alloc hB o))
theorem ButS.drew (h:ButS T B w w'):ButS T B w w'.drew:=⟨h.os,h.tape,h.output,h.size,h.block⟩
theorem ButS.set (h:ButS T B w w'){s:Nat}(hs:T s)(j:Nat)(v:Value):ButS T B w (w'.setCell ⟨s,j,none⟩ v):=
 ⟨h.os,h.tape,h.output,by simpa using h.size,fun k hk hn=>(Below.heap_setCell w' ⟨s,j,none⟩ v k (fun e=>hn (e ▸ hs))).trans (h.block k hk hn)⟩
theorem ButS.cell (h:ButS T B w w'){b:Nat}(hb:b<B)(hs:¬T b)(o:Nat):w'.cell? ⟨b,o,none⟩=w.cell? ⟨b,o,none⟩:=World.cell?_of_block (a:=⟨b,o,none⟩) (h.block b hb hs)
theorem ButS.same {S:Nat->Prop}(h:ButS T B w w')(hS:∀ b,S b->b<B/\¬T b):Same S w w':=fun b hb=>h.block b (hS b hb).1 (hS b hb).2
theorem ButS.below (h:ButS T w.heap.size w w')(hT:∀ k,T k->B<=k)(hB:B<=w.heap.size):Below B w w':=
 ⟨h.os,h.tape,h.output,h.size,fun k hk=>h.block k (Nat.lt_of_lt_of_le hk hB) (fun t=>absurd (hT k t) (by omega))⟩
end
structure VC where
 vb:Nat
 sb:Nat
 kb:Nat
 mb:Nat
 a:Option Addr
 c:Nat
 l:List FnD
 f:Nat
 R:FnR
 S:Nat->Prop
 M:Int->Option Value
structure VS where
 sc:Nat->Int
 lo:Int
 dp:Int
 lc:Int
 lf:Int
 ln:Int
def VC.x (C:VC):FnD:=fnD C.l C.f
def VC.T (C:VC)(b:Nat):Prop:=b=C.vb\/b=C.sb
def visCell (C:VC)(s:VS):Nat->Value
 | 0=>.slice C.a C.l.length C.c
 | 1=>.int .i64 C.f
 | 2=>.string C.x.name
 | 3=>.int .i64 C.x.line
 | 4=>.int .i64 C.x.params
 | 5=>.bool C.x.rest
 | 6=>.slice C.R.va C.x.vars.length C.R.vc
 | 7=>.slice C.R.ua C.x.ups.length C.R.uc
 | 8=>.slice C.R.na C.x.nodes.length C.R.nc
 | 9=>.map (some C.kb)
 | 10=>.map (some C.mb)
 | 11=>.slice (some ⟨C.sb,0,none⟩) C.x.vars.length C.x.vars.length
 | 12=>.int .i64 s.lo
 | 13=>.int .i64 s.dp
 | 14=>.int .i64 s.lc
 | 15=>.int .i64 s.lf
 | 16=>.int .i64 s.ln
 | _=>.int .i64 0
def stepOf (vb:Nat)(k:Int):Option Value:=
 if k=1 then some (.func (.func 88) #[.pointer (some ⟨vb,0,none⟩)] #[])
 else if k=2 then some (.func (.func 89) #[.pointer (some ⟨vb,0,none⟩)] #[])
 else if k=6\/k=7\/k=8 then some (.func (.func 90) #[.pointer (some ⟨vb,0,none⟩)] #[])
 else if k=12 then some (.func (.func 91) #[.pointer (some ⟨vb,0,none⟩)] #[])
 else if k=9\/k=10 then some (.func (.func 92) #[.pointer (some ⟨vb,0,none⟩)] #[])
 else if k=26 then some (.func (.func 93) #[.pointer (some ⟨vb,0,none⟩)] #[])
 else if k=27 then some (.func (.func 94) #[.pointer (some ⟨vb,0,none⟩)] #[])
 else if k=36 then some (.func (.func 95) #[.pointer (some ⟨vb,0,none⟩)] #[])
 else if k=37 then some (.func (.func 96) #[.pointer (some ⟨vb,0,none⟩)] #[])
 else none
structure Vis (C:VC)(s:VS)(w:World):Prop where
 v:w.rowIs C.vb 115 17 (visCell C s)
 sc:w.rowIs C.sb 3 C.x.vars.length (fun j=>.int .i64 (s.sc j))
 k:MapI w C.kb (stepOf C.vb)
 m:MapI w C.mb C.M
 u:FnsAt w C.S C.a C.l
 vars:StrsAt w C.S C.R.va C.x.vars
 ups:UpsAt w C.S C.R.ua C.x.ups
 nodes:NodesAt w C.S C.R.na C.x.nodes
 sS:∀ b,C.S b->b<w.heap.size/\¬C.T b
 n1:C.vb≠C.sb
 n2:¬C.T C.kb
 n3:¬C.T C.mb
 hf:C.f<C.l.length
 nv:C.x.vars.length<=200
section
variable {C:VC} {s s':VS} {w w':World}
theorem Vis.keep (h:Vis C s w)(hb:Below w.heap.size w w'):Vis C s w' where
 v:=h.v.of_block (hb.block _ h.v.lt)
 sc:=h.sc.of_block (hb.block _ h.sc.lt)
 k:=h.k.keep hb h.k.lt
 m:=h.m.keep hb h.m.lt
 u:=h.u.keep hb (fun b hs=>(h.sS b hs).1)
 vars:=h.vars.keep hb (fun b hs=>(h.sS b hs).1)
 ups:=h.ups.keep hb (fun b hs=>(h.sS b hs).1)
 nodes:=h.nodes.keep hb (fun b hs=>(h.sS b hs).1)
 sS:=fun b hs=>⟨Nat.lt_of_lt_of_le (h.sS b hs).1 hb.size,(h.sS b hs).2⟩
 n1:=h.n1
 n2:=h.n2
 n3:=h.n3
 hf:=h.hf
 nv:=h.nv
theorem Vis.alloc (h:Vis C s w)(o:Obj):Vis C s (w.alloc o):=h.keep ((Below.refl _ _).alloc (Nat.le_refl _) o)
theorem Vis.drew (h:Vis C s w):Vis C s w.drew:=h.keep (Below.refl _ _).drew
theorem Vis.turn (h:Vis C s w)(hb:ButS C.T w.heap.size w w')(hv:w'.rowIs C.vb 115 17 (visCell C s'))(hsc:w'.rowIs C.sb 3 C.x.vars.length (fun j=>.int .i64 (s'.sc j))):Vis C s' w' where
 v:=hv
 sc:=hsc
 k:=h.k.block (hb.block _ h.k.lt h.n2)
 m:=h.m.block (hb.block _ h.m.lt h.n3)
 u:=h.u.same (hb.same h.sS)
 vars:=h.vars.same (hb.same h.sS)
 ups:=h.ups.same (hb.same h.sS)
 nodes:=h.nodes.same (hb.same h.sS)
 sS:=fun b hs=>⟨Nat.lt_of_lt_of_le (h.sS b hs).1 hb.size,(h.sS b hs).2⟩
 n1:=h.n1
 n2:=h.n2
 n3:=h.n3
 hf:=h.hf
 nv:=h.nv
theorem VC.Tv (C:VC):C.T C.vb:=.inl rfl
theorem VC.Ts (C:VC):C.T C.sb:=.inr rfl
theorem Vis.setLo (h:Vis C s w)(x:Int):Vis C { s with lo:=x } (w.setCell ⟨C.vb,12,none⟩ (.int .i64 x)):=
 h.turn ((ButS.refl _ _ _).set C.Tv _ _) ((h.v.set 12 _).congr fun i hi=>by
  match i,hi with
  | 0,_=>rfl | 1,_=>rfl | 2,_=>rfl | 3,_=>rfl | 4,_=>rfl | 5,_=>rfl | 6,_=>rfl | 7,_=>rfl | 8,_=>rfl | 9,_=>rfl | 10,_=>rfl | 11,_=>rfl | 12,_=>rfl | 13,_=>rfl | 14,_=>rfl | 15,_=>rfl | 16,_=>rfl | n+17,h=>exact absurd h (by omega)) (h.sc.setOther h.n1.symm _)
theorem Vis.setDp (h:Vis C s w)(x:Int):Vis C { s with dp:=x } (w.setCell ⟨C.vb,13,none⟩ (.int .i64 x)):=
 h.turn ((ButS.refl _ _ _).set C.Tv _ _) ((h.v.set 13 _).congr fun i hi=>by
  match i,hi with
  | 0,_=>rfl | 1,_=>rfl | 2,_=>rfl | 3,_=>rfl | 4,_=>rfl | 5,_=>rfl | 6,_=>rfl | 7,_=>rfl | 8,_=>rfl | 9,_=>rfl | 10,_=>rfl | 11,_=>rfl | 12,_=>rfl | 13,_=>rfl | 14,_=>rfl | 15,_=>rfl | 16,_=>rfl | n+17,h=>exact absurd h (by omega)) (h.sc.setOther h.n1.symm _)
theorem Vis.setLc (h:Vis C s w)(x:Int):Vis C { s with lc:=x } (w.setCell ⟨C.vb,14,none⟩ (.int .i64 x)):=
 h.turn ((ButS.refl _ _ _).set C.Tv _ _) ((h.v.set 14 _).congr fun i hi=>by
  match i,hi with
  | 0,_=>rfl | 1,_=>rfl | 2,_=>rfl | 3,_=>rfl | 4,_=>rfl | 5,_=>rfl | 6,_=>rfl | 7,_=>rfl | 8,_=>rfl | 9,_=>rfl | 10,_=>rfl | 11,_=>rfl | 12,_=>rfl | 13,_=>rfl | 14,_=>rfl | 15,_=>rfl | 16,_=>rfl | n+17,h=>exact absurd h (by omega)) (h.sc.setOther h.n1.symm _)
theorem Vis.setLf (h:Vis C s w)(x:Int):Vis C { s with lf:=x } (w.setCell ⟨C.vb,15,none⟩ (.int .i64 x)):=
 h.turn ((ButS.refl _ _ _).set C.Tv _ _) ((h.v.set 15 _).congr fun i hi=>by
  match i,hi with
  | 0,_=>rfl | 1,_=>rfl | 2,_=>rfl | 3,_=>rfl | 4,_=>rfl | 5,_=>rfl | 6,_=>rfl | 7,_=>rfl | 8,_=>rfl | 9,_=>rfl | 10,_=>rfl | 11,_=>rfl | 12,_=>rfl | 13,_=>rfl | 14,_=>rfl | 15,_=>rfl | 16,_=>rfl | n+17,h=>exact absurd h (by omega)) (h.sc.setOther h.n1.symm _)
theorem Vis.setLn (h:Vis C s w)(x:Int):Vis C { s with ln:=x } (w.setCell ⟨C.vb,16,none⟩ (.int .i64 x)):=
 h.turn ((ButS.refl _ _ _).set C.Tv _ _) ((h.v.set 16 _).congr fun i hi=>by
  match i,hi with
  | 0,_=>rfl | 1,_=>rfl | 2,_=>rfl | 3,_=>rfl | 4,_=>rfl | 5,_=>rfl | 6,_=>rfl | 7,_=>rfl | 8,_=>rfl | 9,_=>rfl | 10,_=>rfl | 11,_=>rfl | 12,_=>rfl | 13,_=>rfl | 14,_=>rfl | 15,_=>rfl | 16,_=>rfl | n+17,h=>exact absurd h (by omega)) (h.sc.setOther h.n1.symm _)
theorem Vis.setSc (h:Vis C s w)(j:Nat)(x:Int)(g:Nat->Int)(hg:∀ i,i<C.x.vars.length->g i=if i=j then x else s.sc i):Vis C { s with sc:=g } (w.setCell ⟨C.sb,j,none⟩ (.int .i64 x)):=
 h.turn ((ButS.refl _ _ _).set C.Ts _ _) (h.v.setOther h.n1 _) ((h.sc.set j _).congr fun i hi=>by
  dsimp only;rw[hg i hi];split<;>rfl)
end
end Go.Proofs.YtofcbekoaghikaaGreatDoor
