import Derived.Test.YtomcjennjcpdnaaGreatDoorPart23
import Derived.Deep.RegionWith
import Derived.BigQuiet
import Derived.Deep.RegionHeld3
import Derived.Deep.LoopGhost
set_option linter.unusedSimpArgs false
set_option linter.unusedVariables false
set_option maxHeartbeats 4000000
namespace Go.Proofs.YtomcjennjcpdnaaGreatDoor
set_option maxRecDepth 100000
set_option maxHeartbeats 4000000
open Go.RowKit
section
variable {F:CF} {X:CX} {w w' w2:World}
theorem CC.ownOf (h:CC F X w){X':CX}{O':Nat->Prop}(hO:∀ b,X.O b->O' b)(b:Nat)(hb:ownB F X' b)(hi:X'.iv.ownBlock=some b->O' b)(hk:X'.kv.ownBlock=some b->O' b)(hm:X'.mv.ownBlock=some b->O' b)(hj:∀ i,i<2 * X'.ms.length->(X'.J i).ownBlock=some b->O' b):O' b:=by
 rcases hb with e | e | e | e | e | e | e | ⟨i,h1,h2⟩
 ·exact hO b (h.own b (.inl e))
 ·exact hO b (h.own b (.inr (.inl e)))
 ·exact hO b (h.own b (.inr (.inr (.inl e))))
 ·exact hO b (h.own b (.inr (.inr (.inr (.inl e)))))
 ·exact hi e
 ·exact hk e
 ·exact hm e
 ·exact hj i h1 h2
theorem CC.oi (h:CC F X w){k:Nat}(e:X.iv.ownBlock=some k):X.O k:=h.own k (.inr (.inr (.inr (.inr (.inl e)))))
theorem CC.ok_ (h:CC F X w){k:Nat}(e:X.kv.ownBlock=some k):X.O k:=h.own k (.inr (.inr (.inr (.inr (.inr (.inl e))))))
theorem CC.om (h:CC F X w){k:Nat}(e:X.mv.ownBlock=some k):X.O k:=h.own k (.inr (.inr (.inr (.inr (.inr (.inr (.inl e)))))))
theorem CC.oj (h:CC F X w){k i:Nat}(hi:i<2 * X.ms.length)(e:(X.J i).ownBlock=some k):X.O k:=h.own k (.inr (.inr (.inr (.inr (.inr (.inr (.inr ⟨i,hi,e⟩)))))))
def pushX (X:CX)(m:MkD)(g cap:Nat):CX:=
 {X with ms:=X.ms++[m],mv:=.slice (some ⟨g,0,none⟩) (X.ms.length+1) cap,J:=fun i=>if i<2 * X.ms.length then X.J i else .slice none 0 0,L:=fun i=>if i<2 * X.ms.length then X.L i else[],O:=fun b=>X.O b\/b=g }
theorem CC.pushM {g cap:Nat}{m:MkD}(h:CC F X w)(hg:w.grownBy w2 X.mv.ownBlock)(hat:X.mv.ownBlock=some g\/w.heap.size<=g)
  (ho:OwnF w2 F.B1 103 5 (.slice (some ⟨g,0,none⟩) (X.ms.length+1) cap) (X.ms.length+1) (mkF (X.ms++[m]) (fun i=>if i<2 * X.ms.length then X.J i else .slice none 0 0))) :
  CC F (pushX X m g cap) (w2.setCell ⟨F.cb,16,none⟩ (.slice (some ⟨g,0,none⟩) (X.ms.length+1) cap))/\Fr X.O (fun b=>X.O b\/b=g) w (w2.setCell ⟨F.cb,16,none⟩ (.slice (some ⟨g,0,none⟩) (X.ms.length+1) cap)):=by
 have d:=h.dis;have hc:=h.ok.cb.2;have hgl:=ho.lt g rfl;have hcb:=h.ocb;have M:=h.move (w':=w2.setCell ⟨F.cb,16,none⟩ (.slice (some ⟨g,0,none⟩) (X.ms.length+1) cap)) (fun b=>b=F.cb\/X.mv.ownBlock=some b) hg.os hg.tape hg.output (by simpa using hg.size)
  (fun b hb hz=>(Below.heap_setCell _ _ _ _ (fun e=>hz (.inl e))).trans (hg.block b hb (fun e=>hz (.inr e.symm)))) (fun b e=>e.elim (fun e=>e ▸ h.ok.cb.1) (fun e=>(h.low b (h.om e)).1))
 have hbx:(w2.setCell ⟨F.cb,16,none⟩ (.slice (some ⟨g,0,none⟩) (X.ms.length+1) cap)).rowIs F.cb 52 17 (ccV F (pushX X m g cap)):=
  ((h.box.of_block (hg.block _ h.box.lt (fun e=>by have:=d.m1 _ e.symm;omega))).set 16 _).congr fun j hj=>by unfold ccV pushX;by_cases e:j=16<;>simp[e]
 have ni:∀ b,b<F.B1->b≠F.cb->¬(b=F.cb\/X.mv.ownBlock=some b):=fun b hb hne e=>e.elim hne (fun e=>by have:=d.m1 b e;omega);have hl:(X.ms++[m]).length=X.ms.length+1:=by simp
 refine⟨{ old:=M.old,ok:=h.ok,b1:=M.b1,box:=hbx,bx:=M.bx (ni _ h.ok.bb.2 d.c1.1),hm:=M.hm (ni _ h.ok.hb.2 d.c1.2.1),fr:=M.fr (ni _ h.ok.fb.2 d.c1.2.2.1),tt:=M.tt (ni _ h.ok.tb.2 d.c1.2.2.2),mks:=(by show OwnF _ _ _ _ _ (X.ms++[m]).length _;rw[hl];exact ho.same fun k e=>Below.heap_setCell _ _ _ _ (fun e2=>by simp[Value.ownBlock]at e;simp at e2;omega)),con:=M.con fun k e z=>z.elim (fun e2=>by have:=d.k1 k e;omega) (fun e2=>d.km k e e2),ins:=M.ins fun k e z=>z.elim (fun e2=>by have:=d.i1 k e;omega) (fun e2=>d.im k e e2),jls:=fun i hi=>?_,apart:=fun i j hi hj hne=>?_,inL:=fun i hi=>?_,own:=fun b hb=>?_,low:=fun b hb=>?_ },?_⟩
 ·show OwnF _ _ _ _ (if i<2 * X.ms.length then X.J i else .slice none 0 0) (if i<2 * X.ms.length then X.L i else[]).length (fun j=>.int .i64 ((if i<2 * X.ms.length then X.L i else[])[j]?.getD 0));by_cases c:i<2 * X.ms.length
  ·simp only[if_pos c];exact M.jls i c fun k e z=>z.elim (fun e2=>by have:=d.j1 i c k e;omega) (fun e2=>d.mj i c k e2 e)
  ·simp only[if_neg c];exact .nil
 ·show Dis (if i<2 * X.ms.length then X.J i else .slice none 0 0) (if j<2 * X.ms.length then X.J j else .slice none 0 0);by_cases c:i<2 * X.ms.length
  ·by_cases c':j<2 * X.ms.length
   ·rw[if_pos c,if_pos c'];exact h.apart i j c c' hne
   ·rw[if_neg c'];intro k _ e;cases e
  ·rw[if_neg c];intro k e;cases e
 ·show(if i<2 * X.ms.length then X.L i else[]).length<=X.n/\∀ x∈(if i<2 * X.ms.length then X.L i else[]),0<=x/\x<X.n;by_cases c:i<2 * X.ms.length
  ·rw[if_pos c];exact h.inL i c
  ·rw[if_neg c];exact⟨Nat.zero_le _,fun x hx=>by cases hx⟩
 ·refine h.ownOf (X':=pushX X m g cap) (fun _=>.inl) b hb (fun e=>.inl (h.oi e)) (fun e=>.inl (h.ok_ e)) (fun e=>.inr ?_) (fun i hi e=>?_)
  ·simp[pushX,Value.ownBlock]at e;exact e.symm
  ·simp only[pushX]at e;by_cases c:i<2 * X.ms.length
   ·rw[if_pos c]at e;exact .inl (h.oj c e)
   ·rw[if_neg c]at e;cases e
 ·have:=hg.size;have h0:=h.b1;have h1:=h.ok.cb.1;rcases hb with hb | rfl
  ·have:=h.low b hb;simp;omega
  ·simp;omega
 ·exact(Fr.refl.grown hg (fun k e=>h.om e) hat).set (.inl hcb) _
def popX (X:CX)(ms:List MkD)(a:Option Addr)(c:Nat):CX:=
 {X with ms:=ms,mv:=.slice a ms.length c,O:=fun b=>X.O b/\(X.J (2 * ms.length)).ownBlock≠some b/\(X.J (2 * ms.length+1)).ownBlock≠some b }
theorem CC.popM {ms:List MkD}{m:MkD}{a:Option Addr}{c:Nat}(h:CC F X w)(e:X.ms=ms++[m])(ev:X.mv=.slice a (ms.length+1) c) :
  CC F (popX X ms a c) (w.setCell ⟨F.cb,16,none⟩ (.slice a ms.length c))/\Fr X.O (popX X ms a c).O w (w.setCell ⟨F.cb,16,none⟩ (.slice a ms.length c)):=by
 have d:=h.dis;have hc:=h.ok.cb.2;have hl:X.ms.length=ms.length+1:=by rw[e];simp
 have lt:∀{i},i<2 * ms.length->i<2 * X.ms.length:=fun h=>by omega
 have z0:2 * ms.length<2 * X.ms.length:=by omega
 have z1:2 * ms.length+1<2 * X.ms.length:=by omega
 have M:=h.move (w':=w.setCell ⟨F.cb,16,none⟩ (.slice a ms.length c)) (fun b=>b=F.cb) rfl rfl rfl (by simp) (fun b _ hz=>Below.heap_setCell _ _ _ _ hz) (fun b e=>e ▸ h.ok.cb.1);have hmk:OwnF (w.setCell ⟨F.cb,16,none⟩ (.slice a ms.length c)) F.B1 103 5 (.slice a ms.length c) ms.length (mkF ms X.J):=by
  have h1:=M.mks fun k e=>by have:=d.m1 k e;omega
  rw[hl,ev,e]at h1;refine(h1.take (Nat.le_succ _) (Nat.succ_pos _)).congr fun i hi=>?_;unfold mkF;have hq:i / 5<ms.length:=by omega
  rw[List.getElem?_append_left hq]
 have lo:∀ b,b<F.B1->(X.J (2 * ms.length)).ownBlock≠some b/\(X.J (2 * ms.length+1)).ownBlock≠some b:=fun b hb=>⟨fun e=>by have:=d.j1 _ z0 b e;omega,fun e=>by have:=d.j1 _ z1 b e;omega⟩;have k:=h.ok;have hm2:(Value.slice a ms.length c).ownBlock=X.mv.ownBlock:=by rw[ev];cases a<;>rfl
 have hcb:(popX X ms a c).O F.cb:=⟨h.ocb,lo _ hc⟩;refine⟨{ old:=M.old,ok:=h.ok,b1:=M.b1,box:=(h.box.set 16 _).congr fun j hj=>by unfold ccV popX;by_cases e:j=16<;>simp[e],bx:=M.bx d.c1.1,hm:=M.hm d.c1.2.1,fr:=M.fr d.c1.2.2.1,tt:=M.tt d.c1.2.2.2,ins:=M.ins fun k e=>by have:=d.i1 k e;omega,con:=M.con fun k e=>by have:=d.k1 k e;omega,mks:=hmk,jls:=fun i hi=>M.jls i (lt hi) fun k e=>by have:=d.j1 i (lt hi) k e;omega,apart:=fun i j hi hj=>h.apart i j (lt hi) (lt hj),inL:=fun i hi=>h.inL i (lt hi),own:=fun b hb=>?_,low:=fun b hb=>by have:=h.low b hb.1;simpa using this },⟨rfl,rfl,rfl,by simp,fun b _ hb=>Below.heap_setCell _ _ _ _ (fun e=>hb (e ▸ h.ocb)),fun b hb=>.inl hb.1⟩⟩;rcases hb with e2 | e2 | e2 | e2 | e2 | e2 | e2 | ⟨i,h1,e2⟩
 ·exact⟨h.own b (.inl e2),lo b (by rw[e2];exact hc)⟩
 ·exact⟨h.own b (.inr (.inl e2)),lo b (by rw[e2];exact k.hb.2)⟩
 ·exact⟨h.own b (.inr (.inr (.inl e2))),lo b (by rw[e2];exact k.fb.2)⟩
 ·exact⟨h.own b (.inr (.inr (.inr (.inl e2)))),lo b (by rw[e2];exact k.tb.2)⟩
 ·exact⟨h.oi e2,d.ij _ z0 b e2,d.ij _ z1 b e2⟩
 ·exact⟨h.ok_ e2,d.kj _ z0 b e2,d.kj _ z1 b e2⟩
 ·have e3:X.mv.ownBlock=some b:=hm2 ▸ e2;exact⟨h.om e3,d.mj _ z0 b e3,d.mj _ z1 b e3⟩
 ·have h1':i<2 * ms.length:=h1;exact⟨h.oj (lt h1') e2,h.apart i _ (lt h1') z0 (by omega) b e2,h.apart i _ (lt h1') z1 (by omega) b e2⟩
def jumpX (X:CX)(i:Nat)(x:Int)(g cap:Nat):CX:=
 {X with J:=fun j=>if j=i then .slice (some ⟨g,0,none⟩) ((X.L i).length+1) cap else X.J j,L:=fun j=>if j=i then X.L i++[x]else X.L j,O:=fun b=>X.O b\/b=g }
theorem CC.jump {i g cap mg mc:Nat}{x:Int}(h:CC F X w)(hi:i<2 * X.ms.length)(hx:0<=x/\x<X.n/\(X.L i).length+1<=X.n)(em:X.mv=.slice (some ⟨mg,0,none⟩) X.ms.length mc)
  (hg:w.grownBy w2 (X.J i).ownBlock)(hat:(X.J i).ownBlock=some g\/w.heap.size<=g)
  (ho:OwnF w2 F.B1 3 1 (.slice (some ⟨g,0,none⟩) ((X.L i).length+1) cap) ((X.L i).length+1) (fun j=>.int .i64 ((X.L i++[x])[j]?.getD 0))) :
  CC F (jumpX X i x g cap) (w2.setCell ⟨mg,i / 2 * 5+3+i % 2,none⟩ (.slice (some ⟨g,0,none⟩) ((X.L i).length+1) cap))/\Fr X.O (fun b=>X.O b\/b=g) w (w2.setCell ⟨mg,i / 2 * 5+3+i % 2,none⟩ (.slice (some ⟨g,0,none⟩) ((X.L i).length+1) cap)):=by
 have d:=h.dis;have hc:=h.ok.cb.2;have hgl:=ho.lt g rfl;have hmb:X.mv.ownBlock=some mg:=by rw[em];rfl
 have hm1:=d.m1 mg hmb;have hmg:mg≠g:=by
  rcases hat with e | e
  ·rintro rfl;exact d.mj i hi mg hmb e
  ·have:=(h.mks.lt mg hmb).2;omega
 have M:=h.move (w':=w2.setCell ⟨mg,i / 2 * 5+3+i % 2,none⟩ (.slice (some ⟨g,0,none⟩) ((X.L i).length+1) cap)) (fun b=>b=mg\/(X.J i).ownBlock=some b) hg.os hg.tape hg.output (by simpa using hg.size)
  (fun b hb hz=>(Below.heap_setCell _ _ _ _ (fun e=>hz (.inl e))).trans (hg.block b hb (fun e=>hz (.inr e.symm)))) (fun b e=>e.elim (fun e=>e ▸ (h.low mg (h.om hmb)).1) (fun e=>(h.low b (h.oj hi e)).1))
 have ni:∀ b,b<F.B1->¬(b=mg\/(X.J i).ownBlock=some b):=fun b hb e=>e.elim (fun e=>by omega) (fun e=>by have:=d.j1 i hi b e;omega);have k:=h.ok;refine⟨{ old:=M.old,ok:=h.ok,b1:=M.b1,box:=M.box (ni _ hc),bx:=M.bx (ni _ k.bb.2),hm:=M.hm (ni _ k.hb.2),fr:=M.fr (ni _ k.fb.2),tt:=M.tt (ni _ k.tb.2),con:=M.con fun k e z=>z.elim (fun e2=>d.km k e (e2 ▸ hmb)) (fun e2=>d.kj i hi k e e2),ins:=M.ins fun k e z=>z.elim (fun e2=>d.im k e (e2 ▸ hmb)) (fun e2=>d.ij i hi k e e2),mks:=?_,jls:=fun j hj=>?_,apart:=fun j j' hj hj' hne=>?_,inL:=fun j hj=>?_,own:=fun b hb=>?_,low:=fun b hb=>?_ },?_⟩
 ·have h1:OwnF w2 F.B1 103 5 X.mv X.ms.length (mkF X.ms X.J):=h.mks.same fun k e=>hg.block k (h.mks.lt k e).2 (fun e2=>d.mj i hi k e e2.symm);rw[em]at h1;show OwnF _ _ _ _ X.mv _ _;rw[em];refine(h1.set _).congr fun j hj=>?_;show(if j=i / 2 * 5+3+i % 2 then _ else mkF X.ms X.J j)=mkF X.ms (fun j=>if j=i then _ else X.J j) j;unfold mkF;by_cases c:j=i / 2 * 5+3+i % 2
  ·rw[if_pos c];by_cases c0:i % 2=0
   ·have q1:j % 5=3:=by omega
    have q2:2 * (j / 5)=i:=by omega
    simp[q1,q2]
   ·have q1:j % 5=4:=by omega
    have q2:2 * (j / 5)+1=i:=by omega
    simp[q1,q2]
  ·rw[if_neg c];by_cases c3:j % 5=3
   ·have q:2 * (j / 5)≠i:=by omega
    simp[c3,q]
   ·by_cases c4:j % 5=4
    ·have q:2 * (j / 5)+1≠i:=by omega
     simp[c4,q]
    ·have:j % 5<5:=Nat.mod_lt _ (by omega);have:j % 5=0\/j % 5=1\/j % 5=2:=by omega
     rcases this with q | q | q<;>simp[q]
 ·show OwnF _ _ _ _ (if j=i then _ else X.J j) (if j=i then X.L i++[x]else X.L j).length (fun q=>.int .i64 ((if j=i then X.L i++[x]else X.L j)[q]?.getD 0));by_cases c:j=i
  ·simp only[if_pos c];rw[List.length_append];exact ho.same fun k e=>Below.heap_setCell _ _ _ _ (fun e2=>by simp[Value.ownBlock]at e;simp at e2;omega)
  ·simp only[if_neg c];exact M.jls j hj fun k e z=>z.elim (fun e2=>d.mj j hj k (e2 ▸ hmb) e) (fun e2=>h.apart i j hi hj (fun e=>c e.symm) k e2 e)
 ·have key:∀ q,q<2 * X.ms.length->q≠i->Dis (.slice (some ⟨g,0,none⟩) ((X.L i).length+1) cap) (X.J q):=fun q hq hqi k e e2=>by
   simp[Value.ownBlock]at e;subst e;rcases hat with e3 | e3
   ·exact h.apart i q hi hq (fun e=>hqi e.symm) g e3 e2
   ·have:=((h.jls q hq).lt g e2).2;omega
  show Dis (if j=i then _ else X.J j) (if j'=i then _ else X.J j');by_cases c:j=i
  ·rw[if_pos c,if_neg (fun e=>hne (c.trans e.symm))];exact key j' hj' (fun e=>hne (c.trans e.symm))
  ·rw[if_neg c];by_cases c':j'=i
   ·rw[if_pos c'];exact(key j hj c).symm
   ·rw[if_neg c'];exact h.apart j j' hj hj' hne
 ·show(if j=i then X.L i++[x]else X.L j).length<=X.n/\∀ y∈(if j=i then X.L i++[x]else X.L j),0<=y/\y<X.n;by_cases c:j=i
  ·rw[if_pos c];refine⟨by simpa using hx.2.2,fun y hy=>?_⟩;rcases List.mem_append.1 hy with hy | hy
   ·exact(h.inL i hi).2 y hy
   ·obtain rfl:=List.mem_singleton.1 hy;exact⟨hx.1,hx.2.1⟩
  ·rw[if_neg c];exact h.inL j hj
 ·refine h.ownOf (X':=jumpX X i x g cap) (fun _=>.inl) b hb (fun e=>.inl (h.oi e)) (fun e=>.inl (h.ok_ e)) (fun e=>.inl (h.om e)) (fun j hj e=>?_);simp only[jumpX]at e;by_cases c:j=i
  ·rw[if_pos c]at e;simp[Value.ownBlock]at e;exact .inr e.symm
  ·rw[if_neg c]at e;exact .inl (h.oj hj e)
 ·have:=hg.size;have h0:=h.b1;have h1:=h.ok.cb.1;rcases hb with hb | rfl
  ·have:=h.low b hb;simp;omega
  ·simp;omega
 ·exact(Fr.refl.grown hg (fun k e=>h.oj hi e) hat).set (.inl (h.om hmb)) _
end
end Go.Proofs.YtomcjennjcpdnaaGreatDoor
namespace Go.Proofs.YtomcjennjcpdnaaGreatDoor
set_option maxRecDepth 100000
set_option maxHeartbeats 4000000
open Go.RowKit
theorem info_of {T:Nat}{z:Value}{s b:Nat}(h:(Tryz.prog.info? T).map (fun i=>(i.zero,i.size,i.bytes))=some (some z,s,b)):∃ i0,Tryz.prog.info? T=some i0/\i0.zero=some z/\i0.size=s/\i0.bytes=b:=by
 cases e:Tryz.prog.info? T with
 | none=>rw[e]at h;cases h
 | some i=>rw[e]at h;simp at h;exact⟨i,rfl,h.1,h.2.1,h.2.2⟩
theorem info_i:(Tryz.prog.info? 3).map (fun i=>(i.zero,i.size,i.bytes))=some (some (.int .i64 0),1,8):=by kernel_rfl
theorem info_ins:(Tryz.prog.info? 108).map (fun i=>(i.zero,i.size,i.bytes))=some (some (.agg #[.int .i64 0,.int .i64 0,.int .i64 0,.int .i64 0,.int .i64 0]),5,40):=by kernel_rfl
def insV (o a b x d:Int)(j:Nat):Value:=if j=0 then .int .i64 o else if j=1 then .int .i64 a else if j=2 then .int .i64 b else if j=3 then .int .i64 x else .int .i64 d
theorem insV_get {o a b x d:Int}{i:Nat}(hi:i<5):[Value.int .i64 o,.int .i64 a,.int .i64 b,.int .i64 x,.int .i64 d][i]? = some (insV o a b x d i):=by
 have:i=0\/i=1\/i=2\/i=3\/i=4:=by omega
 rcases this with rfl | rfl | rfl | rfl | rfl<;>rfl
def PutPost (F:CF)(X:CX)(w:World)(e:Ending)(w':World):Prop:=
 ∃ iv is O,e=.returned (.int .i64 X.n)/\CC F { X with n:=X.n+1,iv:=iv,is:=is,O:=O } w'/\Fr X.O O w w'
theorem put_any (F:CF)(X:CX)(o a b x d:Int)(w:World)(h:CC F X w)(hn:X.n<2500000000000) :
  Calls Tryz.prog 30 #[.pointer (some ⟨F.cb,0,none⟩),.int .i64 o,.int .i64 a,.int .i64 b,.int .i64 x,.int .i64 d] w (PutPost F X w):=by
 obtain⟨i0,hi,hz0,hz1,hz2⟩:=info_of info_ins;have c9:=h.c9;have z9:=h.fz 9;have hcl:=h.cbl;have hcl':F.cb<w.heap.size+1:=by omega
 have H1:Hid (CC F X (w.alloc (.cells #[.int .i64 o,.int .i64 a,.int .i64 b,.int .i64 x,.int .i64 d] 108))):=h.alloc _;have hb1:=h.b1;have HF:Hid (Fr X.O X.O w (w.alloc (.cells #[.int .i64 o,.int .i64 a,.int .i64 b,.int .i64 x,.int .i64 d] 108))):=Fr.refl.alloc _;clear h;go_enter Tryz.func30,Tryz.ntmps30;go_wp2_with (first
  | (at_builtin;refine wpList_append_lies _ rfl _ _ 45 rfl F.B1 108 i0 (.agg #[.int .i64 0,.int .i64 0,.int .i64 0,.int .i64 0,.int .i64 0]) 5 40 Tryz.underlying45 hi hz0 hz1 hz2 rfl (by decide) X.iv X.n _ rfl H1.out.ins.owns ⟨w.heap.size,0,none⟩ 1 1 [.int .i64 o,.int .i64 a,.int .i64 b,.int .i64 x,.int .i64 d] rfl rfl ?c1 ?c2 (by decide) ?c3 ?c4 ?c5 (w.heap.size+1) (by simp) ?_)
  | go_in)
 case c1=>intro j u hj;rcases j with _ | _ | _ | _ | _ | _<;>simp at hj<;>subst hj<;>simp[Addr.add,go_sem]
 case c2=>intro u hu;simp at hu;rcases hu with rfl | rfl | rfl | rfl | rfl<;>rfl
 case c3=>unfold maxLen;omega
 case c4=>omega
 case c5=>simp;omega
 intro g cap w1 hown hgrow hat hlt;have R:=hide (CC.growI H1.out hgrow (hat.elim .inl fun e=>.inr (by simp[e])) (OwnF.push (f':=fun j=>if j<X.n * 5 then X.is j else insV o a b x d (j-X.n * 5)) rfl hown (fun i hi=>if_pos hi) (fun i hi=>by show _=some (if _ then _ else _);rw[if_neg (by omega),Nat.add_sub_cancel_left];exact insV_get hi)));have c9':=((H1.out.box.of_block (hgrow.block F.cb (by simpa using hcl') (fun e=>by have:=H1.out.dis.i1 _ e.symm;have:=H1.out.ok.cb.2;omega))).cell (i:=9) (by omega));have z9':=((H1.out.box.of_block (hgrow.block F.cb (by simpa using hcl') (fun e=>by have:=H1.out.dis.i1 _ e.symm;have:=H1.out.ok.cb.2;omega))).frozen 9);have hcl1:F.cb<w1.heap.size:=Nat.lt_of_lt_of_le hcl' (by simpa using hgrow.size);clear hown hgrow hat c9 z9 H1;go_wp2_with fail
 go_ret;exact⟨_,_,_,by go_num,R.out.1,HF.out.trans R.out.2⟩
end Go.Proofs.YtomcjennjcpdnaaGreatDoor
namespace Go.Proofs.YtomcjennjcpdnaaGreatDoor
set_option maxRecDepth 100000
set_option maxHeartbeats 4000000
open Go.RowKit
structure St (X X':CX)(t:Int)(h:Nat->Int)(d:Nat):Prop where
 top:X'.top=t
 home:X'.home=h
 ms:X'.ms=X.ms
 n1:X.n<=X'.n
 n2:X'.n<=X.n+d
 nk:X'.nk<=X'.n
theorem St.trans {X X1 X2:CX}{t t2:Int}{h h2:Nat->Int}{d d2:Nat}(a:St X X1 t h d)(b:St X1 X2 t2 h2 d2):St X X2 t2 h2 (d+d2):=
 ⟨b.top,b.home,b.ms.trans a.ms,Nat.le_trans a.n1 b.n1,by have:=a.n2;have:=b.n2;omega,b.nk⟩
theorem St.le {X X1:CX}{t:Int}{h:Nat->Int}{d d':Nat}(a:St X X1 t h d)(hd:d<=d'):St X X1 t h d':=⟨a.top,a.home,a.ms,a.n1,Nat.le_trans a.n2 (by omega),a.nk⟩
def CPost (F:CF)(X:CX)(w:World)(v:Value)(t:Int)(h:Nat->Int)(d:Nat)(e:Ending)(w':World):Prop:=
 ∃ X',e=.returned v/\CC F X' w'/\Fr X.O X'.O w w'/\St X X' t h d
theorem at_any (F:CF)(X:CX)(w:World)(h:CC F X w) :
  Calls Tryz.prog 32 #[.pointer (some ⟨F.cb,0,none⟩)] w fun e w'=>e=.returned (.int .i64 X.n)/\w'=w:=by
 have c9:=h.c9;obtain⟨a,c,e,_,_⟩:=h.ins.form;rw[e]at c9;clear h e;go_enter Tryz.func32,Tryz.ntmps32;go_wp2_with fail
 go_ret;exact⟨rfl,rfl⟩
def UsePost (F:CF)(X:CX)(w:World)(e:Ending)(w':World):Prop:=∃ r,e=.returned (.tuple #[])/\CC F { X with rg:=r } w'/\Fr X.O X.O w w'
theorem use_any (F:CF)(X:CX)(n:Int)(w:World)(h:CC F X w) :
  Calls Tryz.prog 26 #[.pointer (some ⟨F.cb,0,none⟩),.int .i64 n] w (UsePost F X w):=by
 have c6:=h.c6;have z6:=h.fz 6;have H:=hide h;clear h;by_cases hc:n > X.rg
 ·go_enter Tryz.func26,Tryz.ntmps26;go_wp2_with fail
  go_end0
  exact⟨n,rfl,H.out.rg n,Fr.refl.set H.out.ocb _⟩
 ·go_enter Tryz.func26,Tryz.ntmps26;go_wp2_with fail
  go_end0
  exact⟨X.rg,rfl,H.out,Fr.refl⟩
def PushPost (F:CF)(X:CX)(w:World)(e:Ending)(w':World):Prop:=∃ r,e=.returned (.int .i64 X.top)/\CC F { X with top:=X.top+1,rg:=r } w'/\Fr X.O X.O w w'
theorem push_any (F:CF)(X:CX)(w:World)(h:CC F X w)(h0:0<=X.top)(h1:X.top<=1000000000) :
  Calls Tryz.prog 29 #[.pointer (some ⟨F.cb,0,none⟩)] w (PushPost F X w):=by
 have c11:=h.c11;have z11:=h.fz 11;have hcl:=h.cbl;have e1:wrap64 (X.top+1)=X.top+1:=by unfold wrap64;omega
 have H:=hide (h.top (X.top+1));have HF:Hid (Fr X.O X.O w (w.setCell ⟨F.cb,11,none⟩ (.int .i64 (X.top+1)))):=Fr.refl.set h.ocb _;clear h;go_enter Tryz.func29,Tryz.ntmps29;go_wp2_with fail
 refine(use_any F _ _ _ H.out).mono ?_;rintro e w1 ⟨r,rfl,h1,f1⟩;have c11':=h1.c11;have R:=hide (And.intro h1 (HF.out.trans f1));clear h1 f1 c11 z11 H HF;go_wp2_with fail
 go_ret;exact⟨r,by go_num,R.out.1,R.out.2⟩
theorem take_any (r:Int)(w:World)(h0:-1000000000<=r)(h1:r<=1000000000):Calls Tryz.prog 31 #[.int .i64 r] w fun e w'=>e=.returned (.int .i64 (-1-r))/\w'=w:=by
 go_enter Tryz.func31,Tryz.ntmps31;go_wp2_with fail
 go_ret;exact⟨by go_num,rfl⟩
theorem declare_any (F:CF)(X:CX)(v:Nat)(r:Int)(w:World)(h:CC F X w)(hv:v<F.nv)(h0:0<=r)(h1:r<=1000000000)(hn:X.n<2500000000000)(hk:X.nk<=X.n) :
  Calls Tryz.prog 27 #[.pointer (some ⟨F.cb,0,none⟩),.int .i64 v,.int .i64 r] w (CPost F X w (.tuple #[]) X.top (updF X.home v r) 1):=by
 have c13:=h.c13;have c12:=h.c12;have hd:=h.dis;have hm:=h.hm.cell hv;have hz:=h.hm.frozen v;have hx:=h.bx.cell hv;have n1:F.cb≠F.hb:=hd.c1.2.1.symm;have n2:F.bb≠F.hb:=hd.hh.1.symm;obtain⟨H1,H2⟩:=h.home v r;have H1:=hide H1;have H2:=hide H2;clear h hd;cases hb:F.bx v
 ·rw[hb]at hx;go_enter Tryz.func27,Tryz.ntmps27;go_wp2_with fail
  go_end0
  exact⟨_,rfl,H1.out,H2.out,rfl,rfl,rfl,Nat.le_refl _,Nat.le_succ _,hk⟩
 ·rw[hb]at hx;go_enter Tryz.func27,Tryz.ntmps27;go_wp2_with fail
  refine(take_any r _ (by omega) h1).mono ?_;rintro e w1 ⟨rfl,rfl⟩;go_wp2_with fail
  refine(put_any F _ _ _ _ _ _ _ H1.out hn).mono ?_;rintro e w2 ⟨iv,is,O,rfl,h2,f2⟩;have R:=hide (And.intro h2 (H2.out.trans f2));clear h2 f2 H1 H2;go_wp2_with fail
  go_end0
  exact⟨_,rfl,R.out.1,R.out.2,rfl,rfl,rfl,Nat.le_succ _,Nat.le_refl _,Nat.le_succ_of_le hk⟩
theorem drop_any (F:CF)(X:CX)(t:Nat)(w:World)(h:CC F X w)(ht:X.top=t)(b:Nat)(h1:t<=1000000000)(hb:b<=1000000000)(hn:X.n+t<=2500000000000)(hk:X.nk<=X.n) :
  Calls Tryz.prog 58 #[.pointer (some ⟨F.cb,0,none⟩),.int .i64 b] w (CPost F X w (.tuple #[]) b X.home (t-b)):=by
 have H:=hide h;clear h;go_enter Tryz.func58,Tryz.ntmps58;go_wp2_with fail
 go_loopw [4] (fun i wr=>∃(k:Nat) (X1:CX),b<=k/\k<=max b t/\i=.int .i64 k/\CC F X1 wr/\Fr X.O X1.O w wr/\St X X1 t X.home (k-b)) (fun i _=>max b t-(intOf i).toNat)
 case atStart=>exact⟨b,X,Nat.le_refl _,by omega,rfl,H.out,Fr.refl,ht,rfl,rfl,Nat.le_refl _,Nat.le_add_right _ _,hk⟩
 case round=>
  obtain⟨k,X1,hk1,hk2,rfl,h1,f1,s1⟩:=hrel;have c11:=h1.c11;have z11:=h1.fz 11;rw[s1.top]at c11;by_cases hlt:k<t
  ·have R:=hide (And.intro h1 (And.intro f1 s1));have hn1:X1.n<2500000000000:=by have:=s1.n2;omega
   clear h1 f1 s1;go_wp2_with fail
   refine(put_any F _ _ _ _ _ _ _ R.out.1 hn1).mono ?_;rintro e w2 ⟨iv,is,O,rfl,h2,f2⟩;have R2:=hide (And.intro h2 f2);clear h2 f2;go_wp2_with fail
   go_roundw
   case rel=>
    have s1:=R.out.2.2;exact⟨k+1,_,by omega,by omega,by go_num,R2.out.1,R.out.2.1.trans R2.out.2,s1.top,s1.home,s1.ms,by have:=s1.n1;simp only;omega,by have:=s1.n2;simp only;omega,by have:=s1.nk;simp only;omega⟩
   case measure=>simp[intOf];omega
  ·have R:=hide (And.intro (h1.top b) (And.intro (f1.set (a:=⟨F.cb,11,none⟩) h1.ocb (.int .i64 b)) s1));have ek:Hid (k-b=t-b):=by show _=_;omega
   clear h1 f1 s1;go_wp2_with fail
   go_end0
   have s1:=R.out.2.2;exact⟨_,rfl,R.out.1,R.out.2.1,rfl,s1.home,s1.ms,s1.n1,by have:=s1.n2;rw[ek.out]at this;exact this,s1.nk⟩
end Go.Proofs.YtomcjennjcpdnaaGreatDoor
namespace Go.Proofs.YtomcjennjcpdnaaGreatDoor
set_option maxRecDepth 100000
set_option maxHeartbeats 4000000
open Go.RowKit
def refsOk (F:CF)(l:List Int):Prop:=∀ j,j<l.length->0<=l[j]?.getD 0/\l[j]?.getD 0<F.nv
theorem St.same {X X' X1:CX}{t:Int}{h:Nat->Int}{d:Nat}(s:St X X1 t h d)(e:X'.top=X1.top/\X'.home=X1.home/\X'.ms=X1.ms/\X'.n=X1.n/\X'.nk=X1.nk):St X X' t h d:=
 ⟨e.1.trans s.top,e.2.1.trans s.home,e.2.2.1.trans s.ms,e.2.2.2.1 ▸ s.n1,e.2.2.2.1 ▸ s.n2,by rw[e.2.2.2.1,e.2.2.2.2];exact s.nk⟩
theorem St.refl {X:CX}(hk:X.nk<=X.n):St X X X.top X.home 0:=⟨rfl,rfl,rfl,Nat.le_refl _,Nat.le_refl _,hk⟩
theorem named_any (F:CF)(X:CX)(a:Option Addr)(l:List Int)(c:Nat)(S:Nat->Prop)(w:World)(h:CC F X w)(hs:IntsAt w S a l)(hS:∀ b,S b->b<w.heap.size/\¬X.O b)(hl:refsOk F l)(hk:X.nk<=X.n) :
  Calls Tryz.prog 111 #[.pointer (some ⟨F.cb,0,none⟩),.slice a l.length c] w (CPost F X w (.tuple #[]) X.top X.home 0):=by
 have H:=hide h;have hn:=hs.1;have HS:=hide hs;have HB:=hide hS;have HL:=hide hl;clear h hs hS hl;go_enter Tryz.func111,Tryz.ntmps111;go_wp2_with fail
 go_loopw [8] (fun i wr=>∃(k:Nat) (X1:CX),k<=l.length/\i=.int .i64 k/\CC F X1 wr/\Fr X.O X1.O w wr/\St X X1 X.top X.home 0) (fun i _=>l.length-(intOf i).toNat)
 case atStart=>exact⟨0,X,Nat.zero_le _,rfl,H.out,Fr.refl,St.refl hk⟩
 case round=>
  obtain⟨k,X1,hk1,rfl,h1,f1,s1⟩:=hrel;by_cases hlt:k<l.length
  ·obtain⟨b,off,rfl,hb,hcc⟩:=HS.out.2 (by omega);have hck:=hcc k hlt;obtain⟨hv0,hv1⟩:=HL.out k hlt;obtain⟨v,hv⟩:=Int.eq_ofNat_of_zero_le hv0;rw[hv]at hck hv1;have hck1:wr.cell? ⟨b,off+k,none⟩=some (.int .i64 (v:Nat)):=by
    rw[World.cell?_of_block (a:=⟨b,off+k,none⟩) (f1.block b (HB.out b hb).1 (HB.out b hb).2)];exact hck
   have hv2:v<F.nv:=by omega
   have c14:=h1.c14;have hm:=h1.fr.cell hv2;have hz:=h1.fr.frozen v;have R:=hide (And.intro h1 (And.intro f1 s1));clear h1 f1 s1 hcc hck hv;go_wp2_with fail
   go_region_with (first | (go_at_call 32;refine(at_any F X1 _ R.out.1.drew).mono ?_;rintro e w' ⟨rfl,rfl⟩))
   all_goals
    go_wp2_with fail
    go_roundw
    case rel=>exact⟨k+1,_,by omega,by go_num,(R.out.1.drew.from v _).1,R.out.2.1.drew.trans (R.out.1.drew.from v _).2,R.out.2.2.same (by simp)⟩
    case measure=>simp[intOf];omega
  ·have R:=hide (And.intro h1 (And.intro f1 s1));clear h1 f1 s1;go_wp2_with fail
   go_end0
   exact⟨X1,rfl,R.out.1,R.out.2.1,R.out.2.2⟩
theorem forget_any (F:CF)(X:CX)(a:Option Addr)(l:List Int)(c:Nat)(S:Nat->Prop)(w:World)(h:CC F X w)(hs:IntsAt w S a l)(hS:∀ b,S b->b<w.heap.size/\¬X.O b)(hl:refsOk F l)(hk:X.nk<=X.n) :
  Calls Tryz.prog 57 #[.pointer (some ⟨F.cb,0,none⟩),.slice a l.length c] w (CPost F X w (.tuple #[]) X.top X.home 0):=by
 have H:=hide h;have hn:=hs.1;have HS:=hide hs;have HB:=hide hS;have HL:=hide hl;clear h hs hS hl;go_enter Tryz.func57,Tryz.ntmps57;go_wp2_with fail
 go_loopw [8] (fun i wr=>∃(k:Nat) (X1:CX),k<=l.length/\i=.int .i64 k/\CC F X1 wr/\Fr X.O X1.O w wr/\St X X1 X.top X.home 0) (fun i _=>l.length-(intOf i).toNat)
 case atStart=>exact⟨0,X,Nat.zero_le _,rfl,H.out,Fr.refl,St.refl hk⟩
 case round=>
  obtain⟨k,X1,hk1,rfl,h1,f1,s1⟩:=hrel;by_cases hlt:k<l.length
  ·obtain⟨b,off,rfl,hb,hcc⟩:=HS.out.2 (by omega);have hck:=hcc k hlt;obtain⟨hv0,hv1⟩:=HL.out k hlt;obtain⟨v,hv⟩:=Int.eq_ofNat_of_zero_le hv0;rw[hv]at hck hv1;have hck1:wr.cell? ⟨b,off+k,none⟩=some (.int .i64 (v:Nat)):=by
    rw[World.cell?_of_block (a:=⟨b,off+k,none⟩) (f1.block b (HB.out b hb).1 (HB.out b hb).2)];exact hck
   have hv2:v<F.nv:=by omega
   have c15:=h1.c15;have hm:=h1.tt.cell hv2;have hz:=h1.tt.frozen v;have R:=hide (And.intro h1 (And.intro f1 s1));clear h1 f1 s1 hcc hck hv;go_wp2_with fail
   go_region_with (first | (go_at_call 32;refine(at_any F X1 _ R.out.1.drew).mono ?_;rintro e w' ⟨rfl,rfl⟩))
   all_goals
    go_wp2_with fail
    go_roundw
    case rel=>exact⟨k+1,_,by omega,by go_num,(R.out.1.drew.till v _).1,R.out.2.1.drew.trans (R.out.1.drew.till v _).2,R.out.2.2.same (by simp)⟩
    case measure=>simp[intOf];omega
  ·have R:=hide (And.intro h1 (And.intro f1 s1));clear h1 f1 s1;go_wp2_with fail
   go_end0
   exact⟨X1,rfl,R.out.1,R.out.2.1,R.out.2.2⟩
theorem patch_any (F:CF)(X:CX)(a:Option Addr)(l:List Int)(c:Nat)(to_:Int)(S:Nat->Prop)(w:World)(h:CC F X w)(hs:IntsAt w S a l)(hS:∀ b,S b->b<w.heap.size/\¬X.O b)(hl:∀ x∈l,0<=x/\x<X.n)(hk:X.nk<=X.n) :
  Calls Tryz.prog 113 #[.pointer (some ⟨F.cb,0,none⟩),.slice a l.length c,.int .i64 to_] w (CPost F X w (.tuple #[]) X.top X.home 0):=by
 have H:=hide h;have hn:=hs.1;have HS:=hide hs;have HB:=hide hS;have HL:=hide hl;clear h hs hS hl;go_enter Tryz.func113,Tryz.ntmps113;go_wp2_with fail
 go_loopw [10] (fun i wr=>∃(k:Nat) (X1:CX),k<=l.length/\i=.int .i64 k/\CC F X1 wr/\Fr X.O X1.O w wr/\St X X1 X.top X.home 0) (fun i _=>l.length-(intOf i).toNat)
 case atStart=>exact⟨0,X,Nat.zero_le _,rfl,H.out,Fr.refl,St.refl hk⟩
 case round=>
  obtain⟨k,X1,hk1,rfl,h1,f1,s1⟩:=hrel;by_cases hlt:k<l.length
  ·obtain⟨b,off,rfl,hb,hcc⟩:=HS.out.2 (by omega);have hck:=hcc k hlt;obtain⟨hv0,hv1⟩:=HL.out (l[k]?.getD 0) (by rw[List.getElem?_eq_getElem hlt];exact List.getElem_mem _);obtain⟨v,hv⟩:=Int.eq_ofNat_of_zero_le hv0;rw[hv]at hck hv1;have hck1:wr.cell? ⟨b,off+k,none⟩=some (.int .i64 (v:Nat)):=by
    rw[World.cell?_of_block (a:=⟨b,off+k,none⟩) (f1.block b (HB.out b hb).1 (HB.out b hb).2)];exact hck
   have hv2:v<X1.n:=by have:=s1.n1;omega
   have c9:=h1.c9;obtain⟨g,cap,e9,_,_,_,hgc,hgz⟩:=h1.ins.at (by omega);rw[e9]at c9;have hc1:=hgc (v * 5+1) (by omega);have hz1:=hgz (v * 5+1);have R:=hide (And.intro h1 (And.intro f1 (And.intro s1 e9)));clear h1 f1 s1 hcc hck hv hgc hgz e9;go_wp2_with fail
   go_roundw
   case rel=>
    obtain⟨h1,f1,s1,e9⟩:=R.out;obtain⟨h2,f2⟩:=h1.setI (i:=v * 5+1) e9 (.int .i64 to_);exact⟨k+1,_,by omega,by go_num,h2,f1.trans f2,s1.same (by simp)⟩
   case measure=>simp[intOf];omega
  ·have R:=hide (And.intro h1 (And.intro f1 s1));clear h1 f1 s1;go_wp2_with fail
   go_end0
   exact⟨X1,rfl,R.out.1,R.out.2.1,R.out.2.2⟩
end Go.Proofs.YtomcjennjcpdnaaGreatDoor
