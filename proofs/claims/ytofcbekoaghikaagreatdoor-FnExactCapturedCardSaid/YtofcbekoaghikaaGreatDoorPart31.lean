import Derived.Test.YtofcbekoaghikaaGreatDoorPart01
import Derived.Test.YtofcbekoaghikaaGreatDoorProg
import Derived.WalkKit
import Derived.WalkSpells
import Derived.WalkLawsBesides
set_option linter.unusedSimpArgs false
set_option linter.unusedVariables false
set_option maxHeartbeats 1000000
set_option maxRecDepth 100000
namespace Go.Proofs.YtofcbekoaghikaaGreatDoor
open Go.RowKit
def Flat:Value->Prop
 | .slice _ _ _=>False
 | _=>True
structure Mk (S:Nat->Prop)(w w':World):Prop where
 os:w'.os=w.os
 tape:w'.tape=w.tape
 output:w'.output=w.output
 size:w.heap.size<=w'.heap.size
 block:∀ b,b<w.heap.size->¬S b->w'.heap[b]? = w.heap[b]?
 hdr:∀ b o a n c,w.cell? ⟨b,o,none⟩=some (.slice a n c)->w'.cell? ⟨b,o,none⟩=some (.slice a n c)
 flat:∀ b o v,w.cell? ⟨b,o,none⟩=some v->Flat v->∃ v',w'.cell? ⟨b,o,none⟩=some v'/\Flat v'
 soft:∀ b o,b<w.heap.size->w'.frozen? ⟨b,o,none⟩=w.frozen? ⟨b,o,none⟩
section
variable {S:Nat->Prop} {w w' w2:World}
theorem Mk.refl (S:Nat->Prop)(w:World):Mk S w w:=⟨rfl,rfl,rfl,Nat.le_refl _,fun _ _ _=>rfl,fun _ _ _ _ _ h=>h,fun _ _ v h f=>⟨v,h,f⟩,fun _ _ _=>rfl⟩
theorem Mk.trans (h:Mk S w w')(k:Mk S w' w2):Mk S w w2 where
 os:=k.os.trans h.os
 tape:=k.tape.trans h.tape
 output:=k.output.trans h.output
 size:=Nat.le_trans h.size k.size
 block b hb hs:=(k.block b (Nat.lt_of_lt_of_le hb h.size) hs).trans (h.block b hb hs)
 hdr b o a n c e:=k.hdr b o a n c (h.hdr b o a n c e)
 flat b o v e f:=by obtain⟨v',e',f'⟩:=h.flat b o v e f;exact k.flat b o v' e' f'
 soft b o hb:=(k.soft b o (Nat.lt_of_lt_of_le hb h.size)).trans (h.soft b o hb)
theorem Mk.of_below (h:Below w.heap.size w w'):Mk S w w' where
 os:=h.os
 tape:=h.tape
 output:=h.output
 size:=h.size
 block b hb _:=h.block b hb
 hdr b o a n c e:=by rw[h.cell (p:=⟨b,o,none⟩) (World.block_lt_of_cell? _ _ e)];exact e
 flat b o v e f:=⟨v,by rw[h.cell (p:=⟨b,o,none⟩) (World.block_lt_of_cell? _ _ e)];exact e,f⟩
 soft b o hb:=h.frozen (p:=⟨b,o,none⟩) hb
theorem Mk.set {b o:Nat}{v0:Value}(hs:S b)(h0:w.cell? ⟨b,o,none⟩=some v0)(f0:Flat v0)(v:Value)(fv:Flat v):Mk S w (w.setCell ⟨b,o,none⟩ v) where
 os:=rfl
 tape:=rfl
 output:=rfl
 size:=by simp[World.setCell]
 block b' _ hs':=Below.heap_setCell w _ v b' (fun e=>hs' (by rw[e];exact hs))
 hdr b' o' a n c e:=by
  have hne:(⟨b,o,none⟩:Addr)≠⟨b',o',none⟩:=fun hh=>by
   rw[hh]at h0;rw[h0]at e;cases e;exact f0
  rw[World.cell?_setCell_other (h:=hne)];exact e
 flat b' o' x e fx:=by
  by_cases hh:(⟨b,o,none⟩:Addr)=⟨b',o',none⟩
  ·rw[<-hh];exact⟨v,World.cell?_setCell_same w _ v h0,fv⟩
  ·exact⟨x,by rw[World.cell?_setCell_other (h:=hh)];exact e,fx⟩
 soft b' o' _:=by rw[World.frozen?_setCell]
theorem Mk.below {B:Nat}(h:Mk S w w')(hS:∀ b,S b->B<=b)(hB:B<=w.heap.size):Below B w w':=
 ⟨h.os,h.tape,h.output,h.size,fun b hb=>h.block b (Nat.lt_of_lt_of_le hb hB) (fun hs=>by have:=hS b hs;omega)⟩
def FlatRow (w:World)(S:Nat->Prop)(a:Option Addr)(n:Nat):Prop:=
 0<n->∃ b off,a=some ⟨b,off,none⟩/\S b/\∀ j,j<n->∃ v,w.cell? ⟨b,off+j,none⟩=some v/\Flat v
theorem FlatRow.mk {a:Option Addr}{n:Nat}(h:FlatRow w S a n)(k:Mk S w w'):FlatRow w' S a n:=fun hn=>by
 obtain⟨b,off,e,hs,hc⟩:=h hn;exact⟨b,off,e,hs,fun j hj=>by obtain⟨v,e1,e2⟩:=hc j hj;exact k.flat _ _ v e1 e2⟩
def Soft (w:World)(S:Nat->Prop):Prop:=∀ b,S b->b<w.heap.size/\∀ o,w.frozen? ⟨b,o,none⟩=false
theorem Soft.mk (h:Soft w S)(k:Mk S w w'):Soft w' S:=fun b hb=>⟨Nat.lt_of_lt_of_le (h b hb).1 k.size,fun o=>(k.soft b o (h b hb).1).trans ((h b hb).2 o)⟩
end
theorem markIntS_any (a:Option Addr)(n c:Nat)(k:Int)(S:Nat->Prop)(w:World)(hs:FlatRow w S a n)(hS:Soft w S)(h0:0<=k)(hk:k+n<=1000000000000) :
  Calls Tryz.prog 57 #[.slice a n c,.int .i64 k] w fun e w'=>e=.returned (.int .i64 (k+n))/\Mk S w w':=by
 go_enter Tryz.func57,Tryz.ntmps57;go_wp2_with fail
 go_loopw [1,5] (fun q i wr=>∃(j:Nat),j<=n/\q=.int .i64 (k+j)/\i=.int .i64 j/\Mk S w wr) (fun _ i _=>n-(intOf i).toNat)
 case atStart=>exact⟨0,Nat.zero_le _,by simp,rfl,Mk.refl _ _⟩
 case round=>
  obtain⟨j,hj,rfl,rfl,hm⟩:=hrel;by_cases hlt:j<n
  ·obtain⟨b,off,rfl,hb,hcc⟩:=(hs.mk hm) (by omega);obtain⟨v0,hc,f0⟩:=hcc j hlt;have hf:=((hS.mk hm) b hb).2 (off+j);clear hcc;go_wp2_with fail
   go_roundw
   case rel=>exact⟨j+1,by omega,by go_num,by go_num,hm.trans (Mk.set hb hc f0 _ trivial)⟩
   case measure=>simp[intOf];omega
  ·have HK:Hid (j=n):=by show _=_;omega
   go_wp2_with fail
   go_ret;rw[HK.out];exact⟨rfl,hm⟩
theorem markText_any (k:Int)(w:World)(hk:k<=1000000000000) :
  Calls Tryz.prog 30 #[.int .i64 k] w fun e w'=>∃ s,e=.returned (.string s)/\Below w.heap.size w w':=by
 by_cases h0:k<=0
 ·go_enter Tryz.func30,Tryz.ntmps30;go_wp2_with fail
  go_ret;exact⟨_,rfl,Below.refl _ _⟩
 obtain⟨n,rfl⟩:∃ n:Nat,k=n:=⟨k.toNat,by omega⟩;go_enter Tryz.func30,Tryz.ntmps30;go_wp2_with fail
 go_loopw [0,3] (fun q s wr=>∃(m d:Nat) (t:ByteArray),q=.int .i64 m/\s=.string t/\m<10 ^ d/\m<=1000000000000/\d+t.size<=20/\Below w.heap.size w wr) (fun q _ _=>(intOf q).toNat)
 case atStart=>exact⟨n,20,ByteArray.empty,rfl,rfl,by omega,by omega,by simp,Below.refl _ _⟩
 case round=>
  obtain⟨m,d,t,rfl,rfl,hm,hmb,hd,hb⟩:=hrel;by_cases hlt:0<m
  ·have hcv:(convert 92 9 (.slice (some ⟨wr.heap.size,0,none⟩) 1 1)).run Tryz.prog (wr.alloc (.cells #[.int .u8 (48+(m:Int) % 10)] 5))=.ok (.string ⟨[UInt8.ofNat (48+m % 10)].toArray⟩) (wr.alloc (.cells #[.int .u8 (48+(m:Int) % 10)] 5)):=by
    refine run_convert_bytes_back (P:=Tryz.prog) _ 92 9 5 ⟨wr.heap.size,0,none⟩ 1 [UInt8.ofNat (48+m % 10)] Tryz.underlying92 Tryz.underlying5 Tryz.underlying9 fun j hj=>?_;obtain rfl:j=0:=by simp at hj;omega
    have e:((UInt8.ofNat (48+m % 10)).toNat:Int)=48+(m:Int) % 10:=by
     rw[UInt8.toNat_ofNat'];omega
    simp[Addr.add,go_sem];omega
   have hsz:(⟨[UInt8.ofNat (48+m % 10)].toArray⟩:ByteArray).size=1:=rfl;generalize (⟨[UInt8.ofNat (48+m % 10)].toArray⟩:ByteArray)=t1 at hcv hsz;have HS:Hid (t1.size=1):=hsz;have hcat:¬(9223372036854775807<t1.size+t.size):=by omega
   clear hsz;go_wp2_with fail
   go_roundw
   case rel=>
    have hs:=HS.out;refine⟨m / 10,d-1,t1++t,by go_num,rfl,?_,by omega,?_,hb.alloc hb.size _⟩
    ·cases d with
     | zero=>simp at hm;omega
     | succ d=>rw[Nat.pow_succ]at hm;simp;omega
    ·have:0<d:=by
      rcases Nat.eq_zero_or_pos d with e | e
      ·subst e;simp at hm;omega
      ·exact e
     rw[ByteArray.size_append];omega
   case measure=>simp[intOf];omega
  ·have hcat:¬(9223372036854775807<1+t.size):=by omega
   go_wp2_with fail
   go_ret;exact⟨_,rfl,hb⟩
theorem markStringS_any (a:Option Addr)(n c:Nat)(k:Int)(S:Nat->Prop)(w:World)(hs:FlatRow w S a n)(hS:Soft w S)(h0:0<=k)(hk:k+n<=1000000000000) :
  Calls Tryz.prog 31 #[.slice a n c,.int .i64 k] w fun e w'=>e=.returned (.int .i64 (k+n))/\Mk S w w':=by
 go_enter Tryz.func31,Tryz.ntmps31;go_wp2_with fail
 go_loopw [1,5] (fun q i wr=>∃(j:Nat),j<=n/\q=.int .i64 (k+j)/\i=.int .i64 j/\Mk S w wr) (fun _ i _=>n-(intOf i).toNat)
 case atStart=>exact⟨0,Nat.zero_le _,by simp,rfl,Mk.refl _ _⟩
 case round=>
  obtain⟨j,hj,rfl,rfl,hm⟩:=hrel;by_cases hlt:j<n
  ·have HM:=hide hm;have HB:Hid (k+j<=1000000000000):=by show _<=_;omega
   go_wp2_with fail
   refine(markText_any _ _ HB.out).mono ?_;rintro e w1 ⟨s,rfl,hb1⟩;have hm1:Mk S w w1:=HM.out.trans (Mk.of_below hb1);clear hm hb1;obtain⟨b,off,rfl,hb,hcc⟩:=(hs.mk hm1) (by omega);obtain⟨v0,hc,f0⟩:=hcc j hlt;have hf:=((hS.mk hm1) b hb).2 (off+j);clear hcc;go_wp2_with fail
   go_roundw
   case rel=>exact⟨j+1,by omega,by go_num,by go_num,hm1.trans (Mk.set hb hc f0 _ trivial)⟩
   case measure=>simp[intOf];omega
  ·have HK:Hid (j=n):=by show _=_;omega
   go_wp2_with fail
   go_ret;rw[HK.out];exact⟨rfl,hm⟩
theorem markUpS_any (a:Option Addr)(n c:Nat)(k:Int)(S:Nat->Prop)(w:World)(hs:FlatRow w S a (n * 2))(hS:Soft w S)(h0:0<=k)(hk:k+2 * n<=1000000000000) :
  Calls Tryz.prog 32 #[.slice a n c,.int .i64 k] w fun e w'=>e=.returned (.int .i64 (k+2 * n))/\Mk S w w':=by
 go_enter Tryz.func32,Tryz.ntmps32;go_wp2_with fail
 go_loopw [1,5] (fun q i wr=>∃(j:Nat),j<=n/\q=.int .i64 (k+2 * j)/\i=.int .i64 j/\Mk S w wr) (fun _ i _=>n-(intOf i).toNat)
 case atStart=>exact⟨0,Nat.zero_le _,by simp,rfl,Mk.refl _ _⟩
 case round=>
  obtain⟨j,hj,rfl,rfl,hm⟩:=hrel;by_cases hlt:j<n
  ·obtain⟨b,off,rfl,hb,hcc⟩:=(hs.mk hm) (by omega);obtain⟨v0,hc0,f0⟩:=hcc (j * 2) (by omega);obtain⟨v1,hc1,f1⟩:=hcc (j * 2+1) (by omega);rw[<-Nat.add_assoc]at hc1;have hf:=((hS.mk hm) b hb).2;clear hcc;go_wp2_with fail
   go_roundw
   case rel=>
    have m1:Mk S wr (wr.setCell ⟨b,off+j * 2,none⟩ (.bool (decide ((k+2 * (j:Int)) % 3=0)))):=Mk.set hb hc0 f0 _ trivial;obtain⟨v1',hc1',f1'⟩:=m1.flat _ _ _ hc1 f1;exact⟨j+1,by omega,by go_num,by go_num,hm.trans (m1.trans (Mk.set hb hc1' f1' _ trivial))⟩
   case measure=>simp[intOf];omega
  ·have HK:Hid (j=n):=by show _=_;omega
   go_wp2_with fail
   go_ret;rw[HK.out];exact⟨rfl,hm⟩
end Go.Proofs.YtofcbekoaghikaaGreatDoor
