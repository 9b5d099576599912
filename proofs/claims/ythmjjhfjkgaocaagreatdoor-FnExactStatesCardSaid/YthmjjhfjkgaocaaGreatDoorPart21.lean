import Derived.Test.YthmjjhfjkgaocaaGreatDoorPart20
set_option linter.unusedSimpArgs false
set_option linter.unusedVariables false
set_option maxHeartbeats 16000000
set_option maxRecDepth 100000
namespace Go.Proofs.YthmjjhfjkgaocaaGreatDoor
open Go.RowKit
attribute [local go_sem] run_store_float
def cFnC (x:ProtoD)(m:Nat→Nat):Nat→Nat→Nat
 | 0=>m
 | p+1=>if(inD x p).op=11 then(fun g=>cFnC x m p g+(if(inD x p).fb=(g:Int)then 1 else 0))else cFnC x m p
def cUptoC (l:List ProtoD):Nat→Nat→Nat
 | 0=>fun _=>0
 | f+1=>cFnC (prD l f) (cUptoC l f) (prD l f).ins.length
theorem cFnC_le (x:ProtoD)(m:Nat→Nat)(g:Nat):∀ p,cFnC x m p g≤m g+p
 | 0=>Nat.le_refl _
 | p+1=>by
  have h:=cFnC_le x m g p
  by_cases e:(inD x p).op=11
  ·have h2:cFnC x m (p+1) g=cFnC x m p g+(if(inD x p).fb=(g:Int)then 1 else 0):=by
    show(if _ then _ else _:Nat→Nat) g=_
    rw[if_pos e]
   rw[h2];split<;>omega
  ·have h2:cFnC x m (p+1) g=cFnC x m p g:=by
    show(if _ then _ else _:Nat→Nat) g=_
    rw[if_neg e]
   omega
theorem cUptoC_le (l:List ProtoD)(g:Nat):∀ f,f≤l.length→cUptoC l f g≤sumTo insLen l f
 | 0,_=>Nat.zero_le _
 | f+1,h=>by
  have h1:=cUptoC_le l g f (by omega)
  have h2:=cFnC_le (prD l f) (cUptoC l f) g (prD l f).ins.length
  have h3:sumTo insLen l (f+1)=sumTo insLen l f+(prD l f).ins.length:=sumTo_succ insLen l f ProtoD.z (by omega)
  show cFnC (prD l f) (cUptoC l f) (prD l f).ins.length g≤_
  omega
theorem cFnC_zero (x:ProtoD)(m:Nat→Nat)(m':Nat→Bool)(g:Nat)(h:m g=0↔m' g=false):∀ p,cFnC x m p g=0↔mkFnC x m' p g=false
 | 0=>h
 | p+1=>by
  have ih:=cFnC_zero x m m' g h p
  by_cases e:(inD x p).op=11
  ·have h2:cFnC x m (p+1) g=cFnC x m p g+(if(inD x p).fb=(g:Int)then 1 else 0):=by
    show(if _ then _ else _:Nat→Nat) g=_
    rw[if_pos e]
   have h3:mkFnC x m' (p+1) g=(mkFnC x m' p g||decide ((inD x p).fb=(g:Int))):=by
    show(if _ then _ else _:Nat→Bool) g=_
    rw[if_pos e]
   rw[h2,h3,Bool.or_eq_false_iff,←ih,decide_eq_false_iff_not]
   split<;>omega
  ·have h2:cFnC x m (p+1) g=cFnC x m p g:=by
    show(if _ then _ else _:Nat→Nat) g=_
    rw[if_neg e]
   have h3:mkFnC x m' (p+1) g=mkFnC x m' p g:=by
    show(if _ then _ else _:Nat→Bool) g=_
    rw[if_neg e]
   rw[h2,h3];exact ih
theorem cUptoC_zero (l:List ProtoD)(g:Nat):∀ f,cUptoC l f g=0↔mkUptoC l f g=false
 | 0=>⟨fun _=>rfl,fun _=>rfl⟩
 | f+1=>cFnC_zero (prD l f) (cUptoC l f) (mkUptoC l f) g (cUptoC_zero l g f) (prD l f).ins.length
def MadeSaid (l:List ProtoD)(c f n:Int):Prop:=
 (c=7∧n=0∧∃ F:Nat,f=F∧1≤F∧F<l.length∧mkUptoC l l.length F=false∧∀ g,1≤g→g<F→mkUptoC l l.length g=true) ∨
 (c=0∧f=0∧n=0∧∀ g,1≤g→g<l.length→mkUptoC l l.length g=true)
theorem checkFnsMade_any (a:Option Addr)(l:List ProtoD)(c:Nat)(S:Nat→Prop)(w:World)(hs:ProtosAt w S a l)(hB:∀ b,S b→b<w.heap.size)(hl:tProtos l≤1048576)(no5:NoC l (len5 l) (bad5 l)) :
  Calls Tryz.prog 77 #[.agg #[.slice a l.length c]] w fun e w'=>∃ x f n,e=.returned (.agg #[.int .i64 x,.int .i64 f,.int .i64 n])∧MadeSaid l x f n∧Below w.heap.size w w':=by
 have hn:=hs.1
 have hll:l.length≤1048576:=by unfold tProtos at hl;omega
 have HT:Hid (∀ k,sumTo insLen l k≤1048576):=sum_le l hl
 have HS:=hide hs
 have HB:=hide hB
 have NO5:=hide no5
 have hmk:=run_make_row' (P:=Tryz.prog) 54 3 (.int .i64 0) 8 Tryz.underlying54 (by kernel_rfl) rfl .i64 .i64 l.length (by omega) hn
 have W0:Hid (ShI w a l.length c (w.heap.size+1+1) (fun _=>0) ((box2 w a l.length c).alloc (.cells (madeCells #[.int .i64 0] l.length) 3))):=
  ⟨(Box2.start w a l.length c).alloc _,by
   have h:=World.rowIs_made (box2 w a l.length c) (.int .i64 0) l.length 3
   rw[box2_size]at h
   exact h,by omega⟩
 clear hs hB hl no5
 go_enter Tryz.func77,Tryz.ntmps77
 go_wp2_with fail
 clear hmk
 go_loopg [16] l.length (fun g i wr=>∃(k:Nat),k+g=l.length∧i=.int .i64 k∧ShI w a l.length c (w.heap.size+1+1) (cUptoC l k) wr)
 case atStart=>exact⟨0,by omega,rfl,unhide W0⟩
 case round=>
  clear W0
  obtain⟨f,hk,rfl,hW⟩:=hrel
  have u0:=hW.box.unit
  by_cases hlt:f<l.length
  ·have MKN:Hid (∀ p,(inD (prD l f) p).op≠11→∀ g,cFnC (prD l f) (cUptoC l f) (p+1) g=cFnC (prD l f) (cUptoC l f) p g):=fun p hp g=>by
    show(if _ then _ else _:Nat→Nat) g=_
    rw[if_neg hp]
   have MKS:Hid (∀ p,(inD (prD l f) p).op=11→∀ g:Nat,cFnC (prD l f) (cUptoC l f) (p+1) g=cFnC (prD l f) (cUptoC l f) p g+(if(inD (prD l f) p).fb=(g:Int)then 1 else 0)):=fun p hp g=>by
    show(if _ then _ else _:Nat→Nat) g=_
    rw[if_pos hp]
   have BND:Hid (∀ p g,p≤(prD l f).ins.length→cFnC (prD l f) (cUptoC l f) p g≤1048576):=fun p g hp=>by
    have h1:=cFnC_le (prD l f) (cUptoC l f) g p
    have h2:=cUptoC_le l g f (by omega)
    have h3:sumTo insLen l (f+1)=sumTo insLen l f+(prD l f).ins.length:=sumTo_succ insLen l f ProtoD.z hlt
    have h4:=unhide HT (f+1)
    omega
   have E4:Hid (cUptoC l (f+1)=cFnC (prD l f) (cUptoC l f) (prD l f).ins.length):=rfl
   have FB:Hid (∀ p,p<(prD l f).ins.length→(inD (prD l f) p).op=11→0≤(inD (prD l f) p).fb∧(inD (prD l f) p).fb<l.length):=fun p h1 h2=>ins_fb (unhide NO5) hlt h1 h2
   have hW:ShI w a l.length c (w.heap.size+1+1) (cFnC (prD l f) (cUptoC l f) 0) wr:=hW
   obtain⟨b,off,rfl,hb,hcc⟩:=((unhide HS).keep hW.box.old (unhide HB)).2 (by omega)
   have N:ProtoCells wr S b (off+f * 9) (prD l f):=hcc f hlt
   clear hcc
   obtain⟨x,hxe⟩:∃ x,x=prD l f:=⟨_,rfl⟩
   rw[←hxe]at N FB E4 MKN MKS hW BND
   clear hxe
   generalize cFnC x (cUptoC l f)=MK at *
   obtain⟨a5,c5,h5,H5⟩:=N.ups
   obtain⟨a6,c6,h6,H6⟩:=N.consts
   obtain⟨a7,c7,h7,H7⟩:=N.ins
   obtain⟨a8,c8,h8,H8⟩:=N.named
   have c0:=N.name;have c1:=N.line;have c2:=N.params;have c3:=N.rest;have c4:=N.regs
   have VV:=hide H7
   have hil:=H7.1
   clear N H5 H6 H7 H8
   obtain⟨nm,ln,pr,rs,rg,us,cs,is,ns⟩:=x
   simp only at *
   obtain⟨wo,rfl⟩:∃ wo,wo=wr:=⟨wr,rfl⟩
   have HW0:=hide (hW.alloc (.cells #[.string nm,.int .i64 ln,.int .i64 pr,.bool rs,.int .i64 rg,.slice a5 us.length c5,.slice a6 cs.length c6,.slice a7 is.length c7,.slice a8 ns.length c8] 53))
   have hwos:=hW.box.old.size
   clear hW
   go_wp2_with fail
   clear h5 h6 h7 h8 c0 c1 c2 c3 c4 u0
   go_loopg [23] is.length (fun g i wr=>∃(k:Nat),k+g=is.length∧i=.int .i64 k∧ShI w (some ⟨b,off,none⟩) l.length c (w.heap.size+1+1) (MK k) wr∧Below w.heap.size wo wr)
   case atStart=>exact⟨0,by omega,rfl,unhide HW0,(Below.refl _ _).alloc hwos _⟩
   case round=>
    clear HW0
    obtain⟨q,hq,rfl,hW,hbo⟩:=hrel
    by_cases hql:q<is.length
    ·obtain⟨bi,offi,rfl,hbi,hci⟩:=((unhide VV).keep hbo (fun b h=>unhide HB b h)).2 (by omega)
     have M:=hci q hql
     clear hci
     have NQ:=unhide MKN q
     have SQ:=unhide MKS q
     have FQ:=unhide FB q hql
     obtain⟨y,hye⟩:∃ y,y=is[q]?.getD InsD.z:=⟨_,rfl⟩
     have hyi:inD ⟨nm,ln,pr,rs,rg,us,cs,is,ns⟩ q=y:=by rw[hye];rfl
     rw[hyi]at NQ SQ FQ
     rw[←hye]at M
     clear hye hyi
     have d0:=M.op;have d1:=M.fa;have d2:=M.fb;have d3:=M.fc;have d4:=M.fd
     clear M
     have HNQ:=hide NQ;have HSQ:=hide SQ;have HFQ:=hide FQ
     clear NQ SQ FQ
     obtain⟨yop,ya,yb,yc,yd⟩:=y
     simp only at *
     have hW1:=hW.alloc (.cells #[.int .i64 yop,.int .i64 ya,.int .i64 yb,.int .i64 yc,.int .i64 yd] 78)
     have HBO1:=hide (hbo.alloc (Nat.le_trans hwos hbo.size) (.cells #[.int .i64 yop,.int .i64 ya,.int .i64 yb,.int .i64 yc,.int .i64 yd] 78))
     have HW1:=hide hW1
     have hsz:=hW.box.size
     by_cases hop:yop=11
     ·subst hop
      obtain⟨hf0,hf1⟩:=unhide HFQ rfl
      obtain⟨g,rfl⟩:=Int.eq_ofNat_of_zero_le hf0
      have hgl:g<l.length:=by omega
      have ck:=hW.row.cell (i:=g) hgl
      have zk:=hW.row.frozen g
      have hdl:=hW.row.lt
      have hbd:=unhide BND q g (by omega)
      obtain⟨V,hV⟩:∃ V,V=MK q g:=⟨_,rfl⟩
      have HV:=hide hV
      have HWr:=hide hW
      have HBOr:=hide hbo
      have hws:=hbo.size
      rw[←hV]at ck hbd
      clear hW hW1 hbo hV
      go_wp2_with fail
      go_roundg (is.length-(q+1))
      case measure=>omega
      case rel=>exact⟨q+1,by omega,by go_num,((unhide HWr).set (m':=MK (q+1)) g ((V:Int)+1) (fun i hi=>by
        rw[unhide HSQ (by first | rfl | trivial) i]
        by_cases e:i=g
        ·subst e;rw[if_pos rfl,if_pos rfl,HV.out];omega
        ·rw[if_neg e,if_neg (by omega)];omega)).alloc _,((unhide HBOr).setCell (show w.heap.size≤w.heap.size+1+1 by omega) _).alloc (by simp;omega) _⟩
     ·have hopb:(yop==11)=false:=beq_eq_false_iff_ne.2 hop
      have HWN:Hid (ShI w (some ⟨b,off,none⟩) l.length c (w.heap.size+1+1) (MK (q+1)) (wr.alloc (.cells #[.int .i64 yop,.int .i64 ya,.int .i64 yb,.int .i64 yc,.int .i64 yd] 78))):=hW1.congr fun i _=>unhide HNQ hop i
      clear hW hW1 hbo hop
      go_wp2_with fail
      go_roundg (is.length-(q+1))
      case measure=>omega
      case rel=>exact⟨q+1,by omega,by go_num,unhide HWN,unhide HBO1⟩
    ·have hqe:q=is.length:=by omega
     have HW2:Hid (ShI w (some ⟨b,off,none⟩) l.length c (w.heap.size+1+1) (cUptoC l (f+1)) wr):=by
      show ShI _ _ _ _ _ _ _
      rw[E4.out]
      show ShI _ _ _ _ _ (MK is.length) _
      rw[←hqe];exact hW
     clear hW hbo hqe
     go_wp2_with fail
     go_roundg (l.length-(f+1))
     case measure=>omega
     case rel=>exact⟨f+1,by omega,by go_num,unhide HW2⟩
  ·have hfe:f=l.length:=by omega
   have HWF:Hid (ShI w a l.length c (w.heap.size+1+1) (cUptoC l l.length) wr):=by
    have h2:cUptoC l l.length=cUptoC l f:=by rw[hfe]
    show ShI _ _ _ _ _ _ _
    rw[h2];exact hW
   clear hW hfe
   go_wp2_with fail
   clear u0
   go_loopg [8] l.length (fun g i wr=>∃(k:Nat),1≤k∧k+g=l.length+1∧i=.int .i64 k∧ShI w a l.length c (w.heap.size+1+1) (cUptoC l l.length) wr∧Hid (∀ q,1≤q→q<k→mkUptoC l l.length q=true))
   case atStart=>exact⟨1,by omega,by omega,rfl,unhide HWF,fun q h1 h2=>by omega⟩
   case round=>
    clear HWF
    obtain⟨k,hk1,hkg,rfl,hW,hok⟩:=hrel
    by_cases hkl:k<l.length
    ·have mc:=hW.row.cell hkl
     have HZ:=hide (cUptoC_zero l k l.length)
     have HBN:=hide (cUptoC_le l k l.length (Nat.le_refl _))
     have hbd:=unhide HT l.length
     obtain⟨V,hV⟩:∃ V,V=cUptoC l l.length k:=⟨_,rfl⟩
     rw[←hV]at mc HZ HBN
     clear hV
     have hdl:=hW.row.lt
     by_cases hV0:V=0
     ·have RR:Hid (MadeSaid l 7 k 0):=.inl ⟨rfl,rfl,k,rfl,hk1,hkl,HZ.out.1 hV0,hok.out⟩
      have e0:((V:Int)==0)=true:=by simp;omega
      have hx2:=hW.box
      obtain⟨w2,rfl⟩:∃ w2,w2=wr:=⟨wr,rfl⟩
      clear hV0 HZ HBN hok hW
      have r0:=hx2.res 0 (by omega);have r1:=hx2.res 1 (by omega);have r2:=hx2.res 2 (by omega)
      have z0:=hx2.frozen 0;have z1:=hx2.frozen 1;have z2:=hx2.frozen 2
      have BB:Hid (∀ v0 v1 v2,Below w.heap.size w (((w2.setCell ⟨w.heap.size+1,0,none⟩ v0).setCell ⟨w.heap.size+1,1,none⟩ v1).setCell ⟨w.heap.size+1,2,none⟩ v2)):=fun v0 v1 v2=>box2_set3 hx2 v0 v1 v2
      go_wp2_with fail
      exact bodyPost_ret (v:=.agg #[.int .i64 7,.int .i64 k,.int .i64 0]) (by simp[results,Tryz.results77,go_sem,r0,r1,r2]) rfl ⟨7,k,0,rfl,unhide RR,BB.out _ _ _⟩
     ·have RR:Hid (∀ q,1≤q→q<k+1→mkUptoC l l.length q=true):=fun q h1 h2=>by
       by_cases e:q=k
       ·subst e
        cases hm:mkUptoC l l.length q
        ·exact absurd (HZ.out.2 hm) hV0
        ·rfl
       ·exact hok.out q h1 (by omega)
      have e0:((V:Int)==0)=false:=beq_eq_false_iff_ne.2 (by omega)
      have HWW:=hide hW
      clear hV0 HZ HBN hok hW
      go_wp2_with fail
      go_roundg (l.length-k)
      case measure=>omega
      case rel=>exact⟨k+1,by omega,by omega,by go_num,unhide HWW,RR⟩
    ·have RR:Hid (MadeSaid l 0 0 0):=.inr ⟨rfl,rfl,rfl,fun g h1 h2=>hok.out g h1 (by omega)⟩
     have hx2:=hW.box
     obtain⟨w2,rfl⟩:∃ w2,w2=wr:=⟨wr,rfl⟩
     clear hok hW
     have r0:=hx2.res 0 (by omega);have r1:=hx2.res 1 (by omega);have r2:=hx2.res 2 (by omega)
     have z0:=hx2.frozen 0;have z1:=hx2.frozen 1;have z2:=hx2.frozen 2
     have BB:Hid (∀ v0 v1 v2,Below w.heap.size w (((w2.setCell ⟨w.heap.size+1,0,none⟩ v0).setCell ⟨w.heap.size+1,1,none⟩ v1).setCell ⟨w.heap.size+1,2,none⟩ v2)):=fun v0 v1 v2=>box2_set3 hx2 v0 v1 v2
     go_wp2_with fail
     exact bodyPost_ret (v:=.agg #[.int .i64 0,.int .i64 0,.int .i64 0]) (by simp[results,Tryz.results77,go_sem,r0,r1,r2]) rfl ⟨0,0,0,rfl,unhide RR,BB.out _ _ _⟩
end Go.Proofs.YthmjjhfjkgaocaaGreatDoor
