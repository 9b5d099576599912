import Derived.Test.YthmjjhfjkgaocaaGreatDoorPart11
set_option linter.unusedSimpArgs false
set_option linter.unusedVariables false
set_option maxHeartbeats 16000000
set_option maxRecDepth 100000
namespace Go.Proofs.YthmjjhfjkgaocaaGreatDoor
open Go.RowKit
def inD (x:ProtoD)(p:Nat):InsD:=x.ins[p]?.getD InsD.z
def mkFnC (x:ProtoD)(m:Nat→Bool):Nat→Nat→Bool
 | 0=>m
 | p+1=>if(inD x p).op=11 then(fun g=>mkFnC x m p g||decide ((inD x p).fb=(g:Int)))else mkFnC x m p
def mkUptoC (l:List ProtoD):Nat→Nat→Bool
 | 0=>fun _=>false
 | f+1=>mkFnC (prD l f) (mkUptoC l f) (prD l f).ins.length
def len6 (l:List ProtoD)(f:Nat):Nat:=(prD l f).ins.length
def bad6 (l:List ProtoD)(f p:Nat):Bool:=
 (inD (prD l f) p).op==11&&(decide ((inD (prD l f) p).fb≤f)||mkFnC (prD l f) (mkUptoC l f) p (inD (prD l f) p).fb.toNat || !sUpsC (prD l f) (prD l (inD (prD l f) p).fb.toNat).ups)
def ShapeSaid (l:List ProtoD)(c f n:Int):Prop:=
 (PartsSaid l c f n∧c≠0) ∨
 (PartsSaid l 0 0 0∧c=6∧∃ F P:Nat,f=F∧n=P∧FirstC l (len6 l) (bad6 l) F P) ∨
 (PartsSaid l 0 0 0∧NoC l (len6 l) (bad6 l)∧c=7∧n=0∧∃ F:Nat,f=F∧1≤F∧F<l.length∧mkUptoC l l.length F=false∧∀ g,1≤g→g<F→mkUptoC l l.length g=true) ∨
 (PartsSaid l 0 0 0∧NoC l (len6 l) (bad6 l)∧c=0∧f=0∧n=0∧∀ g,1≤g→g<l.length→mkUptoC l l.length g=true)
theorem parts_ok {l:List ProtoD}{f n:Int}(h:PartsSaid l 0 f n):¬sizeBadC l∧HeadsC l∧NoC l (len5 l) (bad5 l)∧f=0∧n=0:=by
 rcases h with⟨_,h,_⟩ | ⟨_,h,_⟩ | ⟨_,_,h,_⟩ | ⟨_,_,_,h,_⟩ | ⟨_,_,_,_,h,_⟩ | ⟨h1,h2,_,_,h5,_,hf,hn⟩
 ·exact absurd h (by decide)
 ·exact absurd h (by decide)
 ·exact absurd h (by decide)
 ·exact absurd h (by decide)
 ·exact absurd h (by decide)
 ·exact⟨h1,h2,h5,hf,hn⟩
theorem ins_fb {l:List ProtoD}(h:NoC l (len5 l) (bad5 l)){f p:Nat}(hf:f<l.length)(hp:p<(prD l f).ins.length)(hop:(inD (prD l f) p).op=11):0≤(inD (prD l f) p).fb∧(inD (prD l f) p).fb<l.length:=by
 have h1:=h f p hf (by unfold len5;rw[if_neg (by omega)];exact hp)
 unfold bad5 at h1
 rw[if_neg (by omega),Bool.not_eq_false']at h1
 unfold sInsOk at h1
 have e:((prD l f).ins[p]?.getD InsD.z).op=11:=hop
 rw[e,show rolesC 11=some [1,9,0,0]from by decide]at h1
 simp only[Bool.and_eq_true]at h1
 have h2:sIn (inD (prD l f) p).fb 0 ((l.length:Int)-1)=true:=h1.1.1.1.2
 have:=sIn_true h2
 omega
structure ShW (w:World)(a:Option Addr)(nl c D:Nat)(m:Nat→Bool)(wr:World):Prop where
 box:Box2 w a nl c wr
 row:wr.rowIs D 4 nl (fun j=>.bool (m j))
 n0:w.heap.size+2≤D
section
variable {w:World} {a:Option Addr} {nl c D:Nat} {m m':Nat→Bool} {wr w2:World}
theorem ShW.below (h:ShW w a nl c D m wr)(hb:Below wr.heap.size wr w2):ShW w a nl c D m w2:=⟨h.box.below' hb,h.row.of_block (hb.block _ h.row.lt),h.n0⟩
theorem ShW.alloc (h:ShW w a nl c D m wr)(o:Obj):ShW w a nl c D m (wr.alloc o):=h.below ((Below.refl _ _).alloc (Nat.le_refl _) o)
theorem ShW.set (h:ShW w a nl c D m wr)(j:Nat)(hm:∀ i,i<nl→m' i=(m i||decide (i=j))):ShW w a nl c D m' (wr.setCell ⟨D,j,none⟩ (.bool true)) where
 box:=⟨h.box.below.setCell h.n0 _⟩
 row:=(h.row.set j _).congr fun i hi=>by
  rw[hm i hi]
  by_cases e:i=j
  ·rw[if_pos e];simp[e]
  ·rw[if_neg e];simp[e]
 n0:=h.n0
end
theorem checkShape_spec (a:Option Addr)(l:List ProtoD)(c:Nat)(S:Nat→Prop)(w:World)(hs:ProtosAt w S a l)(hB:∀ b,S b→b<w.heap.size)(hl:tProtos l≤1048576) :
  Calls Tryz.prog 29 #[.agg #[.slice a l.length c]] w fun e w'=>∃ x f n,e=.returned (.agg #[.int .i64 x,.int .i64 f,.int .i64 n])∧ShapeSaid l x f n∧Below w.heap.size w w':=by
 have hn:=hs.1
 have hll:l.length≤1048576:=by unfold tProtos at hl;omega
 have HS:=hide hs
 have HB:=hide hB
 have X0:Hid (Box2 w a l.length c (box2 w a l.length c)):=Box2.start w a l.length c
 have PA:=hide (l6parts_any a l c S (box2 w a l.length c) (hs.keep (box2_below w a l.length c) hB) (fun b h=>Nat.lt_of_lt_of_le (hB b h) (box2_below w a l.length c).size) hl)
 have hmk:=run_make_row' (P:=Tryz.prog) 74 4 (.bool false) 1 Tryz.underlying74 (by kernel_rfl) rfl .i64 .i64 l.length (by omega) hn
 clear hs hB hl
 go_enter Tryz.func29,Tryz.ntmps29
 go_wp2_with fail
 refine(unhide PA).mono ?_
 rintro e w1 ⟨x,f,n,rfl,hsaid,hb1⟩
 have hx1:=(unhide X0).below' hb1
 have HX1:=hide (hx1.alloc (.cells #[.int .i64 x,.int .i64 f,.int .i64 n] 39))
 have hs1:=hx1.size
 clear hb1 PA X0
 by_cases h0:x=0
 case neg=>
  have h0b:(x != 0)=true:=by simpa using h0
  have SD:Hid (ShapeSaid l x f n):=.inl ⟨hsaid,h0⟩
  have hx2:=unhide HX1
  have r0:=hx2.res 0 (by omega);have r1:=hx2.res 1 (by omega);have r2:=hx2.res 2 (by omega)
  have z0:=hx2.frozen 0;have z1:=hx2.frozen 1;have z2:=hx2.frozen 2
  have s0:=hx1.res 0 (by omega);have s1:=hx1.res 1 (by omega);have s2:=hx1.res 2 (by omega)
  have y0:=hx1.frozen 0;have y1:=hx1.frozen 1;have y2:=hx1.frozen 2
  have hw1:w.heap.size+1<w1.heap.size:=by omega
  have hw2:w.heap.size+1<w1.heap.size+1:=by omega
  have BB:Hid (∀ v0 v1 v2,Below w.heap.size w ((((w1.alloc (.cells #[.int .i64 x,.int .i64 f,.int .i64 n] 39)).setCell ⟨w.heap.size+1,0,none⟩ v0).setCell ⟨w.heap.size+1,1,none⟩ v1).setCell ⟨w.heap.size+1,2,none⟩ v2)):=fun v0 v1 v2=>box2_set3 hx2 v0 v1 v2
  have BB2:Hid (∀ o v0 v1 v2,Below w.heap.size w ((((w1.setCell ⟨w.heap.size+1,0,none⟩ v0).setCell ⟨w.heap.size+1,1,none⟩ v1).setCell ⟨w.heap.size+1,2,none⟩ v2).alloc o)):=fun o v0 v1 v2=>(box2_set3 hx1 v0 v1 v2).alloc (by simp;omega) o
  clear hsaid h0 hx2 hx1 HX1
  go_wp2_with fail
  refine bodyPost_ret (v:=.agg #[.int .i64 x,.int .i64 f,.int .i64 n]) (by simp[results,Tryz.results29,go_sem,r0,r1,r2,s0,s1,s2,hw1,hw2]) rfl ⟨x,f,n,rfl,SD.out,?_⟩
  first | exact BB.out _ _ _ | exact BB2.out _ _ _ _
 subst h0
 obtain⟨hg1,hg2,hg3,hf0,hn0⟩:=parts_ok hsaid
 subst hf0 hn0
 have PS:=hide hsaid
 have HEADS:=hide hg2
 have NO5:=hide hg3
 have hnb:1≤l.length:=Nat.pos_of_ne_zero (fun h=>hg1 (.inl h))
 have u1:=(unhide HX1).unit
 have hcw:w.heap.size<w1.heap.size:=by omega
 have uw:=hx1.unit
 have W0:Hid (ShW w a l.length c (w1.heap.size+1) (fun _=>false) ((w1.alloc (.cells #[.int .i64 0,.int .i64 0,.int .i64 0] 39)).alloc (.cells (madeCells #[.bool false] l.length) 4))):=
  ⟨(unhide HX1).alloc _,by
   have h:=World.rowIs_made (w1.alloc (.cells #[.int .i64 0,.int .i64 0,.int .i64 0] 39)) (.bool false) l.length 4
   simpa using h,by omega⟩
 clear hsaid hg1 hg2 hg3 hx1
 go_wp2_with fail
 clear u1 uw hmk
 go_loopg [23] l.length (fun g i wr=>∃(k:Nat),k+g=l.length∧i=.int .i64 k∧ShW w a l.length c (w1.heap.size+1) (mkUptoC l k) wr∧Hid (∀ f' p',f'<k→p'<len6 l f'→bad6 l f' p'=false))
 case atStart=>exact⟨0,by omega,rfl,unhide W0,fun _ _ h=>absurd h (Nat.not_lt_zero _)⟩
 case round=>
  clear W0 HX1
  obtain⟨f,hk,rfl,hW,hgood⟩:=hrel
  have u0:=hW.box.unit
  by_cases hlt:f<l.length
  ·have HRG:=hide (head_regs (unhide HEADS f hlt))
   have MKN:Hid (∀ p,(inD (prD l f) p).op≠11→∀ g,mkFnC (prD l f) (mkUptoC l f) (p+1) g=mkFnC (prD l f) (mkUptoC l f) p g):=fun p hp g=>by
    show(if _ then _ else _:Nat→Bool) g=_
    rw[if_neg hp]
   have MKS:Hid (∀ p,(inD (prD l f) p).op=11→∀ g:Nat,mkFnC (prD l f) (mkUptoC l f) (p+1) g=(mkFnC (prD l f) (mkUptoC l f) p g||decide ((inD (prD l f) p).fb=(g:Int)))):=fun p hp g=>by
    show(if _ then _ else _:Nat→Bool) g=_
    rw[if_pos hp]
   have E4:Hid (mkUptoC l (f+1)=mkFnC (prD l f) (mkUptoC l f) (prD l f).ins.length):=rfl
   have LEN:Hid (len6 l f=(prD l f).ins.length):=rfl
   have BAD:Hid (∀ p,bad6 l f p=((inD (prD l f) p).op==11&&(decide ((inD (prD l f) p).fb≤f)||mkFnC (prD l f) (mkUptoC l f) p (inD (prD l f) p).fb.toNat || !sUpsC (prD l f) (prD l (inD (prD l f) p).fb.toNat).ups))):=fun _=>rfl
   have FB:Hid (∀ p,p<(prD l f).ins.length→(inD (prD l f) p).op=11→0≤(inD (prD l f) p).fb∧(inD (prD l f) p).fb<l.length):=fun p h1 h2=>ins_fb (unhide NO5) hlt h1 h2
   obtain⟨UPS,hUPS⟩:∃ U:Nat→Bool,∀ g,sUpsC (prD l f) (prD l g).ups=U g:=⟨fun g=>sUpsC (prD l f) (prD l g).ups,fun _=>rfl⟩
   have CU:Hid (∀(W:World) (g:Nat),Below w.heap.size w W→g<l.length→Calls Tryz.prog 61 #[.agg #[.slice a l.length c],.int .i64 f,.int .i64 g] W fun e w'=>e=.returned (.bool (UPS g))∧Below W.heap.size W w'):=fun W g hW2 hg=>by
    rw[←hUPS g]
    exact l6upsOk_any a l c f g S W ((unhide HS).keep hW2 (unhide HB)) (fun b h=>Nat.lt_of_lt_of_le (unhide HB b h) hW2.size) hlt hg (unhide HRG)
   simp only[hUPS]at BAD
   clear hUPS
   have hW:ShW w a l.length c (w1.heap.size+1) (mkFnC (prD l f) (mkUptoC l f) 0) wr:=hW
   obtain⟨b,off,rfl,hb,hcc⟩:=((unhide HS).keep hW.box.old (unhide HB)).2 (by omega)
   have N:ProtoCells wr S b (off+f * 9) (prD l f):=hcc f hlt
   clear hcc
   obtain⟨x,hxe⟩:∃ x,x=prD l f:=⟨_,rfl⟩
   rw[←hxe]at N BAD LEN FB E4 MKN MKS hW
   clear hxe HRG
   generalize mkFnC x (mkUptoC l f)=MK at *
   obtain⟨a5,c5,h5,H5⟩:=N.ups
   obtain⟨a6,c6,h6,H6⟩:=N.consts
   obtain⟨a7,c7,h7,H7⟩:=N.ins
   obtain⟨a8,c8,h8,H8⟩:=N.named
   have c0:=N.name;have c1:=N.line;have c2:=N.params;have c3:=N.rest;have c4:=N.regs
   have VV:=hide H7
   have hil:=H7.1
   clear N H5 H6 H7 H8
   have INE:Hid (∀ q,inD x q=x.ins[q]?.getD InsD.z):=fun _=>rfl
   obtain⟨nm,ln,pr,rs,rg,us,cs,is,ns⟩:=x
   simp only at *
   obtain⟨wo,rfl⟩:∃ wo,wo=wr:=⟨wr,rfl⟩
   have HW0:=hide (hW.alloc (.cells #[.string nm,.int .i64 ln,.int .i64 pr,.bool rs,.int .i64 rg,.slice a5 us.length c5,.slice a6 cs.length c6,.slice a7 is.length c7,.slice a8 ns.length c8] 53))
   have hwos:=hW.box.old.size
   have HWO:=hide hW.box.old
   clear hW
   go_wp2_with fail
   clear h5 h6 h7 h8 c0 c1 c2 c3 c4 u0
   go_loopg [31] is.length (fun g i wr=>∃(k:Nat),k+g=is.length∧i=.int .i64 k∧ShW w (some ⟨b,off,none⟩) l.length c (w1.heap.size+1) (MK k) wr∧Below w.heap.size wo wr∧Hid (∀ q,q<k→bad6 l f q=false))
   case atStart=>exact⟨0,by omega,rfl,unhide HW0,(Below.refl _ _).alloc hwos _,fun _ h=>absurd h (Nat.not_lt_zero _)⟩
   case round=>
    clear HW0
    obtain⟨q,hq,rfl,hW,hbo,hok⟩:=hrel
    by_cases hql:q<is.length
    ·obtain⟨bi,offi,rfl,hbi,hci⟩:=((unhide VV).keep hbo (unhide HB)).2 (by omega)
     have M:=hci q hql
     clear hci
     have BQ:=unhide BAD q
     have NQ:=unhide MKN q
     have SQ:=unhide MKS q
     have FQ:=unhide FB q hql
     obtain⟨y,hye⟩:∃ y,y=is[q]?.getD InsD.z:=⟨_,rfl⟩
     have hyi:inD ⟨nm,ln,pr,rs,rg,us,cs,is,ns⟩ q=y:=by rw[hye];rfl
     rw[hyi]at BQ NQ SQ FQ
     rw[←hye]at M
     clear hye hyi
     have d0:=M.op;have d1:=M.fa;have d2:=M.fb;have d3:=M.fc;have d4:=M.fd
     clear M
     have HBQ:=hide BQ;have HNQ:=hide NQ;have HSQ:=hide SQ;have HFQ:=hide FQ
     clear BQ NQ SQ FQ
     obtain⟨yop,ya,yb,yc,yd⟩:=y
     simp only at *
     have hW1:=hW.alloc (.cells #[.int .i64 yop,.int .i64 ya,.int .i64 yb,.int .i64 yc,.int .i64 yd] 78)
     have HBO1:=hide (hbo.alloc (Nat.le_trans hwos hbo.size) (.cells #[.int .i64 yop,.int .i64 ya,.int .i64 yb,.int .i64 yc,.int .i64 yd] 78))
     have HW1:=hide hW1
     have u0:=hW.box.unit
     have hsz:=hW.box.size
     have hcb:w.heap.size<wr.heap.size:=by omega
     by_cases hop:yop=11
     ·subst hop
      obtain⟨hf0,hf1⟩:=unhide HFQ rfl
      obtain⟨g,rfl⟩:=Int.eq_ofNat_of_zero_le hf0
      have hgl:g<l.length:=by omega
      have hBQ:bad6 l f q=(decide ((g:Int)≤f)||MK q g || !UPS g):=unhide HBQ
      by_cases hle:(g:Int)≤f
      ·have FI:Hid (FirstC l (len6 l) (bad6 l) f q):=rows_first hlt (by rw[LEN.out];exact hql) (by rw[hBQ,decide_eq_true hle];rfl) hgood.out hok.out
       clear hBQ hW hW1 hbo
       go_wp2_with fail
       refine(l6fault_any _ _ _ _).mono ?_
       rintro e w2 ⟨rfl,hb2⟩
       have hx2:=(unhide HW1).box.below' hb2
       have r0:=hx2.res 0 (by omega);have r1:=hx2.res 1 (by omega);have r2:=hx2.res 2 (by omega)
       have z0:=hx2.frozen 0;have z1:=hx2.frozen 1;have z2:=hx2.frozen 2
       have BB:Hid (∀ v0 v1 v2,Below w.heap.size w (((w2.setCell ⟨w.heap.size+1,0,none⟩ v0).setCell ⟨w.heap.size+1,1,none⟩ v1).setCell ⟨w.heap.size+1,2,none⟩ v2)):=fun v0 v1 v2=>box2_set3 hx2 v0 v1 v2
       go_wp2_with fail
       refine bodyPost_ret (v:=.agg #[.int .i64 6,.int .i64 f,.int .i64 q]) (by simp[results,Tryz.results29,go_sem,r0,r1,r2]) rfl ⟨6,f,q,rfl,?_,BB.out _ _ _⟩
       exact .inr (.inl ⟨unhide PS,rfl,f,q,rfl,rfl,unhide FI⟩)
      have ck:=hW.row.cell (i:=g) hgl
      have zk:=hW.row.frozen g
      have hdl:=hW.row.lt
      cases hm:MK q g
      case true=>
       have FI:Hid (FirstC l (len6 l) (bad6 l) f q):=rows_first hlt (by rw[LEN.out];exact hql) (by rw[hBQ,hm];simp) hgood.out hok.out
       rw[hm]at ck
       clear hBQ hW hW1 hbo hm
       go_wp2_with fail
       refine(l6fault_any _ _ _ _).mono ?_
       rintro e w2 ⟨rfl,hb2⟩
       have hx2:=(unhide HW1).box.below' hb2
       have r0:=hx2.res 0 (by omega);have r1:=hx2.res 1 (by omega);have r2:=hx2.res 2 (by omega)
       have z0:=hx2.frozen 0;have z1:=hx2.frozen 1;have z2:=hx2.frozen 2
       have BB:Hid (∀ v0 v1 v2,Below w.heap.size w (((w2.setCell ⟨w.heap.size+1,0,none⟩ v0).setCell ⟨w.heap.size+1,1,none⟩ v1).setCell ⟨w.heap.size+1,2,none⟩ v2)):=fun v0 v1 v2=>box2_set3 hx2 v0 v1 v2
       go_wp2_with fail
       refine bodyPost_ret (v:=.agg #[.int .i64 6,.int .i64 f,.int .i64 q]) (by simp[results,Tryz.results29,go_sem,r0,r1,r2]) rfl ⟨6,f,q,rfl,?_,BB.out _ _ _⟩
       exact .inr (.inl ⟨unhide PS,rfl,f,q,rfl,rfl,unhide FI⟩)
      rw[hm]at ck
      have CO:=hide (unhide CU (wr.alloc (.cells #[.int .i64 11,.int .i64 ya,.int .i64 g,.int .i64 yc,.int .i64 yd] 78)) g hW1.box.old hgl)
      cases hu:UPS g
      ·have FI:Hid (FirstC l (len6 l) (bad6 l) f q):=rows_first hlt (by rw[LEN.out];exact hql) (by rw[hBQ,hu];simp) hgood.out hok.out
       rw[hu]at CO
       clear hBQ hW hW1 hbo hm hu
       go_wp2_with fail
       refine(unhide CO).mono ?_
       rintro e w3 ⟨rfl,hb3⟩
       have hx3:=((unhide HW1).below hb3).box
       clear hb3
       go_wp2_with fail
       refine(l6fault_any _ _ _ _).mono ?_
       rintro e w2 ⟨rfl,hb2⟩
       have hx2:=hx3.below' hb2
       have r0:=hx2.res 0 (by omega);have r1:=hx2.res 1 (by omega);have r2:=hx2.res 2 (by omega)
       have z0:=hx2.frozen 0;have z1:=hx2.frozen 1;have z2:=hx2.frozen 2
       have BB:Hid (∀ v0 v1 v2,Below w.heap.size w (((w2.setCell ⟨w.heap.size+1,0,none⟩ v0).setCell ⟨w.heap.size+1,1,none⟩ v1).setCell ⟨w.heap.size+1,2,none⟩ v2)):=fun v0 v1 v2=>box2_set3 hx2 v0 v1 v2
       go_wp2_with fail
       refine bodyPost_ret (v:=.agg #[.int .i64 6,.int .i64 f,.int .i64 q]) (by simp[results,Tryz.results29,go_sem,r0,r1,r2]) rfl ⟨6,f,q,rfl,?_,BB.out _ _ _⟩
       exact .inr (.inl ⟨unhide PS,rfl,f,q,rfl,rfl,unhide FI⟩)
      ·have NX:Hid (∀ j,j<q+1→bad6 l f j=false):=upto_next hok.out (by rw[hBQ,hm,hu,decide_eq_false hle];rfl)
       rw[hu]at CO
       clear hBQ hW hW1 hbo hm hu
       go_wp2_with fail
       refine(unhide CO).mono ?_
       rintro e w3 ⟨rfl,hb3⟩
       have hW3:=(unhide HW1).below hb3
       have HBO3:=hide ((unhide HBO1).trans (hb3.mono (by simp;omega)))
       have i2:w3.cell? ⟨wr.heap.size,2,none⟩=some (.int .i64 (g:Int)):=by rw[hb3.cell (p:=⟨wr.heap.size,2,none⟩) (by simp)];simp[go_sem]
       have ck3:=hW3.row.cell (i:=g) hgl
       have zk3:=hW3.row.frozen g
       have HW3:=hide hW3
       clear hb3 hW3 ck zk
       go_wp2_with fail
       go_roundg (is.length-(q+1))
       case measure=>omega
       case rel=>
        refine⟨q+1,by omega,by go_num,(unhide HW3).set g fun i hi=>?_,(unhide HBO3).setCell (show w.heap.size≤w1.heap.size+1 by omega) _,NX⟩
        rw[unhide HSQ (by first | rfl | trivial) i]
        congr 1
        rw[decide_eq_decide]
        omega
     ·have hopb:(yop != 11)=true:=by simpa using hop
      have NX:Hid (∀ j,j<q+1→bad6 l f j=false):=upto_next hok.out (by rw[unhide HBQ,beq_eq_false_iff_ne.2 hop];rfl)
      have HWN:Hid (ShW w (some ⟨b,off,none⟩) l.length c (w1.heap.size+1) (MK (q+1)) (wr.alloc (.cells #[.int .i64 yop,.int .i64 ya,.int .i64 yb,.int .i64 yc,.int .i64 yd] 78))):=⟨hW1.box,hW1.row.congr fun i _=>by rw[unhide HNQ hop i],hW1.n0⟩
      clear hW hW1 hbo hop
      go_wp2_with fail
      go_roundg (is.length-(q+1))
      case measure=>omega
      case rel=>exact⟨q+1,by omega,by go_num,unhide HWN,unhide HBO1,NX⟩
    ·have NXF:Hid (∀ f' p',f'<f+1→p'<len6 l f'→bad6 l f' p'=false):=rows_next (l:=l) hgood.out (fun p hp=>hok.out p (by rw[LEN.out]at hp;have hp:p<is.length:=hp;omega))
     have hqe:q=is.length:=by omega
     have HW2:Hid (ShW w (some ⟨b,off,none⟩) l.length c (w1.heap.size+1) (mkUptoC l (f+1)) wr):=by
      show ShW _ _ _ _ _ _ _
      rw[E4.out]
      show ShW _ _ _ _ _ (MK is.length) _
      rw[←hqe];exact hW
     clear hW hbo hqe
     go_wp2_with fail
     go_roundg (l.length-(f+1))
     case measure=>omega
     case rel=>exact⟨f+1,by omega,by go_num,unhide HW2,NXF⟩
  ·have NO6:Hid (NoC l (len6 l) (bad6 l)):=fun f' p' h1 h2=>hgood.out f' p' (by omega) h2
   have hfe:f=l.length:=by omega
   have HWF:Hid (ShW w a l.length c (w1.heap.size+1) (mkUptoC l l.length) wr):=by
    have h2:mkUptoC l l.length=mkUptoC l f:=by rw[hfe]
    show ShW _ _ _ _ _ _ _
    rw[h2];exact hW
   clear hW hgood hfe
   go_wp2_with fail
   clear u0
   go_loopg [9] l.length (fun g i wr=>∃(k:Nat),1≤k∧k+g=l.length+1∧i=.int .i64 k∧ShW w a l.length c (w1.heap.size+1) (mkUptoC l l.length) wr∧Hid (∀ q,1≤q→q<k→mkUptoC l l.length q=true))
   case atStart=>exact⟨1,by omega,by omega,rfl,unhide HWF,fun q h1 h2=>by omega⟩
   case round=>
    clear HWF
    obtain⟨k,hk1,hkg,rfl,hW,hok⟩:=hrel
    have u0:=hW.box.unit
    by_cases hkl:k<l.length
    ·have mc:=hW.row.cell hkl
     cases hmk:mkUptoC l l.length k
     ·rw[hmk]at mc
      have HK:=hide hmk
      have hxx:=hW.box
      clear hmk
      go_wp2_with fail
      refine(l6fault_any _ _ _ _).mono ?_
      rintro e w2 ⟨rfl,hb2⟩
      have hx2:=hxx.below' hb2
      have r0:=hx2.res 0 (by omega);have r1:=hx2.res 1 (by omega);have r2:=hx2.res 2 (by omega)
      have z0:=hx2.frozen 0;have z1:=hx2.frozen 1;have z2:=hx2.frozen 2
      have BB:Hid (∀ v0 v1 v2,Below w.heap.size w (((w2.setCell ⟨w.heap.size+1,0,none⟩ v0).setCell ⟨w.heap.size+1,1,none⟩ v1).setCell ⟨w.heap.size+1,2,none⟩ v2)):=fun v0 v1 v2=>box2_set3 hx2 v0 v1 v2
      go_wp2_with fail
      refine bodyPost_ret (v:=.agg #[.int .i64 7,.int .i64 k,.int .i64 0]) (by simp[results,Tryz.results29,go_sem,r0,r1,r2]) rfl ⟨7,k,0,rfl,?_,BB.out _ _ _⟩
      exact .inr (.inr (.inl ⟨unhide PS,unhide NO6,rfl,rfl,k,rfl,hk1,hkl,unhide HK,hok.out⟩))
     ·rw[hmk]at mc
      have HK:=hide hmk
      clear hmk
      go_wp2_with fail
      go_roundg (l.length-k)
      case measure=>omega
      case rel=>
       refine⟨k+1,by omega,by omega,by go_num,hW,fun q h1 h2=>?_⟩
       by_cases e:q=k
       ·subst e;exact unhide HK
       ·exact hok.out q h1 (by omega)
    ·have HALL:Hid (∀ g,1≤g→g<l.length→mkUptoC l l.length g=true):=fun g h1 h2=>hok.out g h1 (by omega)
     have hx:=hW.box
     have r0:=hx.res 0 (by omega);have r1:=hx.res 1 (by omega);have r2:=hx.res 2 (by omega)
     have z0:=hx.frozen 0;have z1:=hx.frozen 1;have z2:=hx.frozen 2
     have BB:Hid (∀ v0 v1 v2,Below w.heap.size w (((wr.setCell ⟨w.heap.size+1,0,none⟩ v0).setCell ⟨w.heap.size+1,1,none⟩ v1).setCell ⟨w.heap.size+1,2,none⟩ v2)):=fun v0 v1 v2=>box2_set3 hx v0 v1 v2
     go_wp2_with fail
     refine bodyPost_ret (v:=.agg #[.int .i64 0,.int .i64 0,.int .i64 0]) (by simp[results,Tryz.results29,go_sem,r0,r1,r2]) rfl ⟨0,0,0,rfl,?_,BB.out _ _ _⟩
     exact .inr (.inr (.inr ⟨unhide PS,unhide NO6,rfl,rfl,rfl,unhide HALL⟩))
end Go.Proofs.YthmjjhfjkgaocaaGreatDoor
