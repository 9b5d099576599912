import Derived.Test.YthmjjhfjkgaocaaGreatDoorPart19
import Derived.Deep.LoopGhost
import Derived.Deep.CutRange
set_option linter.unusedSimpArgs false
set_option linter.unusedVariables false
set_option maxHeartbeats 16000000
set_option maxRecDepth 100000
namespace Go.Proofs.YthmjjhfjkgaocaaGreatDoor
open Go.RowKit
attribute [local go_sem] run_store_float
theorem Box2.drewN {w:World}{a:Option Addr}{n c:Nat}{wr:World}(h:Box2 w a n c wr)(k:Nat):Box2 w a n c (wr.drewN k):=⟨h.below.trans (below_drewN _ _ _)⟩
structure ShI (w:World)(a:Option Addr)(nl c D:Nat)(m:Nat→Nat)(wr:World):Prop where
 box:Box2 w a nl c wr
 row:wr.rowIs D 3 nl (fun j=>.int .i64 (m j:Nat))
 n0:w.heap.size+2≤D
section
variable {w:World} {a:Option Addr} {nl c D:Nat} {m m':Nat→Nat} {wr w2:World}
theorem ShI.below (h:ShI w a nl c D m wr)(hb:Below wr.heap.size wr w2):ShI w a nl c D m w2:=⟨h.box.below' hb,h.row.of_block (hb.block _ h.row.lt),h.n0⟩
theorem ShI.alloc (h:ShI w a nl c D m wr)(o:Obj):ShI w a nl c D m (wr.alloc o):=h.below ((Below.refl _ _).alloc (Nat.le_refl _) o)
theorem ShI.congr (h:ShI w a nl c D m wr)(hm:∀ i,i<nl→m' i=m i):ShI w a nl c D m' wr:=⟨h.box,h.row.congr fun i hi=>by rw[hm i hi],h.n0⟩
theorem ShI.set (h:ShI w a nl c D m wr)(j:Nat)(v:Int)(hm:∀ i,i<nl→(m' i:Int)=if i=j then v else(m i:Int)):ShI w a nl c D m' (wr.setCell ⟨D,j,none⟩ (.int .i64 v)) where
 box:=⟨h.box.below.setCell h.n0 _⟩
 row:=(h.row.set j _).congr fun i hi=>by
  rw[hm i hi]
  by_cases e:i=j
  ·rw[if_pos e,if_pos e]
  ·rw[if_neg e,if_neg e]
 n0:=h.n0
end
theorem Prot.setOther {W:World}{b D j:Nat}{nm:ByteArray}{ln pr:Int}{rs:Bool}{rg:Int}{s5 s6 s7 s8:Value}(h:Prot W b nm ln pr rs rg s5 s6 s7 s8)(hne:D≠b)(v:Value):Prot (W.setCell ⟨D,j,none⟩ v) b nm ln pr rs rg s5 s6 s7 s8:=by
 obtain⟨h0,h1,h2,h3,h4,h5,h6,h7,h8⟩:=h
 have e:∀ o,(W.setCell ⟨D,j,none⟩ v).cell? ⟨b,o,none⟩=W.cell? ⟨b,o,none⟩:=fun o=>by
  have hne':¬b=D:=fun h=>hne h.symm
  simp[go_sem,hne,hne']
 exact⟨(e 0).trans h0,(e 1).trans h1,(e 2).trans h2,(e 3).trans h3,(e 4).trans h4,(e 5).trans h5,(e 6).trans h6,(e 7).trans h7,(e 8).trans h8⟩
def FnsSaid (l:List ProtoD)(c f n:Int):Prop:=
 (c=6∧∃ F P:Nat,f=F∧n=P∧FirstC l (len6 l) (bad6 l) F P)∨(NoC l (len6 l) (bad6 l)∧c=0∧f=0∧n=0)
theorem checkFns_any (a:Option Addr)(l:List ProtoD)(c:Nat)(S:Nat→Prop)(w:World)(hs:ProtosAt w S a l)(hB:∀ b,S b→b<w.heap.size)(hl:tProtos l≤1048576)(heads:HeadsC l)(no5:NoC l (len5 l) (bad5 l)) :
  Calls Tryz.prog 76 #[.agg #[.slice a l.length c]] w fun e w'=>∃ x f n,e=.returned (.agg #[.int .i64 x,.int .i64 f,.int .i64 n])∧FnsSaid l x f n∧Below w.heap.size w w':=by
 have hn:=hs.1
 have hll:l.length≤1048576:=by unfold tProtos at hl;omega
 have HS:=hide hs
 have HB:=hide hB
 have HEADS:=hide heads
 have NO5:=hide no5
 have hmk:=run_make_row' (P:=Tryz.prog) 54 3 (.int .i64 0) 8 Tryz.underlying54 (by kernel_rfl) rfl .i64 .i64 l.length (by omega) hn
 have W0:Hid (ShI w a l.length c (w.heap.size+1+1) (fun _=>0) ((box2 w a l.length c).alloc (.cells (madeCells #[.int .i64 0] l.length) 3))):=
  ⟨(Box2.start w a l.length c).alloc _,by
   have h:=World.rowIs_made (box2 w a l.length c) (.int .i64 0) l.length 3
   rw[box2_size]at h
   exact h,by omega⟩
 clear hs hB hl heads no5
 go_enter Tryz.func76,Tryz.ntmps76
 go_wp2_with fail
 clear hmk
 go_loopg [15] l.length (fun g i wr=>∃(k:Nat),k+g=l.length∧i=.int .i64 k∧ShI w a l.length c (w.heap.size+1+1) (fun g=>(mkUptoC l k g).toNat) wr∧Hid (∀ f' p',f'<k→p'<len6 l f'→bad6 l f' p'=false))
 case atStart=>exact⟨0,by omega,rfl,unhide W0,fun _ _ h=>absurd h (Nat.not_lt_zero _)⟩
 case round=>
  clear W0
  obtain⟨f,hk,rfl,hW,hgood⟩:=hrel
  have u0:=hW.box.unit
  by_cases hlt:f<l.length
  ·have HRG:=hide (head_regs (unhide HEADS f hlt))
   have MKN:Hid (∀ p,(inD (prD l f) p).op≠11→∀ g,mkFnC (prD l f) (mkUptoC l f) (p+1) g=mkFnC (prD l f) (mkUptoC l f) p g):=fun p hp g=>by
    show(if _ then _ else _:Nat→Bool) g=_
    rw[if_neg hp]
   have MKS:Hid (∀ p,(inD (prD l f) p).op=11→∀ g:Nat,mkFnC (prD l f) (mkUptoC l f) (p+1) g=(mkFnC (prD l f) (mkUptoC l f) p g||decide ((inD (prD l f) p).fb=(g:Int)))):=fun p hp g=>by
    show(if _ then _ else _:Nat→Bool) g=_
    rw[if_pos hp]
   have E4:Hid (mkUptoC l (f+1)=mkFnC (prD l f) (mkUptoC l f) (prD l f).ins.length):=rfl
   have LEN:Hid (len6 l f=(prD l f).ins.length):=rfl
   have BAD:Hid (∀ p,bad6 l f p=((inD (prD l f) p).op==11&&(decide ((inD (prD l f) p).fb≤f)||mkFnC (prD l f) (mkUptoC l f) p (inD (prD l f) p).fb.toNat || !sUpsC (prD l f) (prD l (inD (prD l f) p).fb.toNat).ups))):=fun _=>rfl
   have FB:Hid (∀ p,p<(prD l f).ins.length→(inD (prD l f) p).op=11→0≤(inD (prD l f) p).fb∧(inD (prD l f) p).fb<l.length):=fun p h1 h2=>ins_fb (unhide NO5) hlt h1 h2
   have hW:ShI w a l.length c (w.heap.size+1+1) (fun g=>(mkFnC (prD l f) (mkUptoC l f) 0 g).toNat) wr:=hW
   obtain⟨b,off,rfl,hb,hcc⟩:=((unhide HS).keep hW.box.old (unhide HB)).2 (by omega)
   have N:ProtoCells wr S b (off+f * 9) (prD l f):=hcc f hlt
   clear hcc
   obtain⟨x,hxe⟩:∃ x,x=prD l f:=⟨_,rfl⟩
   rw[←hxe]at N BAD LEN FB E4 MKN MKS hW HRG
   clear hxe
   generalize mkFnC x (mkUptoC l f)=MK at *
   obtain⟨a5,c5,h5,H5⟩:=N.ups
   obtain⟨a6,c6,h6,H6⟩:=N.consts
   obtain⟨a7,c7,h7,H7⟩:=N.ins
   obtain⟨a8,c8,h8,H8⟩:=N.named
   have c0:=N.name;have c1:=N.line;have c2:=N.params;have c3:=N.rest;have c4:=N.regs
   have VV:=hide H7
   have hil:=H7.1
   have hul:=H5.1
   clear N H5 H6 H7 H8
   obtain⟨nm,ln,pr,rs,rg,us,cs,is,ns⟩:=x
   simp only at *
   obtain⟨UPS,hUPS⟩:∃ U:Nat→Bool,∀ g,sUpsC ⟨nm,ln,pr,rs,rg,us,cs,is,ns⟩ (prD l g).ups=U g:=⟨fun g=>sUpsC ⟨nm,ln,pr,rs,rg,us,cs,is,ns⟩ (prD l g).ups,fun _=>rfl⟩
   have CU:Hid (∀(W:World) (g:Nat),Below w.heap.size w W→g<l.length→∃ ag ng cg,W.cell? ⟨b,off+g * 9+5,none⟩=some (.slice ag ng cg)∧b<W.heap.size∧∀(W2:World) (ai:Option Addr),Below w.heap.size w W2→Calls Tryz.prog 110 #[.slice ag ng cg,.agg #[.string nm,.int .i64 ln,.int .i64 pr,.bool rs,.int .i64 rg,.slice a5 us.length c5,.slice a6 cs.length c6,.slice ai is.length c7,.slice a8 ns.length c8]] W2 fun e w'=>e=.returned (.bool (UPS g))∧Below W2.heap.size W2 w'):=fun W g hWb hg=>by
    obtain⟨b',off',he,hb',hcc⟩:=((unhide HS).keep hWb (unhide HB)).2 (by omega)
    obtain⟨rfl,rfl⟩:b'=b∧off'=off:=by injection he with h;injection h with h1 h2;exact⟨h1.symm,h2.symm⟩
    have NG:ProtoCells W S b' (off'+g * 9) (prD l g):=hcc g hg
    obtain⟨ag,cg,hgu,HG⟩:=NG.ups
    refine⟨ag,(prD l g).ups.length,cg,hgu,Nat.lt_of_lt_of_le (unhide HB b' hb') hWb.size,fun W2 ai hW2=>?_⟩
    rw[←hUPS g]
    have NG2:ProtoCells W2 S b' (off'+g * 9) (prD l g):=by
     obtain⟨b2,off2,he2,_,hcc2⟩:=((unhide HS).keep hW2 (unhide HB)).2 (by omega)
     obtain⟨rfl,rfl⟩:b2=b'∧off2=off':=by injection he2 with h;injection h with h1 h2;exact⟨h1.symm,h2.symm⟩
     exact hcc2 g hg
    obtain⟨ag2,cg2,hgu2,HG2⟩:=NG2.ups
    have e1:=hWb.cell (p:=⟨b',off'+g * 9+5,none⟩) (unhide HB b' hb')
    have e2:=hW2.cell (p:=⟨b',off'+g * 9+5,none⟩) (unhide HB b' hb')
    rw[hgu]at e1
    rw[hgu2,←e1]at e2
    obtain⟨rfl,_⟩:ag2=ag∧cg2=cg:=by simpa using e2
    exact upsStand_any ag2 (prD l g).ups cg nm ln pr rs rg us cs is ns a5 a6 ai a8 c5 c6 c7 c8 S W2 HG2 (fun b h=>Nat.lt_of_lt_of_le (unhide HB b h) hW2.size) hul (unhide HRG)
   simp only[hUPS]at BAD
   clear hUPS
   obtain⟨wo,rfl⟩:∃ wo,wo=wr:=⟨wr,rfl⟩
   have HW0:=hide (hW.alloc (.cells #[.string nm,.int .i64 ln,.int .i64 pr,.bool rs,.int .i64 rg,.slice a5 us.length c5,.slice a6 cs.length c6,.slice a7 is.length c7,.slice a8 ns.length c8] 53))
   have P0:Hid (∀ W,Below (wo.heap.size+1) (wo.alloc (.cells #[.string nm,.int .i64 ln,.int .i64 pr,.bool rs,.int .i64 rg,.slice a5 us.length c5,.slice a6 cs.length c6,.slice a7 is.length c7,.slice a8 ns.length c8] 53)) W→Prot W wo.heap.size nm ln pr rs rg (.slice a5 us.length c5) (.slice a6 cs.length c6) (.slice a7 is.length c7) (.slice a8 ns.length c8)):=fun W hW=>
    Prot.keep (by refine⟨?_,?_,?_,?_,?_,?_,?_,?_,?_⟩<;>simp[go_sem]) hW (by omega)
   have hwos:=hW.box.old.size
   have hbx:=hW.box.size
   have HD:=hide hW.row.lt
   have PC0:=hide (unhide P0 _ (Below.refl _ _))
   clear hW
   go_wp2_with fail
   clear h5 h6 h7 h8 c0 c1 c2 c3 c4 u0
   go_loopg [23] is.length (fun g i wr=>∃(k:Nat),k+g=is.length∧i=.int .i64 k∧ShI w (some ⟨b,off,none⟩) l.length c (w.heap.size+1+1) (fun g=>(MK k g).toNat) wr∧Below w.heap.size wo wr∧Hid (Prot wr wo.heap.size nm ln pr rs rg (.slice a5 us.length c5) (.slice a6 cs.length c6) (.slice a7 is.length c7) (.slice a8 ns.length c8)∧wo.heap.size<wr.heap.size)∧Hid (∀ q,q<k→bad6 l f q=false))
   case atStart=>exact⟨0,by omega,rfl,unhide HW0,(Below.refl _ _).alloc hwos _,⟨unhide PC0,by simp⟩,fun _ h=>absurd h (Nat.not_lt_zero _)⟩
   case round=>
    clear HW0 PC0
    obtain⟨q,hq,rfl,hW,hbo,hpc,hok⟩:=hrel
    obtain⟨PCW,hwlt⟩:=hpc.out
    have HPC:=hide PCW
    by_cases hql:q<is.length
    ·obtain⟨bi,offi,rfl,hbi,hci⟩:=((unhide VV).keep hbo (fun b h=>unhide HB b h)).2 (by omega)
     have M:=hci q hql
     clear hci
     have BQ:=unhide BAD q
     have NQ:=unhide MKN q
     have SQ:=unhide MKS q
     have FQ:=unhide FB q hql
     obtain⟨y,hye⟩:∃ y,y=is[q]?.getD InsD.z:=⟨_,rfl⟩
     have hyi:inD ⟨nm,ln,pr,rs,rg,us,cs,is,ns⟩ q=y:=by rw[hye];rfl
     rw[hyi]at BQ NQ SQ FQ
     rw[←hye]at M
     clear hye hyi
     have d0:=M.op;have d1:=M.fa;have d2:=M.fb;have d3:=M.fc;have d4:=M.fd
     clear M
     have HBQ:=hide BQ;have HNQ:=hide NQ;have HSQ:=hide SQ;have HFQ:=hide FQ
     clear BQ NQ SQ FQ
     obtain⟨yop,ya,yb,yc,yd⟩:=y
     simp only at *
     have hW1:=hW.alloc (.cells #[.int .i64 yop,.int .i64 ya,.int .i64 yb,.int .i64 yc,.int .i64 yd] 78)
     have HBO1:=hide (hbo.alloc (Nat.le_trans hwos hbo.size) (.cells #[.int .i64 yop,.int .i64 ya,.int .i64 yb,.int .i64 yc,.int .i64 yd] 78))
     have HPC1:Hid (Prot (wr.alloc (.cells #[.int .i64 yop,.int .i64 ya,.int .i64 yb,.int .i64 yc,.int .i64 yd] 78)) wo.heap.size nm ln pr rs rg (.slice a5 us.length c5) (.slice a6 cs.length c6) (.slice (some ⟨bi,offi,none⟩) is.length c7) (.slice a8 ns.length c8)):=(unhide HPC).keep (B:=wr.heap.size) ((Below.refl _ _).alloc (Nat.le_refl _) _) hwlt
     have HW1:=hide hW1
     have u0:=hW.box.unit
     have hsz:=hW.box.size
     have hcb:w.heap.size<wr.heap.size:=by omega
     have FIR:Hid (bad6 l f q=true→FnsSaid l 6 f q):=fun h=>.inl ⟨rfl,f,q,rfl,rfl,rows_first hlt (by rw[LEN.out];exact hql) h hgood.out hok.out⟩
     have NXT:Hid (bad6 l f q=false→∀ j,j<q+1→bad6 l f j=false):=fun h=>upto_next hok.out h
     by_cases hop:yop=11
     ·subst hop
      obtain⟨hf0,hf1⟩:=unhide HFQ rfl
      obtain⟨g,rfl⟩:=Int.eq_ofNat_of_zero_le hf0
      have hgl:g<l.length:=by omega
      have hBQ:bad6 l f q=(decide ((g:Int)≤f)||MK q g || !UPS g):=unhide HBQ
      have ck:=hW.row.cell (i:=g) hgl
      have zk:=hW.row.frozen g
      have hdl:=hW.row.lt
      obtain⟨ag,ng,cg,cgu,hbw,hcall⟩:=unhide CU wr g hW.box.old hgl
      have HCALL:=hide hcall
      clear hcall
      obtain⟨p0,p1,p2,p3,p4,p5,p6,p7,p8⟩:=unhide HPC
      by_cases hle:(g:Int)≤f
      ·have RR:Hid (FnsSaid l 6 f q):=unhide FIR (by rw[hBQ,decide_eq_true hle];rfl)
       have hleb:decide (g≤f)=true:=decide_eq_true (by omega)
       have hlen:g≤f:=by omega
       clear hBQ hW hW1 hbo FIR NXT
       go_wp2_with fail
       go_quiet (fail)
       generalize hw2:(wr.alloc (.cells #[.int .i64 11,.int .i64 ya,.int .i64 (g:Nat),.int .i64 yc,.int .i64 yd] 78)).drewN nq=w2 at *
       have hx2:Box2 w (some ⟨b,off,none⟩) l.length c w2:=by rw[←hw2];exact(unhide HW1).box.drewN nq
       clear hw2
       have r0:=hx2.res 0 (by omega);have r1:=hx2.res 1 (by omega);have r2:=hx2.res 2 (by omega)
       have z0:=hx2.frozen 0;have z1:=hx2.frozen 1;have z2:=hx2.frozen 2
       have BB:Hid (∀ v0 v1 v2,Below w.heap.size w (((w2.setCell ⟨w.heap.size+1,0,none⟩ v0).setCell ⟨w.heap.size+1,1,none⟩ v1).setCell ⟨w.heap.size+1,2,none⟩ v2)):=fun v0 v1 v2=>box2_set3 hx2 v0 v1 v2
       go_wp2_with fail
       exact bodyPost_ret (v:=.agg #[.int .i64 6,.int .i64 f,.int .i64 q]) (by simp[results,Tryz.results76,go_sem,r0,r1,r2]) rfl ⟨6,f,q,rfl,unhide RR,BB.out _ _ _⟩
      have hleb:decide (g≤f)=false:=decide_eq_false (by omega)
      have hlen:¬g≤f:=by omega
      cases hm:MK q g
      case true=>
       have RR:Hid (FnsSaid l 6 f q):=unhide FIR (by rw[hBQ,hm];simp)
       have ck2:wr.cell? ⟨w.heap.size+1+1,g,none⟩=some (.int .i64 1):=by rw[ck,hm];rfl
       clear ck hBQ hW hW1 hbo hm FIR NXT
       go_wp2_with fail
       go_quiet (fail)
       generalize hw2:(wr.alloc (.cells #[.int .i64 11,.int .i64 ya,.int .i64 (g:Nat),.int .i64 yc,.int .i64 yd] 78)).drewN nq=w2 at *
       have hx2:Box2 w (some ⟨b,off,none⟩) l.length c w2:=by rw[←hw2];exact(unhide HW1).box.drewN nq
       clear hw2
       have r0:=hx2.res 0 (by omega);have r1:=hx2.res 1 (by omega);have r2:=hx2.res 2 (by omega)
       have z0:=hx2.frozen 0;have z1:=hx2.frozen 1;have z2:=hx2.frozen 2
       have BB:Hid (∀ v0 v1 v2,Below w.heap.size w (((w2.setCell ⟨w.heap.size+1,0,none⟩ v0).setCell ⟨w.heap.size+1,1,none⟩ v1).setCell ⟨w.heap.size+1,2,none⟩ v2)):=fun v0 v1 v2=>box2_set3 hx2 v0 v1 v2
       go_wp2_with fail
       exact bodyPost_ret (v:=.agg #[.int .i64 6,.int .i64 f,.int .i64 q]) (by simp[results,Tryz.results76,go_sem,r0,r1,r2]) rfl ⟨6,f,q,rfl,unhide RR,BB.out _ _ _⟩
      have ck2:wr.cell? ⟨w.heap.size+1+1,g,none⟩=some (.int .i64 0):=by rw[ck,hm];rfl
      have CO:Hid (∀ W:World,Below wr.heap.size wr W→Calls Tryz.prog 110 #[.slice ag ng cg,.agg #[.string nm,.int .i64 ln,.int .i64 pr,.bool rs,.int .i64 rg,.slice a5 us.length c5,.slice a6 cs.length c6,.slice (some ⟨bi,offi,none⟩) is.length c7,.slice a8 ns.length c8]] W fun e w'=>e=.returned (.bool (UPS g))∧Below W.heap.size W w'):=fun W hWW=>unhide HCALL W _ (hW.box.old.trans (hWW.mono hW.box.old.size))
      have hA:∀ o,Below wr.heap.size wr (wr.alloc o):=fun o=>(Below.refl _ _).alloc (Nat.le_refl _) o
      cases hu:UPS g
      ·have RR:Hid (FnsSaid l 6 f q):=unhide FIR (by rw[hBQ,hu];simp)
       rw[hu]at CO
       clear ck hBQ hW hW1 hbo hm hu FIR NXT
       go_upto_region 9 with fail
       go_cut [54]from 24 to 65 (fun s wc=>s=.bool true∧Below (wr.alloc (.cells #[.int .i64 11,.int .i64 ya,.int .i64 (g:Nat),.int .i64 yc,.int .i64 yd] 78)).heap.size (wr.alloc (.cells #[.int .i64 11,.int .i64 ya,.int .i64 (g:Nat),.int .i64 yc,.int .i64 yd] 78)) wc)
       case first=>
        go_region_with (go_at_call 110;refine(unhide CO _ (by exact(hA _).trans ((Below.refl _ _).drew))).mono ?_;rintro e w2 ⟨rfl,hb2⟩)
        all_goals (go_wp2_with fail)
        all_goals go_meet
        all_goals (case rel=>exact⟨rfl,(Below.refl _ _).drew.trans hb2⟩)
       case rest=>
        obtain⟨rfl,hb2⟩:=hcut
        have hx2:=(unhide HW1).box.below' hb2
        have r0:=hx2.res 0 (by omega);have r1:=hx2.res 1 (by omega);have r2:=hx2.res 2 (by omega)
        have z0:=hx2.frozen 0;have z1:=hx2.frozen 1;have z2:=hx2.frozen 2
        have BB:Hid (∀ v0 v1 v2,Below w.heap.size w (((wc.setCell ⟨w.heap.size+1,0,none⟩ v0).setCell ⟨w.heap.size+1,1,none⟩ v1).setCell ⟨w.heap.size+1,2,none⟩ v2)):=fun v0 v1 v2=>box2_set3 hx2 v0 v1 v2
        go_wp2_with fail
        exact bodyPost_ret (v:=.agg #[.int .i64 6,.int .i64 f,.int .i64 q]) (by simp[results,Tryz.results76,go_sem,r0,r1,r2]) rfl ⟨6,f,q,rfl,unhide RR,BB.out _ _ _⟩
      ·have RR:Hid (∀ j,j<q+1→bad6 l f j=false):=unhide NXT (by rw[hBQ,hm,hu,decide_eq_false hle];rfl)
       have HMQ:Hid (MK q g=false):=hm
       rw[hu]at CO
       clear ck hBQ hW hW1 hbo hm hu FIR NXT
       go_upto_region 9 with fail
       go_cut [54]from 24 to 65 (fun s wc=>s=.bool false∧Below (wr.alloc (.cells #[.int .i64 11,.int .i64 ya,.int .i64 (g:Nat),.int .i64 yc,.int .i64 yd] 78)).heap.size (wr.alloc (.cells #[.int .i64 11,.int .i64 ya,.int .i64 (g:Nat),.int .i64 yc,.int .i64 yd] 78)) wc)
       case first=>
        go_region_with (go_at_call 110;refine(unhide CO _ (by exact(hA _).trans ((Below.refl _ _).drew))).mono ?_;rintro e w2 ⟨rfl,hb2⟩)
        all_goals (go_wp2_with fail)
        all_goals go_meet
        all_goals (case rel=>exact⟨rfl,(Below.refl _ _).drew.trans hb2⟩)
       case rest=>
        obtain⟨rfl,hb2'⟩:=hcut
        have hW3:=(unhide HW1).below hb2'
        have HBO3:=hide ((unhide HBO1).trans (hb2'.mono (by simp;omega)))
        have HPC3:=hide ((unhide HPC1).keep hb2' (by simp;omega))
        have hs3:wr.heap.size<wc.heap.size:=by have:=hb2'.size;simp at this;omega
        have i2:wc.cell? ⟨wr.heap.size,2,none⟩=some (.int .i64 (g:Int)):=by rw[hb2'.cell (p:=⟨wr.heap.size,2,none⟩) (by simp)];simp[go_sem]
        have ck3:wc.cell? ⟨w.heap.size+1+1,g,none⟩=some (.int .i64 0):=by have h:=hW3.row.cell (i:=g) hgl;rw[HMQ.out]at h;exact h
        have zk3:=hW3.row.frozen g
        have hD:=unhide HD
        have HW3:=hide hW3
        clear hb2' hW3 ck2 zk
        go_wp2_with fail
        go_roundg (is.length-(q+1))
        case measure=>omega
        case rel=>exact⟨q+1,by omega,by go_num,(unhide HW3).set g 1 (fun i hi=>by
          rw[unhide HSQ (by first | rfl | trivial) i]
          by_cases e:i=g
          ·subst e;rw[if_pos rfl,HMQ.out];simp
          ·rw[if_neg e,decide_eq_false (by omega)];simp),(unhide HBO3).setCell (show w.heap.size≤w.heap.size+1+1 by omega) _,⟨(unhide HPC3).setOther (show w.heap.size+1+1≠wo.heap.size by omega) _,by simp;omega⟩,RR⟩
     ·have hopb:(yop != 11)=true:=by simpa using hop
      have RR:Hid (∀ j,j<q+1→bad6 l f j=false):=unhide NXT (by rw[unhide HBQ,beq_eq_false_iff_ne.2 hop];rfl)
      have HWN:Hid (ShI w (some ⟨b,off,none⟩) l.length c (w.heap.size+1+1) (fun g=>(MK (q+1) g).toNat) (wr.alloc (.cells #[.int .i64 yop,.int .i64 ya,.int .i64 yb,.int .i64 yc,.int .i64 yd] 78))):=hW1.congr fun i _=>by rw[unhide HNQ hop i]
      clear hW hW1 hbo hop FIR NXT
      go_wp2_with fail
      go_roundg (is.length-(q+1))
      case measure=>omega
      case rel=>exact⟨q+1,by omega,by go_num,unhide HWN,unhide HBO1,⟨unhide HPC1,by simp;omega⟩,RR⟩
    ·have NXF:Hid (∀ f' p',f'<f+1→p'<len6 l f'→bad6 l f' p'=false):=rows_next (l:=l) hgood.out (fun p hp=>hok.out p (by rw[LEN.out]at hp;have hp:p<is.length:=hp;omega))
     have hqe:q=is.length:=by omega
     have HW2:Hid (ShI w (some ⟨b,off,none⟩) l.length c (w.heap.size+1+1) (fun g=>(mkUptoC l (f+1) g).toNat) wr):=by
      show ShI _ _ _ _ _ _ _
      rw[E4.out]
      show ShI _ _ _ _ _ (fun g=>(MK is.length g).toNat) _
      rw[←hqe];exact hW
     clear hW hbo hqe hpc HPC PCW
     go_wp2_with fail
     go_roundg (l.length-(f+1))
     case measure=>omega
     case rel=>exact⟨f+1,by omega,by go_num,unhide HW2,NXF⟩
  ·have NO:Hid (FnsSaid l 0 0 0):=.inr ⟨fun f' p' h1 h2=>hgood.out f' p' (by omega) h2,rfl,rfl,rfl⟩
   obtain⟨w2,rfl⟩:∃ w2,w2=wr:=⟨wr,rfl⟩
   have hx2:=hW.box
   clear hW hgood
   have r0:=hx2.res 0 (by omega);have r1:=hx2.res 1 (by omega);have r2:=hx2.res 2 (by omega)
   have z0:=hx2.frozen 0;have z1:=hx2.frozen 1;have z2:=hx2.frozen 2
   have BB:Hid (∀ v0 v1 v2,Below w.heap.size w (((w2.setCell ⟨w.heap.size+1,0,none⟩ v0).setCell ⟨w.heap.size+1,1,none⟩ v1).setCell ⟨w.heap.size+1,2,none⟩ v2)):=fun v0 v1 v2=>box2_set3 hx2 v0 v1 v2
   go_wp2_with fail
   exact bodyPost_ret (v:=.agg #[.int .i64 0,.int .i64 0,.int .i64 0]) (by simp[results,Tryz.results76,go_sem,r0,r1,r2]) rfl ⟨0,0,0,rfl,unhide NO,BB.out _ _ _⟩
end Go.Proofs.YthmjjhfjkgaocaaGreatDoor
